import PyProof.Rows.All
import Wide.All
import OpenK.AllK
import Wide.FinOn
import HandS.ForMost
import HandS.ForExc
import HandS.IsInst
import HandS.Codes
import HandS.Walk
import HandS.Star
import HandS.TryOnly
import HandS.FStr
import HandS.StrMore
import HandS.Zip
import HandS.NoneIn
import HandS.SetKeys
import HandS.More
import HandS.Deep
import KE.RegKIsAll
import HandS.ClsMeth
import HandS.Comp
import HandS.Dict
import HandS.DictComp
import HandS.EndTab
import HandS.Exc
import HandS.ExcValue
import HandS.Iter
import HandS.Lambda
import HandS.ListItems
import HandS.OwnEq
import HandS.Text
import HandS.TupLe
import HandS.WideBits
import HandS.Words
import KE.KItemsList
import KE.KLam
import KE.KNestM
import KE.SortKeyHeap
import PyProof.Draws
import PyProof.FString3
import PyProof.Rows.CallKw2
import PyProof.Rows.CallKwBuiltin
import PyProof.Rows.FactsFmt
import PyProof.Rows.StrIntSpec
import PyProof.StrLawsIn
import PyProof.EqAt
import PyProof.EqKinds
import PyProof.TupleCall
import PySem.Challenge.RW_quillrun_k08_components_in_order
set_option Elab.async false
set_option linter.all false
set_option maxRecDepth 100000
set_option maxHeartbeats 4000000
namespace HL
open PySem PySem.Spec PyProof.Rows L2 SX
/-! ## short words of my own, over the hand layer -/
theorem boot_isinstance : bootBuiltins "isinstance" = some (.builtin "isinstance") := by decide +kernel
theorem boot_bool : bootBuiltins "bool" = some (.type "bool") := by decide +kernel
theorem boot_int : bootBuiltins "int" = some (.type "int") := by decide +kernel
theorem boot_str : bootBuiltins "str" = some (.type "str") := by decide +kernel
theorem boot_tuple : bootBuiltins "tuple" = some (.type "tuple") := by decide +kernel
theorem boot_list : bootBuiltins "list" = some (.type "list") := by decide +kernel
theorem boot_dict : bootBuiltins "dict" = some (.type "dict") := by decide +kernel
/-- a def of the module: its body, its arguments, its name -/
structure DefN (K : PySem.W.Frag) (mg : Str → Option Value) (x : Str) (st : Stmt) (ps : List Str) (f : Addr) (fd : FuncData) : Prop where
  F : Fun K x x st f fd
  b : Binds K fd ps []
  g : mg x = some (.ref f)
theorem small (n : Nat) (h : n ≤ 1000000) : n ≤ sizeLine := Nat.le_trans h (by decide)
theorem same_upd {H : Hp} {p : Addr} {o : HO} (h : H p = none) : Same H (upd H p o) := fun b x e => by
  rw [upd_ne (ne_of_none e h)]
  exact e
theorem S_app (a b : List Nat) : (S a ++ S b : Str) = S (a ++ b) := S_cat a b
theorem sign_at {t : List Nat} {k : Nat} (h : k < t.length) : atI (S t).cps.toList (k : Int) = some (t.getD k 0) := by
  show atI t.toArray.toList (k : Int) = _
  refine atI_nat ?_
  simp [List.getD_eq_getElem?_getD, h]
theorem cutS_nat (t : List Nat) (a b : Nat) (h : a ≤ b) (h2 : b ≤ t.length) : cutS (S t) (some (a : Int)) (some (b : Int)) = S ((t.drop a).take (b - a)) := by
  unfold cutS
  rw [S_len, HT.sIx_nat, HT.sIx_nat]
  have e1 : min a t.length = a := by omega
  have e2 : min b t.length = b := by omega
  rw [e1, e2]
/-- ends beyond the end -/
theorem cutS_any (t : List Nat) (a b : Nat) : cutS (S t) (some (a : Int)) (some (b : Int)) = S ((t.drop a).take (b - a)) := by
  unfold cutS
  rw [S_len, HT.sIx_nat, HT.sIx_nat]
  congr 2
  show List.take _ (List.drop _ t) = _
  by_cases ha : a ≤ t.length
  · have e1 : min a t.length = a := by omega
    rw [e1]
    by_cases hb : b ≤ t.length
    · have e2 : min b t.length = b := by omega
      rw [e2]
    · have e2 : min b t.length = t.length := by omega
      rw [e2, List.take_of_length_le (by rw [List.length_drop]; omega), List.take_of_length_le (by rw [List.length_drop]; omega)]
  · have e1 : min a t.length = t.length := by omega
    rw [e1, List.drop_of_length_le (Nat.le_refl _), List.drop_of_length_le (show t.length ≤ a by omega)]
    simp
theorem joinL_nil : ∀ C : List (List Nat), TL.joinL [] C = C.flatten
  | [] => rfl
  | [c] => by simp [TL.joinL]
  | c :: d :: r => by
    show c ++ ([] ++ TL.joinL [] (d :: r)) = _
    rw [joinL_nil (d :: r)]
    simp
/-- a test whose answer is known -/
theorem iteNo {c A B : Prop} [Decidable c] (h : ¬ c) (hb : B) : if c then A else B := by
  rw [if_neg h]
  exact hb
theorem iteYes {c A B : Prop} [Decidable c] (h : c) (ha : A) : if c then A else B := by
  rw [if_pos h]
  exact ha
/-- a comprehension without a test -/
theorem lc_yes {te : TE} {σ : L2.St} {H : Hp} {R : VK} {B : Hp → Prop} (h : te σ H R) : tYes σ H (fun b H3 => if b = true then te σ H3 R else B H3) := by
  show (if true = true then te σ H R else B H)
  rw [if_pos rfl]
  exact h
/-- all but p is as it was -/
def But (H H' : Hp) (p : Addr) : Prop := ∀ b, b ≠ p → H' b = H b
theorem but_upd {H : Hp} {p : Addr} {o : HO} : But H (upd H p o) p := fun _ h => upd_ne h
theorem But.refl {H : Hp} {p : Addr} : But H H p := fun _ _ => rfl
theorem But.trans {H H1 H2 : Hp} {p : Addr} (a : But H H1 p) (b : But H1 H2 p) : But H H2 p := fun c h => (b c h).trans (a c h)
/-- all but p, and what is new, is as it was -/
def Kept (H H' : Hp) (p : Addr) : Prop := ∀ b o, b ≠ p → H b = some o → H' b = some o
theorem Kept.refl {H : Hp} {p : Addr} : Kept H H p := fun _ _ _ h => h
theorem Kept.trans {H H1 H2 : Hp} {p : Addr} (a : Kept H H1 p) (b : Kept H1 H2 p) : Kept H H2 p := fun c o n h => b c o n (a c o n h)
theorem But.kept {H H' : Hp} {p : Addr} (b : But H H' p) : Kept H H' p := fun c o n h => (b c n).trans h
theorem _root_.L2.Same.kept {H H' : Hp} (s : Same H H') (p : Addr) : Kept H H' p := fun c o _ h => s c o h
section
variable {X : Cx}
/-- a constant of the module: a text, a number -/
theorem pe_gstr {x z : Str} {pos : Pos} (hg : Gl X x) (hm : ∃ t, X.mg x = some (.str z t)) (hd : (x == ("__debug__" : Str)) = false := by decide) : PE X (.Name x pos) (tC (.str z)) := by
  obtain ⟨t, h⟩ := hm
  exact pe_glob hg h ⟨t, rfl⟩ hd
theorem pe_gint {x : Str} {i : Int} {pos : Pos} (hg : Gl X x) (hm : ∃ t, X.mg x = some (.int i t)) (hd : (x == ("__debug__" : Str)) = false := by decide) : PE X (.Name x pos) (tC (.int i)) := by
  obtain ⟨t, h⟩ := hm
  exact pe_glob hg h ⟨t, rfl⟩ hd
/-- within a comprehension -/
theorem ix_listK {K : PySem.W.Frag} (h : X.K = K) : IxR X (rIxL K) := by
  subst h
  exact ix_list
theorem ix_tupK {K : PySem.W.Frag} (h : X.K = K) : IxR X (rIxT K) := by
  subst h
  exact ix_tup
/-- o[i] of a list, for o[i] op= e -/
def rGetL (K : PySem.W.Frag) : V → V → Hp → VK → Prop := fun x y H Q => ∃ p xs i v, x = .ref p ∧ y = .int i ∧ SqL K H p xs ∧ 0 ≤ i ∧ atI xs i = some v ∧ Q v H
theorem pget_list : PGet X (rGetL X.K) := by
  intro pins s σ H x y v u Q I rx ry h
  obtain ⟨p, xs, i, z, rfl, rfl, hq, h0, he, q⟩ := h
  cases rx
  obtain ⟨t, rfl⟩ := ry
  obtain ⟨its, r, pl, hz⟩ := I.list hq
  obtain ⟨j, h1, h2, h3, h4, h5⟩ := atI_get he
  obtain ⟨w, ew, rw'⟩ := r.get h2
  have hl := r.length
  have hn := line63
  have hj : i.toNat = j := by
    rw [seqIndex_of h0 h5] at h1
    exact Option.some.inj h1
  exact wpAny_getItem_list pl.isList h0 (by omega) (by rw [hj]; simpa using ew) ⟨z, H, I, rw', q⟩
/-- isinstance(x, T), T a built-in class -/
def rIsB (K : PySem.W.Frag) : List V → Hp → VK → Prop := fun xs H Q => ∃ (x : V) (T n : String) (b : Bool), xs = [x, .ty n] ∧ TyX K H x (.type T) ∧ kitB T n = some b ∧ Q (.bl b) H
theorem call_isB : CallR X (.builtin "isinstance") (rIsB X.K) := by
  intro pins s σ H xs us Q I r h
  obtain ⟨x, T, n, b, rfl, ty, e, q⟩ := h
  exact call_isi pins s σ H _ us Q I r ⟨x, .ty n, .type T, .type n, b, rfl, .ty n, ty, kit_ty e, q⟩
/-- a text, n times -/
theorem rep_fold (z : Str) : ∀ n : Nat, ((List.replicate n z.cps).foldl (· ++ ·) (#[] : Array Nat)).toList = (List.replicate n z.cps.toList).flatten := by
  have h : ∀ (l : List (Array Nat)) (a : Array Nat), (l.foldl (· ++ ·) a).toList = a.toList ++ (l.map (·.toList)).flatten := by
    intro l
    induction l with
    | nil => intro a; simp
    | cons x l ih => intro a; rw [List.foldl_cons, ih]; simp
  intro n
  rw [h]
  simp
theorem op_mul_strR : OpR X (binaryOp .Mult) (fun x y H Q => ∃ (l : List Nat) (n : Nat), x = .str (S l) ∧ y = .int (n : Int) ∧ 2 ≤ n ∧ n ≤ 1000 ∧ 1 ≤ l.length ∧ l.length ≤ 1000 ∧ Q (.str (S (List.replicate n l).flatten)) H) := by
  intro pins s σ H x y v u Q I rx ry h
  obtain ⟨l, n, rfl, rfl, h2, h3, h4, h5, q⟩ := h
  obtain ⟨t, rfl⟩ := rx
  obtain ⟨t', rfl⟩ := ry
  have hl : (S l).length = l.length := S_len l
  have e1 : ((n : Int) == 1 || (S l).length == 0) = false := by
    rw [hl]
    have a1 : ((n : Int) == 1) = false := by simp; omega
    have a2 : (l.length == 0) = false := by simp; intro z; rw [z] at h4; simp at h4
    rw [a1, a2]; rfl
  have hsz : l.length * n ≤ 1000000 := Nat.le_trans (Nat.mul_le_mul h5 h3) (by decide)
  refine PySem.P.mul_str ?_ (fun _ _ => ?_) (fun _ _ => ?_) ?_
  · have b1 : decide ((n : Int) < -(2 ^ 63 : Int)) = false := decide_eq_false (by omega)
    have b2 : decide ((n : Int) ≥ 2 ^ 63) = false := decide_eq_false (by omega)
    rw [b1, b2]; rfl
  · rw [hl]
    have hp : (l.length : Int) * (n : Int) ≤ 1000000 := by
      have := Int.ofNat_le.mpr hsz
      rw [Int.natCast_mul] at this
      exact this
    have := Int.le_ediv_of_mul_le (show (0 : Int) < (n : Int) by omega) (show (l.length : Int) * (n : Int) ≤ 2 ^ 63 - 1 from Int.le_trans hp (by decide))
    omega
  · rw [hl]
    exact decide_eq_false (by rw [sizeLine_eq, Int.toNat_natCast]; omega)
  · rw [if_neg (by omega), if_neg (by rw [e1]; simp)]
    have ef : (⟨(List.replicate (n : Int).toNat (S l).cps).foldl (· ++ ·) #[]⟩ : Str) = S (List.replicate n l).flatten := by
      have : ((List.replicate (n : Int).toNat (S l).cps).foldl (· ++ ·) (#[] : Array Nat)) = ((List.replicate n l).flatten).toArray := by
        apply Array.ext'
        rw [rep_fold]
        simp
      rw [this]
    rw [ef]
    refine ⟨?_, .str _, H, I.tok _, ⟨_, rfl⟩, q⟩
    rw [S_len, sizeLine_eq]
    simp
    rw [Nat.mul_comm]
    omega
end
/-! ### data that are told the same: _law_same -/
/-- the type of a list or a tuple that is read -/
def IsSeq (K : PySem.W.Frag) (H : Hp) (t : String) (a : Addr) (xs : List V) : Prop := (t = "tuple" ∧ SqT K H a xs ∧ TyX K H (.ref a) (.type "tuple")) ∨ (t = "list" ∧ SqL K H a xs ∧ TyX K H (.ref a) (.type "list"))
theorem IsSeq.tup {K : PySem.W.Frag} {H : Hp} {a : Addr} {xs : List V} (h : H a = some (.tup xs)) : IsSeq K H "tuple" a xs := .inl ⟨rfl, SqT.of h, .base (.tup h)⟩
theorem IsSeq.lst {K : PySem.W.Frag} {H : Hp} {a : Addr} {xs : List V} (h : H a = some (.lst xs)) : IsSeq K H "list" a xs := .inr ⟨rfl, SqL.of h, .base (.lst h)⟩
/-- a number, a text, a truth, None -/
def Leaf : V → Prop
  | .int _ => True
  | .str _ => True
  | .bl _ => True
  | .non => True
  | _ => False
def SameD (K : PySem.W.Frag) (H : Hp) : Nat → V → V → Prop
  | 0, x, y => Leaf x ∧ x = y
  | n + 1, x, y => (Leaf x ∧ x = y) ∨ ∃ (t : String) (a b : Addr) (xs ys : List V), x = .ref a ∧ y = .ref b ∧ IsSeq K H t a xs ∧ IsSeq K H t b ys ∧ xs.length = ys.length ∧ ys.length ≤ 1000000 ∧
      ∀ (i : Nat) (u v : V), xs[i]? = some u → ys[i]? = some v → SameD K H n u v
theorem SameD.leaf {K : PySem.W.Frag} {H : Hp} {n : Nat} {x : V} (h : Leaf x) : SameD K H n x x := by
  cases n with
  | zero => exact ⟨h, rfl⟩
  | succ n => exact .inl ⟨h, rfl⟩
theorem SameD.seq {K : PySem.W.Frag} {H : Hp} {n : Nat} {t : String} {a b : Addr} {xs ys : List V} (h1 : IsSeq K H t a xs) (h2 : IsSeq K H t b ys) (hl : xs.length = ys.length) (hz : ys.length ≤ 1000000)
    (h : ∀ (i : Nat) (u v : V), xs[i]? = some u → ys[i]? = some v → SameD K H n u v) : SameD K H (n + 1) (.ref a) (.ref b) := .inr ⟨t, a, b, xs, ys, rfl, rfl, h1, h2, hl, hz, h⟩
/-- rows of leaves -/
theorem SameD.row {K : PySem.W.Frag} {H : Hp} {n : Nat} {a b : Addr} {xs : List V} (h1 : H a = some (.tup xs)) (h2 : H b = some (.tup xs)) (hz : xs.length ≤ 1000000) (h : ∀ x ∈ xs, Leaf x) : SameD K H (n + 1) (.ref a) (.ref b) :=
  .seq (.tup h1) (.tup h2) rfl hz fun i u v hu hv => by
    rw [hu] at hv
    cases hv
    exact .leaf (h u (List.mem_of_getElem? hu))
def spSame (K : PySem.W.Frag) (n : Nat) : Sp := fun vs H Q _ => ∃ x y : V, vs = [x, y] ∧ SameD K H n x y ∧ Q (.bl true) H
end HL
namespace HE
open PySem PySem.Spec PyProof.Rows L2 SX HL
/-! ## enumerate of a text, of a dict's keys -/
section
variable {prog : Program} {w : World} {A : Around} {E : Value → Shared → Prop} {s : Shared}
theorem keys_item {it d : Addr} {i n ep : Nat} {od : Obj} {es : Array DictEntry} {en : DictEntry} {Q : Value → Shared → Prop} (hit : s.heap.IsKeyIter it d i n ep) (hod : s.heap.get? d = some od) (hdd : od.data = .dict es ep) (hn : es.size = n) (hx : es[i]? = some en)
    (q : ∀ h', h'.IsKeyIter it d (i + 1) n ep → Heap.SameBut it s.heap h' → Q en.key { s with heap := h' }) : wpAny (model prog w) A (Builtin.SmallTypes.nextOf (.ref it)) Q E s := by
  obtain ⟨o, ho, oc, hd⟩ := id hit
  unfold Builtin.SmallTypes.nextOf
  refine wpAny_bind (wpAny_callSpecial?_slot (name := Str.ofString "__next__") hit.typeIs F.slot_dict_keyiterator_next (wpAny_call_entry F.slot_dict_keyiterator_next hit.typeIs F.entry_dict_keyiterator_next ?_ (F.args_dict_keyiterator_next_1 _)))
  refine wpAny_bind (wpAny_pure (wpAny_bind (wpAny_bind ?_)))
  first | refine wpAny_bind (wpAny_typeNameOfWhole_keyiter hit.typeIs (wpAny_pure (wpAny_bind (wpAny_fieldsOf ho hd ?_)))) | refine wpAny_bind (wpAny_typeNameOf_keyiter hit.typeIs (wpAny_pure (wpAny_bind (wpAny_fieldsOf ho hd ?_))))
  have own : Builtin.Dict_items.ownsTuple "dict_keyiterator" = false := by decide
  simp only [own, Bool.false_eq_true, if_false]
  show wpAny _ A.in1 (if (Value.ref d == Value.none) = true then _ else _) _ _ s
  rw [if_neg (show ¬ (Value.ref d == Value.none) = true from Bool.false_ne_true)]; refine wpAny_bind (wpAny_pure (wpAny_bind (wpAny_dictEntries hod hdd ?_)))
  rw [if_neg (by rw [hn]; simp)]; refine wpAny_bind (wpAny_pure (wpAny_bind (wpAny_dictEpoch hod hdd ?_)))
  rw [if_neg (by simp)]; refine wpAny_pure ?_
  obtain ⟨lt, he⟩ := Array.getElem?_eq_some_iff.mp hx
  simp only [show ¬ ((i : Int) < 0) from by omega, if_false, Int.toNat_natCast, Array.getElem?_eq_getElem lt]; refine wpAny_bind ?_
  first | refine wpAny_bind (wpAny_typeNameOfWhole_keyiter hit.typeIs (wpAny_pure (wpAny_bind (wpAny_isOneOf_keyiter hit.typeIs ?_)))) | refine wpAny_bind (wpAny_typeNameOf_keyiter hit.typeIs (wpAny_pure (wpAny_bind (wpAny_isOneOf_keyiter hit.typeIs ?_))))
  show wpAny _ _ (setField (.ref it) 1 (rawInt ((i : Int) + 1)) >>= _) _ _ s
  refine wpAny_bind (wpAny_setField ho hd (by simp) ?_)
  have it2 : (s.heap.update it (Obj.mapFields (·.setIfInBounds 1 (rawInt ((i : Int) + 1))))).IsKeyIter it d (i + 1) n ep := ⟨_, Heap.get?_update_self _ ho (Obj.isFreed_of_fields (Obj.data_mapFields hd _)), (Obj.cls_mapFields ..).trans oc, by rw [Obj.data_mapFields hd]; simp [rawInt]⟩
  refine wpAny_bind (wpAny_holding (wpAny_bind (wpAny_isOneOf_keyiter (s := { s with heap := s.heap.update it (Obj.mapFields (·.setIfInBounds 1 (rawInt ((i : Int) + 1)))) }) it2.typeIs ?_)))
  show wpAny _ A.in1 (pure es[i].key) _ _ _
  rw [he]; exact wpAny_pure (wpAny_pure ⟨_, rfl, wpAny_pure (q _ it2 (Heap.SameBut.update ..))⟩)
theorem keys_end {it d : Addr} {i n ep : Nat} {od : Obj} {es : Array DictEntry} {Q : Value → Shared → Prop} (hh : A.handled = none) (hit : s.heap.IsKeyIter it d i n ep) (hod : s.heap.get? d = some od) (hdd : od.data = .dict es ep) (hn : es.size = n) (hge : n ≤ i)
    (q : ∀ h' x, Heap.ExtBut it s.heap h' → (∃ o, h'.get? x = some o ∧ o.cls = .type "StopIteration") → E (.ref x) { s with heap := h' }) : wpAny (model prog w) A (Builtin.SmallTypes.nextOf (.ref it)) Q E s := by
  obtain ⟨o, ho, oc, hd⟩ := id hit
  unfold Builtin.SmallTypes.nextOf
  refine wpAny_bind (wpAny_callSpecial?_slot (name := Str.ofString "__next__") hit.typeIs F.slot_dict_keyiterator_next (wpAny_call_entry F.slot_dict_keyiterator_next hit.typeIs F.entry_dict_keyiterator_next ?_ (F.args_dict_keyiterator_next_1 _)))
  refine wpAny_bind (wpAny_pure (wpAny_bind (wpAny_bind ?_)))
  first | refine wpAny_bind (wpAny_typeNameOfWhole_keyiter hit.typeIs (wpAny_pure (wpAny_bind (wpAny_fieldsOf ho hd ?_)))) | refine wpAny_bind (wpAny_typeNameOf_keyiter hit.typeIs (wpAny_pure (wpAny_bind (wpAny_fieldsOf ho hd ?_))))
  have own : Builtin.Dict_items.ownsTuple "dict_keyiterator" = false := by decide
  simp only [own, Bool.false_eq_true, if_false]
  show wpAny _ A.in1 (if (Value.ref d == Value.none) = true then _ else _) _ _ s
  rw [if_neg (show ¬ (Value.ref d == Value.none) = true from Bool.false_ne_true)]; refine wpAny_bind (wpAny_pure (wpAny_bind (wpAny_dictEntries hod hdd ?_)))
  rw [if_neg (by rw [hn]; simp)]; refine wpAny_bind (wpAny_pure (wpAny_bind (wpAny_dictEpoch hod hdd ?_)))
  rw [if_neg (by simp)]; refine wpAny_pure ?_
  have ge : es.size ≤ i := by rw [hn]; exact hge
  simp only [show ¬ ((i : Int) < 0) from by omega, if_false, Int.toNat_natCast, Array.getElem?_eq_none ge]; refine wpAny_bind ?_
  first | refine wpAny_bind (wpAny_typeNameOfWhole_keyiter hit.typeIs (wpAny_pure ?_)) | refine wpAny_bind (wpAny_typeNameOf_keyiter hit.typeIs (wpAny_pure ?_))
  show wpAny _ A.in1 (setField (.ref it) 0 .none >>= _) _ _ s
  refine wpAny_bind (wpAny_setField ho hd (by simp) ?_)
  show wpAny _ A.in1 (newExc (.type "StopIteration") [] >>= _) _ _ _
  refine wpAny_bind ?_
  simp only [newExc, newTuple]; refine wpAny_bind (wpAny_newObj_type ?_ (by size_fits))
  refine wpAny_bind (m := firstArgMember _ _) (wpAny_of_eq (a := Value.none) (by first | rfl | (simp only [firstArgMember]; rfl)) (wpAny_newObj_type ?_ (by size_fits)))
  simp only [raiseNew]; refine wpAny_bind (wpAny_handled ?_)
  first | rw [show A.in1.handled = none from hh] | rw [hh]
  refine wpAny_bind (wpAny_pure (wpAny_throw ?_))
  exact q _ _ (((Heap.SameBut.update ..).extBut.push _).push _) ⟨_, Heap.get?_push_size _ rfl, rfl⟩
theorem draws_keys (hh : A.handled = none) (it d : Addr) (hne : d ≠ it) {od : Obj} {es : Array DictEntry} {ep : Nat} (hdd : od.data = .dict es ep) :
    Draws prog w A it [it, d] es.size (fun i v => ∃ en, es[i]? = some en ∧ v = en.key) (fun i h => h.IsKeyIter it d i es.size ep ∧ h.get? d = some od) where
  live := fun _ _ st => let ⟨o, ho, _⟩ := st.1; ⟨o, ho⟩
  frame := fun _ _ _ st k => ⟨st.1.at fun o e => k it (by simp) o e, k d (by simp) _ st.2⟩
  item := fun i s Q E hi st q => by
    refine keys_item st.1 st.2 hdd rfl (en := es[i]) (Array.getElem?_eq_getElem hi) fun h' it' sb => ?_
    exact q _ h' s.toks ⟨_, Array.getElem?_eq_getElem hi, rfl⟩ ⟨it', (sb.2 d hne).trans st.2⟩ sb
  done := fun s Q E st q => keys_end hh st.1 st.2 hdd rfl (Nat.le_refl _) q
end
open AutoSeq1 (wpAny_loadPart')
theorem meets_keys (d : Addr) (o : Obj) (es : Array DictEntry) (ep : Nat) (hd : (d == sysModules) = false) (hc : o.ExactDict) (hdat : o.data = .dict es ep) :
    Meets (Builtin.«enumerate.__new__» ⟨[.type "enumerate", .ref d], []⟩) (fun _ R s => s.heap.get? d = some o ∧
      R (.ok (.ret (.ref (s.heap.push { cls := .type "dict_keyiterator", data := .fields #[.ref d, .int 0 0, .int es.size 0, .int ep 0] }).objs.size)))
        { s with heap := (s.heap.push { cls := .type "dict_keyiterator", data := .fields #[.ref d, .int 0 0, .int es.size 0, .int ep 0] }).push { cls := .type "enumerate", data := .fields #[.none, .bool false, .ref s.heap.objs.size, rawInt 0, .none, .none] } }) :=
  .of_wp fun prog w A R s h => by
    obtain ⟨hp, g, dr, tk, os⟩ := s
    obtain ⟨ho, h⟩ := h
    have hsub := sub_enumerate
    have ik : ∀ {A : Around} {E : Value → Shared → Prop} {Q : Value → Shared → Prop}, Q (.ref hp.objs.size) ⟨hp.push { cls := .type "dict_keyiterator", data := .fields #[.ref d, .int 0 0, .int es.size 0, .int ep 0] }, g, dr, tk, os⟩ → wpAny (model prog w) A (pyIter (.ref d)) Q E ⟨hp, g, dr, tk, os⟩ := fun q => iter_keys (s := ⟨hp, g, dr, tk, os⟩) hd ho hc hdat q
    wp_walk using wpAny_loadPart' ho
    refine wpAny_stack_any fun st => wpAny_pure ?_
    split
    · rename_i c _ _ _ _ _
      cases (c == Value.type "enumerate") <;> (wp_walk using wpAny_loadPart' ho, ik; exact ⟨_, rfl, h⟩)
    · wp_walk using wpAny_loadPart' ho, ik
      exact ⟨_, rfl, h⟩
theorem call_enum_keys {prog : Program} {w : World} {A : Around} {E : Value → Shared → Prop} {s : Shared} {d : Addr} {o : Obj} {es : Array DictEntry} {ep : Nat} {Q : Value → Shared → Prop} (hd : (d == sysModules) = false) (ho : s.heap.get? d = some o) (hc : o.ExactDict) (hdat : o.data = .dict es ep)
    (q : ∀ h', IsEnum h' (s.heap.objs.size + 1) s.heap.objs.size 0 .none → h'.IsKeyIter s.heap.objs.size d 0 es.size ep → (∀ b x, s.heap.get? b = some x → h'.get? b = some x) → Q (.ref (s.heap.objs.size + 1)) { s with heap := h' }) :
    wpAny (model prog w) A (call (.type "enumerate") [.ref d]) Q E s := by
  refine callType_new F.called_enumerate (by decide) (F.typeCall_enumerate_1 _) (F.newCall_enumerate_1 _) (fun obj => F.args_object_init_2 obj _) F.entry_enumerate_new (meets_keys d o es ep hd hc hdat) ⟨ho, ?_⟩
  have hz : (s.heap.push { cls := .type "dict_keyiterator", data := .fields #[.ref d, .int 0 0, .int es.size 0, .int ep 0] }).objs.size = s.heap.objs.size + 1 := Heap.size_push ..
  show _ ∧ _
  rw [hz]
  have he : IsEnum ((s.heap.push { cls := .type "dict_keyiterator", data := .fields #[.ref d, .int 0 0, .int es.size 0, .int ep 0] }).push { cls := .type "enumerate", data := .fields #[.none, .bool false, .ref s.heap.objs.size, rawInt 0, .none, .none] }) (s.heap.objs.size + 1) s.heap.objs.size 0 .none := by
    have := Heap.get?_push_size (s.heap.push { cls := .type "dict_keyiterator", data := .fields #[.ref d, .int 0 0, .int es.size 0, .int ep 0] }) (o := { cls := .type "enumerate", data := .fields #[.none, .bool false, .ref s.heap.objs.size, rawInt 0, .none, .none] }) rfl
    rwa [hz] at this
  exact ⟨⟨_, he, rfl⟩, q _ he ⟨_, Heap.get?_push_of_some _ (Heap.get?_push_size _ rfl), rfl, rfl⟩ fun b x e => Heap.get?_push_of_some _ (Heap.get?_push_of_some _ e)⟩
/-- (0, key), (1, key), ..: the locked dict at d -/
def Itek (d : Addr) (o : Obj) (kvs : List (Key × V)) : It :=
  ⟨fun i H => H d = some (.frz o (.dK kvs)) ∧ i < kvs.length, fun i H v H' => ∃ T k x, kvs[i]? = some (k, x) ∧ v = .ref T ∧ H T = none ∧ H' = upd H T (.tup [.int (i : Nat), kV k]), fun i H => H d = some (.frz o (.dK kvs)) ∧ kvs.length ≤ i⟩
theorem turn_enumK {P : Program} {w : World} {K : PySem.W.Frag} {elts : List Expr} {kk : Nat} {tpos : Pos} {d : Addr} {o : Obj} {kvs : List (Key × V)} {es : Array DictEntry} {ep : Nat} (e it : Addr) (hod : o.data = .dict es ep) :
    Turn P w K (.Tuple elts kk tpos) (Itek d o kvs) [e, it] e (fun i h => (∃ old, IsEnum h e it ((i : Nat) : Int) old) ∧ h.IsKeyIter it d i kvs.length ep ∧ e ≠ it ∧ i ≤ kvs.length) where
  mem := by simp
  obj := fun i h st b hb => by
    obtain ⟨⟨old, he⟩, ⟨o', ho, hc, hd⟩, _⟩ := st
    rcases (show b = e ∨ b = it by simpa using hb) with z | z
    · rw [z]; exact ⟨_, he, fun v q => nomatch q⟩
    · rw [z]; exact ⟨o', ho, fun v q => by rw [hd] at q; cases q⟩
  keep := fun i h h' st k => let ⟨⟨old, he⟩, hi, hne, hle⟩ := st; ⟨⟨old, k e (by simp) _ he⟩, hi.at fun o q => k it (by simp) o q, hne, hle⟩
  item := by
    intro X hP hw hK hc i pins s σ H E I hf st hg
    subst hP hw hK
    obtain ⟨⟨old, he⟩, hit, hne, hle⟩ := st
    obtain ⟨hd, hi⟩ := hg
    obtain ⟨hs, hgd, hx, es', ep', vs, hdt, hsz, kv, hm⟩ := I.frzK hd
    obtain ⟨rfl, rfl⟩ := dict_ep hod hdt
    have hel : e < s.heap.objs.size := Heap.lt_size he
    have hil : it < s.heap.objs.size := by obtain ⟨_, q, _⟩ := hit; exact Heap.lt_size q
    have nd : ∀ b, FpOk X pins H b → d ≠ b := fun b hb z => by rw [← z] at hb; have := hb.1; rw [hd] at this; cases this
    have ndi := nd it (hf it (by simp))
    have nde := nd e (hf e (by simp))
    obtain ⟨⟨k, v⟩, hkv⟩ : ∃ p, kvs[i]? = some p := ⟨kvs[i], List.getElem?_eq_getElem hi⟩
    have D := draws_keys (prog := X.prog) (w := X.w) (A := X.A.in1) (I.ok.hd hc) it d ndi hdt
    rw [← hsz] at hit hi
    refine wpAny_pyNext_enum_itemD D he ⟨hit, hgd⟩ hi hne (by simp [hne, nde.symm]) fun x h' tk hP ho st' hT hsz' hk => ?_
    obtain ⟨en, hen, rfl⟩ := hP
    refine ⟨_, rfl, wpAny_letOwnedTupleGo_enum (s := { s with heap := h', toks := tk + 1 }) ho fun h'' he' sb => ?_⟩
    have hT2 : h''.get? s.heap.objs.size = some { cls := .type "tuple", data := .seq #[.int i tk, en.key] } := (sb.2 _ (Nat.ne_of_gt hel)).trans hT
    have rk : RelV (kV k) en.key := by
      obtain ⟨u, hu, _⟩ := kv_get kv hkv
      obtain ⟨od, es2, hod2, hcd, hdd, hks, hp, hnn⟩ := id hm
      rw [hgd] at hod2
      cases hod2
      rw [hdt] at hdd
      cases hdd
      exact relV_key (hp.get? (by simpa using hen) hu).1
    have new : ObjOk X.prog X.w (upd H s.heap.objs.size (.tup [.int (i : Nat), kV k])) h'' s.heap.objs.size (.tup [.int (i : Nat), kV k]) :=
      ⟨by show 2 ≤ sizeLine; decide, [.int i tk, en.key], .cons ⟨_, rfl⟩ (.cons rk .nil), ⟨_, hT2, rfl, _, rfl⟩⟩
    have I1 : Inv X pins σ (upd H s.heap.objs.size (.tup [.int (i : Nat), kV k])) { s with heap := h'', toks := tk + 1 } :=
      I.turnedNew (ch := [e, it]) (fun b ob hb q => (sb.2 b (fun z => hb (by simp [z]))).trans (hk b ob (fun z => hb (by simp [z])) (fun z => hb (by simp [z])) q)) hf (Nat.le_refl _) new
    refine ⟨.ref s.heap.objs.size, _, I1, rfl, ⟨_, k, v, hkv, rfl, I.hok.fresh (Nat.le_refl _), rfl⟩, ⟨⟨en.key, ?_⟩, ?_, hne, by omega⟩, fun b hb => ?_⟩
    · have e1 : ((i + 1 : Nat) : Int) = (i : Int) + 1 := by omega
      rw [e1]; exact he'
    · rw [← hsz]
      exact st'.1.at fun o q => (sb.2 it (Ne.symm hne)).trans q
    · have hb' : b < s.heap.objs.size := by
        rcases (show b = e ∨ b = it by simpa using hb) with z | z
        · rw [z]; exact hel
        · rw [z]; exact hil
      rw [upd_ne (Nat.ne_of_lt hb')]
      exact (hf b hb).1
  done := by
    intro X hP hw hK hc i pins s σ H E I hf st hg
    subst hP hw hK
    obtain ⟨⟨old, he⟩, hit, hne, hle⟩ := st
    obtain ⟨hd, hi⟩ := hg
    obtain ⟨hs, hgd, hx, es', ep', vs, hdt, hsz, kv, hm⟩ := I.frzK hd
    obtain ⟨rfl, rfl⟩ := dict_ep hod hdt
    obtain ⟨f0, f1, f2, f3, f4, f5⟩ := hf it (by simp)
    have nd : d ≠ it := fun z => by rw [← z, hd] at f0; cases f0
    have nde : d ≠ e := fun z => by have := (hf e (by simp)).1; rw [← z, hd] at this; cases this
    have ei : i = es'.size := by omega
    have D := draws_keys (prog := X.prog) (w := X.w) (A := X.A.in1) (I.ok.hd hc) it d nd hdt
    rw [← hsz, ei] at hit
    rw [ei] at he
    exact wpAny_pyNext_enum_endD D he ⟨hit, hgd⟩ fun h' eb => ⟨rfl, I.turned (t' := s.toks) (fun b o hb q => eb b o hb q) f0 f1 f3 f4 f5⟩
  self := fun A i s Q E st h => let ⟨⟨_, he⟩, _⟩ := st; wpAny_pyIter_enum he h
def iEnumK (ta : TA) : TI := fun σ H R => ta σ H fun vs H1 => ∃ d o kvs, vs = [.ref d] ∧ H1 d = some (.frz o (.dK kvs)) ∧ R (Itek d o kvs) H1
/-- for i, k in enumerate(d), d locked -/
theorem pi_enumK {X : Cx} {e : Expr} {ta : TA} {p pos tpos : Pos} {elts : List Expr} {kk : Nat} (hg : Gl X "enumerate") (hm : X.mg "enumerate" = none) (ha : PA X [e] ta) (hs : starEach [e] X.env = [(false, eval e X.env)] := by rfl) :
    PI X (.Tuple elts kk tpos) (.Call (.Name "enumerate" p) [e] [] pos) (iEnumK ta) := by
  refine ⟨fun pins s σ H R I h => Call_ (ld_blt I hg hm boot_enumerate (PyProof.Rows.callWith_type1 (thn (ha.run pos pins s σ H _ I h) fun us s1 ⟨vs, H1, I1, r1, q1⟩ => ?_) hs rfl))⟩
  obtain ⟨d, o, kvs, ex, hd, q⟩ := q1
  subst ex
  cases r1 with
  | cons r rr =>
    cases rr
    cases r
    obtain ⟨hsm, hgd, hx, es, ep, vs, hdt, hsz, kv, hmm⟩ := I1.frzK hd
    refine call_enum_keys hsm hgd hx hdt fun h' he hit hk => wpAny_pyIter_enum he ?_
    have I2 : Inv X pins σ H1 { s1 with heap := h' } := I1.kept (t' := s1.toks) hk
    rw [hsz] at hit
    refine ⟨s1.heap.objs.size + 1, [s1.heap.objs.size + 1, s1.heap.objs.size], _, _, H1, rfl, I2, turn_enumK (s1.heap.objs.size + 1) s1.heap.objs.size hdt, ⟨⟨.none, he⟩, hit, Nat.succ_ne_self _, Nat.zero_le _⟩, fun b hb => ?_, q⟩
    have hle : s1.heap.objs.size ≤ b := by
      rcases (show b = s1.heap.objs.size + 1 ∨ b = s1.heap.objs.size by simpa using hb) with z | z
      · rw [z]; exact Nat.le_add_right _ _
      · rw [z]; exact Nat.le_refl _
    exact I1.fpOk hle (I1.hok.fresh hle)
/-- (0, sign), (1, sign), ..: a text -/
def Ites (z : Str) : It :=
  ⟨fun i _ => i < z.cps.size, fun i H v H' => ∃ T c, z.cps[i]? = some c ∧ v = .ref T ∧ H T = none ∧ H' = upd H T (.tup [.int (i : Nat), .str ⟨#[c]⟩]), fun i _ => z.cps.size ≤ i⟩
theorem draws_str {prog : Program} {w : World} {A : Around} (hh : A.handled = none) (it : Addr) (x : Str) (t : Tok) : Draws prog w A it [it] x.cps.size (fun i v => ∃ c u, x.cps[i]? = some c ∧ v = .str ⟨#[c]⟩ u) (fun i h => h.IsStrIter it (strIterType x) x t i) := by
  unfold strIterType
  split
  · exact Draws.strAscii hh it x t
  · exact Draws.strWide hh it x t
theorem turn_enumS {P : Program} {w : World} {K : PySem.W.Frag} {elts : List Expr} {kk : Nat} {tpos : Pos} {z : Str} {t : Tok} (e it : Addr) :
    Turn P w K (.Tuple elts kk tpos) (Ites z) [e, it] e (fun i h => (∃ old, IsEnum h e it ((i : Nat) : Int) old) ∧ h.IsStrIter it (strIterType z) z t i ∧ e ≠ it ∧ i ≤ z.cps.size) where
  mem := by simp
  obj := fun i h st b hb => by
    obtain ⟨⟨old, he⟩, ⟨o', ho, hc, hd⟩, _⟩ := st
    rcases (show b = e ∨ b = it by simpa using hb) with y | y
    · rw [y]; exact ⟨_, he, fun v q => nomatch q⟩
    · rw [y]; exact ⟨o', ho, fun v q => by rw [hd] at q; cases q⟩
  keep := fun i h h' st k => let ⟨⟨old, he⟩, ⟨o, ho, r⟩, hne, hle⟩ := st; ⟨⟨old, k e (by simp) _ he⟩, ⟨o, k it (by simp) o ho, r⟩, hne, hle⟩
  item := by
    intro X hP hw hK hc i pins s σ H E I hf st hi
    subst hP hw hK
    obtain ⟨⟨old, he⟩, hit, hne, hle⟩ := st
    have hel : e < s.heap.objs.size := Heap.lt_size he
    have hil : it < s.heap.objs.size := by obtain ⟨_, q, _⟩ := hit; exact Heap.lt_size q
    have D := draws_str (prog := X.prog) (w := X.w) (A := X.A.in1) (I.ok.hd hc) it z t
    refine wpAny_pyNext_enum_itemD D he hit hi hne (by simp [hne]) fun x h' tk hP ho st' hT hsz' hk => ?_
    obtain ⟨c, u, hcu, rfl⟩ := hP
    refine ⟨_, rfl, wpAny_letOwnedTupleGo_enum (s := { s with heap := h', toks := tk + 1 }) ho fun h'' he' sb => ?_⟩
    have hT2 : h''.get? s.heap.objs.size = some { cls := .type "tuple", data := .seq #[.int i tk, .str ⟨#[c]⟩ u] } := (sb.2 _ (Nat.ne_of_gt hel)).trans hT
    have new : ObjOk X.prog X.w (upd H s.heap.objs.size (.tup [.int (i : Nat), .str ⟨#[c]⟩])) h'' s.heap.objs.size (.tup [.int (i : Nat), .str ⟨#[c]⟩]) :=
      ⟨by show 2 ≤ sizeLine; decide, [.int i tk, .str ⟨#[c]⟩ u], .cons ⟨_, rfl⟩ (.cons ⟨_, rfl⟩ .nil), ⟨_, hT2, rfl, _, rfl⟩⟩
    have I1 : Inv X pins σ (upd H s.heap.objs.size (.tup [.int (i : Nat), .str ⟨#[c]⟩])) { s with heap := h'', toks := tk + 1 } :=
      I.turnedNew (ch := [e, it]) (fun b ob hb q => (sb.2 b (fun z => hb (by simp [z]))).trans (hk b ob (fun z => hb (by simp [z])) (fun z => hb (by simp [z])) q)) hf (Nat.le_refl _) new
    have hi' : i < z.cps.size := hi
    refine ⟨.ref s.heap.objs.size, _, I1, rfl, ⟨_, c, hcu, rfl, I.hok.fresh (Nat.le_refl _), rfl⟩, ⟨⟨.str ⟨#[c]⟩ u, ?_⟩, ?_, hne, by omega⟩, fun b hb => ?_⟩
    · have e1 : ((i + 1 : Nat) : Int) = (i : Int) + 1 := by omega
      rw [e1]; exact he'
    · obtain ⟨o, ho', r⟩ := st'
      exact ⟨o, (sb.2 it (Ne.symm hne)).trans ho', r⟩
    · have hb' : b < s.heap.objs.size := by
        rcases (show b = e ∨ b = it by simpa using hb) with y | y
        · rw [y]; exact hel
        · rw [y]; exact hil
      rw [upd_ne (Nat.ne_of_lt hb')]
      exact (hf b hb).1
  done := by
    intro X hP hw hK hc i pins s σ H E I hf st hi
    subst hP hw hK
    obtain ⟨⟨old, he⟩, hit, hne, hle⟩ := st
    obtain ⟨f0, f1, f2, f3, f4, f5⟩ := hf it (by simp)
    have hi' : z.cps.size ≤ i := hi
    have ei : i = z.cps.size := by omega
    have D := draws_str (prog := X.prog) (w := X.w) (A := X.A.in1) (I.ok.hd hc) it z t
    rw [ei] at hit he
    exact wpAny_pyNext_enum_endD D he hit fun h' eb => ⟨rfl, I.turned (t' := s.toks) (fun b o hb q => eb b o hb q) f0 f1 f3 f4 f5⟩
  self := fun A i s Q E st h => let ⟨⟨_, he⟩, _⟩ := st; wpAny_pyIter_enum he h
def iEnumS (ta : TA) : TI := fun σ H R => ta σ H fun vs H1 => ∃ z, vs = [.str z] ∧ R (Ites z) H1
/-- for i, c in enumerate(text) -/
theorem pi_enumS {X : Cx} {e : Expr} {ta : TA} {p pos tpos : Pos} {elts : List Expr} {kk : Nat} (hg : Gl X "enumerate") (hm : X.mg "enumerate" = none) (ha : PA X [e] ta) (hs : starEach [e] X.env = [(false, eval e X.env)] := by rfl) :
    PI X (.Tuple elts kk tpos) (.Call (.Name "enumerate" p) [e] [] pos) (iEnumS ta) := by
  refine ⟨fun pins s σ H R I h => Call_ (ld_blt I hg hm boot_enumerate (PyProof.Rows.callWith_type1 (thn (ha.run pos pins s σ H _ I h) fun us s1 ⟨vs, H1, I1, r1, q1⟩ => ?_) hs rfl))⟩
  obtain ⟨z, ex, q⟩ := q1
  subst ex
  cases r1 with
  | cons r rr =>
    cases rr
    obtain ⟨t, rfl⟩ := r
    refine call_enumerate_str fun h' he hit hsz hk => wpAny_pyIter_enum he ?_
    have I2 : Inv X pins σ H1 { s1 with heap := h' } := I1.kept (t' := s1.toks) hk
    refine ⟨s1.heap.objs.size + 1, [s1.heap.objs.size + 1, s1.heap.objs.size], _, _, H1, rfl, I2, turn_enumS (s1.heap.objs.size + 1) s1.heap.objs.size, ⟨⟨.none, he⟩, hit, Nat.succ_ne_self _, Nat.zero_le _⟩, fun b hb => ?_, q⟩
    have hle : s1.heap.objs.size ≤ b := by
      rcases (show b = s1.heap.objs.size + 1 ∨ b = s1.heap.objs.size by simpa using hb) with y | y
      · rw [y]; exact Nat.le_add_right _ _
      · rw [y]; exact Nat.le_refl _
    exact I1.fpOk hle (I1.hok.fresh hle)
/-! ## name = {k: v for ..} on one line, the name a local -/
section
variable {X : Cx}
theorem ps_setDc {i : Nat} {y : Str} {py : Pos} {kx vx tg iter : Expr} {ifs : List Expr} {scope : Scope} {own : List (Str × Nat)} {pos spos : Pos} {wi : TI} {g : TG} {tt : TT} {tk tv : TE} (hc : X.calm = true) (hN : X.N.Nodup) (hy : X.N[i]? = some y) (hyl : X.env.scope.names.lookup y = some .local)
    (hsw : swapsWith (.DictComp kx vx [⟨tg, iter, ifs, 0⟩] scope pos) (some (.Name y py)) spos.line X.env = pure true) (hi : PI X tg iter wi) (ok : BlkOk X.N X.env.scope scope own)
    (hg : ∀ (s : Shared) (H : Hp) (C : Addr) (cl : List (Str × Addr)) (fp : List Addr), PG (X.blk s H scope (compEnvC scope cl C X.env) fp) tg g) (ht : ∀ (s : Shared) (H : Hp) (C : Addr) (cl : List (Str × Addr)) (fp : List Addr), PTs (X.blk s H scope (compEnvC scope cl C X.env) fp) ifs tt)
    (hk : ∀ (s : Shared) (H : Hp) (C : Addr) (cl : List (Str × Addr)) (fp : List Addr), PE (X.blk s H scope (compEnvC scope cl C X.env) fp) kx tk)
    (he : ∀ (s : Shared) (H : Hp) (C : Addr) (cl : List (Str × Addr)) (fp : List Addr), PE (X.blk s H scope (compEnvC scope cl C X.env) fp) vx tv) (hs : ∀ x, foldedSetIterable iter X.env x = pure x := by intro _; rfl) :
    PS X (.Assign [.Name y py] (.DictComp kx vx [⟨tg, iter, ifs, 0⟩] scope pos) spos) (tAsg (tDc wi g tt tk tv (own.map (·.2))) (gName i)) := by
  refine ⟨fun pins s σ H D I h => ?_⟩
  rw [exec_Assign_Name_used _ _ _ _ hsw]
  refine wpAny_bind (wpAny_standAt (wpAny_bind ?_))
  show wpAny _ X.A (do let _ ← comprehension (.DictComp kx vx [⟨tg, iter, ifs, 0⟩] scope pos) scope X.env (firstIterPos [⟨tg, iter, ifs, 0⟩] pos) newDict false (eval iter X.env) (some (assign (.Name y py) X.env))) _ _ s
  have h : tDc wi g tt tk tv (own.map (·.2)) σ H (fun x H1 => gName i x σ H1 D.nx) := h
  refine wpAny_bind (thn (dc_core (Qf := fun _ s' => SP X pins D .next s') hc hN I hi ok hg ht hk he hs h fun L C s' m H' I' q hn f => ?_) fun _ s' hq => wpAny_pure (wpAny_pure hq))
  show wpAny _ _ (assign (.Name y py) X.env (.ref L)) _ _ _
  refine wpAny_assign_Name (store_ok2 (v := V.ref L) I' hN hy (.inl hyl) rfl (fun s2 I2 ⟨a, sb, ha⟩ => ?_) (.inr hyl))
  obtain ⟨f0, f1, f2, f3, f4, f5⟩ := f
  have haC : C ≠ a := by
    rcases ha with z | z
    · rw [z]; exact f1
    · exact fun e => f4 y a z e.symm
  refine ⟨m, hn.sameBut sb haC, fun h3 sb3 => ?_⟩
  exact ⟨_, H', I2.turned (t' := s2.toks) (fun b o hb e => (sb3.2 b hb).trans e) f0 f1 f3 f4 f5, q⟩
theorem swd_true {kx vx : Expr} {gs : List Comprehension} {scope : Scope} {pos py : Pos} {y : Str} {l : Nat} {env : Env} (hk : env.scope.kind = .function) (hy : env.scope.names.lookup y = some .local) (hl : (py.line == pos.line) = true)
    (ha : (scope.names.any fun (n, k) => n == y && (k == .local || k == .cell)) = false) : swapsWith (.DictComp kx vx gs scope pos) (some (.Name y py)) l env = pure true := by
  have ky : env.kindOf y = some .local := hy
  have hb : env.blockKind = .function := by unfold Env.blockKind; rw [hk]; rfl
  unfold swapsWith
  simp only [hb, ky, ha, Expr.pos, hl]
  rfl
end
section
theorem walk_enumK {d : Addr} {o : Obj} {kvs : List (Key × V)} : Walk (Itek d o kvs) kvs.length (fun H => H d = some (.frz o (.dK kvs))) (YPair (fun i => some (.int (i : Nat))) (fun i => kvs[i]?.map fun kv => kV kv.1)) := by
  refine ⟨fun _ _ hi q => ⟨q, hi⟩, fun _ q => ⟨q, Nat.le_refl _⟩, fun i H x H' _ _ y => ?_⟩
  obtain ⟨T, k, v, h1, h2, h3, h4⟩ := y
  exact ⟨T, .int (i : Nat), kV k, h2, h3, h4, rfl, by simp [h1]⟩
variable {J : It} {n : Nat} {G : Hp → Prop} {Y : Nat → Hp → V → Hp → Prop}
/-- a dict comprehension over it -/
theorem dc_it (w : Walk J n G Y) {g : TG} {tt : TT} {tk tv : TE} {vs : List Nat} {σ : L2.St} {H1 : Hp} {D : Addr} {Qd : Hp → Prop} (Pv : Nat → Hp → Prop) (h0 : Pv 0 (upd H1 D (.dK []))) (hG : ∀ i H, i ≤ n → Pv i H → G H)
    (hs : ∀ i x H H', i < n → Pv i H → Y i H x H' → g x (wipe σ vs) H' fun σ2 H2 => wipe σ2 vs = wipe σ vs ∧ tt σ2 H2 fun b H3 =>
      if b = true then tk σ2 H3 fun y H4 => tv σ2 H4 fun z H5 => ∃ kvs k, y = kV k ∧ H5 D = some (.dK kvs) ∧ kvs.length < sizeLine ∧ Pv (i + 1) (upd H5 D (.dK (putK kvs k z))) else Pv (i + 1) H3) (hd : ∀ H, Pv n H → Qd H) :
    ∃ W : Nat → Nat → Hp → Prop, (∃ m, W 0 m (upd H1 D (.dK []))) ∧ ∀ i m H, W i m H →
      (J.stop i H ∧ Qd H) ∨ (J.go i H ∧ ∃ Nx : Hp → Prop, (∀ H', Nx H' → ∃ m', m' < m ∧ W (i + 1) m' H') ∧ ∀ x H', J.yld i H x H' → g x (wipe σ vs) H' fun σ2 H2 => wipe σ2 vs = wipe σ vs ∧ tt σ2 H2 fun b H3 =>
        if b = true then tk σ2 H3 fun y H4 => tv σ2 H4 fun z H5 => ∃ kvs k, y = kV k ∧ H5 D = some (.dK kvs) ∧ kvs.length < sizeLine ∧ Nx (upd H5 D (.dK (putK kvs k z))) else Nx H3) := by
  refine ⟨fun i m H => m = n - i ∧ i ≤ n ∧ Pv i H, ⟨n, by simp, Nat.zero_le _, h0⟩, ?_⟩
  rintro i m H ⟨rfl, hi, p⟩
  have q := hG i H hi p
  by_cases hlt : i < n
  · exact .inr ⟨w.goes i H hlt q, Pv (i + 1), fun H' p' => ⟨n - (i + 1), by omega, rfl, hlt, p'⟩, fun x H' y => hs i x H H' hlt p (w.yields i H x H' hlt q y)⟩
  · have e : i = n := by omega
    subst e
    exact .inl ⟨w.stops H q, hd H p⟩
end
end HE
namespace HS
open PySem PySem.Spec PyProof.Rows L2 LamX
/-! ## sorted(xs, key=lambda x: body) -/
section
variable {K : PySem.W.Frag} {H H' : Hp}
mutual
theorem dp_ext (e : Ext H H') : ∀ (d : PyData) (v : V), Dp K H v d → Dp K H' v d
  | .none, _, h => by cases h; exact .non
  | .bool b, _, h => by cases h; exact .bl b
  | .int i, _, h => by cases h; exact .int i
  | .str x, _, h => by cases h; exact .str x
  | .list ds, _, h => by
    cases h with
    | lst h1 h2 => exact .lst (h1.ext e) (dpAll_ext e ds _ h2)
  | .tuple ds, _, h => by
    cases h with
    | tup h1 h2 => exact .tup (h1.ext e) (dpAll_ext e ds _ h2)
  | .dict _, _, h => by cases h
theorem dpAll_ext (e : Ext H H') : ∀ (ds : List PyData) (vs : List V), DpAll K H vs ds → DpAll K H' vs ds
  | [], _, h => by cases h; exact .nil
  | d :: ds, _, h => by
    cases h with
    | cons h1 h2 => exact .cons (dp_ext e d _ h1) (dpAll_ext e ds _ h2)
end
theorem dpAll_len : ∀ (ds : List PyData) (vs : List V), DpAll K H vs ds → vs.length = ds.length
  | [], _, h => by cases h; rfl
  | d :: ds, _, h => by
    cases h with
    | cons h1 h2 => rw [List.length_cons, List.length_cons, dpAll_len ds _ h2]
theorem DpAll.snoc : ∀ {vs : List V} {ds : List PyData} {v : V} {d : PyData}, DpAll K H vs ds → Dp K H v d → DpAll K H (vs ++ [v]) (ds ++ [d])
  | [], _, v, d, h, q => by cases h; exact .cons q .nil
  | _ :: _, _, v, d, h, q => by
    cases h with
    | cons h1 h2 => exact .cons h1 (DpAll.snoc h2 q)
end
section
variable {X : Cx} {pins : List (Addr × Obj)} {σ : L2.St} {H : Hp} {s : Shared}
theorem dp_each (I : Inv X pins σ H s) : ∀ {vs : List V} {ds : List PyData} {us : List Value}, DpAll X.K H vs ds → Vals vs us → PySem.W.EachIs (fun v d => ∃ as, Reads s.heap v d as) us ds
  | _, _, _, .nil, r => by cases r; exact .nil
  | _, _, _, .cons h1 h2, r => by
    cases r with
    | cons r1 r2 => exact .cons (Dp.reads I _ _ _ h1 r1) (dp_each I h2 r2)
end
/-- a lambda called with values -/
theorem lam_run {CX : CXT} {P : Program} {w : World} {K : PySem.W.Frag} {mg : Str → Option Value} {base : Heap} {k : Nat} {f c' : Addr} {q : Str} {params : Arguments} {body : Expr} {scope : Scope} {pm ctv : Value} {N ps : List Str} (S : FnScope N ps scope)
    {A : Around} {outer : List Env} {s : Shared} {H : Hp} {us : List Value} {vs : List V} {Q : VK} {E : XK} (hr : Room (k + 1) A) (e0 : Env0 P w K mg base A outer s H) (hf : s.heap.get? f = some (PySem.W.kla_obj "<lambda>" q params body scope [] pm c' ctv)) (hc : H c' = some (CodeO c' q))
    (hb : bindArgs (PySem.W.kla_fn "<lambda>" q params body scope [] pm (.ref c') ctv) ⟨us, []⟩ = pure (ps.zip us)) (r : Vals vs us) (hl : vs.length = ps.length)
    (hbody : Room k (A.deeper (envOfC q scope s.heap.objs.size f (.ref c'))) → ∃ t, PE (cxOf CX P w K mg base N q scope f (.ref c') A outer s H E) body t ∧ t (L2.start N vs) H Q) :
    codeAny (model P w) A (.call (.ref f) ⟨us, []⟩) (CR CX outer P w H s Q E) s := by
  have lim : s.heap.NoLimit := e0.mod.nolimit.keeps fun b o e => (e0.bs b o e).1
  have hkind : ∀ y ∈ ps.zip us, scope.names.lookup y.1 = some .local ∨ (scope.names.lookup y.1 = some .cell ∧ ((cellsFrom (s.heap.objs.size + 1) scope.names []).lookup y.1).isSome = true) := fun ⟨n, v⟩ hy => by
    rcases S.par n (List.of_mem_zip hy).1 with q | q
    · exact .inl q
    · exact .inr ⟨q, PySem.W.cellsFrom_some _ _ _ (.inl q)⟩
  obtain ⟨⟨oc, xs, t, hoc, hdc, hvc⟩, _, _⟩ := e0.hok c' _ hc
  refine PySem.W.kla_callFunE hr.depth hf rfl S.co S.gen rfl ⟨c', oc, xs, t, rfl, hoc, hdc, hvc⟩ ?_
  rw [hb]
  refine wpAny_pure (wpAny_newFunctionEnv_cells S.kind hkind fun env he s1 x => ?_)
  subst he
  refine ⟨lim.keeps x.toInCall.keep, ?_⟩
  obtain ⟨t, ht, hq⟩ := hbody (hr.deeper _)
  have I : Inv (cxOf CX P w K mg base N q scope f (.ref c') A outer s H E) [] (L2.start N vs) H s1 := inv_start S hr.hd e0 hl r x
  refine PySem.W.kla_codeExpr (wpAny_mono (ht.run [] s1 (L2.start N vs) H Q I hq) (fun v s' hs => ?_) fun e s' hs => hs)
  obtain ⟨v', H', J, rv, q'⟩ := hs
  exact ⟨v', H', J.os, J.bare, J.base, J.hok, rv, q'⟩
section
variable {X : Cx} {pins : List (Addr × Obj)} {σ : L2.St} {H : Hp} {s : Shared}
/-- an untracked record of ours, pinned, is written -/
theorem turnedPin {h' : Heap} {t' : Nat} {it : Addr} {o o' : Obj} (I : Inv X ((it, o) :: pins) σ H s) (hs : X.s_0.heap.objs.size ≤ it) (hc : ∀ x c, X.env.cells.lookup x = some c → c ≠ it) (hp : ∀ p ∈ X.pn ++ pins, p.1 ≠ it)
    (k : ∀ b u, b ≠ it → s.heap.get? b = some u → h'.get? b = some u) (ho : h'.get? it = some o') (hd : ∀ v, o'.data ≠ .cell v) : Inv X ((it, o') :: pins) σ H { s with heap := h', toks := t' } := by
  obtain ⟨e, n, nl, nf, _⟩ := I.pin (it, o) (List.mem_append_right _ List.mem_cons_self)
  have I1 : Inv X pins σ H s := I.pins_of fun r hr => I.pin r (List.mem_append_right _ (List.mem_cons_of_mem _ hr))
  have I2 : Inv X pins σ H { s with heap := h', toks := t' } := I1.turned (it := it) k n nl (.inr hs) hc hp
  refine I2.pins_of fun p hm => ?_
  rcases List.mem_cons.mp hm with z | z
  · rw [z]
    exact ⟨ho, n, nl, nf, hd⟩
  · exact I2.pin p (List.mem_append_right _ z)
/-- the list at a and the keys' list at kS end: a is tracked from now on -/
theorem laidEnd {h' : Heap} {t' : Nat} {a kS : Addr} {oa ok : Obj} {zs : List V} {out : List Value} {c : Nat} (I : Inv X ((kS, ok) :: (a, oa) :: pins) σ H s) (hka : kS ≠ a) (ha : X.s_0.heap.objs.size ≤ a) (hk : X.s_0.heap.objs.size ≤ kS)
    (hca : ∀ x c, X.env.cells.lookup x = some c → c ≠ a ∧ c ≠ kS) (hp : ∀ p ∈ X.pn ++ pins, p.1 ≠ a ∧ p.1 ≠ kS) (k : ∀ b u, b ≠ a → b ≠ kS → s.heap.get? b = some u → h'.get? b = some u)
    (ho : h'.get? a = some (seqObj "list" out.toArray c)) (r : Vals zs out) (hz : zs.length ≤ sizeLine) : Inv X pins σ (upd H a (.lst zs)) { s with heap := h', toks := t' } := by
  obtain ⟨ek, nk, kl, kf, _⟩ := I.pin (kS, ok) (List.mem_append_right _ List.mem_cons_self)
  obtain ⟨ea, na, al, af, _⟩ := I.pin (a, oa) (List.mem_append_right _ (List.mem_cons_of_mem _ List.mem_cons_self))
  have ek : s.heap.get? kS = some ok := ek
  have ea : s.heap.get? a = some oa := ea
  have nk : H kS = none := nk
  have na : H a = none := na
  have I1 : Inv X pins σ H s := I.pins_of fun r hr => I.pin r (List.mem_append_right _ (List.mem_cons_of_mem _ (List.mem_cons_of_mem _ hr)))
  have nit : ∀ b u, H b = some u → b ≠ a ∧ b ≠ kS := fun b u e => ⟨fun z => (by rw [z, na] at e; cases e), fun z => (by rw [z, nk] at e; cases e)⟩
  have kc : ∀ b o, b ∉ [a, kS] → s.heap.get? b = some o → h'.get? b = some o := fun b o hb e => k b o (fun z => hb (by simp [z])) (fun z => hb (by simp [z])) e
  refine I1.step (g' := s.gens) (d' := s.drawn) (ch := [a, kS]) (fun b hb => ?_) (fun b o _ _ hb e _ => kc b o hb e) (fun b o _ _ hb e _ => ⟨o.slots, kc b o hb e⟩) (fun b o hb e n => ?_) (fun b o hb e => ⟨o, kc b o hb e⟩) (fun b xs e => ?_) (fun b o u e => ?_) (fun b ps e => ⟨#[], ?_⟩) (fun m hm => ?_) (fun b u e => ?_) I1.bare
  · rcases List.mem_cons.mp hb with z | z
    · rw [z]
      exact ⟨.inr ha, al, fun x c e => (hca x c e).1, fun p hm => (hp p hm).1⟩
    · have z : b = kS := by simpa using z
      rw [z]
      exact ⟨.inr hk, kl, fun x c e => (hca x c e).2, fun p hm => (hp p hm).2⟩
  · rw [upd_ne (fun z => hb (by simp [z]))]
    exact n
  · rw [upd_ne (nit b _ e).1]
    exact e
  · rw [upd_ne (nit b _ e).1]
    exact e
  · rw [upd_ne (nit b _ e).1, e]
    simp
  · obtain ⟨o, es, ep, ho, r⟩ := hm
    exact ⟨o, es, ep, k _ o (Ne.symm al) (Ne.symm kl) ho, r⟩
  · by_cases hb : b = a
    · rw [hb, upd_same] at e
      cases e
      rw [hb]
      exact ⟨hz, out, c, r, ho⟩
    · rw [upd_ne hb] at e
      refine (I1.hok b u e).stay (fun d v hd q => ?_) (fun d q => by rw [upd_ne (nit d _ q).1]; exact q) fun d xs q => by rw [upd_ne (nit d _ q).1]; exact q
      rcases hd with z | z
      · rw [z] at q ⊢
        exact k b v (nit b u e).1 (nit b u e).2 q
      · exact k d v (nit d _ z).1 (nit d _ z).2 q
end
section
variable {X : Cx} {pins : List (Addr × Obj)} {σ : L2.St} {H : Hp} {s : Shared}
theorem SortsAt_data_of {prog : Program} {w : World} {A : Around} {s : Shared} {vs : List Value} {ds : List PyData} (e : PySem.W.EachIs (fun v d => ∃ as, Reads s.heap v d as) vs ds) (hal : PySem.W.AllAlike ds) (hk : PySem.W.Sortable ds) (hu : ∀ d, d ∈ ds → A.units + d.depth < cLine) :
    PySem.W.SortsAt prog w A s (PySem.W.dataKind s.heap ds) vs := PySem.W.SortsAt.data e hal hk hu
/-- the items in the order of their keys -/
noncomputable def byKey (xs : List V) (ds : List PyData) : List V := ((xs.zip ds).mergeSort (PySem.W.dataLe false Prod.snd)).map Prod.fst
theorem zip_each : ∀ {xs : List V} {its : List Value} (ds : List PyData), Vals xs its → ds.length = xs.length → PySem.W.EachIs (fun (u : Value) (b : V × PyData) => RelV b.1 u) its (xs.zip ds)
  | [], _, ds, h, _ => by cases h; exact .nil
  | x :: xs, _, [], h, e => by cases e
  | x :: xs, _, d :: ds, h, e => by
    cases h with
    | cons h1 h2 => exact .cons h1 (zip_each ds h2 (by simpa using e))
theorem each_vals : ∀ {bs : List (V × PyData)} {us : List Value}, PySem.W.EachIs (fun (u : Value) (b : V × PyData) => RelV b.1 u) us bs → Vals (bs.map Prod.fst) us
  | _, _, .nil => .nil
  | _, _, .cons h t => .cons h (each_vals t)
theorem zip_snd : ∀ (xs : List V) (ds : List PyData), ds.length = xs.length → (xs.zip ds).map Prod.snd = ds
  | [], ds, h => by
    cases ds with
    | nil => rfl
    | cons d ds => cases h
  | x :: xs, [], h => by cases h
  | x :: xs, d :: ds, h => by
    show d :: (xs.zip ds).map Prod.snd = d :: ds
    rw [zip_snd xs ds (by simpa using h)]
theorem vals_snoc {vs : List V} {us : List Value} {v : V} {u : Value} (r : Vals vs us) (q : RelV v u) : Vals (vs ++ [v]) (us ++ [u]) := by
  induction r with
  | nil => exact .cons q .nil
  | cons h _ ih => exact .cons h ih
/-- the sort by a key of the list at a, which is new since s0 -/
theorem sort_body {s0 : Shared} {H0 : Hp} {a f : Addr} {fo : Obj} {xs : List V} {its : List Value} {ds : List PyData} {P0 : Hp → Prop} {Q : VK} {E' : Value → Shared → Prop} (I0 : Inv X pins σ H0 s0) (h0a : s0.heap.objs.size ≤ a) (hf0 : ∃ o, s0.heap.get? f = some o) (I : Inv X pins σ H s) (rv : Vals xs its) (hz : xs.length ≤ sizeLine)
    (ho : s.heap.get? a = some (seqObj "list" its.toArray 0)) (hna : H a = none) (hf : s.heap.get? f = some fo) (hfn : H f = none) (hfr : f ≠ X.env.locals ∧ f ∉ X.fs) (hfc : ∀ v, fo.data ≠ .cell v)
    (hal : PySem.W.AllAlike ds) (hk : PySem.W.Sortable ds) (hlen : ds.length = xs.length) (hu : ∀ d, d ∈ ds → X.A.units + 2 + d.depth < cLine) (p0 : P0 H)
    (turn : ∀ (i : Nat) (v : V) (u : Value) (d : PyData) (s' : Shared) (H' : Hp), xs[i]? = some v → ds[i]? = some d → RelV v u → Env0 X.prog X.w X.K X.mg X.base X.A.in1.in1 X.stack s' H' → s'.heap.get? f = some fo → Ext H H' → P0 H' →
      wpAny (model X.prog X.w) X.A.in1.in1 (call (.ref f) [u]) (CE X.stack X.prog X.w H' s' (fun kv H'' => Dp X.K H'' kv d ∧ Ext H' H'' ∧ P0 H'')) (fun _ _ => False) s')
    (q : ∀ (H' : Hp), Ext H H' → P0 H' → H' a = none → Q (.ref a) (upd H' a (.lst (byKey xs ds)))) :
    wpAny (model X.prog X.w) X.A.in1.in1 (Builtin.«list.sort» ⟨[.ref a], [(Str.ofString "key", .ref f)]⟩) (fun f s' => f = .done (.ret .none) ∧ EP X pins σ Q (.ref a) s') E' s := by
  have hzi : its.length ≤ sizeLine := by rw [← rv.length]; exact hz
  have hil : its.length = xs.length := rv.length.symm
  rw [PyProof.Rows.ksk_t1]
  have ha : @LT.lt Nat _ a s.heap.objs.size := Heap.lt_size ho
  obtain ⟨e1, ho1⟩ : ∃ e1, (s.heap.update a (Obj.mapSeq fun _ => (#[] : Array Value))).get? a = some (seqObj "list" #[] e1) := ⟨_, get?_update_seq ho fun _ => #[]⟩
  unfold PyProof.Rows.ksk_tree
  refine wpAny_bind (listItems_at ho rfl ?_)
  refine wpAny_bind (listUpdate_at ho rfl ?_ (by rw [List.size_toArray]; exact hzi) (Nat.zero_le _))
  refine wpAny_bind (seqEpoch_at ho1 rfl ?_)
  refine wpAny_bind (wpAny_newTuple ?_ (by show its.length ≤ _; exact hzi))
  refine wpAny_bind (wpAny_newList ?_ (Nat.zero_le _))
  refine wpAny_holding ?_
  have hkS : (s.heap.update a (Obj.mapSeq fun _ => (#[] : Array Value))).objs.size = s.heap.objs.size := Heap.size_update _ _ _
  generalize hks : ((s.heap.update a (Obj.mapSeq fun _ => (#[] : Array Value))).push (seqObj "tuple" its.toArray 0)).objs.size = kS
  have hka : @LT.lt Nat _ a kS := by
    rw [← hks, size_push', hkS]
    omega
  have hsk0 : s.heap.objs.size < kS := by rw [← hks, size_push', hkS]; exact Nat.lt_succ_self _
  generalize hg : (((s.heap.update a (Obj.mapSeq fun _ => (#[] : Array Value))).push (seqObj "tuple" its.toArray 0)).push (seqObj "list" #[] 0)) = h₂
  have g1 : h₂.get? kS = some (seqObj "list" #[] 0) := by rw [← hg, ← hks]; exact Heap.get?_push_size _ rfl
  have g2 : h₂.get? a = some (seqObj "list" #[] e1) := by rw [← hg]; exact Heap.get?_push_of_some _ (Heap.get?_push_of_some _ ho1)
  have g3 : ∀ b o, b ≠ a → s.heap.get? b = some o → h₂.get? b = some o := fun b o hb e => by
    rw [← hg]
    refine Heap.get?_push_of_some _ (Heap.get?_push_of_some _ ?_)
    rw [Heap.get?_update_ne _ _ _ _ hb]
    exact e
  have hcl : ∀ x c, X.env.cells.lookup x = some c → @LT.lt Nat _ c s0.heap.objs.size := fun x c e => by
    obtain ⟨v, o, z, _⟩ := I0.cell x c e
    exact Heap.lt_size z
  have hpl : ∀ p ∈ X.pn ++ pins, @LT.lt Nat _ p.1 s0.heap.objs.size := fun p hp => Heap.lt_size (I0.pin p hp).1
  have hfl : @LT.lt Nat _ f s0.heap.objs.size := Heap.lt_size hf0.choose_spec
  have hsz : X.s_0.heap.objs.size ≤ s0.heap.objs.size := I0.sz
  have hll : @LT.lt Nat _ X.env.locals s0.heap.objs.size := I0.lt
  have hcS : ∀ x c, X.env.cells.lookup x = some c → c ≠ a ∧ c ≠ kS := fun x c e => by
    have := hcl x c e
    exact ⟨Nat.ne_of_lt (by omega), Nat.ne_of_lt (by omega)⟩
  have hpS : ∀ p ∈ X.pn ++ ((f, fo) :: pins), p.1 ≠ a ∧ p.1 ≠ kS := fun p hp => by
    have : @LT.lt Nat _ p.1 s0.heap.objs.size := by
      rcases List.mem_append.mp hp with z | z
      · exact hpl p (List.mem_append_left _ z)
      · rcases List.mem_cons.mp z with z | z
        · rw [z]
          exact hfl
        · exact hpl p (List.mem_append_right _ z)
    exact ⟨Nat.ne_of_lt (by omega), Nat.ne_of_lt (by omega)⟩
  have J0 : Inv X pins σ H { s with heap := h₂ } := I.turned (it := a) (t' := s.toks) g3 hna (Nat.ne_of_gt (by omega)) (.inr (by omega)) (fun x c e => (hcS x c e).1) (fun p hp => (hpS p (by
    rcases List.mem_append.mp hp with z | z
    · exact List.mem_append_left _ z
    · exact List.mem_append_right _ (List.mem_cons_of_mem _ z))).1)
  have J1 : Inv X ((kS, seqObj "list" #[] 0) :: (a, seqObj "list" #[] e1) :: (f, fo) :: pins) σ H { s with heap := h₂ } := by
    refine J0.pins_of fun p hp => ?_
    rcases List.mem_cons.mp hp with z | hp
    · rw [z]
      exact ⟨g1, I.hok.fresh (Nat.le_of_lt hsk0), Nat.ne_of_gt (by omega), I.nofs (Nat.le_of_lt hsk0), fun v z => by cases z⟩
    rcases List.mem_cons.mp hp with z | hp
    · rw [z]
      exact ⟨g2, hna, Nat.ne_of_gt (by omega), I0.nofs h0a, fun v z => by cases z⟩
    rcases List.mem_cons.mp hp with z | hp
    · rw [z]
      exact ⟨g3 _ _ (Nat.ne_of_lt (by omega)) hf, hfn, hfr.1, hfr.2, hfc⟩
    · exact J0.pin p (List.mem_append_right _ hp)
  unfold PyProof.Rows.ksk_rest
  refine wpAny_bind (wpAny_rule ?_)
  rw [List.forIn_toArray]
  refine wpAny_bind (ksk_fold (fun i s' => ∃ H' kA e kvs, Inv X ((kS, seqObj "list" kA e) :: (a, seqObj "list" #[] e1) :: (f, fo) :: pins) σ H' s' ∧ Ext H H' ∧ P0 H' ∧ Vals kvs kA.toList ∧ DpAll X.K H' kvs (ds.take i)) its 0 _
    ⟨H, #[], 0, [], J1, Ext.rfl', p0, .nil, by rw [List.take_zero]; exact .nil⟩ ?step ?done)
  case step =>
    rintro j u s' hx ⟨H', kA, e, kvs, J, eH, hp0, rk, hD⟩
    simp only [Nat.zero_add] at hD ⊢
    have hj : j < its.length := (List.getElem?_eq_some_iff.mp hx).1
    obtain ⟨d, hdj⟩ : ∃ d, ds[j]? = some d := ⟨_, List.getElem?_eq_getElem (by omega)⟩
    obtain ⟨v, hvj⟩ : ∃ v, xs[j]? = some v := ⟨_, List.getElem?_eq_getElem (by omega)⟩
    have ruv : RelV v u := by
      obtain ⟨u2, h1, h2⟩ := rv.get hvj
      rw [hx] at h1
      rw [Option.some.inj h1]
      exact h2
    have hfs : s'.heap.get? f = some fo := (J.pin (f, fo) (List.mem_append_right _ (List.mem_cons_of_mem _ (List.mem_cons_of_mem _ List.mem_cons_self)))).1
    refine wpAny_bind (wpAny_attempt (wpAny_mono (turn j v u d s' H' hvj hdj ruv J.env0.in1.in1 hfs eH hp0) (fun w s'' he => ?_) fun _ _ hF => hF.elim))
    obtain ⟨kv, H'', J2, rw_, hd2, e2, p2⟩ := J.after he
    try dsimp only
    have n1 : s''.heap.get? kS = some (seqObj "list" kA e) := (J2.pin _ (List.mem_append_right _ List.mem_cons_self)).1
    obtain ⟨c2, hc2⟩ : ∃ c2, (s''.heap.update kS (Obj.mapSeq (·.push w))).get? kS = some (seqObj "list" (kA.push w) c2) := ⟨_, get?_update_seq n1 (·.push w)⟩
    have hlk : kA.size ≤ its.length := by
      have h1 : kvs.length = kA.size := by rw [← Array.length_toList]; exact rk.length
      have h2 : kvs.length = (ds.take j).length := dpAll_len _ _ hD
      rw [List.length_take] at h2
      omega
    refine wpAny_bind (listUpdate_at n1 rfl ?_ (Nat.le_trans hlk hzi) (Nat.le_trans (Nat.le_of_eq (Array.size_push ..)) (Nat.succ_le_succ (Nat.le_trans hlk hzi))))
    have s1 := Heap.SameBut.update s''.heap kS (Obj.mapSeq (·.push w))
    have ek : ds.take (j + 1) = ds.take j ++ [d] := by rw [List.take_add_one, hdj]; simp
    refine wpAny_pure ⟨rfl, H'', kA.push w, c2, kvs ++ [kv], ?_, eH.trans e2, p2, by rw [Array.toList_push]; exact vals_snoc rk rw_, by rw [ek]; exact DpAll.snoc (dpAll_ext e2 _ _ hD) hd2⟩
    exact turnedPin (t' := s''.toks) J2 (by omega) (fun x c e => (hcS x c e).2) (fun p hp => by
      rcases List.mem_append.mp hp with z | z
      · exact (hpS p (List.mem_append_left _ z)).2
      · rcases List.mem_cons.mp z with z | z
        · rw [z]
          exact Nat.ne_of_lt hka
        · exact (hpS p (List.mem_append_right _ z)).2) (fun b o hb e => (s1.2 b hb).trans e) hc2 (fun v z => by cases z)
  case done =>
    rintro s' ⟨H', kA, e, kvs, J, eH, hp0, rk, hD⟩
    have e3 : ds.take (0 + its.length) = ds := List.take_of_length_le (by omega)
    rw [e3] at hD
    have n1 : s'.heap.get? kS = some (seqObj "list" kA e) := (J.pin _ (List.mem_append_right _ List.mem_cons_self)).1
    have n2 : s'.heap.get? a = some (seqObj "list" #[] e1) := (J.pin (a, seqObj "list" #[] e1) (List.mem_append_right _ (List.mem_cons_of_mem _ List.mem_cons_self))).1
    have m2 : H' a = none := (J.pin (a, seqObj "list" #[] e1) (List.mem_append_right _ (List.mem_cons_of_mem _ List.mem_cons_self))).2.1
    have hE := dp_each J hD rk
    have hsz2 : kA.size = its.length := by
      have h1 := rk.length
      have h2 := hE.length
      rw [Array.length_toList] at h1 h2
      omega
    try dsimp only
    refine wpAny_bind (listItems_at n1 rfl ?_)
    obtain ⟨G, G1, G2⟩ := restrict s'.heap fun b => decide (b ≠ kS)
    have gk : ∀ b o, b ≠ kS → s'.heap.get? b = some o → G.get? b = some o := fun b o hb e => by
      rw [G1 b (decide_eq_true hb)]
      exact e
    have ga : G.get? kS = none := G2 kS (decide_eq_false fun z => z rfl)
    have gs : PySem.W.KeepsBut a G s'.heap := fun b o _ e => by
      by_cases hb : b = kS
      · rw [hb, ga] at e
        cases e
      · rw [← G1 b (decide_eq_true hb)]
        exact e
    have hcs := SortsAt_data_of (A := X.A.in1.in1) (prog := X.prog) (w := X.w) hE hal hk (fun d hd => by have := hu d hd; show X.A.units + 1 + 1 + d.depth < _; omega)
    refine PySem.W.keyH_end (κ := PySem.W.dataKind s'.heap ds) (h₁ := G) (vs := its) gs ga n1 n2 (Nat.ne_of_gt hka) hcs hsz2 hzi fun h3 tk3 c k3 n3 => ⟨rfl, ?_⟩
    have hzip := zip_each ds rv hlen
    have ko : PySem.W.KeyedOut false ((xs.zip ds).map Prod.snd) its (PySem.W.sortVals (PySem.W.dataKind s'.heap ds) false kA.toList its) := by
      rw [zip_snd xs ds hlen]
      exact ⟨s'.heap, kA.toList, hal, rfl, hE⟩
    have hout := each_vals (PySem.W.keyedOut_each Prod.snd ko hzip)
    have hlz : (byKey xs ds).length ≤ sizeLine := by
      show (List.map _ _).length ≤ _
      rw [List.length_map, List.length_mergeSort, List.length_zip]
      omega
    exact ⟨.ref a, upd H' a (.lst (byKey xs ds)), laidEnd (X := X) (pins := pins) (t' := tk3) (J.pins_of fun p hp => J.pin p (List.mem_append_right _ (by
        rcases List.mem_cons.mp hp with z | hp
        · rw [z]
          exact List.mem_cons_self
        rcases List.mem_cons.mp hp with z | hp
        · rw [z]
          exact List.mem_cons_of_mem _ List.mem_cons_self
        · exact List.mem_cons_of_mem _ (List.mem_cons_of_mem _ (List.mem_cons_of_mem _ hp))))) (Nat.ne_of_gt hka) (by omega) (by omega) hcS (fun p hp => by
          rcases List.mem_append.mp hp with z | z
          · exact hpS p (List.mem_append_left _ z)
          · exact hpS p (List.mem_append_right _ (List.mem_cons_of_mem _ z))) (fun b u h1 h2 e => k3 b u h1 (gk b u h2 e)) n3 hout hlz, rfl, q H' eH hp0 m2⟩
/-- sorted(xs, key=f): f is an object of ours, each of its calls is told -/
theorem sorted_run {l f : Addr} {fo : Obj} {xs : List V} {ds : List PyData} {P0 : Hp → Prop} {Q : VK} (I : Inv X pins σ H s) (hs : SqL X.K H l xs) (hf : s.heap.get? f = some fo) (hfn : H f = none) (hfr : f ≠ X.env.locals ∧ f ∉ X.fs) (hfc : ∀ v, fo.data ≠ .cell v)
    (hal : PySem.W.AllAlike ds) (hk : PySem.W.Sortable ds) (hlen : ds.length = xs.length) (hu : ∀ d, d ∈ ds → X.A.units + 2 + d.depth < cLine) (p0 : P0 H)
    (turn : ∀ (i : Nat) (v : V) (u : Value) (d : PyData) (s' : Shared) (H' : Hp), xs[i]? = some v → ds[i]? = some d → RelV v u → Env0 X.prog X.w X.K X.mg X.base X.A.in1.in1 X.stack s' H' → s'.heap.get? f = some fo → Ext H H' → P0 H' →
      wpAny (model X.prog X.w) X.A.in1.in1 (call (.ref f) [u]) (CE X.stack X.prog X.w H' s' (fun kv H'' => Dp X.K H'' kv d ∧ Ext H' H'' ∧ P0 H'')) (fun _ _ => False) s')
    (q : ∀ (H' : Hp) (p : Addr), Ext H H' → P0 H' → H' p = none → Q (.ref p) (upd H' p (.lst (byKey xs ds)))) :
    wpAny (model X.prog X.w) X.A (call (.builtin "sorted") [.ref l] [(Str.ofString "key", .ref f)]) (EP X pins σ Q) X.xe s := by
  obtain ⟨its, rv, hl, hz⟩ := I.list hs
  have hzi : its.length ≤ sizeLine := by rw [← rv.length]; exact hz
  have hil : its.length = xs.length := rv.length.symm
  refine PySem.W.sorted_of_sort hl.isList hzi (PyProof.Rows.ksk_s1 _ _) (fun _ => PyProof.Rows.ksk_l1 _ _) fun E' => ?_
  have hfl : @LT.lt Nat _ f s.heap.objs.size := Heap.lt_size hf
  exact sort_body (s := { s with heap := PySem.W.copyHeap s.heap its }) I (Nat.le_succ _) ⟨_, hf⟩ (I.kept (t' := s.toks) fun b o e => PySem.W.copyHeap_old e) rv hz (PySem.W.copyHeap_at s.heap its) (I.hok.fresh (Nat.le_succ _)) (PySem.W.copyHeap_old hf) hfn hfr hfc hal hk hlen hu p0 turn fun H' e1 e2 e3 => q H' _ e1 e2 e3
end
theorem sqL_extN {K : PySem.W.Frag} {H H' : Hp} {a : Addr} {xs : List V} (h : SqL K H a xs) (e : ExtN H H') : SqL K H' a xs :=
  h.elim (fun h => .inl (h.elim (fun h => .inl (e _ _ h fun _ z => nomatch z)) fun ⟨o, h⟩ => .inr ⟨o, e _ _ h fun _ z => nomatch z⟩)) fun h => .inr h
def one (R : V → Hp → Prop) : List V → Hp → Prop := fun vs H => match vs with
  | [v] => R v H
  | _ => False
theorem rel_ref {a : Addr} {u : Value} (r : RelV (.ref a) u) : u = .ref a := r
/-- sorted(xs, key=lambda x: body): the reading -/
def tSortL (K : PySem.W.Frag) (T : List (Addr × Str)) (Nl : List Str) (tb : TE) (t : TE) : TE := fun σ H Q => t σ H fun v H1 => ∃ (l : Addr) (xs : List V) (ds : List PyData) (P0 : Hp → Prop), v = .ref l ∧ SqL K H1 l xs ∧ PySem.W.AllAlike ds ∧ PySem.W.Sortable ds ∧ ds.length = xs.length ∧ (∀ d, d ∈ ds → d.depth ≤ 50) ∧ Tabs T H1 ∧
  ∀ H2, ExtN H1 H2 → Tabs T H2 → P0 H2 ∧ (∀ (i : Nat) (v : V) (d : PyData) (H' : Hp), xs[i]? = some v → ds[i]? = some d → Ext H2 H' → P0 H' → tb (L2.start Nl [v]) H' fun kv H'' => Dp K H'' kv d ∧ Ext H' H'' ∧ P0 H'') ∧
    ∀ (H' : Hp) (p : Addr), Ext H2 H' → P0 H' → H' p = none → Q (.ref p) (upd H' p (.lst (byKey xs ds)))
section
variable {X : Cx}
theorem pe_sortLam {T : List (Addr × Str)} {c P : Addr} {k : Nat} {y : Str} {e body : Expr} {params : Arguments} {scope : Scope} {p kpos lpos pos : Pos} {Nl : List Str} {t tb : TE} (hg : Gl X "sorted") (hm : X.mg "sorted" = none) (hv : bootBuiltins "sorted" = some (.builtin "sorted")) (ha : PA X [e] (tCons t tNil))
    (hfs : ∀ b, b ∉ frs X.stack → b ≠ X.env.locals ∧ b ∉ X.fs) (TB : TabB X.base X.mg c P) (hcode : X.env.code = .ref c) (hmT : (P, X.env.qual ++ "<lambda>") ∈ T) (hu : ∀ p ∈ T, p.1 = P → p.2 = X.env.qual ++ "<lambda>") (hr : Room (k + 3) X.A) (S : FnScope Nl [y] scope)
    (hdef : defaultsOf params X.env = ([], [])) (hcl : cloFrom X.env.cells scope.names [] = []) (hbind : ∀ (q : Str) (pm cv ctv u : Value), bindArgs (PySem.W.kla_fn "<lambda>" q params body scope [] pm cv ctv) ⟨[u], []⟩ = pure ([y].zip [u]))
    (hbody : ∀ (A : Around) (outer : List Env) (s : Shared) (H : Hp) (f c' : Addr), Room k (A.deeper (envOfC (X.env.qual ++ "<lambda>") scope s.heap.objs.size f (.ref c'))) →
      PE (cxOf C8.CX0 X.prog X.w X.K X.mg X.base Nl (X.env.qual ++ "<lambda>") scope f (.ref c') A outer s H C8.E0) body tb)
    (he : backTo pos (starEach [e] X.env) = (false, eval e X.env) :: backTo pos (starEach [] X.env) := by rfl) (hpl : (backTo pos (starEach [e] X.env)).any (·.1) = false := by rfl) :
    PE X (.Call (.Name "sorted" p) [e] [⟨some (Str.ofString "key"), .Lambda params body scope lpos, kpos⟩] pos) (tSortL X.K T Nl tb t) := by
  refine ⟨fun pins s σ H Q I h => ?_⟩
  refine wpAny_Call_Name_kw (ld_blt I hg hm hv ?_ (by decide) (by decide))
  refine PyProof.Rows.callWith_kw (thn (ha.run pos pins s σ H (one _) I h) fun us s1 ⟨vs, H1, I1, r1, q1⟩ => ?_) he hpl
  match vs, r1, q1 with
  | [v], .cons r1 .nil, q1 =>
    obtain ⟨l, xs, ds, P0, rfl, hs, hal, hk, hlen, hdp, hT, q⟩ := q1
    obtain rfl := rel_ref r1
    show wpAny _ _ (evalAll [(do let v ← eval (.Lambda params body scope lpos) X.env; standAt pos; pure v)]) _ _ s1
    refine wpAny_evalAll_cons (wpAny_bind (lam_make2 I1 TB hcode hmT hu hT hdef (fun y hy e => ?_) fun f c' pm' ctv H2 s' I2 eN T1 hf hfn hfr hco => wpAny_bind (wpAny_standAt (wpAny_pure (wpAny_evalAll_nil ?_)))))
    · exact absurd e (S.nofree y hy)
    rw [hcl] at hf
    obtain ⟨p0, turn, q⟩ := q H2 eN T1
    show wpAny _ _ (call (.builtin "sorted") [.ref l] [(Str.ofString "key", .ref f)]) _ _ _
    refine sorted_run (P0 := P0) I2 (sqL_extN hs eN) hf hfn (hfs f hfr) (fun v z => by cases z) hal hk hlen (fun d hd => ?_) p0 (fun i v u d s2 H' hv hd ru e0 hf2 eH hp => ?_) q
    · have h1 := hr.un
      have h2 := hdp d hd
      omega
    · have hco2 : H' c' = some (CodeO c' (X.env.qual ++ "<lambda>")) := eH _ _ hco
      have rc := lam_run (Q := fun kv H'' => Dp X.K H'' kv d ∧ Ext H' H'' ∧ P0 H'') (E := C8.E0) (CX := C8.CX0) (us := [u]) (vs := [v]) (k := k) S hr.in1.in1 e0 hf2 hco2 (hbind _ _ _ _ _) (.cons ru .nil) rfl fun hr2 => ⟨tb, hbody _ _ _ _ _ _ hr2, turn i v d H' hv hd eH hp⟩
      refine wpAny_call (codeAny_mono rc fun r s3 hq => ?_)
      cases r with
      | error e => exact (show False from hq).elim
      | ok fl =>
        cases fl with
        | ret u => exact hq
        | next => exact False.elim hq
        | brk => exact False.elim hq
        | cont => exact False.elim hq
end
/-! ## sorted(d.items(), key=lambda x: body) -/
section
variable {X : Cx} {pins : List (Addr × Obj)} {σ : L2.St} {H : Hp} {s : Shared}
theorem pairs_laid {h' : Heap} {tk : Nat} {kvs : List (Key × V)} {vs : List (Key × Value)} {as : List Addr} (I : Inv X pins σ H s) (kv : KV kvs vs) (hk : ∀ b o, s.heap.get? b = some o → h'.get? b = some o) (hl : as.length = vs.length) (hG : PySem.W.KdxG (mixKind X.prog X.w) vs s.heap.objs.size h' as) :
    ∃ H' : Hp, Ext H H' ∧ (∀ t ∈ as, H t = none ∧ s.heap.objs.size < t) ∧ (∀ b, b ∉ as → H' b = H b) ∧ Paired (fun (t : Addr) (q : Key × V) => H' t = some (.tup [kV q.1, q.2])) as kvs ∧ Inv X pins σ H' { s with heap := h', toks := tk } := by
  have lk : kvs.length = vs.length := Paired.length kv
  have nd : as.Nodup := List.Pairwise.imp (fun {a b} (h : a < b) => Nat.ne_of_lt h) hG.rise
  have new : ∀ t ∈ as, H t = none := fun t ht => I.hok.fresh (Nat.le_of_lt (hG.above t ht))
  have atP := LiI.putT_at as kvs H (by omega) nd
  have off : ∀ b, b ∉ as → LiI.putT H as kvs b = H b := fun b h1 => LiI.putT_off as kvs _ h1
  have low : ∀ b o, s.heap.get? b = some o → b ∉ as := fun b o e z => absurd (Heap.lt_size e) (Nat.not_lt.mpr (Nat.le_of_lt (hG.above b z)))
  have kp : ∀ b u, H b = some u → (LiI.putT H as kvs) b = some u := fun b u e => by
    rw [off b (fun z => by rw [new b z] at e; cases e)]
    exact e
  refine ⟨LiI.putT H as kvs, kp, fun t ht => ⟨new t ht, hG.above t ht⟩, off, atP, ?_⟩
  refine I.call' (ch := []) rfl ⟨fun b o q _ _ _ => hk b o q, fun b o q _ _ _ => ⟨o.slots, hk b o q⟩, fun b o q n _ => ?_, fun b o q _ => ⟨o, hk b o q⟩, fun b xs q => kp b _ q, fun b o u q => kp b _ q, fun b ps q => ⟨#[], by rw [kp b _ q]; simp⟩⟩ (fun b u q => ?_) I.bare fun b z => by simp at z
  · rw [off b (low b o q)]
    exact n
  · by_cases hb : b ∈ as
    · obtain ⟨j, pk, e1, e2, e3⟩ := LiI.paired_ix atP hb
      rw [e3] at q
      cases q
      obtain ⟨key, k, x, f1, f2, f3⟩ := hG.pairs j b e1
      obtain ⟨qv, g1, g2, g3⟩ := LiI.paired_get kv e2
      rw [f1] at g1
      cases g1
      have rk : RelV (kV pk.1) key := by
        rw [g2]
        exact relV_key (show keyIs k key = true from f2)
      exact ⟨by show 2 ≤ sizeLine; decide, [key, x], .cons rk (.cons g3 .nil), ⟨_, f3, rfl, _, rfl⟩⟩
    · rw [off b hb] at q
      exact (I.hok b u q).stay (fun d v _ y => hk d v y) (fun d y => kp d _ y) fun d xs y => kp d _ y
/-- sorted(v, key=f), v the view of a dict's items -/
theorem sorted_runI {r d f : Addr} {fo : Obj} {kvs : List (Key × V)} {ds : List PyData} {P0 : List Addr → Hp → Prop} {Q : VK} (hc : X.calm = true) (I : Inv X pins σ H s) (hd : H d = some (.dK kvs)) (hr : s.heap.IsItemsView r d) (hf : s.heap.get? f = some fo) (hfn : H f = none) (hfr : f ≠ X.env.locals ∧ f ∉ X.fs) (hfc : ∀ v, fo.data ≠ .cell v)
    (hal : PySem.W.AllAlike ds) (hk : PySem.W.Sortable ds) (hlen : ds.length = kvs.length) (hu : ∀ d, d ∈ ds → X.A.units + 2 + d.depth < cLine)
    (h : ∀ (H2 : Hp) (ts : List Addr), Ext H H2 → (∀ t ∈ ts, H t = none) → Paired (fun (t : Addr) (q : Key × V) => H2 t = some (.tup [kV q.1, q.2])) ts kvs → P0 ts H2 ∧
      (∀ (i : Nat) (v : V) (u : Value) (d : PyData) (s' : Shared) (H' : Hp), (ts.map V.ref)[i]? = some v → ds[i]? = some d → RelV v u → Env0 X.prog X.w X.K X.mg X.base X.A.in1.in1 X.stack s' H' → s'.heap.get? f = some fo → Ext H2 H' → P0 ts H' →
        wpAny (model X.prog X.w) X.A.in1.in1 (call (.ref f) [u]) (CE X.stack X.prog X.w H' s' (fun kv H'' => Dp X.K H'' kv d ∧ Ext H' H'' ∧ P0 ts H'')) (fun _ _ => False) s') ∧
      ∀ (H' : Hp) (p : Addr), Ext H2 H' → P0 ts H' → H' p = none → Q (.ref p) (upd H' p (.lst (byKey (ts.map V.ref) ds)))) :
    wpAny (model X.prog X.w) X.A (call (.builtin "sorted") [.ref r] [(Str.ofString "key", .ref f)]) (EP X pins σ Q) X.xe s := by
  obtain ⟨hz, hs0, vs, kv, hdo⟩ := I.hok d _ hd
  obtain ⟨ep, hat⟩ := hdo.dictAt
  have lk : kvs.length = vs.length := Paired.length kv
  refine PyProof.Rows.call_function_entry_kw PyProof.Rows.kind_sorted PyProof.Rows.plain_sorted PyProof.Rows.entry_sorted (PyProof.Rows.ksk_s1 _ _) ?_
  unfold Builtin.«sorted»
  refine wpAny_bind (m := checkCount "sorted" 1 1 _) (wpAny_pure ?_)
  refine wpAny_bind (PySem.W.kdx_collect (knd := mixKind X.prog X.w) (kvs := vs) (ep := ep) (I.ok.hd hc) hr hat (by omega) fun h' tk as hkp hl hG => ?_)
  obtain ⟨H2, e2, hn2, hoff, hP, J⟩ := pairs_laid (tk := tk) I kv hkp hl hG
  have hla : (as.map Value.ref).length ≤ sizeLine := by rw [List.length_map]; omega
  refine wpAny_bind (wpAny_newList ?_ hla)
  obtain ⟨p0, turn, q⟩ := h H2 as e2 (fun t ht => (hn2 t ht).1) hP
  have hkk : ∀ b o, h'.get? b = some o → (h'.push (seqObj "list" (as.map Value.ref).toArray 0)).get? b = some o := fun b o e => Heap.get?_push_of_some _ e
  have hfn2 : H2 f = none := by
    rw [hoff f fun z => Nat.lt_irrefl _ (Nat.lt_trans (hn2 f z).2 (Heap.lt_size hf))]
    exact hfn
  refine wpAny_bind (wpAny_holding (wpAny_call_entry_kw slot_list_sort ⟨_, Heap.get?_push_size _ rfl, rfl⟩ entry_list_sort ?body (PyProof.Rows.ksk_l1 _ _)))
  case body =>
    refine wpAny_mono (sort_body (s := { s with heap := h'.push (seqObj "list" (as.map Value.ref).toArray 0), toks := tk }) (xs := as.map V.ref) (its := as.map Value.ref) (ds := ds) (Q := Q) (E' := fun _ _ => False) J (Nat.le_refl _) ⟨_, hkp _ _ hf⟩ (J.kept (t' := tk) hkk) (LiI.vals_refs as) (by rw [List.length_map]; omega) (Heap.get?_push_size _ rfl) (J.hok.fresh (Nat.le_refl _)) (hkk _ _ (hkp _ _ hf)) hfn2 hfr hfc hal hk (by rw [List.length_map]; omega) hu p0 turn fun H' a1 a2 a3 => q H' _ a1 a2 a3) (fun f s' hf => ?_) fun _ _ e => e.elim
    obtain ⟨rfl, hq⟩ := hf
    exact ⟨_, rfl, wpAny_pure ⟨_, rfl, hq⟩⟩
end
/-- sorted(e.items(), key=lambda x: body): the reading -/
def tSortI (K : PySem.W.Frag) (T : List (Addr × Str)) (Nl : List Str) (tb : TE) (te : TE) : TE := fun σ H Q => te σ H fun v H1 => ∃ (d : Addr) (kvs : List (Key × V)) (ds : List PyData) (P0 : List Addr → Hp → Prop), v = .ref d ∧ H1 d = some (.dK kvs) ∧ PySem.W.AllAlike ds ∧ PySem.W.Sortable ds ∧ ds.length = kvs.length ∧ (∀ d, d ∈ ds → d.depth ≤ 50) ∧ Tabs T H1 ∧
  ∀ (H2 : Hp) (ts : List Addr), ExtN H1 H2 → Tabs T H2 → Paired (fun (t : Addr) (q : Key × V) => H2 t = some (.tup [kV q.1, q.2])) ts kvs → P0 ts H2 ∧
    (∀ (i : Nat) (v : V) (d : PyData) (H' : Hp), (ts.map V.ref)[i]? = some v → ds[i]? = some d → Ext H2 H' → P0 ts H' → tb (L2.start Nl [v]) H' fun kv H'' => Dp K H'' kv d ∧ Ext H' H'' ∧ P0 ts H'') ∧
    ∀ (H' : Hp) (p : Addr), Ext H2 H' → P0 ts H' → H' p = none → Q (.ref p) (upd H' p (.lst (byKey (ts.map V.ref) ds)))
section
variable {X : Cx}
theorem pe_sortLamI {T : List (Addr × Str)} {c P : Addr} {k : Nat} {y : Str} {e body : Expr} {params : Arguments} {scope : Scope} {p apos cpos kpos lpos pos : Pos} {Nl : List Str} {te tb : TE} (hca : X.calm = true) (hg : Gl X "sorted") (hm : X.mg "sorted" = none) (hv : bootBuiltins "sorted" = some (.builtin "sorted")) (hE : PE X e te)
    (hfs : ∀ b, b ∉ frs X.stack → b ≠ X.env.locals ∧ b ∉ X.fs) (TB : TabB X.base X.mg c P) (hcode : X.env.code = .ref c) (hmT : (P, X.env.qual ++ "<lambda>") ∈ T) (hu : ∀ p ∈ T, p.1 = P → p.2 = X.env.qual ++ "<lambda>") (hr : Room (k + 3) X.A) (S : FnScope Nl [y] scope)
    (hdef : defaultsOf params X.env = ([], [])) (hcl : cloFrom X.env.cells scope.names [] = []) (hbind : ∀ (q : Str) (pm cv ctv u : Value), bindArgs (PySem.W.kla_fn "<lambda>" q params body scope [] pm cv ctv) ⟨[u], []⟩ = pure ([y].zip [u]))
    (hbody : ∀ (A : Around) (outer : List Env) (s : Shared) (H : Hp) (f c' : Addr), Room k (A.deeper (envOfC (X.env.qual ++ "<lambda>") scope s.heap.objs.size f (.ref c'))) →
      PE (cxOf C8.CX0 X.prog X.w X.K X.mg X.base Nl (X.env.qual ++ "<lambda>") scope f (.ref c') A outer s H C8.E0) body tb)
    (hbase : attributeBase e "items" X.env (eval e X.env) = eval e X.env := by rfl) (hline : (apos.endLine == cpos.line) = true := by rfl)
    (hs : starEach [.Call (.Attribute e "items" apos) [] [] cpos] X.env = (false, eval (.Call (.Attribute e "items" apos) [] [] cpos) X.env) :: starEach [] X.env := by rfl)
    (he : backTo pos (starEach [.Call (.Attribute e "items" apos) [] [] cpos] X.env) = (false, eval (.Call (.Attribute e "items" apos) [] [] cpos) X.env) :: backTo pos (starEach [] X.env) := by rfl) (hpl : (backTo pos (starEach [.Call (.Attribute e "items" apos) [] [] cpos] X.env)).any (·.1) = false := by rfl) :
    PE X (.Call (.Name "sorted" p) [.Call (.Attribute e "items" apos) [] [] cpos] [⟨some (Str.ofString "key"), .Lambda params body scope lpos, kpos⟩] pos) (tSortI X.K T Nl tb te) := by
  refine ⟨fun pins s σ H Q I h => ?_⟩
  refine wpAny_Call_Name_kw (ld_blt I hg hm hv ?_ (by decide) (by decide))
  refine PyProof.Rows.callWith_kw ?_ he hpl
  rw [he]
  refine Calls.spliced_cons ?_
  refine wpAny_Call_method (T := "dict") (id := "dict.items") hbase rfl hline F.plainAttrs_dict F.slot_dict_items F.type_dict_items (thn (hE.run pins s σ H _ I h) fun u s1 ⟨x, H1, I1, rx, q1⟩ => ?_)
  obtain ⟨d, kvs, ds, P0, rfl, hd, hal, hk, hlen, hdp, hT, q⟩ := q1
  obtain rfl : u = Value.ref d := rx
  obtain ⟨hz, hs0, vs, kv, hdo⟩ := I1.hok d _ hd
  have lk : kvs.length = vs.length := Paired.length kv
  have I2 : Inv X ((s1.heap.objs.size, { cls := .type "dict_items", data := .fields #[.ref d] }) :: pins) σ H1 { s1 with heap := s1.heap.push { cls := .type "dict_items", data := .fields #[.ref d] } } := ClX.pin_new (t' := s1.toks) I1 (fun b ob q => Heap.get?_push_of_some _ q) (Nat.le_refl _) (Heap.get?_push_size _ rfl) (fun v z => by cases z)
  refine ⟨hdo.typeIs, hdo.mapOf.noDict, ?_⟩
  show wpAny _ _ (callWith cpos (.builtin "dict.items") [.ref d] [] []) _ X.xe s1
  refine method_meetsIn F.slot_dict_items F.entry_dict_items rfl (PySem.evalArgs_none ⟨rfl, hdo.typeIs, F.args_dict_items_1 _, _, meets_dict_items (mixKind X.prog X.w) d hs0, ⟨vs, hdo⟩, ?_⟩)
  refine Calls.spliced_nil ?_
  show wpAny _ _ (evalAll [(do let v ← eval (.Lambda params body scope lpos) X.env; standAt pos; pure v)]) _ _ _
  refine wpAny_evalAll_cons (wpAny_bind (lam_make2 I2 TB hcode hmT hu hT hdef (fun y hy e => ?_) fun f c' pm' ctv H2 s' I3 eN T1 hf hfn hfr hco => wpAny_bind (wpAny_standAt (wpAny_pure (wpAny_evalAll_nil ?_)))))
  · exact absurd e (S.nofree y hy)
  rw [hcl] at hf
  show wpAny _ _ (call (.builtin "sorted") [.ref s1.heap.objs.size] [(Str.ofString "key", .ref f)]) _ _ _
  have hd2 : H2 d = some (.dK kvs) := eN _ _ hd fun ps z => nomatch z
  have hview : s'.heap.IsItemsView s1.heap.objs.size d := ⟨{ cls := .type "dict_items", data := .fields #[.ref d] }, ClX.pin_at I3, rfl, rfl⟩
  refine wpAny_mono (sorted_runI (P0 := P0) (Q := Q) hca I3 hd2 hview hf hfn (hfs f hfr) (fun v z => by cases z) hal hk hlen (fun d hd => ?_) fun H3 ts e3 hts hP => ?_) (fun v s2 h2 => ClX.unpinE h2) fun _ _ e => e
  · have h1 := hr.un
    have h2 := hdp d hd
    omega
  · have T3 : Tabs T H3 := T1.ext e3
    obtain ⟨p0, turn, q⟩ := q H3 ts (eN.trans (ExtN.of e3)) T3 hP
    refine ⟨p0, fun i v u d s2 H' hv hd ru e0 hf2 eH hp => ?_, q⟩
    have hco2 : H' c' = some (CodeO c' (X.env.qual ++ "<lambda>")) := eH _ _ (e3 _ _ hco)
    have rc := lam_run (Q := fun kv H'' => Dp X.K H'' kv d ∧ Ext H' H'' ∧ P0 ts H'') (E := C8.E0) (CX := C8.CX0) (us := [u]) (vs := [v]) (k := k) S hr.in1.in1 e0 hf2 hco2 (hbind _ _ _ _ _) (.cons ru .nil) rfl fun hr2 => ⟨tb, hbody _ _ _ _ _ _ hr2, turn i v d H' hv hd eH hp⟩
    refine wpAny_call (codeAny_mono rc fun r s3 hq => ?_)
    cases r with
    | error e => exact (show False from hq).elim
    | ok fl =>
      cases fl with
      | ret u => exact hq
      | next => exact False.elim hq
      | brk => exact False.elim hq
      | cont => exact False.elim hq
end
/-! ## a def whose code object is told -/
structure DefC (K : PySem.W.Frag) (mg : Str → Option Value) (x : Str) (st : Stmt) (ps : List Str) (f : Addr) (fd : FuncData) (c : Addr) : Prop where
  ex : ∃ (oc : Value) (od : Option Addr) (kV doc pm : Value) (an : Option Addr) (ct : Value) (osl : Array (Option Value)),
    fd = PySem.W.fnOf x x (defArgs st) (defBody st) (defScope st) .none kV doc pm an (.ref c) ct ∧ K.lookup f = some ⟨oc, od, .func fd, osl⟩ ∧ PySem.W.codeIn K (.ref c) x = true
  F : Fun K x x st f fd
  b : Binds K fd ps []
  g : mg x = some (.ref f)
section
variable {P : Program} {w : World} {K : PySem.W.Frag} {mg : Str → Option Value} {base : Heap}
theorem DefC.ok {x : Str} {st : Stmt} {f c : Addr} {fd : FuncData} {N ps : List Str} {k : Nat} {sp : Sp} (D : DefC K mg x st ps f fd c) (S : FnScope N ps (defScope st)) (len : ∀ vs H Q E, sp vs H Q E → vs.length = ps.length)
    (hbody : ∀ (A : Around) (outer : List Env) (s : Shared) (H : Hp) (vs : List V) (Q : VK) (E : XK), Room k (A.deeper (envOfC x (defScope st) s.heap.objs.size f (.ref c))) → sp vs H Q E →
      ∃ t, PSs (cxOf CX0 P w K mg base N x (defScope st) f (.ref c) A outer s H E).nox (defBody st) t ∧ t { nx := fun _ H' => Q .non H', rt := Q } (start N vs) H) : FnOk P w K mg base CX0 (k + 1) f fd ps sp := by
  obtain ⟨oc, od, kV, doc, pm, an, ct, osl, rfl, lk, hcd⟩ := D.ex
  refine fn_of lk hcd S len fun A outer s H vs Q E hr hsp => ?_
  obtain ⟨t, h, q⟩ := hbody A outer s H vs Q E hr hsp
  exact ⟨t, h.nox, q⟩
end
end HS
namespace HB
open PySem Builtin Float PyProof.Rows
def binText (n : Nat) : Str := ⟨((Nat.toDigits 2 n).map Char.toNat).toArray⟩
section
variable {prog : Program} {w : World} {A : Around} {E : Value → Shared → Prop} {s : Shared}
theorem parse_b : parseFormatSpec (Str.ofString "b").cps.toList "int" 62 = .ok { fill := 32, align := 62, sign := none, alt := false, width := none, grouping := none, precision := none, type := some 98, noNeg0 := false } := by
  first | rfl | decide | kernel_rfl
theorem formatField_bin {n : Nat} {t : Tok} {spec : Str} {f : FormatSpec} {Q : Value → Shared → Prop} (hp : parseFormatSpec spec.cps.toList "int" 62 = .ok f) (hne : (spec.length == 0) = false)
    (hasc : ((spec.cps.toList.drop 1).any (· ≥ 128) || (spec.cps.getD 0 0 ≥ 128 && !([60, 62, 61, 94] : List Nat).contains (spec.cps.getD 1 0))) = false) (hty : f.type.getD (if spec.cps.back? == some 0 then 0 else 100) = 98) (hpr : f.precision = none) (hz : f.noNeg0 = false) (hal : f.alt = false) (hw : f.width = none) (hgr : f.grouping = none) (hsg : f.sign = none) (hfi : f.fill = 32) (hali : f.align = 62)
    (hlen : (Nat.toDigits 2 n).length ≤ sizeLine) (h : Q (.str (binText n) (s.toks + 1)) { s with toks := s.toks + 1 + 1 }) (hsz : spec.length ≤ sizeLine := by size_fits) :
    wpAny (model prog w) A (formatField (.int (n : Int) t) spec) Q E s := by
  have etx : intField' f (decide ((n : Int) < 0)) [] ((Nat.toDigits 2 (n : Int).natAbs).map fun c => (if ((98 : Nat) == 88) = true then c.toUpper else c).toNat) [] 4 = binText n := by
    rw [decide_eq_false (show ¬ (n : Int) < 0 by omega)]
    unfold intField' binText
    have hne : (Nat.toDigits 2 n).isEmpty = false := by
      have := tDigits_len_ge 2 n
      cases h : Nat.toDigits 2 n with
      | nil => rw [h] at this; simp at this
      | cons _ _ => rfl
    simp [hne, hw, hgr, hsg, hfi, hali]
    try omega
  show wpAny _ _ (holding [.int (n : Int) t] (pyFormat (.int (n : Int) t) spec)) Q E s
  refine wpAny_holding ?_
  unfold pyFormat
  refine wpAny_bind (wpAny_mkStr ?_ hsz)
  refine wpAny_bind (m := callSpecial? (.int (n : Int) t) (Str.ofString "__format__") [.str spec s.toks]) (wpAny_callSpecial?_slot (name := Str.ofString "__format__") (typeIs_int _ _ t) slot_int_format ?_)
  refine wpAny_call (codeAny_call_builtin slot_int_format.plain entry_int_format (slot_int_format.check _ _ _ _ _ _ _ _ (typeIs_int _ _ t) (args_int_format _ _) ?_))
  unfold Builtin.«int.__format__»
  simp only [selfAndOne, noKeywords, Int.intOfSelf, asInt?, asStr?, List.isEmpty_nil, if_true, pure_bind, bind_pure, bind_assoc, hne, hasc, Bool.false_eq_true, if_false,
    show (Value.str spec s.toks == Value.none) = false from rfl]
  refine wpAny_bind (wpAny_typeNameOf (T := "str") (typeIs_str _ _ _) (by decide) fun _ => ?_)
  first | refine wpAny_bind (wpAny_typeNameOfCut_int ?_) | refine wpAny_bind (wpAny_typeNameOf_int ?_)
  simp only [hp, hty]
  rw [if_pos (by decide)]
  show wpAny _ _ (if _ then _ else _) _ _ _
  rw [if_neg (by simp [hpr])]
  show wpAny _ _ (if _ then _ else _) _ _ _
  rw [if_neg (by simp [hz])]
  show wpAny _ _ (if _ then _ else _) _ _ _
  rw [if_neg (by decide)]
  show wpAny _ _ (if _ then _ else _) _ _ _
  rw [if_neg (by decide)]
  show wpAny _ _ (if _ then _ else _) _ _ _
  rw [if_neg (by simp [hw])]
  show wpAny _ _ (retStr _) _ _ _
  unfold retStr
  refine wpAny_bind (wpAny_mkStr (wpAny_pure ?_) ?hs2)
  case hs2 =>
    simp only [hal, Bool.false_eq_true, if_false, show ((2 : Nat) == 10) = false by decide]
    refine (fun z (e : z = binText n) => by rw [e]; show ((Nat.toDigits 2 n).map Char.toNat).toArray.size ≤ _; rw [List.size_toArray, List.length_map]; exact hlen : ∀ z : Str, z = binText n → z.length ≤ sizeLine) _ ?_
    conv => lhs; whnf
    have hne : (Nat.toDigits 2 n).isEmpty = false := by
      have := tDigits_len_ge 2 n
      cases h : Nat.toDigits 2 n with
      | nil => rw [h] at this; simp at this
      | cons _ _ => rfl
    have hneg : decide ((n : Int) < 0) = false := decide_eq_false (by omega)
    have hfa : decide (f.fill = 48 ∧ f.align = 61) = false := decide_eq_false (by rw [hfi]; omega)
    unfold binText
    simp [hne, hw, hgr, hsg, hfi, hali, hneg]
    cases instDecidableEqBool (f.align == 60) true <;> simp
  simp only [hal, Bool.false_eq_true, if_false, show ((2 : Nat) == 10) = false by decide]
  refine wpAny_bind (wpAny_isInstance (typeIs_str _ _ _) isSubtype_str_str (wpAny_pure ?_))
  refine (fun z (e : z = binText n) => by rw [e]; exact h : ∀ z : Str, z = binText n → Q (.str z (s.toks + 1)) { s with toks := s.toks + 1 + 1 }) _ ?_
  conv => lhs; whnf
  have hne : (Nat.toDigits 2 n).isEmpty = false := by
    have := tDigits_len_ge 2 n
    cases h : Nat.toDigits 2 n with
    | nil => rw [h] at this; simp at this
    | cons _ _ => rfl
  have hneg : decide ((n : Int) < 0) = false := decide_eq_false (by omega)
  have hfa : decide (f.fill = 48 ∧ f.align = 61) = false := decide_eq_false (by rw [hfi]; omega)
  unfold binText
  simp [hne, hw, hgr, hsg, hfi, hali, hneg]
  cases instDecidableEqBool (f.align == 60) true <;> simp
theorem formatField_b {n : Nat} {t : Tok} {Q : Value → Shared → Prop} (hlen : (Nat.toDigits 2 n).length ≤ sizeLine) (h : Q (.str (binText n) (s.toks + 1)) { s with toks := s.toks + 1 + 1 }) :
    wpAny (model prog w) A (formatField (.int (n : Int) t) (Str.ofString "b")) Q E s :=
  formatField_bin parse_b (by decide) (by decide) rfl rfl rfl rfl rfl rfl rfl rfl rfl hlen h (by decide)
end
end HB
namespace HB
open PySem PySem.Spec PyProof.Rows L2
section
variable {X : Cx} {e : Expr} {te : TE} {pos p2 p3 : Pos} {k : Nat}
/-- f"{e:b}" of a natural number -/
def tBin (te : TE) : TE := fun σ H Q => te σ H fun x H1 => ∃ n : Nat, x = .int (n : Int) ∧ (Nat.toDigits 2 n).length ≤ sizeLine ∧ Q (.str (binText n)) H1
theorem pe_fmtB {kk : Nat} (he : PE X e te) : PE X (.FormattedValue e (-1) (some (.JoinedStr [.Constant (.str "b") kk p3] p2)) pos) (tBin te) := by
  refine ⟨fun pins s σ H Q I h => ?_⟩
  refine wpAny_FormattedValue_spec (thn (he.run pins s σ H _ I h) fun u s1 ⟨x, H1, I1, r1, q1⟩ => ?_)
  obtain ⟨n, ex, hl, q⟩ := q1
  subst ex
  obtain ⟨t, rfl⟩ := r1
  refine wpAny_mono ((pe_joined1 (pe_str (x := "b") (j := kk) (pos := p3))).run pins s1 σ H1 (fun v H2 => v = .str "b" ∧ H2 = H1) I1 ⟨rfl, rfl⟩) (fun r s2 hr => ?_) fun _ _ e => e
  obtain ⟨v, H2, I2, r2, rfl, rfl⟩ := hr
  obtain ⟨t2, rfl⟩ := r2
  exact ⟨Str.ofString "b", t2, rfl, formatField_b hl ⟨.str (binText n), H2, I2.tok _, ⟨_, rfl⟩, q⟩⟩
end
end HB
namespace BM
open PySem
/-- the number of the ones among the first k binary places of n -/
def pop (k n : Nat) : Nat := ((List.range k).filter fun i => n.testBit i).length
def ones (l : List Char) : Nat := (l.filter fun c => decide (c = '1')).length
theorem pop_succ (k n : Nat) : pop (k + 1) n = n % 2 + pop k (n / 2) := by
  unfold pop
  rw [List.range_succ_eq_map, List.filter_cons]
  have h0 : n.testBit 0 = decide (n % 2 = 1) := Nat.testBit_zero n
  have e : (List.filter (fun i => n.testBit i) (List.map Nat.succ (List.range k))).length = (List.filter (fun i => (n / 2).testBit i) (List.range k)).length := by
    rw [List.filter_map, List.length_map]
    congr 1
    apply List.filter_congr
    intro i _
    show n.testBit (i + 1) = (n / 2).testBit i
    rw [Nat.testBit_succ]
  rw [h0]
  rcases Nat.mod_two_eq_zero_or_one n with h | h
  · rw [h, if_neg (by simp), e]
    omega
  · rw [h, if_pos (by simp), List.length_cons, e]
    omega
theorem ones_digit (n : Nat) (h : n < 2) (l : List Char) : ones (Nat.digitChar n :: l) = n + ones l := by
  unfold ones
  rcases (by omega : n = 0 ∨ n = 1) with rfl | rfl
  · rw [List.filter_cons, if_neg (by decide)]
    omega
  · rw [List.filter_cons, if_pos (by decide), List.length_cons]
    omega
theorem ones_core : ∀ (fuel k n : Nat) (ds : List Char), n < 2 ^ k → n < fuel → ones (Nat.toDigitsCore 2 fuel n ds) = pop k n + ones ds
  | 0, _, _, _, _, h => absurd h (by omega)
  | fuel + 1, k, n, ds, hk, hf => by
    unfold Nat.toDigitsCore
    have e := ones_digit (n % 2) (Nat.mod_lt _ (by decide)) ds
    have hp : pop k n = n % 2 + pop (k - 1) (n / 2) := by
      cases k with
      | zero =>
        have : n = 0 := by simpa using hk
        subst this
        rfl
      | succ k => exact pop_succ k n
    by_cases h0 : n / 2 = 0
    · simp only [h0, if_true]
      rw [e, hp, h0]
      have : pop (k - 1) 0 = 0 := by
        unfold pop
        rw [List.length_eq_zero_iff, List.filter_eq_nil_iff]
        intro i _
        simp
      omega
    · simp only [h0, if_false]
      have h2 : n / 2 < 2 ^ (k - 1) := by
        cases k with
        | zero =>
          have : n = 0 := by simpa using hk
          subst this
          simp at h0
        | succ k =>
          have : 2 ^ (k + 1) = 2 * 2 ^ k := by rw [Nat.pow_succ]; omega
          show n / 2 < 2 ^ k
          omega
      rw [ones_core fuel (k - 1) (n / 2) _ h2 (by omega), e, hp]
      omega
theorem ones_digits {k n : Nat} (h : n < 2 ^ k) : ones (Nat.toDigits 2 n) = pop k n := by
  unfold Nat.toDigits
  rw [ones_core (n + 1) k n [] h (by omega)]
  rfl
theorem digits_len {k n : Nat} (hk : 1 ≤ k) (h : n < 2 ^ k) : (Nat.toDigits 2 n).length ≤ k := by
  have := (Nat.length_toDigits_le_iff (n := n) (b := 2) (by decide) hk).mpr h
  exact this
end BM
namespace BM
open PySem Builtin Builtin.Str StrLaws
theorem occ_count (x : Str) (c limit : Nat) : ∀ (k a : Nat) (acc : Array Nat) (free : Nat), free ≤ a → acc.size + k ≤ limit →
    (forIn (List.range' a k) (acc, free) (occBody x ⟨#[c]⟩ x.length limit)).run.fst.size = acc.size + ((List.range' a k).filter fun i => decide (x.cps.toList[i]? = some c)).length
  | 0, a, acc, free, _, _ => rfl
  | k + 1, a, acc, free, hf, hl => by
    rw [List.range'_succ, List.forIn_cons, List.filter_cons]
    unfold occBody
    by_cases h : x.cps.toList[a]? = some c
    · have q := (subAt_one x c a).mpr h
      rw [if_pos ⟨⟨⟨by show acc.size < limit; omega, hf⟩, q.1⟩, q.2⟩, if_pos (decide_eq_true h), List.length_cons]
      have ih := occ_count x c limit k (a + 1) (acc.push a) (a + (⟨#[c]⟩ : Str).length) (Nat.le_refl _) (by rw [Array.size_push]; omega)
      rw [Array.size_push] at ih
      refine Eq.trans ih ?_
      omega
    · rw [if_neg (fun z => h ((subAt_one x c a).mp ⟨z.1.2, z.2⟩)), if_neg (by simpa using h)]
      exact occ_count x c limit k (a + 1) acc free (Nat.le_succ_of_le hf) (by omega)
theorem idx_count (c : Nat) : ∀ (l : List Nat) (pre : List Nat), ((List.range' pre.length (l.length + 1)).filter fun i => decide ((pre ++ l)[i]? = some c)).length = (l.filter fun z => decide (z = c)).length
  | [], pre => by
    rw [List.length_nil, List.range'_succ, List.filter_cons, if_neg (by simp)]
    rfl
  | z :: l, pre => by
    have ih := idx_count c l (pre ++ [z])
    rw [List.length_append, List.length_singleton, List.append_assoc] at ih
    rw [List.length_cons, List.range'_succ, List.filter_cons, List.filter_cons]
    have e : (pre ++ z :: l)[pre.length]? = some z := by simp
    rw [e]
    by_cases h : z = c
    · rw [if_pos (by simp [h]), if_pos (by simp [h]), List.length_cons, List.length_cons]
      exact congrArg (· + 1) ih
    · rw [if_neg (by simp [h]), if_neg (by simp [h])]
      exact ih
theorem count_one (x : Str) (c : Nat) : Txt.count x ⟨#[c]⟩ = ((x.cps.toList.filter fun z => decide (z = c)).length : Nat) := by
  unfold Txt.count
  rw [occ_eq, Array.length_toList, occ_count x c _ _ 0 #[] 0 (Nat.le_refl _) (by simp)]
  have h := idx_count c x.cps.toList []
  have e : x.length + 1 - 0 = x.cps.toList.length + 1 := by simp [Str.length]
  rw [e]
  simp only [List.length_nil, List.nil_append] at h
  rw [h]
  simp
theorem count_bin {k n : Nat} (h : n < 2 ^ k) : Txt.count (HB.binText n) "1" = (pop k n : Nat) := by
  have e1 : (Str.ofString "1") = ⟨#[49]⟩ := by decide
  show Txt.count (HB.binText n) (Str.ofString "1") = _
  rw [e1, count_one, ← ones_digits h]
  unfold HB.binText ones
  congr 1
  rw [List.toList_toArray, List.filter_map, List.length_map]
  congr 1
  apply List.filter_congr
  intro ch _
  show decide (ch.toNat = 49) = decide (ch = '1')
  by_cases q : ch = '1'
  · subst q
    rfl
  · rw [decide_eq_false q, decide_eq_false]
    intro z
    exact q (Char.ext (UInt32.toNat_inj.mp z))
end BM
namespace Q08
open PySem PySem.Spec PyProof.Rows L2 SX HL
def topS (i : Nat) : Stmt := PySem.Challenge.pw_quillrun_k08_components_in_order.main.body.getD i (.Pass ⟨0, 0, 0, 0⟩)
abbrev sComponents : Stmt := topS 1
theorem scComponents : FnScope ["uses", "groups", "reached", "name", "ordered", "_", "names"] ["uses"] (defScope sComponents) := ⟨rfl, rfl, rfl, by decide +kernel, rfl, by decide +kernel, by decide +kernel⟩
abbrev sReachedNames : Stmt := topS 2
theorem scReachedNames : FnScope ["uses", "reached", "order", "growing", "name", "found", "used", "place"] ["uses"] (defScope sReachedNames) := ⟨rfl, rfl, rfl, by decide +kernel, rfl, by decide +kernel, by decide +kernel⟩
abbrev sUsedFirst : Stmt := topS 3
theorem scUsedFirst : FnScope ["uses", "order", "met", "first", "waiting", "name", "is_done", "used"] ["uses"] (defScope sUsedFirst) := ⟨rfl, rfl, rfl, by decide +kernel, rfl, by decide +kernel, by decide +kernel⟩
abbrev sKnownUses : Stmt := topS 4
theorem scKnownUses : FnScope ["uses", "name", "used"] ["uses", "name"] (defScope sKnownUses) := ⟨rfl, rfl, rfl, by decide +kernel, rfl, by decide +kernel, by decide +kernel⟩
abbrev sCountOf : Stmt := topS 5
theorem scCountOf : FnScope ["reached"] ["reached"] (defScope sCountOf) := ⟨rfl, rfl, rfl, by decide +kernel, rfl, by decide +kernel, by decide +kernel⟩
abbrev sLawMix : Stmt := topS 7
theorem scLawMix : FnScope ["cell", "k", "value"] ["cell", "k"] (defScope sLawMix) := ⟨rfl, rfl, rfl, by decide +kernel, rfl, by decide +kernel, by decide +kernel⟩
abbrev sLawDraws : Stmt := topS 8
theorem scLawDraws : FnScope ["script", "draws", "k", "cell", "place"] ["script"] (defScope sLawDraws) := ⟨rfl, rfl, rfl, by decide +kernel, rfl, by decide +kernel, by decide +kernel⟩
abbrev sLawAt : Stmt := topS 9
theorem scLawAt : FnScope ["draws", "index"] ["draws", "index"] (defScope sLawAt) := ⟨rfl, rfl, rfl, by decide +kernel, rfl, by decide +kernel, by decide +kernel⟩
abbrev sLawIsInteger : Stmt := topS 10
theorem scLawIsInteger : FnScope ["actual"] ["actual"] (defScope sLawIsInteger) := ⟨rfl, rfl, rfl, by decide +kernel, rfl, by decide +kernel, by decide +kernel⟩
abbrev sLawSame : Stmt := topS 11
theorem scLawSame : FnScope ["actual", "expected", "k"] ["actual", "expected"] (defScope sLawSame) := ⟨rfl, rfl, rfl, by decide +kernel, rfl, by decide +kernel, by decide +kernel⟩
abbrev sLawIsDict : Stmt := topS 12
theorem scLawIsDict : FnScope ["actual", "expected", "key"] ["actual", "expected"] (defScope sLawIsDict) := ⟨rfl, rfl, rfl, by decide +kernel, rfl, by decide +kernel, by decide +kernel⟩
abbrev sLawName : Stmt := topS 13
theorem scLawName : FnScope ["number", "letters", "name", "k"] ["number"] (defScope sLawName) := ⟨rfl, rfl, rfl, by decide +kernel, rfl, by decide +kernel, by decide +kernel⟩
abbrev sLawUses : Stmt := topS 14
theorem scLawUses : FnScope ["draws", "names", "k", "name", "uses", "used", "j", "pick"] ["draws"] (defScope sLawUses) := ⟨rfl, rfl, rfl, by decide +kernel, rfl, by decide +kernel, by decide +kernel⟩
abbrev sLawReach : Stmt := topS 15
theorem scLawReach : FnScope ["uses", "name", "found", "k", "each", "other"] ["uses", "name"] (defScope sLawReach) := ⟨rfl, rfl, rfl, by decide +kernel, rfl, by decide +kernel, by decide +kernel⟩
abbrev sLaw : Stmt := topS 16
theorem scLaw : FnScope ["script", "draws", "uses", "passed", "name", "reach", "told", "listed", "last", "part", "other", "together", "count"] ["script"] (defScope sLaw) := ⟨rfl, rfl, rfl, by decide +kernel, rfl, by decide +kernel, by decide +kernel⟩
structure Txt (mg : Str → Option Value) : Prop where
  len : mg "len" = none
  range : mg "range" = none
  min : mg "min" = none
  isinstance : mg "isinstance" = none
  bool : mg "bool" = none
  int : mg "int" = none
  str : mg "str" = none
  tuple : mg "tuple" = none
  list : mg "list" = none
  dict : mg "dict" = none
  sorted : mg "sorted" = none
  enumerate : mg "enumerate" = none
end Q08
namespace Q08
open PySem PySem.Spec PyProof.Rows L2 SX HL
section
variable {P : Program} {w : World} {K : PySem.W.Frag} {mg : Str → Option Value} {base : Heap}
/-! ### _law_mix -/
def spMix : Sp := fun vs H Q _ => ∃ (c k : Int), vs = [.int c, .int k] ∧ ∀ v, 0 ≤ v → v < 9973 → Q (.int v) H
theorem ok_mix {f : Addr} {fd : FuncData} {k : Nat} (D : DefN K mg "_law_mix" sLawMix ["cell", "k"] f fd) (T : Txt mg) : FnOk P w K mg base CX0 (k + 1) f fd ["cell", "k"] spMix := by
  refine D.F.ok scLawMix (fun vs H Q E h => ?_) (fun cdv A outer s H vs Q E hr h => ?_)
  · obtain ⟨c, k, rfl, _⟩ := h
    rfl
  · obtain ⟨c, k, rfl, qq⟩ := h
    refine ⟨_, (pss_cons (ps_set (i := 2) scLawMix.nd rfl (.inl rfl) (pe_op op_mod (pe_callTy call_int1 (by rfl) T.int HL.boot_int (pa_cons (pe_op op_add (pe_op op_add (pe_op op_mul (pe_callTy call_int1 (by rfl) T.int HL.boot_int (pa_cons (pv 0) pa_nil)) pe_int) (pe_op op_mul (pv 1) pe_int)) pe_int) pa_nil)) pe_int))
        (pss_cons (ps_set (i := 2) scLawMix.nd rfl (.inl rfl) (pe_op op_mod (pe_callTy call_int1 (by rfl) T.int HL.boot_int (pa_cons (pe_op op_add (pe_op op_add (pe_op op_mul (pv 2) (pv 2)) (pe_op op_mul (pv 1) pe_int)) pe_int) pa_nil)) pe_int))
        (pss_one (ps_ret (pe_op op_mod (pe_op op_fdiv (pv 2) pe_int) pe_int))))), ?_⟩
    refine ⟨_, rfl, .inl ⟨c, rfl, _, _, rfl, rfl, .inr ⟨by decide, by decide⟩, _, rfl, _, _, rfl, rfl, .inr ⟨by decide, by decide⟩, _, _, rfl, rfl, _, _, rfl, rfl, .inl ⟨_, rfl, _, _, rfl, rfl, (by show (0 : Int) < 2147483647; decide), ?_⟩⟩⟩
    have v0 := Int.emod_nonneg (c * 48271 + k * 69621 + 12345) (show (2147483647 : Int) ≠ 0 by decide)
    have v1 := Int.emod_lt_of_pos (c * 48271 + k * 69621 + 12345) (show (0 : Int) < 2147483647 by decide)
    revert v0 v1
    dsimp only
    generalize (c * 48271 + k * 69621 + 12345) % 2147483647 = v
    intro v0 v1
    refine ⟨_, rfl, _, rfl, v, v, rfl, rfl, .inl ⟨by omega, by omega⟩, _, rfl, _, _, rfl, rfl, .inr ⟨by decide, by decide⟩, _, _, rfl, rfl, _, _, rfl, rfl, .inl ⟨_, rfl, _, _, rfl, rfl, (by show (0 : Int) < 2147483399; decide), ?_⟩⟩
    refine ⟨_, rfl, _, _, rfl, rfl, ⟨by decide, by decide⟩, _, _, rfl, rfl, (by show (0 : Int) < 9973; decide), qq _ (Int.emod_nonneg _ (by decide)) (Int.emod_lt_of_pos _ (by decide))⟩
end
end Q08
namespace Q08
open PySem PySem.Spec PyProof.Rows L2 SX HL
section
variable {P : Program} {w : World} {K : PySem.W.Frag} {mg : Str → Option Value} {base : Heap}
/-! ### _law_draws -/
def Draws (ds : List Int) : Prop := ∀ x ∈ ds, 0 ≤ x ∧ x < 9973
def spDraws (K : PySem.W.Frag) : Sp := fun vs H Q _ => ∃ (a : Addr) (ns : List Int), vs = [.ref a] ∧ SqL K H a (ns.map V.int) ∧ ns.length ≤ 63 ∧
  ∀ d H' ds, H d = none → Same H H' → H' d = some (.lst (ds.map V.int)) → ds.length ≤ 4000 → Draws ds → Q (.ref d) H'
theorem ok_draws {f fM : Addr} {fd fdM : FuncData} {k : Nat} (D : DefN K mg "_law_draws" sLawDraws ["script"] f fd) (T : Txt mg) (DLawMix : DefN K mg "_law_mix" sLawMix ["cell", "k"] fM fdM) : FnOk P w K mg base CX0 (k + 2) f fd ["script"] (spDraws K) := by
  have GLawMix : FnOk P w K mg base CX0 (k + 1) fM fdM ["cell", "k"] spMix := ok_mix DLawMix T
  refine D.F.ok scLawDraws (fun vs H Q E h => ?_) (fun cdv A outer s H vs Q E hr h => ?_)
  · obtain ⟨a, ns, rfl, _⟩ := h
    rfl
  · obtain ⟨a, ns, rfl, hS, hl, qq⟩ := h
    refine ⟨_, (pss_cons (ps_set (i := 1) scLawDraws.nd rfl (.inl rfl) (pe_lst pa_nil))
        (pss_cons (ps_for PassesOwn.never rfl (pi_range1 (by rfl) T.range (pa_cons (pe_callB (call_min2 rfl) (by rfl) T.min (by decide +kernel) (pa_cons pe_int (pa_cons (pe_callB call_len_seq (by rfl) T.len PySem.boot_len (pa_cons (pv 0) pa_nil)) pa_nil))) pa_nil)) (pg_name (i := 2) scLawDraws.nd rfl (.inl rfl)) (pss_cons (ps_set (i := 3) scLawDraws.nd rfl (.inl rfl) (pe_callTy call_int1 (by rfl) T.int HL.boot_int (pa_cons (pe_ix ix_list (pv 0) (pv 2) (fun _ _ => rfl)) pa_nil)))
        (pss_one (ps_if (pt_cmpR op_lt (pv 3) (pe_op op_pow pe_int pe_int) (nomark _)) (pss_one (ps_expr (pe_bm PySem.F.plainAttrs_list PySem.F.slot_list_append PySem.F.type_list_append mt_append (pv 1) (pa_cons (pe_call GLawMix (hr.mono (by omega)) (by rfl) DLawMix.g DLawMix.F.kp DLawMix.b .nil pass0 (pa_cons (pv 3) (pa_cons (pv 2) pa_nil))) pa_nil)))) (pss_one (ps_for PassesOwn.never rfl (pi_range1 (by rfl) T.range (pa_cons pe_int pa_nil)) (pg_name (i := 4) scLawDraws.nd rfl (.inl rfl)) (pss_one (ps_if (pt_cmpR op_gt (pv 3) pe_int (nomark _)) (pss_cons (ps_expr (pe_bm PySem.F.plainAttrs_list PySem.F.slot_list_append PySem.F.type_list_append mt_append (pv 1) (pa_cons (pe_op op_mod (pe_callTy call_int1 (by rfl) T.int HL.boot_int (pa_cons (pv 3) pa_nil)) pe_int) pa_nil)))
        (pss_one (ps_set (i := 3) scLawDraws.nd rfl (.inl rfl) (pe_op op_fdiv (pv 3) pe_int)))) pss_nil))))))))
        (pss_one (ps_ret (pv 1))))), ?_⟩
    refine ⟨Nat.zero_le _, fun D0 hD => ⟨_, rfl, a, _, rfl, .inl ((same_upd hD).seq hS), 63, _, rfl, _, rfl, ?_⟩⟩
    have hlen : (ns.map V.int).length = ns.length := List.length_map _
    rw [hlen]
    have nn : (if (ns.length : Int) < 63 then (ns.length : Int) else 63) = (ns.length : Int) := by
      split <;> omega
    rw [nn]
    refine ⟨by omega, by omega, ?_⟩
    have ap : ∀ {H' : Hp} {ds : List Int} {v : Int}, Same H H' → Same H (upd H' D0 (.lst (ds.map V.int ++ [.int v]))) := fun s b o hb => by
      rw [upd_ne (ne_of_none hb hD)]
      exact s b o hb
    refine for_range (lo := 0) (n := ns.length) (fun i σ H' => ∃ (ds : List Int) (y2 y3 y4 : Option V), σ = [some (.ref a), some (.ref D0), y2, y3, y4] ∧ Same H H' ∧ H' D0 = some (.lst (ds.map V.int)) ∧ ds.length ≤ 60 * i ∧ Draws ds)
      ⟨[], none, none, none, rfl, same_upd hD, upd_same, Nat.zero_le _, fun _ h => nomatch h⟩ ?_ ?_
    · rintro i σ H' hi ⟨ds, y2, y3, y4, rfl, sm, hd, hdl, hdr⟩
      have hg : atI (ns.map V.int) ((0 : Int) + (i : Int)) = some (.int (ns.getD i 0)) := by
        rw [Int.zero_add]
        refine atI_nat ?_
        simp [hi]
      generalize ns.getD i 0 = x at hg
      refine ⟨_, rfl, _, rfl, a, _, _, _, rfl, rfl, sm.seq hS, hg, .inl ⟨x, rfl, ?_⟩⟩
      refine ⟨_, rfl, 10, 18, rfl, rfl, ⟨by decide, by decide, by decide⟩, _, _, rfl, rfl, _, rfl, ite2 (fun _ => ?_) (fun e => ?_)⟩
      · refine ⟨_, rfl, .inl ⟨rfl, _, SqL.of hd⟩, _, rfl, _, rfl, x, _, rfl, fun v v0 v1 => ⟨D0, _, _, rfl, rfl, hd, ?_, ?_⟩⟩
        · rw [List.length_map]
          exact Nat.lt_of_le_of_lt (show ds.length ≤ 4000 by omega) (by decide)
        · refine ⟨ds ++ [v], _, _, _, rfl, ap sm, by rw [upd_same]; simp, by simp; omega, fun y hy => ?_⟩
          rcases List.mem_append.mp hy with hy | hy
          · exact hdr y hy
          · rw [List.mem_singleton.mp hy]
            exact ⟨v0, v1⟩
      · refine ⟨60, rfl, by decide, by decide, ?_⟩
        refine for_range (lo := 0) (n := 60) (fun j σ H' => ∃ (ds2 : List Int) (x : Int) (y4 : Option V), σ = [some (.ref a), some (.ref D0), some (.int (0 + (i : Int))), some (.int x), y4] ∧ Same H H' ∧ H' D0 = some (.lst (ds2.map V.int)) ∧ ds2.length ≤ 60 * i + j ∧ Draws ds2)
          ⟨ds, x, y4, rfl, sm, hd, hdl, hdr⟩ ?_ ?_
        · rintro j σ H2 hj ⟨ds2, x, y4, rfl, sm2, hd2, hdl2, hdr2⟩
          refine ⟨_, rfl, x, 0, rfl, rfl, _, rfl, ite2 (fun e => ?_) (fun e => ?_)⟩
          · refine ⟨_, rfl, .inl ⟨rfl, _, SqL.of hd2⟩, _, rfl, .inl ⟨x, rfl, x, 9973, rfl, rfl, (by show (0 : Int) < 9973; decide), D0, _, _, rfl, rfl, hd2, ?_, ?_⟩⟩
            · rw [List.length_map]
              exact Nat.lt_of_le_of_lt (show ds2.length ≤ 4000 by omega) (by decide)
            · refine ⟨_, rfl, x, 9973, rfl, rfl, ⟨by decide, by decide⟩, ds2 ++ [x % 9973], x / 9973, _, rfl, ap sm2, by rw [upd_same]; simp, by simp; omega, fun y hy => ?_⟩
              rcases List.mem_append.mp hy with hy | hy
              · exact hdr2 y hy
              · rw [List.mem_singleton.mp hy]
                exact ⟨Int.emod_nonneg _ (by decide), Int.emod_lt_of_pos _ (by decide)⟩
          · exact ⟨ds2, x, _, rfl, sm2, hd2, by omega, hdr2⟩
        · rintro σ H2 ⟨ds2, x, y4, rfl, sm2, hd2, hdl2, hdr2⟩
          exact ⟨ds2, _, _, _, rfl, sm2, hd2, by omega, hdr2⟩
    · rintro σ H' ⟨ds, y2, y3, y4, rfl, sm, hd, hdl, hdr⟩
      exact ⟨_, rfl, qq D0 H' ds hD sm hd (by omega) hdr⟩
/-! ### _law_at -/
def spAt : Sp := fun vs H Q _ => ∃ (d : Addr) (ds : List Int) (i : Int), vs = [.ref d, .int i] ∧ H d = some (.lst (ds.map V.int)) ∧ Draws ds ∧ 0 ≤ i ∧ ∀ v, 0 ≤ v → v < 9973 → Q (.int v) H
theorem ok_at {f fM : Addr} {fd fdM : FuncData} {k : Nat} (D : DefN K mg "_law_at" sLawAt ["draws", "index"] f fd) (T : Txt mg) (DLawMix : DefN K mg "_law_mix" sLawMix ["cell", "k"] fM fdM) : FnOk P w K mg base CX0 (k + 2) f fd ["draws", "index"] spAt := by
  have GLawMix : FnOk P w K mg base CX0 (k + 1) fM fdM ["cell", "k"] spMix := ok_mix DLawMix T
  refine D.F.ok scLawAt (fun vs H Q E h => ?_) (fun cdv A outer s H vs Q E hr h => ?_)
  · obtain ⟨a, ns, i, rfl, _⟩ := h
    rfl
  · obtain ⟨d, ds, i, rfl, hd, hD, i0, qq⟩ := h
    refine ⟨_, (pss_cons (ps_if (pt_cmpR op_lt (pv 1) (pe_callB call_len_seq (by rfl) T.len PySem.boot_len (pa_cons (pv 0) pa_nil)) (nomark _)) (pss_one (ps_ret (pe_ix ix_list (pv 0) (pv 1) (fun _ _ => rfl)))) pss_nil)
        (pss_cons (ps_if (pt_cmpR op_eq (pe_callB call_len_seq (by rfl) T.len PySem.boot_len (pa_cons (pv 0) pa_nil)) pe_int (nomark _)) (pss_one (ps_ret (pe_call GLawMix (hr.mono (by omega)) (by rfl) DLawMix.g DLawMix.F.kp DLawMix.b .nil pass0 (pa_cons (pv 1) (pa_cons pe_int pa_nil))))) pss_nil)
        (pss_one (ps_ret (pe_call GLawMix (hr.mono (by omega)) (by rfl) DLawMix.g DLawMix.F.kp DLawMix.b .nil pass0 (pa_cons (pe_op op_add (pe_ix ix_list (pv 0) (pe_op op_mod (pe_callTy call_int1 (by rfl) T.int HL.boot_int (pa_cons (pv 1) pa_nil)) (pe_callB call_len_seq (by rfl) T.len PySem.boot_len (pa_cons (pv 0) pa_nil))) (fun _ _ => rfl)) (pe_op op_mul (pv 1) pe_int)) (pa_cons (pv 1) pa_nil))))))), ?_⟩
    have hlen : (ds.map V.int).length = ds.length := List.length_map _
    refine ⟨_, rfl, _, rfl, d, _, rfl, .inl (SqL.of hd), _, _, rfl, rfl, _, rfl, ite2 (fun e => ?_) (fun e => ?_)⟩
    · have e2 : i < ((ds.map V.int).length : Int) := of_decide_eq_true e
      rw [hlen] at e2
      have hi : i.toNat < ds.length := by omega
      have hg : atI (ds.map V.int) i = some (.int ds[i.toNat]) := by
        have h0 := atI_nat (xs := ds.map V.int) (j := i.toNat) (v := .int ds[i.toNat]) (by simp [hi])
        have : ((i.toNat : Nat) : Int) = i := by omega
        rwa [this] at h0
      have hb := hD _ (List.getElem_mem hi)
      exact ⟨_, rfl, _, rfl, d, _, i, _, rfl, rfl, SqL.of hd, hg, qq _ hb.1 hb.2⟩
    · refine ⟨_, rfl, d, _, rfl, .inl (SqL.of hd), rfl, _, rfl, ite2 (fun e2 => ?_) (fun e2 => ?_)⟩
      · exact ⟨_, rfl, i, 77, rfl, qq⟩
      · have hp : 0 < ds.length := by
          rcases Nat.eq_zero_or_pos ds.length with z | z
          · exact absurd (decide_eq_true (by rw [hlen, z]; rfl)) e2
          · exact z
        have m0 := Int.emod_nonneg i (show (ds.length : Int) ≠ 0 by omega)
        have m1 := Int.emod_lt_of_pos i (show (0 : Int) < (ds.length : Int) by omega)
        have hi : (i % (ds.length : Int)).toNat < ds.length := by omega
        have hg : atI (ds.map V.int) (i % (ds.length : Int)) = some (.int ds[(i % (ds.length : Int)).toNat]) := by
          have h0 := atI_nat (xs := ds.map V.int) (j := (i % (ds.length : Int)).toNat) (v := .int ds[(i % (ds.length : Int)).toNat]) (by simp [hi])
          have : (((i % (ds.length : Int)).toNat : Nat) : Int) = i % (ds.length : Int) := by omega
          rwa [this] at h0
        generalize ds[(i % (ds.length : Int)).toNat] = x at hg
        refine ⟨_, rfl, _, rfl, .inl ⟨i, rfl, _, rfl, d, _, rfl, .inl (SqL.of hd), ?_⟩⟩
        rw [hlen]
        refine ⟨_, _, rfl, rfl, (by show (0 : Int) < (ds.length : Int); omega), d, _, _, _, rfl, rfl, SqL.of hd, hg, _, rfl, i, 131, rfl, rfl, .inr ⟨by decide, by decide⟩, _, _, rfl, rfl, _, rfl, _, _, rfl, qq⟩
end
end Q08
namespace HL
open PySem PySem.Spec PyProof.Rows L2 SX
/-- isinstance of two built-in classes -/
theorem kit_two {K : PySem.W.Frag} {T a b : String} {x y : Bool} (h1 : kitB T a = some x) (h2 : kitB T b = some y) : PySem.W.kitAny K (.type T) [.type a, .type b] = some (x || y) := by
  have e1 := kit_ty (K := K) h1
  have e2 := kit_ty (K := K) h2
  simp only [PySem.W.kitAny, e1, e2]
  cases x <;> cases y <;> rfl
theorem tyx_same {K : PySem.W.Frag} {H H' : Hp} {x : V} {t : Value} (s : Same H H') (h : TyX K H x t) : TyX K H' x t := by
  cases h with
  | base b =>
    cases b with
    | non => exact .base .non
    | bl y => exact .base (.bl y)
    | int i => exact .base (.int i)
    | str y => exact .base (.str y)
    | flt y => exact .base (.flt y)
    | lst e => exact .base (.lst (s _ _ e))
    | frz e => exact .base (.frz (s _ _ e))
    | tup e => exact .base (.tup (s _ _ e))
    | dK e => exact .base (.dK (s _ _ e))
    | dT e => exact .base (.dT (s _ _ e))
    | ins e h1 h2 h3 h4 h5 => exact .base (.ins (s _ _ e) h1 h2 h3 h4 h5)
  | byt y => exact .byt y
  | set e => exact .set (s _ _ e)
  | kList e c => exact .kList e c
  | kTuple e c => exact .kTuple e c
  | kDict e c => exact .kDict e c
  | fTuple e => exact .fTuple (s _ _ e)
  | fDict e => exact .fDict (s _ _ e)
theorem seqT_same {K : PySem.W.Frag} {H H' : Hp} {a : Addr} {xs : List V} (e : Same H H') (h : SqT K H a xs) : SqT K H' a xs := by
  rcases h with (h | ⟨o, h⟩) | h
  · exact .inl (.inl (e _ _ h))
  · exact .inl (.inr ⟨o, e _ _ h⟩)
  · exact .inr h
theorem isSeq_same {K : PySem.W.Frag} {H H' : Hp} {t : String} {a : Addr} {xs : List V} (s : Same H H') (h : IsSeq K H t a xs) : IsSeq K H' t a xs := by
  rcases h with ⟨e, h1, h2⟩ | ⟨e, h1, h2⟩
  · exact .inl ⟨e, seqT_same s h1, tyx_same s h2⟩
  · exact .inr ⟨e, s.seq h1, tyx_same s h2⟩
theorem sameD_same {K : PySem.W.Frag} {H H' : Hp} (s : Same H H') : ∀ {n : Nat} {x y : V}, SameD K H n x y → SameD K H' n x y
  | 0, x, y, h => h
  | n + 1, x, y, h => by
    rcases h with h | ⟨t, a, b, xs, ys, e1, e2, h1, h2, el, hz, hh⟩
    · exact .inl h
    · exact .inr ⟨t, a, b, xs, ys, e1, e2, isSeq_same s h1, isSeq_same s h2, el, hz, fun i u v hu hv => sameD_same s (hh i u v hu hv)⟩
/-- told the same; the heap may grow -/
def spSameG (K : PySem.W.Frag) (n : Nat) : Sp := fun vs H Q _ => ∃ x y : V, vs = [x, y] ∧ SameD K H n x y ∧ ∀ H', Same H H' → Q (.bl true) H'
end HL
namespace Q08
open PySem PySem.Spec PyProof.Rows L2 SX HL
section
variable {P : Program} {w : World} {K : PySem.W.Frag} {mg : Str → Option Value} {base : Heap}
/-! ### _law_is_integer -/
def spIsInt : Sp := fun vs H Q _ => ∃ i : Int, vs = [.int i] ∧ Q (.bl true) H
theorem ok_isint {f : Addr} {fd : FuncData} {k : Nat} (D : DefN K mg "_law_is_integer" sLawIsInteger ["actual"] f fd) (T : Txt mg) : FnOk P w K mg base CX0 (k + 1) f fd ["actual"] spIsInt := by
  refine D.F.ok scLawIsInteger (fun vs H Q E h => ?_) (fun cdv A outer s H vs Q E hr h => ?_)
  · obtain ⟨i, rfl, _⟩ := h
    rfl
  · obtain ⟨i, rfl, q⟩ := h
    refine ⟨_, (pss_one (ps_ret (pe_and (pe_callB call_isB (by rfl) T.isinstance HL.boot_isinstance (pa_cons (pv 0) (pa_cons (pe_bltn (v := .ty "int") (by rfl) T.int HL.boot_int rfl) pa_nil))) (pe_one (pe_not (pe_callB call_isB (by rfl) T.isinstance HL.boot_isinstance (pa_cons (pv 0) (pa_cons (pe_bltn (v := .ty "bool") (by rfl) T.bool HL.boot_bool rfl) pa_nil)))))))), ?_⟩
    refine ⟨_, rfl, _, "int", "int", true, rfl, .base (.int i), by decide +kernel, true, rfl, iteT ?_⟩
    exact ⟨_, rfl, _, "int", "bool", false, rfl, .base (.int i), by decide +kernel, false, rfl, q⟩
/-! ### _law_same -/
def spLess (K : PySem.W.Frag) : Nat → Sp
  | 0 => fun _ _ _ _ => False
  | n + 1 => spSameG K n
theorem same_step {f fI : Addr} {fd fdI : FuncData} {n : Nat} (DLawSame : DefN K mg "_law_same" sLawSame ["actual", "expected"] f fd) (T : Txt mg) (DLawIsInteger : DefN K mg "_law_is_integer" sLawIsInteger ["actual"] fI fdI)
    (GLawSame : FnOk P w K mg base CX0 (n + 1) f fd ["actual", "expected"] (spLess K n)) : FnOk P w K mg base CX0 (n + 2) f fd ["actual", "expected"] (spSameG K n) := by
  have GLawIsInteger : FnOk P w K mg base CX0 1 fI fdI ["actual"] spIsInt := ok_isint (k := 0) DLawIsInteger T
  refine DLawSame.F.ok scLawSame (fun vs H Q E h => ?_) (fun cdv A outer s H vs Q E hr h => ?_)
  · obtain ⟨x, y, rfl, _⟩ := h
    rfl
  · obtain ⟨x, y, rfl, hs, q⟩ := h
    refine ⟨_, (pss_cons (ps_if (pt_val (pe_callB call_isiT (by rfl) T.isinstance HL.boot_isinstance (pa_cons (pv 1) (pa_cons (pe_tup (pa_cons (pe_bltn (v := .ty "list") (by rfl) T.list HL.boot_list rfl) (pa_cons (pe_bltn (v := .ty "tuple") (by rfl) T.tuple HL.boot_tuple rfl) pa_nil))) pa_nil)))) (pss_cons (ps_if (PW.pt (pw_or (pt_cmpR op_ne (pe_callB call_isB (by rfl) T.isinstance HL.boot_isinstance (pa_cons (pv 1) (pa_cons (pe_bltn (v := .ty "list") (by rfl) T.list HL.boot_list rfl) pa_nil))) (pe_callB call_isB (by rfl) T.isinstance HL.boot_isinstance (pa_cons (pv 0) (pa_cons (pe_bltn (v := .ty "list") (by rfl) T.list HL.boot_list rfl) pa_nil))) (nomark _)) (pw_or1 (pt_cmpR op_ne (pe_callB call_isB (by rfl) T.isinstance HL.boot_isinstance (pa_cons (pv 1) (pa_cons (pe_bltn (v := .ty "tuple") (by rfl) T.tuple HL.boot_tuple rfl) pa_nil))) (pe_callB call_isB (by rfl) T.isinstance HL.boot_isinstance (pa_cons (pv 0) (pa_cons (pe_bltn (v := .ty "tuple") (by rfl) T.tuple HL.boot_tuple rfl) pa_nil))) (nomark _))))) (pss_one (ps_ret pe_bl)) pss_nil)
        (pss_cons (ps_if (pt_cmpR op_ne (pe_callB call_len_seq (by rfl) T.len PySem.boot_len (pa_cons (pv 0) pa_nil)) (pe_callB call_len_seq (by rfl) T.len PySem.boot_len (pa_cons (pv 1) pa_nil)) (nomark _)) (pss_one (ps_ret pe_bl)) pss_nil)
        (pss_cons (ps_for PassesOwn.never rfl (pi_range1 (by rfl) T.range (pa_cons (pe_callB call_len_seq (by rfl) T.len PySem.boot_len (pa_cons (pv 1) pa_nil)) pa_nil)) (pg_name (i := 2) scLawSame.nd rfl (.inl rfl)) (pss_one (ps_if (pt_not (pt_val (pe_call GLawSame (hr.mono (by omega)) (by rfl) DLawSame.g DLawSame.F.kp DLawSame.b .nil pass0 (pa_cons (pe_ix ix_seq (pv 0) (pv 2) (fun _ _ => rfl)) (pa_cons (pe_ix ix_seq (pv 1) (pv 2) (fun _ _ => rfl)) pa_nil))))) (pss_one (ps_ret pe_bl)) pss_nil)))
        (pss_one (ps_ret pe_bl))))) pss_nil)
        (pss_cons (ps_if (pt_cmp (pc_isN (pv 1))) (pss_one (ps_ret (pe_cmp (pc_isN (pv 0)) rfl))) pss_nil)
        (pss_cons (ps_if (pt_val (pe_callB call_isB (by rfl) T.isinstance HL.boot_isinstance (pa_cons (pv 1) (pa_cons (pe_bltn (v := .ty "bool") (by rfl) T.bool HL.boot_bool rfl) pa_nil)))) (pss_one (ps_ret (pe_and (pe_callB call_isB (by rfl) T.isinstance HL.boot_isinstance (pa_cons (pv 0) (pa_cons (pe_bltn (v := .ty "bool") (by rfl) T.bool HL.boot_bool rfl) pa_nil))) (pe_one (pe_cmpR op_eq (pv 0) (pv 1) (nomark _)))))) pss_nil)
        (pss_cons (ps_if (pt_val (pe_callB call_isB (by rfl) T.isinstance HL.boot_isinstance (pa_cons (pv 1) (pa_cons (pe_bltn (v := .ty "int") (by rfl) T.int HL.boot_int rfl) pa_nil)))) (pss_one (ps_ret (pe_and (pe_call GLawIsInteger (hr.mono (by omega)) (by rfl) DLawIsInteger.g DLawIsInteger.F.kp DLawIsInteger.b .nil pass0 (pa_cons (pv 0) pa_nil)) (pe_one (pe_cmpR op_eq (pv 0) (pv 1) (nomark _)))))) pss_nil)
        (pss_one (ps_ret (pe_and (pe_callB call_isB (by rfl) T.isinstance HL.boot_isinstance (pa_cons (pv 0) (pa_cons (pe_bltn (v := .ty "str") (by rfl) T.str HL.boot_str rfl) pa_nil))) (pe_one (pe_cmpR op_eq (pv 0) (pv 1) (nomark _)))))))))), ?_⟩
    have t2 : 2 ≤ sizeLine := by decide
    have hs : (Leaf x ∧ x = y) ∨ ∃ (m : Nat) (t : String) (a b : Addr) (xs ys : List V), n = m + 1 ∧ x = .ref a ∧ y = .ref b ∧ IsSeq K H t a xs ∧ IsSeq K H t b ys ∧ xs.length = ys.length ∧ ys.length ≤ 1000000 ∧
        ∀ (i : Nat) (u v : V), xs[i]? = some u → ys[i]? = some v → SameD K H m u v := by
      cases n with
      | zero => exact .inl hs
      | succ m =>
        rcases hs with h | ⟨t, a, b, xs, ys, h⟩
        · exact .inl h
        · exact .inr ⟨m, t, a, b, xs, ys, rfl, h⟩
    rcases hs with ⟨lf, rfl⟩ | ⟨m, t, a, b, xs, ys, rfl, rfl, rfl, h1, h2, el, hz, hh⟩
    · cases x with
      | int i =>
        refine ⟨_, rfl, t2, fun p hp => ⟨_, p, _, .type "int", _, _, rfl, upd_same, .cons (.ty _) (.cons (.ty _) .nil), .base (.int i), kit_two (by decide +kernel : kitB "int" "list" = some false) (by decide +kernel : kitB "int" "tuple" = some false), _, rfl, iteF ?_⟩⟩
        refine ⟨_, rfl, _, rfl, iteF ?_⟩
        refine ⟨_, rfl, _, "int", "bool", false, rfl, .base (.int i), by decide +kernel, false, rfl, iteF ?_⟩
        refine ⟨_, rfl, _, "int", "int", true, rfl, .base (.int i), by decide +kernel, true, rfl, iteT ?_⟩
        refine ⟨_, rfl, i, rfl, true, rfl, iteT ⟨_, rfl, _, rfl, rfl, ?_⟩⟩
        rw [decide_eq_true rfl]
        exact q _ (same_upd hp)
      | str z =>
        refine ⟨_, rfl, t2, fun p hp => ⟨_, p, _, .type "str", _, _, rfl, upd_same, .cons (.ty _) (.cons (.ty _) .nil), .base (.str z), kit_two (by decide +kernel : kitB "str" "list" = some false) (by decide +kernel : kitB "str" "tuple" = some false), _, rfl, iteF ?_⟩⟩
        refine ⟨_, rfl, _, rfl, iteF ?_⟩
        refine ⟨_, rfl, _, "str", "bool", false, rfl, .base (.str z), by decide +kernel, false, rfl, iteF ?_⟩
        refine ⟨_, rfl, _, "str", "int", false, rfl, .base (.str z), by decide +kernel, false, rfl, iteF ?_⟩
        refine ⟨_, rfl, _, "str", "str", true, rfl, .base (.str z), by decide +kernel, true, rfl, iteT ?_⟩
        refine ⟨_, rfl, _, rfl, rfl, ?_⟩
        rw [decide_eq_true rfl]
        exact q _ (same_upd hp)
      | bl b =>
        refine ⟨_, rfl, t2, fun p hp => ⟨_, p, _, .type "bool", _, _, rfl, upd_same, .cons (.ty _) (.cons (.ty _) .nil), .base (.bl b), kit_two (by decide +kernel : kitB "bool" "list" = some false) (by decide +kernel : kitB "bool" "tuple" = some false), _, rfl, iteF ?_⟩⟩
        refine ⟨_, rfl, _, rfl, iteF ?_⟩
        refine ⟨_, rfl, _, "bool", "bool", true, rfl, .base (.bl b), by decide +kernel, true, rfl, iteT ?_⟩
        refine ⟨_, rfl, _, "bool", "bool", true, rfl, .base (.bl b), by decide +kernel, true, rfl, iteT ?_⟩
        refine ⟨_, rfl, _, rfl, rfl, ?_⟩
        rw [decide_eq_true rfl]
        exact q _ (same_upd hp)
      | non =>
        refine ⟨_, rfl, t2, fun p hp => ⟨_, p, _, .type "NoneType", _, _, rfl, upd_same, .cons (.ty _) (.cons (.ty _) .nil), .base .non, kit_two (by decide +kernel : kitB "NoneType" "list" = some false) (by decide +kernel : kitB "NoneType" "tuple" = some false), _, rfl, iteF ?_⟩⟩
        refine ⟨_, rfl, _, rfl, iteT ?_⟩
        exact ⟨_, rfl, q _ (same_upd hp)⟩
      | _ => exact (show False from lf).elim
    · have rest : ∀ (i : Nat) (u v : V), xs[i]? = some u → ys[i]? = some v → atI xs ((0 : Int) + (i : Int)) = some u ∧ atI ys ((0 : Int) + (i : Int)) = some v := fun i u v hu hv => by
        rw [Int.zero_add]
        exact ⟨atI_nat hu, atI_nat hv⟩
      have turn : ∀ i : Nat, i < (ys.length : Int).toNat → ∃ u v, xs[i]? = some u ∧ ys[i]? = some v := fun i hi => by
        have i1 : i < ys.length := by omega
        have i2 : i < xs.length := by omega
        exact ⟨_, _, List.getElem?_eq_getElem i2, List.getElem?_eq_getElem i1⟩
      rcases h1 with ⟨rfl, s1, t1⟩ | ⟨rfl, s1, t1⟩
      · rcases h2 with ⟨_, s2, t2'⟩ | ⟨z, _⟩
        · refine ⟨_, rfl, t2, fun p hp => ⟨_, p, _, .type "tuple", _, _, rfl, upd_same, .cons (.ty _) (.cons (.ty _) .nil), tyx_same (same_upd hp) t2', kit_two (by decide +kernel : kitB "tuple" "list" = some false) (by decide +kernel : kitB "tuple" "tuple" = some true), _, rfl, iteT ?_⟩⟩
          have s10 := s1
          have s20 := s2
          have s1 := seqT_same (same_upd (o := .tup [.ty "list", .ty "tuple"]) hp) s1
          have s2 := seqT_same (same_upd (o := .tup [.ty "list", .ty "tuple"]) hp) s2
          refine ⟨_, rfl, _, "tuple", "list", false, rfl, tyx_same (same_upd hp) t2', by decide +kernel, _, rfl, _, "tuple", "list", false, rfl, tyx_same (same_upd hp) t1, by decide +kernel, rfl, _, rfl, iteNS rfl ?_⟩
          refine ⟨_, rfl, _, "tuple", "tuple", true, rfl, tyx_same (same_upd hp) t2', by decide +kernel, _, rfl, _, "tuple", "tuple", true, rfl, tyx_same (same_upd hp) t1, by decide +kernel, rfl, _, rfl, iteNS rfl ?_⟩
          refine ⟨_, rfl, a, xs, rfl, .inr s1, _, rfl, b, ys, rfl, .inr s2, rfl, _, rfl, iteNS (by rw [el]) ?_⟩
          refine ⟨_, rfl, b, ys, rfl, .inr s2, _, rfl, by omega, by omega, ?_⟩
          refine for_range (lo := 0) (n := (ys.length : Int).toNat) (fun i σ H' => Same H H' ∧ ∃ y, σ = [some (.ref a), some (.ref b), y]) ⟨same_upd hp, none, rfl⟩ ?_ ?_
          · rintro i σ H' hi ⟨sm, y, rfl⟩
            obtain ⟨u, v, hu, hv⟩ := turn i hi
            obtain ⟨r1, r2⟩ := rest i u v hu hv
            exact ⟨_, rfl, _, rfl, .inr (.inl ⟨a, xs, _, u, rfl, rfl, seqT_same sm s10, r1, _, rfl, _, rfl, .inr (.inl ⟨b, ys, _, v, rfl, rfl, seqT_same sm s20, r2, u, v, rfl, sameD_same sm (hh i u v hu hv), fun H2 s2 => ⟨true, rfl, iteF ⟨sm.trans s2, _, rfl⟩⟩⟩)⟩)⟩
          · rintro σ H' ⟨sm, y, rfl⟩
            exact q _ sm
        · exact absurd z (by decide)
      · rcases h2 with ⟨z, _⟩ | ⟨_, s2, t2'⟩
        · exact absurd z (by decide)
        · refine ⟨_, rfl, t2, fun p hp => ⟨_, p, _, .type "list", _, _, rfl, upd_same, .cons (.ty _) (.cons (.ty _) .nil), tyx_same (same_upd hp) t2', kit_two (by decide +kernel : kitB "list" "list" = some true) (by decide +kernel : kitB "list" "tuple" = some false), _, rfl, iteT ?_⟩⟩
          have s10 := s1
          have s20 := s2
          have s1 := (same_upd (o := .tup [.ty "list", .ty "tuple"]) hp).seq s1
          have s2 := (same_upd (o := .tup [.ty "list", .ty "tuple"]) hp).seq s2
          refine ⟨_, rfl, _, "list", "list", true, rfl, tyx_same (same_upd hp) t2', by decide +kernel, _, rfl, _, "list", "list", true, rfl, tyx_same (same_upd hp) t1, by decide +kernel, rfl, _, rfl, iteNS rfl ?_⟩
          refine ⟨_, rfl, _, "list", "tuple", false, rfl, tyx_same (same_upd hp) t2', by decide +kernel, _, rfl, _, "list", "tuple", false, rfl, tyx_same (same_upd hp) t1, by decide +kernel, rfl, _, rfl, iteNS rfl ?_⟩
          refine ⟨_, rfl, a, xs, rfl, .inl s1, _, rfl, b, ys, rfl, .inl s2, rfl, _, rfl, iteNS (by rw [el]) ?_⟩
          refine ⟨_, rfl, b, ys, rfl, .inl s2, _, rfl, by omega, by omega, ?_⟩
          refine for_range (lo := 0) (n := (ys.length : Int).toNat) (fun i σ H' => Same H H' ∧ ∃ y, σ = [some (.ref a), some (.ref b), y]) ⟨same_upd hp, none, rfl⟩ ?_ ?_
          · rintro i σ H' hi ⟨sm, y, rfl⟩
            obtain ⟨u, v, hu, hv⟩ := turn i hi
            obtain ⟨r1, r2⟩ := rest i u v hu hv
            exact ⟨_, rfl, _, rfl, .inl ⟨a, xs, _, u, rfl, rfl, sm.seq s10, r1, _, rfl, _, rfl, .inl ⟨b, ys, _, v, rfl, rfl, sm.seq s20, r2, u, v, rfl, sameD_same sm (hh i u v hu hv), fun H2 s2 => ⟨true, rfl, iteF ⟨sm.trans s2, _, rfl⟩⟩⟩⟩⟩
          · rintro σ H' ⟨sm, y, rfl⟩
            exact q _ sm
theorem ok_same {f fI : Addr} {fd fdI : FuncData} (DLawSame : DefN K mg "_law_same" sLawSame ["actual", "expected"] f fd) (T : Txt mg) (DLawIsInteger : DefN K mg "_law_is_integer" sLawIsInteger ["actual"] fI fdI) : ∀ n, FnOk P w K mg base CX0 (n + 2) f fd ["actual", "expected"] (spSameG K n)
  | 0 => same_step DLawSame T DLawIsInteger (DLawSame.F.ok scLawSame (fun vs H Q E h => (show False from h).elim) (fun cdv A outer s H vs Q E hr h => (show False from h).elim))
  | n + 1 => same_step DLawSame T DLawIsInteger (ok_same DLawSame T DLawIsInteger n)
end
end Q08
namespace HL
open PySem PySem.Spec PyProof.Rows L2 SX
/-- a list or a tuple, also a locked one -/
def Seqo : HO → Prop
  | .lst _ => True
  | .tup _ => True
  | .frz _ (.lst _) => True
  | .frz _ (.tup _) => True
  | _ => False
def SeqKept (H H' : Hp) : Prop := ∀ a o, H a = some o → Seqo o → H' a = some o
theorem _root_.L2.Same.seqKept {H H' : Hp} (s : Same H H') : SeqKept H H' := fun a o h _ => s a o h
theorem SeqKept.seqT {K : PySem.W.Frag} {H H' : Hp} {a : Addr} {xs : List V} (e : SeqKept H H') (h : SqT K H a xs) : SqT K H' a xs := by
  rcases h with (h | ⟨o, h⟩) | h
  · exact .inl (.inl (e _ _ h True.intro))
  · exact .inl (.inr ⟨o, e _ _ h True.intro⟩)
  · exact .inr h
theorem SeqKept.seq {K : PySem.W.Frag} {H H' : Hp} {a : Addr} {xs : List V} (e : SeqKept H H') (h : SqL K H a xs) : SqL K H' a xs := by
  rcases h with (h | ⟨o, h⟩) | h
  · exact .inl (.inl (e _ _ h True.intro))
  · exact .inl (.inr ⟨o, e _ _ h True.intro⟩)
  · exact .inr h
theorem tyx_tup {K : PySem.W.Frag} {H H' : Hp} {x : V} {t : Value} (s : SeqKept H H') (ht : t = .type "tuple" ∨ t = .type "list") (h : TyX K H x t) : TyX K H' x t := by
  cases h with
  | base b =>
    cases b with
    | non => exact .base .non
    | bl y => exact .base (.bl y)
    | int i => exact .base (.int i)
    | str y => exact .base (.str y)
    | flt y => exact .base (.flt y)
    | lst e => exact .base (.lst (s _ _ e True.intro))
    | frz e => exact .base (.frz (s _ _ e True.intro))
    | tup e => exact .base (.tup (s _ _ e True.intro))
    | dK e => rcases ht with z | z <;> exact absurd (Value.type.inj z) (by decide)
    | dT e => rcases ht with z | z <;> exact absurd (Value.type.inj z) (by decide)
    | ins e h1 h2 h3 h4 h5 => rcases ht with z | z <;> cases z
  | byt y => exact .byt y
  | set e => rcases ht with z | z <;> exact absurd (Value.type.inj z) (by decide)
  | kList e c => exact .kList e c
  | kTuple e c => exact .kTuple e c
  | kDict e c => exact .kDict e c
  | fTuple e => exact .fTuple (s _ _ e True.intro)
  | fDict e => rcases ht with z | z <;> exact absurd (Value.type.inj z) (by decide)
theorem isSeq_kept {K : PySem.W.Frag} {H H' : Hp} {t : String} {a : Addr} {xs : List V} (s : SeqKept H H') (h : IsSeq K H t a xs) : IsSeq K H' t a xs := by
  rcases h with ⟨e, h1, h2⟩ | ⟨e, h1, h2⟩
  · exact .inl ⟨e, s.seqT h1, tyx_tup s (.inl rfl) h2⟩
  · exact .inr ⟨e, s.seq h1, tyx_tup s (.inr rfl) h2⟩
theorem sameD_kept {K : PySem.W.Frag} {H H' : Hp} (s : SeqKept H H') : ∀ {n : Nat} {x y : V}, SameD K H n x y → SameD K H' n x y
  | 0, x, y, h => h
  | n + 1, x, y, h => by
    rcases h with h | ⟨t, a, b, xs, ys, e1, e2, h1, h2, el, hz, hh⟩
    · exact .inl h
    · exact .inr ⟨t, a, b, xs, ys, e1, e2, isSeq_kept s h1, isSeq_kept s h2, el, hz, fun i u v hu hv => sameD_kept s (hh i u v hu hv)⟩
/-- a dict locked, and the way back -/
theorem seqKept_lock {H : Hp} {d : Addr} {kvs : List (Key × V)} {o : HO} (h : H d = some (.dK kvs)) : SeqKept H (upd H d o) := fun a x hx hs => by
  have ne : a ≠ d := fun e => by
    rw [e, h] at hx
    cases hx
    exact hs
  rw [upd_ne ne]
  exact hx
theorem unlock {H H' : Hp} {d : Addr} {u o : HO} (h : H d = some u) (s : Same (upd H d o) H') : Same H (upd H' d u) := fun a x hx => by
  by_cases e : a = d
  · subst e
    rw [upd_same, ← h, hx]
  · rw [upd_ne e]
    exact s a x (by rw [upd_ne e]; exact hx)
end HL
namespace Q08
open PySem PySem.Spec PyProof.Rows L2 SX HL
section
variable {P : Program} {w : World} {K : PySem.W.Frag} {mg : Str → Option Value} {base : Heap}
/-! ### _law_is_dict -/
def spIsDict (K : PySem.W.Frag) (n : Nat) : Sp := fun vs H Q _ => ∃ (d1 d2 : Addr) (k1 k2 : List (Key × V)), vs = [.ref d1, .ref d2] ∧ d1 ≠ d2 ∧ H d1 = some (.dK k1) ∧ H d2 = some (.dK k2) ∧ k1.length = k2.length ∧
  (∀ (i : Nat) (k : Key) (v : V), k2[i]? = some (k, v) → valV k2 k = some v ∧ ∃ v1, valV k1 k = some v1 ∧ SameD K H n v1 v) ∧ ∀ H', Same H H' → Q (.bl true) H'
theorem ok_isdict {f fS fI : Addr} {fd fdS fdI : FuncData} {n : Nat} (D : DefN K mg "_law_is_dict" sLawIsDict ["actual", "expected"] f fd) (T : Txt mg) (DLawSame : DefN K mg "_law_same" sLawSame ["actual", "expected"] fS fdS) (DLawIsInteger : DefN K mg "_law_is_integer" sLawIsInteger ["actual"] fI fdI) :
    FnOk P w K mg base CX0 (n + 3) f fd ["actual", "expected"] (spIsDict K n) := by
  have GLawSame : FnOk P w K mg base CX0 (n + 2) fS fdS ["actual", "expected"] (spSameG K n) := ok_same DLawSame T DLawIsInteger n
  refine D.F.ok scLawIsDict (fun vs H Q E h => ?_) (fun cdv A outer s H vs Q E hr h => ?_)
  · obtain ⟨d1, d2, k1, k2, rfl, _⟩ := h
    rfl
  · obtain ⟨d1, d2, k1, k2, rfl, ne, h1, h2, hl, hv, qq⟩ := h
    refine ⟨_, (pss_cons (ps_if (PW.pt (pw_or (pt_not (pt_val (pe_callB call_isB (by rfl) T.isinstance HL.boot_isinstance (pa_cons (pv 0) (pa_cons (pe_bltn (v := .ty "dict") (by rfl) T.dict HL.boot_dict rfl) pa_nil))))) (pw_or1 (pt_cmpR op_ne (pe_callB call_lenD (by rfl) T.len PySem.boot_len (pa_cons (pv 0) pa_nil)) (pe_callB call_lenD (by rfl) T.len PySem.boot_len (pa_cons (pv 1) pa_nil)) (nomark _))))) (pss_one (ps_ret pe_bl)) pss_nil)
        (pss_cons (ps_lock (ps_for PassesOwn.never rfl (pi_keys (pv 1)) (pg_name (i := 2) scLawIsDict.nd rfl (.inl rfl)) (pss_one (ps_if (PW.pt (pw_or (pt_cmp (pc_dnotin (hu_of hr) (pv 2) (pv 0))) (pw_or1 (pt_not (pt_val (pe_call GLawSame (hr.mono (by omega)) (by rfl) DLawSame.g DLawSame.F.kp DLawSame.b .nil pass0 (pa_cons (pe_dget (hu_of hr) (pv 0) (pv 2) (fun _ _ => rfl)) (pa_cons (pe_dget (hu_of hr) (pv 1) (pv 2) (fun _ _ => rfl)) pa_nil)))))))) (pss_one (ps_ret pe_bl)) pss_nil))))
        (pss_one (ps_ret pe_bl)))), ?_⟩
    refine ⟨_, rfl, _, "dict", "dict", true, rfl, .base (.dK h1), by decide +kernel, true, rfl, iteF ?_⟩
    refine ⟨_, rfl, d1, k1, rfl, h1, _, rfl, d2, k2, rfl, h2, rfl, _, rfl, iteNS (by rw [hl]) ?_⟩
    refine ⟨d2, _, h2, True.intro, fun od => ⟨_, rfl, d2, od, rfl, .inl ⟨k2, upd_same, ?_⟩⟩⟩
    have e1 : upd H d2 (.frz od (.dK k2)) d1 = some (.dK k1) := by rw [upd_ne ne]; exact h1
    refine for_it walk_keys (fun i σ H' => Same (upd H d2 (.frz od (.dK k2))) H' ∧ ∃ y, σ = [some (.ref d1), some (.ref d2), y]) ⟨fun _ _ z => z, none, rfl⟩ (fun i σ H' _ p => p.1 _ _ upd_same) ?_ ?_
    · rintro i x σ H' H2 hi ⟨sm, y, rfl⟩ ⟨rfl, k, v, hk, rfl⟩
      obtain ⟨hv2, v1, hv1, sd⟩ := hv i k v hk
      have g1 := sm _ _ e1
      have g2 := sm _ _ upd_same
      refine ⟨_, rfl, _, rfl, d1, some v1, rfl, by rw [← hv1]; exact DGet.k g1, _, rfl, iteF ?_⟩
      refine ⟨_, rfl, _, rfl, d1, v1, rfl, by rw [← hv1]; exact DGet.k g1, _, rfl, _, rfl, d2, v, rfl, by rw [← hv2]; exact .inl ⟨k2, k, .inr ⟨od, g2⟩, rfl, rfl⟩, v1, v, rfl, sameD_same sm (sameD_kept (seqKept_lock h2) sd), fun H3 s3 => ⟨true, rfl, iteF ⟨sm.trans s3, _, rfl⟩⟩⟩
    · rintro σ H' ⟨sm, y, rfl⟩
      exact ⟨sm _ _ upd_same, qq _ (unlock h2 sm)⟩
end
end Q08
namespace Q08
open PySem PySem.Spec PyProof.Rows L2 SX HL
/-! ### uses: names, each with the names that it uses -/
abbrev Uses := List (Str × List Str)
def look (us : Uses) (n : Str) : Option (List Str) := (us.find? fun u => decide (u.1 = n)).map (·.2)
def names (us : Uses) : List Str := us.map (·.1)
theorem look_none {us : Uses} {n : Str} (h : n ∉ names us) : look us n = none := by
  unfold look
  rw [Option.map_eq_none_iff, List.find?_eq_none]
  intro u hu
  have : u.1 ≠ n := fun e => h (by rw [← e]; exact List.mem_map_of_mem hu)
  simpa using this
theorem look_some {us : Uses} {n : Str} (h : n ∈ names us) : ∃ l, look us n = some l ∧ (n, l) ∈ us := by
  obtain ⟨u, hu, rfl⟩ := List.mem_map.mp h
  unfold look
  cases e : us.find? fun w => decide (w.1 = u.1) with
  | none => exact absurd (List.find?_eq_none.mp e u hu) (by simp)
  | some w =>
    have h1 := List.find?_some e
    have h2 := List.mem_of_find?_eq_some e
    refine ⟨w.2, rfl, ?_⟩
    have : w.1 = u.1 := of_decide_eq_true h1
    rw [← this]
    exact h2
theorem look_isSome {us : Uses} {n : Str} : (look us n).isSome = decide (n ∈ names us) := by
  by_cases h : n ∈ names us
  · obtain ⟨l, e, _⟩ := look_some h
    rw [e, decide_eq_true h]
    rfl
  · rw [look_none h, decide_eq_false h]
    rfl
inductive Us (H : Hp) : List (Key × V) → Uses → Prop
  | nil : Us H [] []
  | cons {n : Str} {l : List Str} {a : Addr} {kvs : List (Key × V)} {us : Uses} : H a = some (.lst (l.map V.str)) → Us H kvs us → Us H ((.inr n, .ref a) :: kvs) ((n, l) :: us)
theorem Us.keep {H H' : Hp} {kvs : List (Key × V)} {us : Uses} (s : SeqKept H H') (h : Us H kvs us) : Us H' kvs us := by
  induction h with
  | nil => exact .nil
  | cons ha _ ih => exact .cons (s _ _ ha True.intro) ih
theorem Us.snoc {H : Hp} {kvs : List (Key × V)} {us : Uses} (h : Us H kvs us) {n : Str} {l : List Str} {a : Addr} (ha : H a = some (.lst (l.map V.str))) : Us H (kvs ++ [(.inr n, .ref a)]) (us ++ [(n, l)]) := by
  induction h with
  | nil => exact .cons ha .nil
  | cons hb _ ih => exact .cons hb ih
theorem Us.len {H : Hp} {kvs : List (Key × V)} {us : Uses} (h : Us H kvs us) : kvs.length = us.length := by
  induction h with
  | nil => rfl
  | cons _ _ ih => simp [ih]
theorem Us.at {H : Hp} {kvs : List (Key × V)} {us : Uses} (h : Us H kvs us) {i : Nat} {k : Key} {v : V} (e : kvs[i]? = some (k, v)) : ∃ n l a, us[i]? = some (n, l) ∧ k = .inr n ∧ v = .ref a ∧ H a = some (.lst (l.map V.str)) := by
  induction h generalizing i with
  | nil => simp at e
  | @cons n l a kvs us ha _ ih =>
    cases i with
    | zero =>
      simp at e
      obtain ⟨rfl, rfl⟩ := e
      exact ⟨n, l, a, rfl, rfl, rfl, ha⟩
    | succ i => exact ih (by simpa using e)
theorem Us.find {H : Hp} {kvs : List (Key × V)} {us : Uses} (h : Us H kvs us) (n : Str) : (look us n = none ∧ valV kvs (.inr n) = none) ∨ ∃ l a, look us n = some l ∧ valV kvs (.inr n) = some (.ref a) ∧ H a = some (.lst (l.map V.str)) := by
  induction h with
  | nil => exact .inl ⟨rfl, rfl⟩
  | @cons m l a kvs us ha _ ih =>
    by_cases e : m = n
    · subst e
      exact .inr ⟨l, a, by simp [look], valV_pos rfl, ha⟩
    · have e1 : look ((m, l) :: us) n = look us n := by simp [look, List.find?_cons, e]
      have e2 : valV (((.inr m : Key), V.ref a) :: kvs) (.inr n) = valV kvs (.inr n) := valV_neg (fun z => e (Sum.inr.inj z))
      rw [e1, e2]
      exact ih
/-- the dict at d, locked or not -/
def UsAt (H : Hp) (d : Addr) (us : Uses) : Prop := ∃ kvs, Rd H d (.dK kvs) ∧ Us H kvs us
theorem UsAt.same {H H' : Hp} {d : Addr} {us : Uses} (h : UsAt H d us) (s : Same H H') : UsAt H' d us := by
  obtain ⟨kvs, h1, h2⟩ := h
  refine ⟨kvs, ?_, h2.keep s.seqKept⟩
  rcases h1 with h1 | ⟨o, h1⟩
  · exact .inl (s _ _ h1)
  · exact .inr ⟨o, s _ _ h1⟩
theorem UsAt.in {H : Hp} {d : Addr} {us : Uses} (h : UsAt H d us) (n : Str) : ∃ o : Option V, DGet H d (.str n) o ∧ o.isSome = decide (n ∈ names us) := by
  obtain ⟨kvs, h1, h2⟩ := h
  refine ⟨_, .inl ⟨kvs, .inr n, h1, rfl, rfl⟩, ?_⟩
  rw [← look_isSome]
  rcases h2.find n with ⟨a, b⟩ | ⟨l, a, e1, e2, _⟩
  · rw [a, b]; rfl
  · rw [e1, e2]; rfl
theorem UsAt.get {H : Hp} {d : Addr} {us : Uses} (h : UsAt H d us) {n : Str} {l : List Str} (e : look us n = some l) : ∃ a, DGet H d (.str n) (some (.ref a)) ∧ H a = some (.lst (l.map V.str)) := by
  obtain ⟨kvs, h1, h2⟩ := h
  rcases h2.find n with ⟨a, b⟩ | ⟨l2, a, e1, e2, ha⟩
  · rw [a] at e; cases e
  · rw [e1] at e
    cases e
    exact ⟨a, by rw [← e2]; exact .inl ⟨kvs, .inr n, h1, rfl, rfl⟩, ha⟩
section
variable {P : Program} {w : World} {K : PySem.W.Frag} {mg : Str → Option Value} {base : Heap}
/-! ### known_uses -/
def known (us : Uses) (l : List Str) : List Str := l.filter fun x => decide (x ∈ names us)
def spKnown : Sp := fun vs H Q _ => ∃ (d : Addr) (us : Uses) (n : Str) (l : List Str), vs = [.ref d, .str n] ∧ UsAt H d us ∧ look us n = some l ∧ l.length ≤ 1000 ∧
  ∀ D H', Same H H' → H D = none → H' D = some (.lst ((known us l).map V.str)) → Q (.ref D) H'
theorem ok_known {f : Addr} {fd : FuncData} {k : Nat} (D : DefN K mg "known_uses" sKnownUses ["uses", "name"] f fd) (T : Txt mg) : FnOk P w K mg base CX0 (k + 1) f fd ["uses", "name"] spKnown := by
  refine D.F.ok scKnownUses (fun vs H Q E h => ?_) (fun cdv A outer s H vs Q E hr h => ?_)
  · obtain ⟨d, us, n, l, rfl, _⟩ := h
    rfl
  · obtain ⟨d, us, n, l, rfl, hU, hn, hl, qq⟩ := h
    refine ⟨_, (pss_one (ps_ret (pe_lc (own := [("used", 2)]) (g := (gName 2)) (by rfl) scKnownUses.nd (pi_list (pe_dget (hu_of hr) (pv 0) (pv 1) (fun _ _ => rfl))) (blkOk_by (own := [("used", 2)]) (N := ["uses", "name", "used"]) (sc := defScope sKnownUses) (by decide +kernel)) (fun _ _ _ _ _ => (pg_name (i := 2) scKnownUses.nd rfl (Or.inl rfl))) (fun _ _ _ _ _ => (pts_one (pt_cmp (pc_din (hu_of hr) (pv 2) (pv 0))))) (fun _ _ _ _ _ => (pv 2))))), ?_⟩
    obtain ⟨a, ga, ha⟩ := hU.get hn
    refine ⟨_, rfl, _, rfl, d, .ref a, rfl, ga, a, rfl, ⟨_, SqL.of ha⟩, fun D0 hD => ?_⟩
    refine lc_list (K := K) (xs := l.map V.str) (fun i H' => Same H H' ∧ H' D0 = some (.lst ((known us (l.take i)).map V.str)))
      ⟨same_upd hD, upd_same⟩ (fun i H' _ p => SqL.of (p.1 _ _ ha)) ?_ ?_
    · rintro i x H' hx ⟨sm, hd⟩
      obtain ⟨y, hy, rfl⟩ : ∃ y, l[i]? = some y ∧ x = V.str y := by
        rw [List.getElem?_map] at hx
        cases e : l[i]? with
        | none => rw [e] at hx; cases hx
        | some y => rw [e] at hx; cases hx; exact ⟨y, rfl, rfl⟩
      obtain ⟨o, go, eo⟩ := (hU.same sm).in y
      have htk : l.take (i + 1) = l.take i ++ [y] := by
        rw [List.take_add_one, hy]
        rfl
      refine ⟨rfl, _, rfl, _, rfl, d, o, rfl, go, _, rfl, ?_⟩
      rw [eo]
      by_cases hm : y ∈ names us
      · rw [decide_eq_true hm]
        refine iteT ⟨_, rfl, _, hd, ?_, ?_, ?_⟩
        · rw [List.length_map]
          have : (known us (l.take i)).length ≤ (l.take i).length := List.length_filter_le ..
          have h2 : (l.take i).length ≤ l.length := by rw [List.length_take]; omega
          exact Nat.lt_of_le_of_lt (show _ ≤ 1000 by omega) (by decide)
        · intro b o2 hb
          rw [upd_ne (ne_of_none hb hD)]
          exact sm b o2 hb
        · rw [upd_same, htk]
          simp [known, hm]
      · rw [decide_eq_false hm]
        refine iteF ⟨sm, ?_⟩
        rw [hd, htk]
        simp [known, hm]
    · rintro H' ⟨sm, hd⟩
      rw [List.length_map, List.take_length] at hd
      exact qq D0 H' sm hD hd
end
end Q08
namespace Q08
open PySem PySem.Spec PyProof.Rows L2 SX HL
/-! ### the mathematics of used_first -/
theorem nodup_len : ∀ (l m : List Str), l.Nodup → (∀ x ∈ l, x ∈ m) → l.length ≤ m.length
  | [], m, _, _ => Nat.zero_le _
  | x :: l, m, nd, h => by
    have hx := h x (List.mem_cons_self ..)
    have nd' := List.nodup_cons.mp nd
    have := nodup_len l (m.erase x) nd'.2 fun y hy => (List.mem_erase_of_ne (fun e => nd'.1 (by rw [← e]; exact hy))).mpr (h y (List.mem_cons_of_mem _ hy))
    rw [List.length_erase_of_mem hx] at this
    have : 0 < m.length := List.length_pos_of_mem hx
    simp only [List.length_cons]
    omega
structure OrdI (us : Uses) (ord mt : List Str) (wt : List (Str × Bool)) : Prop where
  nd : mt.Nodup
  sub : ∀ n ∈ mt, n ∈ names us
  in_ : ∀ n ∈ mt, n ∈ ord ∨ (n, true) ∈ wt
  om : ∀ n ∈ ord, n ∈ mt
  wn : ∀ x ∈ wt, x.1 ∈ names us ∧ (x.2 = true → x.1 ∈ mt)
  cnt : ord.length + (wt.filter (·.2)).length = mt.length
theorem OrdI.done {us : Uses} {ord mt : List Str} {wt : List (Str × Bool)} {n : Str} (h : OrdI us ord mt (wt ++ [(n, true)])) : OrdI us (ord ++ [n]) mt wt := by
  refine ⟨h.nd, h.sub, fun x hx => ?_, fun x hx => ?_, fun x hx => h.wn x (List.mem_append_left _ hx), ?_⟩
  · rcases h.in_ x hx with q | q
    · exact .inl (List.mem_append_left _ q)
    · rcases List.mem_append.mp q with q | q
      · exact .inr q
      · cases List.mem_singleton.mp q
        exact .inl (List.mem_append_right _ (List.mem_singleton.mpr rfl))
  · rcases List.mem_append.mp hx with q | q
    · exact h.om x q
    · rw [List.mem_singleton.mp q]
      exact (h.wn (n, true) (List.mem_append_right _ (List.mem_singleton.mpr rfl))).2 rfl
  · have := h.cnt
    simp at this ⊢
    omega
theorem OrdI.skip {us : Uses} {ord mt : List Str} {wt : List (Str × Bool)} {n : Str} (h : OrdI us ord mt (wt ++ [(n, false)])) : OrdI us ord mt wt := by
  refine ⟨h.nd, h.sub, fun x hx => ?_, h.om, fun x hx => h.wn x (List.mem_append_left _ hx), ?_⟩
  · rcases h.in_ x hx with q | q
    · exact .inl q
    · rcases List.mem_append.mp q with q | q
      · exact .inr q
      · cases List.mem_singleton.mp q
  · have := h.cnt
    simp at this ⊢
    omega
theorem OrdI.new {us : Uses} {ord mt : List Str} {wt : List (Str × Bool)} {n : Str} {l : List Str} (h : OrdI us ord mt (wt ++ [(n, false)])) (hn : n ∉ mt) (hl : ∀ x ∈ l, x ∈ names us) : OrdI us ord (mt ++ [n]) (wt ++ [(n, true)] ++ l.map (·, false)) := by
  have hnn := (h.wn (n, false) (List.mem_append_right _ (List.mem_singleton.mpr rfl))).1
  refine ⟨?_, fun x hx => ?_, fun x hx => ?_, fun x hx => List.mem_append_left _ (h.om x hx), fun x hx => ?_, ?_⟩
  · rw [List.nodup_append]
    exact ⟨h.nd, by simp, fun a ha b hb e => hn (by rw [List.mem_singleton.mp hb] at e; rw [← e]; exact ha)⟩
  · rcases List.mem_append.mp hx with q | q
    · exact h.sub x q
    · rw [List.mem_singleton.mp q]; exact hnn
  · rcases List.mem_append.mp hx with q | q
    · rcases h.in_ x q with q | q
      · exact .inl q
      · rcases List.mem_append.mp q with q | q
        · exact .inr (List.mem_append_left _ (List.mem_append_left _ q))
        · cases List.mem_singleton.mp q
    · rw [List.mem_singleton.mp q]
      exact .inr (List.mem_append_left _ (List.mem_append_right _ (List.mem_singleton.mpr rfl)))
  · rcases List.mem_append.mp hx with q | q
    · rcases List.mem_append.mp q with q | q
      · have := h.wn x (List.mem_append_left _ q)
        exact ⟨this.1, fun e => List.mem_append_left _ (this.2 e)⟩
      · rw [List.mem_singleton.mp q]
        exact ⟨hnn, fun _ => List.mem_append_right _ (List.mem_singleton.mpr rfl)⟩
    · obtain ⟨y, hy, rfl⟩ := List.mem_map.mp q
      exact ⟨hl y hy, fun e => by cases e⟩
  · have := h.cnt
    have e : ((l.map fun x => (x, false)).filter fun x : Str × Bool => x.2) = [] := by
      rw [List.filter_eq_nil_iff]
      intro x hx
      obtain ⟨y, _, rfl⟩ := List.mem_map.mp hx
      simp
    simp only [List.filter_append, e, List.length_append, List.length_nil] at this ⊢
    simp at this ⊢
    omega
theorem OrdI.len {us : Uses} {ord mt : List Str} {wt : List (Str × Bool)} (h : OrdI us ord mt wt) : mt.length ≤ us.length := by
  have := nodup_len mt (names us) h.nd h.sub
  simpa [names] using this
def metK (mt : List Str) : List (Key × V) := mt.map fun n => ((Sum.inr n : Key), V.bl true)
theorem metK_val (mt : List Str) (n : Str) : (valV (metK mt) (.inr n)).isSome = decide (n ∈ mt) := by
  induction mt with
  | nil => rfl
  | cons m r ih =>
    by_cases e : m = n
    · subst e
      have : valV (metK (m :: r)) (.inr m) = some (.bl true) := valV_pos rfl
      rw [this]
      simp
    · have : valV (metK (m :: r)) (.inr n) = valV (metK r) (.inr n) := valV_neg (fun z => e (Sum.inr.inj z))
      rw [this, ih]
      have e2 : n ≠ m := fun z => e z.symm
      simp [e2]
theorem metK_put {mt : List Str} {n : Str} (h : n ∉ mt) : putK (metK mt) (.inr n) (.bl true) = metK (mt ++ [n]) := by
  unfold putK
  rw [if_neg]
  · simp [metK]
  · intro z
    obtain ⟨x, hx, e⟩ := List.any_eq_true.mp z
    obtain ⟨m, hm, rfl⟩ := List.mem_map.mp hx
    have := Sum.inr.inj (of_decide_eq_true e)
    subst this
    exact h hm
/-- all that was, but the locked dict -/
def KpO (H H' : Hp) (d : Addr) : Prop := ∀ b o, b ≠ d → H b = some o → H' b = some o
theorem KpO.upd {H H' : Hp} {d p : Addr} {o : HO} (h : KpO H H' d) (hp : H p = none) : KpO H (L2.upd H' p o) d := fun b x nb hb => by
  rw [upd_ne (ne_of_none hb hp)]
  exact h b x nb hb
theorem KpO.free {H H' : Hp} {d p : Addr} {o : HO} (h : KpO H H' d) (hd : H' d = some o) (hp : H' p = none) : H p = none := by
  cases e : H p with
  | none => rfl
  | some x =>
    have nb : p ≠ d := fun z => by rw [z, hd] at hp; cases hp
    rw [h p x nb e] at hp
    cases hp
theorem KpO.seqs {H H' : Hp} {d : Addr} {kvs : List (Key × V)} (h : KpO H H' d) (hd : H d = some (.dK kvs)) : SeqKept H H' := fun a o ha hs => h a o (fun e => by
  rw [e, hd] at ha
  cases ha
  exact hs) ha
theorem KpO.same {H H' H2 : Hp} {d : Addr} (h : KpO H H' d) (s : Same H' H2) : KpO H H2 d := fun b x nb hb => s _ _ (h b x nb hb)
/-- what waits: a pair each -/
inductive WR (H : Hp) : List Addr → List (Str × Bool) → Prop
  | nil : WR H [] []
  | cons {n : Str} {b : Bool} {a : Addr} {as : List Addr} {wt : List (Str × Bool)} : H a = some (.tup [.str n, .bl b]) → WR H as wt → WR H (a :: as) ((n, b) :: wt)
theorem WR.keep {H H' : Hp} {as : List Addr} {wt : List (Str × Bool)} (h : WR H as wt) (s : ∀ a xs, H a = some (.tup xs) → H' a = some (.tup xs)) : WR H' as wt := by
  induction h with
  | nil => exact .nil
  | cons ha _ ih => exact .cons (s _ _ ha) ih
theorem WR.app {H : Hp} {as bs : List Addr} {wt vt : List (Str × Bool)} (h : WR H as wt) (g : WR H bs vt) : WR H (as ++ bs) (wt ++ vt) := by
  induction h with
  | nil => exact g
  | cons ha _ ih => exact .cons ha ih
theorem WR.len {H : Hp} {as : List Addr} {wt : List (Str × Bool)} (h : WR H as wt) : as.length = wt.length := by
  induction h with
  | nil => rfl
  | cons _ _ ih => simp [ih]
theorem WR.last {H : Hp} {as : List Addr} {wt : List (Str × Bool)} (h : WR H as wt) (hne : as ≠ []) : ∃ as' a wt' n b, as = as' ++ [a] ∧ wt = wt' ++ [(n, b)] ∧ H a = some (.tup [.str n, .bl b]) ∧ WR H as' wt' := by
  induction h with
  | nil => exact absurd rfl hne
  | @cons n b a as wt ha hr ih =>
    cases as with
    | nil =>
      cases hr
      exact ⟨[], a, [], n, b, rfl, rfl, ha, .nil⟩
    | cons a2 as =>
      obtain ⟨as', a', wt', n', b', e1, e2, ha', hr'⟩ := ih (by simp)
      exact ⟨a :: as', a', (n, b) :: wt', n', b', by rw [e1]; rfl, by rw [e2]; rfl, ha', .cons ha hr'⟩
section
variable {P : Program} {w : World} {K : PySem.W.Frag} {mg : Str → Option Value} {base : Heap}
/-! ### used_first -/
/-- few names, few uses -/
def Few (us : Uses) : Prop := (names us).Nodup ∧ us.length ≤ 100 ∧ ∀ n l, look us n = some l → l.length ≤ 100
def spOrder : Sp := fun vs H Q _ => ∃ (d : Addr) (us : Uses) (kvs : List (Key × V)), vs = [.ref d] ∧ H d = some (.dK kvs) ∧ Us H kvs us ∧ Few us ∧
  ∀ D H' (ord : List Str), Same H H' → H D = none → H' D = some (.lst (ord.map V.str)) → (∀ n, n ∈ ord ↔ n ∈ names us) → ord.length ≤ 100 → Q (.ref D) H'
theorem ok_order {f fK : Addr} {fd fdK : FuncData} {k : Nat} (D : DefN K mg "used_first" sUsedFirst ["uses"] f fd) (T : Txt mg) (DKnownUses : DefN K mg "known_uses" sKnownUses ["uses", "name"] fK fdK) : FnOk P w K mg base CX0 (k + 2) f fd ["uses"] spOrder := by
  have GKnownUses : FnOk P w K mg base CX0 (k + 1) fK fdK ["uses", "name"] spKnown := ok_known DKnownUses T
  refine D.F.ok scUsedFirst (fun vs H Q E h => ?_) (fun cdv A outer s H vs Q E hr h => ?_)
  · obtain ⟨d, us, kvs, rfl, _⟩ := h
    rfl
  · obtain ⟨d, us, kvs, rfl, hd, hU, hF, qq⟩ := h
    refine ⟨_, (pss_cons (ps_set (i := 1) scUsedFirst.nd rfl (.inl rfl) (pe_lst pa_nil))
        (pss_cons (ps_set (i := 2) scUsedFirst.nd rfl (.inl rfl) pe_dnewK)
        (pss_cons (ps_lock (ps_for PassesOwn.never rfl (pi_keys (pv 0)) (pg_name (i := 3) scUsedFirst.nd rfl (.inl rfl)) (pss_cons (ps_set (i := 4) scUsedFirst.nd rfl (.inl rfl) (pe_lst (pa_cons (pe_tup (pa_cons (pv 3) (pa_cons pe_bl pa_nil))) pa_nil)))
        (pss_one (ps_while PassesOwn.never (pt_truth (pv 4) (by intro _; rfl)) (pss_cons (ps_asg (pe_bm0 PySem.F.plainAttrs_list PySem.F.slot_list_pop PySem.F.type_list_pop mt_pop (pv 4)) (pg_tup rfl (pgs_cons (pg_name (i := 5) scUsedFirst.nd rfl (.inl rfl)) (pgs_cons (pg_name (i := 6) scUsedFirst.nd rfl (.inl rfl)) pgs_nil))))
        (pss_one (ps_if (pt_val (pv 6)) (pss_one (ps_expr (pe_bm PySem.F.plainAttrs_list PySem.F.slot_list_append PySem.F.type_list_append mt_append (pv 1) (pa_cons (pv 5) pa_nil)))) (pss_one (ps_if (pt_cmp (pc_dnotin (hu_of hr) (pv 5) (pv 2))) (pss_cons (ps_dput (hu_of hr) (pv 2) (pv 5) pe_bl rfl)
        (pss_cons (ps_expr (pe_bm PySem.F.plainAttrs_list PySem.F.slot_list_append PySem.F.type_list_append mt_append (pv 4) (pa_cons (pe_tup (pa_cons (pv 5) (pa_cons pe_bl pa_nil))) pa_nil)))
        (pss_one (ps_expr (pe_bm PySem.F.plainAttrs_list PySem.F.slot_list_extend PySem.F.type_list_extend mt_extend (pv 4) (pa_cons (pe_lc (own := [("used", 7)]) (g := (gName 7)) (by rfl) scUsedFirst.nd (pi_list (pe_call GKnownUses (hr.mono (by omega)) (by rfl) DKnownUses.g DKnownUses.F.kp DKnownUses.b .nil pass0 (pa_cons (pv 0) (pa_cons (pv 5) pa_nil)))) (blkOk_by (own := [("used", 7)]) (N := ["uses", "order", "met", "first", "waiting", "name", "is_done", "used"]) (sc := defScope sUsedFirst) (by decide +kernel)) (fun _ _ _ _ _ => (pg_name (i := 7) scUsedFirst.nd rfl (Or.inl rfl))) (fun _ _ _ _ _ => pts_nil) (fun _ _ _ _ _ => (pe_tup (pa_cons (pv 7) (pa_cons pe_bl pa_nil))))) pa_nil)))))) pss_nil))))))))))
        (pss_one (ps_ret (pv 1)))))), ?_⟩
    have hnl : (names us).length = us.length := by simp [names]
    have t1 : 1 ≤ sizeLine := by decide
    have t2 : 2 ≤ sizeLine := by decide
    refine ⟨Nat.zero_le _, fun O hO M hM => ?_⟩
    have nMO : M ≠ O := fun e => by rw [e, upd_same] at hM; cases hM
    have hM0 : H M = none := by rw [upd_ne nMO] at hM; exact hM
    have ndO : d ≠ O := ne_of_none hd hO
    have ndM : d ≠ M := ne_of_none hd hM0
    refine ⟨d, .dK kvs, by rw [upd_ne ndM, upd_ne ndO]; exact hd, True.intro, fun od => ⟨_, rfl, d, od, rfl, .inl ⟨kvs, upd_same, ?_⟩⟩⟩
    refine for_it walk_keys (fun i σ H' => ∃ (ord mt : List Str) (y3 y4 y5 y6 : Option V), σ = [some (.ref d), some (.ref O), some (.ref M), y3, y4, y5, y6, none] ∧ KpO H H' d ∧ H' d = some (.frz od (.dK kvs)) ∧ H' O = some (.lst (ord.map V.str)) ∧ H' M = some (.dK (metK mt)) ∧
        OrdI us ord mt [] ∧ ∀ (j : Nat) (n : Str) (l : List Str), j < i → us[j]? = some (n, l) → n ∈ mt) ?_ (fun i σ H' _ p => ?_) ?_ ?_
    · refine ⟨[], [], none, none, none, none, rfl, fun b o nb hb => ?_, upd_same, ?_, ?_, ⟨.nil, fun _ h => (by cases h), fun _ h => (by cases h), fun _ h => (by cases h), fun _ h => (by cases h), rfl⟩, fun j n l hj => absurd hj (Nat.not_lt_zero _)⟩
      · rw [upd_ne nb, upd_ne (ne_of_none hb hM0), upd_ne (ne_of_none hb hO)]
        exact hb
      · rw [upd_ne ndO.symm, upd_ne nMO.symm, upd_same]
        rfl
      · rw [upd_ne ndM.symm, upd_same]
        rfl
    · obtain ⟨_, _, _, _, _, _, _, _, h, _⟩ := p
      exact h
    · rintro i x σ H1 H2 hi ⟨ord, mt, y3, y4, y5, y6, rfl, kp, hdf, hOo, hMm, oi, dn⟩ ⟨rfl, k, v, hk, rfl⟩
      obtain ⟨n, l0, a0, hus, rfl, rfl, _⟩ := hU.at hk
      refine ⟨_, rfl, t2, fun t ht => ⟨t1, fun W hW => ?_⟩⟩
      have hW1 : H2 W = none := (same_upd ht).free hW
      have nWt : W ≠ t := fun e => by rw [e, upd_same] at hW; cases hW
      have nWO : W ≠ O := fun e => by rw [e, hOo] at hW1; cases hW1
      have nWM : W ≠ M := fun e => by rw [e, hMm] at hW1; cases hW1
      have nWd : W ≠ d := fun e => by rw [e, hdf] at hW1; cases hW1
      have hWH : H W = none := by
        cases e : H W with
        | none => rfl
        | some o => rw [kp W o nWd e] at hW1; cases hW1
      have hn : n ∈ names us := List.mem_map.mpr ⟨(n, l0), List.mem_of_getElem? hus, rfl⟩
      refine ⟨fun m σ H' => ∃ (ord mt : List Str) (ws : List Addr) (wt : List (Str × Bool)) (y5 y6 : Option V), σ = [some (.ref d), some (.ref O), some (.ref M), some (.str n), some (.ref W), y5, y6, none] ∧ m = (us.length - mt.length) * 1000 + wt.length ∧
          KpO H H' d ∧ H' d = some (.frz od (.dK kvs)) ∧ H' O = some (.lst (ord.map V.str)) ∧ H' M = some (.dK (metK mt)) ∧ H' W = some (.lst (ws.map V.ref)) ∧ WR H' ws wt ∧ OrdI us ord mt wt ∧
          (∀ (j : Nat) (n : Str) (l : List Str), j < i → us[j]? = some (n, l) → n ∈ mt) ∧ (n ∈ mt ∨ (n, false) ∈ wt) ∧ wt.length ≤ 1 + 101 * mt.length,
        ⟨_, ord, mt, [t], [(n, false)], y5, y6, rfl, rfl, fun b o nb hb => ?_, ?_, ?_, ?_, upd_same, .cons ?_ .nil, ?_, dn, .inr (List.mem_singleton.mpr rfl), by simp⟩, ?_⟩
      · have := kp b o nb hb
        rw [upd_ne (ne_of_none (same_upd ht _ _ this) hW)]
        exact same_upd ht _ _ this
      · rw [upd_ne nWd.symm]; exact same_upd ht _ _ hdf
      · rw [upd_ne nWO.symm]; exact same_upd ht _ _ hOo
      · rw [upd_ne nWM.symm]; exact same_upd ht _ _ hMm
      · rw [upd_ne nWt.symm, upd_same]
        rfl
      · exact ⟨oi.nd, oi.sub, fun x hx => (oi.in_ x hx).imp id (fun h => by cases h), oi.om, fun x hx => by rw [List.mem_singleton.mp hx]; exact ⟨hn, fun e => by cases e⟩, by have := oi.cnt; simpa using this⟩
      rintro m σ H3 ⟨ord, mt, ws, wt, y5, y6, rfl, rfl, kp, hdf, hOo, hMm, hWw, wr, oi, dn, hnn, hwl⟩
      by_cases hws : ws = []
      · subst hws
        cases wr
        refine ⟨_, rfl, false, .inl ⟨_, SqL.of hWw, rfl⟩, iteF ⟨ord, mt, _, _, _, _, rfl, kp, hdf, hOo, hMm, oi, fun j n' l hj hjl => ?_⟩⟩
        rcases Nat.lt_or_ge j i with q | q
        · exact dn j n' l q hjl
        · have : j = i := by omega
          subst this
          rw [hus] at hjl
          cases hjl
          rcases hnn with q | q
          · exact q
          · cases q
      · obtain ⟨ws', a, wt', n1, b, rfl, rfl, ha, wr'⟩ := wr.last hws
        refine ⟨_, rfl, true, .inl ⟨_, SqL.of hWw, by simp⟩, iteT ?_⟩
        refine ⟨fun σ' H' => ∃ (ord mt' : List Str) (ws : List Addr) (wt2 : List (Str × Bool)) (y5 y6 : Option V), σ' = [some (.ref d), some (.ref O), some (.ref M), some (.str n), some (.ref W), y5, y6, none] ∧ (us.length - mt'.length) * 1000 + wt2.length < (us.length - mt.length) * 1000 + (wt' ++ [(n1, b)]).length ∧
          KpO H H' d ∧ H' d = some (.frz od (.dK kvs)) ∧ H' O = some (.lst (ord.map V.str)) ∧ H' M = some (.dK (metK mt')) ∧ H' W = some (.lst (ws.map V.ref)) ∧ WR H' ws wt2 ∧ OrdI us ord mt' wt2 ∧
          (∀ (j : Nat) (n : Str) (l : List Str), j < i → us[j]? = some (n, l) → n ∈ mt') ∧ (n ∈ mt' ∨ (n, false) ∈ wt2) ∧ wt2.length ≤ 1 + 101 * mt'.length, ?_, ?_⟩
        · rintro σ' H' ⟨ord, mt', ws, wt2, y5, y6, e1, e2, r⟩
          exact ⟨_, e2, ord, mt', ws, wt2, y5, y6, e1, rfl, r⟩
        have hWd : upd H3 W (.lst (((ws' ++ [a]).map V.ref).dropLast)) = upd H3 W (.lst (ws'.map V.ref)) := by simp
        have keepW : ∀ (b : Addr) (o : HO) (z : List V), (∀ l, o ≠ .lst l) → H3 b = some o → upd H3 W (.lst z) b = some o := fun b o z hne hb => by
          rw [upd_ne (ne_of hb hWw (hne _))]
          exact hb
        refine ⟨_, rfl, .inl ⟨rfl, _, SqL.of hWw⟩, W, _, .ref a, rfl, rfl, hWw, by simp, ?_⟩
        rw [hWd]
        have ha' := keepW a _ (ws'.map V.ref) (fun l z => by cases z) ha
        refine ⟨a, _, rfl, SqT.of ha', rfl, _, _, rfl, _, _, rfl, rfl, ?_⟩
        have kp4 := kp.upd (o := .lst (ws'.map V.ref)) hWH
        have hd4 := keepW d _ (ws'.map V.ref) (fun l z => by cases z) hdf
        have hM4 := keepW M _ (ws'.map V.ref) (fun l z => by cases z) hMm
        have hO4 : upd H3 W (.lst (ws'.map V.ref)) O = some (.lst (ord.map V.str)) := by rw [upd_ne nWO.symm]; exact hOo
        have hW4 : upd H3 W (.lst (ws'.map V.ref)) W = some (.lst (ws'.map V.ref)) := upd_same
        have wr4 := wr'.keep fun b xs hb => keepW b _ (ws'.map V.ref) (fun l z => by cases z) hb
        have olen := oi.len
        have ocnt := oi.cnt
        have flen := hF.2.1
        simp only [List.length_append, List.length_singleton] at hwl
        generalize upd H3 W (.lst (ws'.map V.ref)) = H4 at kp4 hd4 hM4 hO4 hW4 wr4 ha'
        cases b with
        | true =>
          have oi2 := oi.done
          refine ⟨_, rfl, true, rfl, iteT ⟨_, rfl, .inl ⟨rfl, _, SqL.of hO4⟩, _, rfl, O, _, _, rfl, rfl, hO4, ?_, ?_⟩⟩
          · rw [List.length_map]
            exact Nat.lt_of_le_of_lt (show ord.length ≤ 100 by omega) (by decide)
          · refine ⟨ord ++ [n1], mt, ws', wt', _, _, rfl, by simp, kp4.upd hO, ?_, ?_, ?_, ?_, wr4.keep fun b xs hb => ?_, oi2, dn, ?_, by omega⟩
            · rw [upd_ne ndO]; exact hd4
            · rw [upd_same]; simp
            · rw [upd_ne nMO]; exact hM4
            · rw [upd_ne nWO]; exact hW4
            · rw [upd_ne (ne_of hb hO4 (by intro z; cases z))]; exact hb
            · rcases hnn with q | q
              · exact .inl q
              · rcases List.mem_append.mp q with q | q
                · exact .inr q
                · cases List.mem_singleton.mp q
        | false =>
          have hn1 := (oi.wn (n1, false) (List.mem_append_right _ (List.mem_singleton.mpr rfl))).1
          refine ⟨_, rfl, false, rfl, iteF ⟨_, rfl, _, rfl, M, _, rfl, DGet.k (k := .inr n1) hM4, _, rfl, ?_⟩⟩
          rw [metK_val]
          by_cases hm : n1 ∈ mt
          · rw [decide_eq_true hm]
            refine iteF ⟨ord, mt, ws', wt', _, _, rfl, by simp, kp4, hd4, hO4, hM4, hW4, wr4, oi.skip, dn, ?_, by omega⟩
            rcases hnn with q | q
            · exact .inl q
            · rcases List.mem_append.mp q with q | q
              · exact .inr q
              · cases List.mem_singleton.mp q
                exact .inl hm
          · rw [decide_eq_false hm]
            obtain ⟨l, hl, _⟩ := look_some hn1
            have hll := hF.2.2 n1 l hl
            have hkl : (known us l).length ≤ l.length := List.length_filter_le ..
            have oi2 := oi.new hm (l := known us l) fun x hx => of_decide_eq_true (List.mem_filter.mp hx).2
            have olen2 := oi2.len
            rw [List.length_append, List.length_singleton] at olen2
            have mlen : (metK mt).length = mt.length := List.length_map _
            refine iteT ⟨_, rfl, _, rfl, M, _, rfl, DPut.k (k := .inr n1) hM4 (by rw [mlen]; exact Nat.lt_of_le_of_lt (show mt.length ≤ 100 by omega) (by decide)), ?_⟩
            rw [metK_put hm]
            have kp5 := kp4.upd (o := .dK (metK (mt ++ [n1]))) hM0
            have hd5 : upd H4 M (.dK (metK (mt ++ [n1]))) d = some (.frz od (.dK kvs)) := by rw [upd_ne ndM]; exact hd4
            have hO5 : upd H4 M (.dK (metK (mt ++ [n1]))) O = some (.lst (ord.map V.str)) := by rw [upd_ne nMO.symm]; exact hO4
            have hW5 : upd H4 M (.dK (metK (mt ++ [n1]))) W = some (.lst (ws'.map V.ref)) := by rw [upd_ne nWM]; exact hW4
            have hM5 : upd H4 M (.dK (metK (mt ++ [n1]))) M = some (.dK (metK (mt ++ [n1]))) := upd_same
            have wr5 := wr4.keep (H' := upd H4 M (.dK (metK (mt ++ [n1])))) fun b xs hb => by rw [upd_ne (ne_of hb hM4 (by intro z; cases z))]; exact hb
            generalize upd H4 M (.dK (metK (mt ++ [n1]))) = H5 at kp5 hd5 hO5 hW5 hM5 wr5
            refine ⟨_, rfl, .inl ⟨rfl, _, SqL.of hW5⟩, _, rfl, t2, fun t3 ht3 => ⟨W, _, _, rfl, rfl, same_upd ht3 _ _ hW5, ?_, ?_⟩⟩
            · rw [List.length_map, wr5.len]
              exact Nat.lt_of_le_of_lt (show wt'.length ≤ 20000 by omega) (by decide)
            have n3 : ∀ {b : Addr} {o : HO}, H5 b = some o → b ≠ t3 := fun hb => ne_of_none hb ht3
            have hWH3 : H t3 = none := kp5.free hd5 ht3
            have keep6 : ∀ {b : Addr} {o : HO}, b ≠ W → H5 b = some o → upd (upd H5 t3 (.tup [.str n1, .bl true])) W (.lst (ws'.map V.ref ++ [.ref t3])) b = some o := fun nb hb => by
              rw [upd_ne nb, upd_ne (n3 hb)]
              exact hb
            have kp6 := (kp5.upd (o := .tup [.str n1, .bl true]) hWH3).upd (o := .lst (ws'.map V.ref ++ [.ref t3])) hWH
            have hd6 := keep6 nWd.symm hd5
            have hO6 := keep6 nWO.symm hO5
            have hM6 := keep6 nWM.symm hM5
            have hW6 : upd (upd H5 t3 (.tup [.str n1, .bl true])) W (.lst (ws'.map V.ref ++ [.ref t3])) W = some (.lst ((ws' ++ [t3]).map V.ref)) := by rw [upd_same]; simp
            have wr6 := (wr5.keep (H' := upd (upd H5 t3 (.tup [.str n1, .bl true])) W (.lst (ws'.map V.ref ++ [.ref t3]))) fun b xs hb => keep6 (ne_of hb hW5 (by intro z; cases z)) hb).app
              (.cons (n := n1) (b := true) (a := t3) (by rw [upd_ne (n3 hW5).symm, upd_same]) .nil)
            dsimp only
            generalize upd (upd H5 t3 (.tup [.str n1, .bl true])) W (.lst (ws'.map V.ref ++ [.ref t3])) = H6 at kp6 hd6 hO6 hM6 hW6 wr6
            refine ⟨_, rfl, .inl ⟨rfl, _, SqL.of hW6⟩, _, rfl, _, rfl, d, us, n1, l, rfl, ⟨kvs, .inr ⟨od, hd6⟩, hU.keep (kp6.seqs hd)⟩, hl, by omega, fun L H7 s7 hLn hL => ⟨L, rfl, ⟨_, SqL.of hL⟩, fun D2 hD2 => ?_⟩⟩
            refine lc_list (K := K) (xs := (known us l).map V.str) (fun i H' => Same H7 H' ∧ ∃ as, H' D2 = some (.lst (as.map V.ref)) ∧ WR H' as (((known us l).take i).map (·, false)))
              ⟨same_upd hD2, [], upd_same, .nil⟩ (fun i H' _ p => SqL.of (p.1 _ _ hL)) ?_ ?_
            · rintro j x H8 hx ⟨s8, as, hD8, wr8⟩
              obtain ⟨y, hy, rfl⟩ : ∃ y, (known us l)[j]? = some y ∧ x = V.str y := by
                rw [List.getElem?_map] at hx
                cases e : (known us l)[j]? with
                | none => rw [e] at hx; cases hx
                | some y => rw [e] at hx; cases hx; exact ⟨y, rfl, rfl⟩
              have jl := (List.getElem?_eq_some_iff.mp hy).1
              have htk : (known us l).take (j + 1) = (known us l).take j ++ [y] := by
                rw [List.take_add_one, hy]
                rfl
              have n4 : ∀ {t4 b : Addr} {o : HO}, H8 t4 = none → H8 b = some o → b ≠ t4 := fun h hb => ne_of_none hb h
              refine ⟨rfl, lc_yes ⟨_, rfl, t2, fun t4 ht4 => ⟨_, same_upd ht4 _ _ hD8, ?_, fun b o hb => ?_, as ++ [t4], ?_, ?_⟩⟩⟩
              · rw [List.length_map, wr8.len, List.length_map, List.length_take]
                exact Nat.lt_of_le_of_lt (show min j (known us l).length ≤ 1000 by omega) (by decide)
              · rw [upd_ne (ne_of_none hb hD2), upd_ne (n4 ht4 (s8 _ _ hb))]
                exact s8 _ _ hb
              · rw [upd_same]; simp
              · rw [htk, List.map_append]
                refine (wr8.keep fun b xs hb => ?_).app (.cons ?_ .nil)
                · rw [upd_ne (ne_of hb hD8 (by intro z; cases z)), upd_ne (n4 ht4 hb)]
                  exact hb
                · rw [upd_ne (n4 ht4 hD8).symm, upd_same]
            · rintro H8 ⟨s8, as, hD8, wr8⟩
              rw [List.length_map, List.take_length] at wr8
              have s78 := s7.trans s8
              have nDW : D2 ≠ W := fun e => by
                rw [e, s7 _ _ hW6] at hD2
                cases hD2
              have ln := wr8.len
              rw [List.length_map] at ln
              refine ⟨W, D2, _, _, rfl, rfl, s78 _ _ hW6, hD8, ?_, ?_⟩
              · rw [List.length_map, List.length_map, List.length_append, List.length_singleton, wr'.len, ln]
                exact Nat.le_trans (show wt'.length + 1 + (known us l).length ≤ 30000 by omega) (by decide)
              · have keep9 : ∀ {b : Addr} {o : HO}, b ≠ W → H6 b = some o → upd H8 W (.lst ((ws' ++ [t3]).map V.ref ++ as.map V.ref)) b = some o := fun nb hb => by
                  rw [upd_ne nb]
                  exact s78 _ _ hb
                refine ⟨ord, mt ++ [n1], (ws' ++ [t3]) ++ as, (wt' ++ [(n1, true)]) ++ (known us l).map (·, false), _, _, rfl, ?_, (kp6.same s78).upd hWH, keep9 nWd.symm hd6, keep9 nWO.symm hO6, keep9 nWM.symm hM6, (by rw [upd_same]; simp), ?_, oi2, ?_, ?_, ?_⟩
                · simp only [List.length_append, List.length_singleton, List.length_map]
                  omega
                · refine WR.keep (WR.app (wr6.keep fun b xs hb => s78 _ _ hb) wr8) fun b xs hb => ?_
                  rw [upd_ne (ne_of hb (s78 _ _ hW6) (by intro z; cases z))]
                  exact hb
                · exact fun j n' l' hj hjl => List.mem_append_left _ (dn j n' l' hj hjl)
                · rcases hnn with q | q
                  · exact .inl (List.mem_append_left _ q)
                  · rcases List.mem_append.mp q with q | q
                    · exact .inr (List.mem_append_left _ (List.mem_append_left _ q))
                    · cases List.mem_singleton.mp q
                      exact .inl (List.mem_append_right _ (List.mem_singleton.mpr rfl))
                · simp only [List.length_append, List.length_singleton, List.length_map]
                  omega
    · rintro σ H' ⟨ord, mt, y3, y4, y5, y6, rfl, kp, hdf, hOo, hMm, oi, dn⟩
      have all : ∀ n, n ∈ ord ↔ n ∈ names us := fun n => ⟨fun h => oi.sub n (oi.om n h), fun h => by
        obtain ⟨⟨n', l⟩, hm, rfl⟩ := List.mem_map.mp h
        obtain ⟨j, hj⟩ := List.mem_iff_getElem?.mp hm
        have hjl : j < kvs.length := by
          rw [hU.len]
          exact (List.getElem?_eq_some_iff.mp hj).1
        rcases oi.in_ _ (dn j n' l hjl hj) with q | q
        · exact q
        · cases q⟩
      refine ⟨hdf, _, rfl, qq O _ ord (fun b o hb => ?_) hO ?_ all ?_⟩
      · by_cases e : b = d
        · subst e
          rw [upd_same, ← hd, hb]
        · rw [upd_ne e]
          exact kp b o e hb
      · rw [upd_ne ndO.symm]
        exact hOo
      · have h1 := oi.cnt
        have h2 := oi.len
        have h3 := hF.2.1
        omega
end
end Q08
namespace Q08
open PySem PySem.Spec PyProof.Rows L2 SX HL
section
variable {P : Program} {w : World} {K : PySem.W.Frag} {mg : Str → Option Value} {base : Heap}
/-! ### _law_name -/
/-- a text that a list of codes spells -/
def Ok1 (x : Str) : Prop := ∀ c ∈ x.cps.toList, c < 1114112
def spName : Sp := fun vs H Q _ => ∃ i : Int, vs = [.int i] ∧ 0 ≤ i ∧ ∀ l : List Nat, Ok1 (S l) → Q (.str (S l)) H
theorem ok_lname {f : Addr} {fd : FuncData} {k : Nat} (D : DefN K mg "_law_name" sLawName ["number"] f fd) (T : Txt mg) : FnOk P w K mg base CX0 (k + 1) f fd ["number"] spName := by
  refine D.F.ok scLawName (fun vs H Q E h => ?_) (fun cdv A outer s H vs Q E hr h => ?_)
  · obtain ⟨i, rfl, _⟩ := h
    rfl
  · obtain ⟨i, rfl, i0, qq⟩ := h
    refine ⟨_, (pss_cons (ps_set (i := 1) scLawName.nd rfl (.inl rfl) pe_str)
        (pss_cons (ps_set (i := 2) scLawName.nd rfl (.inl rfl) (pe_ix ix_str (pv 1) (pe_op op_mod (pv 0) pe_int) (fun _ _ => rfl)))
        (pss_cons (ps_for PassesOwn.never rfl (pi_range1 (by rfl) T.range (pa_cons (pe_op op_mod (pe_op op_fdiv (pv 0) pe_int) pe_int) pa_nil)) (pg_name (i := 3) scLawName.nd rfl (.inl rfl)) (pss_one (ps_set (i := 2) scLawName.nd rfl (.inl rfl) (pe_op op_add_str (pv 2) (pe_ix ix_str (pv 1) (pe_op op_mod (pe_op op_fdiv (pe_op op_fdiv (pv 0) pe_int) (pe_op op_add pe_int (pe_op op_mul pe_int (pv 3)))) pe_int) (fun _ _ => rfl))))))
        (pss_one (ps_ret (pv 2)))))), ?_⟩
    have el : ("abcdefghijklmnopqrstuvwxyz0123456789_" : Str) = S ((Str.ofString "abcdefghijklmnopqrstuvwxyz0123456789_").cps.toList) := rfl
    have ll : ((Str.ofString "abcdefghijklmnopqrstuvwxyz0123456789_").cps.toList).length = 37 := by decide +kernel
    rw [el]
    have lo : ∀ c ∈ (Str.ofString "abcdefghijklmnopqrstuvwxyz0123456789_").cps.toList, c < 1114112 := by decide +kernel
    generalize (Str.ofString "abcdefghijklmnopqrstuvwxyz0123456789_").cps.toList = lt at ll lo
    have lg : ∀ j : Nat, lt.getD j 0 < 1114112 := fun j => by
      rw [List.getD_eq_getElem?_getD]
      cases e : lt[j]? with
      | none => decide
      | some c => exact lo c (List.mem_of_getElem? e)
    have sl : (S lt).length ≤ sizeLine := by rw [S_len, ll]; decide
    have pick : ∀ j : Int, 0 ≤ j → j < 37 → atI (S lt).cps.toList j = some (lt.getD j.toNat 0) := fun j j0 j1 => by
      have e : j = (j.toNat : Int) := by omega
      rw [e]
      exact sign_at (by omega)
    refine ⟨_, rfl, _, rfl, i, 26, rfl, rfl, (by show (0 : Int) < 26; decide), S lt, _, _, rfl, rfl, sl, pick _ (Int.emod_nonneg _ (by decide)) (Int.lt_trans (Int.emod_lt_of_pos _ (by decide)) (by decide)), ?_⟩
    refine ⟨_, rfl, i, 26, rfl, rfl, ⟨by decide, by decide⟩, _, _, rfl, rfl, (by show (0 : Int) < 3; decide), _, rfl, ?_⟩
    have m0 : 0 ≤ i / 26 % 3 := Int.emod_nonneg _ (by decide)
    have m1 : i / 26 % 3 < 3 := Int.emod_lt_of_pos _ (by decide)
    show -2 ^ 62 ≤ i / 26 % 3 ∧ i / 26 % 3 < 2 ^ 62 ∧ _
    generalize i / 26 % 3 = m at m0 m1
    refine ⟨by omega, by omega, ?_⟩
    refine for_range (lo := 0) (n := m.toNat) (fun j σ H' => H' = H ∧ ∃ (l : List Nat) (y : Option V), σ = [some (.int i), some (.str (S lt)), some (.str (S l)), y] ∧ l.length ≤ 1 + j ∧ ∀ c ∈ l, c < 1114112) ⟨rfl, [_], none, rfl, by simp, fun c hc => by rw [List.mem_singleton.mp hc]; exact lg _⟩ ?_ ?_
    · rintro j σ H' hj ⟨rfl, l, y, rfl, hl, hlo⟩
      refine ⟨_, rfl, _, rfl, _, rfl, i, 78, rfl, rfl, ⟨by decide, by decide⟩, _, rfl, 30, _, rfl, rfl, .inl ⟨by decide, by decide⟩, 1, _, rfl, rfl, i / 78, 1 + 30 * (0 + (j : Int)), rfl, rfl, ⟨by omega, by omega⟩, _, _, rfl, rfl, (by show (0 : Int) < 37; decide), ?_⟩
      refine ⟨S lt, _, _, rfl, rfl, sl, pick _ (Int.emod_nonneg _ (by decide)) (Int.emod_lt_of_pos _ (by decide)), S l, S [_], rfl, rfl, ?_, ?_⟩
      · rw [S_len, S_len]
        exact small _ (by simp; omega)
      · rw [S_app]
        exact ⟨rfl, _, _, rfl, by simp; omega, fun c hc => by
          rcases List.mem_append.mp hc with h | h
          · exact hlo c h
          · rw [List.mem_singleton.mp h]; exact lg _⟩
    · rintro σ H' ⟨rfl, l, y, rfl, hl, hlo⟩
      exact ⟨_, rfl, qq l fun c hc => hlo c (by simpa [S] using hc)⟩
/-! ### _law_uses -/
theorem inV_str {x : Str} {xs : List Str} : inV (.str x) (xs.map V.str) = decide (x ∈ xs) := by
  induction xs with
  | nil => rfl
  | cons y r ih =>
    have : inV (.str x) ((y :: r).map V.str) = (y == x || inV (.str x) (r.map V.str)) := rfl
    rw [this, ih, Bool.eq_iff_iff]
    simp only [Bool.or_eq_true, beq_iff_eq, decide_eq_true_eq, List.mem_cons]
    exact or_congr_left eq_comm
theorem flat_strs (xs : List Str) : (xs.map V.str).all flatV = true := by
  rw [List.all_eq_true]
  intro x hx
  obtain ⟨y, _, rfl⟩ := List.mem_map.mp hx
  rfl
theorem atS {nm : List Str} {j : Int} (h0 : 0 ≤ j) (h1 : j < (nm.length : Int)) : ∃ x, nm[j.toNat]? = some x ∧ atI (nm.map V.str) j = some (.str x) := by
  have hj : j.toNat < nm.length := by omega
  refine ⟨nm[j.toNat], List.getElem?_eq_getElem hj, ?_⟩
  have h := atI_nat (xs := nm.map V.str) (j := j.toNat) (v := .str nm[j.toNat]) (by simp [hj])
  have e : ((j.toNat : Nat) : Int) = j := by omega
  rwa [e] at h
theorem valV_new {H : Hp} {kvs : List (Key × V)} {us : Uses} (h : Us H kvs us) {n : Str} (hn : n ∉ names us) (v : V) : putK kvs (.inr n) v = kvs ++ [(.inr n, v)] := by
  unfold putK
  rw [if_neg]
  intro z
  obtain ⟨⟨k, w⟩, hx, e⟩ := List.any_eq_true.mp z
  obtain ⟨i, hi⟩ := List.mem_iff_getElem?.mp hx
  obtain ⟨m, l, a, e1, rfl, _⟩ := h.at hi
  have := Sum.inr.inj (of_decide_eq_true e)
  subst this
  exact hn (List.mem_map.mpr ⟨_, List.mem_of_getElem? e1, rfl⟩)
/-- what the law draws -/
def Drawn (us : Uses) : Prop := (names us).Nodup ∧ us.length ≤ 14 ∧ (∀ u ∈ us, u.2.length ≤ 4) ∧ ∀ x ∈ names us, Ok1 x
def spUses : Sp := fun vs H Q _ => ∃ (a : Addr) (ds : List Int), vs = [.ref a] ∧ H a = some (.lst (ds.map V.int)) ∧ Draws ds ∧
  ∀ (d : Addr) (H' : Hp) (kvs : List (Key × V)) (us : Uses), Same H H' → H d = none → H' d = some (.dK kvs) → Us H' kvs us → Drawn us → Q (.ref d) H'
theorem ok_uses {f fM fA fN : Addr} {fd fdM fdA fdN : FuncData} {k : Nat} (D : DefN K mg "_law_uses" sLawUses ["draws"] f fd) (T : Txt mg) (DLawMix : DefN K mg "_law_mix" sLawMix ["cell", "k"] fM fdM) (DLawAt : DefN K mg "_law_at" sLawAt ["draws", "index"] fA fdA)
    (DLawName : DefN K mg "_law_name" sLawName ["number"] fN fdN) : FnOk P w K mg base CX0 (k + 3) f fd ["draws"] spUses := by
  have GLawAt : FnOk P w K mg base CX0 (k + 2) fA fdA ["draws", "index"] spAt := ok_at DLawAt T DLawMix
  have GLawName : FnOk P w K mg base CX0 (k + 1) fN fdN ["number"] spName := ok_lname DLawName T
  refine D.F.ok scLawUses (fun vs H Q E h => ?_) (fun cdv A outer s H vs Q E hr h => ?_)
  · obtain ⟨a, ds, rfl, _⟩ := h
    rfl
  · obtain ⟨a, ds, rfl, ha, hds, qq⟩ := h
    refine ⟨_, (pss_cons (ps_set (i := 1) scLawUses.nd rfl (.inl rfl) (pe_lst pa_nil))
        (pss_cons (ps_for PassesOwn.never rfl (pi_range1 (by rfl) T.range (pa_cons (pe_op op_mod (pe_call GLawAt (hr.mono (by omega)) (by rfl) DLawAt.g DLawAt.F.kp DLawAt.b .nil pass0 (pa_cons (pv 0) (pa_cons pe_int pa_nil))) pe_int) pa_nil)) (pg_name (i := 2) scLawUses.nd rfl (.inl rfl)) (pss_cons (ps_set (i := 3) scLawUses.nd rfl (.inl rfl) (pe_call GLawName (hr.mono (by omega)) (by rfl) DLawName.g DLawName.F.kp DLawName.b .nil pass0 (pa_cons (pe_call GLawAt (hr.mono (by omega)) (by rfl) DLawAt.g DLawAt.F.kp DLawAt.b .nil pass0 (pa_cons (pv 0) (pa_cons (pe_op op_add pe_int (pe_op op_mul pe_int (pv 2))) pa_nil))) pa_nil)))
        (pss_one (ps_if (pt_cmpR op_notIn_seq (pv 3) (pv 1) rfl) (pss_one (ps_expr (pe_bm PySem.F.plainAttrs_list PySem.F.slot_list_append PySem.F.type_list_append mt_append (pv 1) (pa_cons (pv 3) pa_nil)))) pss_nil))))
        (pss_cons (ps_set (i := 4) scLawUses.nd rfl (.inl rfl) pe_dnewK)
        (pss_cons (ps_for PassesOwn.never rfl (pi_range1 (by rfl) T.range (pa_cons (pe_callB call_len_seq (by rfl) T.len PySem.boot_len (pa_cons (pv 1) pa_nil)) pa_nil)) (pg_name (i := 2) scLawUses.nd rfl (.inl rfl)) (pss_cons (ps_set (i := 5) scLawUses.nd rfl (.inl rfl) (pe_lst pa_nil))
        (pss_cons (ps_for PassesOwn.never rfl (pi_range1 (by rfl) T.range (pa_cons (pe_op op_mod (pe_call GLawAt (hr.mono (by omega)) (by rfl) DLawAt.g DLawAt.F.kp DLawAt.b .nil pass0 (pa_cons (pv 0) (pa_cons (pe_op op_add pe_int (pe_op op_mul pe_int (pv 2))) pa_nil))) pe_int) pa_nil)) (pg_name (i := 6) scLawUses.nd rfl (.inl rfl)) (pss_cons (ps_set (i := 7) scLawUses.nd rfl (.inl rfl) (pe_call GLawAt (hr.mono (by omega)) (by rfl) DLawAt.g DLawAt.F.kp DLawAt.b .nil pass0 (pa_cons (pv 0) (pa_cons (pe_op op_add (pe_op op_add pe_int (pe_op op_mul pe_int (pv 2))) (pv 6)) pa_nil))))
        (pss_one (ps_if (PW.pt (pw_and (pt_cmpR op_eq (pe_op op_mod (pe_call GLawAt (hr.mono (by omega)) (by rfl) DLawAt.g DLawAt.F.kp DLawAt.b .nil pass0 (pa_cons (pv 0) (pa_cons pe_int pa_nil))) pe_int) pe_int (nomark _)) (pw_and1 (pt_cmpR op_ne (pe_op op_mod (pv 7) pe_int) pe_int (nomark _))))) (pss_one (ps_expr (pe_bm PySem.F.plainAttrs_list PySem.F.slot_list_append PySem.F.type_list_append mt_append (pv 5) (pa_cons (pe_ix ix_list (pv 1) (pe_op op_mod (pe_op op_add (pv 2) (pe_op op_mod (pv 7) pe_int)) (pe_callB call_len_seq (by rfl) T.len PySem.boot_len (pa_cons (pv 1) pa_nil))) (fun _ _ => rfl)) pa_nil)))) (pss_one (ps_if (pt_cmpR op_eq (pe_op op_mod (pv 7) pe_int) pe_int (nomark _)) (pss_one (ps_expr (pe_bm PySem.F.plainAttrs_list PySem.F.slot_list_append PySem.F.type_list_append mt_append (pv 5) (pa_cons (pe_ix ix_list (pe_lst (pa_cons pe_str (pa_cons pe_str (pa_cons pe_str pa_nil)))) (pe_op op_mod (pe_op op_fdiv (pv 7) pe_int) pe_int) (fun _ _ => rfl)) pa_nil)))) (pss_one (ps_expr (pe_bm PySem.F.plainAttrs_list PySem.F.slot_list_append PySem.F.type_list_append mt_append (pv 5) (pa_cons (pe_ix ix_list (pv 1) (pe_op op_mod (pe_op op_fdiv (pv 7) pe_int) (pe_callB call_len_seq (by rfl) T.len PySem.boot_len (pa_cons (pv 1) pa_nil))) (fun _ _ => rfl)) pa_nil))))))))))
        (pss_one (ps_dput (hu_of hr) (pv 4) (pe_ix ix_list (pv 1) (pv 2) (fun _ _ => rfl)) (pv 5) rfl)))))
        (pss_one (ps_ret (pv 4))))))), ?_⟩
    have t3 : 3 ≤ sizeLine := by decide
    refine ⟨Nat.zero_le _, fun N hN => ?_⟩
    have a1 : upd H N (.lst []) a = some (.lst (ds.map V.int)) := same_upd hN _ _ ha
    refine ⟨_, rfl, a, ds, 0, rfl, a1, hds, by decide, fun v v0 v1 => ⟨v, 15, rfl, rfl, (by show (0 : Int) < 15; decide), _, rfl, ?_⟩⟩
    have m0 : 0 ≤ v % 15 := Int.emod_nonneg _ (by decide)
    have m1 : v % 15 < 15 := Int.emod_lt_of_pos _ (by decide)
    show -2 ^ 62 ≤ v % 15 ∧ v % 15 < 2 ^ 62 ∧ _
    generalize v % 15 = m at m0 m1
    refine ⟨by omega, by omega, ?_⟩
    refine for_range (lo := 0) (n := m.toNat) (fun i σ H' => ∃ (nm : List Str) (y2 y3 : Option V), σ = [some (.ref a), some (.ref N), y2, y3, none, none, none, none] ∧ Same H H' ∧ H' N = some (.lst (nm.map V.str)) ∧ nm.Nodup ∧ nm.length ≤ i ∧ ∀ x ∈ nm, Ok1 x)
      ⟨[], none, none, rfl, same_upd hN, upd_same, .nil, Nat.zero_le _, fun _ h => by cases h⟩ ?_ ?_
    · rintro i σ H' hi ⟨nm, y2, y3, rfl, sm, hn, nd, hl, hok⟩
      refine ⟨_, rfl, _, rfl, 8, _, rfl, rfl, .inl ⟨by decide, by decide⟩, 20, _, rfl, rfl, a, ds, 20 + 8 * (0 + (i : Int)), rfl, sm _ _ ha, hds, by omega, fun v v0 v1 => ⟨v, rfl, v0, fun l lok => ?_⟩⟩
      have e0 : (if (true : Bool) = true then !inV (V.str (S l)) (nm.map V.str) else inV (V.str (S l)) (nm.map V.str)) = !decide (S l ∈ nm) := by rw [if_pos rfl, inV_str]
      refine ⟨_, rfl, _, rfl, N, _, rfl, .inl (SqL.of hn), rfl, flat_strs _, !decide (S l ∈ nm), congrArg V.bl e0, ?_⟩
      by_cases hm : S l ∈ nm
      · rw [decide_eq_true hm]
        exact iteF ⟨nm, _, _, rfl, sm, hn, nd, by omega, hok⟩
      · rw [decide_eq_false hm]
        refine iteT ⟨_, rfl, .inl ⟨rfl, _, SqL.of hn⟩, _, rfl, N, _, _, rfl, rfl, hn, ?_, nm ++ [S l], _, _, rfl, fun b o hb => ?_, by rw [upd_same]; simp, ?_, by simp; omega, fun x hx => ?_⟩
        · rw [List.length_map]
          exact Nat.lt_of_le_of_lt (show nm.length ≤ 100 by omega) (by decide)
        · rw [upd_ne (ne_of_none hb hN)]
          exact sm b o hb
        · rw [List.nodup_append]
          exact ⟨nd, by simp, fun x hx y hy e => hm (by rw [List.mem_singleton.mp hy] at e; rw [← e]; exact hx)⟩
        · rcases List.mem_append.mp hx with h | h
          · exact hok x h
          · rw [List.mem_singleton.mp h]; exact lok
    rintro σ H1 ⟨nm, y2, y3, rfl, sm, hn, nd, hl, hok⟩
    have hl14 : nm.length ≤ 14 := by omega
    intro U hU
    have hUH : H U = none := sm.free hU
    have nNU : N ≠ U := ne_of_none hn hU
    refine ⟨_, rfl, N, _, rfl, .inl (SqL.of (same_upd hU _ _ hn)), _, rfl, ?_⟩
    rw [List.length_map]
    refine ⟨by omega, by omega, ?_⟩
    refine for_range (lo := 0) (n := ((nm.length : Nat) : Int).toNat) (fun i σ H' => ∃ (kvs : List (Key × V)) (us : Uses) (y2 y3 y5 y6 y7 : Option V), σ = [some (.ref a), some (.ref N), y2, y3, some (.ref U), y5, y6, y7] ∧ Same H H' ∧ H' N = some (.lst (nm.map V.str)) ∧ H' U = some (.dK kvs) ∧ Us H' kvs us ∧
        names us = nm.take i ∧ ∀ u ∈ us, u.2.length ≤ 4)
      ⟨[], [], _, _, none, none, none, rfl, sm.trans (same_upd hU), same_upd hU _ _ hn, upd_same, .nil, rfl, fun _ h => (by cases h)⟩ ?_ ?_
    · rintro i σ H2 hi ⟨kvs, us, y2, y3, y5, y6, y7, rfl, sm2, hn2, hU2, hUs, hnm, hu4⟩
      have hil : i < nm.length := by omega
      have ha2 := sm2 _ _ ha
      refine ⟨Nat.zero_le _, fun W hW => ?_⟩
      have sW : Same H2 (upd H2 W (.lst [])) := same_upd hW
      have nUW : U ≠ W := ne_of_none hU2 hW
      refine ⟨_, rfl, _, rfl, 8, _, rfl, rfl, .inl ⟨by decide, by decide⟩, 21, _, rfl, rfl, a, ds, 21 + 8 * (0 + (i : Int)), rfl, sW _ _ ha2, hds, by omega, fun v v0 v1 => ⟨v, 5, rfl, rfl, (by show (0 : Int) < 5; decide), _, rfl, ?_⟩⟩
      have m0 : 0 ≤ v % 5 := Int.emod_nonneg _ (by decide)
      have m1 : v % 5 < 5 := Int.emod_lt_of_pos _ (by decide)
      show -2 ^ 62 ≤ v % 5 ∧ v % 5 < 2 ^ 62 ∧ _
      generalize v % 5 = m at m0 m1
      refine ⟨by omega, by omega, ?_⟩
      refine for_range (lo := 0) (n := m.toNat) (fun j σ H' => ∃ (ul : List Str) (y6 y7 : Option V), σ = [some (.ref a), some (.ref N), some (.int (0 + (i : Int))), y3, some (.ref U), some (.ref W), y6, y7] ∧ Same H2 H' ∧ H' W = some (.lst (ul.map V.str)) ∧ ul.length ≤ j)
        ⟨[], _, _, rfl, sW, upd_same, Nat.zero_le _⟩ ?_ ?_
      · rintro j σ H3 hj ⟨ul, y6, y7, rfl, sm3, hW3, hul⟩
        have ha3 := sm3 _ _ ha2
        have hn3 := sm3 _ _ hn2
        have bound : (ul.map V.str).length < sizeLine := by
          rw [List.length_map]
          exact Nat.lt_of_le_of_lt (show ul.length ≤ 100 by omega) (by decide)
        have put : ∀ (x : Str) (H4 : Hp) (y6 y7 : Option V), Same H3 H4 → ∃ (ul' : List Str) (z6 z7 : Option V), ([some (.ref a), some (.ref N), some (.int (0 + (i : Int))), y3, some (.ref U), some (.ref W), y6, y7] : L2.St) = [some (.ref a), some (.ref N), some (.int (0 + (i : Int))), y3, some (.ref U), some (.ref W), z6, z7] ∧
            Same H2 (upd H4 W (.lst (ul.map V.str ++ [.str x]))) ∧ upd H4 W (.lst (ul.map V.str ++ [.str x])) W = some (.lst (ul'.map V.str)) ∧ ul'.length ≤ j + 1 := fun x H4 y6 y7 s4 =>
          ⟨ul ++ [x], y6, y7, rfl, fun b o hb => by rw [upd_ne (ne_of_none hb hW)]; exact s4 _ _ (sm3 b o hb), by rw [upd_same]; simp, by simp; omega⟩
        refine ⟨_, rfl, _, rfl, 8, _, rfl, rfl, .inl ⟨by decide, by decide⟩, 22, _, rfl, rfl, _, rfl, _, _, rfl, rfl, a, ds, 22 + 8 * (0 + (i : Int)) + (0 + (j : Int)), rfl, ha3, hds, by omega, fun pk p0 p1 => ?_⟩
        refine ⟨_, rfl, a, ds, 1, rfl, ha3, hds, by decide, fun u u0 u1 => ⟨u, 3, rfl, rfl, (by show (0 : Int) < 3; decide), rfl, _, rfl, ?_⟩⟩
        have hln : (nm.map V.str).length = nm.length := List.length_map _
        have pos : (0 : Int) < ((nm.map V.str).length : Int) := by rw [hln]; omega
        have pickN : ∀ z : Int, ∃ x, atI (nm.map V.str) (z % ((nm.map V.str).length : Int)) = some (.str x) := fun z => by
          have q0 := Int.emod_nonneg z (show ((nm.map V.str).length : Int) ≠ 0 by omega)
          have q1 := Int.emod_lt_of_pos z pos
          obtain ⟨x, _, h⟩ := atS (nm := nm) q0 (by rw [hln] at q1; rw [hln]; exact q1)
          exact ⟨x, h⟩
        refine ite2 (fun _ => ⟨_, rfl, pk, 5, rfl, rfl, (by show (0 : Int) < 5; decide), rfl, _, rfl, ite2 (fun _ => ?_) (fun _ => ?_)⟩) (fun _ => iteF ?_)
        · obtain ⟨x, hx⟩ := pickN (0 + (i : Int) + pk % 3)
          exact ⟨_, rfl, .inl ⟨rfl, _, SqL.of hW3⟩, _, rfl, _, rfl, _, rfl, pk, 3, rfl, rfl, (by show (0 : Int) < 3; decide), 0 + (i : Int), _, rfl, rfl, _, rfl, N, _, rfl, .inl (SqL.of hn3), _, _, rfl, rfl, pos, N, _, _, _, rfl, rfl, SqL.of hn3, hx, W, _, _, rfl, rfl, hW3, bound, put x H3 _ _ (fun _ _ h => h)⟩
        all_goals
          refine ⟨_, rfl, pk, 7, rfl, rfl, (by show (0 : Int) < 7; decide), rfl, _, rfl, ite2 (fun _ => ?_) (fun _ => ?_)⟩
          · refine ⟨_, rfl, .inl ⟨rfl, _, SqL.of hW3⟩, t3, fun Z hZ => ?_⟩
            have q0 : 0 ≤ pk / 7 % 3 := Int.emod_nonneg _ (by decide)
            have q1 : pk / 7 % 3 < 3 := Int.emod_lt_of_pos _ (by decide)
            obtain ⟨x, _, hx⟩ := atS (nm := ["zz9", "Maker", ""]) q0 (by simpa using q1)
            exact ⟨_, rfl, pk, 7, rfl, rfl, ⟨by decide, by decide⟩, _, _, rfl, rfl, (by show (0 : Int) < 3; decide), Z, _, _, _, rfl, rfl, SqL.of upd_same, hx, W, _, _, rfl, rfl, same_upd hZ _ _ hW3, bound, put x _ _ _ (same_upd hZ)⟩
          · obtain ⟨x, hx⟩ := pickN (pk / 7)
            exact ⟨_, rfl, .inl ⟨rfl, _, SqL.of hW3⟩, _, rfl, _, rfl, pk, 7, rfl, rfl, ⟨by decide, by decide⟩, _, rfl, N, _, rfl, .inl (SqL.of hn3), _, _, rfl, rfl, pos, N, _, _, _, rfl, rfl, SqL.of hn3, hx, W, _, _, rfl, rfl, hW3, bound, put x H3 _ _ (fun _ _ h => h)⟩
      · rintro σ H3 ⟨ul, y6, y7, rfl, sm3, hW3, hul⟩
        have hn3 := sm3 _ _ hn2
        have hU3 := sm3 _ _ hU2
        obtain ⟨x, hx, hat⟩ := atS (nm := nm) (j := 0 + (i : Int)) (by omega) (by omega)
        have hxi : nm[i]? = some x := by
          have : (0 + (i : Int)).toNat = i := by omega
          rwa [this] at hx
        have htk : nm.take (i + 1) = nm.take i ++ [x] := by
          rw [List.take_add_one, hxi]
          rfl
        have hnew : x ∉ names us := by
          rw [hnm]
          intro hmem
          obtain ⟨j, hj⟩ := List.mem_iff_getElem?.mp hmem
          have hji : j < i := by
            have := (List.getElem?_eq_some_iff.mp hj).1
            rw [List.length_take] at this
            omega
          rw [List.getElem?_take_of_lt hji] at hj
          have h1 := (List.getElem?_eq_some_iff.mp hj)
          have h2 := (List.getElem?_eq_some_iff.mp hxi)
          obtain ⟨g1, g2⟩ := h1
          obtain ⟨k1, k2⟩ := h2
          exact List.pairwise_iff_getElem.mp nd j i g1 k1 hji (by rw [g2, k2])
        have klen : kvs.length ≤ 14 := by
          have e1 := hUs.len
          have e2 : us.length = (nm.take i).length := by rw [← hnm]; simp [names]
          rw [List.length_take] at e2
          omega
        refine ⟨_, rfl, _, rfl, _, rfl, _, rfl, N, _, _, _, rfl, rfl, SqL.of hn3, hat, U, _, rfl, DPut.k (k := .inr x) hU3 (Nat.lt_of_le_of_lt klen (by decide)), ?_⟩
        have hUs3 := hUs.keep sm3.seqKept
        rw [valV_new hUs3 hnew]
        have skU : SeqKept H3 (upd H3 U (.dK (kvs ++ [(.inr x, .ref W)]))) := seqKept_lock hU3
        refine ⟨kvs ++ [(.inr x, .ref W)], us ++ [(x, ul)], _, _, _, _, _, rfl, fun b o hb => ?_, ?_, upd_same, ?_, ?_, ?_⟩
        · rw [upd_ne (ne_of_none hb hUH)]
          exact sm3 _ _ (sm2 b o hb)
        · rw [upd_ne nNU]
          exact hn3
        · exact Us.snoc (hUs3.keep skU) (skU _ _ hW3 True.intro)
        · rw [htk, ← hnm]
          simp [names]
        · intro u hu
          rcases List.mem_append.mp hu with hu | hu
          · exact hu4 u hu
          · rw [List.mem_singleton.mp hu]
            show ul.length ≤ 4
            omega
    · rintro σ H2 ⟨kvs, us, y2, y3, y5, y6, y7, rfl, sm2, hn2, hU2, hUs, hnm, hu4⟩
      rw [Int.toNat_natCast, List.take_length] at hnm
      have ln : us.length = nm.length := by rw [← hnm]; simp [names]
      exact ⟨_, rfl, qq U H2 kvs us sm2 hUH hU2 hUs ⟨by rw [hnm]; exact nd, by omega, hu4, by rw [hnm]; exact hok⟩⟩
end
end Q08
namespace HL
open PySem PySem.Spec PyProof.Rows L2 SX
/-- len of a dict, locked or not -/
theorem call_lenR {X : Cx} : CallR X (.builtin "len") (fun xs H Q => ∃ a kvs, xs = [V.ref a] ∧ Rd H a (.dK kvs) ∧ Q (.int kvs.length) H) := fun pins s σ H xs us Q I r h => by
  obtain ⟨a, kvs, rfl, ha, q⟩ := h
  obtain ⟨u, rfl, ru⟩ := vals1 r
  cases ru
  exact d_len I ha fun t s' I' => ⟨.int kvs.length, H, I', ⟨t, rfl⟩, q⟩
end HL
namespace Q08
open PySem PySem.Spec PyProof.Rows L2 SX HL
theorem strs_at {l : List Str} {i : Nat} {x : V} (hx : (l.map V.str)[i]? = some x) : ∃ y, l[i]? = some y ∧ x = V.str y := by
  rw [List.getElem?_map] at hx
  cases e : l[i]? with
  | none => rw [e] at hx; cases hx
  | some y => rw [e] at hx; cases hx; exact ⟨y, rfl, rfl⟩
theorem take_more {α : Type} {l : List α} {i : Nat} {y : α} (h : l[i]? = some y) : l.take (i + 1) = l.take i ++ [y] := by
  rw [List.take_add_one, h]
  rfl
section
variable {P : Program} {w : World} {K : PySem.W.Frag} {mg : Str → Option Value} {base : Heap}
/-! ### _law_reach -/
def Step (us : Uses) (n x : Str) : Prop := ∃ l, look us n = some l ∧ x ∈ l ∧ x ∈ names us
inductive RP (us : Uses) (n : Str) : Str → Prop
  | one {x : Str} : Step us n x → RP us n x
  | step {m x : Str} : RP us n m → Step us m x → RP us n x
theorem RP.in {us : Uses} {n x : Str} (h : RP us n x) : x ∈ names us := by
  cases h with
  | one h => obtain ⟨_, _, _, h⟩ := h; exact h
  | step _ h => obtain ⟨_, _, _, h⟩ := h; exact h
def Closed (us : Uses) (n : Str) (f : List Str) : Prop := ∀ e, (e = n ∨ e ∈ f) → ∀ x, Step us e x → x ∈ f
theorem Closed.all {us : Uses} {n : Str} {f : List Str} (c : Closed us n f) {x : Str} (h : RP us n x) : x ∈ f := by
  induction h with
  | one h => exact c n (.inl rfl) _ h
  | step _ h ih => exact c _ (.inr ih) _ h
def spReach : Sp := fun vs H Q _ => ∃ (d : Addr) (us : Uses) (n : Str), vs = [.ref d, .str n] ∧ UsAt H d us ∧ Few us ∧ n ∈ names us ∧
  ∀ (D : Addr) (H' : Hp) (f : List Str), Same H H' → H D = none → H' D = some (.lst (f.map V.str)) → f.Nodup → (∀ x, x ∈ f ↔ RP us n x) → Q (.ref D) H'
theorem ok_reach {f : Addr} {fd : FuncData} {k : Nat} (D : DefN K mg "_law_reach" sLawReach ["uses", "name"] f fd) (T : Txt mg) : FnOk P w K mg base CX0 (k + 1) f fd ["uses", "name"] spReach := by
  refine D.F.ok scLawReach (fun vs H Q E h => ?_) (fun cdv A outer s H vs Q E hr h => ?_)
  · obtain ⟨d, us, n, rfl, _⟩ := h
    rfl
  · obtain ⟨d, us, n, rfl, hU, hF, hn, qq⟩ := h
    refine ⟨_, (pss_cons (ps_set (i := 2) scLawReach.nd rfl (.inl rfl) (pe_lst pa_nil))
        (pss_cons (ps_for PassesOwn.never rfl (pi_range1 (by rfl) T.range (pa_cons (pe_op op_add (pe_callB HL.call_lenR (by rfl) T.len PySem.boot_len (pa_cons (pv 0) pa_nil)) pe_int) pa_nil)) (pg_name (i := 3) scLawReach.nd rfl (.inl rfl)) (pss_one (ps_for PassesOwn.never rfl (pi_list (pe_op op_cat (pe_lst (pa_cons (pv 1) pa_nil)) (pv 2))) (pg_name (i := 4) scLawReach.nd rfl (.inl rfl)) (pss_one (ps_for PassesOwn.never rfl (pi_list (pe_dget (hu_of hr) (pv 0) (pv 4) (fun _ _ => rfl))) (pg_name (i := 5) scLawReach.nd rfl (.inl rfl)) (pss_one (ps_if (PW.pt (pw_and (pt_cmp (pc_din (hu_of hr) (pv 5) (pv 0))) (pw_and1 (pt_cmpR op_notIn_seq (pv 5) (pv 2) rfl)))) (pss_one (ps_expr (pe_bm PySem.F.plainAttrs_list PySem.F.slot_list_append PySem.F.type_list_append mt_append (pv 2) (pa_cons (pv 5) pa_nil)))) pss_nil)))))))
        (pss_one (ps_ret (pv 2))))), ?_⟩
    obtain ⟨kvs, hrd, hUs⟩ := id hU
    have t1 : 1 ≤ sizeLine := by decide
    have klen : kvs.length = us.length := hUs.len
    have hnl : (names us).length = us.length := by simp [names]
    have f100 := hF.2.1
    refine ⟨Nat.zero_le _, fun Fd hFd => ?_⟩
    have hU1 : UsAt (upd H Fd (.lst [])) d us := hU.same (same_upd hFd)
    have hrd1 : Rd (upd H Fd (.lst [])) d (.dK kvs) := by
      rcases hrd with h | ⟨o, h⟩
      · exact .inl (same_upd hFd _ _ h)
      · exact .inr ⟨o, same_upd hFd _ _ h⟩
    refine ⟨_, rfl, d, kvs, rfl, hrd1, (kvs.length : Int), 1, rfl, rfl, _, rfl, by omega, by omega, ?_⟩
    refine for_range (lo := 0) (n := ((kvs.length : Int) + 1).toNat) (fun i σ H' => ∃ (f : List Str) (y3 y4 y5 : Option V), σ = [some (.ref d), some (.str n), some (.ref Fd), y3, y4, y5] ∧ Same H H' ∧ H' Fd = some (.lst (f.map V.str)) ∧ f.Nodup ∧ (∀ x ∈ f, RP us n x) ∧ (Closed us n f ∨ i ≤ f.length))
      ⟨[], none, none, none, rfl, same_upd hFd, upd_same, .nil, (fun _ h => by cases h), .inr (Nat.zero_le _)⟩ ?_ ?_
    · rintro i σ H1 hi ⟨f, y3, y4, y5, rfl, sm, hf, nd, hrp, hcl⟩
      have flen : f.length ≤ us.length := by
        have := nodup_len f (names us) nd fun x hx => (hrp x hx).in
        omega
      refine ⟨_, rfl, t1, fun L hL => ⟨_, rfl, L, Fd, _, _, rfl, rfl, upd_same, same_upd hL _ _ hf, ?_, fun C hC => ⟨C, rfl, ⟨_, SqL.of upd_same⟩, ?_⟩⟩⟩
      · rw [List.length_map]
        exact Nat.le_trans (show 1 + f.length ≤ 200 by omega) (by decide)
      have hC1 : H1 C = none := (same_upd hL).free hC
      have nCF : C ≠ Fd := fun e => by rw [e, hf] at hC1; cases hC1
      have s1C := (same_upd (o := .lst [V.str n]) hL).trans (same_upd (o := .lst ([V.str n] ++ f.map V.str)) hC)
      have hC2 : upd (upd H1 L (.lst [V.str n])) C (.lst ([V.str n] ++ f.map V.str)) C = some (.lst ((n :: f).map V.str)) := upd_same
      generalize upd (upd H1 L (.lst [V.str n])) C (.lst ([V.str n] ++ f.map V.str)) = H2 at s1C hC2
      have hf2 := s1C _ _ hf
      have sm2 := sm.trans s1C
      refine for_list (K := K) (a := C) (xs := (n :: f).map V.str) (fun j σ H' => ∃ (g ex : List Str) (y4 y5 : Option V), σ = [some (.ref d), some (.str n), some (.ref Fd), some (.int (0 + (i : Int))), y4, y5] ∧ (∀ b o, b ≠ Fd → H2 b = some o → H' b = some o) ∧ H' Fd = some (.lst (g.map V.str)) ∧ g = f ++ ex ∧
          g.Nodup ∧ (∀ x ∈ g, RP us n x) ∧ ∀ e ∈ (n :: f).take j, ∀ x, Step us e x → x ∈ g)
        ⟨f, [], _, _, rfl, fun _ _ _ h => h, hf2, by simp, nd, hrp, fun e h => by simp at h⟩ (fun j σ H' _ p => ?_) ?_ ?_
      · obtain ⟨_, _, _, _, _, k2, _⟩ := p
        exact SqL.of (k2 _ _ nCF hC2)
      · rintro j x σ H3 hx ⟨g, ex, y4, y5, rfl, k2, hg, eg, gnd, grp, gcl⟩
        obtain ⟨e, he, rfl⟩ := strs_at hx
        have hem : e = n ∨ e ∈ f := List.mem_cons.mp (List.mem_of_getElem? he)
        have hen : e ∈ names us := by
          rcases hem with rfl | h
          · exact hn
          · exact (hrp e h).in
        obtain ⟨l, hl, _⟩ := look_some hen
        have ll := hF.2.2 e l hl
        obtain ⟨a, hva, ha⟩ : ∃ a, valV kvs (.inr e) = some (.ref a) ∧ H a = some (.lst (l.map V.str)) := by
          rcases hUs.find e with ⟨z, _⟩ | ⟨l', a, e1, e2, h⟩
          · rw [hl] at z; cases z
          · rw [hl] at e1
            cases e1
            exact ⟨a, e2, h⟩
        have naF : a ≠ Fd := ne_of_none ha hFd
        have kH : ∀ {H' : Hp}, (∀ b o, b ≠ Fd → H2 b = some o → H' b = some o) → Same H H' := fun k b o hb => k b o (ne_of_none hb hFd) (sm2 b o hb)
        have rdOf : ∀ {H' : Hp}, Same H H' → Rd H' d (.dK kvs) := fun s => by
          rcases hrd with h | ⟨o, h⟩
          · exact .inl (s _ _ h)
          · exact .inr ⟨o, s _ _ h⟩
        refine ⟨_, rfl, _, rfl, d, .ref a, rfl, .inl ⟨kvs, .inr e, rdOf (kH k2), rfl, hva.symm⟩, a, rfl, ⟨_, SqL.of (kH k2 _ _ ha)⟩, ?_⟩
        refine for_list (K := K) (a := a) (xs := l.map V.str) (fun m σ H' => ∃ (g ex : List Str) (y5 : Option V), σ = [some (.ref d), some (.str n), some (.ref Fd), some (.int (0 + (i : Int))), some (.str e), y5] ∧ (∀ b o, b ≠ Fd → H2 b = some o → H' b = some o) ∧ H' Fd = some (.lst (g.map V.str)) ∧ g = f ++ ex ∧
            g.Nodup ∧ (∀ x ∈ g, RP us n x) ∧ (∀ e ∈ (n :: f).take j, ∀ x, Step us e x → x ∈ g) ∧ ∀ x ∈ l.take m, x ∈ names us → x ∈ g)
          ⟨g, ex, _, rfl, k2, hg, eg, gnd, grp, gcl, fun x h => by simp at h⟩ (fun m σ H' _ p => ?_) ?_ ?_
        · obtain ⟨_, _, _, _, k3, _⟩ := p
          exact SqL.of (kH k3 _ _ ha)
        · rintro m x σ H4 hx ⟨g, ex, y5, rfl, k3, hg, eg, gnd, grp, gcl, gl⟩
          obtain ⟨y, hy, rfl⟩ := strs_at hx
          obtain ⟨o, go, eo⟩ := (hU.same (kH k3)).in y
          have glen : g.length ≤ us.length := by
            have := nodup_len g (names us) gnd fun x hx => (grp x hx).in
            omega
          have more : ∀ x ∈ l.take (m + 1), x ∈ names us → x = y ∨ x ∈ g := fun x hx hn => by
            rw [take_more hy] at hx
            rcases List.mem_append.mp hx with h | h
            · exact .inr (gl x h hn)
            · exact .inl (List.mem_singleton.mp h)
          refine ⟨_, rfl, _, rfl, d, o, rfl, go, _, rfl, ?_⟩
          rw [eo]
          by_cases hm : y ∈ names us
          · rw [decide_eq_true hm]
            have e0 : (if (true : Bool) = true then !inV (V.str y) (g.map V.str) else inV (V.str y) (g.map V.str)) = !decide (y ∈ g) := by rw [if_pos rfl, inV_str]
            refine iteT ⟨_, rfl, _, rfl, Fd, _, rfl, .inl (SqL.of hg), rfl, flat_strs _, !decide (y ∈ g), congrArg V.bl e0, ?_⟩
            by_cases hyg : y ∈ g
            · rw [decide_eq_true hyg]
              refine iteF ⟨g, ex, _, rfl, k3, hg, eg, gnd, grp, gcl, fun x hx hn => ?_⟩
              rcases more x hx hn with rfl | h
              · exact hyg
              · exact h
            · rw [decide_eq_false hyg]
              have sy : Step us e y := ⟨l, hl, List.mem_of_getElem? hy, hm⟩
              have ry : RP us n y := by
                rcases hem with rfl | h
                · exact .one sy
                · exact .step (hrp e h) sy
              refine iteT ⟨_, rfl, .inl ⟨rfl, _, SqL.of hg⟩, _, rfl, Fd, _, _, rfl, rfl, hg, ?_, g ++ [y], ex ++ [y], _, rfl, fun b o nb hb => ?_, by rw [upd_same]; simp, by rw [eg]; simp, ?_, fun x hx => ?_, fun e' he' x hx => List.mem_append_left _ (gcl e' he' x hx), fun x hx hn => ?_⟩
              · rw [List.length_map]
                exact Nat.lt_of_le_of_lt (show g.length ≤ 100 by omega) (by decide)
              · rw [upd_ne nb]
                exact k3 b o nb hb
              · rw [List.nodup_append]
                exact ⟨gnd, by simp, fun x hx z hz e => hyg (by rw [List.mem_singleton.mp hz] at e; rw [← e]; exact hx)⟩
              · rcases List.mem_append.mp hx with h | h
                · exact grp x h
                · rw [List.mem_singleton.mp h]; exact ry
              · rcases more x hx hn with rfl | h
                · exact List.mem_append_right _ (List.mem_singleton.mpr rfl)
                · exact List.mem_append_left _ h
          · rw [decide_eq_false hm]
            refine iteF (iteF ⟨g, ex, _, rfl, k3, hg, eg, gnd, grp, gcl, fun x hx hn => ?_⟩)
            rcases more x hx hn with rfl | h
            · exact absurd hn hm
            · exact h
        · rintro σ H4 ⟨g, ex, y5, rfl, k3, hg, eg, gnd, grp, gcl, gl⟩
          refine ⟨g, ex, _, _, rfl, k3, hg, eg, gnd, grp, fun e' he' x hx => ?_⟩
          rw [take_more he] at he'
          rcases List.mem_append.mp he' with h | h
          · exact gcl e' h x hx
          · rw [List.mem_singleton.mp h] at hx
            obtain ⟨l', hl', hxl, hxn⟩ := hx
            rw [hl] at hl'
            cases hl'
            rw [List.length_map, List.take_length] at gl
            exact gl x hxl hxn
      · rintro σ H3 ⟨g, ex, y4, y5, rfl, k2, hg, eg, gnd, grp, gcl⟩
        rw [List.length_map, List.take_length] at gcl
        refine ⟨g, _, _, _, rfl, fun b o hb => k2 b o (ne_of_none hb hFd) (sm2 b o hb), hg, gnd, grp, ?_⟩
        cases ex with
        | nil =>
          rw [List.append_nil] at eg
          subst eg
          exact .inl fun e he x hx => gcl e (List.mem_cons.mpr he) x hx
        | cons z r =>
          rcases hcl with h | h
          · refine .inl fun e he x hx => ?_
            rcases he with rfl | he
            · exact gcl _ (List.mem_cons_self ..) x hx
            · have : e ∈ f := by
                have := (grp e he)
                exact h.all this
              exact gcl e (List.mem_cons_of_mem _ this) x hx
          · refine .inr ?_
            rw [eg, List.length_append, List.length_cons]
            omega
    · rintro σ H' ⟨f, y3, y4, y5, rfl, sm, hf, nd, hrp, hcl⟩
      have flen : f.length ≤ us.length := by
        have := nodup_len f (names us) nd fun x hx => (hrp x hx).in
        omega
      have cl : Closed us n f := by
        rcases hcl with h | h
        · exact h
        · exact absurd h (by omega)
      exact ⟨_, rfl, qq Fd H' f sm hFd hf nd fun x => ⟨hrp x, cl.all⟩⟩
end
end Q08
namespace Q08
open PySem PySem.Spec PyProof.Rows L2 SX HL
/-! ### the mathematics of components -/
theorem RP.trans {us : Uses} {x y z : Str} (h : RP us x y) (g : RP us y z) : RP us x z := by
  induction g with
  | one s => exact .step h s
  | step _ s ih => exact .step ih s
def Rf (us : Uses) (x y : Str) : Prop := x = y ∨ RP us x y
theorem Rf.trans {us : Uses} {x y z : Str} (h : Rf us x y) (g : Rf us y z) : Rf us x z := by
  rcases h with rfl | h
  · exact g
  · rcases g with rfl | g
    · exact .inr h
    · exact .inr (h.trans g)
def Mut2 (us : Uses) (x y : Str) : Prop := Rf us x y ∧ Rf us y x
theorem Mut2.refl {us : Uses} {x : Str} : Mut2 us x x := ⟨.inl rfl, .inl rfl⟩
theorem Mut2.symm {us : Uses} {x y : Str} (h : Mut2 us x y) : Mut2 us y x := ⟨h.2, h.1⟩
theorem Mut2.trans {us : Uses} {x y z : Str} (h : Mut2 us x y) (g : Mut2 us y z) : Mut2 us x z := ⟨h.1.trans g.1, g.2.trans h.2⟩
/-- the lists that the law makes: what each name reaches -/
structure Told (us : Uses) (f : Str → List Str) : Prop where
  nd : ∀ x ∈ names us, (f x).Nodup
  iff : ∀ x ∈ names us, ∀ y, y ∈ f x ↔ RP us x y
/-- how many names x reaches, itself counted -/
def card (f : Str → List Str) (x : Str) : Nat := (f x).length + if x ∈ f x then 0 else 1
theorem card_list {us : Uses} {f : Str → List Str} (t : Told us f) {x : Str} (hx : x ∈ names us) : ∃ l : List Str, l.Nodup ∧ l.length = card f x ∧ ∀ y, y ∈ l ↔ Rf us x y := by
  by_cases h : x ∈ f x
  · refine ⟨f x, t.nd x hx, by simp [card, h], fun y => ⟨fun hy => .inr ((t.iff x hx y).mp hy), fun hy => ?_⟩⟩
    rcases hy with rfl | hy
    · exact h
    · exact (t.iff x hx y).mpr hy
  · refine ⟨x :: f x, List.nodup_cons.mpr ⟨h, t.nd x hx⟩, by simp [card, h], fun y => ?_⟩
    rw [List.mem_cons, t.iff x hx y]
    exact or_congr_left eq_comm
theorem card_le {us : Uses} {f : Str → List Str} (t : Told us f) {x y : Str} (hx : x ∈ names us) (hy : y ∈ names us) (h : Rf us x y) : card f y ≤ card f x := by
  obtain ⟨l, l1, l2, l3⟩ := card_list t hx
  obtain ⟨m, m1, m2, m3⟩ := card_list t hy
  rw [← l2, ← m2]
  exact nodup_len m l m1 fun z hz => (l3 z).mpr (h.trans ((m3 z).mp hz))
theorem card_lt {us : Uses} {f : Str → List Str} (t : Told us f) {x y : Str} (hx : x ∈ names us) (hy : y ∈ names us) (h : Rf us x y) (g : ¬ Rf us y x) : card f y < card f x := by
  obtain ⟨l, l1, l2, l3⟩ := card_list t hx
  obtain ⟨m, m1, m2, m3⟩ := card_list t hy
  have := nodup_len (x :: m) l (List.nodup_cons.mpr ⟨fun q => g ((m3 x).mp q), m1⟩) fun z hz => by
    rcases List.mem_cons.mp hz with rfl | hz
    · exact (l3 _).mpr (.inl rfl)
    · exact (l3 z).mpr (h.trans ((m3 z).mp hz))
  rw [List.length_cons, l2, m2] at this
  omega
theorem card_eq {us : Uses} {f : Str → List Str} (t : Told us f) {x y : Str} (hx : x ∈ names us) (hy : y ∈ names us) (h : Mut2 us x y) : card f x = card f y :=
  Nat.le_antisymm (card_le t hy hx h.2) (card_le t hx hy h.1)
/-- the order of names -/
def nlt (a b : Str) : Prop := a.cps.toList < b.cps.toList
theorem nlt_irrefl (a : Str) : ¬ nlt a a := List.lt_irrefl _
theorem nlt_trans {a b c : Str} (h : nlt a b) (g : nlt b c) : nlt a c := List.lt_trans h g
/-- two lists that rise and have the same members are one -/
theorem rise_eq : ∀ {l m : List Str}, l.Pairwise nlt → m.Pairwise nlt → (∀ x, x ∈ l ↔ x ∈ m) → l = m
  | [], [], _, _, _ => rfl
  | [], y :: m, _, _, h => absurd ((h y).mpr (List.mem_cons_self ..)) (by simp)
  | x :: l, [], _, _, h => absurd ((h x).mp (List.mem_cons_self ..)) (by simp)
  | x :: l, y :: m, h1, h2, h => by
    have g1 := List.pairwise_cons.mp h1
    have g2 := List.pairwise_cons.mp h2
    have e : x = y := by
      rcases List.mem_cons.mp ((h x).mp (List.mem_cons_self ..)) with e | hx
      · exact e
      · rcases List.mem_cons.mp ((h y).mpr (List.mem_cons_self ..)) with e | hy
        · exact e.symm
        · exact absurd (nlt_trans (g1.1 y hy) (g2.1 x hx)) (nlt_irrefl x)
    subst e
    refine congrArg (x :: ·) (rise_eq g1.2 g2.2 fun z => ⟨fun hz => ?_, fun hz => ?_⟩)
    · rcases List.mem_cons.mp ((h z).mp (List.mem_cons_of_mem _ hz)) with e | q
      · exact absurd (g1.1 z hz) (by rw [e]; exact nlt_irrefl x)
      · exact q
    · rcases List.mem_cons.mp ((h z).mpr (List.mem_cons_of_mem _ hz)) with e | q
      · exact absurd (g2.1 z hz) (by rw [e]; exact nlt_irrefl x)
      · exact q
/-- what components tells, c the number of names that one reaches -/
structure Comps (us : Uses) (c : Str → Nat) (told : List (List Str)) : Prop where
  ne : ∀ p ∈ told, p ≠ []
  rise : ∀ p ∈ told, p.Pairwise nlt
  own : ∀ p ∈ told, ∀ x ∈ p, x ∈ names us
  same : ∀ p ∈ told, ∀ x ∈ p, ∀ y ∈ names us, y ∈ p ↔ Mut2 us x y
  all : ∀ x ∈ names us, ∃ p ∈ told, x ∈ p
  up : told.Pairwise fun p q => ∀ x y, p.head? = some x → q.head? = some y → c x < c y ∨ (c x = c y ∧ nlt x y)
theorem Comps.apart {us : Uses} {c : Str → Nat} {told : List (List Str)} (h : Comps us c told) : told.Pairwise fun p q => ∀ x, x ∈ p → x ∉ q := by
  have key : ∀ p ∈ told, ∀ q ∈ told, ∀ x, x ∈ p → x ∈ q → p = q := fun p hp q hq x h1 h2 => by
    refine rise_eq (h.rise p hp) (h.rise q hq) fun z => ⟨fun hz => ?_, fun hz => ?_⟩
    · have hn := h.own p hp z hz
      exact (h.same q hq x h2 z hn).mpr ((h.same p hp x h1 z hn).mp hz)
    · have hn := h.own q hq z hz
      exact (h.same p hp x h1 z hn).mpr ((h.same q hq x h2 z hn).mp hz)
  rw [List.pairwise_iff_forall_sublist]
  intro p q hs x h1 h2
  have hp : p ∈ told := hs.subset (List.mem_cons_self ..)
  have hq : q ∈ told := hs.subset (List.mem_cons_of_mem _ (List.mem_cons_self ..))
  have e := key p hp q hq x h1 h2
  subst e
  have hu := (List.pairwise_iff_forall_sublist.mp h.up) hs
  obtain ⟨y, r, e⟩ := List.exists_cons_of_ne_nil (h.ne p hp)
  rcases hu y y (by rw [e]; rfl) (by rw [e]; rfl) with q | ⟨_, q⟩
  · exact absurd q (Nat.lt_irrefl _)
  · exact nlt_irrefl y q
/-- what a name uses stands in its own part or in an earlier one -/
theorem Comps.earlier {us : Uses} {f : Str → List Str} (t : Told us f) {A B : List (List Str)} {p : List Str} (h : Comps us (card f) (A ++ p :: B)) {x y : Str} (hx : x ∈ p) (hs : Step us x y) : y ∈ (A ++ [p]).flatten := by
  have hp : p ∈ A ++ p :: B := by simp
  have hxn := h.own p hp x hx
  have hyn : y ∈ names us := by
    obtain ⟨_, _, _, q⟩ := hs
    exact q
  obtain ⟨q, hq, hy⟩ := h.all y hyn
  rw [List.mem_flatten]
  rcases List.mem_append.mp hq with q1 | q1
  · exact ⟨q, List.mem_append_left _ q1, hy⟩
  rcases List.mem_cons.mp q1 with rfl | q1
  · exact ⟨q, List.mem_append_right _ (List.mem_singleton.mpr rfl), hy⟩
  exfalso
  have hpq : ∀ a b, p.head? = some a → q.head? = some b → card f a < card f b ∨ (card f a = card f b ∧ nlt a b) := by
    have u := (List.pairwise_append.mp h.up).2.1
    exact (List.pairwise_cons.mp u).1 q q1
  have hap : ∀ z, z ∈ p → z ∉ q := by
    have u := (List.pairwise_append.mp h.apart).2.1
    exact (List.pairwise_cons.mp u).1 q q1
  obtain ⟨a, ra, ea⟩ := List.exists_cons_of_ne_nil (h.ne p hp)
  obtain ⟨b, rb, eb⟩ := List.exists_cons_of_ne_nil (h.ne q hq)
  have ha : a ∈ p := by rw [ea]; exact List.mem_cons_self ..
  have hb : b ∈ q := by rw [eb]; exact List.mem_cons_self ..
  have han := h.own p hp a ha
  have hbn := h.own q hq b hb
  have c1 := card_eq t hxn han ((h.same p hp x hx a han).mp ha)
  have c2 := card_eq t hyn hbn ((h.same q hq y hy b hbn).mp hb)
  have rxy : Rf us x y := .inr (.one hs)
  by_cases g : Rf us y x
  · exact hap y ((h.same p hp x hx y hyn).mpr ⟨rxy, g⟩) hy
  · have := card_lt t hxn hyn rxy g
    rcases hpq a b (by rw [ea]; rfl) (by rw [eb]; rfl) with u | ⟨u, _⟩
    · omega
    · omega
end Q08
namespace HL
open PySem PySem.Spec PyProof.Rows L2 SX
theorem op_in_seqK {X : Cx} {K : PySem.W.Frag} (h : X.K = K) : OpR X (compareOp .In) (rIn K false) := by
  subst h
  exact op_in_seq
theorem op_notIn_seqK {X : Cx} {K : PySem.W.Frag} (h : X.K = K) : OpR X (compareOp .NotIn) (rIn K true) := by
  subst h
  exact op_notIn_seq
/-- (number, text) <= (number, text) -/
def leIS (n m : Int) (x y : Str) : Bool := if n = m then (if x = y then true else !decide (y.cps.toList < x.cps.toList)) else decide (n ≤ m)
theorem op_leIS {X : Cx} (hu : X.A.units < cLine) : OpR X (compareOp .LtE) (fun x y H Q => ∃ (a b : Addr) (n m : Int) (p q : Str), x = .ref a ∧ y = .ref b ∧ SqT X.K H a [.int n, .str p] ∧ SqT X.K H b [.int m, .str q] ∧ Q (.bl (leIS n m p q)) H) := by
  intro pins s σ H x y v u Q I rx ry h
  obtain ⟨a, b, n, m, c, d, rfl, rfl, ha, hb, q⟩ := h
  cases rx
  cases ry
  obtain ⟨its, r1, p1, _⟩ := I.tuple ha
  obtain ⟨its2, r2, p2, _⟩ := I.tuple hb
  obtain ⟨u1, u2, rfl, ⟨t1, rfl⟩, ⟨t2, rfl⟩⟩ := vals2 r1
  obtain ⟨w1, w2, rfl, ⟨t3, rfl⟩, ⟨t4, rfl⟩⟩ := vals2 r2
  have R := Ob.RcOp.tuples_le (A := X.A) (s := s) (e := fun j => if j = 0 then (n == m) else (c == d)) (r := fun j => if j = 0 then decide (n ≤ m) else !decide (d.cps.toList < c.cps.toList)) p1 p2 hu (fun j h1 h2 => by
    match j, h1 with
    | 0, _ => exact SeqAt.EqAt.int_int _ _ _ _
    | 1, _ => exact SeqAt.EqAt.str_str _ _ _ _
    | j + 2, h1 => simp at h1; omega) (fun j h1 h2 _ => by
    match j, h1 with
    | 0, _ => exact Ob.RcOp.le_int _ _ _ _
    | 1, _ => exact fun prog w E Q h => PySem.P.le_str h
    | j + 2, h1 => simp at h1; omega)
  refine R X.prog X.w X.xe (EP X pins σ Q) ⟨.bl (leIS n m c d), H, I, ?_, q⟩
  show Value.bool _ = Value.bool _
  refine congrArg Value.bool ?_
  show (if (n == m) = true then (if (c == d) = true then decide (2 ≤ 2) else !decide (d.cps.toList < c.cps.toList)) else decide (n ≤ m)) = leIS n m c d
  unfold leIS
  by_cases e1 : n = m
  · rw [if_pos (beq_iff_eq.mpr e1), if_pos e1]
    by_cases e2 : c = d
    · rw [if_pos (beq_iff_eq.mpr e2), if_pos e2]
      rfl
    · rw [if_neg (fun z => e2 (beq_iff_eq.mp z)), if_neg e2]
  · rw [if_neg (fun z => e1 (beq_iff_eq.mp z)), if_neg e1]
end HL
namespace Q08
open PySem PySem.Spec PyProof.Rows L2 SX HL
/-! ### what components promises -/
inductive Parts (H : Hp) : List Addr → List (List Str) → Prop
  | nil : Parts H [] []
  | cons {a : Addr} {as : List Addr} {p : List Str} {ps : List (List Str)} : H a = some (.lst (p.map V.str)) → Parts H as ps → Parts H (a :: as) (p :: ps)
def CountOf (us : Uses) (c : Str → Nat) : Prop := ∀ x ∈ names us, ∀ l : List Str, l.Nodup → (∀ y, y ∈ l ↔ Rf us x y) → c x = l.length
def spComps (TP : Hp → Prop) : Sp := fun vs H Q _ => ∃ (d : Addr) (kvs : List (Key × V)) (us : Uses), vs = [.ref d] ∧ H d = some (.dK kvs) ∧ Us H kvs us ∧ Drawn us ∧ TP H ∧
  ∀ (D : Addr) (H' : Hp) (as : List Addr) (told : List (List Str)) (c : Str → Nat), LamX.ExtN H H' → H' D = some (.lst (as.map V.ref)) → Parts H' as told → CountOf us c → Comps us c told → Q (.ref D) H'
theorem Us.vals {H : Hp} {kvs : List (Key × V)} {us : Uses} (h : Us H kvs us) (nd : (names us).Nodup) {i : Nat} {k : Key} {v : V} (e : kvs[i]? = some (k, v)) : valV kvs k = some v := by
  induction h generalizing i with
  | nil => simp at e
  | @cons n l a kvs us ha hr ih =>
    have nd' := List.nodup_cons.mp nd
    cases i with
    | zero =>
      simp at e
      obtain ⟨rfl, rfl⟩ := e
      exact valV_pos rfl
    | succ i =>
      have e' : kvs[i]? = some (k, v) := by simpa using e
      obtain ⟨m, l', a', e1, rfl, rfl, _⟩ := hr.at e'
      rw [valV_neg (p := (Sum.inr n, V.ref a)) (fun z => nd'.1 (by
        have : n = m := Sum.inr.inj z
        rw [this]
        exact List.mem_map.mpr ⟨_, List.mem_of_getElem? e1, rfl⟩))]
      exact ih nd'.2 e'
theorem look_at {us : Uses} (nd : (names us).Nodup) {i : Nat} {n : Str} {l : List Str} (e : us[i]? = some (n, l)) : look us n = some l := by
  induction us generalizing i with
  | nil => simp at e
  | cons u us ih =>
    have nd' := List.nodup_cons.mp nd
    cases i with
    | zero =>
      simp at e
      subst e
      simp [look]
    | succ i =>
      have e' : us[i]? = some (n, l) := by simpa using e
      have ne : ¬ u.1 = n := fun z => nd'.1 (List.mem_map.mpr ⟨_, List.mem_of_getElem? e', z.symm⟩)
      have : look (u :: us) n = look us n := by simp [look, List.find?_cons, ne]
      rw [this]
      exact ih nd'.2 e'
theorem Drawn.few {us : Uses} (h : Drawn us) : Few us := by
  refine ⟨h.1, by have := h.2.1; omega, fun n l e => ?_⟩
  unfold look at e
  cases q : us.find? fun u => decide (u.1 = n) with
  | none => rw [q] at e; cases e
  | some u =>
    rw [q] at e
    cases e
    have := h.2.2.1 u (List.mem_of_find?_eq_some q)
    show u.2.length ≤ 100
    omega
/-- all but the one at d -/
def But1 (H H' : Hp) (d : Addr) : Prop := ∀ b o, b ≠ d → H b = some o → H' b = some o
theorem But1.seqs {H H' : Hp} {d : Addr} {kvs : List (Key × V)} (h : But1 H H' d) (hd : H d = some (.dK kvs)) : SeqKept H H' := fun a o ha hs => h a o (fun e => by
  rw [e, hd] at ha
  cases ha
  exact hs) ha
theorem Comps.congr {us : Uses} {c c' : Str → Nat} {told : List (List Str)} (h : Comps us c told) (e : ∀ x ∈ names us, c x = c' x) : Comps us c' told := by
  refine ⟨h.ne, h.rise, h.own, h.same, h.all, h.up.imp_of_mem fun {p q} hp hq u x y hx hy => ?_⟩
  have hxn := h.own p hp x (List.mem_of_mem_head? hx)
  have hyn := h.own q hq y (List.mem_of_mem_head? hy)
  rw [← e x hxn, ← e y hyn]
  exact u x y hx hy
theorem Comps.flat_nd {us : Uses} {c : Str → Nat} {told : List (List Str)} (h : Comps us c told) : told.flatten.Nodup := by
  refine List.pairwise_flatten.mpr ⟨fun p hp => List.Pairwise.imp (fun {a b} h => fun (e : a = b) => nlt_irrefl b (by rw [e] at h; exact h)) (h.rise p hp), ?_⟩
  exact h.apart.imp fun {p q} h x hx y hy e => h x hx (by rw [e]; exact hy)
theorem Comps.flat_in {us : Uses} {c : Str → Nat} {told : List (List Str)} (h : Comps us c told) (x : Str) : x ∈ told.flatten ↔ x ∈ names us := by
  rw [List.mem_flatten]
  exact ⟨fun ⟨p, hp, hx⟩ => h.own p hp x hx, fun hx => h.all x hx⟩
theorem Parts.keep {H H' : Hp} {as : List Addr} {ps : List (List Str)} (h : Parts H as ps) (s : SeqKept H H') : Parts H' as ps := by
  induction h with
  | nil => exact .nil
  | cons ha _ ih => exact .cons (s _ _ ha True.intro) ih
theorem Parts.len {H : Hp} {as : List Addr} {ps : List (List Str)} (h : Parts H as ps) : as.length = ps.length := by
  induction h with
  | nil => rfl
  | cons _ _ ih => simp [ih]
theorem Parts.at {H : Hp} {as : List Addr} {ps : List (List Str)} (h : Parts H as ps) {i : Nat} {a : Addr} (e : as[i]? = some a) : ∃ p, ps[i]? = some p ∧ H a = some (.lst (p.map V.str)) := by
  induction h generalizing i with
  | nil => simp at e
  | @cons b as p ps hb _ ih =>
    cases i with
    | zero =>
      simp at e
      subst e
      exact ⟨p, rfl, hb⟩
    | succ i => exact ih (by simpa using e)
theorem new_of_take {us : Uses} (nd : (names us).Nodup) {i : Nat} {n : Str} {l : List Str} (hus : us[i]? = some (n, l)) : n ∉ (names us).take i := fun hm => by
  obtain ⟨j, hj⟩ := List.mem_iff_getElem?.mp hm
  have hji : j < i := by
    have := (List.getElem?_eq_some_iff.mp hj).1
    rw [List.length_take] at this
    omega
  rw [List.getElem?_take_of_lt hji] at hj
  have e2 : (names us)[i]? = some n := by simp [names, hus]
  obtain ⟨g1, g2⟩ := List.getElem?_eq_some_iff.mp hj
  obtain ⟨k1, k2⟩ := List.getElem?_eq_some_iff.mp e2
  exact List.pairwise_iff_getElem.mp nd j i g1 k1 hji (by rw [g2, k2])
/-- sorted texts that rise are as they are -/
theorem sorted_rise {ys p : List Str} (hp : ys.Perm p) (hs : sortedS ys = true) (hr : p.Pairwise nlt) : ys = p := by
  have ndp : p.Nodup := List.Pairwise.imp (fun {a b} h => fun (e : a = b) => nlt_irrefl b (by rw [e] at h; exact h)) hr
  have nd : ys.Nodup := hp.nodup_iff.mpr ndp
  have key : ∀ (l : List Str) (x : Str), risingS x l = true → (∀ y ∈ l, ¬ nlt y x) ∧ l.Pairwise (fun a b => ¬ nlt b a) := by
    intro l
    induction l with
    | nil => exact fun x _ => ⟨fun _ h => by (cases h), List.Pairwise.nil⟩
    | cons y l ih =>
      intro x h
      have h' : (!ltCps y.cps.toList x.cps.toList && risingS y l) = true := h
      rw [Bool.and_eq_true, ltCps_eq, Bool.not_eq_true', decide_eq_false_iff_not] at h'
      obtain ⟨g1, g2⟩ := ih y h'.2
      refine ⟨fun z hz => ?_, List.pairwise_cons.mpr ⟨g1, g2⟩⟩
      rcases List.mem_cons.mp hz with rfl | hz
      · exact h'.1
      · have a1 : y.cps.toList ≤ z.cps.toList := List.not_lt.mp (g1 z hz)
        have a2 : x.cps.toList ≤ y.cps.toList := List.not_lt.mp h'.1
        exact List.not_lt.mpr (List.le_trans a2 a1)
  have hw : ys.Pairwise (fun a b => ¬ nlt b a) := by
    cases ys with
    | nil => exact List.Pairwise.nil
    | cons x l =>
      obtain ⟨g1, g2⟩ := key l x hs
      exact List.pairwise_cons.mpr ⟨g1, g2⟩
  have hst : ys.Pairwise nlt := by
    refine List.Pairwise.imp ?_ (List.Pairwise.and hw nd)
    rintro a b ⟨h1, h2⟩
    by_cases h : a.cps.toList < b.cps.toList
    · exact h
    · have e : a.cps.toList = b.cps.toList := List.le_antisymm (List.not_lt.mp h1) (List.not_lt.mp h)
      exact absurd (show a = b by cases a; cases b; simpa using e) h2
  exact rise_eq hst hr fun x => hp.mem_iff
theorem strs_lay : ∀ {p : List Str}, (∀ x ∈ p, Ok1 x) → PyData.canLayAll0 (p.map PyData.str) = true
  | [], _ => rfl
  | x :: p, h => by
    have h1 : x.cps.all (· < 0x110000) = true := by
      rw [← Array.all_toList, List.all_eq_true]
      exact fun c hc => decide_eq_true (h x (List.mem_cons_self ..) c hc)
    have h2 : PyData.strOk x = true := h1
    have h3 := strs_lay (p := p) fun y hy => h y (List.mem_cons_of_mem _ hy)
    simp only [List.map, PyData.canLayAll0, PyData.canLay0, h2, h3, Bool.and_self]
theorem strs_depth : ∀ (p : List Str), PyData.depthAll (p.map PyData.str) = 0
  | [] => rfl
  | x :: p => by simp only [List.map, PyData.depthAll, PyData.depth, strs_depth p, Nat.max_self]
theorem strs_can {p : List Str} (h : ∀ x ∈ p, Ok1 x) : PyData.canLay0 (.list (p.map PyData.str)) = true := by
  simp only [PyData.canLay0]
  exact strs_lay h
theorem strs_shaped {p : List Str} (h : ∀ x ∈ p, Ok1 x) : SeqAt.shaped (.list (p.map PyData.str)) = true := by
  show (PyData.canLay0 _ && decide (PyData.depth _ ≤ 64)) = true
  rw [strs_can h]
  simp only [PyData.depth, strs_depth]
  rfl
theorem strs_dp {K : PySem.W.Frag} {H : Hp} : ∀ (p : List Str), DpAll K H (p.map V.str) (p.map PyData.str)
  | [] => .nil
  | x :: p => .cons (.str x) (strs_dp p)
section
variable {P : Program} {w : World} {K : PySem.W.Frag} {mg : Str → Option Value} {base : Heap}
/-! ### law -/
def spLaw (TP : Hp → Prop) (K : PySem.W.Frag) : Sp := fun vs H Q _ => ∃ (a : Addr) (ns : List Int), vs = [.ref a] ∧ SqL K H a (ns.map V.int) ∧ ns.length ≤ 63 ∧ TP H ∧ ∀ H', Q (.bl true) H'
theorem ok_law {f fX fC fM fD fA fN fU fR fS fI : Addr} {fd fdX fdC fdM fdD fdA fdN fdU fdR fdS fdI : FuncData} {k : Nat} {TP : Hp → Prop} (hTP : ∀ H H', Same H H' → TP H → TP H') (D : DefN K mg "law" sLaw ["script"] f fd) (T : Txt mg)
    (DComponents : DefN K mg "components" sComponents ["uses"] fC fdC) (GComponents : FnOk P w K mg base CX0 (k + 5) fC fdC ["uses"] (spComps TP))
    (DLawMix : DefN K mg "_law_mix" sLawMix ["cell", "k"] fM fdM) (DLawDraws : DefN K mg "_law_draws" sLawDraws ["script"] fD fdD) (DLawAt : DefN K mg "_law_at" sLawAt ["draws", "index"] fA fdA)
    (DLawName : DefN K mg "_law_name" sLawName ["number"] fN fdN) (DLawUses : DefN K mg "_law_uses" sLawUses ["draws"] fU fdU) (DLawReach : DefN K mg "_law_reach" sLawReach ["uses", "name"] fR fdR)
    (DLawIsDict : DefN K mg "_law_is_dict" sLawIsDict ["actual", "expected"] fX fdX) (DLawSame : DefN K mg "_law_same" sLawSame ["actual", "expected"] fS fdS) (DLawIsInteger : DefN K mg "_law_is_integer" sLawIsInteger ["actual"] fI fdI) :
    FnOk P w K mg base CX0 (k + 6) f fd ["script"] (spLaw TP K) := by
  have GLawDraws : FnOk P w K mg base CX0 (k + 2) fD fdD ["script"] (spDraws K) := ok_draws DLawDraws T DLawMix
  have GLawUses : FnOk P w K mg base CX0 (k + 3) fU fdU ["draws"] spUses := ok_uses DLawUses T DLawMix DLawAt DLawName
  have GLawReach : FnOk P w K mg base CX0 (k + 1) fR fdR ["uses", "name"] spReach := ok_reach DLawReach T
  have GLawIsDict : FnOk P w K mg base CX0 4 fX fdX ["actual", "expected"] (spIsDict K 1) := ok_isdict DLawIsDict T DLawSame DLawIsInteger
  refine D.F.ok scLaw (fun vs H Q E h => ?_) (fun cdv A outer s H vs Q E hr h => ?_)
  · obtain ⟨a, ns, rfl, _⟩ := h
    rfl
  · obtain ⟨a, ns, rfl, hS, hl, hT, qq⟩ := h
    refine ⟨_, (pss_cons (ps_set (i := 1) scLaw.nd rfl (.inl rfl) (pe_call GLawDraws (hr.mono (by omega)) (by rfl) DLawDraws.g DLawDraws.F.kp DLawDraws.b .nil pass0 (pa_cons (pv 0) pa_nil)))
        (pss_cons (ps_set (i := 2) scLaw.nd rfl (.inr rfl) (pe_call GLawUses (hr.mono (by omega)) (by rfl) DLawUses.g DLawUses.F.kp DLawUses.b .nil pass0 (pa_cons (pv 1) pa_nil)))
        (pss_cons (ps_set (i := 3) scLaw.nd rfl (.inl rfl) pe_dnewK)
        (pss_cons (ps_lock (ps_for PassesOwn.never rfl (pi_keys (pv 2)) (pg_name (i := 4) scLaw.nd rfl (.inl rfl)) (pss_one (ps_dput (hu_of hr) (pv 3) (pv 4) (pe_callTy call_list_of (by rfl) T.list HL.boot_list (pa_cons (pe_dget (hu_of hr) (pv 2) (pv 4) (fun _ _ => rfl)) pa_nil)) rfl))))
        (pss_cons (ps_set (i := 5) scLaw.nd rfl (.inl rfl) pe_dnewK)
        (pss_cons (ps_lock (ps_for PassesOwn.never rfl (pi_keys (pv 2)) (pg_name (i := 4) scLaw.nd rfl (.inl rfl)) (pss_one (ps_dput (hu_of hr) (pv 5) (pv 4) (pe_call GLawReach (hr.mono (by omega)) (by rfl) DLawReach.g DLawReach.F.kp DLawReach.b .nil pass0 (pa_cons (pv 2) (pa_cons (pv 4) pa_nil))) rfl))))
        (pss_cons (ps_set (i := 6) scLaw.nd rfl (.inl rfl) (pe_call GComponents (hr.mono (by omega)) (by rfl) DComponents.g DComponents.F.kp DComponents.b .nil pass0 (pa_cons (pv 3) pa_nil)))
        (pss_cons (ps_if (PW.pt (pw_or (pt_not (pt_val (pe_callB call_isB (by rfl) T.isinstance HL.boot_isinstance (pa_cons (pv 6) (pa_cons (pe_bltn (v := .ty "list") (by rfl) T.list HL.boot_list rfl) pa_nil))))) (pw_or1 (pt_not (pt_val (pe_call GLawIsDict (hr.mono (by omega)) (by rfl) DLawIsDict.g DLawIsDict.F.kp DLawIsDict.b .nil pass0 (pa_cons (pv 3) (pa_cons (pv 2) pa_nil)))))))) (pss_one (ps_ret pe_bl)) pss_nil)
        (pss_cons (ps_set (i := 7) scLaw.nd rfl (.inr rfl) (pe_lst pa_nil))
        (pss_cons (ps_set (i := 8) scLaw.nd rfl (.inl rfl) (pe_tup (pa_cons pe_int (pa_cons pe_str pa_nil))))
        (pss_cons (ps_for PassesOwn.never rfl (pi_list (pv 6)) (pg_name (i := 9) scLaw.nd rfl (.inl rfl)) (pss_cons (ps_if (PW.pt (pw_or (pt_not (pt_val (pe_callB call_isB (by rfl) T.isinstance HL.boot_isinstance (pa_cons (pv 9) (pa_cons (pe_bltn (v := .ty "list") (by rfl) T.list HL.boot_list rfl) pa_nil))))) (pw_or1 (pt_cmpR op_eq (pe_callB call_len_seq (by rfl) T.len PySem.boot_len (pa_cons (pv 9) pa_nil)) pe_int (nomark _))))) (pss_one (ps_ret pe_bl)) pss_nil)
        (pss_cons (ps_for PassesOwn.never rfl (pi_list (pv 9)) (pg_name (i := 4) scLaw.nd rfl (.inl rfl)) (pss_cons (ps_if (PW.pt (pw_or (pt_not (pt_val (pe_callB call_isB (by rfl) T.isinstance HL.boot_isinstance (pa_cons (pv 4) (pa_cons (pe_bltn (v := .ty "str") (by rfl) T.str HL.boot_str rfl) pa_nil))))) (pw_or (pt_cmp (pc_dnotin (hu_of hr) (pv 4) (pv 2))) (pw_or1 (pt_cmpR (HL.op_in_seqK (K := K) rfl) (pv 4) (pv 7) rfl))))) (pss_one (ps_ret pe_bl)) pss_nil)
        (pss_cons (ps_expr (pe_bm PySem.F.plainAttrs_list PySem.F.slot_list_append PySem.F.type_list_append mt_append (pv 7) (pa_cons (pv 4) pa_nil)))
        (pss_one (ps_lock (ps_for PassesOwn.never rfl (pi_keys (pv 2)) (pg_name (i := 10) scLaw.nd rfl (.inl rfl)) (pss_cons (ps_set (i := 11) scLaw.nd rfl (.inl rfl) (pe_or (pe_cmpR op_eq (pv 10) (pv 4) (nomark _)) (pe_one (pe_and (pe_cmpR (HL.op_in_seqK (K := K) rfl) (pv 10) (pe_dget (hu_of hr) (pv 5) (pv 4) (fun _ _ => rfl)) rfl) (pe_one (pe_cmpR (HL.op_in_seqK (K := K) rfl) (pv 4) (pe_dget (hu_of hr) (pv 5) (pv 10) (fun _ _ => rfl)) rfl))))))
        (pss_one (ps_if (pt_cmpR op_ne (pv 11) (pe_cmpR (HL.op_in_seqK (K := K) rfl) (pv 10) (pv 9) rfl) (nomark _)) (pss_one (ps_ret pe_bl)) pss_nil)))))))))
        (pss_cons (ps_set (i := 12) scLaw.nd rfl (.inl rfl) (pe_op op_add (pe_callB call_len_seq (by rfl) T.len PySem.boot_len (pa_cons (pe_dget (hu_of hr) (pv 5) (pe_ix ix_list (pv 9) pe_int (fun _ _ => rfl)) (fun _ _ => rfl)) pa_nil)) (pe_callTy call_int1 (by rfl) T.int HL.boot_int (pa_cons (pe_cmpR (HL.op_notIn_seqK (K := K) rfl) (pe_ix ix_list (pv 9) pe_int (fun _ _ => rfl)) (pe_dget (hu_of hr) (pv 5) (pe_ix ix_list (pv 9) pe_int (fun _ _ => rfl)) (fun _ _ => rfl)) rfl) pa_nil))))
        (pss_cons (ps_if (PW.pt (pw_or (pt_cmpR (op_neD hr.units) (pv 9) (pe_callB cr_sortedS (by rfl) T.sorted (by decide +kernel) (pa_cons (pv 9) pa_nil)) (nomark _)) (pw_or1 (pt_cmpR (HL.op_leIS hr.units0) (pe_tup (pa_cons (pv 12) (pa_cons (pe_ix ix_list (pv 9) pe_int (fun _ _ => rfl)) pa_nil))) (pv 8) (nomark _))))) (pss_one (ps_ret pe_bl)) pss_nil)
        (pss_cons (ps_set (i := 8) scLaw.nd rfl (.inl rfl) (pe_tup (pa_cons (pv 12) (pa_cons (pe_ix ix_list (pv 9) pe_int (fun _ _ => rfl)) pa_nil))))
        (pss_one (ps_for PassesOwn.never rfl (pi_list (pv 9)) (pg_name (i := 4) scLaw.nd rfl (.inl rfl)) (pss_one (ps_if (pt_cmpR op_gt (pe_callB call_len_seq (by rfl) T.len PySem.boot_len (pa_cons (pe_lc (own := [("other", 10)]) (g := (gName 10)) (by rfl) scLaw.nd (pi_list (pe_dget (hu_of hr) (pv 2) (pv 4) (fun _ _ => rfl))) (blkOk_by (own := [("other", 10)]) (N := ["script", "draws", "uses", "passed", "name", "reach", "told", "listed", "last", "part", "other", "together", "count"]) (sc := defScope sLaw) (by decide +kernel)) (fun _ _ _ _ _ => (pg_name (i := 10) scLaw.nd rfl (Or.inl rfl))) (fun _ _ _ _ _ => (pts_one (PW.pt (pw_and (pt_cmp (pc_din (hu_of hr) (pv 10) (pv 2))) (pw_and1 (pt_cmpR (HL.op_notIn_seqK (K := K) rfl) (pv 10) (pv 7) rfl)))))) (fun _ _ _ _ _ => (pv 10))) pa_nil)) pe_int (nomark _)) (pss_one (ps_ret pe_bl)) pss_nil))))))))))
        (pss_one (ps_ret (pe_cmpR op_eq (pe_callB call_len_seq (by rfl) T.len PySem.boot_len (pa_cons (pv 7) pa_nil)) (pe_callB call_lenD (by rfl) T.len PySem.boot_len (pa_cons (pv 2) pa_nil)) (nomark _))))))))))))))), ?_⟩
    refine ⟨_, rfl, a, ns, rfl, hS, hl, fun Dr H1 ds hDr s1 hd1 _ hds => ?_⟩
    refine ⟨_, rfl, Dr, ds, rfl, hd1, hds, fun U H2 kvs us s2 hU hU2 hUs hDn => ?_⟩
    intro Pd hPd
    have few := hDn.few
    have nd := hDn.1
    have l14 := hDn.2.1
    have klen := hUs.len
    have nUP : U ≠ Pd := ne_of_none hU2 hPd
    refine ⟨U, .dK kvs, same_upd hPd _ _ hU2, True.intro, fun od => ⟨_, rfl, U, od, rfl, .inl ⟨kvs, upd_same, ?_⟩⟩⟩
    refine for_it walk_keys (fun i σ H' => ∃ (pk : List (Key × V)) (y4 : Option V), σ = [some (.ref a), some (.ref Dr), some (.ref U), some (.ref Pd), y4, none, none, none, none, none, none, none, none] ∧ But1 H2 H' U ∧ H' U = some (.frz od (.dK kvs)) ∧ H' Pd = some (.dK pk) ∧ Us H' pk (us.take i))
      ⟨[], none, rfl, fun b o nb hb => by rw [upd_ne nb]; exact same_upd hPd _ _ hb, upd_same, by rw [upd_ne nUP.symm, upd_same], .nil⟩ (fun i σ H' _ p => by obtain ⟨_, _, _, _, h, _⟩ := p; exact h) ?_ ?_
    · rintro i x σ H3 H3' hi ⟨pk, y4, rfl, b3, hf3, hp3, u3⟩ ⟨rfl, k, v, hk, rfl⟩
      obtain ⟨n, l, ai, hus, rfl, rfl, hai⟩ := hUs.at hk
      have nai : ai ≠ U := ne_of hai hU2 (by intro z; cases z)
      have hai3 := b3 _ _ nai hai
      have hlook := look_at nd hus
      have hnew : n ∉ names (us.take i) := fun hm => by
        obtain ⟨⟨m, l'⟩, hm1, e⟩ := List.mem_map.mp hm
        obtain ⟨j, hj⟩ := List.mem_iff_getElem?.mp hm1
        have hji : j < i := by
          have := (List.getElem?_eq_some_iff.mp hj).1
          rw [List.length_take] at this
          omega
        rw [List.getElem?_take_of_lt hji] at hj
        have e1 : (names us)[j]? = some m := by simp [names, hj]
        have e2 : (names us)[i]? = some n := by simp [names, hus]
        have e : m = n := e
        obtain ⟨g1, g2⟩ := List.getElem?_eq_some_iff.mp e1
        obtain ⟨k1, k2⟩ := List.getElem?_eq_some_iff.mp e2
        exact List.pairwise_iff_getElem.mp nd j i g1 k1 hji (by rw [g2, k2, e])
      refine ⟨_, rfl, _, rfl, U, .ref ai, rfl, .inl ⟨kvs, .inr n, .inr ⟨od, hf3⟩, rfl, (hUs.vals nd hk).symm⟩, ai, _, rfl, .inl (SqL.of hai3), fun L hL => ?_⟩
      refine ⟨_, rfl, _, rfl, Pd, _, rfl, DPut.k (k := .inr n) (same_upd hL _ _ hp3) (by rw [u3.len, List.length_take]; exact Nat.lt_of_le_of_lt (show min i us.length ≤ 14 by omega) (by decide)), ?_⟩
      rw [valV_new u3 hnew]
      have nLP : Pd ≠ L := ne_of_none hp3 hL
      refine ⟨_, _, rfl, fun b o nb hb => ?_, ?_, upd_same, ?_⟩
      · have nbP : b ≠ Pd := ne_of_none hb hPd
        rw [upd_ne nbP]
        exact same_upd hL _ _ (b3 b o nb hb)
      · rw [upd_ne nUP]
        exact same_upd hL _ _ hf3
      · rw [take_more hus]
        have sk1 : SeqKept H3' (upd (upd H3' L (.lst (l.map V.str))) Pd (.dK (pk ++ [(.inr n, .ref L)]))) := fun b o hb ho => by
          rw [upd_ne (fun z => by rw [z, hp3] at hb; cases hb; exact ho)]
          exact same_upd hL _ _ hb
        exact (u3.keep sk1).snoc (by rw [upd_ne nLP.symm, upd_same])
    rintro σ H3 ⟨pk, y4, rfl, b3, hf3, hp3, u3⟩
    rw [klen, List.take_length] at u3
    refine ⟨hf3, ?_⟩
    have s23 : Same H2 (upd H3 U (.dK kvs)) := fun b o hb => by
      by_cases e : b = U
      · subst e; rw [upd_same, ← hU2, hb]
      · rw [upd_ne e]; exact b3 b o e hb
    have hp3' : upd H3 U (.dK kvs) Pd = some (.dK pk) := by rw [upd_ne nUP.symm]; exact hp3
    have u3' : Us (upd H3 U (.dK kvs)) pk us := u3.keep fun b o hb ho => by
      rw [upd_ne (fun z => by rw [z, hf3] at hb; cases hb; exact ho)]
      exact hb
    have hU3 : upd H3 U (.dK kvs) U = some (.dK kvs) := upd_same
    generalize upd H3 U (.dK kvs) = H4 at s23 hp3' u3' hU3
    intro R hR
    have nUR : U ≠ R := ne_of_none hU3 hR
    have hUs4 := hUs.keep s23.seqKept
    refine ⟨U, .dK kvs, same_upd hR _ _ hU3, True.intro, fun od2 => ⟨_, rfl, U, od2, rfl, .inl ⟨kvs, upd_same, ?_⟩⟩⟩
    refine for_it walk_keys (fun i σ H' => ∃ (rk : List (Key × V)) (rus : Uses) (y4 : Option V), σ = [some (.ref a), some (.ref Dr), some (.ref U), some (.ref Pd), y4, some (.ref R), none, none, none, none, none, none, none] ∧ But1 H4 H' U ∧ H' U = some (.frz od2 (.dK kvs)) ∧ H' R = some (.dK rk) ∧ Us H' rk rus ∧
        names rus = (names us).take i ∧ ∀ (n : Str) (f : List Str), (n, f) ∈ rus → f.Nodup ∧ ∀ x, x ∈ f ↔ RP us n x)
      ⟨[], [], _, rfl, fun b o nb hb => by rw [upd_ne nb]; exact same_upd hR _ _ hb, upd_same, by rw [upd_ne nUR.symm, upd_same], .nil, rfl, fun n f h => by cases h⟩ (fun i σ H' _ p => by obtain ⟨_, _, _, _, _, h, _⟩ := p; exact h) ?_ ?_
    · rintro i x σ H5 H5' hi ⟨rk, rus, y4, rfl, b5, hf5, hr5, u5, nm5, rp5⟩ ⟨rfl, k, v, hk, rfl⟩
      obtain ⟨n, l, ai, hus, rfl, rfl, hai⟩ := hUs.at hk
      have hn : n ∈ names us := List.mem_map.mpr ⟨_, List.mem_of_getElem? hus, rfl⟩
      have hnew : n ∉ names rus := by rw [nm5]; exact new_of_take nd hus
      have rlen : rus.length = min i us.length := by
        have : (names rus).length = ((names us).take i).length := by rw [nm5]
        simpa [names] using this
      refine ⟨_, rfl, _, rfl, U, us, n, rfl, ⟨kvs, .inr ⟨od2, hf5⟩, hUs4.keep (b5.seqs hU3)⟩, few, hn, fun L H6 f sm hL hL6 nd6 iff6 => ?_⟩
      have nRL : R ≠ L := ne_of_none hr5 hL
      refine ⟨_, rfl, _, rfl, R, _, rfl, DPut.k (k := .inr n) (sm _ _ hr5) (by rw [u5.len, rlen]; exact Nat.lt_of_le_of_lt (show min i us.length ≤ 14 by omega) (by decide)), ?_⟩
      rw [valV_new u5 hnew]
      refine ⟨_, rus ++ [(n, f)], _, rfl, fun b o nb hb => ?_, ?_, upd_same, ?_, ?_, ?_⟩
      · rw [upd_ne (ne_of_none hb hR)]
        exact sm _ _ (b5 b o nb hb)
      · rw [upd_ne nUR]
        exact sm _ _ hf5
      · have sk1 : SeqKept H5' (upd H6 R (.dK (rk ++ [(.inr n, .ref L)]))) := fun b o hb ho => by
          rw [upd_ne (fun z => by rw [z, hr5] at hb; cases hb; exact ho)]
          exact sm _ _ hb
        exact (u5.keep sk1).snoc (by rw [upd_ne nRL.symm]; exact hL6)
      · have e2 : (names us)[i]? = some n := by simp [names, hus]
        rw [take_more e2, ← nm5]
        simp [names]
      · intro n' f' h
        rcases List.mem_append.mp h with h | h
        · exact rp5 n' f' h
        · cases List.mem_singleton.mp h
          exact ⟨nd6, iff6⟩
    rintro σ H5 ⟨rk, rus, y4', rfl, b5, hf5, hr5, u5, nm5, rp5⟩
    refine ⟨hf5, ?_⟩
    have nm5 : names rus = names us := by
      rw [nm5, klen]
      have : us.length = (names us).length := by simp [names]
      rw [this, List.take_length]
    have s47 : Same H4 (upd H5 U (.dK kvs)) := fun b o hb => by
      by_cases e : b = U
      · subst e; rw [upd_same, ← hU3, hb]
      · rw [upd_ne e]; exact b5 b o e hb
    have hr7 : upd H5 U (.dK kvs) R = some (.dK rk) := by rw [upd_ne nUR.symm]; exact hr5
    have u7 : Us (upd H5 U (.dK kvs)) rk rus := u5.keep fun b o hb ho => by
      rw [upd_ne (fun z => by rw [z, hf5] at hb; cases hb; exact ho)]
      exact hb
    generalize upd H5 U (.dK kvs) = H7 at s47 hr7 u7
    have hU7 := s47 _ _ hU3
    have hP7 := s47 _ _ hp3'
    have pu7 := u3'.keep s47.seqKept
    have uu7 := hUs4.keep s47.seqKept
    have sAll : Same H H7 := s1.trans (s2.trans (s23.trans s47))
    have ndr : (names rus).Nodup := by rw [nm5]; exact nd
    -- what each reaches
    have tl : Told us fun x => (look rus x).getD [] := by
      have key : ∀ x ∈ names us, ∃ f, look rus x = some f ∧ f.Nodup ∧ ∀ y, y ∈ f ↔ RP us x y := fun x hx => by
        obtain ⟨f, e, hm⟩ := look_some (us := rus) (n := x) (by rw [nm5]; exact hx)
        exact ⟨f, e, rp5 x f hm⟩
      refine ⟨fun x hx => ?_, fun x hx y => ?_⟩
      · obtain ⟨f, e, h1, _⟩ := key x hx
        show ((look rus x).getD []).Nodup
        rw [e]; exact h1
      · obtain ⟨f, e, _, h2⟩ := key x hx
        show y ∈ (look rus x).getD [] ↔ _
        rw [e]; exact h2 y
    refine ⟨_, rfl, Pd, pk, us, rfl, hP7, pu7, hDn, hTP _ _ sAll hT, fun Td H8 as told c eN hTd8 prt hc hcm => ?_⟩
    have hcm := hcm.congr (c' := card fun x => (look rus x).getD []) fun x hx => by
      obtain ⟨l, l1, l2, l3⟩ := card_list tl hx
      rw [← l2]
      exact hc x hx l l1 l3
    have keepS : SeqKept H7 H8 := fun b o hb ho => eN b o hb fun ps z => by rw [z] at ho; exact ho
    have hU8 : H8 U = some (.dK kvs) := eN _ _ hU7 fun ps z => by cases z
    have hP8 : H8 Pd = some (.dK pk) := eN _ _ hP7 fun ps z => by cases z
    have hR8 : H8 R = some (.dK rk) := eN _ _ hr7 fun ps z => by cases z
    have pu8 := pu7.keep keepS
    have uu8 := uu7.keep keepS
    have ru8 := u7.keep keepS
    generalize hf : (fun x => (look rus x).getD []) = f at tl hcm
    have hfl : ∀ x ∈ names us, look rus x = some (f x) := fun x hx => by
      obtain ⟨g, e, _⟩ := look_some (us := rus) (n := x) (by rw [nm5]; exact hx)
      rw [← hf]
      show look rus x = some ((look rus x).getD [])
      rw [e]
      rfl
    refine ⟨_, rfl, _, "list", "list", true, rfl, .base (.lst hTd8), by decide +kernel, true, rfl, iteF ⟨_, rfl, _, rfl, Pd, U, pk, kvs, rfl, nUP.symm, hP8, hU8, by rw [pu8.len, uu8.len], fun i k v e => ?_, fun H9 s9 => ⟨true, rfl, iteF ?_⟩⟩⟩
    · obtain ⟨n, l, ai, hus, rfl, rfl, hai⟩ := uu8.at e
      refine ⟨uu8.vals nd e, ?_⟩
      rcases pu8.find n with ⟨z, _⟩ | ⟨l', a', e1, e2, ha'⟩
      · rw [look_at nd hus] at z; cases z
      · rw [look_at nd hus] at e1
        cases e1
        refine ⟨_, e2, .seq (.lst ha') (.lst hai) rfl ?_ fun i u v hu hv => ?_⟩
        · rw [List.length_map]
          have := few.2.2 n l (look_at nd hus)
          omega
        · rw [hu] at hv
          cases hv
          obtain ⟨y, _, rfl⟩ := List.mem_map.mp (List.mem_of_getElem? hu)
          exact .leaf trivial
    have t2 : 2 ≤ sizeLine := by decide
    refine ⟨Nat.zero_le _, fun Ls hLs => ⟨t2, fun La hLa => ?_⟩⟩
    have s8 : Same H8 (upd (upd H9 Ls (.lst [])) La (.tup [.int 0, .str ""])) := s9.trans ((same_upd hLs).trans (same_upd hLa))
    have nLL : Ls ≠ La := fun e => by rw [← e, upd_same] at hLa; cases hLa
    have hLs0 : upd (upd H9 Ls (.lst [])) La (.tup [.int 0, .str ""]) Ls = some (.lst []) := by rw [upd_ne nLL, upd_same]
    have hLa0 : upd (upd H9 Ls (.lst [])) La (.tup [.int 0, .str ""]) La = some (.tup [.int 0, .str ""]) := upd_same
    have nLs8 : ∀ {b : Addr} {o : HO}, H8 b = some o → b ≠ Ls := fun hb => ne_of_none (s9 _ _ hb) hLs
    generalize upd (upd H9 Ls (.lst [])) La (.tup [.int 0, .str ""]) = HB at s8 hLs0 hLa0
    have hTdB := s8 _ _ hTd8
    have plen := prt.len
    have flen14 : told.flatten.length ≤ 14 := by
      have h1 := nodup_len _ _ hcm.flat_nd fun x hx => (hcm.flat_in x).mp hx
      have h2 : (names us).length = us.length := by simp [names]
      omega
    refine ⟨_, rfl, Td, rfl, ⟨_, SqL.of hTdB⟩, ?_⟩
    refine for_list (K := K) (a := Td) (xs := as.map V.ref) (fun j σ H' => ∃ (Lx : Addr) (n : Int) (z : Str) (y4 y9 y10 y11 y12 : Option V), σ = [some (.ref a), some (.ref Dr), some (.ref U), some (.ref Pd), y4, some (.ref R), some (.ref Td), some (.ref Ls), some (.ref Lx), y9, y10, y11, y12] ∧
        (∀ b o, H8 b = some o → H' b = some o) ∧ H' Ls = some (.lst ((told.take j).flatten.map V.str)) ∧ H' Lx = some (.tup [.int n, .str z]) ∧ ((j = 0 ∧ n = 0) ∨ ∃ q b, told[j - 1]? = some q ∧ 0 < j ∧ q.head? = some b ∧ n = (card f b : Int) ∧ z = b))
      ⟨La, 0, "", _, _, _, _, _, rfl, fun b o hb => s8 b o hb, by simpa using hLs0, hLa0, .inl ⟨rfl, rfl⟩⟩ (fun j σ H' _ p => ?_) ?_ ?_
    · obtain ⟨_, _, _, _, _, _, _, _, _, k2, _⟩ := p
      exact SqL.of (k2 _ _ hTd8)
    · rintro j x σ HC hx ⟨Lx, n0, z0, y4, y9, y10, y11, y12, rfl, k8, hLC, hLxC, hlast⟩
      obtain ⟨ap, hap, rfl⟩ : ∃ ap, as[j]? = some ap ∧ x = V.ref ap := by
        rw [List.getElem?_map] at hx
        cases e : as[j]? with
        | none => rw [e] at hx; cases hx
        | some y => rw [e] at hx; cases hx; exact ⟨y, rfl, rfl⟩
      obtain ⟨p, hp, hp8⟩ := prt.at hap
      have hpm := List.mem_of_getElem? hp
      obtain ⟨b, rb, hpb⟩ := List.exists_cons_of_ne_nil (hcm.ne p hpm)
      have hpC := k8 _ _ hp8
      have napL : ap ≠ Ls := nLs8 hp8
      have hbp : b ∈ p := by rw [hpb]; exact List.mem_cons_self ..
      have hbn := hcm.own p hpm b hbp
      have prise := hcm.rise p hpm
      have pnd : p.Nodup := List.Pairwise.imp (fun {a b} h => fun (e : a = b) => nlt_irrefl b (by rw [e] at h; exact h)) prise
      have plen14 : p.length ≤ 14 := by
        have h1 := nodup_len p (names us) pnd (hcm.own p hpm)
        have h2 : (names us).length = us.length := by simp [names]
        omega
      have hsplit : told = told.take j ++ p :: told.drop (j + 1) := by
        have h1 := List.take_append_drop (j + 1) told
        rw [take_more hp, List.append_assoc] at h1
        exact h1.symm
      have hflat : (told.take j).flatten.length + p.length ≤ 14 := by
        have h1 : told.flatten.length = (told.take j).flatten.length + (p.length + (told.drop (j + 1)).flatten.length) := by
          conv => lhs; rw [hsplit]
          simp
        omega
      have hnotin : ∀ x ∈ p, x ∉ (told.take j).flatten := fun x hx hm => by
        obtain ⟨q, hq, hxq⟩ := List.mem_flatten.mp hm
        have ap2 := hcm.apart
        rw [hsplit] at ap2
        exact (List.pairwise_append.mp ap2).2.2 q hq p (List.mem_cons_self ..) x hxq hx
      refine ⟨_, rfl, _, "list", "list", true, rfl, .base (.lst hpC), by decide +kernel, true, rfl, iteF ⟨_, rfl, ap, _, rfl, .inl (SqL.of hpC), rfl, _, rfl, ite2 (fun e => ?_) (fun _ => ?_)⟩⟩
      · have e1 := V.int.inj (of_decide_eq_true e)
        rw [hpb] at e1
        simp at e1
        omega
      refine ⟨_, rfl, ap, rfl, ⟨_, SqL.of hpC⟩, ?_⟩
      refine for_list (K := K) (a := ap) (xs := p.map V.str) (fun m σ H' => ∃ (y4 y10 y11 : Option V), σ = [some (.ref a), some (.ref Dr), some (.ref U), some (.ref Pd), y4, some (.ref R), some (.ref Td), some (.ref Ls), some (.ref Lx), some (.ref ap), y10, y11, y12] ∧
          (∀ b o, H8 b = some o → H' b = some o) ∧ H' Ls = some (.lst (((told.take j).flatten ++ p.take m).map V.str)) ∧ H' Lx = some (.tup [.int n0, .str z0]))
        ⟨y4, y10, y11, rfl, k8, by simpa using hLC, hLxC⟩ (fun m σ H' _ p' => ?_) ?_ ?_
      · obtain ⟨_, _, _, _, k2, _⟩ := p'
        exact SqL.of (k2 _ _ hp8)
      · rintro m x σ HD hx ⟨y4, y10, y11, rfl, kD, hLD, hLxD⟩
        obtain ⟨e, he, rfl⟩ := strs_at hx
        have hem := List.mem_of_getElem? he
        have hen := hcm.own p hpm e hem
        have hml := (List.getElem?_eq_some_iff.mp he).1
        have skD : SeqKept H8 HD := fun b o hb _ => kD b o hb
        obtain ⟨o, go, eo⟩ := UsAt.in (⟨kvs, .inl (kD _ _ hU8), uu8.keep skD⟩ : UsAt HD U us) e
        rw [decide_eq_true hen] at eo
        have hnot : e ∉ (told.take j).flatten ++ p.take m := fun hm => by
          rcases List.mem_append.mp hm with h | h
          · exact hnotin e hem h
          · obtain ⟨i, hi⟩ := List.mem_iff_getElem?.mp h
            have him : i < m := by
              have := (List.getElem?_eq_some_iff.mp hi).1
              rw [List.length_take] at this
              omega
            rw [List.getElem?_take_of_lt him] at hi
            obtain ⟨g1, g2⟩ := List.getElem?_eq_some_iff.mp hi
            obtain ⟨k1, k2⟩ := List.getElem?_eq_some_iff.mp he
            exact List.pairwise_iff_getElem.mp pnd i m g1 k1 him (by rw [g2, k2])
        have e0 : (if (false : Bool) = true then !inV (V.str e) (((told.take j).flatten ++ p.take m).map V.str) else inV (V.str e) (((told.take j).flatten ++ p.take m).map V.str)) = false := by rw [if_neg Bool.false_ne_true, inV_str, decide_eq_false hnot]
        refine ⟨_, rfl, _, "str", "str", true, rfl, .base (.str e), by decide +kernel, true, rfl, iteF ⟨_, rfl, _, rfl, U, o, rfl, go, _, rfl, ?_⟩⟩
        rw [eo]
        refine iteF ⟨_, rfl, _, rfl, Ls, _, rfl, .inl (SqL.of hLD), rfl, flat_strs _, false, congrArg V.bl e0, iteF ?_⟩
        refine ⟨_, rfl, .inl ⟨rfl, _, SqL.of hLD⟩, _, rfl, Ls, _, _, rfl, rfl, hLD, ?_, ?_⟩
        · rw [List.length_map, List.length_append, List.length_take]
          exact Nat.lt_of_le_of_lt (show _ ≤ 100 by omega) (by decide)
        have kE : ∀ b o, H8 b = some o → upd HD Ls (.lst (((told.take j).flatten ++ p.take m).map V.str ++ [.str e])) b = some o := fun b o hb => by
          rw [upd_ne (nLs8 hb)]
          exact kD b o hb
        have hLE : upd HD Ls (.lst (((told.take j).flatten ++ p.take m).map V.str ++ [.str e])) Ls = some (.lst (((told.take j).flatten ++ p.take (m + 1)).map V.str)) := by
          rw [upd_same, take_more he]
          simp
        have hLxE : upd HD Ls (.lst (((told.take j).flatten ++ p.take m).map V.str ++ [.str e])) Lx = some (.tup [.int n0, .str z0]) := by
          rw [upd_ne (ne_of hLxD hLD (by intro z; cases z))]
          exact hLxD
        generalize upd HD Ls (.lst (((told.take j).flatten ++ p.take m).map V.str ++ [.str e])) = HE at kE hLE hLxE
        have hUE := kE _ _ hU8
        refine ⟨U, .dK kvs, hUE, True.intro, fun od3 => ⟨_, rfl, U, od3, rfl, .inl ⟨kvs, upd_same, ?_⟩⟩⟩
        have skF : SeqKept H8 (upd HE U (.frz od3 (.dK kvs))) := fun b o hb ho => by
          rw [upd_ne (fun z => by rw [z, hU8] at hb; cases hb; exact ho)]
          exact kE b o hb
        have hpF := skF _ _ hp8 True.intro
        have nRU : R ≠ U := fun z => by
          rw [z, hU8] at hR8
          cases hR8
          exact nUR z.symm
        have hRF : upd HE U (.frz od3 (.dK kvs)) R = some (.dK rk) := by rw [upd_ne nRU]; exact kE _ _ hR8
        have getR : ∀ x ∈ names us, ∃ ax, DGet (upd HE U (.frz od3 (.dK kvs))) R (.str x) (some (.ref ax)) ∧ upd HE U (.frz od3 (.dK kvs)) ax = some (.lst ((f x).map V.str)) := fun x hx => UsAt.get (⟨rk, .inl hRF, ru8.keep skF⟩ : UsAt _ R rus) (hfl x hx)
        refine for_it walk_keys (fun i σ H' => H' = upd HE U (.frz od3 (.dK kvs)) ∧ ∃ (y10 y11 : Option V), σ = [some (.ref a), some (.ref Dr), some (.ref U), some (.ref Pd), some (.str e), some (.ref R), some (.ref Td), some (.ref Ls), some (.ref Lx), some (.ref ap), y10, y11, y12])
          ⟨rfl, y10, y11, rfl⟩ (fun i σ H' _ p' => by rw [p'.1]; exact upd_same) ?_ ?_
        · rintro i x σ HG HG' hi ⟨rfl, y10, y11, rfl⟩ ⟨rfl, k', v', hk, rfl⟩
          obtain ⟨q, l', a', hus, rfl, rfl, _⟩ := uu8.at hk
          have hqn : q ∈ names us := List.mem_map.mpr ⟨_, List.mem_of_getElem? hus, rfl⟩
          have hsame := hcm.same p hpm e hem q hqn
          obtain ⟨ae, ge, hae⟩ := getR e hen
          obtain ⟨aq, gq, haq⟩ := getR q hqn
          have inP : (if (false : Bool) = true then !inV (V.str q) (p.map V.str) else inV (V.str q) (p.map V.str)) = decide (q ∈ p) := by rw [if_neg Bool.false_ne_true, inV_str]
          have inE : (if (false : Bool) = true then !inV (V.str q) ((f e).map V.str) else inV (V.str q) ((f e).map V.str)) = decide (q ∈ f e) := by rw [if_neg Bool.false_ne_true, inV_str]
          have inQ : (if (false : Bool) = true then !inV (V.str e) ((f q).map V.str) else inV (V.str e) ((f q).map V.str)) = decide (e ∈ f q) := by rw [if_neg Bool.false_ne_true, inV_str]
          rw [show (kV (Sum.inr q : Key)) = V.str q from rfl]
          refine ⟨_, rfl, _, rfl, rfl, _, rfl, ?_⟩
          by_cases hqe : q = e
          · subst hqe
            rw [decide_eq_true rfl]
            refine iteT ⟨_, rfl, _, rfl, _, rfl, ap, _, rfl, .inl (SqL.of hpF), rfl, flat_strs _, rfl, _, rfl, iteNS ?_ ⟨rfl, _, _, rfl⟩⟩
            rw [inP, decide_eq_true hem]
          · have hne : ¬ (V.str q = V.str e) := fun z => hqe (V.str.inj z)
            rw [decide_eq_false hne]
            refine iteF ⟨_, rfl, _, rfl, _, rfl, R, .ref ae, rfl, ge, ae, _, rfl, .inl (SqL.of hae), rfl, flat_strs _, decide (q ∈ f e), congrArg V.bl inE, ?_⟩
            have r1 : q ∈ f e ↔ RP us e q := tl.iff e hen q
            have r2 : e ∈ f q ↔ RP us q e := tl.iff q hqn e
            by_cases h1 : q ∈ f e
            · rw [decide_eq_true h1]
              refine iteT ⟨_, rfl, _, rfl, _, rfl, R, .ref aq, rfl, gq, aq, _, rfl, .inl (SqL.of haq), rfl, flat_strs _, _, rfl, _, rfl, _, rfl, ap, _, rfl, .inl (SqL.of hpF), rfl, flat_strs _, rfl, _, rfl, iteNS ?_ ⟨rfl, _, _, rfl⟩⟩
              rw [inP, inQ]
              congr 1
              rw [Bool.eq_iff_iff, decide_eq_true_eq, decide_eq_true_eq, hsame, r2]
              refine ⟨fun h => ⟨.inr (r1.mp h1), .inr h⟩, fun h => ?_⟩
              rcases h.2 with z | z
              · exact absurd z hqe
              · exact z
            · rw [decide_eq_false h1]
              refine iteF ⟨_, rfl, _, rfl, _, rfl, ap, _, rfl, .inl (SqL.of hpF), rfl, flat_strs _, rfl, _, rfl, iteNS ?_ ⟨rfl, _, _, rfl⟩⟩
              have : q ∉ p := fun hm => by
                rcases (hsame.mp hm).1 with z | z
                · exact hqe z.symm
                · exact h1 (r1.mpr z)
              rw [inP, decide_eq_false this]
        · rintro σ HG ⟨rfl, y10, y11, rfl⟩
          refine ⟨upd_same, _, _, _, rfl, fun b o hb => ?_, ?_, ?_⟩
          · by_cases z : b = U
            · subst z
              rw [upd_same, ← hU8, hb]
            · rw [upd_ne z, upd_ne z]
              exact kE b o hb
          · have nLU : Ls ≠ U := fun z => by rw [z, hUE] at hLE; cases hLE
            rw [upd_ne nLU, upd_ne nLU]
            exact hLE
          · have nLU : Lx ≠ U := fun z => by rw [z, hUE] at hLxE; cases hLxE
            rw [upd_ne nLU, upd_ne nLU]
            exact hLxE
      · rintro σ HD ⟨y4, y10, y11, rfl, kD, hLD, hLxD⟩
        rw [List.length_map, List.take_length] at hLD
        have skD : SeqKept H8 HD := fun b o hb _ => kD b o hb
        have hpD := kD _ _ hp8
        obtain ⟨ab, gb, hab⟩ := UsAt.get (⟨rk, .inl (kD _ _ hR8), ru8.keep skD⟩ : UsAt HD R rus) (hfl b hbn)
        have at0 : atI (p.map V.str) 0 = some (.str b) := by
          rw [hpb]
          exact atI_nat (j := 0) rfl
        have inB : (if (true : Bool) = true then !inV (V.str b) ((f b).map V.str) else inV (V.str b) ((f b).map V.str)) = !decide (b ∈ f b) := by rw [if_pos rfl, inV_str]
        refine ⟨_, rfl, _, rfl, ap, _, 0, .str b, rfl, rfl, SqL.of hpD, at0, R, .ref ab, rfl, gb, ab, _, rfl, .inl (SqL.of hab), _, rfl, ap, _, 0, .str b, rfl, rfl, SqL.of hpD, at0, _, rfl, _, rfl, ap, _, 0, .str b, rfl, rfl, SqL.of hpD, at0, R, .ref ab, rfl, gb, ab, _, rfl, .inl (SqL.of hab), rfl, flat_strs _, .inr ⟨!decide (b ∈ f b), congrArg (fun z => [V.bl z]) inB, _, _, rfl, rfl, ?_⟩⟩
        have hcnt : ((((f b).map V.str).length : Int) + (if (!decide (b ∈ f b)) = true then 1 else 0)) = (card f b : Int) := by
          rw [List.length_map]
          by_cases h : b ∈ f b
          · simp [card, h]
          · simp [card, h]
        dsimp only
        rw [hcnt]
        refine ⟨_, rfl, _, rfl, ap, p, rfl, SqL.of hpD, by omega, fun ys q perm srt hq => ?_⟩
        rw [sorted_rise perm srt prise]
        have sq : Same HD (upd HD q (.lst (p.map V.str))) := same_upd hq
        have hpok : ∀ x ∈ p, Ok1 x := fun x hx => hDn.2.2.2 x (hcm.own p hpm x hx)
        refine ⟨_, _, .lst (SqL.of (sq _ _ hpD)) (strs_dp p), .lst (SqL.of upd_same) (strs_dp p), strs_shaped hpok, strs_shaped hpok, _, rfl, ?_⟩
        rw [SeqAt.eqv_refl _ (strs_can hpok)]
        have hLq := sq _ _ hLD
        have hLxq := sq _ _ hLxD
        have kq : ∀ b o, H8 b = some o → upd HD q (.lst (p.map V.str)) b = some o := fun b o hb => sq _ _ (kD b o hb)
        generalize upd HD q (.lst (p.map V.str)) = HQ at hLq hLxq kq
        have hpQ := kq _ _ hp8
        refine iteF ⟨_, rfl, _, rfl, ap, _, 0, .str b, rfl, rfl, SqL.of hpQ, at0, t2, fun tp htp => ?_⟩
        have stp : Same HQ (upd HQ tp (.tup [.int (card f b : Int), .str b])) := same_upd htp
        refine ⟨_, rfl, tp, Lx, (card f b : Int), n0, b, z0, rfl, rfl, SqT.of upd_same, SqT.of (stp _ _ hLxq), _, rfl, ?_⟩
        have hle : leIS (card f b : Int) n0 b z0 = false := by
          have c1 : 1 ≤ card f b := by
            obtain ⟨l, l1, l2, l3⟩ := card_list tl hbn
            rw [← l2]
            exact List.length_pos_of_mem ((l3 b).mpr (.inl rfl))
          unfold leIS
          rcases hlast with ⟨_, z⟩ | ⟨q', b', hq', hj0, hb', hn, hz⟩
          · rw [if_neg (by omega), decide_eq_false (by omega)]
          · have hqm : q' ∈ told.take j := List.mem_of_getElem? (i := j - 1) (by rw [List.getElem?_take_of_lt (by omega)]; exact hq')
            have hup := hcm.up
            rw [hsplit] at hup
            have hu := (List.pairwise_append.mp hup).2.2 q' hqm p (List.mem_cons_self ..) b' b hb' (by rw [hpb]; rfl)
            subst hn hz
            rcases hu with h | ⟨h1, h2⟩
            · rw [if_neg (by omega), decide_eq_false (by omega)]
            · have ne : ¬ b = z0 := fun e => nlt_irrefl b (by rw [← e] at h2; exact h2)
              rw [if_pos (by omega), if_neg ne, decide_eq_true (show z0.cps.toList < b.cps.toList from h2)]
              rfl
        rw [hle]
        refine iteF ⟨_, rfl, _, rfl, ap, _, 0, .str b, rfl, rfl, SqL.of (stp _ _ hpQ), at0, t2, fun Ly hLy => ?_⟩
        have sLy := stp.trans (same_upd (o := .tup [.int (card f b : Int), .str b]) hLy)
        have hLyN : upd (upd HQ tp (.tup [.int (card f b : Int), .str b])) Ly (.tup [.int (card f b : Int), .str b]) Ly = some (.tup [.int (card f b : Int), .str b]) := upd_same
        have hLn := sLy _ _ hLq
        have kn : ∀ c o, H8 c = some o → upd (upd HQ tp (.tup [.int (card f b : Int), .str b])) Ly (.tup [.int (card f b : Int), .str b]) c = some o := fun c o hb => sLy _ _ (kq c o hb)
        generalize upd (upd HQ tp (.tup [.int (card f b : Int), .str b])) Ly (.tup [.int (card f b : Int), .str b]) = HN at hLyN hLn kn
        refine ⟨_, rfl, ap, rfl, ⟨_, SqL.of (kn _ _ hp8)⟩, ?_⟩
        refine for_list (K := K) (a := ap) (xs := p.map V.str) (fun m σ H' => ∃ (y4 : Option V), σ = [some (.ref a), some (.ref Dr), some (.ref U), some (.ref Pd), y4, some (.ref R), some (.ref Td), some (.ref Ls), some (.ref Ly), some (.ref ap), y10, y11, some (.int (card f b : Int))] ∧ Same HN H')
          ⟨_, rfl, fun _ _ h => h⟩ (fun m σ H' _ p' => ?_) ?_ ?_
        · obtain ⟨_, _, k2⟩ := p'
          exact SqL.of (k2 _ _ (kn _ _ hp8))
        · rintro m x σ HO1 hx ⟨y4, rfl, sO⟩
          obtain ⟨e, he, rfl⟩ := strs_at hx
          have hem := List.mem_of_getElem? he
          have hen := hcm.own p hpm e hem
          have kO : ∀ b o, H8 b = some o → HO1 b = some o := fun b o hb => sO _ _ (kn b o hb)
          obtain ⟨l, hl', _⟩ := look_some hen
          have uO : UsAt HO1 U us := ⟨kvs, .inl (kO _ _ hU8), uu8.keep fun b o hb _ => kO b o hb⟩
          obtain ⟨al, gl, hal⟩ := uO.get hl'
          refine ⟨_, rfl, _, rfl, U, .ref al, rfl, gl, al, rfl, ⟨_, SqL.of hal⟩, fun D2 hD2 => ?_⟩
          refine lc_list (K := K) (xs := l.map V.str) (fun i H' => Same HO1 H' ∧ H' D2 = some (.lst [])) ⟨same_upd hD2, upd_same⟩ (fun i H' _ p' => SqL.of (p'.1 _ _ hal)) ?_ ?_
          · rintro i x H' hx ⟨sm, hd2⟩
            obtain ⟨y, hy, rfl⟩ := strs_at hx
            obtain ⟨o, go, eo⟩ := (uO.same sm).in y
            refine ⟨rfl, _, rfl, _, rfl, U, o, rfl, go, _, rfl, ?_⟩
            rw [eo]
            by_cases hyn : y ∈ names us
            · rw [decide_eq_true hyn]
              have hstep : Step us e y := ⟨l, hl', List.mem_of_getElem? hy, hyn⟩
              have hcm2 := hcm
              rw [hsplit] at hcm2
              have hin := hcm2.earlier tl hem hstep
              have hin2 : y ∈ (told.take j).flatten ++ p := by simpa using hin
              have inL : (if (true : Bool) = true then !inV (V.str y) (((told.take j).flatten ++ p).map V.str) else inV (V.str y) (((told.take j).flatten ++ p).map V.str)) = false := by rw [if_pos rfl, inV_str, decide_eq_true hin2]; rfl
              refine iteT ⟨_, rfl, _, rfl, Ls, _, rfl, .inl (SqL.of (sm _ _ (sO _ _ hLn))), rfl, flat_strs _, false, congrArg V.bl inL, iteF ⟨sm, hd2⟩⟩
            · rw [decide_eq_false hyn]
              exact iteF (iteF ⟨sm, hd2⟩)
          · rintro H' ⟨sm, hd2⟩
            refine ⟨D2, [], rfl, .inl (SqL.of hd2), _, _, rfl, rfl, _, rfl, ite2 (fun e => absurd (of_decide_eq_true e) (by simp)) (fun _ => ⟨_, rfl, sO.trans sm⟩)⟩
        · rintro σ HO1 ⟨y4, rfl, sO⟩
          refine ⟨Ly, (card f b : Int), b, _, _, _, _, _, rfl, fun b o hb => sO _ _ (kn b o hb), ?_, sO _ _ hLyN, .inr ⟨p, b, ?_, by omega, by rw [hpb]; rfl, rfl, rfl⟩⟩
          · rw [sO _ _ hLn, take_more hp]
            simp
          · rw [Nat.add_sub_cancel]
            exact hp
    · rintro σ HD ⟨Lx, n0, z0, y4, y9, y10, y11, y12, rfl, k8, hLD, hLxD, hlast⟩
      have htk : told.take (as.map V.ref).length = told := by rw [List.length_map, plen, List.take_length]
      rw [htk] at hLD
      refine ⟨_, rfl, Ls, _, rfl, .inl (SqL.of hLD), _, rfl, U, kvs, rfl, k8 _ _ hU8, rfl, ?_⟩
      have hlen : told.flatten.length = us.length := by
        have h1 := nodup_len _ _ hcm.flat_nd fun x hx => (hcm.flat_in x).mp hx
        have h2 := nodup_len _ _ nd fun x hx => (hcm.flat_in x).mpr hx
        have h3 : (names us).length = us.length := by simp [names]
        omega
      rw [List.length_map, hlen, klen, decide_eq_true rfl]
      exact qq _
end
end Q08
namespace Q08
open PySem PySem.Spec PyProof.Rows L2 SX HL
section
variable {P : Program} {w : World} {K : PySem.W.Frag} {mg : Str → Option Value} {base : Heap}
/-! ### count_of -/
def spCountOf : Sp := fun vs H Q _ => ∃ n k : Nat, vs = [.int (n : Int)] ∧ n < 2 ^ k ∧ 1 ≤ k ∧ k ≤ 1000 ∧ Q (.int (BM.pop k n : Int)) H
theorem ok_count {f : Addr} {fd : FuncData} {k : Nat} (D : DefN K mg "count_of" sCountOf ["reached"] f fd) (T : Txt mg) : FnOk P w K mg base CX0 (k + 1) f fd ["reached"] spCountOf := by
  refine D.F.ok scCountOf (fun vs H Q E h => ?_) (fun cdv A outer s H vs Q E hr h => ?_)
  · obtain ⟨n, j, rfl, _⟩ := h
    rfl
  · obtain ⟨n, j, rfl, hn, hj, hk, qq⟩ := h
    refine ⟨_, (pss_one (ps_ret (pe_bm PySem.F.plainAttrs_str PySem.F.slot_str_count PySem.F.type_str_count mt_count (pe_joined1 (HB.pe_fmtB (pv 0))) (pa_cons pe_str pa_nil)))), ?_⟩
    refine ⟨_, rfl, n, rfl, Nat.le_trans (BM.digits_len hj hn) (Nat.le_trans hk (by decide)), ?_⟩
    refine ⟨by first | exact rfl | exact True.intro | constructor, _, _, rfl, rfl, ?_⟩
    rw [BM.count_bin hn]
    exact qq
end
end Q08
namespace Q08
open PySem PySem.Spec PyProof.Rows L2 SX HL
/-! ### masks -/
@[elab_as_elim] theorem snocInd {α : Type} {p : List α → Prop} (h0 : p []) (hs : ∀ l a, p l → p (l ++ [a])) (l : List α) : p l := by
  rw [← List.reverse_reverse l]
  induction l.reverse with
  | nil => exact h0
  | cons a m ih =>
    rw [List.reverse_cons]
    exact hs _ a ih
def maskK (us : Uses) (mk : Str → Nat) : List (Key × V) := (names us).map fun n => ((Sum.inr n : Key), V.int (mk n : Int))
structure MaskIn (us : Uses) (mk : Str → Nat) : Prop where
  low : ∀ x ∈ names us, mk x < 2 ^ us.length
  own : ∀ x ∈ names us, ∀ i, (names us)[i]? = some x → (mk x).testBit i = true
  sound : ∀ x ∈ names us, ∀ i, (mk x).testBit i = true → ∃ y, (names us)[i]? = some y ∧ Rf us x y
def MaskOf (us : Uses) (mk : Str → Nat) : Prop := MaskIn us mk ∧ ∀ x ∈ names us, ∀ y i, (names us)[i]? = some y → Rf us x y → (mk x).testBit i = true
def ShutAt (us : Uses) (mk : Str → Nat) (x : Str) : Prop := ∀ l, look us x = some l → ∀ u ∈ known us l, ∀ i, (mk u).testBit i = true → (mk x).testBit i = true
theorem shut_all {us : Uses} {mk : Str → Nat} (h : MaskIn us mk) (s : ∀ x ∈ names us, ShutAt us mk x) : MaskOf us mk := by
  refine ⟨h, fun x hx y i hi r => ?_⟩
  have hy : y ∈ names us := List.mem_of_getElem? hi
  rcases r with rfl | r
  · exact h.own x hx i hi
  · have key : ∀ z, RP us x z → ∀ i, (mk z).testBit i = true → (mk x).testBit i = true := by
      intro z hz
      induction hz with
      | one st =>
        intro i hb
        obtain ⟨l, h1, h2, h3⟩ := st
        exact s x hx l h1 _ (List.mem_filter.mpr ⟨h2, decide_eq_true h3⟩) i hb
      | @step m z hm st ih =>
        intro i hb
        obtain ⟨l, h1, h2, h3⟩ := st
        exact ih i (s m hm.in l h1 _ (List.mem_filter.mpr ⟨h2, decide_eq_true h3⟩) i hb)
    exact key y r i (h.own y hy i hi)
def pos (us : Uses) (n : Str) : Nat := (names us).findIdx fun m => decide (m = n)
theorem pos_at {us : Uses} (nd : (names us).Nodup) {i : Nat} {n : Str} (h : (names us)[i]? = some n) : pos us n = i := by
  unfold pos
  obtain ⟨hl, e⟩ := List.getElem?_eq_some_iff.mp h
  rw [List.findIdx_eq hl]
  refine ⟨by simp [e], fun j hj => ?_⟩
  have := List.pairwise_iff_getElem.mp nd j i (by omega) hl hj
  rw [e] at this
  simpa using this
theorem names_len (us : Uses) : (names us).length = us.length := by simp [names]
theorem mask0 {us : Uses} (nd : (names us).Nodup) : MaskIn us fun n => 2 ^ pos us n := by
  have at_ : ∀ x ∈ names us, ∃ i, (names us)[i]? = some x ∧ pos us x = i ∧ i < us.length := fun x hx => by
    obtain ⟨i, hi⟩ := List.mem_iff_getElem?.mp hx
    exact ⟨i, hi, pos_at nd hi, by rw [← names_len]; exact (List.getElem?_eq_some_iff.mp hi).1⟩
  refine ⟨fun x hx => ?_, fun x hx i hi => ?_, fun x hx i hb => ?_⟩
  · obtain ⟨i, _, e, hl⟩ := at_ x hx
    show 2 ^ pos us x < _
    rw [e]
    exact Nat.pow_lt_pow_right (by decide) hl
  · show (2 ^ pos us x).testBit i = true
    rw [pos_at nd hi, Nat.testBit_two_pow]
    simp
  · have hb : (2 ^ pos us x).testBit i = true := hb
    rw [Nat.testBit_two_pow] at hb
    obtain ⟨j, hj, e, hl⟩ := at_ x hx
    have : j = i := by rw [← e]; exact of_decide_eq_true hb
    subst this
    exact ⟨x, hj, .inl rfl⟩
def orAll (mk : Str → Nat) (x : Str) (l : List Str) : Nat := l.foldl (fun f u => f ||| mk u) (mk x)
theorem orAll_snoc (mk : Str → Nat) (x : Str) (l : List Str) (u : Str) : orAll mk x (l ++ [u]) = orAll mk x l ||| mk u := by simp [orAll]
theorem orAll_bit (mk : Str → Nat) (x : Str) (i : Nat) : ∀ l : List Str, (orAll mk x l).testBit i = true ↔ (mk x).testBit i = true ∨ ∃ u ∈ l, (mk u).testBit i = true := by
  intro l
  refine snocInd ?_ ?_ l
  · simp [orAll]
  · intro l u ih
    rw [orAll_snoc, Nat.testBit_or, Bool.or_eq_true, ih]
    constructor
    · rintro ((h | ⟨v, hv, h⟩) | h)
      · exact .inl h
      · exact .inr ⟨v, List.mem_append_left _ hv, h⟩
      · exact .inr ⟨u, by simp, h⟩
    · rintro (h | ⟨v, hv, h⟩)
      · exact .inl (.inl h)
      · rcases List.mem_append.mp hv with z | z
        · exact .inl (.inr ⟨v, z, h⟩)
        · rw [List.mem_singleton.mp z] at h
          exact .inr h
theorem orAll_lt {us : Uses} {mk : Str → Nat} (h : MaskIn us mk) {x : Str} (hx : x ∈ names us) : ∀ l : List Str, (∀ u ∈ l, u ∈ names us) → orAll mk x l < 2 ^ us.length := by
  intro l
  refine snocInd ?_ ?_ l
  · exact fun _ => h.low x hx
  · intro l u ih hl
    rw [orAll_snoc]
    exact Nat.or_lt_two_pow (ih fun v hv => hl v (List.mem_append_left _ hv)) (h.low u (hl u (by simp)))
theorem orAll_ge (mk : Str → Nat) (x : Str) : ∀ l : List Str, mk x ≤ orAll mk x l := by
  intro l
  refine snocInd ?_ ?_ l
  · exact Nat.le_refl _
  · intro l u ih
    rw [orAll_snoc]
    exact Nat.le_trans ih Nat.left_le_or
def setM (mk : Str → Nat) (x : Str) (v : Nat) : Str → Nat := fun n => if n = x then v else mk n
theorem setM_in {us : Uses} {mk : Str → Nat} (h : MaskIn us mk) {x : Str} (hx : x ∈ names us) {l : List Str} (hl : look us x = some l) : MaskIn us (setM mk x (orAll mk x (known us l))) := by
  have hk : ∀ u ∈ known us l, Step us x u := fun u hu => by
    obtain ⟨h1, h2⟩ := List.mem_filter.mp hu
    exact ⟨l, hl, h1, of_decide_eq_true h2⟩
  have hkn : ∀ u ∈ known us l, u ∈ names us := fun u hu => by
    obtain ⟨_, _, _, q⟩ := hk u hu
    exact q
  refine ⟨fun y hy => ?_, fun y hy i hi => ?_, fun y hy i hb => ?_⟩
  · unfold setM
    split
    · exact orAll_lt h hx _ hkn
    · exact h.low y hy
  · unfold setM
    split
    · rename_i e
      subst e
      exact (orAll_bit mk y i _).mpr (.inl (h.own y hy i hi))
    · exact h.own y hy i hi
  · unfold setM at hb
    split at hb
    · rename_i e
      subst e
      rcases (orAll_bit mk y i _).mp hb with z | ⟨u, hu, z⟩
      · exact h.sound y hy i z
      · obtain ⟨w, h1, h2⟩ := h.sound u (hkn u hu) i z
        exact ⟨w, h1, Rf.trans (.inr (.one (hk u hu))) h2⟩
    · exact h.sound y hy i hb
def total (us : Uses) (mk : Str → Nat) : Nat := ((names us).map mk).sum
theorem sum_set (x : Str) (v : Nat) (mk : Str → Nat) : ∀ l : List Str, mk x ≤ v → (l.map mk).sum ≤ (l.map (setM mk x v)).sum ∧ (x ∈ l → mk x < v → (l.map mk).sum < (l.map (setM mk x v)).sum)
  | [], _ => ⟨Nat.le_refl _, fun h => nomatch h⟩
  | y :: l, h => by
    obtain ⟨h1, h2⟩ := sum_set x v mk l h
    simp only [List.map_cons, List.sum_cons]
    have hy : mk y ≤ setM mk x v y := by
      unfold setM
      split
      · rename_i e; rw [e]; exact h
      · exact Nat.le_refl _
    refine ⟨by omega, fun hm hlt => ?_⟩
    rcases List.mem_cons.mp hm with e | hm
    · have : mk y < setM mk x v y := by
        unfold setM
        rw [if_pos e.symm, ← e]
        exact hlt
      omega
    · have := h2 hm hlt
      omega
theorem total_le {us : Uses} {mk : Str → Nat} (h : MaskIn us mk) : total us mk ≤ us.length * 2 ^ us.length := by
  have key : ∀ l : List Str, (∀ x ∈ l, x ∈ names us) → (l.map mk).sum ≤ l.length * 2 ^ us.length := by
    intro l
    induction l with
    | nil => intro _; simp
    | cons x l ih =>
      intro hl
      have h1 := ih fun y hy => hl y (List.mem_cons_of_mem _ hy)
      have h2 := h.low x (hl x (List.mem_cons_self ..))
      simp only [List.map_cons, List.sum_cons, List.length_cons, Nat.add_mul, Nat.one_mul]
      omega
  have := key (names us) fun _ h => h
  rw [names_len] at this
  exact this
theorem maskK_val {us : Uses} {mk : Str → Nat} {x : Str} (hx : x ∈ names us) : valV (maskK us mk) (.inr x) = some (.int (mk x : Int)) := by
  unfold maskK
  generalize names us = l at hx ⊢
  induction l with
  | nil => cases hx
  | cons y l ih =>
    by_cases e : y = x
    · subst e
      exact valV_pos rfl
    · rw [List.map_cons, valV_neg (fun z => e (Sum.inr.inj z))]
      exact ih ((List.mem_cons.mp hx).resolve_left fun z => e z.symm)
theorem maskK_put {us : Uses} {mk : Str → Nat} {x : Str} {v : Nat} (hx : x ∈ names us) : putK (maskK us mk) (.inr x) (.int (v : Int)) = maskK us (setM mk x v) := by
  unfold putK maskK
  have ha : (((names us).map fun n => ((Sum.inr n : Key), V.int (mk n : Int))).any fun kv => decide (kv.1 = Sum.inr x)) = true := List.any_eq_true.mpr ⟨_, List.mem_map.mpr ⟨x, hx, rfl⟩, decide_eq_true rfl⟩
  rw [if_pos ha, List.map_map]
  apply List.map_congr_left
  intro y _
  show (if ((Sum.inr y : Key)) = .inr x then ((Sum.inr y : Key), V.int (v : Int)) else (Sum.inr y, V.int (mk y : Int))) = _
  unfold setM
  by_cases e : y = x
  · subst e
    rw [if_pos rfl, if_pos rfl]
  · rw [if_neg (fun z => e (Sum.inr.inj z)), if_neg e]
end Q08
namespace Q08
open PySem PySem.Spec PyProof.Rows L2 SX HL
section
variable {P : Program} {w : World} {K : PySem.W.Frag} {mg : Str → Option Value} {base : Heap}
/-! ### reached_names -/
def spMasks : Sp := fun vs H Q _ => ∃ (d : Addr) (us : Uses) (kvs : List (Key × V)), vs = [.ref d] ∧ H d = some (.dK kvs) ∧ Us H kvs us ∧ Few us ∧
  ∀ D H' (mk : Str → Nat), Same H H' → H D = none → H' D = some (.dK (maskK us mk)) → MaskOf us mk → Q (.ref D) H'
theorem ok_masks {f fO fK : Addr} {fd fdO fdK : FuncData} {k : Nat} (D : DefN K mg "reached_names" sReachedNames ["uses"] f fd) (T : Txt mg) (DUsedFirst : DefN K mg "used_first" sUsedFirst ["uses"] fO fdO) (DKnownUses : DefN K mg "known_uses" sKnownUses ["uses", "name"] fK fdK) : FnOk P w K mg base CX0 (k + 3) f fd ["uses"] spMasks := by
  have GKnownUses : FnOk P w K mg base CX0 (k + 2) fK fdK ["uses", "name"] spKnown := ok_known DKnownUses T
  have GUsedFirst : FnOk P w K mg base CX0 (k + 2) fO fdO ["uses"] spOrder := ok_order DUsedFirst T DKnownUses
  refine D.F.ok scReachedNames (fun vs H Q E h => ?_) (fun cdv A outer s H vs Q E hr h => ?_)
  · obtain ⟨d, us, kvs, rfl, _⟩ := h
    rfl
  · obtain ⟨d, us, kvs, rfl, hd, hU, hF, qq⟩ := h
    refine ⟨_, (pss_cons (ps_lock (HE.ps_setDc (i := 1) (own := [("place", 7), ("name", 4)]) (g := (gTup K 2 (gCons (gName 7) (gCons (gName 4) gNil)))) (by rfl) scReachedNames.nd rfl rfl (HE.swd_true rfl rfl rfl (by decide +kernel)) (HE.pi_enumK (by rfl) T.enumerate (pa_cons (pv 0) pa_nil)) (blkOk_by (own := [("place", 7), ("name", 4)]) (N := ["uses", "reached", "order", "growing", "name", "found", "used", "place"]) (sc := defScope sReachedNames) (by decide +kernel)) (fun _ _ _ _ _ => (pg_tup rfl (pgs_cons (pg_name (i := 7) scReachedNames.nd rfl (.inl rfl)) (pgs_cons (pg_name (i := 4) scReachedNames.nd rfl (.inl rfl)) pgs_nil)))) (fun _ _ _ _ _ => pts_nil) (fun _ _ _ _ _ => (pv 4)) (fun _ _ _ _ _ => (pe_op op_shl pe_int (pv 7)))))
        (pss_cons (ps_set (i := 2) scReachedNames.nd rfl (.inl rfl) (pe_call GUsedFirst (hr.mono (by omega)) (by rfl) DUsedFirst.g DUsedFirst.F.kp DUsedFirst.b .nil pass0 (pa_cons (pv 0) pa_nil)))
        (pss_cons (ps_set (i := 3) scReachedNames.nd rfl (.inl rfl) pe_bl)
        (pss_cons (ps_while PassesOwn.never (pt_val (pv 3)) (pss_cons (ps_set (i := 3) scReachedNames.nd rfl (.inl rfl) pe_bl)
        (pss_one (ps_for PassesOwn.never rfl (pi_list (pv 2)) (pg_name (i := 4) scReachedNames.nd rfl (.inl rfl)) (pss_cons (ps_set (i := 5) scReachedNames.nd rfl (.inl rfl) (pe_dget (hu_of hr) (pv 1) (pv 4) (fun _ _ => rfl)))
        (pss_cons (ps_for PassesOwn.never rfl (pi_list (pe_call GKnownUses (hr.mono (by omega)) (by rfl) DKnownUses.g DKnownUses.F.kp DKnownUses.b .nil pass0 (pa_cons (pv 0) (pa_cons (pv 4) pa_nil)))) (pg_name (i := 6) scReachedNames.nd rfl (.inl rfl)) (pss_one (ps_set (i := 5) scReachedNames.nd rfl (.inl rfl) (pe_op op_or (pv 5) (pe_dget (hu_of hr) (pv 1) (pv 6) (fun _ _ => rfl))))))
        (pss_one (ps_if (pt_cmpR op_ne (pv 5) (pe_dget (hu_of hr) (pv 1) (pv 4) (fun _ _ => rfl)) (nomark _)) (pss_cons (ps_dput (hu_of hr) (pv 1) (pv 4) (pv 5) rfl)
        (pss_one (ps_set (i := 3) scReachedNames.nd rfl (.inl rfl) pe_bl))) pss_nil))))))))
        (pss_one (ps_ret (pv 1))))))), ?_⟩
    have nd := hF.1
    have hlen : kvs.length = us.length := hU.len
    have h100 := hF.2.1
    have hnl := names_len us
    refine ⟨d, _, hd, True.intro, fun od => ⟨_, rfl, d, od, kvs, rfl, upd_same, fun R hR => ?_⟩⟩
    have nRd : R ≠ d := fun e => by rw [e, upd_same] at hR; cases hR
    have hR0 : H R = none := by rw [upd_ne nRd] at hR; exact hR
    refine HE.dc_it HE.walk_enumK (fun i H' => (∀ b o, b ≠ d → H b = some o → H' b = some o) ∧ H' d = some (.frz od (.dK kvs)) ∧ H' R = some (.dK (((names us).take i).map fun n => ((Sum.inr n : Key), V.int ((2 ^ pos us n : Nat) : Int)))))
      ⟨fun b o nb hb => by rw [upd_ne (ne_of_none hb hR0), upd_ne nb]; exact hb, by rw [upd_ne (Ne.symm nRd), upd_same], by rw [upd_same]; rfl⟩ (fun i H' _ p => p.2.1) ?_ ?_
    · rintro i x H' H'' hi ⟨k1, k2, k3⟩ ⟨Tp, x1, x2, rfl, hT, rfl, e1, e2⟩
      obtain rfl : V.int (i : Nat) = x1 := Option.some.inj e1
      obtain ⟨⟨kk, kv⟩, hkv, rfl⟩ := Option.map_eq_some_iff.mp e2
      obtain ⟨n, l, a, hus, rfl, rfl, ha⟩ := hU.at hkv
      have hn : (names us)[i]? = some n := by simp [names, hus]
      have nTR : Tp ≠ R := fun e => by rw [e, k3] at hT; cases hT
      have nTd : Tp ≠ d := fun e => by rw [e, k2] at hT; cases hT
      have hi100 : i < 100 := by omega
      have hnew : ∀ b o, H b = some o → b ≠ Tp := fun b o hb e => by
        by_cases nb : b = d
        · exact nTd (by rw [← e, nb])
        · rw [← e, k1 b o nb hb] at hT
          cases hT
      refine ⟨Tp, _, rfl, SqT.of upd_same, rfl, _, _, rfl, _, _, rfl, rfl, ⟨rfl, lc_yes ⟨_, rfl, _, rfl, 1, (i : Nat), rfl, rfl, ⟨by omega, by omega, by decide⟩, _, .inr n, rfl, by rw [upd_ne (Ne.symm nTR)]; exact k3, ?_, fun b o nb hb => ?_, ?_, ?_⟩⟩⟩
      · rw [List.length_map, List.length_take]
        exact Nat.lt_of_le_of_lt (show _ ≤ 100 by omega) (by decide)
      · rw [upd_ne (ne_of_none hb hR0), upd_ne (hnew b o hb)]
        exact k1 b o nb hb
      · rw [upd_ne (Ne.symm nRd), upd_ne (Ne.symm nTd)]
        exact k2
      · rw [upd_same, List.take_add_one, hn]
        have e3 : ((1 : Int) * 2 ^ ((i : Nat) : Int).toNat) = ((2 ^ pos us n : Nat) : Int) := by
          rw [pos_at nd hn, Int.one_mul, Int.toNat_natCast]
          simp
        have hnot : ¬ (((names us).take i).map fun n => ((Sum.inr n : Key), V.int ((2 ^ pos us n : Nat) : Int))).any (fun kv => decide (kv.1 = Sum.inr n)) = true := fun z => by
          obtain ⟨x, hx, e⟩ := List.any_eq_true.mp z
          obtain ⟨m, hm, rfl⟩ := List.mem_map.mp hx
          have := Sum.inr.inj (of_decide_eq_true e)
          subst this
          exact new_of_take nd hus hm
        unfold putK
        rw [if_neg hnot]
        show some (HO.dK (_ ++ [((Sum.inr n : Key), V.int ((1 : Int) * 2 ^ ((i : Nat) : Int).toNat))])) = _
        rw [e3]
        simp
    · rintro H1 ⟨k1, k2, k3⟩
      rw [hlen, ← hnl, List.take_length] at k3
      have kmask : (upd H1 d (.dK kvs)) R = some (.dK (maskK us fun n => 2 ^ pos us n)) := by rw [upd_ne nRd]; exact k3
      have keep1 : ∀ b o, H b = some o → (upd H1 d (.dK kvs)) b = some o := fun b o hb => by
        by_cases nb : b = d
        · rw [nb, upd_same, ← hd, ← nb]
          exact hb
        · rw [upd_ne nb]
          exact k1 b o nb hb
      refine ⟨k2, _, rfl, d, us, kvs, rfl, keep1 _ _ hd, hU.keep (fun a o ha _ => keep1 a o ha), hF, fun O H2 ord sm hO hord hmem hol => ?_⟩
      have kR2 : H2 R = some (.dK (maskK us fun n => 2 ^ pos us n)) := sm _ _ kmask
      have keep2 : ∀ b o, H b = some o → H2 b = some o := fun b o hb => sm _ _ (keep1 b o hb)
      have nRO : O ≠ R := fun e => by rw [e, kmask] at hO; cases hO
      have hd2 : H2 d = some (.dK kvs) := keep2 _ _ hd
      have htot : ∀ mk, MaskIn us mk → total us mk ≤ us.length * 2 ^ us.length := fun mk h => total_le h
      generalize us.length * 2 ^ us.length = Bd at htot
      refine ⟨fun m σ H' => ∃ (g : Bool) (mk : Str → Nat) (y4 y5 y6 : Option V), σ = [some (.ref d), some (.ref R), some (.ref O), some (.bl g), y4, y5, y6, none] ∧ m = (if g = true then 1 + (Bd - total us mk) else 0) ∧
          KpO H2 H' R ∧ H' R = some (.dK (maskK us mk)) ∧ MaskIn us mk ∧ (g = false → ∀ x ∈ names us, ShutAt us mk x),
        ⟨_, true, _, none, none, none, rfl, rfl, fun b o nb hb => hb, kR2, mask0 nd, fun z => nomatch z⟩, ?_⟩
      rintro m σ H3 ⟨g, mk, y4, y5, y6, rfl, rfl, kp, hR3, hM, hsh⟩
      cases g with
      | false =>
        refine ⟨_, rfl, false, rfl, iteF ⟨_, rfl, qq R H3 mk (fun b o hb => kp b o (ne_of_none hb hR0) (keep2 b o hb)) hR0 hR3 (shut_all hM (hsh rfl))⟩⟩
      | true =>
        refine ⟨_, rfl, true, rfl, iteT ?_⟩
        refine ⟨fun σ' H' => ∃ (g' : Bool) (mk' : Str → Nat) (y4 y5 y6 : Option V), σ' = [some (.ref d), some (.ref R), some (.ref O), some (.bl g'), y4, y5, y6, none] ∧ (if g' = true then 1 + (Bd - total us mk') else 0) < 1 + (Bd - total us mk) ∧
          KpO H2 H' R ∧ H' R = some (.dK (maskK us mk')) ∧ MaskIn us mk' ∧ (g' = false → ∀ x ∈ names us, ShutAt us mk' x), ?_, ?_⟩
        · rintro σ' H' ⟨g', mk', y4, y5, y6, e1, e2, r⟩
          exact ⟨_, by simpa using e2, g', mk', y4, y5, y6, e1, rfl, r⟩
        have hO3 : H3 O = some (.lst (ord.map V.str)) := kp O _ nRO hord
        refine ⟨_, rfl, O, rfl, ⟨_, SqL.of hO3⟩, ?_⟩
        refine for_it (walk_list (xs := ord.map V.str)) (fun i σ H' => ∃ (g' : Bool) (mk' : Str → Nat) (y4 y5 y6 : Option V), σ = [some (.ref d), some (.ref R), some (.ref O), some (.bl g'), y4, y5, y6, none] ∧ KpO H2 H' R ∧ H' R = some (.dK (maskK us mk')) ∧ MaskIn us mk' ∧
            ((g' = false ∧ mk' = mk ∧ ∀ x ∈ ord.take i, ShutAt us mk x) ∨ (g' = true ∧ total us mk < total us mk')))
          ⟨false, mk, y4, y5, y6, rfl, kp, hR3, hM, .inl ⟨rfl, rfl, fun x hx => by simp at hx⟩⟩ (fun i σ H' _ p => ?_) ?_ ?_
        · obtain ⟨_, _, _, _, _, _, kp', _⟩ := p
          exact SqL.of (kp' O _ nRO hord)
        · rintro i xv σ H4 H5 hi ⟨g', mk', y4, y5, y6, rfl, kp4, hR4, hM4, hcase⟩ ⟨rfl, hxv⟩
          obtain ⟨x, hx, rfl⟩ := strs_at hxv
          have hxn : x ∈ names us := (hmem x).mp (List.mem_of_getElem? hx)
          have gx : DGet H5 R (.str x) (some (.int (mk' x : Int))) := by
            rw [← maskK_val hxn]
            exact DGet.k (k := .inr x) hR4
          obtain ⟨l, hl, hlu⟩ := look_some hxn
          have hl100 := hF.2.2 x l hl
          have hd5 : H5 d = some (.dK kvs) := kp4 d _ (Ne.symm nRd) hd2
          have hU5 : UsAt H5 d us := ⟨kvs, .inl hd5, hU.keep fun a o ha hs => kp4 a o (fun e => by
            rw [e] at ha
            exact absurd ha (by rw [hR0]; exact fun z => nomatch z)) (keep2 a o ha)⟩
          refine ⟨_, rfl, _, rfl, R, _, rfl, gx, _, rfl, _, rfl, d, us, x, l, rfl, hU5, hl, by omega, fun KD H6 sm6 hKD hk6 => ⟨KD, rfl, ⟨_, SqL.of hk6⟩, ?_⟩⟩
          have hR6 : H6 R = some (.dK (maskK us mk')) := sm6 _ _ hR4
          refine for_it (walk_list (xs := (known us l).map V.str)) (fun j σ H' => ∃ (y6 : Option V), σ = [some (.ref d), some (.ref R), some (.ref O), some (.bl g'), some (.str x), some (.int (orAll mk' x ((known us l).take j) : Int)), y6, none] ∧ H' = H6)
            ⟨_, rfl, rfl⟩ (fun j σ H' _ p => ?_) ?_ ?_
          · obtain ⟨_, _, rfl⟩ := p
            exact SqL.of hk6
          · rintro j uv σ H7 H8 hj ⟨y6, rfl, rfl⟩ ⟨rfl, huv⟩
            obtain ⟨u, hu, rfl⟩ := strs_at huv
            have hun : u ∈ names us := of_decide_eq_true (List.mem_filter.mp (List.mem_of_getElem? hu)).2
            have gu : DGet H8 R (.str u) (some (.int (mk' u : Int))) := by
              rw [← maskK_val hun]
              exact DGet.k (k := .inr u) hR6
            refine ⟨_, rfl, _, rfl, _, rfl, R, _, rfl, gu, _, _, rfl, rfl, some (.str u), ?_, rfl⟩
            rw [take_more hu, orAll_snoc]
            have e := bitOr_nn (x := (orAll mk' x ((known us l).take j) : Int)) (y := (mk' u : Int)) (by omega) (by omega)
            rw [Int.toNat_natCast, Int.toNat_natCast] at e
            rw [← e]
            rfl
          · rintro σ H7 ⟨y6, rfl, rfl⟩
            rw [List.length_map, List.take_length]
            have gx7 : DGet H7 R (.str x) (some (.int (mk' x : Int))) := by
              rw [← maskK_val hxn]
              exact DGet.k (k := .inr x) hR6
            have kp7 : KpO H2 H7 R := kp4.same sm6
            have hge := orAll_ge mk' x (known us l)
            refine ⟨_, rfl, _, rfl, _, rfl, R, _, rfl, gx7, rfl, !decide (orAll mk' x (known us l) = mk' x), ?_, ?_⟩
            · show V.bl (!decide (V.int _ = V.int _)) = _
              rw [dec_int]
              congr 2
              rw [Bool.eq_iff_iff]
              simp
              omega
            by_cases he : orAll mk' x (known us l) = mk' x
            · rw [decide_eq_true he]
              refine iteF ⟨g', mk', _, _, _, rfl, kp7, hR6, hM4, ?_⟩
              rcases hcase with ⟨h1, h2, h3⟩ | h
              · refine .inl ⟨h1, h2, fun z hz => ?_⟩
                rw [take_more hx] at hz
                rcases List.mem_append.mp hz with q | q
                · exact h3 z q
                · rw [List.mem_singleton.mp q]
                  subst h2
                  intro l2 hl2 u hu b hb
                  rw [hl] at hl2
                  cases hl2
                  rw [← he]
                  exact (orAll_bit mk' x b _).mpr (.inr ⟨u, hu, hb⟩)
              · exact .inr h
            · rw [decide_eq_false he]
              refine iteT ⟨_, rfl, _, rfl, _, rfl, R, _, rfl, DPut.k (k := .inr x) hR6 ?_, true, setM mk' x (orAll mk' x (known us l)), _, _, _, rfl, fun b o nb hb => ?_, ?_, setM_in hM4 hxn hl, .inr ⟨rfl, ?_⟩⟩
              · unfold maskK
                rw [List.length_map, hnl]
                exact Nat.lt_of_le_of_lt h100 (by decide)
              · rw [upd_ne nb]
                exact kp7 b o nb hb
              · rw [upd_same]
                exact congrArg (fun z => some (HO.dK z)) (maskK_put hxn)
              · obtain ⟨s1, s2⟩ := sum_set x (orAll mk' x (known us l)) mk' (names us) hge
                have s3 := s2 hxn (by omega)
                have s4 : total us mk ≤ total us mk' := by
                  rcases hcase with ⟨_, h2, _⟩ | ⟨_, h2⟩
                  · rw [h2]; exact Nat.le_refl _
                  · omega
                exact Nat.lt_of_le_of_lt s4 s3
        · rintro σ H4 ⟨g', mk', y4, y5, y6, rfl, kp4, hR4, hM4, hcase⟩
          rw [List.length_map, List.take_length] at hcase
          refine ⟨g', mk', y4, y5, y6, rfl, ?_, kp4, hR4, hM4, fun hg x hx => ?_⟩
          · rcases hcase with ⟨h1, _, _⟩ | ⟨h1, h2⟩
            · rw [h1, if_neg (by decide)]
              omega
            · rw [h1, if_pos rfl]
              have := htot mk' hM4
              omega
          · rcases hcase with ⟨_, h2, h3⟩ | ⟨h1, _⟩
            · rw [h2]
              exact h3 x ((hmem x).mpr hx)
            · rw [hg] at h1
              cases h1
end
end Q08
namespace Q08
open PySem PySem.Spec PyProof.Rows L2 SX HL
theorem sorted_nlt {ys : List Str} (nd : ys.Nodup) (hs : sortedS ys = true) : ys.Pairwise nlt := by
  have key : ∀ (l : List Str) (x : Str), risingS x l = true → (∀ y ∈ l, ¬ nlt y x) ∧ l.Pairwise (fun a b => ¬ nlt b a) := by
    intro l
    induction l with
    | nil => exact fun x _ => ⟨fun _ h => by (cases h), List.Pairwise.nil⟩
    | cons y l ih =>
      intro x h
      have h' : (!ltCps y.cps.toList x.cps.toList && risingS y l) = true := h
      rw [Bool.and_eq_true, ltCps_eq, Bool.not_eq_true', decide_eq_false_iff_not] at h'
      obtain ⟨g1, g2⟩ := ih y h'.2
      refine ⟨fun z hz => ?_, List.pairwise_cons.mpr ⟨g1, g2⟩⟩
      rcases List.mem_cons.mp hz with rfl | hz
      · exact h'.1
      · have a1 : y.cps.toList ≤ z.cps.toList := List.not_lt.mp (g1 z hz)
        have a2 : x.cps.toList ≤ y.cps.toList := List.not_lt.mp h'.1
        exact List.not_lt.mpr (List.le_trans a2 a1)
  have hw : ys.Pairwise (fun a b => ¬ nlt b a) := by
    cases ys with
    | nil => exact List.Pairwise.nil
    | cons x l =>
      obtain ⟨g1, g2⟩ := key l x hs
      exact List.pairwise_cons.mpr ⟨g1, g2⟩
  refine List.Pairwise.imp ?_ (List.Pairwise.and hw nd)
  rintro a b ⟨h1, h2⟩
  by_cases h : a.cps.toList < b.cps.toList
  · exact h
  · have e : a.cps.toList = b.cps.toList := List.le_antisymm (List.not_lt.mp h1) (List.not_lt.mp h)
    exact absurd (show a = b by cases a; cases b; simpa using e) h2
theorem nlt_total {a b : Str} (h : ¬ nlt b a) (ne : a ≠ b) : nlt a b := by
  by_cases q : a.cps.toList < b.cps.toList
  · exact q
  · have e : a.cps.toList = b.cps.toList := List.le_antisymm (List.not_lt.mp h) (List.not_lt.mp q)
    exact absurd (show a = b by cases a; cases b; simpa using e) ne
/-- the key of a part -/
def keyD (n : Nat) (x : Str) : PyData := .tuple [.int (n : Int), .str x]
theorem keyD_alike (n m : Nat) (x y : Str) : PySem.W.alike (keyD n x) (keyD m y) = true := by
  simp [keyD, PySem.W.alike, PySem.W.alikeAll]
theorem keyD_le {n m : Nat} {x y : Str} (h : PySem.W.dataLe false (Prod.snd (α := V)) (a, keyD n x) (b, keyD m y) = true) : n < m ∨ (n = m ∧ ¬ nlt y x) := by
  unfold PySem.W.dataLe PySem.W.sortLe at h
  simp [keyD, PySem.W.keyToks, PySem.W.keyToksAll] at h
  rw [PyProof.Rows.lex_cons, PyProof.Rows.lex_cons, PyProof.Rows.lex_cons, PyProof.Rows.lex_cons] at h
  have e1 : itemOrd.blt (Sum.inl (1 : Int)) (Sum.inl (1 : Int)) = false := by decide
  have e2 : ∀ a b : Int, itemOrd.blt (Sum.inl a) (Sum.inl b) = decide (a < b) := fun _ _ => rfl
  have e3 : ∀ a b : List Nat, itemOrd.blt (Sum.inr a) (Sum.inr b) = decide (a < b) := fun _ _ => rfl
  rw [e1, e2, e2, e3, e3] at h
  simp only [Bool.not_false, Bool.true_and, Bool.false_or, Bool.or_eq_false_iff, Bool.and_eq_false_iff, Bool.not_eq_false', decide_eq_true_eq, decide_eq_false_iff_not] at h
  obtain ⟨h1, h2⟩ := h
  rcases h2 with h2 | ⟨h2, _⟩
  · left
    omega
  · by_cases q : n = m
    · exact .inr ⟨q, h2⟩
    · left
      omega
def part (S : List Str) (mk : Str → Nat) (m : Nat) : List Str := S.filter fun n => decide (mk n = m)
def first (S : List Str) (mk : Str → Nat) (m : Nat) : Str := (part S mk m).headD (Str.ofString "")
section
variable {us : Uses} {mk : Str → Nat} {S : List Str}
theorem mask_bit (h : MaskOf us mk) (nd : (names us).Nodup) {x : Str} (hx : x ∈ names us) {i : Nat} {y : Str} (hi : (names us)[i]? = some y) : (mk x).testBit i = true ↔ Rf us x y := by
  constructor
  · intro hb
    obtain ⟨z, hz, r⟩ := h.1.sound x hx i hb
    rw [hi] at hz
    cases hz
    exact r
  · exact h.2 x hx y i hi
theorem mask_eq (h : MaskOf us mk) (nd : (names us).Nodup) {x y : Str} (hx : x ∈ names us) (hy : y ∈ names us) : mk x = mk y ↔ Mut2 us x y := by
  obtain ⟨i, hi⟩ := List.mem_iff_getElem?.mp hx
  obtain ⟨j, hj⟩ := List.mem_iff_getElem?.mp hy
  constructor
  · intro e
    refine ⟨(mask_bit h nd hx hj).mp ?_, (mask_bit h nd hy hi).mp ?_⟩
    · rw [e]
      exact h.1.own y hy j hj
    · rw [← e]
      exact h.1.own x hx i hi
  · rintro ⟨a, b⟩
    apply Nat.eq_of_testBit_eq
    intro b'
    rw [Bool.eq_iff_iff]
    constructor
    · intro hb
      obtain ⟨z, hz, r⟩ := h.1.sound x hx b' hb
      exact (mask_bit h nd hy hz).mpr (b.trans r)
    · intro hb
      obtain ⟨z, hz, r⟩ := h.1.sound y hy b' hb
      exact (mask_bit h nd hx hz).mpr (a.trans r)
theorem mask_count (h : MaskOf us mk) (nd : (names us).Nodup) : CountOf us fun x => BM.pop us.length (mk x) := by
  intro x hx l hl hm
  have hnl := names_len us
  let ix := (List.range us.length).filter fun i => (mk x).testBit i
  let f : Nat → Str := fun i => (names us)[i]?.getD (Str.ofString "")
  have at_ : ∀ i ∈ ix, ∃ y, (names us)[i]? = some y ∧ f i = y ∧ Rf us x y := fun i hi => by
    obtain ⟨h1, h2⟩ := List.mem_filter.mp hi
    have hlt : i < (names us).length := by rw [hnl]; exact List.mem_range.mp h1
    refine ⟨_, List.getElem?_eq_getElem hlt, ?_, (mask_bit h nd hx (List.getElem?_eq_getElem hlt)).mp h2⟩
    show (names us)[i]?.getD _ = _
    rw [List.getElem?_eq_getElem hlt]
    rfl
  have nd2 : (ix.map f).Nodup := by
    rw [List.nodup_iff_pairwise_ne, List.pairwise_map]
    have n0 : ix.Pairwise (· ≠ ·) := List.Pairwise.filter _ List.nodup_range
    refine List.Pairwise.imp_of_mem ?_ n0
    intro a b ha hb ne e
    obtain ⟨y, h1, h2, _⟩ := at_ a ha
    obtain ⟨z, h3, h4, _⟩ := at_ b hb
    rw [h2, h4] at e
    subst e
    exact ne ((pos_at nd h1).symm.trans (pos_at nd h3))
  have e1 : ∀ z, z ∈ ix.map f ↔ z ∈ l := fun z => by
    rw [hm z, List.mem_map]
    constructor
    · rintro ⟨i, hi, rfl⟩
      obtain ⟨y, _, h2, r⟩ := at_ i hi
      rw [h2]
      exact r
    · intro r
      have hz : z ∈ names us := by
        rcases r with rfl | r
        · exact hx
        · exact r.in
      obtain ⟨i, hi⟩ := List.mem_iff_getElem?.mp hz
      refine ⟨i, List.mem_filter.mpr ⟨List.mem_range.mpr (by rw [← hnl]; exact (List.getElem?_eq_some_iff.mp hi).1), (mask_bit h nd hx hi).mpr r⟩, ?_⟩
      show (names us)[i]?.getD _ = _
      rw [hi]
      rfl
  have l1 := nodup_len _ _ nd2 fun z hz => (e1 z).mp hz
  have l2 := nodup_len _ _ hl fun z hz => (e1 z).mpr hz
  rw [List.length_map] at l1 l2
  show ix.length = l.length
  omega
theorem part_mem {m : Nat} {x : Str} : x ∈ part S mk m ↔ x ∈ S ∧ mk x = m := by
  unfold part
  rw [List.mem_filter, decide_eq_true_eq]
theorem part_cons {m : Nat} (h : ∃ n ∈ S, mk n = m) : ∃ r, part S mk m = first S mk m :: r := by
  obtain ⟨n, hn, e⟩ := h
  have : n ∈ part S mk m := part_mem.mpr ⟨hn, e⟩
  unfold first
  cases q : part S mk m with
  | nil => rw [q] at this; cases this
  | cons a r => exact ⟨r, rfl⟩
theorem comps_of (h : MaskOf us mk) (nd : (names us).Nodup) (hS : S.Pairwise nlt) (hm : ∀ x, x ∈ S ↔ x ∈ names us) {ks : List Nat} (kn : ks.Nodup) (hk : ∀ m, m ∈ ks ↔ ∃ n ∈ S, mk n = m)
    (hp : ks.Pairwise fun a b => BM.pop us.length a < BM.pop us.length b ∨ (BM.pop us.length a = BM.pop us.length b ∧ ¬ nlt (first S mk b) (first S mk a))) : Comps us (fun x => BM.pop us.length (mk x)) (ks.map (part S mk)) := by
  refine ⟨fun p hp => ?_, fun p hp => ?_, fun p hp x hx => ?_, fun p hp x hx y hy => ?_, fun x hx => ?_, ?_⟩
  · obtain ⟨m, hm', rfl⟩ := List.mem_map.mp hp
    obtain ⟨r, e⟩ := part_cons ((hk m).mp hm')
    rw [e]
    exact fun z => nomatch z
  · obtain ⟨m, hm', rfl⟩ := List.mem_map.mp hp
    exact hS.filter _
  · obtain ⟨m, hm', rfl⟩ := List.mem_map.mp hp
    exact (hm x).mp (part_mem.mp hx).1
  · obtain ⟨m, hm', rfl⟩ := List.mem_map.mp hp
    obtain ⟨h1, h2⟩ := part_mem.mp hx
    rw [part_mem]
    have hxn := (hm x).mp h1
    constructor
    · rintro ⟨_, e⟩
      exact (mask_eq h nd hxn hy).mp (h2.trans e.symm)
    · intro q
      exact ⟨(hm y).mpr hy, ((mask_eq h nd hxn hy).mpr q).symm.trans h2⟩
  · exact ⟨part S mk (mk x), List.mem_map.mpr ⟨mk x, (hk _).mpr ⟨x, (hm x).mpr hx, rfl⟩, rfl⟩, part_mem.mpr ⟨(hm x).mpr hx, rfl⟩⟩
  · rw [List.pairwise_map]
    refine List.Pairwise.imp_of_mem ?_ (List.Pairwise.and hp kn)
    rintro a b ha hb ⟨q, ne⟩ x y hx hy
    obtain ⟨ra, ea⟩ := part_cons ((hk a).mp ha)
    obtain ⟨rb, eb⟩ := part_cons ((hk b).mp hb)
    have mx : mk x = a := (part_mem.mp (List.mem_of_mem_head? hx)).2
    have my : mk y = b := (part_mem.mp (List.mem_of_mem_head? hy)).2
    rw [ea] at hx
    rw [eb] at hy
    have e1 : first S mk a = x := Option.some.inj hx
    have e2 : first S mk b = y := Option.some.inj hy
    show BM.pop us.length (mk x) < BM.pop us.length (mk y) ∨ _
    rw [mx, my]
    rcases q with q | ⟨q1, q2⟩
    · exact .inl q
    · refine .inr ⟨q1, nlt_total (by rw [← e1, ← e2]; exact q2) fun e => ne ?_⟩
      rw [← mx, ← my, e]
end
theorem zip_f (key : Nat → PyData) : ∀ (ks : List Nat) (ts : List Addr), (ks.zip ts).map (fun z => (V.ref z.2, key z.1)) = (ts.map V.ref).zip (ks.map key)
  | [], ts => by cases ts <;> rfl
  | k :: ks, [] => rfl
  | k :: ks, t :: ts => congrArg (_ :: ·) (zip_f key ks ts)
theorem byKey_zip (ks : List Nat) (ts : List Addr) (key : Nat → PyData) : ∃ zs : List (Nat × Addr), zs.Perm (ks.zip ts) ∧ HS.byKey (ts.map V.ref) (ks.map key) = zs.map (fun z => V.ref z.2) ∧
    zs.Pairwise fun a b => PySem.W.dataLe false (Prod.snd (α := V)) (V.ref a.2, key a.1) (V.ref b.2, key b.1) = true := by
  refine ⟨(ks.zip ts).mergeSort (PySem.W.sortLe (PyProof.Rows.listOrd PyProof.Rows.itemOrd) false fun z : Nat × Addr => PySem.W.keyToks (key z.1)), List.mergeSort_perm _ _, ?_, ?_⟩
  · unfold HS.byKey
    rw [← zip_f, ← PySem.W.sort_maps (r := PySem.W.sortLe (PyProof.Rows.listOrd PyProof.Rows.itemOrd) false fun z : Nat × Addr => PySem.W.keyToks (key z.1)) (fun z : Nat × Addr => (V.ref z.2, key z.1)) (fun _ _ _ _ => rfl), List.map_map]
    rfl
  · exact PySem.W.sort_pairwise (PySem.W.sortLe_total _ _ _) _
theorem nodup_lenN : ∀ (l m : List Nat), l.Nodup → (∀ x ∈ l, x ∈ m) → l.length ≤ m.length
  | [], m, _, _ => Nat.zero_le _
  | x :: l, m, nd, h => by
    have hx := h x (List.mem_cons_self ..)
    have nd' := List.nodup_cons.mp nd
    have := nodup_lenN l (m.erase x) nd'.2 fun y hy => (List.mem_erase_of_ne (fun e => nd'.1 (by rw [← e]; exact hy))).mpr (h y (List.mem_cons_of_mem _ hy))
    rw [List.length_erase_of_mem hx] at this
    have : 0 < m.length := List.length_pos_of_mem hx
    simp only [List.length_cons]
    omega
def grpK (ks : List Nat) (ad : Nat → Addr) : List (Key × V) := ks.map fun (m : Nat) => ((Sum.inl (m : Int) : Key), V.ref (ad m))
theorem grpK_val {ks : List Nat} {ad : Nat → Addr} {m : Nat} (h : m ∈ ks) : valV (grpK ks ad) (.inl (m : Int)) = some (.ref (ad m)) := by
  unfold grpK
  induction ks with
  | nil => cases h
  | cons a ks ih =>
    by_cases e : a = m
    · subst e
      exact valV_pos rfl
    · rw [List.map_cons, valV_neg (fun z => e (by have := Sum.inl.inj z; omega))]
      exact ih ((List.mem_cons.mp h).resolve_left fun z => e z.symm)
theorem grpK_none {ks : List Nat} {ad : Nat → Addr} {m : Nat} (h : m ∉ ks) : valV (grpK ks ad) (.inl (m : Int)) = none := by
  unfold grpK
  induction ks with
  | nil => rfl
  | cons a ks ih =>
    rw [List.map_cons, valV_neg (fun z => h (by have : (a : Int) = m := Sum.inl.inj z; have : a = m := by omega
                                                rw [this]; exact List.mem_cons_self ..))]
    exact ih fun z => h (List.mem_cons_of_mem _ z)
theorem grpK_put {ks : List Nat} {ad : Nat → Addr} {m : Nat} {L : Addr} (h : m ∉ ks) : putK (grpK ks ad) (.inl (m : Int)) (.ref L) = grpK (ks ++ [m]) (fun z => if z = m then L else ad z) := by
  unfold putK grpK
  have ha : ¬ ((ks.map fun (m : Nat) => ((Sum.inl (m : Int) : Key), V.ref (ad m))).any fun kv => decide (kv.1 = Sum.inl (m : Int))) = true := fun z => by
    obtain ⟨q, hq, e⟩ := List.any_eq_true.mp z
    obtain ⟨a, ha, rfl⟩ := List.mem_map.mp hq
    have : (a : Int) = m := Sum.inl.inj (of_decide_eq_true e)
    have : a = m := by omega
    subst this
    exact h ha
  rw [if_neg ha, List.map_append]
  congr 1
  · apply List.map_congr_left
    intro a ha'
    have hne : a ≠ m := fun e => h (by rw [← e]; exact ha')
    show ((Sum.inl (a : Int) : Key), V.ref (ad a)) = (Sum.inl (a : Int), V.ref (if a = m then L else ad a))
    rw [if_neg hne]
  · simp
end Q08
namespace Q08
open PySem PySem.Spec PyProof.Rows L2 SX HL
section
variable {P : Program} {w : World} {K : PySem.W.Frag} {mg : Str → Option Value} {base : Heap}
/-! ### components -/
def TC (Pc : Addr) : Hp → Prop := LamX.Tabs [(Pc, "components.<locals>.<lambda>")]
theorem ok_comps {f fR fO fK fN c Pc : Addr} {fd fdR fdO fdK fdN : FuncData} {k : Nat} (D : HS.DefC K mg "components" sComponents ["uses"] f fd c) (T : Txt mg) (TBc : LamX.TabB base mg c Pc) (DReachedNames : DefN K mg "reached_names" sReachedNames ["uses"] fR fdR) (DUsedFirst : DefN K mg "used_first" sUsedFirst ["uses"] fO fdO)
    (DKnownUses : DefN K mg "known_uses" sKnownUses ["uses", "name"] fK fdK) (DCountOf : DefN K mg "count_of" sCountOf ["reached"] fN fdN) : FnOk P w K mg base CX0 (k + 6) f fd ["uses"] (spComps (TC Pc)) := by
  have GReachedNames : FnOk P w K mg base CX0 (k + 5) fR fdR ["uses"] spMasks := (ok_masks (k := k + 2) DReachedNames T DUsedFirst DKnownUses)
  have GCountOf : FnOk P w K mg base CX0 (0 + 1) fN fdN ["reached"] spCountOf := ok_count DCountOf T
  refine D.ok scComponents (fun vs H Q E h => ?_) (fun A outer s H vs Q E hr h => ?_)
  · obtain ⟨d, kvs, us, rfl, _⟩ := h
    rfl
  · obtain ⟨d, kvs, us, rfl, hd, hU, hdr, hT, qq⟩ := h
    refine ⟨_, (pss_cons (ps_set (i := 1) scComponents.nd rfl (.inl rfl) pe_dnewK)
        (pss_cons (ps_set (i := 2) scComponents.nd rfl (.inl rfl) (pe_call GReachedNames (hr.mono (by omega)) (by rfl) DReachedNames.g DReachedNames.F.kp DReachedNames.b .nil pass0 (pa_cons (pv 0) pa_nil)))
        (pss_cons (ps_for PassesOwn.never rfl (pi_list (pe_callB (call_sortedD (by rfl)) (by rfl) T.sorted PyProof.Rows.boot_sorted (pa_cons (pv 0) pa_nil))) (pg_name (i := 3) scComponents.nd rfl (.inl rfl)) (pss_one (ps_expr (pe_bm PySem.F.plainAttrs_list PySem.F.slot_list_append PySem.F.type_list_append mt_append (pe_dsetd (pv 1) (pe_dget (hu_of hr) (pv 2) (pv 3) (fun _ _ => rfl)) (pe_lst pa_nil) ⟨rfl, rfl, rfl, rfl⟩) (pa_cons (pv 3) pa_nil)))))
        (pss_cons (ps_set (i := 4) scComponents.nd rfl (.inl rfl) (HS.pe_sortLamI (k := 2) (y := "group") (Nl := ["group"]) (T := [(Pc, "components.<locals>.<lambda>")]) (by rfl) (by rfl) T.sorted PyProof.Rows.boot_sorted (pv 1) (fun b hb => ⟨fun z => hb (by rw [z]; exact List.mem_cons_self ..), fun z => hb (List.mem_cons_of_mem _ z)⟩) TBc rfl (List.mem_singleton.mpr rfl) (fun p hp _ => by rw [List.mem_singleton.mp hp]; rfl) (hr.mono (by omega)) ⟨rfl, rfl, rfl, by decide +kernel, rfl, by decide +kernel, by decide +kernel⟩ rfl rfl (fun _ _ _ _ _ => rfl) (fun A outer s H f c' hr => (pe_tup (pa_cons (pe_call GCountOf (hr.mono (by omega)) (by rfl) DCountOf.g DCountOf.F.kp DCountOf.b .nil pass0 (pa_cons (pe_ix (HL.ix_tupK (K := K) rfl) (pv 0) pe_int (fun _ _ => rfl)) pa_nil)) (pa_cons (pe_ix (HL.ix_listK (K := K) rfl) (pe_ix (HL.ix_tupK (K := K) rfl) (pv 0) pe_int (fun _ _ => rfl)) pe_int (fun _ _ => rfl)) pa_nil))))))
        (pss_one (ps_ret (pe_lc (own := [("_", 5), ("names", 6)]) (g := (gTup K 2 (gCons (gName 5) (gCons (gName 6) gNil)))) (by rfl) scComponents.nd (pi_list (pv 4)) (blkOk_by (own := [("_", 5), ("names", 6)]) (N := ["uses", "groups", "reached", "name", "ordered", "_", "names"]) (sc := defScope sComponents) (by decide +kernel)) (fun _ _ _ _ _ => (pg_tup rfl (pgs_cons (pg_name (i := 5) scComponents.nd rfl (.inl rfl)) (pgs_cons (pg_name (i := 6) scComponents.nd rfl (.inl rfl)) pgs_nil)))) (fun _ _ _ _ _ => pts_nil) (fun _ _ _ _ _ => (pv 6))))))))), ?_⟩
    have hF := hdr.few
    have nd := hF.1
    have h14 := hdr.2.1
    have hnl := names_len us
    have hlen : kvs.length = us.length := hU.len
    have kN : kvs.map (·.1) = (names us).map (Sum.inr : Str → Key) := by
      apply List.ext_getElem?
      intro i
      rw [List.getElem?_map, List.getElem?_map]
      cases e : kvs[i]? with
      | none =>
        have : (names us)[i]? = none := List.getElem?_eq_none (by rw [hnl, ← hlen]; exact List.getElem?_eq_none_iff.mp e)
        rw [this]
        rfl
      | some q =>
        obtain ⟨k, v⟩ := q
        obtain ⟨n, l, a, h1, rfl, rfl, _⟩ := hU.at e
        have : (names us)[i]? = some n := by simp [names, h1]
        rw [this]
        rfl
    refine fun G hG => ⟨_, rfl, d, us, kvs, rfl, same_upd hG _ _ hd, hU.keep (fun a o ha _ => same_upd hG _ _ ha), hF, fun R H1 mk sm hR hRm hmask => ?_⟩
    have nGR : G ≠ R := fun e => by rw [← e, upd_same] at hR; cases hR
    have hG1 : H1 G = some (.dK []) := sm _ _ upd_same
    have keep1 : ∀ b o, H b = some o → H1 b = some o := fun b o hb => sm _ _ (same_upd hG _ _ hb)
    refine ⟨_, rfl, d, kvs, names us, rfl, .inl (keep1 _ _ hd), kN, by omega, fun S SA hperm hsort hSA => ⟨SA, rfl, ⟨_, SqL.of upd_same⟩, ?_⟩⟩
    have hSn : S.Pairwise nlt := sorted_nlt (hperm.nodup_iff.mpr nd) hsort
    have hSm : ∀ x, x ∈ S ↔ x ∈ names us := fun x => hperm.mem_iff
    have hSl : S.length ≤ 14 := by rw [hperm.length_eq, hnl]; exact h14
    have nGS : G ≠ SA := fun e => by rw [← e, hG1] at hSA; cases hSA
    generalize hH2 : upd H1 SA (.lst (S.map V.str)) = H2
    have hS2 : H2 SA = some (.lst (S.map V.str)) := by rw [← hH2, upd_same]
    have keep2 : ∀ b o, H1 b = some o → H2 b = some o := fun b o hb => by rw [← hH2]; exact same_upd hSA b o hb
    have hG2 : H2 G = some (.dK []) := keep2 _ _ hG1
    have hR2 : H2 R = some (.dK (maskK us mk)) := keep2 _ _ hRm
    refine for_it (walk_list (xs := S.map V.str)) (fun i σ H' => ∃ (ks : List Nat) (ad : Nat → Addr) (y3 : Option V), σ = [some (.ref d), some (.ref G), some (.ref R), y3, none, none, none] ∧ KpO H2 H' G ∧
        ks.Nodup ∧ (∀ m, m ∈ ks ↔ ∃ n ∈ S.take i, mk n = m) ∧ H' G = some (.dK (grpK ks ad)) ∧ (∀ m ∈ ks, H' (ad m) = some (.lst ((part (S.take i) mk m).map V.str)) ∧ H2 (ad m) = none) ∧ (∀ m ∈ ks, ∀ m' ∈ ks, ad m = ad m' → m = m'))
      ⟨[], fun _ => 0, none, rfl, fun b o nb hb => hb, .nil, fun m => by simp, hG2, fun m h => absurd h (by simp), fun m h => absurd h (by simp)⟩ (fun i σ H' _ p => ?_) ?_ ?_
    · obtain ⟨_, _, _, _, kp, _⟩ := p
      exact SqL.of (kp SA _ (Ne.symm nGS) hS2)
    · rintro i xv σ H3 H4 hi ⟨ks, ad, y3, rfl, kp, kn, hkm, hG3, hL3, hinj⟩ ⟨rfl, hxv⟩
      obtain ⟨x, hx, rfl⟩ := strs_at hxv
      have hxn : x ∈ names us := (hSm x).mp (List.mem_of_getElem? hx)
      have hR4 : H4 R = some (.dK (maskK us mk)) := kp R _ (Ne.symm nGR) hR2
      have gx : DGet H4 R (.str x) (some (.int (mk x : Int))) := by
        rw [← maskK_val hxn]
        exact DGet.k (k := .inr x) hR4
      have hlp : ∀ m, (part (S.take i) mk m).length ≤ 14 := fun m => by
        have h1 : (part (S.take i) mk m).length ≤ (S.take i).length := List.length_filter_le ..
        rw [List.length_take] at h1
        omega
      have hgl : (grpK ks ad).length ≤ 14 := by
        unfold grpK
        rw [List.length_map]
        have h1 := nodup_lenN ks ((S.take i).map mk) kn fun m hm => by
          obtain ⟨n, hn, e⟩ := (hkm m).mp hm
          exact List.mem_map.mpr ⟨n, hn, e⟩
        rw [List.length_map, List.length_take] at h1
        omega
      have hpart : ∀ m, part (S.take (i + 1)) mk m = if mk x = m then part (S.take i) mk m ++ [x] else part (S.take i) mk m := fun m => by
        rw [take_more hx]
        unfold part
        rw [List.filter_append]
        by_cases e : mk x = m
        · rw [if_pos e, List.filter_cons, if_pos (decide_eq_true e)]
          rfl
        · rw [if_neg e, List.filter_cons, if_neg (by simpa using e)]
          simp
      have hkm2 : ∀ m, (∃ n ∈ S.take (i + 1), mk n = m) ↔ m ∈ ks ∨ m = mk x := fun m => by
        rw [take_more hx, hkm]
        constructor
        · rintro ⟨n, hn, e⟩
          rcases List.mem_append.mp hn with q | q
          · exact .inl ⟨n, q, e⟩
          · rw [List.mem_singleton.mp q] at e
            exact .inr e.symm
        · rintro (⟨n, hn, e⟩ | e)
          · exact ⟨n, List.mem_append_left _ hn, e⟩
          · exact ⟨x, by simp, e.symm⟩
      refine ⟨_, rfl, G, rfl, .inl ⟨_, .inl hG3⟩, _, rfl, _, rfl, R, _, rfl, gx, Nat.zero_le _, fun L hL => ⟨grpK ks ad, .inl (mk x : Nat), ?_, rfl, Nat.lt_of_le_of_lt hgl (by decide), fun v hv => ?_, fun hn => ?_⟩⟩
      · rw [upd_ne (ne_of_none hG3 hL)]
        exact hG3
      · by_cases hm : mk x ∈ ks
        · rw [grpK_val hm] at hv
          cases hv
          obtain ⟨hA, hA2⟩ := hL3 _ hm
          have hA' : upd H4 L (.lst []) (ad (mk x)) = some (.lst ((part (S.take i) mk (mk x)).map V.str)) := by rw [upd_ne (ne_of_none hA hL)]; exact hA
          have nGA : G ≠ ad (mk x) := fun e => by rw [← e, hG3] at hA; cases hA
          refine ⟨.inl ⟨rfl, _, SqL.of hA'⟩, _, rfl, ad (mk x), _, .str x, rfl, rfl, hA', ?_, ks, ad, _, rfl, fun b o nb hb => ?_, kn, fun m => ?_, ?_, fun m hmk => ?_, hinj⟩
          · rw [List.length_map]
            exact Nat.lt_of_le_of_lt (hlp _) (by decide)
          · rw [upd_ne (ne_of_none hb hA2), upd_ne (ne_of_none (kp b o nb hb) hL)]
            exact kp b o nb hb
          · rw [hkm2]
            exact ⟨.inl, fun q => q.elim id fun e => by rw [e]; exact hm⟩
          · rw [upd_ne nGA, upd_ne (ne_of_none hG3 hL)]
            exact hG3
          · refine ⟨?_, (hL3 m hmk).2⟩
            rw [hpart]
            by_cases e : mk x = m
            · subst e
              rw [if_pos rfl, upd_same]
              simp
            · rw [if_neg e, upd_ne (fun z => e (hinj _ hm _ hmk z.symm)), upd_ne (ne_of_none (hL3 m hmk).1 hL)]
              exact (hL3 m hmk).1
        · rw [grpK_none hm] at hv
          cases hv
      · have hm : mk x ∉ ks := fun hm => by
          rw [grpK_val hm] at hn
          cases hn
        have nLG : L ≠ G := fun e => by rw [e, hG3] at hL; cases hL
        have hL5 : upd (upd H4 L (.lst [])) G (.dK (putK (grpK ks ad) (.inl (mk x : Nat)) (.ref L))) L = some (.lst []) := by rw [upd_ne nLG, upd_same]
        have hLH : H2 L = none := by
          cases e : H2 L with
          | none => rfl
          | some o =>
            rw [kp L o nLG e] at hL
            cases hL
        refine ⟨.inl ⟨rfl, _, SqL.of hL5⟩, _, rfl, L, _, .str x, rfl, rfl, hL5, by decide, ks ++ [mk x], fun z => if z = mk x then L else ad z, _, rfl, fun b o nb hb => ?_, ?_, fun m => ?_, ?_, fun m hmk => ?_, fun m hmk m' hmk' e => ?_⟩
        · rw [upd_ne (ne_of_none (kp b o nb hb) hL), upd_ne nb, upd_ne (ne_of_none (kp b o nb hb) hL)]
          exact kp b o nb hb
        · rw [List.nodup_append]
          exact ⟨kn, by simp, fun a ha b hb e => hm (by rw [List.mem_singleton.mp hb] at e; rw [← e]; exact ha)⟩
        · rw [hkm2, List.mem_append, List.mem_singleton]
        · rw [upd_ne (Ne.symm nLG), upd_same, grpK_put hm]
        · show _ ∧ H2 (if m = mk x then L else ad m) = none
          rw [hpart]
          by_cases e : m = mk x
          · have e0 : part (S.take i) mk m = [] := by
              unfold part
              rw [List.filter_eq_nil_iff]
              intro n hn2 q
              exact hm ((hkm _).mpr ⟨n, hn2, (of_decide_eq_true q).trans e⟩)
            rw [if_pos e, if_pos e.symm, e0]
            refine ⟨?_, hLH⟩
            show upd _ L _ (if m = mk x then L else ad m) = _
            rw [if_pos e, upd_same]
            rfl
          · have hmk2 : m ∈ ks := (List.mem_append.mp hmk).resolve_right fun z => e (List.mem_singleton.mp z)
            obtain ⟨g1, g2⟩ := hL3 m hmk2
            rw [if_neg e, if_neg (fun z => e z.symm)]
            refine ⟨?_, g2⟩
            show upd _ L _ (if m = mk x then L else ad m) = _
            rw [if_neg e, upd_ne (ne_of_none g1 hL), upd_ne (fun z => by rw [z, hG3] at g1; cases g1), upd_ne (ne_of_none g1 hL)]
            exact g1
        · have in_ : ∀ m, m ∈ ks ++ [mk x] → m ≠ mk x → m ∈ ks := fun m h1 h2 => (List.mem_append.mp h1).resolve_right fun z => h2 (List.mem_singleton.mp z)
          have e : (if m = mk x then L else ad m) = (if m' = mk x then L else ad m') := e
          by_cases e1 : m = mk x
          · by_cases e2 : m' = mk x
            · rw [e1, e2]
            · rw [if_pos e1, if_neg e2] at e
              have := (hL3 m' (in_ m' hmk' e2)).1
              rw [← e, hL] at this
              cases this
          · by_cases e2 : m' = mk x
            · rw [if_neg e1, if_pos e2] at e
              have := (hL3 m (in_ m hmk e1)).1
              rw [e, hL] at this
              cases this
            · rw [if_neg e1, if_neg e2] at e
              exact hinj m (in_ m hmk e1) m' (in_ m' hmk' e2) e
    · rintro σ H5 ⟨ks, ad, y3, rfl, kp, kn, hkm, hG5, hL5, hinj⟩
      rw [List.length_map, List.take_length] at hkm hL5
      have keep5 : ∀ b o, H b = some o → H5 b = some o := fun b o hb => kp b o (ne_of_none hb hG) (keep2 b o (keep1 b o hb))
      refine ⟨_, rfl, G, grpK ks ad, ks.map fun m => keyD (BM.pop us.length m) (first S mk m), fun _ _ => True, rfl, hG5, fun a ha b hb => ?_, .inl fun a ha => ?_, by unfold grpK; rw [List.length_map, List.length_map], fun a ha => ?_, hT.ext keep5, fun H6 ts eN T6 hP => ⟨True.intro, fun i v dk H' hv hdk eH _ => ?_, fun H7 p eH _ hp => ?_⟩⟩
      · obtain ⟨m, _, rfl⟩ := List.mem_map.mp ha
        obtain ⟨m', _, rfl⟩ := List.mem_map.mp hb
        exact keyD_alike ..
      · obtain ⟨m, _, rfl⟩ := List.mem_map.mp ha
        exact ⟨_, _, rfl⟩
      · obtain ⟨m, _, rfl⟩ := List.mem_map.mp ha
        simp [keyD, PyData.depth, PyData.depthAll]
      · obtain ⟨t, ht, rfl⟩ : ∃ t, ts[i]? = some t ∧ v = V.ref t := by
          rw [List.getElem?_map] at hv
          cases e : ts[i]? with
          | none => rw [e] at hv; cases hv
          | some t => rw [e] at hv; cases hv; exact ⟨t, rfl, rfl⟩
        obtain ⟨m, hm, rfl⟩ : ∃ m, ks[i]? = some m ∧ dk = keyD (BM.pop us.length m) (first S mk m) := by
          rw [List.getElem?_map] at hdk
          cases e : ks[i]? with
          | none => rw [e] at hdk; cases hdk
          | some t => rw [e] at hdk; cases hdk; exact ⟨t, rfl, rfl⟩
        obtain ⟨q, hq, hq2⟩ := LiI.paired_get hP ht
        have hq3 : (grpK ks ad)[i]? = some (.inl (m : Nat), .ref (ad m)) := by
          unfold grpK
          rw [List.getElem?_map, hm]
          rfl
        rw [hq3] at hq
        cases hq
        have hmk : m ∈ ks := List.mem_of_getElem? hm
        have htH : H' t = some (.tup [.int (m : Nat), .ref (ad m)]) := eH _ _ hq2
        have hlH : H' (ad m) = some (.lst ((part S mk m).map V.str)) := eH _ _ (eN _ _ (hL5 m hmk).1 fun ps z => nomatch z)
        obtain ⟨n, hnS, hnm⟩ := (hkm m).mp hmk
        have hnn := (hSm n).mp hnS
        have hlow : m < 2 ^ us.length := by rw [← hnm]; exact hmask.1.low n hnn
        have hpos : 1 ≤ us.length := by
          rw [← hnl]
          exact List.length_pos_of_mem hnn
        obtain ⟨r, hr0⟩ := part_cons ((hkm m).mp hmk)
        refine ⟨_, rfl, t, _, 0, .int (m : Nat), rfl, rfl, SqT.of htH, rfl, m, us.length, rfl, hlow, hpos, by omega, _, rfl, t, _, 1, .ref (ad m), rfl, rfl, SqT.of htH, rfl, ad m, _, 0, .str (first S mk m), rfl, rfl, SqL.of hlH, by rw [hr0]; exact atI_nat (j := 0) rfl, by show 2 ≤ sizeLine; decide, fun t2 ht2 => ⟨.tup (SqT.of upd_same) (.cons (.int _) (.cons (.str _) .nil)), Ext.upd ht2, True.intro⟩⟩
      · obtain ⟨zs, zp, ze, zo⟩ := byKey_zip ks ts (fun m => keyD (BM.pop us.length m) (first S mk m))
        rw [ze]
        have hz : ∀ z ∈ zs, z.1 ∈ ks ∧ H7 z.2 = some (.tup [.int (z.1 : Nat), .ref (ad z.1)]) ∧ H7 (ad z.1) = some (.lst ((part S mk z.1).map V.str)) := fun z hz => by
          obtain ⟨j, hj⟩ := List.mem_iff_getElem?.mp (zp.mem_iff.mp hz)
          rw [List.getElem?_zip_eq_some] at hj
          obtain ⟨h1, h2⟩ := hj
          obtain ⟨q, hq, hq2⟩ := LiI.paired_get hP h2
          have hq3 : (grpK ks ad)[j]? = some (.inl (z.1 : Nat), .ref (ad z.1)) := by
            unfold grpK
            rw [List.getElem?_map, h1]
            rfl
          rw [hq3] at hq
          cases hq
          have hmk : z.1 ∈ ks := List.mem_of_getElem? h1
          exact ⟨hmk, eH _ _ hq2, eH _ _ (eN _ _ (hL5 _ hmk).1 fun ps z => nomatch z)⟩
        have keep6 : LamX.ExtN H H7 := fun b o hb hn => eH _ _ (eN _ _ (keep5 b o hb) hn)
        have hnp : ∀ b o, H7 b = some o → (upd H7 p (.lst (zs.map fun z => V.ref z.2))) b = some o := fun b o hb => by rw [upd_ne (ne_of_none hb hp)]; exact hb
        generalize hH8 : upd H7 p (.lst (zs.map fun z => V.ref z.2)) = H8 at hnp
        have hp8 : H8 p = some (.lst (zs.map fun z => V.ref z.2)) := by rw [← hH8, upd_same]
        have hzl : zs.length ≤ 14 := by
          have h1 := zp.length_eq
          have h2 := nodup_lenN ks (S.map mk) kn fun m hm => by
            obtain ⟨n, hn, e⟩ := (hkm m).mp hm
            exact List.mem_map.mpr ⟨n, hn, e⟩
          rw [List.length_zip] at h1
          rw [List.length_map] at h2
          omega
        refine ⟨_, rfl, p, rfl, ⟨_, SqL.of hp8⟩, fun D0 hD => ?_⟩
        refine lc_list (K := K) (xs := zs.map fun z => V.ref z.2) (fun i H' => Ext H8 H' ∧ H' D0 = some (.lst ((zs.take i).map fun z => V.ref (ad z.1))))
          ⟨Ext.upd hD, upd_same⟩ (fun i H' _ q => SqL.of (q.1 _ _ hp8)) ?_ ?_
        · rintro i x H' hx ⟨e8, hD8⟩
          obtain ⟨z, hz0, rfl⟩ : ∃ z, zs[i]? = some z ∧ x = V.ref z.2 := by
            rw [List.getElem?_map] at hx
            cases e : zs[i]? with
            | none => rw [e] at hx; cases hx
            | some t => rw [e] at hx; cases hx; exact ⟨t, rfl, rfl⟩
          obtain ⟨h1, h2, h3⟩ := hz z (List.mem_of_getElem? hz0)
          refine ⟨z.2, _, rfl, SqT.of (e8 _ _ (hnp _ _ h2)), rfl, _, _, rfl, _, _, rfl, rfl, ⟨rfl, lc_yes ⟨_, rfl, _, hD8, ?_, ?_, ?_⟩⟩⟩
          · rw [List.length_map, List.length_take]
            exact Nat.lt_of_le_of_lt (show _ ≤ 14 by omega) (by decide)
          · exact fun b o hb => by rw [upd_ne (ne_of_none hb hD)]; exact e8 b o hb
          · rw [upd_same, take_more hz0]
            simp
        · rintro H9 ⟨e8, hD9⟩
          rw [List.length_map, List.take_length] at hD9
          have htl : ts.length = ks.length := by
            have := Paired.length hP
            unfold grpK at this
            rw [List.length_map] at this
            exact this
          have hpk : (zs.map Prod.fst).Perm ks := by
            have := zp.map Prod.fst
            rw [List.map_fst_zip (by omega)] at this
            exact this
          have hnd : (zs.map Prod.fst).Nodup := hpk.nodup_iff.mpr kn
          refine qq D0 H9 (zs.map fun z => ad z.1) (zs.map fun z => part S mk z.1) (fun x => BM.pop us.length (mk x)) (fun b o hb hn => e8 _ _ (hnp _ _ (keep6 b o hb hn))) ?_ ?_ (mask_count hmask nd) ?_
          · rw [hD9, List.map_map]
            rfl
          · have key : ∀ l : List (Nat × Addr), (∀ z ∈ l, H9 (ad z.1) = some (.lst ((part S mk z.1).map V.str))) → Parts H9 (l.map fun z => ad z.1) (l.map fun z => part S mk z.1) := by
              intro l
              induction l with
              | nil => exact fun _ => .nil
              | cons a l ih => exact fun hl => .cons (hl a (List.mem_cons_self ..)) (ih fun z hz => hl z (List.mem_cons_of_mem _ hz))
            exact key zs fun z hz1 => e8 _ _ (hnp _ _ (hz z hz1).2.2)
          · have h2 := comps_of hmask nd hSn hSm (ks := zs.map Prod.fst) hnd (fun m => ?_) ?_
            · rw [List.map_map] at h2
              exact h2
            · rw [hpk.mem_iff]
              exact hkm m
            · rw [List.pairwise_map]
              exact zo.imp fun {a b} q => keyD_le q
end
end Q08
namespace Q08
open PySem PySem.Spec PyProof.Rows L2 SX HL
theorem all_mk {l : PySem.W.OpenLaw} {w : World} {K : PySem.W.Frag} {h : Heap} {mg : Str → Option Value} {fa cO Pc f1 f2 f3 f4 f5 f6 f7 f8 f9 f10 f11 f12 f13 f14 f15 : Addr} (X : K.In h) (G : h.Ns mainGlobals mg) (hfa : mg "law" = some (.ref fa))
    {od1 an1 od2 an2 od3 an3 od4 an4 od5 an5 od6 an6 od7 an7 od8 an8 od9 an9 od10 an10 od11 an11 od12 an12 od13 an13 od14 an14 od15 an15 : Option Addr} {sl1 sl2 sl3 sl4 sl5 sl6 sl7 sl8 sl9 sl10 sl11 sl12 sl13 sl14 sl15 : Array (Option Value)} {oc1 kV1 dc1 pm1  ct1 oc2 kV2 dc2 pm2 cd2 ct2 oc3 kV3 dc3 pm3 cd3 ct3 oc4 kV4 dc4 pm4 cd4 ct4 oc5 kV5 dc5 pm5 cd5 ct5 oc6 kV6 dc6 pm6 cd6 ct6 oc7 kV7 dc7 pm7 cd7 ct7 oc8 kV8 dc8 pm8 cd8 ct8 oc9 kV9 dc9 pm9 cd9 ct9 oc10 kV10 dc10 pm10 cd10 ct10 oc11 kV11 dc11 pm11 cd11 ct11 oc12 kV12 dc12 pm12 cd12 ct12 oc13 kV13 dc13 pm13 cd13 ct13 oc14 kV14 dc14 pm14 cd14 ct14 oc15 kV15 dc15 pm15 cd15 ct15 : Value} 
    (a1 : PySem.W.nsIn K mainGlobals "components" = some (some (.ref f1)))
    (l1 : K.lookup f1 = some ⟨oc1, od1, .func (PySem.W.fnOf "components" "components" (defArgs sComponents) (defBody sComponents) (defScope sComponents) .none kV1 dc1 pm1 an1 (.ref cO) ct1), sl1⟩)
    (c1 : PySem.W.codeIn K (.ref cO) "components" = true)
    (k1 : PySem.W.keepIn K (.ref f1) = true)
    (a2 : PySem.W.nsIn K mainGlobals "reached_names" = some (some (.ref f2)))
    (l2 : K.lookup f2 = some ⟨oc2, od2, .func (PySem.W.fnOf "reached_names" "reached_names" (defArgs sReachedNames) (defBody sReachedNames) (defScope sReachedNames) .none kV2 dc2 pm2 an2 cd2 ct2), sl2⟩)
    (c2 : PySem.W.codeIn K cd2 "reached_names" = true)
    (k2 : PySem.W.keepIn K (.ref f2) = true)
    (a3 : PySem.W.nsIn K mainGlobals "used_first" = some (some (.ref f3)))
    (l3 : K.lookup f3 = some ⟨oc3, od3, .func (PySem.W.fnOf "used_first" "used_first" (defArgs sUsedFirst) (defBody sUsedFirst) (defScope sUsedFirst) .none kV3 dc3 pm3 an3 cd3 ct3), sl3⟩)
    (c3 : PySem.W.codeIn K cd3 "used_first" = true)
    (k3 : PySem.W.keepIn K (.ref f3) = true)
    (a4 : PySem.W.nsIn K mainGlobals "known_uses" = some (some (.ref f4)))
    (l4 : K.lookup f4 = some ⟨oc4, od4, .func (PySem.W.fnOf "known_uses" "known_uses" (defArgs sKnownUses) (defBody sKnownUses) (defScope sKnownUses) .none kV4 dc4 pm4 an4 cd4 ct4), sl4⟩)
    (c4 : PySem.W.codeIn K cd4 "known_uses" = true)
    (k4 : PySem.W.keepIn K (.ref f4) = true)
    (a5 : PySem.W.nsIn K mainGlobals "count_of" = some (some (.ref f5)))
    (l5 : K.lookup f5 = some ⟨oc5, od5, .func (PySem.W.fnOf "count_of" "count_of" (defArgs sCountOf) (defBody sCountOf) (defScope sCountOf) .none kV5 dc5 pm5 an5 cd5 ct5), sl5⟩)
    (c5 : PySem.W.codeIn K cd5 "count_of" = true)
    (k5 : PySem.W.keepIn K (.ref f5) = true)
    (a6 : PySem.W.nsIn K mainGlobals "_law_mix" = some (some (.ref f6)))
    (l6 : K.lookup f6 = some ⟨oc6, od6, .func (PySem.W.fnOf "_law_mix" "_law_mix" (defArgs sLawMix) (defBody sLawMix) (defScope sLawMix) .none kV6 dc6 pm6 an6 cd6 ct6), sl6⟩)
    (c6 : PySem.W.codeIn K cd6 "_law_mix" = true)
    (k6 : PySem.W.keepIn K (.ref f6) = true)
    (a7 : PySem.W.nsIn K mainGlobals "_law_draws" = some (some (.ref f7)))
    (l7 : K.lookup f7 = some ⟨oc7, od7, .func (PySem.W.fnOf "_law_draws" "_law_draws" (defArgs sLawDraws) (defBody sLawDraws) (defScope sLawDraws) .none kV7 dc7 pm7 an7 cd7 ct7), sl7⟩)
    (c7 : PySem.W.codeIn K cd7 "_law_draws" = true)
    (k7 : PySem.W.keepIn K (.ref f7) = true)
    (a8 : PySem.W.nsIn K mainGlobals "_law_at" = some (some (.ref f8)))
    (l8 : K.lookup f8 = some ⟨oc8, od8, .func (PySem.W.fnOf "_law_at" "_law_at" (defArgs sLawAt) (defBody sLawAt) (defScope sLawAt) .none kV8 dc8 pm8 an8 cd8 ct8), sl8⟩)
    (c8 : PySem.W.codeIn K cd8 "_law_at" = true)
    (k8 : PySem.W.keepIn K (.ref f8) = true)
    (a9 : PySem.W.nsIn K mainGlobals "_law_is_integer" = some (some (.ref f9)))
    (l9 : K.lookup f9 = some ⟨oc9, od9, .func (PySem.W.fnOf "_law_is_integer" "_law_is_integer" (defArgs sLawIsInteger) (defBody sLawIsInteger) (defScope sLawIsInteger) .none kV9 dc9 pm9 an9 cd9 ct9), sl9⟩)
    (c9 : PySem.W.codeIn K cd9 "_law_is_integer" = true)
    (k9 : PySem.W.keepIn K (.ref f9) = true)
    (a10 : PySem.W.nsIn K mainGlobals "_law_same" = some (some (.ref f10)))
    (l10 : K.lookup f10 = some ⟨oc10, od10, .func (PySem.W.fnOf "_law_same" "_law_same" (defArgs sLawSame) (defBody sLawSame) (defScope sLawSame) .none kV10 dc10 pm10 an10 cd10 ct10), sl10⟩)
    (c10 : PySem.W.codeIn K cd10 "_law_same" = true)
    (k10 : PySem.W.keepIn K (.ref f10) = true)
    (a11 : PySem.W.nsIn K mainGlobals "_law_is_dict" = some (some (.ref f11)))
    (l11 : K.lookup f11 = some ⟨oc11, od11, .func (PySem.W.fnOf "_law_is_dict" "_law_is_dict" (defArgs sLawIsDict) (defBody sLawIsDict) (defScope sLawIsDict) .none kV11 dc11 pm11 an11 cd11 ct11), sl11⟩)
    (c11 : PySem.W.codeIn K cd11 "_law_is_dict" = true)
    (k11 : PySem.W.keepIn K (.ref f11) = true)
    (a12 : PySem.W.nsIn K mainGlobals "_law_name" = some (some (.ref f12)))
    (l12 : K.lookup f12 = some ⟨oc12, od12, .func (PySem.W.fnOf "_law_name" "_law_name" (defArgs sLawName) (defBody sLawName) (defScope sLawName) .none kV12 dc12 pm12 an12 cd12 ct12), sl12⟩)
    (c12 : PySem.W.codeIn K cd12 "_law_name" = true)
    (k12 : PySem.W.keepIn K (.ref f12) = true)
    (a13 : PySem.W.nsIn K mainGlobals "_law_uses" = some (some (.ref f13)))
    (l13 : K.lookup f13 = some ⟨oc13, od13, .func (PySem.W.fnOf "_law_uses" "_law_uses" (defArgs sLawUses) (defBody sLawUses) (defScope sLawUses) .none kV13 dc13 pm13 an13 cd13 ct13), sl13⟩)
    (c13 : PySem.W.codeIn K cd13 "_law_uses" = true)
    (k13 : PySem.W.keepIn K (.ref f13) = true)
    (a14 : PySem.W.nsIn K mainGlobals "_law_reach" = some (some (.ref f14)))
    (l14 : K.lookup f14 = some ⟨oc14, od14, .func (PySem.W.fnOf "_law_reach" "_law_reach" (defArgs sLawReach) (defBody sLawReach) (defScope sLawReach) .none kV14 dc14 pm14 an14 cd14 ct14), sl14⟩)
    (c14 : PySem.W.codeIn K cd14 "_law_reach" = true)
    (k14 : PySem.W.keepIn K (.ref f14) = true)
    (a15 : PySem.W.nsIn K mainGlobals "law" = some (some (.ref f15)))
    (l15 : K.lookup f15 = some ⟨oc15, od15, .func (PySem.W.fnOf "law" "law" (defArgs sLaw) (defBody sLaw) (defScope sLaw) .none kV15 dc15 pm15 an15 cd15 ct15), sl15⟩)
    (c15 : PySem.W.codeIn K cd15 "law" = true)
    (k15 : PySem.W.keepIn K (.ref f15) = true)
    (z_len : PySem.W.nsIn K mainGlobals "len" = some none)
    (z_range : PySem.W.nsIn K mainGlobals "range" = some none)
    (z_min : PySem.W.nsIn K mainGlobals "min" = some none)
    (z_isinstance : PySem.W.nsIn K mainGlobals "isinstance" = some none)
    (z_bool : PySem.W.nsIn K mainGlobals "bool" = some none)
    (z_int : PySem.W.nsIn K mainGlobals "int" = some none)
    (z_str : PySem.W.nsIn K mainGlobals "str" = some none)
    (z_tuple : PySem.W.nsIn K mainGlobals "tuple" = some none)
    (z_list : PySem.W.nsIn K mainGlobals "list" = some none)
    (z_dict : PySem.W.nsIn K mainGlobals "dict" = some none)
    (z_sorted : PySem.W.nsIn K mainGlobals "sorted" = some none)
    (z_enumerate : PySem.W.nsIn K mainGlobals "enumerate" = some none)
    (t_tab : h.get? Pc = some { cls := .none, data := .fields #[] })
    (t_no : K.lookup Pc = none)
    (t_code : PySem.W.codeHdIn K cO Pc = true)
    : LamX.LawAtS l w K CX0 7 63 "script" mg fa h := by
  have e := hfa.symm.trans (PySem.W.mg_of X G a15)
  cases e
  have T : Txt mg := { len := PySem.W.mg_none_of X G z_len, range := PySem.W.mg_none_of X G z_range, min := PySem.W.mg_none_of X G z_min, isinstance := PySem.W.mg_none_of X G z_isinstance, bool := PySem.W.mg_none_of X G z_bool, int := PySem.W.mg_none_of X G z_int, str := PySem.W.mg_none_of X G z_str, tuple := PySem.W.mg_none_of X G z_tuple, list := PySem.W.mg_none_of X G z_list, dict := PySem.W.mg_none_of X G z_dict, sorted := PySem.W.mg_none_of X G z_sorted, enumerate := PySem.W.mg_none_of X G z_enumerate }
  have F1 := fun_mk (st := sComponents) l1 c1 k1
  have b1 := F1.binds (ps := ["uses"]) fun _ _ _ _ _ _ us hl => match us, hl with | [_], _ => rfl
  have DComponentsN : DefN K mg "components" sComponents ["uses"] f1 _ := ⟨F1, b1, PySem.W.mg_of X G a1⟩
  have DComponents : HS.DefC K mg "components" sComponents ["uses"] f1 _ cO := ⟨⟨oc1, od1, kV1, dc1, pm1, an1, ct1, sl1, rfl, l1, c1⟩, F1, b1, PySem.W.mg_of X G a1⟩
  have F2 := fun_mk (st := sReachedNames) l2 c2 k2
  have b2 := F2.binds (ps := ["uses"]) fun _ _ _ _ _ _ us hl => match us, hl with | [_], _ => rfl
  have DReachedNames : DefN K mg "reached_names" sReachedNames ["uses"] f2 _ := ⟨F2, b2, PySem.W.mg_of X G a2⟩
  have F3 := fun_mk (st := sUsedFirst) l3 c3 k3
  have b3 := F3.binds (ps := ["uses"]) fun _ _ _ _ _ _ us hl => match us, hl with | [_], _ => rfl
  have DUsedFirst : DefN K mg "used_first" sUsedFirst ["uses"] f3 _ := ⟨F3, b3, PySem.W.mg_of X G a3⟩
  have F4 := fun_mk (st := sKnownUses) l4 c4 k4
  have b4 := F4.binds (ps := ["uses", "name"]) fun _ _ _ _ _ _ us hl => match us, hl with | [_, _], _ => rfl
  have DKnownUses : DefN K mg "known_uses" sKnownUses ["uses", "name"] f4 _ := ⟨F4, b4, PySem.W.mg_of X G a4⟩
  have F5 := fun_mk (st := sCountOf) l5 c5 k5
  have b5 := F5.binds (ps := ["reached"]) fun _ _ _ _ _ _ us hl => match us, hl with | [_], _ => rfl
  have DCountOf : DefN K mg "count_of" sCountOf ["reached"] f5 _ := ⟨F5, b5, PySem.W.mg_of X G a5⟩
  have F6 := fun_mk (st := sLawMix) l6 c6 k6
  have b6 := F6.binds (ps := ["cell", "k"]) fun _ _ _ _ _ _ us hl => match us, hl with | [_, _], _ => rfl
  have DLawMix : DefN K mg "_law_mix" sLawMix ["cell", "k"] f6 _ := ⟨F6, b6, PySem.W.mg_of X G a6⟩
  have F7 := fun_mk (st := sLawDraws) l7 c7 k7
  have b7 := F7.binds (ps := ["script"]) fun _ _ _ _ _ _ us hl => match us, hl with | [_], _ => rfl
  have DLawDraws : DefN K mg "_law_draws" sLawDraws ["script"] f7 _ := ⟨F7, b7, PySem.W.mg_of X G a7⟩
  have F8 := fun_mk (st := sLawAt) l8 c8 k8
  have b8 := F8.binds (ps := ["draws", "index"]) fun _ _ _ _ _ _ us hl => match us, hl with | [_, _], _ => rfl
  have DLawAt : DefN K mg "_law_at" sLawAt ["draws", "index"] f8 _ := ⟨F8, b8, PySem.W.mg_of X G a8⟩
  have F9 := fun_mk (st := sLawIsInteger) l9 c9 k9
  have b9 := F9.binds (ps := ["actual"]) fun _ _ _ _ _ _ us hl => match us, hl with | [_], _ => rfl
  have DLawIsInteger : DefN K mg "_law_is_integer" sLawIsInteger ["actual"] f9 _ := ⟨F9, b9, PySem.W.mg_of X G a9⟩
  have F10 := fun_mk (st := sLawSame) l10 c10 k10
  have b10 := F10.binds (ps := ["actual", "expected"]) fun _ _ _ _ _ _ us hl => match us, hl with | [_, _], _ => rfl
  have DLawSame : DefN K mg "_law_same" sLawSame ["actual", "expected"] f10 _ := ⟨F10, b10, PySem.W.mg_of X G a10⟩
  have F11 := fun_mk (st := sLawIsDict) l11 c11 k11
  have b11 := F11.binds (ps := ["actual", "expected"]) fun _ _ _ _ _ _ us hl => match us, hl with | [_, _], _ => rfl
  have DLawIsDict : DefN K mg "_law_is_dict" sLawIsDict ["actual", "expected"] f11 _ := ⟨F11, b11, PySem.W.mg_of X G a11⟩
  have F12 := fun_mk (st := sLawName) l12 c12 k12
  have b12 := F12.binds (ps := ["number"]) fun _ _ _ _ _ _ us hl => match us, hl with | [_], _ => rfl
  have DLawName : DefN K mg "_law_name" sLawName ["number"] f12 _ := ⟨F12, b12, PySem.W.mg_of X G a12⟩
  have F13 := fun_mk (st := sLawUses) l13 c13 k13
  have b13 := F13.binds (ps := ["draws"]) fun _ _ _ _ _ _ us hl => match us, hl with | [_], _ => rfl
  have DLawUses : DefN K mg "_law_uses" sLawUses ["draws"] f13 _ := ⟨F13, b13, PySem.W.mg_of X G a13⟩
  have F14 := fun_mk (st := sLawReach) l14 c14 k14
  have b14 := F14.binds (ps := ["uses", "name"]) fun _ _ _ _ _ _ us hl => match us, hl with | [_, _], _ => rfl
  have DLawReach : DefN K mg "_law_reach" sLawReach ["uses", "name"] f14 _ := ⟨F14, b14, PySem.W.mg_of X G a14⟩
  have F15 := fun_mk (st := sLaw) l15 c15 k15
  have b15 := F15.binds (ps := ["script"]) fun _ _ _ _ _ _ us hl => match us, hl with | [_], _ => rfl
  have DLaw : DefN K mg "law" sLaw ["script"] fa _ := ⟨F15, b15, PySem.W.mg_of X G a15⟩
  refine ⟨PySem.W.fnOf "law" "law" (defArgs sLaw) (defBody sLaw) (defScope sLaw) .none kV15 dc15 pm15 an15 cd15 ct15, [(cO, Pc)], spLaw (TC Pc) K, fun p hp => by rw [List.mem_singleton.mp hp]; exact t_tab, fun p hp => by rw [List.mem_singleton.mp hp]; exact t_no, fun p hp => by rw [List.mem_singleton.mp hp]; exact PySem.W.codeHd_of_K X t_code, fun s v => .of_eq rfl, fun H a ns hl _ hT hS => ⟨a, ns, rfl, hS, hl, fun p hp => by rw [List.mem_singleton.mp hp]; exact LamX.TabS.nil (hT (cO, Pc) (List.mem_singleton.mpr rfl)), fun _ => rfl⟩, fun base _ _ TBs => ok_law (k := 1) (TP := TC Pc) (fun H H' s t => LamX.Tabs.ext t s) DLaw T DComponentsN (ok_comps (k := 0) DComponents T (TBs (cO, Pc) (List.mem_singleton.mpr rfl)) DReachedNames DUsedFirst DKnownUses DCountOf) DLawMix DLawDraws DLawAt DLawName DLawUses DLawReach DLawIsDict DLawSame DLawIsInteger⟩
end Q08
open PySem PySem.W PyProof.Rows
set_option maxHeartbeats 0 in
theorem PySem.Challenge.cw_quillrun_k08_components_in_order_holds : PySem.Challenge.rw_quillrun_k08_components_in_order.Holds := by
  w_on; o_law; k_head; (case hw => w_witness2)
  k_fill
  refine LamX.walk_ofTs (l := PySem.Challenge.rw_quillrun_k08_components_in_order) (n := 63) (k := 7) (x := "script") (CX := fun _ => L2.CX0) rfl (by decide) rfl ⟨rfl, by decide, by decide⟩ (fun w h Y => PySem.W.km_in_of Y) ?F (fun _ _ _ _ _ h => h)
  case F =>
    intro w mg fa h Y KX G hmg
    refine' Q08.all_mk KX G hmg ?a1 ?l1 ?c1 ?k1 ?a2 ?l2 ?c2 ?k2 ?a3 ?l3 ?c3 ?k3 ?a4 ?l4 ?c4 ?k4 ?a5 ?l5 ?c5 ?k5 ?a6 ?l6 ?c6 ?k6 ?a7 ?l7 ?c7 ?k7 ?a8 ?l8 ?c8 ?k8 ?a9 ?l9 ?c9 ?k9 ?a10 ?l10 ?c10 ?k10 ?a11 ?l11 ?c11 ?k11 ?a12 ?l12 ?c12 ?k12 ?a13 ?l13 ?c13 ?k13 ?a14 ?l14 ?c14 ?k14 ?a15 ?l15 ?c15 ?k15 ?z_len ?z_range ?z_min ?z_isinstance ?z_bool ?z_int ?z_str ?z_tuple ?z_list ?z_dict ?z_sorted ?z_enumerate ?t_tab ?t_no ?t_code
    (case a1 => k_is)
    (case l1 => k_is)
    (case c1 => k_is)
    (case k1 => k_is)
    (case a2 => k_is)
    (case l2 => k_is)
    (case c2 => k_is)
    (case k2 => k_is)
    (case a3 => k_is)
    (case l3 => k_is)
    (case c3 => k_is)
    (case k3 => k_is)
    (case a4 => k_is)
    (case l4 => k_is)
    (case c4 => k_is)
    (case k4 => k_is)
    (case a5 => k_is)
    (case l5 => k_is)
    (case c5 => k_is)
    (case k5 => k_is)
    (case a6 => k_is)
    (case l6 => k_is)
    (case c6 => k_is)
    (case k6 => k_is)
    (case a7 => k_is)
    (case l7 => k_is)
    (case c7 => k_is)
    (case k7 => k_is)
    (case a8 => k_is)
    (case l8 => k_is)
    (case c8 => k_is)
    (case k8 => k_is)
    (case a9 => k_is)
    (case l9 => k_is)
    (case c9 => k_is)
    (case k9 => k_is)
    (case a10 => k_is)
    (case l10 => k_is)
    (case c10 => k_is)
    (case k10 => k_is)
    (case a11 => k_is)
    (case l11 => k_is)
    (case c11 => k_is)
    (case k11 => k_is)
    (case a12 => k_is)
    (case l12 => k_is)
    (case c12 => k_is)
    (case k12 => k_is)
    (case a13 => k_is)
    (case l13 => k_is)
    (case c13 => k_is)
    (case k13 => k_is)
    (case a14 => k_is)
    (case l14 => k_is)
    (case c14 => k_is)
    (case k14 => k_is)
    (case a15 => k_is)
    (case l15 => k_is)
    (case c15 => k_is)
    (case k15 => k_is)
    (case z_len => k_is)
    (case z_range => k_is)
    (case z_min => k_is)
    (case z_isinstance => k_is)
    (case z_bool => k_is)
    (case z_int => k_is)
    (case z_str => k_is)
    (case z_tuple => k_is)
    (case z_list => k_is)
    (case z_dict => k_is)
    (case z_sorted => k_is)
    (case z_enumerate => k_is)
    (case t_tab => exact PySem.W.km_tabs_of Y _ (List.mem_singleton.mpr rfl))
    (case t_no => first | rfl | kernel_rfl | decide +kernel)
    (case t_code => first | rfl | kernel_rfl | decide +kernel)
#print axioms PySem.Challenge.cw_quillrun_k08_components_in_order_holds
