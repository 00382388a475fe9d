import PyProof.Rows.All
import Wide.All
import OpenK.AllK
import Wide.FinOn
import PyProof.Rows.All
import HandS.ForMost
import HandS.ForExc
import HandS.IsInst
import HandS.Codes
import HandS.Walk
import HandS.Star
import HandS.TryOnly
import HandS.ExcOwn
import HandS.Defaults
import HandS.Deep
import HandS.Comp
import HandS.DictComp
import PyProof.Draws
import HandS.Rev
import HandS.RevTup
import KE.KRevIter
import PyProof.RulesMatchSeq
import PyProof.Rows.MatchSeqLen
import HandS.Zip
import PyProof.AutoSeq1
import KE.KRevSl
import HandS.ExcIs
import KE.GoesEnumKw
import KE.GoesMore
import PyProof.EqAt
import PyProof.EqKinds
import PyProof.TupleCall
import PyProof.Rows.CallKwBuiltin
import PyProof.Rows.CallKw2
import KE.KLam
import KE.SortKeyHeap
import HandS.Base
import HandS.Call
import HandS.List
import HandS.Exc
import HandS.ExcValue
import HandS.OwnEq
import HandS.Lambda
import HandS.Words
import HandS.Dict
import HandS.Iter
import HandS.ListItems
import HandS.ClsMeth
import KE.KItemsList
import HandS.FStr
import KE.KExcSuper
import HandS.HeadHook3
import HandS.StrMore
import HandS.NoneIn
import HandS.SetKeys
import HandS.More
import HandS.RaiseMore
import HandS.CallLocal
import KE.RegKIsAll
import PySem.Challenge.RW_quillrun_k23_operators_bind
set_option Elab.async false
set_option linter.all false
set_option maxRecDepth 100000
set_option maxHeartbeats 4000000
namespace HL
open PySem PySem.Spec PyProof.Rows L2 SX
/-! ## short words of my own, over the hand layer -/
theorem boot_isinstance : bootBuiltins "isinstance" = some (.builtin "isinstance") := by decide +kernel
theorem boot_bool : bootBuiltins "bool" = some (.type "bool") := by decide +kernel
theorem boot_int : bootBuiltins "int" = some (.type "int") := by decide +kernel
theorem boot_str : bootBuiltins "str" = some (.type "str") := by decide +kernel
theorem boot_tuple : bootBuiltins "tuple" = some (.type "tuple") := by decide +kernel
theorem boot_list : bootBuiltins "list" = some (.type "list") := by decide +kernel
theorem boot_dict : bootBuiltins "dict" = some (.type "dict") := by decide +kernel
/-- a def of the module: its body, its arguments, its name -/
structure DefN (K : PySem.W.Frag) (mg : Str → Option Value) (x : Str) (st : Stmt) (ps : List Str) (f : Addr) (fd : FuncData) : Prop where
  F : Fun K x x st f fd
  b : Binds K fd ps []
  g : mg x = some (.ref f)
theorem small (n : Nat) (h : n ≤ 1000000) : n ≤ sizeLine := Nat.le_trans h (by decide)
theorem same_upd {H : Hp} {p : Addr} {o : HO} (h : H p = none) : Same H (upd H p o) := fun b x e => by
  rw [upd_ne (ne_of_none e h)]
  exact e
theorem S_app (a b : List Nat) : (S a ++ S b : Str) = S (a ++ b) := S_cat a b
theorem sign_at {t : List Nat} {k : Nat} (h : k < t.length) : atI (S t).cps.toList (k : Int) = some (t.getD k 0) := by
  show atI t.toArray.toList (k : Int) = _
  refine atI_nat ?_
  simp [List.getD_eq_getElem?_getD, h]
theorem cutS_nat (t : List Nat) (a b : Nat) (h : a ≤ b) (h2 : b ≤ t.length) : cutS (S t) (some (a : Int)) (some (b : Int)) = S ((t.drop a).take (b - a)) := by
  unfold cutS
  rw [S_len, HT.sIx_nat, HT.sIx_nat]
  have e1 : min a t.length = a := by omega
  have e2 : min b t.length = b := by omega
  rw [e1, e2]
/-- ends beyond the end -/
theorem cutS_any (t : List Nat) (a b : Nat) : cutS (S t) (some (a : Int)) (some (b : Int)) = S ((t.drop a).take (b - a)) := by
  unfold cutS
  rw [S_len, HT.sIx_nat, HT.sIx_nat]
  congr 2
  show List.take _ (List.drop _ t) = _
  by_cases ha : a ≤ t.length
  · have e1 : min a t.length = a := by omega
    rw [e1]
    by_cases hb : b ≤ t.length
    · have e2 : min b t.length = b := by omega
      rw [e2]
    · have e2 : min b t.length = t.length := by omega
      rw [e2, List.take_of_length_le (by rw [List.length_drop]; omega), List.take_of_length_le (by rw [List.length_drop]; omega)]
  · have e1 : min a t.length = t.length := by omega
    rw [e1, List.drop_of_length_le (Nat.le_refl _), List.drop_of_length_le (show t.length ≤ a by omega)]
    simp
theorem joinL_nil : ∀ C : List (List Nat), TL.joinL [] C = C.flatten
  | [] => rfl
  | [c] => by simp [TL.joinL]
  | c :: d :: r => by
    show c ++ ([] ++ TL.joinL [] (d :: r)) = _
    rw [joinL_nil (d :: r)]
    simp
/-- a test whose answer is known -/
theorem iteNo {c A B : Prop} [Decidable c] (h : ¬ c) (hb : B) : if c then A else B := by
  rw [if_neg h]
  exact hb
theorem iteYes {c A B : Prop} [Decidable c] (h : c) (ha : A) : if c then A else B := by
  rw [if_pos h]
  exact ha
/-- a comprehension without a test -/
theorem lc_yes {te : TE} {σ : L2.St} {H : Hp} {R : VK} {B : Hp → Prop} (h : te σ H R) : tYes σ H (fun b H3 => if b = true then te σ H3 R else B H3) := by
  show (if true = true then te σ H R else B H)
  rw [if_pos rfl]
  exact h
/-- all but p is as it was -/
def But (H H' : Hp) (p : Addr) : Prop := ∀ b, b ≠ p → H' b = H b
theorem but_upd {H : Hp} {p : Addr} {o : HO} : But H (upd H p o) p := fun _ h => upd_ne h
theorem But.refl {H : Hp} {p : Addr} : But H H p := fun _ _ => rfl
theorem But.trans {H H1 H2 : Hp} {p : Addr} (a : But H H1 p) (b : But H1 H2 p) : But H H2 p := fun c h => (b c h).trans (a c h)
/-- all but p, and what is new, is as it was -/
def Kept (H H' : Hp) (p : Addr) : Prop := ∀ b o, b ≠ p → H b = some o → H' b = some o
theorem Kept.refl {H : Hp} {p : Addr} : Kept H H p := fun _ _ _ h => h
theorem Kept.trans {H H1 H2 : Hp} {p : Addr} (a : Kept H H1 p) (b : Kept H1 H2 p) : Kept H H2 p := fun c o n h => b c o n (a c o n h)
theorem But.kept {H H' : Hp} {p : Addr} (b : But H H' p) : Kept H H' p := fun c o n h => (b c n).trans h
theorem _root_.L2.Same.kept {H H' : Hp} (s : Same H H') (p : Addr) : Kept H H' p := fun c o _ h => s c o h
section
variable {X : Cx}
/-- a constant of the module: a text, a number -/
theorem pe_gstr {x z : Str} {pos : Pos} (hg : Gl X x) (hm : ∃ t, X.mg x = some (.str z t)) (hd : (x == ("__debug__" : Str)) = false := by decide) : PE X (.Name x pos) (tC (.str z)) := by
  obtain ⟨t, h⟩ := hm
  exact pe_glob hg h ⟨t, rfl⟩ hd
theorem pe_gint {x : Str} {i : Int} {pos : Pos} (hg : Gl X x) (hm : ∃ t, X.mg x = some (.int i t)) (hd : (x == ("__debug__" : Str)) = false := by decide) : PE X (.Name x pos) (tC (.int i)) := by
  obtain ⟨t, h⟩ := hm
  exact pe_glob hg h ⟨t, rfl⟩ hd
/-- within a comprehension -/
theorem ix_listK {K : PySem.W.Frag} (h : X.K = K) : IxR X (rIxL K) := by
  subst h
  exact ix_list
theorem ix_tupK {K : PySem.W.Frag} (h : X.K = K) : IxR X (rIxT K) := by
  subst h
  exact ix_tup
/-- o[i] of a list, for o[i] op= e -/
def rGetL (K : PySem.W.Frag) : V → V → Hp → VK → Prop := fun x y H Q => ∃ p xs i v, x = .ref p ∧ y = .int i ∧ SqL K H p xs ∧ 0 ≤ i ∧ atI xs i = some v ∧ Q v H
theorem pget_list : PGet X (rGetL X.K) := by
  intro pins s σ H x y v u Q I rx ry h
  obtain ⟨p, xs, i, z, rfl, rfl, hq, h0, he, q⟩ := h
  cases rx
  obtain ⟨t, rfl⟩ := ry
  obtain ⟨its, r, pl, hz⟩ := I.list hq
  obtain ⟨j, h1, h2, h3, h4, h5⟩ := atI_get he
  obtain ⟨w, ew, rw'⟩ := r.get h2
  have hl := r.length
  have hn := line63
  have hj : i.toNat = j := by
    rw [seqIndex_of h0 h5] at h1
    exact Option.some.inj h1
  exact wpAny_getItem_list pl.isList h0 (by omega) (by rw [hj]; simpa using ew) ⟨z, H, I, rw', q⟩
/-- isinstance(x, T), T a built-in class -/
def rIsB (K : PySem.W.Frag) : List V → Hp → VK → Prop := fun xs H Q => ∃ (x : V) (T n : String) (b : Bool), xs = [x, .ty n] ∧ TyX K H x (.type T) ∧ kitB T n = some b ∧ Q (.bl b) H
theorem call_isB : CallR X (.builtin "isinstance") (rIsB X.K) := by
  intro pins s σ H xs us Q I r h
  obtain ⟨x, T, n, b, rfl, ty, e, q⟩ := h
  exact call_isi pins s σ H _ us Q I r ⟨x, .ty n, .type T, .type n, b, rfl, .ty n, ty, kit_ty e, q⟩
/-- a text, n times -/
theorem rep_fold (z : Str) : ∀ n : Nat, ((List.replicate n z.cps).foldl (· ++ ·) (#[] : Array Nat)).toList = (List.replicate n z.cps.toList).flatten := by
  have h : ∀ (l : List (Array Nat)) (a : Array Nat), (l.foldl (· ++ ·) a).toList = a.toList ++ (l.map (·.toList)).flatten := by
    intro l
    induction l with
    | nil => intro a; simp
    | cons x l ih => intro a; rw [List.foldl_cons, ih]; simp
  intro n
  rw [h]
  simp
theorem op_mul_strR : OpR X (binaryOp .Mult) (fun x y H Q => ∃ (l : List Nat) (n : Nat), x = .str (S l) ∧ y = .int (n : Int) ∧ 2 ≤ n ∧ n ≤ 1000 ∧ 1 ≤ l.length ∧ l.length ≤ 1000 ∧ Q (.str (S (List.replicate n l).flatten)) H) := by
  intro pins s σ H x y v u Q I rx ry h
  obtain ⟨l, n, rfl, rfl, h2, h3, h4, h5, q⟩ := h
  obtain ⟨t, rfl⟩ := rx
  obtain ⟨t', rfl⟩ := ry
  have hl : (S l).length = l.length := S_len l
  have e1 : ((n : Int) == 1 || (S l).length == 0) = false := by
    rw [hl]
    have a1 : ((n : Int) == 1) = false := by simp; omega
    have a2 : (l.length == 0) = false := by simp; intro z; rw [z] at h4; simp at h4
    rw [a1, a2]; rfl
  have hsz : l.length * n ≤ 1000000 := Nat.le_trans (Nat.mul_le_mul h5 h3) (by decide)
  refine PySem.P.mul_str ?_ (fun _ _ => ?_) (fun _ _ => ?_) ?_
  · have b1 : decide ((n : Int) < -(2 ^ 63 : Int)) = false := decide_eq_false (by omega)
    have b2 : decide ((n : Int) ≥ 2 ^ 63) = false := decide_eq_false (by omega)
    rw [b1, b2]; rfl
  · rw [hl]
    have hp : (l.length : Int) * (n : Int) ≤ 1000000 := by
      have := Int.ofNat_le.mpr hsz
      rw [Int.natCast_mul] at this
      exact this
    have := Int.le_ediv_of_mul_le (show (0 : Int) < (n : Int) by omega) (show (l.length : Int) * (n : Int) ≤ 2 ^ 63 - 1 from Int.le_trans hp (by decide))
    omega
  · rw [hl]
    exact decide_eq_false (by rw [sizeLine_eq, Int.toNat_natCast]; omega)
  · rw [if_neg (by omega), if_neg (by rw [e1]; simp)]
    have ef : (⟨(List.replicate (n : Int).toNat (S l).cps).foldl (· ++ ·) #[]⟩ : Str) = S (List.replicate n l).flatten := by
      have : ((List.replicate (n : Int).toNat (S l).cps).foldl (· ++ ·) (#[] : Array Nat)) = ((List.replicate n l).flatten).toArray := by
        apply Array.ext'
        rw [rep_fold]
        simp
      rw [this]
    rw [ef]
    refine ⟨?_, .str _, H, I.tok _, ⟨_, rfl⟩, q⟩
    rw [S_len, sizeLine_eq]
    simp
    rw [Nat.mul_comm]
    omega
end
/-! ### data that are told the same: _law_same -/
/-- the type of a list or a tuple that is read -/
def IsSeq (K : PySem.W.Frag) (H : Hp) (t : String) (a : Addr) (xs : List V) : Prop := (t = "tuple" ∧ SqT K H a xs ∧ TyX K H (.ref a) (.type "tuple")) ∨ (t = "list" ∧ SqL K H a xs ∧ TyX K H (.ref a) (.type "list"))
theorem IsSeq.tup {K : PySem.W.Frag} {H : Hp} {a : Addr} {xs : List V} (h : H a = some (.tup xs)) : IsSeq K H "tuple" a xs := .inl ⟨rfl, SqT.of h, .base (.tup h)⟩
theorem IsSeq.lst {K : PySem.W.Frag} {H : Hp} {a : Addr} {xs : List V} (h : H a = some (.lst xs)) : IsSeq K H "list" a xs := .inr ⟨rfl, SqL.of h, .base (.lst h)⟩
/-- a number, a text, a truth, None -/
def Leaf : V → Prop
  | .int _ => True
  | .str _ => True
  | .bl _ => True
  | .non => True
  | _ => False
def SameD (K : PySem.W.Frag) (H : Hp) : Nat → V → V → Prop
  | 0, x, y => Leaf x ∧ x = y
  | n + 1, x, y => (Leaf x ∧ x = y) ∨ ∃ (t : String) (a b : Addr) (xs ys : List V), x = .ref a ∧ y = .ref b ∧ IsSeq K H t a xs ∧ IsSeq K H t b ys ∧ xs.length = ys.length ∧ ys.length ≤ 1000000 ∧
      ∀ (i : Nat) (u v : V), xs[i]? = some u → ys[i]? = some v → SameD K H n u v
theorem SameD.leaf {K : PySem.W.Frag} {H : Hp} {n : Nat} {x : V} (h : Leaf x) : SameD K H n x x := by
  cases n with
  | zero => exact ⟨h, rfl⟩
  | succ n => exact .inl ⟨h, rfl⟩
theorem SameD.seq {K : PySem.W.Frag} {H : Hp} {n : Nat} {t : String} {a b : Addr} {xs ys : List V} (h1 : IsSeq K H t a xs) (h2 : IsSeq K H t b ys) (hl : xs.length = ys.length) (hz : ys.length ≤ 1000000)
    (h : ∀ (i : Nat) (u v : V), xs[i]? = some u → ys[i]? = some v → SameD K H n u v) : SameD K H (n + 1) (.ref a) (.ref b) := .inr ⟨t, a, b, xs, ys, rfl, rfl, h1, h2, hl, hz, h⟩
/-- rows of leaves -/
theorem SameD.row {K : PySem.W.Frag} {H : Hp} {n : Nat} {a b : Addr} {xs : List V} (h1 : H a = some (.tup xs)) (h2 : H b = some (.tup xs)) (hz : xs.length ≤ 1000000) (h : ∀ x ∈ xs, Leaf x) : SameD K H (n + 1) (.ref a) (.ref b) :=
  .seq (.tup h1) (.tup h2) rfl hz fun i u v hu hv => by
    rw [hu] at hv
    cases hv
    exact .leaf (h u (List.mem_of_getElem? hu))
def spSame (K : PySem.W.Frag) (n : Nat) : Sp := fun vs H Q _ => ∃ x y : V, vs = [x, y] ∧ SameD K H n x y ∧ Q (.bl true) H
end HL
namespace HL
open PySem PySem.Spec PyProof.Rows L2 SX
/-- isinstance of two built-in classes -/
theorem kit_two {K : PySem.W.Frag} {T a b : String} {x y : Bool} (h1 : kitB T a = some x) (h2 : kitB T b = some y) : PySem.W.kitAny K (.type T) [.type a, .type b] = some (x || y) := by
  have e1 := kit_ty (K := K) h1
  have e2 := kit_ty (K := K) h2
  simp only [PySem.W.kitAny, e1, e2]
  cases x <;> cases y <;> rfl
theorem tyx_same {K : PySem.W.Frag} {H H' : Hp} {x : V} {t : Value} (s : Same H H') (h : TyX K H x t) : TyX K H' x t := by
  cases h with
  | base b =>
    cases b with
    | non => exact .base .non
    | bl y => exact .base (.bl y)
    | int i => exact .base (.int i)
    | str y => exact .base (.str y)
    | flt y => exact .base (.flt y)
    | lst e => exact .base (.lst (s _ _ e))
    | frz e => exact .base (.frz (s _ _ e))
    | tup e => exact .base (.tup (s _ _ e))
    | dK e => exact .base (.dK (s _ _ e))
    | dT e => exact .base (.dT (s _ _ e))
    | ins e h1 h2 h3 h4 h5 => exact .base (.ins (s _ _ e) h1 h2 h3 h4 h5)
  | byt y => exact .byt y
  | set e => exact .set (s _ _ e)
  | kList e c => exact .kList e c
  | kTuple e c => exact .kTuple e c
  | kDict e c => exact .kDict e c
  | fTuple e => exact .fTuple (s _ _ e)
  | fDict e => exact .fDict (s _ _ e)
theorem seqT_same {K : PySem.W.Frag} {H H' : Hp} {a : Addr} {xs : List V} (e : Same H H') (h : SqT K H a xs) : SqT K H' a xs := by
  rcases h with (h | ⟨o, h⟩) | h
  · exact .inl (.inl (e _ _ h))
  · exact .inl (.inr ⟨o, e _ _ h⟩)
  · exact .inr h
theorem isSeq_same {K : PySem.W.Frag} {H H' : Hp} {t : String} {a : Addr} {xs : List V} (s : Same H H') (h : IsSeq K H t a xs) : IsSeq K H' t a xs := by
  rcases h with ⟨e, h1, h2⟩ | ⟨e, h1, h2⟩
  · exact .inl ⟨e, seqT_same s h1, tyx_same s h2⟩
  · exact .inr ⟨e, s.seq h1, tyx_same s h2⟩
theorem sameD_same {K : PySem.W.Frag} {H H' : Hp} (s : Same H H') : ∀ {n : Nat} {x y : V}, SameD K H n x y → SameD K H' n x y
  | 0, x, y, h => h
  | n + 1, x, y, h => by
    rcases h with h | ⟨t, a, b, xs, ys, e1, e2, h1, h2, el, hz, hh⟩
    · exact .inl h
    · exact .inr ⟨t, a, b, xs, ys, e1, e2, isSeq_same s h1, isSeq_same s h2, el, hz, fun i u v hu hv => sameD_same s (hh i u v hu hv)⟩
/-- told the same; the heap may grow -/
def spSameG (K : PySem.W.Frag) (n : Nat) : Sp := fun vs H Q _ => ∃ x y : V, vs = [x, y] ∧ SameD K H n x y ∧ ∀ H', Same H H' → Q (.bl true) H'
end HL
namespace HL
open PySem PySem.Spec PyProof.Rows L2 SX
/-- a list or a tuple, also a locked one -/
def Seqo : HO → Prop
  | .lst _ => True
  | .tup _ => True
  | .frz _ (.lst _) => True
  | .frz _ (.tup _) => True
  | _ => False
def SeqKept (H H' : Hp) : Prop := ∀ a o, H a = some o → Seqo o → H' a = some o
theorem _root_.L2.Same.seqKept {H H' : Hp} (s : Same H H') : SeqKept H H' := fun a o h _ => s a o h
theorem SeqKept.seqT {K : PySem.W.Frag} {H H' : Hp} {a : Addr} {xs : List V} (e : SeqKept H H') (h : SqT K H a xs) : SqT K H' a xs := by
  rcases h with (h | ⟨o, h⟩) | h
  · exact .inl (.inl (e _ _ h True.intro))
  · exact .inl (.inr ⟨o, e _ _ h True.intro⟩)
  · exact .inr h
theorem SeqKept.seq {K : PySem.W.Frag} {H H' : Hp} {a : Addr} {xs : List V} (e : SeqKept H H') (h : SqL K H a xs) : SqL K H' a xs := by
  rcases h with (h | ⟨o, h⟩) | h
  · exact .inl (.inl (e _ _ h True.intro))
  · exact .inl (.inr ⟨o, e _ _ h True.intro⟩)
  · exact .inr h
theorem tyx_tup {K : PySem.W.Frag} {H H' : Hp} {x : V} {t : Value} (s : SeqKept H H') (ht : t = .type "tuple" ∨ t = .type "list") (h : TyX K H x t) : TyX K H' x t := by
  cases h with
  | base b =>
    cases b with
    | non => exact .base .non
    | bl y => exact .base (.bl y)
    | int i => exact .base (.int i)
    | str y => exact .base (.str y)
    | flt y => exact .base (.flt y)
    | lst e => exact .base (.lst (s _ _ e True.intro))
    | frz e => exact .base (.frz (s _ _ e True.intro))
    | tup e => exact .base (.tup (s _ _ e True.intro))
    | dK e => rcases ht with z | z <;> exact absurd (Value.type.inj z) (by decide)
    | dT e => rcases ht with z | z <;> exact absurd (Value.type.inj z) (by decide)
    | ins e h1 h2 h3 h4 h5 => rcases ht with z | z <;> cases z
  | byt y => exact .byt y
  | set e => rcases ht with z | z <;> exact absurd (Value.type.inj z) (by decide)
  | kList e c => exact .kList e c
  | kTuple e c => exact .kTuple e c
  | kDict e c => exact .kDict e c
  | fTuple e => exact .fTuple (s _ _ e True.intro)
  | fDict e => rcases ht with z | z <;> exact absurd (Value.type.inj z) (by decide)
theorem isSeq_kept {K : PySem.W.Frag} {H H' : Hp} {t : String} {a : Addr} {xs : List V} (s : SeqKept H H') (h : IsSeq K H t a xs) : IsSeq K H' t a xs := by
  rcases h with ⟨e, h1, h2⟩ | ⟨e, h1, h2⟩
  · exact .inl ⟨e, s.seqT h1, tyx_tup s (.inl rfl) h2⟩
  · exact .inr ⟨e, s.seq h1, tyx_tup s (.inr rfl) h2⟩
theorem sameD_kept {K : PySem.W.Frag} {H H' : Hp} (s : SeqKept H H') : ∀ {n : Nat} {x y : V}, SameD K H n x y → SameD K H' n x y
  | 0, x, y, h => h
  | n + 1, x, y, h => by
    rcases h with h | ⟨t, a, b, xs, ys, e1, e2, h1, h2, el, hz, hh⟩
    · exact .inl h
    · exact .inr ⟨t, a, b, xs, ys, e1, e2, isSeq_kept s h1, isSeq_kept s h2, el, hz, fun i u v hu hv => sameD_kept s (hh i u v hu hv)⟩
/-- a dict locked, and the way back -/
theorem seqKept_lock {H : Hp} {d : Addr} {kvs : List (Key × V)} {o : HO} (h : H d = some (.dK kvs)) : SeqKept H (upd H d o) := fun a x hx hs => by
  have ne : a ≠ d := fun e => by
    rw [e, h] at hx
    cases hx
    exact hs
  rw [upd_ne ne]
  exact hx
theorem unlock {H H' : Hp} {d : Addr} {u o : HO} (h : H d = some u) (s : Same (upd H d o) H') : Same H (upd H' d u) := fun a x hx => by
  by_cases e : a = d
  · subst e
    rw [upd_same, ← h, hx]
  · rw [upd_ne e]
    exact s a x (by rw [upd_ne e]; exact hx)
end HL
namespace HL
open PySem PySem.Spec PyProof.Rows L2 SX
/-! ### methods, classes -/
/-- a method of the class at C -/
structure DefM (K : PySem.W.Frag) (C : Addr) (x q : Str) (st : Stmt) (ps : List Str) (f : Addr) (fd : FuncData) : Prop where
  F : Fun K x q st f fd
  b : Binds K fd ps []
  m : Meth K C x f
/-- its __init__ -/
structure DefI (K : PySem.W.Frag) (q : Str) (st : Stmt) (ps : List Str) (f : Addr) (fd : FuncData) : Prop where
  F : Fun K "__init__" q st f fd
  b : Binds K fd ps []
structure ClsN (K : PySem.W.Frag) (mg : Str → Option Value) (x : Str) (C fI : Addr) : Prop where
  g : mg x = some (.ref C)
  cl : Cls K C
  make : Mk K C fI
/-- an own exception without an __init__, under ValueError -/
structure ExcN (K : PySem.W.Frag) (mg : Str → Option Value) (x : Str) (C : Addr) : Prop where
  g : mg x = some (.ref C)
  ex : PySem.W.excIn K C [.type "ValueError", .type "Exception", .type "BaseException", .type "object"] "ValueError.__new__" = true
  kp : PySem.W.keepIn K (.ref C) = true
  sub : PySem.W.subIn K (.ref C) (.type "BaseException") = some true
  ty : PySem.W.typeIn K (.ref C) = some (.type "type")
  te : PySem.W.exmOne K (.ref C) (.ref C) = some true
/-- its class is caught by its name -/
theorem exm_of {K : PySem.W.Frag} {S : Addr} (h1 : PySem.W.subIn K (.ref S) (.type "BaseException") = some true) (h2 : PySem.W.isClsIn K S = true) (h3 : PySem.W.typeIn K (.ref S) = some (.type "type")) (h4 : PySem.W.subIn K (.ref S) (.ref S) = some true) :
    PySem.W.exmOne K (.ref S) (.ref S) = some true := by
  have e1 : (PySem.W.subIn K (.ref S) (.type "BaseException") == some true) = true := by rw [h1] <;> rfl
  have e2 : ((PySem.W.clsIn K S).isSome && PySem.W.typeIn K (.ref S) == some (.type "type")) = true := by
    have h2' : (PySem.W.clsIn K S).isSome = true := h2
    rw [h2', h3] <;> rfl
  show (if (PySem.W.subIn K (.ref S) (.type "BaseException") == some true) = true then (if ((PySem.W.clsIn K S).isSome && PySem.W.typeIn K (.ref S) == some (.type "type")) = true then PySem.W.subIn K (.ref S) (.ref S) else none) else none) = some true
  rw [if_pos e1, if_pos e2]
  exact h4
/-! ### fields -/
theorem putF_nil (f : Str) (v : V) : putF f v [] = [(f, v)] := rfl
theorem putF_eq (f : Str) (v x : V) (r : List (Str × V)) : putF f v ((f, x) :: r) = (f, v) :: r := if_pos rfl
theorem putF_ne {f g : Str} (h : ¬ g = f) (v x : V) (r : List (Str × V)) : putF f v ((g, x) :: r) = (g, x) :: putF f v r := if_neg h
theorem lkF_eq (f : Str) (v : V) (r : List (Str × V)) : List.lookup f ((f, v) :: r) = some v := by
  have h : (f == f) = true := beq_iff_eq.mpr rfl
  simp only [List.lookup, h]
theorem lkF_ne {f g : Str} (h : ¬ g = f) (v : V) (r : List (Str × V)) : List.lookup g ((f, v) :: r) = List.lookup g r := by
  have h' : (g == f) = false := beq_eq_false_iff_ne.mpr h
  simp only [List.lookup, h']
/-! ### two lists, item by item -/
inductive All2 {α β : Type _} (R : α → β → Prop) : List α → List β → Prop
  | nil : All2 R [] []
  | cons {x : α} {y : β} {xs : List α} {ys : List β} : R x y → All2 R xs ys → All2 R (x :: xs) (y :: ys)
namespace All2
variable {α β γ : Type _} {R S : α → β → Prop}
theorem len {xs : List α} {ys : List β} (h : All2 R xs ys) : xs.length = ys.length := by
  induction h with
  | nil => rfl
  | cons _ _ ih => simp [ih]
theorem mono {xs : List α} {ys : List β} (h : All2 R xs ys) (f : ∀ x y, R x y → S x y) : All2 S xs ys := by
  induction h with
  | nil => exact .nil
  | cons a _ ih => exact .cons (f _ _ a) ih
theorem app {xs xs' : List α} {ys ys' : List β} (h : All2 R xs ys) (h' : All2 R xs' ys') : All2 R (xs ++ xs') (ys ++ ys') := by
  induction h with
  | nil => exact h'
  | cons a _ ih => exact .cons a ih
theorem one {x : α} {y : β} (h : R x y) : All2 R [x] [y] := .cons h .nil
theorem snoc {xs : List α} {ys : List β} {x : α} {y : β} (h : All2 R xs ys) (a : R x y) : All2 R (xs ++ [x]) (ys ++ [y]) := h.app (one a)
theorem take {xs : List α} {ys : List β} (h : All2 R xs ys) (n : Nat) : All2 R (xs.take n) (ys.take n) := by
  induction h generalizing n with
  | nil => simp; exact .nil
  | cons a _ ih =>
    cases n with
    | zero => exact .nil
    | succ n => exact .cons a (ih n)
theorem drop {xs : List α} {ys : List β} (h : All2 R xs ys) (n : Nat) : All2 R (xs.drop n) (ys.drop n) := by
  induction h generalizing n with
  | nil => simp; exact .nil
  | cons a hb ih =>
    cases n with
    | zero => exact .cons a hb
    | succ n => exact ih n
theorem get {xs : List α} {ys : List β} (h : All2 R xs ys) {i : Nat} {x : α} (e : xs[i]? = some x) : ∃ y, ys[i]? = some y ∧ R x y := by
  induction h generalizing i with
  | nil => simp at e
  | cons a _ ih =>
    cases i with
    | zero =>
      simp at e
      subst e
      exact ⟨_, rfl, a⟩
    | succ i => exact ih (by simpa using e)
theorem getR {xs : List α} {ys : List β} (h : All2 R xs ys) {i : Nat} {y : β} (e : ys[i]? = some y) : ∃ x, xs[i]? = some x ∧ R x y := by
  induction h generalizing i with
  | nil => simp at e
  | cons a _ ih =>
    cases i with
    | zero =>
      simp at e
      subst e
      exact ⟨_, rfl, a⟩
    | succ i => exact ih (by simpa using e)
theorem of_at {xs : List α} {ys : List β} (hl : xs.length = ys.length) (h : ∀ (i : Nat) (x : α) (y : β), xs[i]? = some x → ys[i]? = some y → R x y) : All2 R xs ys := by
  induction xs generalizing ys with
  | nil =>
    cases ys with
    | nil => exact .nil
    | cons _ _ => simp at hl
  | cons x xs ih =>
    cases ys with
    | nil => simp at hl
    | cons y ys => exact .cons (h 0 x y rfl rfl) (ih (by simpa using hl) fun i a b ha hb => h (i + 1) a b (by simpa using ha) (by simpa using hb))
end All2
/-- a row: at v stands a tuple of what f tells -/
def IsRow {α : Type _} (f : α → List V) (H : Hp) (v : V) (x : α) : Prop := ∃ t, v = .ref t ∧ H t = some (.tup (f x))
theorem IsRow.same {α : Type _} {f : α → List V} {H H' : Hp} {v : V} {x : α} (h : IsRow f H v x) (s : ∀ t o, H t = some (.tup o) → H' t = some (.tup o)) : IsRow f H' v x := by
  obtain ⟨t, e, ht⟩ := h
  exact ⟨t, e, s _ _ ht⟩
/-- slices with an end -/
theorem cut_to (xs : List V) (n : Nat) : cutV xs none (some (n : Int)) = xs.take n := by
  unfold cutV
  rw [HT.sIx_none, HT.sIx_nat, Nat.sub_zero, List.drop_zero]
  by_cases h : n ≤ xs.length
  · rw [Nat.min_eq_left h]
  · have h' : xs.length ≤ n := by omega
    rw [Nat.min_eq_right h', List.take_of_length_le (Nat.le_refl _), List.take_of_length_le h']
theorem cut_from (xs : List V) (n : Nat) : cutV xs (some (n : Int)) none = xs.drop n := by
  unfold cutV
  rw [HT.sIx_none, HT.sIx_nat]
  by_cases h : n ≤ xs.length
  · rw [Nat.min_eq_left h, List.take_of_length_le]
    rw [List.length_drop]
    exact Nat.le_refl _
  · have h' : xs.length ≤ n := by omega
    rw [Nat.min_eq_right h', Nat.sub_self, List.take_zero, List.drop_of_length_le h']
theorem cut_mid (xs : List V) (a b : Nat) : cutV xs (some (a : Int)) (some (b : Int)) = (xs.drop a).take (b - a) := by
  unfold cutV
  rw [HT.sIx_nat, HT.sIx_nat]
  by_cases ha : a ≤ xs.length
  · rw [Nat.min_eq_left ha]
    by_cases hb : b ≤ xs.length
    · rw [Nat.min_eq_left hb]
    · have hb' : xs.length ≤ b := by omega
      rw [Nat.min_eq_right hb', List.take_of_length_le (by rw [List.length_drop]; omega), List.take_of_length_le (by rw [List.length_drop]; omega)]
  · have ha' : xs.length ≤ a := by omega
    rw [Nat.min_eq_right ha', List.drop_of_length_le (Nat.le_refl _), List.drop_of_length_le ha']
    simp
/-- a natural number -/
def vi (n : Nat) : V := .int (n : Int)
theorem vi_inj {a b : Nat} (h : vi a = vi b) : a = b := by
  have := V.int.inj h
  omega
theorem map_vi (l : List Nat) : l.map vi = (l.map fun n : Nat => (n : Int)).map V.int := by
  rw [List.map_map]
  rfl
theorem get_vi {l : List Nat} {i : Nat} {x : V} (h : (l.map vi)[i]? = some x) : ∃ n, l[i]? = some n ∧ x = vi n := by
  rw [List.getElem?_map] at h
  cases e : l[i]? with
  | none => rw [e] at h; cases h
  | some n => rw [e] at h; exact ⟨n, rfl, (Option.some.inj h).symm⟩
theorem take_snoc {α : Type _} {l : List α} {i : Nat} {x : α} (h : l[i]? = some x) : l.take (i + 1) = l.take i ++ [x] := by
  rw [List.take_add_one, h]
  rfl
theorem same_list {K : PySem.W.Frag} {H : Hp} {n : Nat} {a b : Addr} {xs : List Nat} (h1 : H a = some (.lst (xs.map vi))) (h2 : H b = some (.lst (xs.map vi))) (hl : xs.length ≤ 1000000) : SameD K H (n + 1) (.ref a) (.ref b) :=
  .seq (.lst h1) (.lst h2) rfl (by rw [List.length_map]; omega) fun i u v hu hv => by
    rw [hu] at hv
    cases hv
    obtain ⟨k, _, rfl⟩ := get_vi hu
    exact .leaf True.intro
theorem Same.none {H H' : Hp} (s : Same H H') {b : Addr} (h : H' b = none) : H b = none := by
  cases e : H b with
  | none => rfl
  | some o => rw [s _ _ e] at h; cases h
theorem Same.tr {H H1 H2 : Hp} (a : Same H H1) (b : Same H1 H2) : Same H H2 := fun c o h => b c o (a c o h)
/-- lists of natural numbers as data -/
def di (n : Nat) : PyData := .int (n : Int)
theorem dp_vis {K : PySem.W.Frag} {H : Hp} : ∀ xs : List Nat, DpAll K H (xs.map vi) (xs.map di)
  | [] => .nil
  | n :: xs => .cons (.int (n : Int)) (dp_vis xs)
theorem dis_can : ∀ xs : List Nat, PyData.canLayAll0 (xs.map di) = true
  | [] => rfl
  | n :: xs => by
    show (true && PyData.canLayAll0 (xs.map di)) = true
    rw [dis_can xs]
    rfl
theorem dis_depth : ∀ xs : List Nat, PyData.depthAll (xs.map di) ≤ 1
  | [] => Nat.zero_le _
  | n :: xs => by
    have := dis_depth xs
    simp only [List.map_cons, PyData.depthAll, di, PyData.depth] at this ⊢
    omega
theorem shaped_ints (xs : List Nat) : SeqAt.shaped (.list (xs.map di)) = true := by
  have h1 := dis_can xs
  have h2 := dis_depth xs
  simp only [SeqAt.shaped, PyData.canLay0, PyData.depth, Bool.and_eq_true, decide_eq_true_eq]
  exact ⟨h1, decide_eq_true (by omega)⟩
theorem eqv_ints (xs ys : List Nat) : PyData.eqv (.list (xs.map di)) (.list (ys.map di)) = decide (xs = ys) := by
  have h : ∀ xs ys : List Nat, PyData.eqvAll (xs.map di) (ys.map di) = decide (xs = ys) := by
    intro xs
    induction xs with
    | nil =>
      intro ys
      cases ys with
      | nil => rfl
      | cons y ys => simp [PyData.eqvAll]
    | cons x xs ih =>
      intro ys
      cases ys with
      | nil => simp [PyData.eqvAll]
      | cons y ys =>
        show (PyData.eqv (di x) (di y) && PyData.eqvAll (xs.map di) (ys.map di)) = _
        rw [ih ys]
        by_cases e : x = y
        · subst e
          simp [PyData.eqv, di]
        · have h' : ¬ (x : Int) = (y : Int) := by omega
          simp [PyData.eqv, di, e, h']
  show PyData.eqvAll (xs.map di) (ys.map di) = _
  exact h xs ys
theorem dp_list {K : PySem.W.Frag} {H : Hp} {a : Addr} {xs : List Nat} (h : H a = some (.lst (xs.map vi))) : Dp K H (.ref a) (.list (xs.map di)) := .lst (SqL.of h) (dp_vis xs)
end HL
namespace HX
open PySem PySem.Spec PyProof.Rows L2 SX HL
section
variable {Y : Cx} {cx : CXT} {n : Nat} {g cl : Addr} {gd : FuncData} {qs : List Str} {pr : Sp} {Ex : L2.St → XK} {nm : Str} {p0 q0 r0 : Pos} {a0 o0 : Expr} {as : List Expr} {to_ : TE} {ar : TA}
/-- a method called where what it lets out is wanted by the slots -/
def tMethS (cl : Addr) (nm : Str) (pr : Sp) (Ex : L2.St → XK) (to_ : TE) (ar : TA) : TE := fun σ H Q => to_ σ H fun x H1 => ∃ a dx fs, x = .ref a ∧ H1 a = some (.ins cl dx fs) ∧ fs.lookup nm = none ∧
  ar σ H1 fun vs H2 => pr (x :: vs) H2 Q (Ex σ)
theorem pe_methS1 {pl : Sem Bool} (ho : PE Y o0 to_) (cc : Cls Y.K cl) (mm : Meth Y.K cl nm g) (G : FnOk Y.prog Y.w Y.K Y.mg Y.base cx n g gd qs pr) (room : Room n Y.A) (bb : Binds Y.K gd qs []) (hx : ∀ σ, PassesAt cx Y σ (Ex σ)) (ha : PA Y (a0 :: as) ar)
    (hst : starEach (a0 :: as) Y.env = (false, eval a0 Y.env) :: starEach as Y.env := by rfl) (hpl : (backTo p0 (starEach as Y.env)).any (·.1) = false := by rfl)
    (ht : eval (.Call (.Attribute o0 nm r0) (a0 :: as) [] p0) Y.env = (do
      let ob ← eval o0 Y.env
      standAt r0.atName
      let (fn, fst) ← holding [ob] (getMethod ob nm pl)
      callWith p0 fn fst (backTo p0 (starEach (a0 :: as) Y.env)) (backToKw p0 (keywordEach [] Y.env))) := by rfl) :
    PE Y (.Call (.Attribute o0 nm r0) (a0 :: as) [] p0) (tMethS cl nm pr Ex to_ ar) := by
  refine ⟨fun pins s σ H Q I0 h0 => PySem.W.methodCall_KW (pl := pl) (thn (ho.run pins s σ H _ I0 h0) fun u s1 ⟨x, H1, I1, rx, a, dx, fs, ex, ea, l, q⟩ => ?_) ht⟩
  subst ex
  obtain rfl : u = Value.ref a := rx
  refine getmeth_ok I1 ea cc mm l (PySem.W.callWith_K (first := [.ref a]) (h₀ := Y.base) I1.ok.mod.kin mm.kp (thn (ha.run p0 pins s1 σ H1 _ I1 q) fun us s2 ⟨vs, H2, I2, r, q2⟩ => ⟨I2.kIn, ?_⟩) hst hpl)
  exact run_fnS (us := .ref a :: us) (vs := .ref a :: vs) G room bb (hx σ) I2 (.cons rfl r) q2
theorem pe_methS0 {pl : Sem Bool} (ho : PE Y o0 to_) (cc : Cls Y.K cl) (mm : Meth Y.K cl nm g) (G : FnOk Y.prog Y.w Y.K Y.mg Y.base cx n g gd qs pr) (room : Room n Y.A) (bb : Binds Y.K gd qs []) (hx : ∀ σ, PassesAt cx Y σ (Ex σ))
    (ht : eval (.Call (.Attribute o0 nm r0) [] [] p0) Y.env = (do
      let ob ← eval o0 Y.env
      standAt r0.atName
      let (fn, fst) ← holding [ob] (getMethod ob nm pl)
      callWith p0 fn fst (backTo p0 (starEach [] Y.env)) (backToKw p0 (keywordEach [] Y.env))) := by rfl) :
    PE Y (.Call (.Attribute o0 nm r0) [] [] p0) (tMethS cl nm pr Ex to_ tNil) := by
  refine ⟨fun pins s σ H Q I0 h0 => PySem.W.methodCall_KW (pl := pl) (thn (ho.run pins s σ H _ I0 h0) fun u s1 ⟨x, H1, I1, rx, a, dx, fs, ex, ea, l, q⟩ => ?_) ht⟩
  subst ex
  obtain rfl : u = Value.ref a := rx
  exact getmeth_ok I1 ea cc mm l (PySem.W.callWith_K0 (first := [.ref a]) I1.kIn mm.kp (run_fnS (us := [.ref a]) (vs := [.ref a]) G room bb (hx σ) I1 (.cons rfl .nil) q))
theorem pe_callS0 (G : FnOk Y.prog Y.w Y.K Y.mg Y.base cx n g gd qs pr) (room : Room n Y.A) (hg : Gl Y nm) (hm : Y.mg nm = some (.ref g)) (hk : PySem.W.keepIn Y.K (.ref g) = true) (bb : Binds Y.K gd qs []) (hx : ∀ σ, PassesAt cx Y σ (Ex σ))
    (hdb : (nm == ("__debug__" : Str)) = false := by decide) : PE Y (.Call (.Name nm q0) [] [] p0) (tCallS pr Ex tNil) := by
  refine ⟨fun pins s σ H Q I0 h0 => wpAny_Call_Name_kw (ld_glob I0 hg hm ?_ hdb)⟩
  exact PySem.W.callWith_K0 I0.kIn hk (run_fnS (us := []) G room bb (hx σ) I0 .nil h0)
end
end HX
namespace HX
open PySem PySem.Spec PyProof.Rows L2 SX HL
theorem bd_full {K : PySem.W.Frag} {fd : FuncData} {ps : List Str} (h : ∃ ds, Vals [] ds ∧ Binds K fd ps ds) : Binds K fd ps [] := by
  obtain ⟨ds, v, b⟩ := h
  cases v
  exact b
/-- a method whose last parameters have defaults -/
structure DefMD (K : PySem.W.Frag) (C : Addr) (x q : Str) (st : Stmt) (ps : List Str) (dvs : List V) (f : Addr) (fd : FuncData) : Prop where
  F : FunD K x q (defArgs st) (defBody st) (defScope st) dvs [] f fd
  m : Meth K C x f
  bd : ∃ ds, Vals dvs ds ∧ Binds K fd ps ds
  b : Binds K fd ps []
end HX
namespace HX
open PySem PySem.Spec PyProof.Rows L2 SX HL
/-! ### rules within comprehensions: K is told -/
section
variable {X : Cx} {K : PySem.W.Frag}
theorem call_len_seqK (h : X.K = K) : CallR X (.builtin "len") (fun xs H Q => ∃ p ys, xs = [.ref p] ∧ (SqL K H p ys ∨ SqT K H p ys) ∧ Q (.int ys.length) H) := by
  subst h
  exact call_len_seq
theorem op_eqDK (h : X.K = K) (hu : X.A.units + 64 < cLine) : OpR X (compareOp .Eq) (rEqD K) := by
  subst h
  exact op_eqD hu
theorem op_neDK (h : X.K = K) (hu : X.A.units + 64 < cLine) : OpR X (compareOp .NotEq) (rNeD K) := by
  subst h
  exact op_neD hu
theorem sl_listK (h : X.K = K) : SlR X (rSlL K) := by
  subst h
  exact sl_list
theorem ix_seqK (h : X.K = K) : IxR X (rIx K) := by
  subst h
  exact ix_seq
theorem op_inDK (h : X.K = K) (hu : X.A.units + 65 < cLine) : OpR X (compareOp .In) (rInD K) := by
  subst h
  exact op_inD hu
theorem op_notInDK (h : X.K = K) (hu : X.A.units + 65 < cLine) : OpR X (compareOp .NotIn) (rNotInD K) := by
  subst h
  exact op_notInD hu
theorem call_list_ofK (h : X.K = K) : CallR X (.type "list") (fun xs H Q => ∃ p ys, xs = [.ref p] ∧ (SqL K H p ys ∨ SqT K H p ys) ∧ ∀ l, H l = none → Q (.ref l) (upd H l (.lst ys))) := by
  subst h
  exact call_list_of
theorem call_isBK (h : X.K = K) : CallR X (.builtin "isinstance") (rIsB K) := by
  subst h
  exact call_isB
end
end HX
namespace HE
open PySem PySem.Spec PyProof.Rows L2 SX HL
/-! ## enumerate of a text, of a dict's keys -/
section
variable {prog : Program} {w : World} {A : Around} {E : Value → Shared → Prop} {s : Shared}
theorem keys_item {it d : Addr} {i n ep : Nat} {od : Obj} {es : Array DictEntry} {en : DictEntry} {Q : Value → Shared → Prop} (hit : s.heap.IsKeyIter it d i n ep) (hod : s.heap.get? d = some od) (hdd : od.data = .dict es ep) (hn : es.size = n) (hx : es[i]? = some en)
    (q : ∀ h', h'.IsKeyIter it d (i + 1) n ep → Heap.SameBut it s.heap h' → Q en.key { s with heap := h' }) : wpAny (model prog w) A (Builtin.SmallTypes.nextOf (.ref it)) Q E s := by
  obtain ⟨o, ho, oc, hd⟩ := id hit
  unfold Builtin.SmallTypes.nextOf
  refine wpAny_bind (wpAny_callSpecial?_slot (name := Str.ofString "__next__") hit.typeIs F.slot_dict_keyiterator_next (wpAny_call_entry F.slot_dict_keyiterator_next hit.typeIs F.entry_dict_keyiterator_next ?_ (F.args_dict_keyiterator_next_1 _)))
  refine wpAny_bind (wpAny_pure (wpAny_bind (wpAny_bind ?_)))
  first | refine wpAny_bind (wpAny_typeNameOfWhole_keyiter hit.typeIs (wpAny_pure (wpAny_bind (wpAny_fieldsOf ho hd ?_)))) | refine wpAny_bind (wpAny_typeNameOf_keyiter hit.typeIs (wpAny_pure (wpAny_bind (wpAny_fieldsOf ho hd ?_))))
  have own : Builtin.Dict_items.ownsTuple "dict_keyiterator" = false := by decide
  simp only [own, Bool.false_eq_true, if_false]
  show wpAny _ A.in1 (if (Value.ref d == Value.none) = true then _ else _) _ _ s
  rw [if_neg (show ¬ (Value.ref d == Value.none) = true from Bool.false_ne_true)]; refine wpAny_bind (wpAny_pure (wpAny_bind (wpAny_dictEntries hod hdd ?_)))
  rw [if_neg (by rw [hn]; simp)]; refine wpAny_bind (wpAny_pure (wpAny_bind (wpAny_dictEpoch hod hdd ?_)))
  rw [if_neg (by simp)]; refine wpAny_pure ?_
  obtain ⟨lt, he⟩ := Array.getElem?_eq_some_iff.mp hx
  simp only [show ¬ ((i : Int) < 0) from by omega, if_false, Int.toNat_natCast, Array.getElem?_eq_getElem lt]; refine wpAny_bind ?_
  first | refine wpAny_bind (wpAny_typeNameOfWhole_keyiter hit.typeIs (wpAny_pure (wpAny_bind (wpAny_isOneOf_keyiter hit.typeIs ?_)))) | refine wpAny_bind (wpAny_typeNameOf_keyiter hit.typeIs (wpAny_pure (wpAny_bind (wpAny_isOneOf_keyiter hit.typeIs ?_))))
  show wpAny _ _ (setField (.ref it) 1 (rawInt ((i : Int) + 1)) >>= _) _ _ s
  refine wpAny_bind (wpAny_setField ho hd (by simp) ?_)
  have it2 : (s.heap.update it (Obj.mapFields (·.setIfInBounds 1 (rawInt ((i : Int) + 1))))).IsKeyIter it d (i + 1) n ep := ⟨_, Heap.get?_update_self _ ho (Obj.isFreed_of_fields (Obj.data_mapFields hd _)), (Obj.cls_mapFields ..).trans oc, by rw [Obj.data_mapFields hd]; simp [rawInt]⟩
  refine wpAny_bind (wpAny_holding (wpAny_bind (wpAny_isOneOf_keyiter (s := { s with heap := s.heap.update it (Obj.mapFields (·.setIfInBounds 1 (rawInt ((i : Int) + 1)))) }) it2.typeIs ?_)))
  show wpAny _ A.in1 (pure es[i].key) _ _ _
  rw [he]; exact wpAny_pure (wpAny_pure ⟨_, rfl, wpAny_pure (q _ it2 (Heap.SameBut.update ..))⟩)
theorem keys_end {it d : Addr} {i n ep : Nat} {od : Obj} {es : Array DictEntry} {Q : Value → Shared → Prop} (hh : A.handled = none) (hit : s.heap.IsKeyIter it d i n ep) (hod : s.heap.get? d = some od) (hdd : od.data = .dict es ep) (hn : es.size = n) (hge : n ≤ i)
    (q : ∀ h' x, Heap.ExtBut it s.heap h' → (∃ o, h'.get? x = some o ∧ o.cls = .type "StopIteration") → E (.ref x) { s with heap := h' }) : wpAny (model prog w) A (Builtin.SmallTypes.nextOf (.ref it)) Q E s := by
  obtain ⟨o, ho, oc, hd⟩ := id hit
  unfold Builtin.SmallTypes.nextOf
  refine wpAny_bind (wpAny_callSpecial?_slot (name := Str.ofString "__next__") hit.typeIs F.slot_dict_keyiterator_next (wpAny_call_entry F.slot_dict_keyiterator_next hit.typeIs F.entry_dict_keyiterator_next ?_ (F.args_dict_keyiterator_next_1 _)))
  refine wpAny_bind (wpAny_pure (wpAny_bind (wpAny_bind ?_)))
  first | refine wpAny_bind (wpAny_typeNameOfWhole_keyiter hit.typeIs (wpAny_pure (wpAny_bind (wpAny_fieldsOf ho hd ?_)))) | refine wpAny_bind (wpAny_typeNameOf_keyiter hit.typeIs (wpAny_pure (wpAny_bind (wpAny_fieldsOf ho hd ?_))))
  have own : Builtin.Dict_items.ownsTuple "dict_keyiterator" = false := by decide
  simp only [own, Bool.false_eq_true, if_false]
  show wpAny _ A.in1 (if (Value.ref d == Value.none) = true then _ else _) _ _ s
  rw [if_neg (show ¬ (Value.ref d == Value.none) = true from Bool.false_ne_true)]; refine wpAny_bind (wpAny_pure (wpAny_bind (wpAny_dictEntries hod hdd ?_)))
  rw [if_neg (by rw [hn]; simp)]; refine wpAny_bind (wpAny_pure (wpAny_bind (wpAny_dictEpoch hod hdd ?_)))
  rw [if_neg (by simp)]; refine wpAny_pure ?_
  have ge : es.size ≤ i := by rw [hn]; exact hge
  simp only [show ¬ ((i : Int) < 0) from by omega, if_false, Int.toNat_natCast, Array.getElem?_eq_none ge]; refine wpAny_bind ?_
  first | refine wpAny_bind (wpAny_typeNameOfWhole_keyiter hit.typeIs (wpAny_pure ?_)) | refine wpAny_bind (wpAny_typeNameOf_keyiter hit.typeIs (wpAny_pure ?_))
  show wpAny _ A.in1 (setField (.ref it) 0 .none >>= _) _ _ s
  refine wpAny_bind (wpAny_setField ho hd (by simp) ?_)
  show wpAny _ A.in1 (newExc (.type "StopIteration") [] >>= _) _ _ _
  refine wpAny_bind ?_
  simp only [newExc, newTuple]; refine wpAny_bind (wpAny_newObj_type ?_ (by size_fits))
  refine wpAny_bind (m := firstArgMember _ _) (wpAny_of_eq (a := Value.none) (by first | rfl | (simp only [firstArgMember]; rfl)) (wpAny_newObj_type ?_ (by size_fits)))
  simp only [raiseNew]; refine wpAny_bind (wpAny_handled ?_)
  first | rw [show A.in1.handled = none from hh] | rw [hh]
  refine wpAny_bind (wpAny_pure (wpAny_throw ?_))
  exact q _ _ (((Heap.SameBut.update ..).extBut.push _).push _) ⟨_, Heap.get?_push_size _ rfl, rfl⟩
theorem draws_keys (hh : A.handled = none) (it d : Addr) (hne : d ≠ it) {od : Obj} {es : Array DictEntry} {ep : Nat} (hdd : od.data = .dict es ep) :
    Draws prog w A it [it, d] es.size (fun i v => ∃ en, es[i]? = some en ∧ v = en.key) (fun i h => h.IsKeyIter it d i es.size ep ∧ h.get? d = some od) where
  live := fun _ _ st => let ⟨o, ho, _⟩ := st.1; ⟨o, ho⟩
  frame := fun _ _ _ st k => ⟨st.1.at fun o e => k it (by simp) o e, k d (by simp) _ st.2⟩
  item := fun i s Q E hi st q => by
    refine keys_item st.1 st.2 hdd rfl (en := es[i]) (Array.getElem?_eq_getElem hi) fun h' it' sb => ?_
    exact q _ h' s.toks ⟨_, Array.getElem?_eq_getElem hi, rfl⟩ ⟨it', (sb.2 d hne).trans st.2⟩ sb
  done := fun s Q E st q => keys_end hh st.1 st.2 hdd rfl (Nat.le_refl _) q
end
open AutoSeq1 (wpAny_loadPart')
theorem meets_keys (d : Addr) (o : Obj) (es : Array DictEntry) (ep : Nat) (hd : (d == sysModules) = false) (hc : o.ExactDict) (hdat : o.data = .dict es ep) :
    Meets (Builtin.«enumerate.__new__» ⟨[.type "enumerate", .ref d], []⟩) (fun _ R s => s.heap.get? d = some o ∧
      R (.ok (.ret (.ref (s.heap.push { cls := .type "dict_keyiterator", data := .fields #[.ref d, .int 0 0, .int es.size 0, .int ep 0] }).objs.size)))
        { s with heap := (s.heap.push { cls := .type "dict_keyiterator", data := .fields #[.ref d, .int 0 0, .int es.size 0, .int ep 0] }).push { cls := .type "enumerate", data := .fields #[.none, .bool false, .ref s.heap.objs.size, rawInt 0, .none, .none] } }) :=
  .of_wp fun prog w A R s h => by
    obtain ⟨hp, g, dr, tk, os⟩ := s
    obtain ⟨ho, h⟩ := h
    have hsub := sub_enumerate
    have ik : ∀ {A : Around} {E : Value → Shared → Prop} {Q : Value → Shared → Prop}, Q (.ref hp.objs.size) ⟨hp.push { cls := .type "dict_keyiterator", data := .fields #[.ref d, .int 0 0, .int es.size 0, .int ep 0] }, g, dr, tk, os⟩ → wpAny (model prog w) A (pyIter (.ref d)) Q E ⟨hp, g, dr, tk, os⟩ := fun q => iter_keys (s := ⟨hp, g, dr, tk, os⟩) hd ho hc hdat q
    wp_walk using wpAny_loadPart' ho
    refine wpAny_stack_any fun st => wpAny_pure ?_
    split
    · rename_i c _ _ _ _ _
      cases (c == Value.type "enumerate") <;> (wp_walk using wpAny_loadPart' ho, ik; exact ⟨_, rfl, h⟩)
    · wp_walk using wpAny_loadPart' ho, ik
      exact ⟨_, rfl, h⟩
theorem call_enum_keys {prog : Program} {w : World} {A : Around} {E : Value → Shared → Prop} {s : Shared} {d : Addr} {o : Obj} {es : Array DictEntry} {ep : Nat} {Q : Value → Shared → Prop} (hd : (d == sysModules) = false) (ho : s.heap.get? d = some o) (hc : o.ExactDict) (hdat : o.data = .dict es ep)
    (q : ∀ h', IsEnum h' (s.heap.objs.size + 1) s.heap.objs.size 0 .none → h'.IsKeyIter s.heap.objs.size d 0 es.size ep → (∀ b x, s.heap.get? b = some x → h'.get? b = some x) → Q (.ref (s.heap.objs.size + 1)) { s with heap := h' }) :
    wpAny (model prog w) A (call (.type "enumerate") [.ref d]) Q E s := by
  refine callType_new F.called_enumerate (by decide) (F.typeCall_enumerate_1 _) (F.newCall_enumerate_1 _) (fun obj => F.args_object_init_2 obj _) F.entry_enumerate_new (meets_keys d o es ep hd hc hdat) ⟨ho, ?_⟩
  have hz : (s.heap.push { cls := .type "dict_keyiterator", data := .fields #[.ref d, .int 0 0, .int es.size 0, .int ep 0] }).objs.size = s.heap.objs.size + 1 := Heap.size_push ..
  show _ ∧ _
  rw [hz]
  have he : IsEnum ((s.heap.push { cls := .type "dict_keyiterator", data := .fields #[.ref d, .int 0 0, .int es.size 0, .int ep 0] }).push { cls := .type "enumerate", data := .fields #[.none, .bool false, .ref s.heap.objs.size, rawInt 0, .none, .none] }) (s.heap.objs.size + 1) s.heap.objs.size 0 .none := by
    have := Heap.get?_push_size (s.heap.push { cls := .type "dict_keyiterator", data := .fields #[.ref d, .int 0 0, .int es.size 0, .int ep 0] }) (o := { cls := .type "enumerate", data := .fields #[.none, .bool false, .ref s.heap.objs.size, rawInt 0, .none, .none] }) rfl
    rwa [hz] at this
  exact ⟨⟨_, he, rfl⟩, q _ he ⟨_, Heap.get?_push_of_some _ (Heap.get?_push_size _ rfl), rfl, rfl⟩ fun b x e => Heap.get?_push_of_some _ (Heap.get?_push_of_some _ e)⟩
/-- (0, key), (1, key), ..: the locked dict at d -/
def Itek (d : Addr) (o : Obj) (kvs : List (Key × V)) : It :=
  ⟨fun i H => H d = some (.frz o (.dK kvs)) ∧ i < kvs.length, fun i H v H' => ∃ T k x, kvs[i]? = some (k, x) ∧ v = .ref T ∧ H T = none ∧ H' = upd H T (.tup [.int (i : Nat), kV k]), fun i H => H d = some (.frz o (.dK kvs)) ∧ kvs.length ≤ i⟩
theorem turn_enumK {P : Program} {w : World} {K : PySem.W.Frag} {elts : List Expr} {kk : Nat} {tpos : Pos} {d : Addr} {o : Obj} {kvs : List (Key × V)} {es : Array DictEntry} {ep : Nat} (e it : Addr) (hod : o.data = .dict es ep) :
    Turn P w K (.Tuple elts kk tpos) (Itek d o kvs) [e, it] e (fun i h => (∃ old, IsEnum h e it ((i : Nat) : Int) old) ∧ h.IsKeyIter it d i kvs.length ep ∧ e ≠ it ∧ i ≤ kvs.length) where
  mem := by simp
  obj := fun i h st b hb => by
    obtain ⟨⟨old, he⟩, ⟨o', ho, hc, hd⟩, _⟩ := st
    rcases (show b = e ∨ b = it by simpa using hb) with z | z
    · rw [z]; exact ⟨_, he, fun v q => nomatch q⟩
    · rw [z]; exact ⟨o', ho, fun v q => by rw [hd] at q; cases q⟩
  keep := fun i h h' st k => let ⟨⟨old, he⟩, hi, hne, hle⟩ := st; ⟨⟨old, k e (by simp) _ he⟩, hi.at fun o q => k it (by simp) o q, hne, hle⟩
  item := by
    intro X hP hw hK hc i pins s σ H E I hf st hg
    subst hP hw hK
    obtain ⟨⟨old, he⟩, hit, hne, hle⟩ := st
    obtain ⟨hd, hi⟩ := hg
    obtain ⟨hs, hgd, hx, es', ep', vs, hdt, hsz, kv, hm⟩ := I.frzK hd
    obtain ⟨rfl, rfl⟩ := dict_ep hod hdt
    have hel : e < s.heap.objs.size := Heap.lt_size he
    have hil : it < s.heap.objs.size := by obtain ⟨_, q, _⟩ := hit; exact Heap.lt_size q
    have nd : ∀ b, FpOk X pins H b → d ≠ b := fun b hb z => by rw [← z] at hb; have := hb.1; rw [hd] at this; cases this
    have ndi := nd it (hf it (by simp))
    have nde := nd e (hf e (by simp))
    obtain ⟨⟨k, v⟩, hkv⟩ : ∃ p, kvs[i]? = some p := ⟨kvs[i], List.getElem?_eq_getElem hi⟩
    have D := draws_keys (prog := X.prog) (w := X.w) (A := X.A.in1) (I.ok.hd hc) it d ndi hdt
    rw [← hsz] at hit hi
    refine wpAny_pyNext_enum_itemD D he ⟨hit, hgd⟩ hi hne (by simp [hne, nde.symm]) fun x h' tk hP ho st' hT hsz' hk => ?_
    obtain ⟨en, hen, rfl⟩ := hP
    refine ⟨_, rfl, wpAny_letOwnedTupleGo_enum (s := { s with heap := h', toks := tk + 1 }) ho fun h'' he' sb => ?_⟩
    have hT2 : h''.get? s.heap.objs.size = some { cls := .type "tuple", data := .seq #[.int i tk, en.key] } := (sb.2 _ (Nat.ne_of_gt hel)).trans hT
    have rk : RelV (kV k) en.key := by
      obtain ⟨u, hu, _⟩ := kv_get kv hkv
      obtain ⟨od, es2, hod2, hcd, hdd, hks, hp, hnn⟩ := id hm
      rw [hgd] at hod2
      cases hod2
      rw [hdt] at hdd
      cases hdd
      exact relV_key (hp.get? (by simpa using hen) hu).1
    have new : ObjOk X.prog X.w (upd H s.heap.objs.size (.tup [.int (i : Nat), kV k])) h'' s.heap.objs.size (.tup [.int (i : Nat), kV k]) :=
      ⟨by show 2 ≤ sizeLine; decide, [.int i tk, en.key], .cons ⟨_, rfl⟩ (.cons rk .nil), ⟨_, hT2, rfl, _, rfl⟩⟩
    have I1 : Inv X pins σ (upd H s.heap.objs.size (.tup [.int (i : Nat), kV k])) { s with heap := h'', toks := tk + 1 } :=
      I.turnedNew (ch := [e, it]) (fun b ob hb q => (sb.2 b (fun z => hb (by simp [z]))).trans (hk b ob (fun z => hb (by simp [z])) (fun z => hb (by simp [z])) q)) hf (Nat.le_refl _) new
    refine ⟨.ref s.heap.objs.size, _, I1, rfl, ⟨_, k, v, hkv, rfl, I.hok.fresh (Nat.le_refl _), rfl⟩, ⟨⟨en.key, ?_⟩, ?_, hne, by omega⟩, fun b hb => ?_⟩
    · have e1 : ((i + 1 : Nat) : Int) = (i : Int) + 1 := by omega
      rw [e1]; exact he'
    · rw [← hsz]
      exact st'.1.at fun o q => (sb.2 it (Ne.symm hne)).trans q
    · have hb' : b < s.heap.objs.size := by
        rcases (show b = e ∨ b = it by simpa using hb) with z | z
        · rw [z]; exact hel
        · rw [z]; exact hil
      rw [upd_ne (Nat.ne_of_lt hb')]
      exact (hf b hb).1
  done := by
    intro X hP hw hK hc i pins s σ H E I hf st hg
    subst hP hw hK
    obtain ⟨⟨old, he⟩, hit, hne, hle⟩ := st
    obtain ⟨hd, hi⟩ := hg
    obtain ⟨hs, hgd, hx, es', ep', vs, hdt, hsz, kv, hm⟩ := I.frzK hd
    obtain ⟨rfl, rfl⟩ := dict_ep hod hdt
    obtain ⟨f0, f1, f2, f3, f4, f5⟩ := hf it (by simp)
    have nd : d ≠ it := fun z => by rw [← z, hd] at f0; cases f0
    have nde : d ≠ e := fun z => by have := (hf e (by simp)).1; rw [← z, hd] at this; cases this
    have ei : i = es'.size := by omega
    have D := draws_keys (prog := X.prog) (w := X.w) (A := X.A.in1) (I.ok.hd hc) it d nd hdt
    rw [← hsz, ei] at hit
    rw [ei] at he
    exact wpAny_pyNext_enum_endD D he ⟨hit, hgd⟩ fun h' eb => ⟨rfl, I.turned (t' := s.toks) (fun b o hb q => eb b o hb q) f0 f1 f3 f4 f5⟩
  self := fun A i s Q E st h => let ⟨⟨_, he⟩, _⟩ := st; wpAny_pyIter_enum he h
def iEnumK (ta : TA) : TI := fun σ H R => ta σ H fun vs H1 => ∃ d o kvs, vs = [.ref d] ∧ H1 d = some (.frz o (.dK kvs)) ∧ R (Itek d o kvs) H1
/-- for i, k in enumerate(d), d locked -/
theorem pi_enumK {X : Cx} {e : Expr} {ta : TA} {p pos tpos : Pos} {elts : List Expr} {kk : Nat} (hg : Gl X "enumerate") (hm : X.mg "enumerate" = none) (ha : PA X [e] ta) (hs : starEach [e] X.env = [(false, eval e X.env)] := by rfl) :
    PI X (.Tuple elts kk tpos) (.Call (.Name "enumerate" p) [e] [] pos) (iEnumK ta) := by
  refine ⟨fun pins s σ H R I h => Call_ (ld_blt I hg hm boot_enumerate (PyProof.Rows.callWith_type1 (thn (ha.run pos pins s σ H _ I h) fun us s1 ⟨vs, H1, I1, r1, q1⟩ => ?_) hs rfl))⟩
  obtain ⟨d, o, kvs, ex, hd, q⟩ := q1
  subst ex
  cases r1 with
  | cons r rr =>
    cases rr
    cases r
    obtain ⟨hsm, hgd, hx, es, ep, vs, hdt, hsz, kv, hmm⟩ := I1.frzK hd
    refine call_enum_keys hsm hgd hx hdt fun h' he hit hk => wpAny_pyIter_enum he ?_
    have I2 : Inv X pins σ H1 { s1 with heap := h' } := I1.kept (t' := s1.toks) hk
    rw [hsz] at hit
    refine ⟨s1.heap.objs.size + 1, [s1.heap.objs.size + 1, s1.heap.objs.size], _, _, H1, rfl, I2, turn_enumK (s1.heap.objs.size + 1) s1.heap.objs.size hdt, ⟨⟨.none, he⟩, hit, Nat.succ_ne_self _, Nat.zero_le _⟩, fun b hb => ?_, q⟩
    have hle : s1.heap.objs.size ≤ b := by
      rcases (show b = s1.heap.objs.size + 1 ∨ b = s1.heap.objs.size by simpa using hb) with z | z
      · rw [z]; exact Nat.le_add_right _ _
      · rw [z]; exact Nat.le_refl _
    exact I1.fpOk hle (I1.hok.fresh hle)
/-- (0, sign), (1, sign), ..: a text -/
def Ites (z : Str) : It :=
  ⟨fun i _ => i < z.cps.size, fun i H v H' => ∃ T c, z.cps[i]? = some c ∧ v = .ref T ∧ H T = none ∧ H' = upd H T (.tup [.int (i : Nat), .str ⟨#[c]⟩]), fun i _ => z.cps.size ≤ i⟩
theorem draws_str {prog : Program} {w : World} {A : Around} (hh : A.handled = none) (it : Addr) (x : Str) (t : Tok) : Draws prog w A it [it] x.cps.size (fun i v => ∃ c u, x.cps[i]? = some c ∧ v = .str ⟨#[c]⟩ u) (fun i h => h.IsStrIter it (strIterType x) x t i) := by
  unfold strIterType
  split
  · exact Draws.strAscii hh it x t
  · exact Draws.strWide hh it x t
theorem turn_enumS {P : Program} {w : World} {K : PySem.W.Frag} {elts : List Expr} {kk : Nat} {tpos : Pos} {z : Str} {t : Tok} (e it : Addr) :
    Turn P w K (.Tuple elts kk tpos) (Ites z) [e, it] e (fun i h => (∃ old, IsEnum h e it ((i : Nat) : Int) old) ∧ h.IsStrIter it (strIterType z) z t i ∧ e ≠ it ∧ i ≤ z.cps.size) where
  mem := by simp
  obj := fun i h st b hb => by
    obtain ⟨⟨old, he⟩, ⟨o', ho, hc, hd⟩, _⟩ := st
    rcases (show b = e ∨ b = it by simpa using hb) with y | y
    · rw [y]; exact ⟨_, he, fun v q => nomatch q⟩
    · rw [y]; exact ⟨o', ho, fun v q => by rw [hd] at q; cases q⟩
  keep := fun i h h' st k => let ⟨⟨old, he⟩, ⟨o, ho, r⟩, hne, hle⟩ := st; ⟨⟨old, k e (by simp) _ he⟩, ⟨o, k it (by simp) o ho, r⟩, hne, hle⟩
  item := by
    intro X hP hw hK hc i pins s σ H E I hf st hi
    subst hP hw hK
    obtain ⟨⟨old, he⟩, hit, hne, hle⟩ := st
    have hel : e < s.heap.objs.size := Heap.lt_size he
    have hil : it < s.heap.objs.size := by obtain ⟨_, q, _⟩ := hit; exact Heap.lt_size q
    have D := draws_str (prog := X.prog) (w := X.w) (A := X.A.in1) (I.ok.hd hc) it z t
    refine wpAny_pyNext_enum_itemD D he hit hi hne (by simp [hne]) fun x h' tk hP ho st' hT hsz' hk => ?_
    obtain ⟨c, u, hcu, rfl⟩ := hP
    refine ⟨_, rfl, wpAny_letOwnedTupleGo_enum (s := { s with heap := h', toks := tk + 1 }) ho fun h'' he' sb => ?_⟩
    have hT2 : h''.get? s.heap.objs.size = some { cls := .type "tuple", data := .seq #[.int i tk, .str ⟨#[c]⟩ u] } := (sb.2 _ (Nat.ne_of_gt hel)).trans hT
    have new : ObjOk X.prog X.w (upd H s.heap.objs.size (.tup [.int (i : Nat), .str ⟨#[c]⟩])) h'' s.heap.objs.size (.tup [.int (i : Nat), .str ⟨#[c]⟩]) :=
      ⟨by show 2 ≤ sizeLine; decide, [.int i tk, .str ⟨#[c]⟩ u], .cons ⟨_, rfl⟩ (.cons ⟨_, rfl⟩ .nil), ⟨_, hT2, rfl, _, rfl⟩⟩
    have I1 : Inv X pins σ (upd H s.heap.objs.size (.tup [.int (i : Nat), .str ⟨#[c]⟩])) { s with heap := h'', toks := tk + 1 } :=
      I.turnedNew (ch := [e, it]) (fun b ob hb q => (sb.2 b (fun z => hb (by simp [z]))).trans (hk b ob (fun z => hb (by simp [z])) (fun z => hb (by simp [z])) q)) hf (Nat.le_refl _) new
    have hi' : i < z.cps.size := hi
    refine ⟨.ref s.heap.objs.size, _, I1, rfl, ⟨_, c, hcu, rfl, I.hok.fresh (Nat.le_refl _), rfl⟩, ⟨⟨.str ⟨#[c]⟩ u, ?_⟩, ?_, hne, by omega⟩, fun b hb => ?_⟩
    · have e1 : ((i + 1 : Nat) : Int) = (i : Int) + 1 := by omega
      rw [e1]; exact he'
    · obtain ⟨o, ho', r⟩ := st'
      exact ⟨o, (sb.2 it (Ne.symm hne)).trans ho', r⟩
    · have hb' : b < s.heap.objs.size := by
        rcases (show b = e ∨ b = it by simpa using hb) with y | y
        · rw [y]; exact hel
        · rw [y]; exact hil
      rw [upd_ne (Nat.ne_of_lt hb')]
      exact (hf b hb).1
  done := by
    intro X hP hw hK hc i pins s σ H E I hf st hi
    subst hP hw hK
    obtain ⟨⟨old, he⟩, hit, hne, hle⟩ := st
    obtain ⟨f0, f1, f2, f3, f4, f5⟩ := hf it (by simp)
    have hi' : z.cps.size ≤ i := hi
    have ei : i = z.cps.size := by omega
    have D := draws_str (prog := X.prog) (w := X.w) (A := X.A.in1) (I.ok.hd hc) it z t
    rw [ei] at hit he
    exact wpAny_pyNext_enum_endD D he hit fun h' eb => ⟨rfl, I.turned (t' := s.toks) (fun b o hb q => eb b o hb q) f0 f1 f3 f4 f5⟩
  self := fun A i s Q E st h => let ⟨⟨_, he⟩, _⟩ := st; wpAny_pyIter_enum he h
def iEnumS (ta : TA) : TI := fun σ H R => ta σ H fun vs H1 => ∃ z, vs = [.str z] ∧ R (Ites z) H1
/-- for i, c in enumerate(text) -/
theorem pi_enumS {X : Cx} {e : Expr} {ta : TA} {p pos tpos : Pos} {elts : List Expr} {kk : Nat} (hg : Gl X "enumerate") (hm : X.mg "enumerate" = none) (ha : PA X [e] ta) (hs : starEach [e] X.env = [(false, eval e X.env)] := by rfl) :
    PI X (.Tuple elts kk tpos) (.Call (.Name "enumerate" p) [e] [] pos) (iEnumS ta) := by
  refine ⟨fun pins s σ H R I h => Call_ (ld_blt I hg hm boot_enumerate (PyProof.Rows.callWith_type1 (thn (ha.run pos pins s σ H _ I h) fun us s1 ⟨vs, H1, I1, r1, q1⟩ => ?_) hs rfl))⟩
  obtain ⟨z, ex, q⟩ := q1
  subst ex
  cases r1 with
  | cons r rr =>
    cases rr
    obtain ⟨t, rfl⟩ := r
    refine call_enumerate_str fun h' he hit hsz hk => wpAny_pyIter_enum he ?_
    have I2 : Inv X pins σ H1 { s1 with heap := h' } := I1.kept (t' := s1.toks) hk
    refine ⟨s1.heap.objs.size + 1, [s1.heap.objs.size + 1, s1.heap.objs.size], _, _, H1, rfl, I2, turn_enumS (s1.heap.objs.size + 1) s1.heap.objs.size, ⟨⟨.none, he⟩, hit, Nat.succ_ne_self _, Nat.zero_le _⟩, fun b hb => ?_, q⟩
    have hle : s1.heap.objs.size ≤ b := by
      rcases (show b = s1.heap.objs.size + 1 ∨ b = s1.heap.objs.size by simpa using hb) with y | y
      · rw [y]; exact Nat.le_add_right _ _
      · rw [y]; exact Nat.le_refl _
    exact I1.fpOk hle (I1.hok.fresh hle)
/-! ## name = {k: v for ..} on one line, the name a local -/
section
variable {X : Cx}
theorem ps_setDc {i : Nat} {y : Str} {py : Pos} {kx vx tg iter : Expr} {ifs : List Expr} {scope : Scope} {own : List (Str × Nat)} {pos spos : Pos} {wi : TI} {g : TG} {tt : TT} {tk tv : TE} (hc : X.calm = true) (hN : X.N.Nodup) (hy : X.N[i]? = some y) (hyl : X.env.scope.names.lookup y = some .local)
    (hsw : swapsWith (.DictComp kx vx [⟨tg, iter, ifs, 0⟩] scope pos) (some (.Name y py)) spos.line X.env = pure true) (hi : PI X tg iter wi) (ok : BlkOk X.N X.env.scope scope own)
    (hg : ∀ (s : Shared) (H : Hp) (C : Addr) (cl : List (Str × Addr)) (fp : List Addr), PG (X.blk s H scope (compEnvC scope cl C X.env) fp) tg g) (ht : ∀ (s : Shared) (H : Hp) (C : Addr) (cl : List (Str × Addr)) (fp : List Addr), PTs (X.blk s H scope (compEnvC scope cl C X.env) fp) ifs tt)
    (hk : ∀ (s : Shared) (H : Hp) (C : Addr) (cl : List (Str × Addr)) (fp : List Addr), PE (X.blk s H scope (compEnvC scope cl C X.env) fp) kx tk)
    (he : ∀ (s : Shared) (H : Hp) (C : Addr) (cl : List (Str × Addr)) (fp : List Addr), PE (X.blk s H scope (compEnvC scope cl C X.env) fp) vx tv) (hs : ∀ x, foldedSetIterable iter X.env x = pure x := by intro _; rfl) :
    PS X (.Assign [.Name y py] (.DictComp kx vx [⟨tg, iter, ifs, 0⟩] scope pos) spos) (tAsg (tDc wi g tt tk tv (own.map (·.2))) (gName i)) := by
  refine ⟨fun pins s σ H D I h => ?_⟩
  rw [exec_Assign_Name_used _ _ _ _ hsw]
  refine wpAny_bind (wpAny_standAt (wpAny_bind ?_))
  show wpAny _ X.A (do let _ ← comprehension (.DictComp kx vx [⟨tg, iter, ifs, 0⟩] scope pos) scope X.env (firstIterPos [⟨tg, iter, ifs, 0⟩] pos) newDict false (eval iter X.env) (some (assign (.Name y py) X.env))) _ _ s
  have h : tDc wi g tt tk tv (own.map (·.2)) σ H (fun x H1 => gName i x σ H1 D.nx) := h
  refine wpAny_bind (thn (dc_core (Qf := fun _ s' => SP X pins D .next s') hc hN I hi ok hg ht hk he hs h fun L C s' m H' I' q hn f => ?_) fun _ s' hq => wpAny_pure (wpAny_pure hq))
  show wpAny _ _ (assign (.Name y py) X.env (.ref L)) _ _ _
  refine wpAny_assign_Name (store_ok2 (v := V.ref L) I' hN hy (.inl hyl) rfl (fun s2 I2 ⟨a, sb, ha⟩ => ?_) (.inr hyl))
  obtain ⟨f0, f1, f2, f3, f4, f5⟩ := f
  have haC : C ≠ a := by
    rcases ha with z | z
    · rw [z]; exact f1
    · exact fun e => f4 y a z e.symm
  refine ⟨m, hn.sameBut sb haC, fun h3 sb3 => ?_⟩
  exact ⟨_, H', I2.turned (t' := s2.toks) (fun b o hb e => (sb3.2 b hb).trans e) f0 f1 f3 f4 f5, q⟩
theorem swd_true {kx vx : Expr} {gs : List Comprehension} {scope : Scope} {pos py : Pos} {y : Str} {l : Nat} {env : Env} (hk : env.scope.kind = .function) (hy : env.scope.names.lookup y = some .local) (hl : (py.line == pos.line) = true)
    (ha : (scope.names.any fun (n, k) => n == y && (k == .local || k == .cell)) = false) : swapsWith (.DictComp kx vx gs scope pos) (some (.Name y py)) l env = pure true := by
  have ky : env.kindOf y = some .local := hy
  have hb : env.blockKind = .function := by unfold Env.blockKind; rw [hk]; rfl
  unfold swapsWith
  simp only [hb, ky, ha, Expr.pos, hl]
  rfl
end
section
theorem walk_enumK {d : Addr} {o : Obj} {kvs : List (Key × V)} : Walk (Itek d o kvs) kvs.length (fun H => H d = some (.frz o (.dK kvs))) (YPair (fun i => some (.int (i : Nat))) (fun i => kvs[i]?.map fun kv => kV kv.1)) := by
  refine ⟨fun _ _ hi q => ⟨q, hi⟩, fun _ q => ⟨q, Nat.le_refl _⟩, fun i H x H' _ _ y => ?_⟩
  obtain ⟨T, k, v, h1, h2, h3, h4⟩ := y
  exact ⟨T, .int (i : Nat), kV k, h2, h3, h4, rfl, by simp [h1]⟩
theorem walk_enumS {z : Str} : Walk (Ites z) z.cps.size (fun _ => True) (YPair (fun i => some (.int (i : Nat))) (fun i => z.cps[i]?.map fun c => V.str ⟨#[c]⟩)) := by
  refine ⟨fun _ _ hi _ => hi, fun _ _ => Nat.le_refl _, fun i H x H' _ _ y => ?_⟩
  obtain ⟨T, c, h1, h2, h3, h4⟩ := y
  exact ⟨T, .int (i : Nat), .str ⟨#[c]⟩, h2, h3, h4, rfl, by simp [h1]⟩
variable {J : It} {n : Nat} {G : Hp → Prop} {Y : Nat → Hp → V → Hp → Prop}
/-- a dict comprehension over it -/
theorem dc_it (w : Walk J n G Y) {g : TG} {tt : TT} {tk tv : TE} {vs : List Nat} {σ : L2.St} {H1 : Hp} {D : Addr} {Qd : Hp → Prop} (Pv : Nat → Hp → Prop) (h0 : Pv 0 (upd H1 D (.dK []))) (hG : ∀ i H, i ≤ n → Pv i H → G H)
    (hs : ∀ i x H H', i < n → Pv i H → Y i H x H' → g x (wipe σ vs) H' fun σ2 H2 => wipe σ2 vs = wipe σ vs ∧ tt σ2 H2 fun b H3 =>
      if b = true then tk σ2 H3 fun y H4 => tv σ2 H4 fun z H5 => ∃ kvs k, y = kV k ∧ H5 D = some (.dK kvs) ∧ kvs.length < sizeLine ∧ Pv (i + 1) (upd H5 D (.dK (putK kvs k z))) else Pv (i + 1) H3) (hd : ∀ H, Pv n H → Qd H) :
    ∃ W : Nat → Nat → Hp → Prop, (∃ m, W 0 m (upd H1 D (.dK []))) ∧ ∀ i m H, W i m H →
      (J.stop i H ∧ Qd H) ∨ (J.go i H ∧ ∃ Nx : Hp → Prop, (∀ H', Nx H' → ∃ m', m' < m ∧ W (i + 1) m' H') ∧ ∀ x H', J.yld i H x H' → g x (wipe σ vs) H' fun σ2 H2 => wipe σ2 vs = wipe σ vs ∧ tt σ2 H2 fun b H3 =>
        if b = true then tk σ2 H3 fun y H4 => tv σ2 H4 fun z H5 => ∃ kvs k, y = kV k ∧ H5 D = some (.dK kvs) ∧ kvs.length < sizeLine ∧ Nx (upd H5 D (.dK (putK kvs k z))) else Nx H3) := by
  refine ⟨fun i m H => m = n - i ∧ i ≤ n ∧ Pv i H, ⟨n, by simp, Nat.zero_le _, h0⟩, ?_⟩
  rintro i m H ⟨rfl, hi, p⟩
  have q := hG i H hi p
  by_cases hlt : i < n
  · exact .inr ⟨w.goes i H hlt q, Pv (i + 1), fun H' p' => ⟨n - (i + 1), by omega, rfl, hlt, p'⟩, fun x H' y => hs i x H H' hlt p (w.yields i H x H' hlt q y)⟩
  · have e : i = n := by omega
    subst e
    exact .inl ⟨w.stops H q, hd H p⟩
end
end HE
namespace HV
open PySem PySem.Spec PyProof.Rows L2 RT
section
variable {prog : Program} {w : World} {A : Around} {E : Value → Shared → Prop} {s : Shared}
/-- an item of reversed(tuple), asked by an iterator over it -/
theorem rt_item {it t : Addr} {i : Nat} {items : Array Value} {x : Value} {Q : Value → Shared → Prop} (hit : IsRt s.heap it t (i : Int)) (ht : IsTup s.heap t items) (hx : items[i]? = some x) (hsz : items.size ≤ sizeLine)
    (q : ∀ h', IsRt h' it t ((i : Int) - 1) → Heap.SameBut it s.heap h' → Q x { s with heap := h', toks := s.toks + 1 }) : wpAny (model prog w) A (Builtin.SmallTypes.nextOf (.ref it)) Q E s := by
  obtain ⟨o, ho, hc, hd⟩ := id hit
  have hi : i < items.size := (Array.getElem?_eq_some_iff.mp hx).1
  have hT : s.TypeIs (.ref t) "tuple" := IsTup.typeOf' ht
  rw [sizeLine_eq] at hsz
  unfold Builtin.SmallTypes.nextOf
  refine wpAny_bind (wpAny_callSpecial?_slot (name := Str.ofString "__next__") hit.typeIs slot_rt_next (wpAny_call_entry slot_rt_next hit.typeIs entry_rt_next ?_ (args_rt_next _)))
  unfold Builtin.«reversed.__next__»
  refine wpAny_bind (wpAny_of_eq (a := (Value.ref it, [])) rfl ?_)
  try dsimp only
  refine wpAny_bind (wpAny_field ho hd (x := .ref t) rfl (wpAny_bind (wpAny_field ho hd (x := rawInt (i : Int)) rfl ?_)))
  show wpAny _ _ (if (i : Int) < 0 then _ else _) _ _ s
  rw [if_neg (by omega)]
  refine wpAny_bind (wpAny_specialOf hT get_tuple ?_)
  try dsimp only
  try rw [if_neg (by decide)]
  refine wpAny_bind (wpAny_mkInt (wpAny_bind (wpAny_attempt ?_)))
  refine PyProof.Rows.getItem_tuple (s := { s with toks := s.toks + 1 }) ht (by omega) (by omega) (seqIndex_of (by omega) (by omega)) hx ?_
  try dsimp only
  refine wpAny_bind (wpAny_field (s := { s with toks := s.toks + 1 }) ho hd (x := rawInt (i : Int)) rfl ?_)
  refine wpAny_bind (wpAny_setField (s := { s with toks := s.toks + 1 }) ho hd (by simp) ?_)
  first
  | refine wpAny_pure ⟨x, rfl, wpAny_pure (q _ ?_ (Heap.SameBut.update ..))⟩
  | refine wpAny_bind (wpAny_pure (wpAny_pure ⟨x, rfl, wpAny_pure (q _ ?_ (Heap.SameBut.update ..))⟩))
  exact ⟨_, Heap.get?_update_self _ ho (Obj.isFreed_of_fields (Obj.data_mapFields hd _)), (Obj.cls_mapFields ..).trans hc, by rw [Obj.data_mapFields hd]; simp⟩
theorem rt_end {it t : Addr} {Q : Value → Shared → Prop} (hh : A.handled = none) (hit : IsRt s.heap it t (-1)) (q : ∀ h' x, Heap.ExtBut it s.heap h' → (∃ o, h'.get? x = some o ∧ o.cls = .type "StopIteration") → E (.ref x) { s with heap := h' }) :
    wpAny (model prog w) A (Builtin.SmallTypes.nextOf (.ref it)) Q E s := by
  obtain ⟨o, ho, hc, hd⟩ := id hit
  unfold Builtin.SmallTypes.nextOf
  refine wpAny_bind (wpAny_callSpecial?_slot (name := Str.ofString "__next__") hit.typeIs slot_rt_next (wpAny_call_entry slot_rt_next hit.typeIs entry_rt_next ?_ (args_rt_next _)))
  unfold Builtin.«reversed.__next__»
  refine wpAny_bind (wpAny_of_eq (a := (Value.ref it, [])) rfl ?_)
  try dsimp only
  refine wpAny_bind (wpAny_field ho hd (x := .ref t) rfl (wpAny_bind (wpAny_field ho hd (x := rawInt (-1)) rfl ?_)))
  show wpAny _ _ (if (-1 : Int) < 0 then _ else _) _ _ s
  rw [if_pos (by decide)]
  try dsimp only
  refine wpAny_bind (wpAny_rule (wpAny_bind ?_))
  wp_delta
  refine wpAny_bind (wpAny_setField ho hd (by simp) ?_)
  have ho2 := Heap.get?_update_self (Obj.mapFields (·.setIfInBounds 1 (rawInt (-1)))) ho (Obj.isFreed_of_fields (Obj.data_mapFields hd _))
  refine wpAny_setField (s := { s with heap := s.heap.update it (Obj.mapFields (·.setIfInBounds 1 (rawInt (-1)))) }) ho2 (Obj.data_mapFields hd _) (by simp) ?_
  try dsimp only
  first
  | show wpAny _ _ (newExc (.type "StopIteration") [] >>= _) _ _ _
  | (refine wpAny_bind ?_; show wpAny _ _ (newExc (.type "StopIteration") [] >>= _) _ _ _)
  | (refine wpAny_bind ?_; wp_delta; show wpAny _ _ (newExc (.type "StopIteration") [] >>= _) _ _ _)
  refine wpAny_bind ?_
  simp only [newExc, newTuple]; refine wpAny_bind (wpAny_newObj_type ?_ (by size_fits))
  refine wpAny_bind (m := firstArgMember _ _) (wpAny_of_eq (a := Value.none) (by first | rfl | (simp only [firstArgMember]; rfl)) (wpAny_newObj_type ?_ (by size_fits)))
  simp only [raiseNew]; refine wpAny_bind (wpAny_handled ?_)
  first | rw [show A.in1.handled = none from hh] | rw [hh]
  refine wpAny_bind (wpAny_pure (wpAny_throw ?_))
  refine q _ _ (((?_ : Heap.ExtBut it s.heap _).push _).push _) ⟨_, Heap.get?_push_size _ rfl, rfl⟩
  exact fun b ob hb e => (Heap.get?_update_other _ _ (Ne.symm hb)).trans ((Heap.get?_update_other _ _ (Ne.symm hb)).trans e)
theorem lri_item {it l : Addr} {i : Nat} {items : Array Value} {x : Value} {Q : Value → Shared → Prop} (hit : s.heap.IsRevIter it l (i : Int)) (hl : s.heap.IsList l items) (hx : items[i]? = some x)
    (q : ∀ h', h'.IsRevIter it l ((i : Int) - 1) → Heap.SameBut it s.heap h' → Q x { s with heap := h' }) : wpAny (model prog w) A (Builtin.SmallTypes.nextOf (.ref it)) Q E s := by
  obtain ⟨o, ho, hc, hd⟩ := id hit
  obtain ⟨ol, hol, _, nl, hdl⟩ := hl
  unfold Builtin.SmallTypes.nextOf
  refine wpAny_bind (wpAny_callSpecial?_slot (name := Str.ofString "__next__") hit.typeIs F.slot_lri_next (wpAny_call_entry F.slot_lri_next hit.typeIs F.entry_lri_next ?_ (F.args_lri_next_1 _)))
  unfold Builtin.«list_reverseiterator.__next__»
  refine wpAny_bind (wpAny_of_eq (a := (Value.ref it, [])) rfl ?_)
  try dsimp only
  refine wpAny_bind (wpAny_field ho hd (x := rawInt (i : Int)) rfl ?_)
  show wpAny _ _ (if (i : Int) < 0 then _ else _) _ _ s
  rw [if_neg (by omega)]
  show wpAny _ _ (field (.ref it) 0 >>= _) _ _ s
  refine wpAny_bind (wpAny_field ho hd (x := .ref l) rfl ?_)
  show wpAny _ _ (seqItems? (.ref l) >>= _) _ _ s
  refine wpAny_bind (wpAny_seqItems hol hdl ?_)
  simp only [Int.toNat_natCast, hx]
  refine wpAny_bind (wpAny_setField ho hd (by simp) ?_)
  first
  | refine wpAny_pure ⟨x, rfl, wpAny_pure (q _ ?_ (Heap.SameBut.update ..))⟩
  | refine wpAny_bind (wpAny_pure (wpAny_pure ⟨x, rfl, wpAny_pure (q _ ?_ (Heap.SameBut.update ..))⟩))
  exact ⟨_, Heap.get?_update_self _ ho (Obj.isFreed_of_fields (Obj.data_mapFields hd _)), (Obj.cls_mapFields ..).trans hc, by rw [Obj.data_mapFields hd]; simp⟩
theorem lri_end {it l : Addr} {Q : Value → Shared → Prop} (hh : A.handled = none) (hit : s.heap.IsRevIter it l (-1)) (q : ∀ h' x, Heap.ExtBut it s.heap h' → (∃ o, h'.get? x = some o ∧ o.cls = .type "StopIteration") → E (.ref x) { s with heap := h' }) :
    wpAny (model prog w) A (Builtin.SmallTypes.nextOf (.ref it)) Q E s := by
  obtain ⟨o, ho, hc, hd⟩ := id hit
  unfold Builtin.SmallTypes.nextOf
  refine wpAny_bind (wpAny_callSpecial?_slot (name := Str.ofString "__next__") hit.typeIs F.slot_lri_next (wpAny_call_entry F.slot_lri_next hit.typeIs F.entry_lri_next ?_ (F.args_lri_next_1 _)))
  unfold Builtin.«list_reverseiterator.__next__»
  refine wpAny_bind (wpAny_of_eq (a := (Value.ref it, [])) rfl ?_)
  try dsimp only
  refine wpAny_bind (wpAny_field ho hd (x := rawInt (-1)) rfl ?_)
  show wpAny _ _ (if (-1 : Int) < 0 then _ else _) _ _ s
  rw [if_pos (by decide)]
  refine wpAny_bind (wpAny_rule ?_)
  first
  | show wpAny _ _ (newExc (.type "StopIteration") [] >>= _) _ _ _
  | (refine wpAny_bind ?_; show wpAny _ _ (newExc (.type "StopIteration") [] >>= _) _ _ _)
  refine wpAny_bind ?_
  simp only [newExc, newTuple]; refine wpAny_bind (wpAny_newObj_type ?_ (by size_fits))
  refine wpAny_bind (m := firstArgMember _ _) (wpAny_of_eq (a := Value.none) (by first | rfl | (simp only [firstArgMember]; rfl)) (wpAny_newObj_type ?_ (by size_fits)))
  simp only [raiseNew]; refine wpAny_bind (wpAny_handled ?_)
  first | rw [show A.in1.handled = none from hh] | rw [hh]
  refine wpAny_bind (wpAny_pure (wpAny_throw ?_))
  exact q _ _ (((Heap.ExtBut.refl _ _).push _).push _) ⟨_, Heap.get?_push_size _ rfl, rfl⟩
/-- what reversed(tuple) gives, asked one by one -/
theorem draws_rt (hh : A.handled = none) (it t : Addr) (hne : t ≠ it) {items : Array Value} (hsz : items.size ≤ sizeLine) :
    Draws prog w A it [it, t] items.size (fun i v => items[items.size - 1 - i]? = some v) (fun i h => i ≤ items.size ∧ IsRt h it t ((items.size : Int) - 1 - (i : Nat)) ∧ IsTup h t items) where
  live := fun _ _ st => let ⟨o, ho, _⟩ := st.2.1; ⟨o, ho⟩
  frame := fun _ _ _ st k => ⟨st.1, st.2.1.at fun o e => k it (by simp) o e, let ⟨o, e, x⟩ := st.2.2; ⟨o, k t (by simp) o e, x⟩⟩
  item := fun i s Q E hi st q => by
    obtain ⟨_, hit, ht⟩ := st
    have e1 : (items.size : Int) - 1 - ((i : Nat) : Int) = ((items.size - 1 - i : Nat) : Int) := by omega
    rw [e1] at hit
    have hlt : items.size - 1 - i < items.size := by omega
    refine rt_item hit ht (Array.getElem?_eq_getElem hlt) hsz fun h' it' sb => ?_
    have e2 : ((items.size - 1 - i : Nat) : Int) - 1 = (items.size : Int) - 1 - ((i + 1 : Nat) : Int) := by omega
    rw [e2] at it'
    exact q _ h' (s.toks + 1) (Array.getElem?_eq_getElem hlt) ⟨hi, it', let ⟨o, e, x⟩ := ht; ⟨o, (sb.2 t hne).trans e, x⟩⟩ sb
  done := fun s Q E st q => by
    obtain ⟨_, hit, _⟩ := st
    have e1 : (items.size : Int) - 1 - ((items.size : Nat) : Int) = -1 := by omega
    rw [e1] at hit
    exact rt_end hh hit q
theorem draws_lri (hh : A.handled = none) (it l : Addr) (hne : l ≠ it) {items : Array Value} :
    Draws prog w A it [it, l] items.size (fun i v => items[items.size - 1 - i]? = some v) (fun i h => i ≤ items.size ∧ h.IsRevIter it l ((items.size : Int) - 1 - (i : Nat)) ∧ h.IsList l items) where
  live := fun _ _ st => let ⟨o, ho, _⟩ := st.2.1; ⟨o, ho⟩
  frame := fun _ _ _ st k => ⟨st.1, st.2.1.at fun o e => k it (by simp) o e, let ⟨o, e, x⟩ := st.2.2; ⟨o, k l (by simp) o e, x⟩⟩
  item := fun i s Q E hi st q => by
    obtain ⟨_, hit, ht⟩ := st
    have e1 : (items.size : Int) - 1 - ((i : Nat) : Int) = ((items.size - 1 - i : Nat) : Int) := by omega
    rw [e1] at hit
    have hlt : items.size - 1 - i < items.size := by omega
    refine lri_item hit ht (Array.getElem?_eq_getElem hlt) fun h' it' sb => ?_
    have e2 : ((items.size - 1 - i : Nat) : Int) - 1 = (items.size : Int) - 1 - ((i + 1 : Nat) : Int) := by omega
    rw [e2] at it'
    exact q _ h' s.toks (Array.getElem?_eq_getElem hlt) ⟨hi, it', let ⟨o, e, x⟩ := ht; ⟨o, (sb.2 l hne).trans e, x⟩⟩ sb
  done := fun s Q E st q => by
    obtain ⟨_, hit, _⟩ := st
    have e1 : (items.size : Int) - 1 - ((items.size : Nat) : Int) = -1 := by omega
    rw [e1] at hit
    exact lri_end hh hit q
end
open AutoSeq1 (wpAny_loadPart')
theorem meets_it (r : Addr) (o : Obj) (ik : ∀ (prog : Program) (w : World) (A : Around) (E : Value → Shared → Prop) (Q : Value → Shared → Prop) (s : Shared), s.heap.get? r = some o → Q (.ref r) s → wpAny (model prog w) A (pyIter (.ref r)) Q E s) :
    Meets (Builtin.«enumerate.__new__» ⟨[.type "enumerate", .ref r], []⟩) (fun _ R s => s.heap.get? r = some o ∧
      R (.ok (.ret (.ref s.heap.objs.size))) { s with heap := s.heap.push { cls := .type "enumerate", data := .fields #[.none, .bool false, .ref r, rawInt 0, .none, .none] } }) :=
  .of_wp fun prog w A R s h => by
    obtain ⟨hp, g, dr, tk, os⟩ := s
    obtain ⟨ho, h⟩ := h
    have hsub := sub_enumerate
    have ik2 : ∀ {A : Around} {E : Value → Shared → Prop} {Q : Value → Shared → Prop}, Q (.ref r) ⟨hp, g, dr, tk, os⟩ → wpAny (model prog w) A (pyIter (.ref r)) Q E ⟨hp, g, dr, tk, os⟩ := fun q => ik _ _ _ _ _ _ ho q
    wp_walk using wpAny_loadPart' ho
    refine wpAny_stack_any fun st => wpAny_pure ?_
    split
    · rename_i c _ _ _ _ _
      cases (c == Value.type "enumerate") <;> (wp_walk using wpAny_loadPart' ho, ik2; exact ⟨_, rfl, h⟩)
    · wp_walk using wpAny_loadPart' ho, ik2
      exact ⟨_, rfl, h⟩
theorem call_enum_it {prog : Program} {w : World} {A : Around} {E : Value → Shared → Prop} {s : Shared} {r : Addr} {o : Obj} {Q : Value → Shared → Prop} (ik : ∀ (prog : Program) (w : World) (A : Around) (E : Value → Shared → Prop) (Q : Value → Shared → Prop) (s : Shared), s.heap.get? r = some o → Q (.ref r) s → wpAny (model prog w) A (pyIter (.ref r)) Q E s) (ho : s.heap.get? r = some o)
    (q : ∀ h', IsEnum h' s.heap.objs.size r 0 .none → (∀ b x, s.heap.get? b = some x → h'.get? b = some x) → Q (.ref s.heap.objs.size) { s with heap := h' }) : wpAny (model prog w) A (call (.type "enumerate") [.ref r]) Q E s := by
  refine callType_new F.called_enumerate (by decide) (F.typeCall_enumerate_1 _) (F.newCall_enumerate_1 _) (fun obj => F.args_object_init_2 obj _) F.entry_enumerate_new (meets_it r o ik) ⟨ho, ?_⟩
  have he : IsEnum (s.heap.push { cls := .type "enumerate", data := .fields #[.none, .bool false, .ref r, rawInt 0, .none, .none] }) s.heap.objs.size r 0 .none := Heap.get?_push_size _ rfl
  exact ⟨⟨_, he, rfl⟩, q _ he fun b x e => Heap.get?_push_of_some _ e⟩
/-- (0, last), (1, the one before it), ..: reversed(tuple) of n items -/
def ItER (K : PySem.W.Frag) (a : Addr) (n : Nat) : It :=
  ⟨fun i H => i < n ∧ ∃ xs, SqT K H a xs ∧ xs.length = n, fun i H v H' => ∃ T x, v = .ref T ∧ H T = none ∧ H' = upd H T (.tup [.int (i : Nat), x]) ∧ ∀ xs, SqT K H a xs → xs[n - 1 - i]? = some x, fun i H => n ≤ i ∧ ∃ xs, SqT K H a xs ∧ xs.length = n⟩
theorem turn_er {P : Program} {w : World} {K : PySem.W.Frag} {elts : List Expr} {kk : Nat} {tpos : Pos} {a : Addr} {n : Nat} (e it : Addr) (hai : a ≠ it) (hae : a ≠ e) :
    Turn P w K (.Tuple elts kk tpos) (ItER K a n) [e, it] e (fun i h => (∃ old, IsEnum h e it ((i : Nat) : Int) old) ∧ IsRt h it a ((n : Int) - 1 - (i : Nat)) ∧ e ≠ it ∧ i ≤ n) where
  mem := by simp
  obj := fun i h st b hb => by
    obtain ⟨⟨old, he⟩, ⟨o', ho, hc, hd⟩, _⟩ := st
    rcases (show b = e ∨ b = it by simpa using hb) with z | z
    · rw [z]; exact ⟨_, he, fun v q => nomatch q⟩
    · rw [z]; exact ⟨o', ho, fun v q => by rw [hd] at q; cases q⟩
  keep := fun i h h' st k => let ⟨⟨old, he⟩, hi, hne, hle⟩ := st; ⟨⟨old, k e (by simp) _ he⟩, hi.at fun o q => k it (by simp) o q, hne, hle⟩
  item := by
    intro X hP hw hK hc i pins s σ H E I hf st hg
    subst hP hw hK
    obtain ⟨⟨old, he⟩, hit, hne, hle⟩ := st
    obtain ⟨hi, xs, hq, hxl⟩ := hg
    obtain ⟨its, rv, p, hz⟩ := I.tuple hq
    have hlen : its.toArray.size = n := by rw [List.size_toArray, ← rv.length, hxl]
    have hel : e < s.heap.objs.size := Heap.lt_size he
    have hil : it < s.heap.objs.size := by obtain ⟨_, q, _⟩ := hit; exact Heap.lt_size q
    have D := draws_rt (prog := X.prog) (w := X.w) (A := X.A.in1) (I.ok.hd hc) it a hai (items := its.toArray) (by rw [hlen, ← hxl]; exact hz)
    rw [← hlen] at hit
    refine wpAny_pyNext_enum_itemD D he ⟨by omega, hit, p⟩ (by omega) hne (by simp [hne, Ne.symm hae]) fun x h' tk hP ho st' hT hsz' hk => ?_
    refine ⟨_, rfl, wpAny_letOwnedTupleGo_enum (s := { s with heap := h', toks := tk + 1 }) ho fun h'' he' sb => ?_⟩
    have hT2 : h''.get? s.heap.objs.size = some { cls := .type "tuple", data := .seq #[.int i tk, x] } := (sb.2 _ (Nat.ne_of_gt hel)).trans hT
    have hP' : its[n - 1 - i]? = some x := by
      have h1 : its.toArray[its.toArray.size - 1 - i]? = some x := hP
      rw [hlen] at h1
      simpa using h1
    obtain ⟨v, hv, rk⟩ : ∃ v, xs[n - 1 - i]? = some v ∧ RelV v x := by
      have hlt : n - 1 - i < xs.length := by omega
      obtain ⟨u, hu, ru⟩ := rv.get (List.getElem?_eq_getElem hlt)
      rw [hP'] at hu
      cases hu
      exact ⟨_, List.getElem?_eq_getElem hlt, ru⟩
    have new : ObjOk X.prog X.w (upd H s.heap.objs.size (.tup [.int (i : Nat), v])) h'' s.heap.objs.size (.tup [.int (i : Nat), v]) :=
      ⟨by show 2 ≤ sizeLine; decide, [.int i tk, x], .cons ⟨_, rfl⟩ (.cons rk .nil), ⟨_, hT2, rfl, _, rfl⟩⟩
    have I1 : Inv X pins σ (upd H s.heap.objs.size (.tup [.int (i : Nat), v])) { s with heap := h'', toks := tk + 1 } :=
      I.turnedNew (ch := [e, it]) (fun b ob hb q => (sb.2 b (fun z => hb (by simp [z]))).trans (hk b ob (fun z => hb (by simp [z])) (fun z => hb (by simp [z])) q)) hf (Nat.le_refl _) new
    refine ⟨.ref s.heap.objs.size, _, I1, rfl, ⟨_, v, rfl, I.hok.fresh (Nat.le_refl _), rfl, fun ys hy => by rw [I.tuple_inj hy hq]; exact hv⟩, ⟨⟨x, ?_⟩, ?_, hne, by omega⟩, fun b hb => ?_⟩
    · have e1 : ((i + 1 : Nat) : Int) = (i : Int) + 1 := by omega
      rw [e1]; exact he'
    · rw [← hlen]
      exact st'.2.1.at fun o q => (sb.2 it (Ne.symm hne)).trans q
    · have hb' : b < s.heap.objs.size := by
        rcases (show b = e ∨ b = it by simpa using hb) with z | z
        · rw [z]; exact hel
        · rw [z]; exact hil
      rw [upd_ne (Nat.ne_of_lt hb')]
      exact (hf b hb).1
  done := by
    intro X hP hw hK hc i pins s σ H E I hf st hg
    subst hP hw hK
    obtain ⟨⟨old, he⟩, hit, hne, hle⟩ := st
    obtain ⟨hi, xs, hq, hxl⟩ := hg
    obtain ⟨its, rv, p, hz⟩ := I.tuple hq
    have hlen : its.toArray.size = n := by rw [List.size_toArray, ← rv.length, hxl]
    obtain ⟨f0, f1, f2, f3, f4, f5⟩ := hf it (by simp)
    have D := draws_rt (prog := X.prog) (w := X.w) (A := X.A.in1) (I.ok.hd hc) it a hai (items := its.toArray) (by rw [hlen, ← hxl]; exact hz)
    have ei : i = its.toArray.size := by omega
    rw [← hlen, ei] at hit
    rw [ei] at he
    exact wpAny_pyNext_enum_endD D he ⟨Nat.le_refl _, hit, p⟩ fun h' eb => ⟨rfl, I.turned (t' := s.toks) (fun b o hb q => eb b o hb q) f0 f1 f3 f4 f5⟩
  self := fun A i s Q E st h => let ⟨⟨_, he⟩, _⟩ := st; wpAny_pyIter_enum he h
/-- (0, last), (1, the one before it), ..: reversed(list) of n items -/
def ItEL (K : PySem.W.Frag) (a : Addr) (n : Nat) : It :=
  ⟨fun i H => i < n ∧ ∃ xs, SqL K H a xs ∧ xs.length = n, fun i H v H' => ∃ T x, v = .ref T ∧ H T = none ∧ H' = upd H T (.tup [.int (i : Nat), x]) ∧ ∀ xs, SqL K H a xs → xs[n - 1 - i]? = some x, fun i H => n ≤ i ∧ ∃ xs, SqL K H a xs ∧ xs.length = n⟩
theorem turn_el {P : Program} {w : World} {K : PySem.W.Frag} {elts : List Expr} {kk : Nat} {tpos : Pos} {a : Addr} {n : Nat} (e it : Addr) (hai : a ≠ it) (hae : a ≠ e) :
    Turn P w K (.Tuple elts kk tpos) (ItEL K a n) [e, it] e (fun i h => (∃ old, IsEnum h e it ((i : Nat) : Int) old) ∧ Heap.IsRevIter h it a ((n : Int) - 1 - (i : Nat)) ∧ e ≠ it ∧ i ≤ n) where
  mem := by simp
  obj := fun i h st b hb => by
    obtain ⟨⟨old, he⟩, ⟨o', ho, hc, hd⟩, _⟩ := st
    rcases (show b = e ∨ b = it by simpa using hb) with z | z
    · rw [z]; exact ⟨_, he, fun v q => nomatch q⟩
    · rw [z]; exact ⟨o', ho, fun v q => by rw [hd] at q; cases q⟩
  keep := fun i h h' st k => let ⟨⟨old, he⟩, hi, hne, hle⟩ := st; ⟨⟨old, k e (by simp) _ he⟩, hi.at fun o q => k it (by simp) o q, hne, hle⟩
  item := by
    intro X hP hw hK hc i pins s σ H E I hf st hg
    subst hP hw hK
    obtain ⟨⟨old, he⟩, hit, hne, hle⟩ := st
    obtain ⟨hi, xs, hq, hxl⟩ := hg
    obtain ⟨its, rv, p, hz⟩ := I.list hq
    have hlen : its.toArray.size = n := by rw [List.size_toArray, ← rv.length, hxl]
    have hel : e < s.heap.objs.size := Heap.lt_size he
    have hil : it < s.heap.objs.size := by obtain ⟨_, q, _⟩ := hit; exact Heap.lt_size q
    have D := draws_lri (prog := X.prog) (w := X.w) (A := X.A.in1) (I.ok.hd hc) it a hai (items := its.toArray)
    rw [← hlen] at hit
    refine wpAny_pyNext_enum_itemD D he ⟨by omega, hit, p.isList⟩ (by omega) hne (by simp [hne, Ne.symm hae]) fun x h' tk hP ho st' hT hsz' hk => ?_
    refine ⟨_, rfl, wpAny_letOwnedTupleGo_enum (s := { s with heap := h', toks := tk + 1 }) ho fun h'' he' sb => ?_⟩
    have hT2 : h''.get? s.heap.objs.size = some { cls := .type "tuple", data := .seq #[.int i tk, x] } := (sb.2 _ (Nat.ne_of_gt hel)).trans hT
    have hP' : its[n - 1 - i]? = some x := by
      have h1 : its.toArray[its.toArray.size - 1 - i]? = some x := hP
      rw [hlen] at h1
      simpa using h1
    obtain ⟨v, hv, rk⟩ : ∃ v, xs[n - 1 - i]? = some v ∧ RelV v x := by
      have hlt : n - 1 - i < xs.length := by omega
      obtain ⟨u, hu, ru⟩ := rv.get (List.getElem?_eq_getElem hlt)
      rw [hP'] at hu
      cases hu
      exact ⟨_, List.getElem?_eq_getElem hlt, ru⟩
    have new : ObjOk X.prog X.w (upd H s.heap.objs.size (.tup [.int (i : Nat), v])) h'' s.heap.objs.size (.tup [.int (i : Nat), v]) :=
      ⟨by show 2 ≤ sizeLine; decide, [.int i tk, x], .cons ⟨_, rfl⟩ (.cons rk .nil), ⟨_, hT2, rfl, _, rfl⟩⟩
    have I1 : Inv X pins σ (upd H s.heap.objs.size (.tup [.int (i : Nat), v])) { s with heap := h'', toks := tk + 1 } :=
      I.turnedNew (ch := [e, it]) (fun b ob hb q => (sb.2 b (fun z => hb (by simp [z]))).trans (hk b ob (fun z => hb (by simp [z])) (fun z => hb (by simp [z])) q)) hf (Nat.le_refl _) new
    refine ⟨.ref s.heap.objs.size, _, I1, rfl, ⟨_, v, rfl, I.hok.fresh (Nat.le_refl _), rfl, fun ys hy => by rw [I.list_inj hy hq]; exact hv⟩, ⟨⟨x, ?_⟩, ?_, hne, by omega⟩, fun b hb => ?_⟩
    · have e1 : ((i + 1 : Nat) : Int) = (i : Int) + 1 := by omega
      rw [e1]; exact he'
    · rw [← hlen]
      exact st'.2.1.at fun o q => (sb.2 it (Ne.symm hne)).trans q
    · have hb' : b < s.heap.objs.size := by
        rcases (show b = e ∨ b = it by simpa using hb) with z | z
        · rw [z]; exact hel
        · rw [z]; exact hil
      rw [upd_ne (Nat.ne_of_lt hb')]
      exact (hf b hb).1
  done := by
    intro X hP hw hK hc i pins s σ H E I hf st hg
    subst hP hw hK
    obtain ⟨⟨old, he⟩, hit, hne, hle⟩ := st
    obtain ⟨hi, xs, hq, hxl⟩ := hg
    obtain ⟨its, rv, p, hz⟩ := I.list hq
    have hlen : its.toArray.size = n := by rw [List.size_toArray, ← rv.length, hxl]
    obtain ⟨f0, f1, f2, f3, f4, f5⟩ := hf it (by simp)
    have D := draws_lri (prog := X.prog) (w := X.w) (A := X.A.in1) (I.ok.hd hc) it a hai (items := its.toArray)
    have ei : i = its.toArray.size := by omega
    rw [← hlen, ei] at hit
    rw [ei] at he
    exact wpAny_pyNext_enum_endD D he ⟨Nat.le_refl _, hit, p.isList⟩ fun h' eb => ⟨rfl, I.turned (t' := s.toks) (fun b o hb q => eb b o hb q) f0 f1 f3 f4 f5⟩
  self := fun A i s Q E st h => let ⟨⟨_, he⟩, _⟩ := st; wpAny_pyIter_enum he h
/-- enumerate(reversed(x)), x a tuple or a list -/
def iEnumR (K : PySem.W.Frag) (te : TE) : TI := fun σ H R => te σ H fun v H1 => ∃ (a : Addr) (xs : List V), v = .ref a ∧ ((SqL K H1 a xs ∧ R (ItEL K a xs.length) H1) ∨ (SqT K H1 a xs ∧ R (ItER K a xs.length) H1))
theorem pi_enumR {X : Cx} {e : Expr} {te : TE} {p pos p2 pos2 tpos : Pos} {elts : List Expr} {kk : Nat} (hg : Gl X "enumerate") (hm : X.mg "enumerate" = none) (hg2 : Gl X "reversed") (hm2 : X.mg "reversed" = none) (he : PE X e te)
    (hs2 : starEach [e] X.env = (false, eval e X.env) :: starEach [] X.env := by rfl) (hs : starEach [.Call (.Name "reversed" p2) [e] [] pos2] X.env = (false, eval (.Call (.Name "reversed" p2) [e] [] pos2) X.env) :: starEach [] X.env := by rfl) :
    PI X (.Tuple elts kk tpos) (.Call (.Name "enumerate" p) [.Call (.Name "reversed" p2) [e] [] pos2] [] pos) (iEnumR X.K te) := by
  refine ⟨fun pins s σ H R I h => ?_⟩
  refine Call_ (ld_blt I hg hm boot_enumerate (PyProof.Rows.callWith_type1 (args_cons (Call_ (ld_blt I hg2 hm2 PyProof.Rows.boot_reversed (PyProof.Rows.callWith_type1 (args_cons (thn (he.run pins s σ H _ I h) fun u s1 ⟨v, H1, I1, r1, q1⟩ => args_nil ?_) hs2) hs2 rfl))) hs) hs rfl))
  obtain ⟨a, xs, ev, q⟩ := q1
  subst ev
  obtain rfl : u = Value.ref a := r1
  rcases q with ⟨hq, q⟩ | ⟨hq, q⟩
  · obtain ⟨its, rv, p', hz⟩ := I1.list hq
    have hl := rv.length
    have e1 : ((its.toArray.size : Nat) : Int) - 1 = (xs.length : Int) - 1 - ((0 : Nat) : Int) := by simp only [List.size_toArray]; omega
    have hal : a < s1.heap.objs.size := by obtain ⟨o, ho, _⟩ := p'.isList; exact Heap.lt_size ho
    refine call_reversed_list p'.isList (args_nil (call_enum_it (o := revObj a ((its.toArray.size : Int) - 1)) (fun _ _ _ _ _ _ ho q => wpAny_pyIter_revIter ⟨_, ho, rfl, rfl⟩ q) (Heap.get?_push_size _ rfl) fun h' hen hk => wpAny_pyIter_enum hen ?_))
    have hsz : (s1.heap.push (revObj a ((its.toArray.size : Int) - 1))).objs.size = s1.heap.objs.size + 1 := Heap.size_push ..
    have I2 : Inv X pins σ H1 { s1 with heap := h' } := I1.kept (t' := s1.toks) fun b o q => hk b o (Heap.get?_push_of_some _ q)
    have hr := hk _ _ (Heap.get?_push_size (h := s1.heap) (o := revObj a ((its.toArray.size : Int) - 1)) rfl)
    rw [e1] at hr
    have hen' : IsEnum h' (s1.heap.objs.size + 1) s1.heap.objs.size 0 .none := by rw [← hsz]; exact hen
    show PIE X pins σ _ R (.ref (s1.heap.push (revObj a ((its.toArray.size : Int) - 1))).objs.size) _
    rw [hsz]
    refine ⟨s1.heap.objs.size + 1, [s1.heap.objs.size + 1, s1.heap.objs.size], _, _, H1, rfl, I2, turn_el (a := a) (n := xs.length) (s1.heap.objs.size + 1) s1.heap.objs.size (Nat.ne_of_lt hal) (Nat.ne_of_lt (Nat.lt_succ_of_lt hal)), ⟨⟨.none, hen'⟩, ⟨_, hr, rfl, rfl⟩, Nat.succ_ne_self _, Nat.zero_le _⟩, fun b hb => ?_, q⟩
    have hle : s1.heap.objs.size ≤ b := by
      rcases (show b = s1.heap.objs.size + 1 ∨ b = s1.heap.objs.size by simpa using hb) with z | z
      · rw [z]; exact Nat.le_add_right _ _
      · rw [z]; exact Nat.le_refl _
    exact I1.fpOk hle (I1.hok.fresh hle)
  · obtain ⟨its, rv, p', hz⟩ := I1.tuple hq
    have hl := rv.length
    have hn := line63
    have e1 : ((its.toArray.size : Nat) : Int) - 1 = (xs.length : Int) - 1 - ((0 : Nat) : Int) := by simp only [List.size_toArray]; omega
    have hal : a < s1.heap.objs.size := by obtain ⟨o, ho, _⟩ := p'; exact Heap.lt_size ho
    refine call_reversed_tup p' (fun A E Q k => len_tuple p' (by simp only [List.size_toArray] <;> omega) k) (args_nil (call_enum_it (o := rtObj a ((its.toArray.size : Int) - 1)) (fun _ _ _ _ _ _ ho q => iter_rt ⟨_, ho, rfl, rfl⟩ q) (Heap.get?_push_size _ rfl) fun h' hen hk => wpAny_pyIter_enum hen ?_))
    have hsz : (s1.heap.push (rtObj a ((its.toArray.size : Int) - 1))).objs.size = s1.heap.objs.size + 1 := Heap.size_push ..
    have I2 : Inv X pins σ H1 { s1 with heap := h', toks := s1.toks + 1 + 1 } := I1.kept (t' := s1.toks + 1 + 1) fun b o q => hk b o (Heap.get?_push_of_some _ q)
    have hr := hk _ _ (Heap.get?_push_size (h := s1.heap) (o := rtObj a ((its.toArray.size : Int) - 1)) rfl)
    rw [e1] at hr
    have hen' : IsEnum h' (s1.heap.objs.size + 1) s1.heap.objs.size 0 .none := by rw [← hsz]; exact hen
    show PIE X pins σ _ R (.ref (s1.heap.push (rtObj a ((its.toArray.size : Int) - 1))).objs.size) _
    rw [hsz]
    refine ⟨s1.heap.objs.size + 1, [s1.heap.objs.size + 1, s1.heap.objs.size], _, _, H1, rfl, I2, turn_er (a := a) (n := xs.length) (s1.heap.objs.size + 1) s1.heap.objs.size (Nat.ne_of_lt hal) (Nat.ne_of_lt (Nat.lt_succ_of_lt hal)), ⟨⟨.none, hen'⟩, ⟨_, hr, rfl, rfl⟩, Nat.succ_ne_self _, Nat.zero_le _⟩, fun b hb => ?_, q⟩
    have hle : s1.heap.objs.size ≤ b := by
      rcases (show b = s1.heap.objs.size + 1 ∨ b = s1.heap.objs.size by simpa using hb) with z | z
      · rw [z]; exact Nat.le_add_right _ _
      · rw [z]; exact Nat.le_refl _
    exact I1.fpOk hle (I1.hok.fresh hle)
theorem walk_er {K : PySem.W.Frag} {a : Addr} {xs : List V} : Walk (ItER K a xs.length) xs.length (fun H => SqT K H a xs) (YPair (fun i => some (.int (i : Nat))) (fun i => xs[xs.length - 1 - i]?)) := by
  refine ⟨fun i H hi q => ⟨hi, xs, q, rfl⟩, fun H q => ⟨Nat.le_refl _, xs, q, rfl⟩, fun i H v H' _ q y => ?_⟩
  obtain ⟨T, x, h1, h2, h3, h4⟩ := y
  exact ⟨T, .int (i : Nat), x, h1, h2, h3, rfl, h4 xs q⟩
theorem walk_el {K : PySem.W.Frag} {a : Addr} {xs : List V} : Walk (ItEL K a xs.length) xs.length (fun H => SqL K H a xs) (YPair (fun i => some (.int (i : Nat))) (fun i => xs[xs.length - 1 - i]?)) := by
  refine ⟨fun i H hi q => ⟨hi, xs, q, rfl⟩, fun H q => ⟨Nat.le_refl _, xs, q, rfl⟩, fun i H v H' _ q y => ?_⟩
  obtain ⟨T, x, h1, h2, h3, h4⟩ := y
  exact ⟨T, .int (i : Nat), x, h1, h2, h3, rfl, h4 xs q⟩
end HV
namespace HM
open PySem PySem.Spec PyProof.Rows L2 SX HL
/-! ## match: a value against constant texts; a tuple whose first item is a text against [text, names ..] -/
/-- what captures and wildcards bind, by slot -/
inductive Caps (X : Cx) : List Pattern → List (Option Nat) → Prop
  | nil : Caps X [] []
  | name {i : Nat} {x : Str} {pos : Pos} {ps : List Pattern} {cs : List (Option Nat)} : X.N[i]? = some x → Loc X.env.scope x → (X.fn x = true ∨ X.env.scope.names.lookup x = some .local) → Caps X ps cs → Caps X (.MatchAs none (some x) pos :: ps) (some i :: cs)
  | wild {pos : Pos} {ps : List Pattern} {cs : List (Option Nat)} : Caps X ps cs → Caps X (.MatchAs none none pos :: ps) (none :: cs)
def setCaps : L2.St → List (Option Nat) → List V → L2.St
  | σ, some i :: cs, v :: vs => setCaps (σ.set i (some v)) cs vs
  | σ, none :: cs, _ :: vs => setCaps σ cs vs
  | σ, _, _ => σ
def bsOf : List Pattern → List Value → List (Str × Value)
  | .MatchAs none (some n) _ :: ps, u :: us => (n, u) :: bsOf ps us
  | _ :: ps, _ :: us => bsOf ps us
  | _, _ => []
section
variable {X : Cx} {pins : List (Addr × Obj)}
theorem Caps.len {ps : List Pattern} {cs : List (Option Nat)} (h : Caps X ps cs) : ps.length = cs.length := by
  induction h with
  | nil => rfl
  | name _ _ _ _ ih => simp [ih]
  | wild _ ih => simp [ih]
theorem caps_each {M : Model} {A : Around} {E : Value → Shared → Prop} {env : Env} {ps : List Pattern} {cs : List (Option Nat)} (h : Caps X ps cs) : ∀ {us : List Value} {s : Shared} {Q : Option (List (Str × Value)) → Shared → Prop}, us.length = ps.length → Q (some (bsOf ps us)) s → wpAny M A (matchEach ps env us) Q E s := by
  induction h with
  | nil =>
    intro us s Q hl q
    cases us with
    | nil => exact wpAny_matchEach_nil q
    | cons u us => simp at hl
  | @name i x pos ps cs _ _ _ _ ih =>
    intro us s Q hl q
    cases us with
    | nil => simp at hl
    | cons u us =>
      refine wpAny_matchEach_cons (wpAny_matchPattern_Capture ?_)
      exact ih (by simpa using hl) q
  | @wild pos ps cs _ ih =>
    intro us s Q hl q
    cases us with
    | nil => simp at hl
    | cons u us =>
      refine wpAny_matchEach_cons (wpAny_matchPattern_Capture ?_)
      exact ih (by simpa using hl) q
theorem caps_assign {M : Model} {A : Around} {E : Value → Shared → Prop} {ps : List Pattern} {cs : List (Option Nat)} (hN : X.N.Nodup) (h : Caps X ps cs) : ∀ {us : List Value} {vs : List V} {σ : L2.St} {H : Hp} {s : Shared} {Q : Unit → Shared → Prop}, Vals vs us → us.length = ps.length →
    Inv X pins σ H s → (∀ s', Inv X pins (setCaps σ cs vs) H s' → Q () s') → wpAny M A (assignInOrder ((bsOf ps us).map fun p => bindName X.env p.1) ((bsOf ps us).map (·.2))) Q E s := by
  induction h with
  | nil =>
    intro us vs σ H s Q r hl I q
    cases r with
    | nil => exact assignInOrder_nil (q s I)
    | cons _ _ => simp at hl
  | @name i x pos ps cs h1 h2 h3 _ ih =>
    intro us vs σ H s Q r hl I q
    cases r with
    | nil => simp at hl
    | @cons v u vs us rv rr =>
      show wpAny M A (assignInOrder (bindName X.env x :: (bsOf ps us).map fun p => bindName X.env p.1) (u :: (bsOf ps us).map (·.2))) Q E s
      refine assignInOrder_cons (wpAny_bindName (store_ok I hN h1 h2 rv (fun s' I' => ?_) h3))
      exact ih rr (by simpa using hl) I' q
  | @wild pos ps cs _ ih =>
    intro us vs σ H s Q r hl I q
    cases r with
    | nil => simp at hl
    | @cons v u vs us rv rr =>
      show wpAny M A (assignInOrder ((bsOf ps us).map fun p => bindName X.env p.1) ((bsOf ps us).map (·.2))) Q E s
      exact ih rr (by simpa using hl) I q
/-- cases of a match: what is read of each -/
abbrev TMs := V → Ends → L2.St → Hp → Prop
structure PMs (X : Cx) (cases : List MatchCase) (t : TMs) : Prop where
  run : ∀ (first : Bool) (pins : List (Addr × Obj)) (s : Shared) (σ : L2.St) (H : Hp) (D : Ends) (v : V) (u : Value), Inv X pins σ H s → RelV v u → t v D σ H → wpAny (model X.prog X.w) X.A (matchCases cases X.env u first) (SP X pins D) X.xe s
theorem ps_match {subject : Expr} {cases : List MatchCase} {pos : Pos} {te : TE} {t : TMs} (he : PE X subject te) (hc : PMs X cases t) : PS X (.Match subject cases pos) (fun D σ H => te σ H fun v H1 => t v D σ H1) := by
  refine ⟨fun pins s σ H D I h => ?_⟩
  refine wpAny_Match (thn (he.run pins s σ H _ I h) fun u s1 ⟨v, H1, I1, r, q⟩ => ?_)
  exact hc.run true pins s1 σ H1 D v u I1 r q
/-- no case is left -/
theorem pm_nil : PMs X [] (fun _ D σ H => D.nx σ H) := ⟨fun first pins s σ H D v u I r h => wpAny_matchCases_nil ⟨σ, H, I, h⟩⟩
/-- case _: -/
theorem pm_wild {body : List Stmt} {rest : List MatchCase} {pos : Pos} {tb : TS} (hb : PSs X body tb) : PMs X (⟨.MatchAs none none pos, none, body⟩ :: rest) (fun _ D σ H => tb D σ H) := by
  refine ⟨fun first pins s σ H D v u I r h => ?_⟩
  refine wpAny_matchCases_cons (wpAny_matchPattern_Capture ?_)
  exact assignInOrder_nil (hb.run pins s σ H D I h)
/-- case 'text': -/
theorem pm_val {z : Str} {body : List Stmt} {rest : List MatchCase} {k pos : Pos} {j : Nat} {tb : TS} {t : TMs} (hb : PSs X body tb) (hr : PMs X rest t) :
    PMs X (⟨.MatchValue (.Constant (.str z) j k) pos, none, body⟩ :: rest) (fun v D σ H => ∃ y, v = .str y ∧ if y = z then tb D σ H else t v D σ H) := by
  refine ⟨fun first pins s σ H D v u I r h => ?_⟩
  obtain ⟨y, rfl, h⟩ := h
  refine wpAny_matchCases_cons (wpAny_matchPattern_Value ?_)
  refine thn ((pe_str (X := X) (x := z)).run pins s σ H (fun w H1 => w = .str z ∧ H1 = H) I ⟨rfl, rfl⟩) fun x s1 ⟨w, H1, I1, r1, e1, e2⟩ => ?_
  subst e1
  rw [e2] at I1
  refine thn (op_eq (X := X) pins s1 σ H (.str y) (.str z) u x (fun c H2 => c = .bl (decide (V.str y = V.str z)) ∧ H2 = H) I1 r r1 ⟨rfl, rfl, rfl⟩) fun c s2 ⟨w, H2, I2, r2, e3, e4⟩ => ?_
  subst e3
  rw [e4] at I2
  obtain rfl : c = .bool (decide (V.str y = V.str z)) := r2
  refine wpAny_truthy_bool ?_
  by_cases e : y = z
  · have ed : decide (V.str y = V.str z) = true := decide_eq_true (by rw [e])
    rw [if_pos e] at h
    rw [ed, if_pos rfl]
    exact assignInOrder_nil (hb.run pins s2 σ H D I2 h)
  · have ed : decide (V.str y = V.str z) = false := decide_eq_false (fun q => e (V.str.inj q))
    rw [if_neg e] at h
    rw [ed, if_neg (by simp)]
    exact hr.run false pins s2 σ H D _ u I2 r h
/-- case ['text', names ..]: -/
theorem pm_tag {z : Str} {ps : List Pattern} {cs : List (Option Nat)} {body : List Stmt} {rest : List MatchCase} {k pos pos' : Pos} {j : Nat} {tb : TS} {t : TMs} (hc : X.calm = true) (hN : X.N.Nodup) (hcap : Caps X ps cs) (hb : PSs X body tb) (hr : PMs X rest t)
    (hstar : (Pattern.MatchValue (.Constant (.str z) j k) pos :: ps).findIdx? (·.isStar) = none := by rfl) :
    PMs X (⟨.MatchSequence (.MatchValue (.Constant (.str z) j k) pos :: ps) pos', none, body⟩ :: rest) (fun v D σ H => ∃ a y xs, v = .ref a ∧ SqT X.K H a (.str y :: xs) ∧ if y = z ∧ xs.length = cs.length then tb D (setCaps σ cs xs) H else t v D σ H) := by
  refine ⟨fun first pins s σ H D v u I r h => ?_⟩
  obtain ⟨a, y, xs, rfl, hq, h⟩ := h
  obtain rfl : u = .ref a := r
  obtain ⟨its, rv, ht, hz⟩ := I.tuple hq
  cases rv with
  | @cons _ w _ us rw' rr =>
  have hlen : us.length = xs.length := rr.length.symm
  have hl : (w :: us).toArray.size = us.length + 1 := by simp
  have l63 := line63
  have hfit : (((w :: us).toArray.size : Nat) : Int) < 2 ^ 63 := by
    rw [hl, hlen]
    simp at hz
    have : (sizeLine : Int) < 2 ^ 63 := by exact_mod_cast l63
    omega
  refine wpAny_matchCases_cons ?_
  by_cases hn : us.length = ps.length
  · refine matchSeq_tuple_hit ht hfit (by rw [hl, hn]; rfl) ?_ hstar rfl
    have hsz : (Pattern.MatchValue (.Constant (.str z) j k) pos :: ps).length = (w :: us).toArray.size := by rw [hl, hn]; rfl
    rw [hsz]
    have I1 : Inv X pins σ H { s with toks := s.toks + 1 + 1 } := I.tok _
    refine unpackItems_tuple (I.ok.hd hc) ht fun h' hx => ?_
    have I2 : Inv X pins σ H { s with heap := h', toks := s.toks + 1 + 1 } := I.kept fun b o e => hx b o (Nat.ne_of_lt (Heap.lt_size e)) e
    refine wpAny_matchEach_cons (wpAny_matchPattern_Value ?_)
    refine thn ((pe_str (X := X) (x := z)).run pins _ σ H (fun w H1 => w = .str z ∧ H1 = H) I2 ⟨rfl, rfl⟩) fun x s1 ⟨w1, H1, I1, r1, e1, e2⟩ => ?_
    subst e1
    rw [e2] at I1
    refine thn (op_eq (X := X) pins s1 σ H (.str y) (.str z) w x (fun c H2 => c = .bl (decide (V.str y = V.str z)) ∧ H2 = H) I1 rw' r1 ⟨rfl, rfl, rfl⟩) fun c s2 ⟨w2, H2, I2, r2, e3, e4⟩ => ?_
    subst e3
    rw [e4] at I2
    obtain rfl : c = .bool (decide (V.str y = V.str z)) := r2
    refine wpAny_truthy_bool ?_
    by_cases e : y = z
    · have ed : decide (V.str y = V.str z) = true := decide_eq_true (by rw [e])
      rw [if_pos ⟨e, by rw [← hlen, hn, hcap.len]⟩] at h
      rw [ed, if_pos rfl]
      refine caps_each hcap hn ?_
      exact caps_assign hN hcap rr hn I2 fun s3 I3 => hb.run pins s3 _ H D I3 h
    · have ed : decide (V.str y = V.str z) = false := decide_eq_false (fun q => e (V.str.inj q))
      rw [if_neg (fun q => e q.1)] at h
      rw [ed, if_neg (by simp)]
      exact hr.run false pins s2 σ H D (.ref a) _ I2 rfl h
  · refine matchSeq_tuple_miss ht hfit (by rw [hl]; simpa using hn) ?_ hstar rfl
    rw [if_neg (fun q => hn (by rw [hlen, q.2, hcap.len]))] at h
    exact hr.run false pins _ σ H D (.ref a) _ (I.tok _) rfl h
end
end HM
namespace HC
open PySem PySem.Spec PyProof.Rows L2
section
variable {J : It} {n : Nat} {G : Hp → Prop} {Y : Nat → Hp → V → Hp → Prop}
/-- any walk, any body: for the two clauses of a comprehension -/
theorem wk_it (w : Walk J n G Y) {B : V → Hp → (Hp → Prop) → Prop} {H0 : Hp} {Qd : Hp → Prop} (Pv : Nat → Hp → Prop) (h0 : Pv 0 H0) (hG : ∀ i H, i ≤ n → Pv i H → G H)
    (hs : ∀ i x H H', i < n → Pv i H → Y i H x H' → B x H' (Pv (i + 1))) (hd : ∀ H, Pv n H → Qd H) :
    ∃ W : Nat → Nat → Hp → Prop, (∃ m, W 0 m H0) ∧ ∀ i m H, W i m H →
      (J.stop i H ∧ Qd H) ∨ (J.go i H ∧ ∃ Nx : Hp → Prop, (∀ H', Nx H' → ∃ m', m' < m ∧ W (i + 1) m' H') ∧ ∀ x H', J.yld i H x H' → B x H' Nx) := by
  refine ⟨fun i m H => m = n - i ∧ i ≤ n ∧ Pv i H, ⟨n, by simp, Nat.zero_le _, h0⟩, ?_⟩
  rintro i m H ⟨rfl, hi, p⟩
  have q := hG i H hi p
  by_cases hlt : i < n
  · exact .inr ⟨w.goes i H hlt q, Pv (i + 1), fun H' p' => ⟨n - (i + 1), by omega, rfl, hlt, p'⟩, fun x H' y => hs i x H H' hlt p (w.yields i H x H' hlt q y)⟩
  · obtain rfl : i = n := by omega
    exact .inl ⟨w.stops H q, hd H p⟩
end
theorem yes {f : Bool → Hp → Prop} {σ : L2.St} {H : Hp} (h : f true H) : tYes σ H f := h
theorem pi_zipK {K : PySem.W.Frag} {X : Cx} {e e2 : Expr} {ta : TA} {p pos tpos : Pos} {elts : List Expr} {kk : Nat} (hK : X.K = K) (hg : Gl X "zip") (hm : X.mg "zip" = none) (ha : PA X [e, e2] ta)
    (hs : starEach [e, e2] X.env = (false, eval e X.env) :: starEach [e2] X.env := by rfl) (hpl : (backTo pos (starEach [e2] X.env)).any (·.1) = false := by rfl) :
    PI X (.Tuple elts kk tpos) (.Call (.Name "zip" p) [e, e2] [] pos) (iZip K ta) := by
  subst hK
  exact pi_zip hg hm ha hs hpl
theorem pi_listK {K : PySem.W.Frag} {X : Cx} {e tg : Expr} {t : TE} (hK : X.K = K) (h : PI X tg e (iList X.K t)) : PI X tg e (iList K t) := by
  subst hK
  exact h
theorem op_ltTK {K : PySem.W.Frag} {X : Cx} (hK : X.K = K) (hu : X.A.units < cLine) : OpR X (compareOp .Lt) (rLtT K) := by
  subst hK
  exact op_ltT hu
end HC
/-! list.extend of a tuple -/
namespace HK
open PySem PySem.Spec PyProof.Rows L2 SX
open AutoSeq1
theorem ext_tup (l : Addr) (us : Array Value) (n : Nat) (b : Addr) (vs : Array Value) (m : Nat) (od : Option Addr) (sl : Array (Option Value)) (h0 : ¬ (!us.isEmpty && Builtin.List.listTooLong (us.size + vs.size)) = true) (h1 : us.size ≤ sizeLine) (h2 : us.size + vs.size ≤ sizeLine + 1) :
    Meets (Builtin.«list.extend» ⟨[.ref l, .ref b], []⟩) (fun _ R s => (s.heap.get? l = some { cls := .type "list", dict := none, data := .seq us n, slots := #[] } ∧ s.heap.get? b = some { cls := .type "tuple", dict := od, data := .seq vs m, slots := sl }) ∧
      R (.ok (.ret Value.none)) { s with heap := s.heap.update l (Obj.mapSeq fun x => x ++ vs), toks := s.toks }) :=
  .of_wp fun prog w A R s h => by
    obtain ⟨hp, g, d, tk, os⟩ := s
    obtain ⟨⟨hl, hb⟩, h⟩ := h
    have f1 := idx_int
    have f2 := AutoSeq1.sub_tuple_tuple
    have f3 := AutoSeq1.sub_list_list
    have f4 := AutoSeq1.sub_tuple_list
    have f5 := AutoSeq1.sub_list_tuple
    have hz' : (us ++ vs).size ≤ sizeLine + 1 := by
      rw [Array.size_append]
      exact h2
    wp_walk using (wpAny_updateSeq hl rfl (hz := h1) (_hz' := hz')), wpAny_loadPart' hl, wpAny_loadPart' hb
    exact ⟨_, rfl, h⟩
section
variable {X : Cx}
def rExtT (K : PySem.W.Frag) : V → List V → Hp → VK → Prop := fun x vs H Q => ∃ l b xs zs, x = .ref l ∧ vs = [.ref b] ∧ H l = some (.lst xs) ∧ SqT K H b zs ∧ xs.length + zs.length ≤ sizeLine ∧ Q .non (upd H l (.lst (xs ++ zs)))
theorem mt_extendT : MtM X "list.extend" (rExtT X.K) := by
  intro pins s σ H x vs v us Q I rx rv h
  obtain ⟨l, b, xs, zs, rfl, rfl, hH, hB, hz, q⟩ := h
  cases rx
  obtain ⟨u, rfl, ru⟩ := rv.one
  cases ru
  obtain ⟨z, its, n, r, hl, e⟩ := I.lstM hH
  obtain ⟨its2, r2, ⟨⟨oc, od, dt, sl⟩, hb, hc, m, hd⟩, z2⟩ := I.tuple hB
  cases hc
  cases hd
  have e1 := r.length
  have e2 := r2.length
  have hsz : its.toArray.size + its2.toArray.size ≤ sizeLine := by
    rw [List.size_toArray, List.size_toArray]
    omega
  have hlong : ¬ (!its.toArray.isEmpty && Builtin.List.listTooLong (its.toArray.size + its2.toArray.size)) = true := by
    rw [notLongL hsz, Bool.and_false]
    decide
  refine call_meets F.slot_list_extend ⟨_, e, rfl⟩ F.entry_list_extend (F.args_list_extend_2 _ _) (ext_tup l its.toArray n b its2.toArray m od sl hlong (by omega) (by omega)) ⟨⟨e, hb⟩, .non, _, I.lset (its' := its ++ its2) hH e (by simp) (r.append r2) (by rw [List.length_append]; omega), rfl, q⟩
theorem op_in_kdK {K : PySem.W.Frag} {w : World} {d : Addr} {es : Array DictEntry} {n : Nat} (hK : X.K = K) (hw : X.w = w) (D : KDict K w d es n) : OpR X (compareOp .In) (fun x y H Q => ∃ (z : Str) (r : Option Value), x = .str z ∧ y = .ref d ∧ PySem.W.nsIn K d z = some r ∧ Q (.bl r.isSome) H) := by
  subst hK
  subst hw
  exact op_in_kd D
theorem ix_kdictK {K : PySem.W.Frag} {w : World} (hK : X.K = K) (hw : X.w = w) : IxR X (rIxD K w) := by
  subst hK
  subst hw
  exact ix_kdict
theorem pi_tupK {K : PySem.W.Frag} {tg l : Expr} {tl : TE} (hK : X.K = K) (hl : PE X l tl) : PI X tg l (iTup K tl) := by
  subst hK
  exact pi_tup hl
end
end HK
namespace KX
open PySem PySem.Spec PyProof.Rows L2 SX HL
/-! ### more rules within comprehensions: K is told -/
section
variable {X : Cx} {K : PySem.W.Frag}
theorem pa_starK {e : Expr} {es : List Expr} {te : TE} {t : TA} {p : Pos} (h : X.K = K) (he : PE X e te) (hr : PA X es t) (hs : starEach (.Starred e p :: es) X.env = (true, eval e X.env) :: starEach es X.env := by rfl) : PA X (.Starred e p :: es) (StX.tStar K te t) := by
  subst h
  exact StX.pa_star he hr hs
theorem call_tuple_ofK (h : X.K = K) : CallR X (.type "tuple") (fun xs H Q => ∃ p ys, xs = [.ref p] ∧ ((SqL K H p ys ∧ ∀ l, H l = none → Q (.ref l) (upd H l (.tup ys))) ∨ (SqT K H p ys ∧ Q (.ref p) H))) := by
  subst h
  exact call_tuple_of
theorem pe_fldK {e : Expr} {ta : TE} {f : Str} {pos : Pos} (h : X.K = K) (he : PE X e ta) (hb : attributeBase e f X.env (eval e X.env) = eval e X.env) : PE X (.Attribute e f pos) (tFld K ta f) := by
  subst h
  exact pe_fld he hb
theorem op_catTK (h : X.K = K) : OpR X (binaryOp .Add) (rCatT K) := by
  subst h
  exact op_catT
end
end KX
namespace HR
open PySem PySem.Spec PyProof.Rows L2 SX HL
section
variable {X : Cx} {e : Expr} {te ts : TE} {p2 pos p3 p4 : Pos} {kk : Nat}
theorem vals_reverse {xs : List V} {us : List Value} (r : Vals xs us) : Vals xs.reverse us.reverse := by
  induction r with
  | nil => exact .nil
  | @cons x u xs us h r ih =>
    rw [List.reverse_cons, List.reverse_cons]
    exact ih.append (.cons h .nil)
/-- xs[::-1] of a list -/
def tRevL (K : PySem.W.Frag) (te ts : TE) : TE := fun σ H Q => te σ H fun x H1 => ts σ H1 fun y H2 => y = .int (-1) ∧ ∃ a xs, x = .ref a ∧ SqL K H2 a xs ∧ ∀ p, H2 p = none → Q (.ref p) (upd H2 p (.lst xs.reverse))
theorem pe_revL (he : PE X e te) (hst : PE X (.UnaryOp .USub (.Constant (.int 1) kk p4) p3) ts) : PE X (.Subscript e (.Slice none none (some (.UnaryOp .USub (.Constant (.int 1) kk p4) p3)) p2) pos) (tRevL X.K te ts) := by
  refine ⟨fun pins s σ H Q I0 h0 => Subscript_ (thn (he.run pins s σ H _ I0 h0) fun v s1 ⟨x, H1, I1, r1, q1⟩ => wpAny_Slice ?_)⟩
  rw [evalPart_none]
  refine wpAny_pure ?_
  refine wpAny_pure ?_
  rw [evalPart_some]
  refine thn (hst.run pins s1 σ H1 _ I1 q1) fun w s2 ⟨y, H2, I2, r2, q2⟩ => ?_
  obtain ⟨rfl, a, xs, rfl, hx, q⟩ := q2
  obtain ⟨t, rfl⟩ := r2
  obtain rfl : v = Value.ref a := r1
  have I4 : Inv X pins σ H2 { s2 with heap := s2.heap.push { cls := .type "slice", data := .fields #[.none, .none, .int (-1) t] } } := I2.kept (t' := s2.toks) fun b ob g => Heap.get?_push_of_some _ g
  obtain ⟨its, r, pl, hz⟩ := I4.list hx
  have hlen := r.length
  refine tail_any (ops := [.ref a, .ref s2.heap.objs.size]) pl.isList.typeIs slot_list_getitem.lookup ?_ (by with_unfolding_all rfl)
  refine wpAny_getItem_list_slice (lo := none) (hi := none) (st := some (-1)) pl.isList (Heap.IsSliceOf.new ..) .none .none (.int (-1) t) (by decide) ?_ (by rw [List.size_toArray]; omega)
  rw [PySem.W.krv_pick]
  refine ⟨.ref _, _, I4.laid (t' := s2.toks) (o := .lst xs.reverse) (fun b ob g => Heap.get?_push_of_some _ g) (Nat.le_refl _) ?_, rfl, q _ (I4.hok.fresh (Nat.le_refl _))⟩
  exact ⟨by rw [List.length_reverse]; omega, _, 0, vals_reverse r, Heap.get?_push_size _ rfl⟩
end
end HR
namespace TG
open PySem PySem.Spec PyProof.Rows L2 SX HL
/-- a tuple that the top has written -/
theorem sqt_tup {K : PySem.W.Frag} {a : Addr} {od : Option Addr} {its : List Value} {n : Nat} {sl : Array (Option Value)} {xs : List V} (h : K.lookup a = some ⟨.type "tuple", od, .seq its.toArray n, sl⟩) (hs : its.toArray.size ≤ sizeLine) (hv : Vals xs its.toArray.toList) (H : Hp) : SqT K H a xs :=
  .inr ⟨_, its.toArray, n, h, rfl, rfl, hs, hv⟩
end TG
namespace HL
open PySem PySem.Spec PyProof.Rows L2 SX
theorem op_in_seqK {X : Cx} {K : PySem.W.Frag} (h : X.K = K) : OpR X (compareOp .In) (rIn K false) := by
  subst h
  exact op_in_seq
theorem op_notIn_seqK {X : Cx} {K : PySem.W.Frag} (h : X.K = K) : OpR X (compareOp .NotIn) (rIn K true) := by
  subst h
  exact op_notIn_seq
end HL
namespace XI
open PySem PySem.Spec PyProof.Rows L2
/-- isinstance(e, c), e what the suite holds, of whichever class -/
def rIsX (K : PySem.W.Frag) (cls : Value) (d : Option Addr) (a : Addr) : List V → Hp → VK → Prop := fun xs H Q => ∃ (D : Addr) (c : V) (cv : Value) (b : Bool), cls = .ref D ∧ d = none ∧ ExcC K D ∧ xs = [.ref a, c] ∧ (∀ u, RelV c u → u = cv) ∧ PySem.W.kitOne K (.ref D) cv = some b ∧ Q (.bl b) H
theorem call_isX {K : PySem.W.Frag} {X : Cx} {a : Addr} {oe : Obj} {pn : List (Addr × Obj)} {cls : Value} {d : Option Addr} (hK : X.K = K) (hz : Zc cls d oe) (hf : ∃ vs, oe.data = .fields vs) : CallR (X.suite a ((a, oe) :: pn)) (.builtin "isinstance") (rIsX K cls d a) := by
  subst hK
  intro pins s σ H xs us Q I r h
  obtain ⟨D, c, cv, b, rfl, rfl, C, rfl, hcv, e, q⟩ := h
  exact call_isE C hz hf pins s σ H _ us Q I r ⟨c, cv, b, rfl, hcv, e, q⟩
end XI
namespace XI
open PySem PySem.Spec PyProof.Rows L2
/-- a class is caught by the name of one above it -/
theorem exm_of2 {K : PySem.W.Frag} {S C : Addr} (h1 : PySem.W.subIn K (.ref C) (.type "BaseException") = some true) (h2 : PySem.W.isClsIn K C = true) (h3 : PySem.W.typeIn K (.ref C) = some (.type "type")) (h4 : PySem.W.subIn K (.ref S) (.ref C) = some true) :
    PySem.W.exmOne K (.ref S) (.ref C) = some true := by
  have e1 : (PySem.W.subIn K (.ref C) (.type "BaseException") == some true) = true := by rw [h1] <;> rfl
  have e2 : ((PySem.W.clsIn K C).isSome && PySem.W.typeIn K (.ref C) == some (.type "type")) = true := by
    have h2' : (PySem.W.clsIn K C).isSome = true := h2
    rw [h2', h3] <;> rfl
  show (if (PySem.W.subIn K (.ref C) (.type "BaseException") == some true) = true then (if ((PySem.W.clsIn K C).isSome && PySem.W.typeIn K (.ref C) == some (.type "type")) = true then PySem.W.subIn K (.ref S) (.ref C) else none) else none) = some true
  rw [if_pos e1, if_pos e2]
  exact h4
end XI
/-! enumerate(tuple) -/
namespace ET
open PySem PySem.Spec PyProof.Rows L2 SX
open AutoSeq1 (wpAny_loadPart')
theorem meets_tup (t : Addr) (items : Array Value) (n : Nat) (dct : Option Addr) (sl : Array (Option Value)) :
    Meets (Builtin.«enumerate.__new__» ⟨[.type "enumerate", .ref t], []⟩) (fun _ R s => s.heap.get? t = some ⟨.type "tuple", dct, .seq items n, sl⟩ ∧
      R (.ok (.ret (.ref (s.heap.push { cls := .type "tuple_iterator", data := .fields #[.ref t, .int 0 0] }).objs.size))) { s with heap := (s.heap.push { cls := .type "tuple_iterator", data := .fields #[.ref t, .int 0 0] }).push { cls := .type "enumerate", data := .fields #[.none, .bool false, .ref s.heap.objs.size, rawInt 0, .none, .none] } }) :=
  .of_wp fun prog w A R s h => by
    obtain ⟨hp, g, dr, tk, os⟩ := s
    obtain ⟨ho, h⟩ := h
    have hsub := sub_enumerate
    have ik2 : ∀ {A : Around} {E : Value → Shared → Prop} {Q : Value → Shared → Prop}, Q (.ref hp.objs.size) ⟨hp.push { cls := .type "tuple_iterator", data := .fields #[.ref t, .int 0 0] }, g, dr, tk, os⟩ → wpAny (model prog w) A (pyIter (.ref t)) Q E ⟨hp, g, dr, tk, os⟩ := fun q => wpAny_pyIter_tuple ⟨_, ho, rfl, n, rfl⟩ q
    wp_walk using wpAny_loadPart' ho
    refine wpAny_stack_any fun st => wpAny_pure ?_
    split
    · rename_i c _ _ _ _ _
      cases (c == Value.type "enumerate") <;> (wp_walk using wpAny_loadPart' ho, ik2; exact ⟨_, rfl, h⟩)
    · wp_walk using wpAny_loadPart' ho, ik2
      exact ⟨_, rfl, h⟩
/-- (0, first), (1, the next), ..: the tuple at a, of n items -/
def ItET (K : PySem.W.Frag) (a : Addr) (n : Nat) : It :=
  ⟨fun i H => i < n ∧ ∃ xs, SqT K H a xs ∧ xs.length = n, fun i H v H' => ∃ T x, v = .ref T ∧ H T = none ∧ H' = upd H T (.tup [.int (i : Nat), x]) ∧ ∀ xs, SqT K H a xs → xs[i]? = some x, fun i H => n ≤ i ∧ ∃ xs, SqT K H a xs ∧ xs.length = n⟩
theorem turn_et {P : Program} {w : World} {K : PySem.W.Frag} {elts : List Expr} {kk : Nat} {tpos : Pos} {a : Addr} {n : Nat} (e it : Addr) (hai : a ≠ it) (hae : a ≠ e) :
    Turn P w K (.Tuple elts kk tpos) (ItET K a n) [e, it] e (fun i h => (∃ old, IsEnum h e it ((i : Nat) : Int) old) ∧ h.IsTupleIter it a i ∧ e ≠ it ∧ i ≤ n) where
  mem := by simp
  obj := fun i h st b hb => by
    obtain ⟨⟨old, he⟩, ⟨o', ho, hc, hd⟩, _⟩ := st
    rcases (show b = e ∨ b = it by simpa using hb) with z | z
    · rw [z]; exact ⟨_, he, fun v q => nomatch q⟩
    · rw [z]; exact ⟨o', ho, fun v q => by rw [hd] at q; cases q⟩
  keep := fun i h h' st k => let ⟨⟨old, he⟩, hi, hne, hle⟩ := st; ⟨⟨old, k e (by simp) _ he⟩, hi.at fun o q => k it (by simp) o q, hne, hle⟩
  item := by
    intro X hP hw hK hc i pins s σ H E I hf st hg
    subst hP hw hK
    obtain ⟨⟨old, he⟩, hit, hne, hle⟩ := st
    obtain ⟨hi, xs, hq, hxl⟩ := hg
    obtain ⟨its, rv, p, hz⟩ := I.tuple hq
    have hlen : its.toArray.size = n := by rw [List.size_toArray, ← rv.length, hxl]
    have hel : e < s.heap.objs.size := Heap.lt_size he
    have hil : it < s.heap.objs.size := by obtain ⟨_, q, _⟩ := hit; exact Heap.lt_size q
    have D := Draws.tuple (prog := X.prog) (w := X.w) (A := X.A.in1) (I.ok.hd hc) it a hai its.toArray
    refine wpAny_pyNext_enum_itemD D he ⟨hit, p⟩ (by omega) hne (by simp [hne, Ne.symm hae]) fun x h' tk hP ho st' hT hsz' hk => ?_
    refine ⟨_, rfl, wpAny_letOwnedTupleGo_enum (s := { s with heap := h', toks := tk + 1 }) ho fun h'' he' sb => ?_⟩
    have hT2 : h''.get? s.heap.objs.size = some { cls := .type "tuple", data := .seq #[.int i tk, x] } := (sb.2 _ (Nat.ne_of_gt hel)).trans hT
    have hP' : its[i]? = some x := by
      have h1 : its.toArray[i]? = some x := hP
      simpa using h1
    obtain ⟨v, hv, rk⟩ : ∃ v, xs[i]? = some v ∧ RelV v x := by
      have hlt : i < xs.length := by omega
      obtain ⟨u, hu, ru⟩ := rv.get (List.getElem?_eq_getElem hlt)
      rw [hP'] at hu
      cases hu
      exact ⟨_, List.getElem?_eq_getElem hlt, ru⟩
    have new : ObjOk X.prog X.w (upd H s.heap.objs.size (.tup [.int (i : Nat), v])) h'' s.heap.objs.size (.tup [.int (i : Nat), v]) :=
      ⟨by show 2 ≤ sizeLine; decide, [.int i tk, x], .cons ⟨_, rfl⟩ (.cons rk .nil), ⟨_, hT2, rfl, _, rfl⟩⟩
    have I1 : Inv X pins σ (upd H s.heap.objs.size (.tup [.int (i : Nat), v])) { s with heap := h'', toks := tk + 1 } :=
      I.turnedNew (ch := [e, it]) (fun b ob hb q => (sb.2 b (fun z => hb (by simp [z]))).trans (hk b ob (fun z => hb (by simp [z])) (fun z => hb (by simp [z])) q)) hf (Nat.le_refl _) new
    refine ⟨.ref s.heap.objs.size, _, I1, rfl, ⟨_, v, rfl, I.hok.fresh (Nat.le_refl _), rfl, fun ys hy => by rw [I.tuple_inj hy hq]; exact hv⟩, ⟨⟨x, ?_⟩, ?_, hne, by omega⟩, fun b hb => ?_⟩
    · have e1 : ((i + 1 : Nat) : Int) = (i : Int) + 1 := by omega
      rw [e1]; exact he'
    · exact st'.1.at fun o q => (sb.2 it (Ne.symm hne)).trans q
    · have hb' : b < s.heap.objs.size := by
        rcases (show b = e ∨ b = it by simpa using hb) with z | z
        · rw [z]; exact hel
        · rw [z]; exact hil
      rw [upd_ne (Nat.ne_of_lt hb')]
      exact (hf b hb).1
  done := by
    intro X hP hw hK hc i pins s σ H E I hf st hg
    subst hP hw hK
    obtain ⟨⟨old, he⟩, hit, hne, hle⟩ := st
    obtain ⟨hi, xs, hq, hxl⟩ := hg
    obtain ⟨its, rv, p, hz⟩ := I.tuple hq
    have hlen : its.toArray.size = n := by rw [List.size_toArray, ← rv.length, hxl]
    obtain ⟨f0, f1, f2, f3, f4, f5⟩ := hf it (by simp)
    have D := Draws.tuple (prog := X.prog) (w := X.w) (A := X.A.in1) (I.ok.hd hc) it a hai its.toArray
    have ei : i = its.toArray.size := by omega
    rw [ei] at hit
    exact wpAny_pyNext_enum_endD D he ⟨hit, p⟩ fun h' eb => ⟨rfl, I.turned (t' := s.toks) (fun b o hb q => eb b o hb q) f0 f1 f3 f4 f5⟩
  self := fun A i s Q E st h => let ⟨⟨_, he⟩, _⟩ := st; wpAny_pyIter_enum he h
def iEnumT (K : PySem.W.Frag) (ta : TA) : TI := fun σ H R => ta σ H fun vs H1 => ∃ (a : Addr) (xs : List V), vs = [.ref a] ∧ SqT K H1 a xs ∧ R (ItET K a xs.length) H1
theorem call_enum_tup {prog : Program} {w : World} {A : Around} {E : Value → Shared → Prop} {s : Shared} {t : Addr} {items : Array Value} {Q : Value → Shared → Prop} (hL : s.heap.IsTuple t items)
    (h : ∀ h', IsEnum h' (s.heap.objs.size + 1) s.heap.objs.size 0 .none → h'.IsTupleIter s.heap.objs.size t 0 → h'.objs.size = s.heap.objs.size + 2 →
      (∀ b o, s.heap.get? b = some o → h'.get? b = some o) → Q (.ref (s.heap.objs.size + 1)) { s with heap := h' }) :
    wpAny (model prog w) A (call (.type "enumerate") [.ref t]) Q E s := by
  obtain ⟨⟨c, dct, dt, sl⟩, hl, hc, n, hd⟩ := hL
  replace hc : c = .type "tuple" := hc
  replace hd : dt = .seq items n := hd
  subst hc hd
  refine callType_new F.called_enumerate (by decide) (F.typeCall_enumerate_1 _) (F.newCall_enumerate_1 _) (fun obj => F.args_object_init_2 obj _) F.entry_enumerate_new (meets_tup t items n dct sl) ⟨hl, ?_⟩
  have hz : (s.heap.push { cls := .type "tuple_iterator", data := .fields #[.ref t, .int 0 0] }).objs.size = s.heap.objs.size + 1 := Heap.size_push ..
  show _ ∧ _
  rw [hz]
  have he : IsEnum ((s.heap.push { cls := .type "tuple_iterator", data := .fields #[.ref t, .int 0 0] }).push { cls := .type "enumerate", data := .fields #[.none, .bool false, .ref s.heap.objs.size, rawInt 0, .none, .none] }) (s.heap.objs.size + 1) s.heap.objs.size 0 .none := by
    have := Heap.get?_push_size (s.heap.push { cls := .type "tuple_iterator", data := .fields #[.ref t, .int 0 0] }) (o := { cls := .type "enumerate", data := .fields #[.none, .bool false, .ref s.heap.objs.size, rawInt 0, .none, .none] }) rfl
    rw [hz] at this
    exact this
  exact ⟨⟨_, he, rfl⟩, h _ he ⟨_, Heap.get?_push_of_some _ (Heap.get?_push_size _ rfl), rfl, rfl⟩ (by rw [Heap.size_push, hz]) fun b o x => Heap.get?_push_of_some _ (Heap.get?_push_of_some _ x)⟩
/-- enumerate(x), x a tuple -/
theorem pi_enumT {X : Cx} {e : Expr} {ta : TA} {p pos tpos : Pos} {elts : List Expr} {kk : Nat} (hg : Gl X "enumerate") (hm : X.mg "enumerate" = none) (ha : PA X [e] ta) (hs : starEach [e] X.env = [(false, eval e X.env)] := by rfl) :
    PI X (.Tuple elts kk tpos) (.Call (.Name "enumerate" p) [e] [] pos) (iEnumT X.K ta) := by
  refine ⟨fun pins s σ H R I h => ?_⟩
  refine Call_ (ld_blt I hg hm boot_enumerate (PyProof.Rows.callWith_type1 (thn (ha.run pos pins s σ H _ I h) fun us s1 ⟨vs, H1, I1, r1, q1⟩ => ?_) hs rfl))
  obtain ⟨a, xs, ex, hq, q⟩ := q1
  subst ex
  cases r1 with
  | cons r rr =>
    cases rr
    cases r
    obtain ⟨its, rv, p', hz⟩ := I1.tuple hq
    have hal : a < s1.heap.objs.size := by obtain ⟨o, ho, _⟩ := p'; exact Heap.lt_size ho
    refine call_enum_tup p' fun h' he hit hsz hk => wpAny_pyIter_enum he ?_
    have I2 : Inv X pins σ H1 { s1 with heap := h' } := I1.kept (t' := s1.toks) hk
    refine ⟨s1.heap.objs.size + 1, [s1.heap.objs.size + 1, s1.heap.objs.size], _, _, H1, rfl, I2, turn_et (a := a) (n := xs.length) (s1.heap.objs.size + 1) s1.heap.objs.size (Nat.ne_of_lt hal) (Nat.ne_of_lt (Nat.lt_succ_of_lt hal)), ⟨⟨.none, he⟩, hit, Nat.succ_ne_self _, Nat.zero_le _⟩, fun b hb => ?_, q⟩
    have hle : s1.heap.objs.size ≤ b := by
      rcases (show b = s1.heap.objs.size + 1 ∨ b = s1.heap.objs.size by simpa using hb) with z | z
      · rw [z]; exact Nat.le_add_right _ _
      · rw [z]; exact Nat.le_refl _
    exact I1.fpOk hle (I1.hok.fresh hle)
theorem pi_enumTK {K : PySem.W.Frag} {X : Cx} {e : Expr} {ta : TA} {p pos tpos : Pos} {elts : List Expr} {kk : Nat} (hK : X.K = K) (hg : Gl X "enumerate") (hm : X.mg "enumerate" = none) (ha : PA X [e] ta) (hs : starEach [e] X.env = [(false, eval e X.env)] := by rfl) :
    PI X (.Tuple elts kk tpos) (.Call (.Name "enumerate" p) [e] [] pos) (iEnumT K ta) := by
  subst hK
  exact pi_enumT hg hm ha hs
theorem walk_et {K : PySem.W.Frag} {a : Addr} {xs : List V} : Walk (ItET K a xs.length) xs.length (fun H => SqT K H a xs) (YPair (fun i => some (.int (i : Nat))) (fun i => xs[i]?)) := by
  refine ⟨fun i H hi q => ⟨hi, xs, q, rfl⟩, fun H q => ⟨Nat.le_refl _, xs, q, rfl⟩, fun i H v H' _ q y => ?_⟩
  obtain ⟨T, x, h1, h2, h3, h4⟩ := y
  exact ⟨T, .int (i : Nat), x, h1, h2, h3, rfl, h4 xs q⟩
theorem pi_listK {X : Cx} {tg l : Expr} {tl : TE} {K : PySem.W.Frag} (hK : X.K = K) (hl : PE X l tl) : PI X tg l (iList K tl) := by
  subst hK
  exact pi_list hl
/-- a list or a tuple -/
def iSeq (K : PySem.W.Frag) (tl : TE) : TI := fun σ H R => tl σ H fun x H1 => ∃ a xs, x = .ref a ∧ ((SqL K H1 a xs ∧ R (Itl K a) H1) ∨ (SqT K H1 a xs ∧ R (Itt K a) H1))
theorem pi_seqK {X : Cx} {tg l : Expr} {tl : TE} {K : PySem.W.Frag} (hK : X.K = K) (hl : PE X l tl) : PI X tg l (iSeq K tl) := by
  subst hK
  refine ⟨fun pins s σ H R I h => ?_⟩
  refine thn (hl.run pins s σ H _ I h) fun v s1 ⟨x, H1, I1, r1, q1⟩ => ?_
  obtain ⟨a, xs, e, q⟩ := q1
  subst e
  cases r1
  rcases q with ⟨hq, q⟩ | ⟨hq, q⟩
  · obtain ⟨its, rv, p, hz⟩ := I1.list hq
    refine wpAny_pyIter_list p.isList ?_
    refine ⟨s1.heap.objs.size, [s1.heap.objs.size], _, _, H1, rfl, I1.kept (t' := s1.toks) fun b o e => Heap.get?_push_of_some _ e, turn_list a _, ⟨_, Heap.get?_push_size _ rfl, rfl, rfl⟩, fun b hb => ?_, q⟩
    have e : b = s1.heap.objs.size := by simpa using hb
    subst e
    exact I1.fpOk (Nat.le_refl _) (I1.hok.fresh (Nat.le_refl _))
  · obtain ⟨its, rv, p, hz⟩ := I1.tuple hq
    refine wpAny_pyIter_tuple (show s1.heap.IsTuple a its.toArray from p) ?_
    refine ⟨s1.heap.objs.size, [s1.heap.objs.size], _, _, H1, rfl, I1.kept (t' := s1.toks) fun b o e => Heap.get?_push_of_some _ e, turn_tuple a _, ⟨_, Heap.get?_push_size _ rfl, rfl, rfl⟩, fun b hb => ?_, q⟩
    have e : b = s1.heap.objs.size := by simpa using hb
    subst e
    exact I1.fpOk (Nat.le_refl _) (I1.hok.fresh (Nat.le_refl _))
end ET
namespace QT
open PySem PySem.Spec PyProof.Rows L2 SX HL
/-- a def that may raise, but does not where its promise is told for every end by an exception -/
theorem quiet {P : Program} {w : World} {K : PySem.W.Frag} {mg : Str → Option Value} {base : Heap} {k : Nat} {f : Addr} {fd : FuncData} {ps : List Str} {sp sp' : Sp}
    (F : FnOk P w K mg base (L2.CX P w) k f fd ps sp) (h : ∀ vs H Q E, sp' vs H Q E → sp vs H Q (fun _ _ _ => False)) : FnOk P w K mg base CX0 k f fd ps sp' :=
  ⟨fun vs H Q E q => F.len vs H Q _ (h vs H Q E q), fun A outer s H args us vs Q E hr he hb hv hs =>
    codeAny_mono (F.run A outer s H args us vs Q (fun _ _ _ => False) hr he hb hv (h vs H Q E hs)) fun r s' hc => by
      cases r with
      | ok o =>
        cases o with
        | ret u => exact hc
        | _ => exact hc
      | error e =>
        obtain ⟨_, _, _, _, _, _, _, _, _, _, _, _, z⟩ := hc
        exact z.elim⟩
end QT
namespace HS
open PySem PySem.Spec PyProof.Rows L2 LamX
/-! ## sorted(xs, key=lambda x: body) -/
section
variable {K : PySem.W.Frag} {H H' : Hp}
mutual
theorem dp_ext (e : Ext H H') : ∀ (d : PyData) (v : V), Dp K H v d → Dp K H' v d
  | .none, _, h => by cases h; exact .non
  | .bool b, _, h => by cases h; exact .bl b
  | .int i, _, h => by cases h; exact .int i
  | .str x, _, h => by cases h; exact .str x
  | .list ds, _, h => by
    cases h with
    | lst h1 h2 => exact .lst (h1.ext e) (dpAll_ext e ds _ h2)
  | .tuple ds, _, h => by
    cases h with
    | tup h1 h2 => exact .tup (h1.ext e) (dpAll_ext e ds _ h2)
  | .dict _, _, h => by cases h
theorem dpAll_ext (e : Ext H H') : ∀ (ds : List PyData) (vs : List V), DpAll K H vs ds → DpAll K H' vs ds
  | [], _, h => by cases h; exact .nil
  | d :: ds, _, h => by
    cases h with
    | cons h1 h2 => exact .cons (dp_ext e d _ h1) (dpAll_ext e ds _ h2)
end
theorem dpAll_len : ∀ (ds : List PyData) (vs : List V), DpAll K H vs ds → vs.length = ds.length
  | [], _, h => by cases h; rfl
  | d :: ds, _, h => by
    cases h with
    | cons h1 h2 => rw [List.length_cons, List.length_cons, dpAll_len ds _ h2]
theorem DpAll.snoc : ∀ {vs : List V} {ds : List PyData} {v : V} {d : PyData}, DpAll K H vs ds → Dp K H v d → DpAll K H (vs ++ [v]) (ds ++ [d])
  | [], _, v, d, h, q => by cases h; exact .cons q .nil
  | _ :: _, _, v, d, h, q => by
    cases h with
    | cons h1 h2 => exact .cons h1 (DpAll.snoc h2 q)
end
section
variable {X : Cx} {pins : List (Addr × Obj)} {σ : L2.St} {H : Hp} {s : Shared}
theorem dp_each (I : Inv X pins σ H s) : ∀ {vs : List V} {ds : List PyData} {us : List Value}, DpAll X.K H vs ds → Vals vs us → PySem.W.EachIs (fun v d => ∃ as, Reads s.heap v d as) us ds
  | _, _, _, .nil, r => by cases r; exact .nil
  | _, _, _, .cons h1 h2, r => by
    cases r with
    | cons r1 r2 => exact .cons (Dp.reads I _ _ _ h1 r1) (dp_each I h2 r2)
end
/-- a lambda called with values -/
theorem lam_run {CX : CXT} {P : Program} {w : World} {K : PySem.W.Frag} {mg : Str → Option Value} {base : Heap} {k : Nat} {f c' : Addr} {q : Str} {params : Arguments} {body : Expr} {scope : Scope} {pm ctv : Value} {N ps : List Str} (S : FnScope N ps scope)
    {A : Around} {outer : List Env} {s : Shared} {H : Hp} {us : List Value} {vs : List V} {Q : VK} {E : XK} (hr : Room (k + 1) A) (e0 : Env0 P w K mg base A outer s H) (hf : s.heap.get? f = some (PySem.W.kla_obj "<lambda>" q params body scope [] pm c' ctv)) (hc : H c' = some (CodeO c' q))
    (hb : bindArgs (PySem.W.kla_fn "<lambda>" q params body scope [] pm (.ref c') ctv) ⟨us, []⟩ = pure (ps.zip us)) (r : Vals vs us) (hl : vs.length = ps.length)
    (hbody : Room k (A.deeper (envOfC q scope s.heap.objs.size f (.ref c'))) → ∃ t, PE (cxOf CX P w K mg base N q scope f (.ref c') A outer s H E) body t ∧ t (L2.start N vs) H Q) :
    codeAny (model P w) A (.call (.ref f) ⟨us, []⟩) (CR CX outer P w H s Q E) s := by
  have lim : s.heap.NoLimit := e0.mod.nolimit.keeps fun b o e => (e0.bs b o e).1
  have hkind : ∀ y ∈ ps.zip us, scope.names.lookup y.1 = some .local ∨ (scope.names.lookup y.1 = some .cell ∧ ((cellsFrom (s.heap.objs.size + 1) scope.names []).lookup y.1).isSome = true) := fun ⟨n, v⟩ hy => by
    rcases S.par n (List.of_mem_zip hy).1 with q | q
    · exact .inl q
    · exact .inr ⟨q, PySem.W.cellsFrom_some _ _ _ (.inl q)⟩
  obtain ⟨⟨oc, xs, t, hoc, hdc, hvc⟩, _, _⟩ := e0.hok c' _ hc
  refine PySem.W.kla_callFunE hr.depth hf rfl S.co S.gen rfl ⟨c', oc, xs, t, rfl, hoc, hdc, hvc⟩ ?_
  rw [hb]
  refine wpAny_pure (wpAny_newFunctionEnv_cells S.kind hkind fun env he s1 x => ?_)
  subst he
  refine ⟨lim.keeps x.toInCall.keep, ?_⟩
  obtain ⟨t, ht, hq⟩ := hbody (hr.deeper _)
  have I : Inv (cxOf CX P w K mg base N q scope f (.ref c') A outer s H E) [] (L2.start N vs) H s1 := inv_start S hr.hd e0 hl r x
  refine PySem.W.kla_codeExpr (wpAny_mono (ht.run [] s1 (L2.start N vs) H Q I hq) (fun v s' hs => ?_) fun e s' hs => hs)
  obtain ⟨v', H', J, rv, q'⟩ := hs
  exact ⟨v', H', J.os, J.bare, J.base, J.hok, rv, q'⟩
section
variable {X : Cx} {pins : List (Addr × Obj)} {σ : L2.St} {H : Hp} {s : Shared}
/-- an untracked record of ours, pinned, is written -/
theorem turnedPin {h' : Heap} {t' : Nat} {it : Addr} {o o' : Obj} (I : Inv X ((it, o) :: pins) σ H s) (hs : X.s_0.heap.objs.size ≤ it) (hc : ∀ x c, X.env.cells.lookup x = some c → c ≠ it) (hp : ∀ p ∈ X.pn ++ pins, p.1 ≠ it)
    (k : ∀ b u, b ≠ it → s.heap.get? b = some u → h'.get? b = some u) (ho : h'.get? it = some o') (hd : ∀ v, o'.data ≠ .cell v) : Inv X ((it, o') :: pins) σ H { s with heap := h', toks := t' } := by
  obtain ⟨e, n, nl, nf, _⟩ := I.pin (it, o) (List.mem_append_right _ List.mem_cons_self)
  have I1 : Inv X pins σ H s := I.pins_of fun r hr => I.pin r (List.mem_append_right _ (List.mem_cons_of_mem _ hr))
  have I2 : Inv X pins σ H { s with heap := h', toks := t' } := I1.turned (it := it) k n nl (.inr hs) hc hp
  refine I2.pins_of fun p hm => ?_
  rcases List.mem_cons.mp hm with z | z
  · rw [z]
    exact ⟨ho, n, nl, nf, hd⟩
  · exact I2.pin p (List.mem_append_right _ z)
/-- the list at a and the keys' list at kS end: a is tracked from now on -/
theorem laidEnd {h' : Heap} {t' : Nat} {a kS : Addr} {oa ok : Obj} {zs : List V} {out : List Value} {c : Nat} (I : Inv X ((kS, ok) :: (a, oa) :: pins) σ H s) (hka : kS ≠ a) (ha : X.s_0.heap.objs.size ≤ a) (hk : X.s_0.heap.objs.size ≤ kS)
    (hca : ∀ x c, X.env.cells.lookup x = some c → c ≠ a ∧ c ≠ kS) (hp : ∀ p ∈ X.pn ++ pins, p.1 ≠ a ∧ p.1 ≠ kS) (k : ∀ b u, b ≠ a → b ≠ kS → s.heap.get? b = some u → h'.get? b = some u)
    (ho : h'.get? a = some (seqObj "list" out.toArray c)) (r : Vals zs out) (hz : zs.length ≤ sizeLine) : Inv X pins σ (upd H a (.lst zs)) { s with heap := h', toks := t' } := by
  obtain ⟨ek, nk, kl, kf, _⟩ := I.pin (kS, ok) (List.mem_append_right _ List.mem_cons_self)
  obtain ⟨ea, na, al, af, _⟩ := I.pin (a, oa) (List.mem_append_right _ (List.mem_cons_of_mem _ List.mem_cons_self))
  have ek : s.heap.get? kS = some ok := ek
  have ea : s.heap.get? a = some oa := ea
  have nk : H kS = none := nk
  have na : H a = none := na
  have I1 : Inv X pins σ H s := I.pins_of fun r hr => I.pin r (List.mem_append_right _ (List.mem_cons_of_mem _ (List.mem_cons_of_mem _ hr)))
  have nit : ∀ b u, H b = some u → b ≠ a ∧ b ≠ kS := fun b u e => ⟨fun z => (by rw [z, na] at e; cases e), fun z => (by rw [z, nk] at e; cases e)⟩
  have kc : ∀ b o, b ∉ [a, kS] → s.heap.get? b = some o → h'.get? b = some o := fun b o hb e => k b o (fun z => hb (by simp [z])) (fun z => hb (by simp [z])) e
  refine I1.step (g' := s.gens) (d' := s.drawn) (ch := [a, kS]) (fun b hb => ?_) (fun b o _ _ hb e _ => kc b o hb e) (fun b o _ _ hb e _ => ⟨o.slots, kc b o hb e⟩) (fun b o hb e n => ?_) (fun b o hb e => ⟨o, kc b o hb e⟩) (fun b xs e => ?_) (fun b o u e => ?_) (fun b ps e => ⟨#[], ?_⟩) (fun m hm => ?_) (fun b u e => ?_) I1.bare
  · rcases List.mem_cons.mp hb with z | z
    · rw [z]
      exact ⟨.inr ha, al, fun x c e => (hca x c e).1, fun p hm => (hp p hm).1⟩
    · have z : b = kS := by simpa using z
      rw [z]
      exact ⟨.inr hk, kl, fun x c e => (hca x c e).2, fun p hm => (hp p hm).2⟩
  · rw [upd_ne (fun z => hb (by simp [z]))]
    exact n
  · rw [upd_ne (nit b _ e).1]
    exact e
  · rw [upd_ne (nit b _ e).1]
    exact e
  · rw [upd_ne (nit b _ e).1, e]
    simp
  · obtain ⟨o, es, ep, ho, r⟩ := hm
    exact ⟨o, es, ep, k _ o (Ne.symm al) (Ne.symm kl) ho, r⟩
  · by_cases hb : b = a
    · rw [hb, upd_same] at e
      cases e
      rw [hb]
      exact ⟨hz, out, c, r, ho⟩
    · rw [upd_ne hb] at e
      refine (I1.hok b u e).stay (fun d v hd q => ?_) (fun d q => by rw [upd_ne (nit d _ q).1]; exact q) fun d xs q => by rw [upd_ne (nit d _ q).1]; exact q
      rcases hd with z | z
      · rw [z] at q ⊢
        exact k b v (nit b u e).1 (nit b u e).2 q
      · exact k d v (nit d _ z).1 (nit d _ z).2 q
end
section
variable {X : Cx} {pins : List (Addr × Obj)} {σ : L2.St} {H : Hp} {s : Shared}
theorem SortsAt_data_of {prog : Program} {w : World} {A : Around} {s : Shared} {vs : List Value} {ds : List PyData} (e : PySem.W.EachIs (fun v d => ∃ as, Reads s.heap v d as) vs ds) (hal : PySem.W.AllAlike ds) (hk : PySem.W.Sortable ds) (hu : ∀ d, d ∈ ds → A.units + d.depth < cLine) :
    PySem.W.SortsAt prog w A s (PySem.W.dataKind s.heap ds) vs := PySem.W.SortsAt.data e hal hk hu
/-- the items in the order of their keys -/
noncomputable def byKey (xs : List V) (ds : List PyData) : List V := ((xs.zip ds).mergeSort (PySem.W.dataLe false Prod.snd)).map Prod.fst
theorem zip_each : ∀ {xs : List V} {its : List Value} (ds : List PyData), Vals xs its → ds.length = xs.length → PySem.W.EachIs (fun (u : Value) (b : V × PyData) => RelV b.1 u) its (xs.zip ds)
  | [], _, ds, h, _ => by cases h; exact .nil
  | x :: xs, _, [], h, e => by cases e
  | x :: xs, _, d :: ds, h, e => by
    cases h with
    | cons h1 h2 => exact .cons h1 (zip_each ds h2 (by simpa using e))
theorem each_vals : ∀ {bs : List (V × PyData)} {us : List Value}, PySem.W.EachIs (fun (u : Value) (b : V × PyData) => RelV b.1 u) us bs → Vals (bs.map Prod.fst) us
  | _, _, .nil => .nil
  | _, _, .cons h t => .cons h (each_vals t)
theorem zip_snd : ∀ (xs : List V) (ds : List PyData), ds.length = xs.length → (xs.zip ds).map Prod.snd = ds
  | [], ds, h => by
    cases ds with
    | nil => rfl
    | cons d ds => cases h
  | x :: xs, [], h => by cases h
  | x :: xs, d :: ds, h => by
    show d :: (xs.zip ds).map Prod.snd = d :: ds
    rw [zip_snd xs ds (by simpa using h)]
theorem vals_snoc {vs : List V} {us : List Value} {v : V} {u : Value} (r : Vals vs us) (q : RelV v u) : Vals (vs ++ [v]) (us ++ [u]) := by
  induction r with
  | nil => exact .cons q .nil
  | cons h _ ih => exact .cons h ih
/-- the sort by a key of the list at a, which is new since s0 -/
theorem sort_body {s0 : Shared} {H0 : Hp} {a f : Addr} {fo : Obj} {xs : List V} {its : List Value} {ds : List PyData} {P0 : Hp → Prop} {Q : VK} {E' : Value → Shared → Prop} (I0 : Inv X pins σ H0 s0) (h0a : s0.heap.objs.size ≤ a) (hf0 : ∃ o, s0.heap.get? f = some o) (I : Inv X pins σ H s) (rv : Vals xs its) (hz : xs.length ≤ sizeLine)
    (ho : s.heap.get? a = some (seqObj "list" its.toArray 0)) (hna : H a = none) (hf : s.heap.get? f = some fo) (hfn : H f = none) (hfr : f ≠ X.env.locals ∧ f ∉ X.fs) (hfc : ∀ v, fo.data ≠ .cell v)
    (hal : PySem.W.AllAlike ds) (hk : PySem.W.Sortable ds) (hlen : ds.length = xs.length) (hu : ∀ d, d ∈ ds → X.A.units + 2 + d.depth < cLine) (p0 : P0 H)
    (turn : ∀ (i : Nat) (v : V) (u : Value) (d : PyData) (s' : Shared) (H' : Hp), xs[i]? = some v → ds[i]? = some d → RelV v u → Env0 X.prog X.w X.K X.mg X.base X.A.in1.in1 X.stack s' H' → s'.heap.get? f = some fo → Ext H H' → P0 H' →
      wpAny (model X.prog X.w) X.A.in1.in1 (call (.ref f) [u]) (CE X.stack X.prog X.w H' s' (fun kv H'' => Dp X.K H'' kv d ∧ Ext H' H'' ∧ P0 H'')) (fun _ _ => False) s')
    (q : ∀ (H' : Hp), Ext H H' → P0 H' → H' a = none → Q (.ref a) (upd H' a (.lst (byKey xs ds)))) :
    wpAny (model X.prog X.w) X.A.in1.in1 (Builtin.«list.sort» ⟨[.ref a], [(Str.ofString "key", .ref f)]⟩) (fun f s' => f = .done (.ret .none) ∧ EP X pins σ Q (.ref a) s') E' s := by
  have hzi : its.length ≤ sizeLine := by rw [← rv.length]; exact hz
  have hil : its.length = xs.length := rv.length.symm
  rw [PyProof.Rows.ksk_t1]
  have ha : @LT.lt Nat _ a s.heap.objs.size := Heap.lt_size ho
  obtain ⟨e1, ho1⟩ : ∃ e1, (s.heap.update a (Obj.mapSeq fun _ => (#[] : Array Value))).get? a = some (seqObj "list" #[] e1) := ⟨_, get?_update_seq ho fun _ => #[]⟩
  unfold PyProof.Rows.ksk_tree
  refine wpAny_bind (listItems_at ho rfl ?_)
  refine wpAny_bind (listUpdate_at ho rfl ?_ (by rw [List.size_toArray]; exact hzi) (Nat.zero_le _))
  refine wpAny_bind (seqEpoch_at ho1 rfl ?_)
  refine wpAny_bind (wpAny_newTuple ?_ (by show its.length ≤ _; exact hzi))
  refine wpAny_bind (wpAny_newList ?_ (Nat.zero_le _))
  refine wpAny_holding ?_
  have hkS : (s.heap.update a (Obj.mapSeq fun _ => (#[] : Array Value))).objs.size = s.heap.objs.size := Heap.size_update _ _ _
  generalize hks : ((s.heap.update a (Obj.mapSeq fun _ => (#[] : Array Value))).push (seqObj "tuple" its.toArray 0)).objs.size = kS
  have hka : @LT.lt Nat _ a kS := by
    rw [← hks, size_push', hkS]
    omega
  have hsk0 : s.heap.objs.size < kS := by rw [← hks, size_push', hkS]; exact Nat.lt_succ_self _
  generalize hg : (((s.heap.update a (Obj.mapSeq fun _ => (#[] : Array Value))).push (seqObj "tuple" its.toArray 0)).push (seqObj "list" #[] 0)) = h₂
  have g1 : h₂.get? kS = some (seqObj "list" #[] 0) := by rw [← hg, ← hks]; exact Heap.get?_push_size _ rfl
  have g2 : h₂.get? a = some (seqObj "list" #[] e1) := by rw [← hg]; exact Heap.get?_push_of_some _ (Heap.get?_push_of_some _ ho1)
  have g3 : ∀ b o, b ≠ a → s.heap.get? b = some o → h₂.get? b = some o := fun b o hb e => by
    rw [← hg]
    refine Heap.get?_push_of_some _ (Heap.get?_push_of_some _ ?_)
    rw [Heap.get?_update_ne _ _ _ _ hb]
    exact e
  have hcl : ∀ x c, X.env.cells.lookup x = some c → @LT.lt Nat _ c s0.heap.objs.size := fun x c e => by
    obtain ⟨v, o, z, _⟩ := I0.cell x c e
    exact Heap.lt_size z
  have hpl : ∀ p ∈ X.pn ++ pins, @LT.lt Nat _ p.1 s0.heap.objs.size := fun p hp => Heap.lt_size (I0.pin p hp).1
  have hfl : @LT.lt Nat _ f s0.heap.objs.size := Heap.lt_size hf0.choose_spec
  have hsz : X.s_0.heap.objs.size ≤ s0.heap.objs.size := I0.sz
  have hll : @LT.lt Nat _ X.env.locals s0.heap.objs.size := I0.lt
  have hcS : ∀ x c, X.env.cells.lookup x = some c → c ≠ a ∧ c ≠ kS := fun x c e => by
    have := hcl x c e
    exact ⟨Nat.ne_of_lt (by omega), Nat.ne_of_lt (by omega)⟩
  have hpS : ∀ p ∈ X.pn ++ ((f, fo) :: pins), p.1 ≠ a ∧ p.1 ≠ kS := fun p hp => by
    have : @LT.lt Nat _ p.1 s0.heap.objs.size := by
      rcases List.mem_append.mp hp with z | z
      · exact hpl p (List.mem_append_left _ z)
      · rcases List.mem_cons.mp z with z | z
        · rw [z]
          exact hfl
        · exact hpl p (List.mem_append_right _ z)
    exact ⟨Nat.ne_of_lt (by omega), Nat.ne_of_lt (by omega)⟩
  have J0 : Inv X pins σ H { s with heap := h₂ } := I.turned (it := a) (t' := s.toks) g3 hna (Nat.ne_of_gt (by omega)) (.inr (by omega)) (fun x c e => (hcS x c e).1) (fun p hp => (hpS p (by
    rcases List.mem_append.mp hp with z | z
    · exact List.mem_append_left _ z
    · exact List.mem_append_right _ (List.mem_cons_of_mem _ z))).1)
  have J1 : Inv X ((kS, seqObj "list" #[] 0) :: (a, seqObj "list" #[] e1) :: (f, fo) :: pins) σ H { s with heap := h₂ } := by
    refine J0.pins_of fun p hp => ?_
    rcases List.mem_cons.mp hp with z | hp
    · rw [z]
      exact ⟨g1, I.hok.fresh (Nat.le_of_lt hsk0), Nat.ne_of_gt (by omega), I.nofs (Nat.le_of_lt hsk0), fun v z => by cases z⟩
    rcases List.mem_cons.mp hp with z | hp
    · rw [z]
      exact ⟨g2, hna, Nat.ne_of_gt (by omega), I0.nofs h0a, fun v z => by cases z⟩
    rcases List.mem_cons.mp hp with z | hp
    · rw [z]
      exact ⟨g3 _ _ (Nat.ne_of_lt (by omega)) hf, hfn, hfr.1, hfr.2, hfc⟩
    · exact J0.pin p (List.mem_append_right _ hp)
  unfold PyProof.Rows.ksk_rest
  refine wpAny_bind (wpAny_rule ?_)
  rw [List.forIn_toArray]
  refine wpAny_bind (ksk_fold (fun i s' => ∃ H' kA e kvs, Inv X ((kS, seqObj "list" kA e) :: (a, seqObj "list" #[] e1) :: (f, fo) :: pins) σ H' s' ∧ Ext H H' ∧ P0 H' ∧ Vals kvs kA.toList ∧ DpAll X.K H' kvs (ds.take i)) its 0 _
    ⟨H, #[], 0, [], J1, Ext.rfl', p0, .nil, by rw [List.take_zero]; exact .nil⟩ ?step ?done)
  case step =>
    rintro j u s' hx ⟨H', kA, e, kvs, J, eH, hp0, rk, hD⟩
    simp only [Nat.zero_add] at hD ⊢
    have hj : j < its.length := (List.getElem?_eq_some_iff.mp hx).1
    obtain ⟨d, hdj⟩ : ∃ d, ds[j]? = some d := ⟨_, List.getElem?_eq_getElem (by omega)⟩
    obtain ⟨v, hvj⟩ : ∃ v, xs[j]? = some v := ⟨_, List.getElem?_eq_getElem (by omega)⟩
    have ruv : RelV v u := by
      obtain ⟨u2, h1, h2⟩ := rv.get hvj
      rw [hx] at h1
      rw [Option.some.inj h1]
      exact h2
    have hfs : s'.heap.get? f = some fo := (J.pin (f, fo) (List.mem_append_right _ (List.mem_cons_of_mem _ (List.mem_cons_of_mem _ List.mem_cons_self)))).1
    refine wpAny_bind (wpAny_attempt (wpAny_mono (turn j v u d s' H' hvj hdj ruv J.env0.in1.in1 hfs eH hp0) (fun w s'' he => ?_) fun _ _ hF => hF.elim))
    obtain ⟨kv, H'', J2, rw_, hd2, e2, p2⟩ := J.after he
    try dsimp only
    have n1 : s''.heap.get? kS = some (seqObj "list" kA e) := (J2.pin _ (List.mem_append_right _ List.mem_cons_self)).1
    obtain ⟨c2, hc2⟩ : ∃ c2, (s''.heap.update kS (Obj.mapSeq (·.push w))).get? kS = some (seqObj "list" (kA.push w) c2) := ⟨_, get?_update_seq n1 (·.push w)⟩
    have hlk : kA.size ≤ its.length := by
      have h1 : kvs.length = kA.size := by rw [← Array.length_toList]; exact rk.length
      have h2 : kvs.length = (ds.take j).length := dpAll_len _ _ hD
      rw [List.length_take] at h2
      omega
    refine wpAny_bind (listUpdate_at n1 rfl ?_ (Nat.le_trans hlk hzi) (Nat.le_trans (Nat.le_of_eq (Array.size_push ..)) (Nat.succ_le_succ (Nat.le_trans hlk hzi))))
    have s1 := Heap.SameBut.update s''.heap kS (Obj.mapSeq (·.push w))
    have ek : ds.take (j + 1) = ds.take j ++ [d] := by rw [List.take_add_one, hdj]; simp
    refine wpAny_pure ⟨rfl, H'', kA.push w, c2, kvs ++ [kv], ?_, eH.trans e2, p2, by rw [Array.toList_push]; exact vals_snoc rk rw_, by rw [ek]; exact DpAll.snoc (dpAll_ext e2 _ _ hD) hd2⟩
    exact turnedPin (t' := s''.toks) J2 (by omega) (fun x c e => (hcS x c e).2) (fun p hp => by
      rcases List.mem_append.mp hp with z | z
      · exact (hpS p (List.mem_append_left _ z)).2
      · rcases List.mem_cons.mp z with z | z
        · rw [z]
          exact Nat.ne_of_lt hka
        · exact (hpS p (List.mem_append_right _ z)).2) (fun b o hb e => (s1.2 b hb).trans e) hc2 (fun v z => by cases z)
  case done =>
    rintro s' ⟨H', kA, e, kvs, J, eH, hp0, rk, hD⟩
    have e3 : ds.take (0 + its.length) = ds := List.take_of_length_le (by omega)
    rw [e3] at hD
    have n1 : s'.heap.get? kS = some (seqObj "list" kA e) := (J.pin _ (List.mem_append_right _ List.mem_cons_self)).1
    have n2 : s'.heap.get? a = some (seqObj "list" #[] e1) := (J.pin (a, seqObj "list" #[] e1) (List.mem_append_right _ (List.mem_cons_of_mem _ List.mem_cons_self))).1
    have m2 : H' a = none := (J.pin (a, seqObj "list" #[] e1) (List.mem_append_right _ (List.mem_cons_of_mem _ List.mem_cons_self))).2.1
    have hE := dp_each J hD rk
    have hsz2 : kA.size = its.length := by
      have h1 := rk.length
      have h2 := hE.length
      rw [Array.length_toList] at h1 h2
      omega
    try dsimp only
    refine wpAny_bind (listItems_at n1 rfl ?_)
    obtain ⟨G, G1, G2⟩ := restrict s'.heap fun b => decide (b ≠ kS)
    have gk : ∀ b o, b ≠ kS → s'.heap.get? b = some o → G.get? b = some o := fun b o hb e => by
      rw [G1 b (decide_eq_true hb)]
      exact e
    have ga : G.get? kS = none := G2 kS (decide_eq_false fun z => z rfl)
    have gs : PySem.W.KeepsBut a G s'.heap := fun b o _ e => by
      by_cases hb : b = kS
      · rw [hb, ga] at e
        cases e
      · rw [← G1 b (decide_eq_true hb)]
        exact e
    have hcs := SortsAt_data_of (A := X.A.in1.in1) (prog := X.prog) (w := X.w) hE hal hk (fun d hd => by have := hu d hd; show X.A.units + 1 + 1 + d.depth < _; omega)
    refine PySem.W.keyH_end (κ := PySem.W.dataKind s'.heap ds) (h₁ := G) (vs := its) gs ga n1 n2 (Nat.ne_of_gt hka) hcs hsz2 hzi fun h3 tk3 c k3 n3 => ⟨rfl, ?_⟩
    have hzip := zip_each ds rv hlen
    have ko : PySem.W.KeyedOut false ((xs.zip ds).map Prod.snd) its (PySem.W.sortVals (PySem.W.dataKind s'.heap ds) false kA.toList its) := by
      rw [zip_snd xs ds hlen]
      exact ⟨s'.heap, kA.toList, hal, rfl, hE⟩
    have hout := each_vals (PySem.W.keyedOut_each Prod.snd ko hzip)
    have hlz : (byKey xs ds).length ≤ sizeLine := by
      show (List.map _ _).length ≤ _
      rw [List.length_map, List.length_mergeSort, List.length_zip]
      omega
    exact ⟨.ref a, upd H' a (.lst (byKey xs ds)), laidEnd (X := X) (pins := pins) (t' := tk3) (J.pins_of fun p hp => J.pin p (List.mem_append_right _ (by
        rcases List.mem_cons.mp hp with z | hp
        · rw [z]
          exact List.mem_cons_self
        rcases List.mem_cons.mp hp with z | hp
        · rw [z]
          exact List.mem_cons_of_mem _ List.mem_cons_self
        · exact List.mem_cons_of_mem _ (List.mem_cons_of_mem _ (List.mem_cons_of_mem _ hp))))) (Nat.ne_of_gt hka) (by omega) (by omega) hcS (fun p hp => by
          rcases List.mem_append.mp hp with z | z
          · exact hpS p (List.mem_append_left _ z)
          · exact hpS p (List.mem_append_right _ (List.mem_cons_of_mem _ z))) (fun b u h1 h2 e => k3 b u h1 (gk b u h2 e)) n3 hout hlz, rfl, q H' eH hp0 m2⟩
/-- sorted(xs, key=f): f is an object of ours, each of its calls is told -/
theorem sorted_run {l f : Addr} {fo : Obj} {xs : List V} {ds : List PyData} {P0 : Hp → Prop} {Q : VK} (I : Inv X pins σ H s) (hs : SqL X.K H l xs) (hf : s.heap.get? f = some fo) (hfn : H f = none) (hfr : f ≠ X.env.locals ∧ f ∉ X.fs) (hfc : ∀ v, fo.data ≠ .cell v)
    (hal : PySem.W.AllAlike ds) (hk : PySem.W.Sortable ds) (hlen : ds.length = xs.length) (hu : ∀ d, d ∈ ds → X.A.units + 2 + d.depth < cLine) (p0 : P0 H)
    (turn : ∀ (i : Nat) (v : V) (u : Value) (d : PyData) (s' : Shared) (H' : Hp), xs[i]? = some v → ds[i]? = some d → RelV v u → Env0 X.prog X.w X.K X.mg X.base X.A.in1.in1 X.stack s' H' → s'.heap.get? f = some fo → Ext H H' → P0 H' →
      wpAny (model X.prog X.w) X.A.in1.in1 (call (.ref f) [u]) (CE X.stack X.prog X.w H' s' (fun kv H'' => Dp X.K H'' kv d ∧ Ext H' H'' ∧ P0 H'')) (fun _ _ => False) s')
    (q : ∀ (H' : Hp) (p : Addr), Ext H H' → P0 H' → H' p = none → Q (.ref p) (upd H' p (.lst (byKey xs ds)))) :
    wpAny (model X.prog X.w) X.A (call (.builtin "sorted") [.ref l] [(Str.ofString "key", .ref f)]) (EP X pins σ Q) X.xe s := by
  obtain ⟨its, rv, hl, hz⟩ := I.list hs
  have hzi : its.length ≤ sizeLine := by rw [← rv.length]; exact hz
  have hil : its.length = xs.length := rv.length.symm
  refine PySem.W.sorted_of_sort hl.isList hzi (PyProof.Rows.ksk_s1 _ _) (fun _ => PyProof.Rows.ksk_l1 _ _) fun E' => ?_
  have hfl : @LT.lt Nat _ f s.heap.objs.size := Heap.lt_size hf
  exact sort_body (s := { s with heap := PySem.W.copyHeap s.heap its }) I (Nat.le_succ _) ⟨_, hf⟩ (I.kept (t' := s.toks) fun b o e => PySem.W.copyHeap_old e) rv hz (PySem.W.copyHeap_at s.heap its) (I.hok.fresh (Nat.le_succ _)) (PySem.W.copyHeap_old hf) hfn hfr hfc hal hk hlen hu p0 turn fun H' e1 e2 e3 => q H' _ e1 e2 e3
end
theorem sqL_extN {K : PySem.W.Frag} {H H' : Hp} {a : Addr} {xs : List V} (h : SqL K H a xs) (e : ExtN H H') : SqL K H' a xs :=
  h.elim (fun h => .inl (h.elim (fun h => .inl (e _ _ h fun _ z => nomatch z)) fun ⟨o, h⟩ => .inr ⟨o, e _ _ h fun _ z => nomatch z⟩)) fun h => .inr h
def one (R : V → Hp → Prop) : List V → Hp → Prop := fun vs H => match vs with
  | [v] => R v H
  | _ => False
theorem rel_ref {a : Addr} {u : Value} (r : RelV (.ref a) u) : u = .ref a := r
/-- sorted(xs, key=lambda x: body): the reading -/
def tSortL (K : PySem.W.Frag) (T : List (Addr × Str)) (Nl : List Str) (tb : TE) (t : TE) : TE := fun σ H Q => t σ H fun v H1 => ∃ (l : Addr) (xs : List V) (ds : List PyData) (P0 : Hp → Prop), v = .ref l ∧ SqL K H1 l xs ∧ PySem.W.AllAlike ds ∧ PySem.W.Sortable ds ∧ ds.length = xs.length ∧ (∀ d, d ∈ ds → d.depth ≤ 50) ∧ Tabs T H1 ∧
  ∀ H2, ExtN H1 H2 → Tabs T H2 → P0 H2 ∧ (∀ (i : Nat) (v : V) (d : PyData) (H' : Hp), xs[i]? = some v → ds[i]? = some d → Ext H2 H' → P0 H' → tb (L2.start Nl [v]) H' fun kv H'' => Dp K H'' kv d ∧ Ext H' H'' ∧ P0 H'') ∧
    ∀ (H' : Hp) (p : Addr), Ext H2 H' → P0 H' → H' p = none → Q (.ref p) (upd H' p (.lst (byKey xs ds)))
section
variable {X : Cx}
theorem pe_sortLam {T : List (Addr × Str)} {c P : Addr} {k : Nat} {y : Str} {e body : Expr} {params : Arguments} {scope : Scope} {p kpos lpos pos : Pos} {Nl : List Str} {t tb : TE} (hg : Gl X "sorted") (hm : X.mg "sorted" = none) (hv : bootBuiltins "sorted" = some (.builtin "sorted")) (ha : PA X [e] (tCons t tNil))
    (hfs : ∀ b, b ∉ frs X.stack → b ≠ X.env.locals ∧ b ∉ X.fs) (TB : TabB X.base X.mg c P) (hcode : X.env.code = .ref c) (hmT : (P, X.env.qual ++ "<lambda>") ∈ T) (hu : ∀ p ∈ T, p.1 = P → p.2 = X.env.qual ++ "<lambda>") (hr : Room (k + 3) X.A) (S : FnScope Nl [y] scope)
    (hdef : defaultsOf params X.env = ([], [])) (hcl : cloFrom X.env.cells scope.names [] = []) (hbind : ∀ (q : Str) (pm cv ctv u : Value), bindArgs (PySem.W.kla_fn "<lambda>" q params body scope [] pm cv ctv) ⟨[u], []⟩ = pure ([y].zip [u]))
    (hbody : ∀ (A : Around) (outer : List Env) (s : Shared) (H : Hp) (f c' : Addr), Room k (A.deeper (envOfC (X.env.qual ++ "<lambda>") scope s.heap.objs.size f (.ref c'))) →
      PE (cxOf C8.CX0 X.prog X.w X.K X.mg X.base Nl (X.env.qual ++ "<lambda>") scope f (.ref c') A outer s H C8.E0) body tb)
    (he : backTo pos (starEach [e] X.env) = (false, eval e X.env) :: backTo pos (starEach [] X.env) := by rfl) (hpl : (backTo pos (starEach [e] X.env)).any (·.1) = false := by rfl) :
    PE X (.Call (.Name "sorted" p) [e] [⟨some (Str.ofString "key"), .Lambda params body scope lpos, kpos⟩] pos) (tSortL X.K T Nl tb t) := by
  refine ⟨fun pins s σ H Q I h => ?_⟩
  refine wpAny_Call_Name_kw (ld_blt I hg hm hv ?_ (by decide) (by decide))
  refine PyProof.Rows.callWith_kw (thn (ha.run pos pins s σ H (one _) I h) fun us s1 ⟨vs, H1, I1, r1, q1⟩ => ?_) he hpl
  match vs, r1, q1 with
  | [v], .cons r1 .nil, q1 =>
    obtain ⟨l, xs, ds, P0, rfl, hs, hal, hk, hlen, hdp, hT, q⟩ := q1
    obtain rfl := rel_ref r1
    show wpAny _ _ (evalAll [(do let v ← eval (.Lambda params body scope lpos) X.env; standAt pos; pure v)]) _ _ s1
    refine wpAny_evalAll_cons (wpAny_bind (lam_make2 I1 TB hcode hmT hu hT hdef (fun y hy e => ?_) fun f c' pm' ctv H2 s' I2 eN T1 hf hfn hfr hco => wpAny_bind (wpAny_standAt (wpAny_pure (wpAny_evalAll_nil ?_)))))
    · exact absurd e (S.nofree y hy)
    rw [hcl] at hf
    obtain ⟨p0, turn, q⟩ := q H2 eN T1
    show wpAny _ _ (call (.builtin "sorted") [.ref l] [(Str.ofString "key", .ref f)]) _ _ _
    refine sorted_run (P0 := P0) I2 (sqL_extN hs eN) hf hfn (hfs f hfr) (fun v z => by cases z) hal hk hlen (fun d hd => ?_) p0 (fun i v u d s2 H' hv hd ru e0 hf2 eH hp => ?_) q
    · have h1 := hr.un
      have h2 := hdp d hd
      omega
    · have hco2 : H' c' = some (CodeO c' (X.env.qual ++ "<lambda>")) := eH _ _ hco
      have rc := lam_run (Q := fun kv H'' => Dp X.K H'' kv d ∧ Ext H' H'' ∧ P0 H'') (E := C8.E0) (CX := C8.CX0) (us := [u]) (vs := [v]) (k := k) S hr.in1.in1 e0 hf2 hco2 (hbind _ _ _ _ _) (.cons ru .nil) rfl fun hr2 => ⟨tb, hbody _ _ _ _ _ _ hr2, turn i v d H' hv hd eH hp⟩
      refine wpAny_call (codeAny_mono rc fun r s3 hq => ?_)
      cases r with
      | error e => exact (show False from hq).elim
      | ok fl =>
        cases fl with
        | ret u => exact hq
        | next => exact False.elim hq
        | brk => exact False.elim hq
        | cont => exact False.elim hq
end
/-! ## sorted(d.items(), key=lambda x: body) -/
section
variable {X : Cx} {pins : List (Addr × Obj)} {σ : L2.St} {H : Hp} {s : Shared}
theorem pairs_laid {h' : Heap} {tk : Nat} {kvs : List (Key × V)} {vs : List (Key × Value)} {as : List Addr} (I : Inv X pins σ H s) (kv : KV kvs vs) (hk : ∀ b o, s.heap.get? b = some o → h'.get? b = some o) (hl : as.length = vs.length) (hG : PySem.W.KdxG (mixKind X.prog X.w) vs s.heap.objs.size h' as) :
    ∃ H' : Hp, Ext H H' ∧ (∀ t ∈ as, H t = none ∧ s.heap.objs.size < t) ∧ (∀ b, b ∉ as → H' b = H b) ∧ Paired (fun (t : Addr) (q : Key × V) => H' t = some (.tup [kV q.1, q.2])) as kvs ∧ Inv X pins σ H' { s with heap := h', toks := tk } := by
  have lk : kvs.length = vs.length := Paired.length kv
  have nd : as.Nodup := List.Pairwise.imp (fun {a b} (h : a < b) => Nat.ne_of_lt h) hG.rise
  have new : ∀ t ∈ as, H t = none := fun t ht => I.hok.fresh (Nat.le_of_lt (hG.above t ht))
  have atP := LiI.putT_at as kvs H (by omega) nd
  have off : ∀ b, b ∉ as → LiI.putT H as kvs b = H b := fun b h1 => LiI.putT_off as kvs _ h1
  have low : ∀ b o, s.heap.get? b = some o → b ∉ as := fun b o e z => absurd (Heap.lt_size e) (Nat.not_lt.mpr (Nat.le_of_lt (hG.above b z)))
  have kp : ∀ b u, H b = some u → (LiI.putT H as kvs) b = some u := fun b u e => by
    rw [off b (fun z => by rw [new b z] at e; cases e)]
    exact e
  refine ⟨LiI.putT H as kvs, kp, fun t ht => ⟨new t ht, hG.above t ht⟩, off, atP, ?_⟩
  refine I.call' (ch := []) rfl ⟨fun b o q _ _ _ => hk b o q, fun b o q _ _ _ => ⟨o.slots, hk b o q⟩, fun b o q n _ => ?_, fun b o q _ => ⟨o, hk b o q⟩, fun b xs q => kp b _ q, fun b o u q => kp b _ q, fun b ps q => ⟨#[], by rw [kp b _ q]; simp⟩⟩ (fun b u q => ?_) I.bare fun b z => by simp at z
  · rw [off b (low b o q)]
    exact n
  · by_cases hb : b ∈ as
    · obtain ⟨j, pk, e1, e2, e3⟩ := LiI.paired_ix atP hb
      rw [e3] at q
      cases q
      obtain ⟨key, k, x, f1, f2, f3⟩ := hG.pairs j b e1
      obtain ⟨qv, g1, g2, g3⟩ := LiI.paired_get kv e2
      rw [f1] at g1
      cases g1
      have rk : RelV (kV pk.1) key := by
        rw [g2]
        exact relV_key (show keyIs k key = true from f2)
      exact ⟨by show 2 ≤ sizeLine; decide, [key, x], .cons rk (.cons g3 .nil), ⟨_, f3, rfl, _, rfl⟩⟩
    · rw [off b hb] at q
      exact (I.hok b u q).stay (fun d v _ y => hk d v y) (fun d y => kp d _ y) fun d xs y => kp d _ y
/-- sorted(v, key=f), v the view of a dict's items -/
theorem sorted_runI {r d f : Addr} {fo : Obj} {kvs : List (Key × V)} {ds : List PyData} {P0 : List Addr → Hp → Prop} {Q : VK} (hc : X.calm = true) (I : Inv X pins σ H s) (hd : H d = some (.dK kvs)) (hr : s.heap.IsItemsView r d) (hf : s.heap.get? f = some fo) (hfn : H f = none) (hfr : f ≠ X.env.locals ∧ f ∉ X.fs) (hfc : ∀ v, fo.data ≠ .cell v)
    (hal : PySem.W.AllAlike ds) (hk : PySem.W.Sortable ds) (hlen : ds.length = kvs.length) (hu : ∀ d, d ∈ ds → X.A.units + 2 + d.depth < cLine)
    (h : ∀ (H2 : Hp) (ts : List Addr), Ext H H2 → (∀ t ∈ ts, H t = none) → Paired (fun (t : Addr) (q : Key × V) => H2 t = some (.tup [kV q.1, q.2])) ts kvs → P0 ts H2 ∧
      (∀ (i : Nat) (v : V) (u : Value) (d : PyData) (s' : Shared) (H' : Hp), (ts.map V.ref)[i]? = some v → ds[i]? = some d → RelV v u → Env0 X.prog X.w X.K X.mg X.base X.A.in1.in1 X.stack s' H' → s'.heap.get? f = some fo → Ext H2 H' → P0 ts H' →
        wpAny (model X.prog X.w) X.A.in1.in1 (call (.ref f) [u]) (CE X.stack X.prog X.w H' s' (fun kv H'' => Dp X.K H'' kv d ∧ Ext H' H'' ∧ P0 ts H'')) (fun _ _ => False) s') ∧
      ∀ (H' : Hp) (p : Addr), Ext H2 H' → P0 ts H' → H' p = none → Q (.ref p) (upd H' p (.lst (byKey (ts.map V.ref) ds)))) :
    wpAny (model X.prog X.w) X.A (call (.builtin "sorted") [.ref r] [(Str.ofString "key", .ref f)]) (EP X pins σ Q) X.xe s := by
  obtain ⟨hz, hs0, vs, kv, hdo⟩ := I.hok d _ hd
  obtain ⟨ep, hat⟩ := hdo.dictAt
  have lk : kvs.length = vs.length := Paired.length kv
  refine PyProof.Rows.call_function_entry_kw PyProof.Rows.kind_sorted PyProof.Rows.plain_sorted PyProof.Rows.entry_sorted (PyProof.Rows.ksk_s1 _ _) ?_
  unfold Builtin.«sorted»
  refine wpAny_bind (m := checkCount "sorted" 1 1 _) (wpAny_pure ?_)
  refine wpAny_bind (PySem.W.kdx_collect (knd := mixKind X.prog X.w) (kvs := vs) (ep := ep) (I.ok.hd hc) hr hat (by omega) fun h' tk as hkp hl hG => ?_)
  obtain ⟨H2, e2, hn2, hoff, hP, J⟩ := pairs_laid (tk := tk) I kv hkp hl hG
  have hla : (as.map Value.ref).length ≤ sizeLine := by rw [List.length_map]; omega
  refine wpAny_bind (wpAny_newList ?_ hla)
  obtain ⟨p0, turn, q⟩ := h H2 as e2 (fun t ht => (hn2 t ht).1) hP
  have hkk : ∀ b o, h'.get? b = some o → (h'.push (seqObj "list" (as.map Value.ref).toArray 0)).get? b = some o := fun b o e => Heap.get?_push_of_some _ e
  have hfn2 : H2 f = none := by
    rw [hoff f fun z => Nat.lt_irrefl _ (Nat.lt_trans (hn2 f z).2 (Heap.lt_size hf))]
    exact hfn
  refine wpAny_bind (wpAny_holding (wpAny_call_entry_kw slot_list_sort ⟨_, Heap.get?_push_size _ rfl, rfl⟩ entry_list_sort ?body (PyProof.Rows.ksk_l1 _ _)))
  case body =>
    refine wpAny_mono (sort_body (s := { s with heap := h'.push (seqObj "list" (as.map Value.ref).toArray 0), toks := tk }) (xs := as.map V.ref) (its := as.map Value.ref) (ds := ds) (Q := Q) (E' := fun _ _ => False) J (Nat.le_refl _) ⟨_, hkp _ _ hf⟩ (J.kept (t' := tk) hkk) (LiI.vals_refs as) (by rw [List.length_map]; omega) (Heap.get?_push_size _ rfl) (J.hok.fresh (Nat.le_refl _)) (hkk _ _ (hkp _ _ hf)) hfn2 hfr hfc hal hk (by rw [List.length_map]; omega) hu p0 turn fun H' a1 a2 a3 => q H' _ a1 a2 a3) (fun f s' hf => ?_) fun _ _ e => e.elim
    obtain ⟨rfl, hq⟩ := hf
    exact ⟨_, rfl, wpAny_pure ⟨_, rfl, hq⟩⟩
end
/-- sorted(e.items(), key=lambda x: body): the reading -/
def tSortI (K : PySem.W.Frag) (T : List (Addr × Str)) (Nl : List Str) (tb : TE) (te : TE) : TE := fun σ H Q => te σ H fun v H1 => ∃ (d : Addr) (kvs : List (Key × V)) (ds : List PyData) (P0 : List Addr → Hp → Prop), v = .ref d ∧ H1 d = some (.dK kvs) ∧ PySem.W.AllAlike ds ∧ PySem.W.Sortable ds ∧ ds.length = kvs.length ∧ (∀ d, d ∈ ds → d.depth ≤ 50) ∧ Tabs T H1 ∧
  ∀ (H2 : Hp) (ts : List Addr), ExtN H1 H2 → Tabs T H2 → Paired (fun (t : Addr) (q : Key × V) => H2 t = some (.tup [kV q.1, q.2])) ts kvs → P0 ts H2 ∧
    (∀ (i : Nat) (v : V) (d : PyData) (H' : Hp), (ts.map V.ref)[i]? = some v → ds[i]? = some d → Ext H2 H' → P0 ts H' → tb (L2.start Nl [v]) H' fun kv H'' => Dp K H'' kv d ∧ Ext H' H'' ∧ P0 ts H'') ∧
    ∀ (H' : Hp) (p : Addr), Ext H2 H' → P0 ts H' → H' p = none → Q (.ref p) (upd H' p (.lst (byKey (ts.map V.ref) ds)))
section
variable {X : Cx}
theorem pe_sortLamI {T : List (Addr × Str)} {c P : Addr} {k : Nat} {y : Str} {e body : Expr} {params : Arguments} {scope : Scope} {p apos cpos kpos lpos pos : Pos} {Nl : List Str} {te tb : TE} (hca : X.calm = true) (hg : Gl X "sorted") (hm : X.mg "sorted" = none) (hv : bootBuiltins "sorted" = some (.builtin "sorted")) (hE : PE X e te)
    (hfs : ∀ b, b ∉ frs X.stack → b ≠ X.env.locals ∧ b ∉ X.fs) (TB : TabB X.base X.mg c P) (hcode : X.env.code = .ref c) (hmT : (P, X.env.qual ++ "<lambda>") ∈ T) (hu : ∀ p ∈ T, p.1 = P → p.2 = X.env.qual ++ "<lambda>") (hr : Room (k + 3) X.A) (S : FnScope Nl [y] scope)
    (hdef : defaultsOf params X.env = ([], [])) (hcl : cloFrom X.env.cells scope.names [] = []) (hbind : ∀ (q : Str) (pm cv ctv u : Value), bindArgs (PySem.W.kla_fn "<lambda>" q params body scope [] pm cv ctv) ⟨[u], []⟩ = pure ([y].zip [u]))
    (hbody : ∀ (A : Around) (outer : List Env) (s : Shared) (H : Hp) (f c' : Addr), Room k (A.deeper (envOfC (X.env.qual ++ "<lambda>") scope s.heap.objs.size f (.ref c'))) →
      PE (cxOf C8.CX0 X.prog X.w X.K X.mg X.base Nl (X.env.qual ++ "<lambda>") scope f (.ref c') A outer s H C8.E0) body tb)
    (hbase : attributeBase e "items" X.env (eval e X.env) = eval e X.env := by rfl) (hline : (apos.endLine == cpos.line) = true := by rfl)
    (hs : starEach [.Call (.Attribute e "items" apos) [] [] cpos] X.env = (false, eval (.Call (.Attribute e "items" apos) [] [] cpos) X.env) :: starEach [] X.env := by rfl)
    (he : backTo pos (starEach [.Call (.Attribute e "items" apos) [] [] cpos] X.env) = (false, eval (.Call (.Attribute e "items" apos) [] [] cpos) X.env) :: backTo pos (starEach [] X.env) := by rfl) (hpl : (backTo pos (starEach [.Call (.Attribute e "items" apos) [] [] cpos] X.env)).any (·.1) = false := by rfl) :
    PE X (.Call (.Name "sorted" p) [.Call (.Attribute e "items" apos) [] [] cpos] [⟨some (Str.ofString "key"), .Lambda params body scope lpos, kpos⟩] pos) (tSortI X.K T Nl tb te) := by
  refine ⟨fun pins s σ H Q I h => ?_⟩
  refine wpAny_Call_Name_kw (ld_blt I hg hm hv ?_ (by decide) (by decide))
  refine PyProof.Rows.callWith_kw ?_ he hpl
  rw [he]
  refine Calls.spliced_cons ?_
  refine wpAny_Call_method (T := "dict") (id := "dict.items") hbase rfl hline F.plainAttrs_dict F.slot_dict_items F.type_dict_items (thn (hE.run pins s σ H _ I h) fun u s1 ⟨x, H1, I1, rx, q1⟩ => ?_)
  obtain ⟨d, kvs, ds, P0, rfl, hd, hal, hk, hlen, hdp, hT, q⟩ := q1
  obtain rfl : u = Value.ref d := rx
  obtain ⟨hz, hs0, vs, kv, hdo⟩ := I1.hok d _ hd
  have lk : kvs.length = vs.length := Paired.length kv
  have I2 : Inv X ((s1.heap.objs.size, { cls := .type "dict_items", data := .fields #[.ref d] }) :: pins) σ H1 { s1 with heap := s1.heap.push { cls := .type "dict_items", data := .fields #[.ref d] } } := ClX.pin_new (t' := s1.toks) I1 (fun b ob q => Heap.get?_push_of_some _ q) (Nat.le_refl _) (Heap.get?_push_size _ rfl) (fun v z => by cases z)
  refine ⟨hdo.typeIs, hdo.mapOf.noDict, ?_⟩
  show wpAny _ _ (callWith cpos (.builtin "dict.items") [.ref d] [] []) _ X.xe s1
  refine method_meetsIn F.slot_dict_items F.entry_dict_items rfl (PySem.evalArgs_none ⟨rfl, hdo.typeIs, F.args_dict_items_1 _, _, meets_dict_items (mixKind X.prog X.w) d hs0, ⟨vs, hdo⟩, ?_⟩)
  refine Calls.spliced_nil ?_
  show wpAny _ _ (evalAll [(do let v ← eval (.Lambda params body scope lpos) X.env; standAt pos; pure v)]) _ _ _
  refine wpAny_evalAll_cons (wpAny_bind (lam_make2 I2 TB hcode hmT hu hT hdef (fun y hy e => ?_) fun f c' pm' ctv H2 s' I3 eN T1 hf hfn hfr hco => wpAny_bind (wpAny_standAt (wpAny_pure (wpAny_evalAll_nil ?_)))))
  · exact absurd e (S.nofree y hy)
  rw [hcl] at hf
  show wpAny _ _ (call (.builtin "sorted") [.ref s1.heap.objs.size] [(Str.ofString "key", .ref f)]) _ _ _
  have hd2 : H2 d = some (.dK kvs) := eN _ _ hd fun ps z => nomatch z
  have hview : s'.heap.IsItemsView s1.heap.objs.size d := ⟨{ cls := .type "dict_items", data := .fields #[.ref d] }, ClX.pin_at I3, rfl, rfl⟩
  refine wpAny_mono (sorted_runI (P0 := P0) (Q := Q) hca I3 hd2 hview hf hfn (hfs f hfr) (fun v z => by cases z) hal hk hlen (fun d hd => ?_) fun H3 ts e3 hts hP => ?_) (fun v s2 h2 => ClX.unpinE h2) fun _ _ e => e
  · have h1 := hr.un
    have h2 := hdp d hd
    omega
  · have T3 : Tabs T H3 := T1.ext e3
    obtain ⟨p0, turn, q⟩ := q H3 ts (eN.trans (ExtN.of e3)) T3 hP
    refine ⟨p0, fun i v u d s2 H' hv hd ru e0 hf2 eH hp => ?_, q⟩
    have hco2 : H' c' = some (CodeO c' (X.env.qual ++ "<lambda>")) := eH _ _ (e3 _ _ hco)
    have rc := lam_run (Q := fun kv H'' => Dp X.K H'' kv d ∧ Ext H' H'' ∧ P0 ts H'') (E := C8.E0) (CX := C8.CX0) (us := [u]) (vs := [v]) (k := k) S hr.in1.in1 e0 hf2 hco2 (hbind _ _ _ _ _) (.cons ru .nil) rfl fun hr2 => ⟨tb, hbody _ _ _ _ _ _ hr2, turn i v d H' hv hd eH hp⟩
    refine wpAny_call (codeAny_mono rc fun r s3 hq => ?_)
    cases r with
    | error e => exact (show False from hq).elim
    | ok fl =>
      cases fl with
      | ret u => exact hq
      | next => exact False.elim hq
      | brk => exact False.elim hq
      | cont => exact False.elim hq
end
/-! ## a def whose code object is told -/
structure DefC (K : PySem.W.Frag) (mg : Str → Option Value) (x : Str) (st : Stmt) (ps : List Str) (f : Addr) (fd : FuncData) (c : Addr) : Prop where
  ex : ∃ (oc : Value) (od : Option Addr) (kV doc pm : Value) (an : Option Addr) (ct : Value) (osl : Array (Option Value)),
    fd = PySem.W.fnOf x x (defArgs st) (defBody st) (defScope st) .none kV doc pm an (.ref c) ct ∧ K.lookup f = some ⟨oc, od, .func fd, osl⟩ ∧ PySem.W.codeIn K (.ref c) x = true
  F : Fun K x x st f fd
  b : Binds K fd ps []
  g : mg x = some (.ref f)
section
variable {P : Program} {w : World} {K : PySem.W.Frag} {mg : Str → Option Value} {base : Heap}
theorem DefC.ok {x : Str} {st : Stmt} {f c : Addr} {fd : FuncData} {N ps : List Str} {k : Nat} {sp : Sp} (D : DefC K mg x st ps f fd c) (S : FnScope N ps (defScope st)) (len : ∀ vs H Q E, sp vs H Q E → vs.length = ps.length)
    (hbody : ∀ (A : Around) (outer : List Env) (s : Shared) (H : Hp) (vs : List V) (Q : VK) (E : XK), Room k (A.deeper (envOfC x (defScope st) s.heap.objs.size f (.ref c))) → sp vs H Q E →
      ∃ t, PSs (cxOf CX0 P w K mg base N x (defScope st) f (.ref c) A outer s H E).nox (defBody st) t ∧ t { nx := fun _ H' => Q .non H', rt := Q } (start N vs) H) : FnOk P w K mg base CX0 (k + 1) f fd ps sp := by
  obtain ⟨oc, od, kV, doc, pm, an, ct, osl, rfl, lk, hcd⟩ := D.ex
  refine fn_of lk hcd S len fun A outer s H vs Q E hr hsp => ?_
  obtain ⟨t, h, q⟩ := hbody A outer s H vs Q E hr hsp
  exact ⟨t, h.nox, q⟩
end
end HS
namespace DM
open PySem PySem.Spec PyProof.Rows L2 SX HL
/-! ## deeds: the mathematics -/
abbrev Mark := Nat × Nat
inductive Deed
  | back (n : Nat)
  | change (m : List Nat) (rem : List Mark) (beh : Option Mark) (num : Nat) (txt : List Nat)
deriving DecidableEq
/-- what a change inserts -/
abbrev Ent := Mark × Option Mark × Nat
def ins (r : Nat) : Nat → Option Mark → List Nat → List Ent
  | _, _, [] => []
  | n, b, c :: t => ((n, r), b, c) :: ins r (n + 1) (some (n, r)) t
theorem ins_len (r : Nat) : ∀ (t : List Nat) (n : Nat) (b : Option Mark), (ins r n b t).length = t.length
  | [], _, _ => rfl
  | c :: t, n, b => by
    show (ins r (n + 1) (some (n, r)) t).length + 1 = _
    rw [ins_len r t]
    rfl
theorem ins_get (r : Nat) : ∀ (t : List Nat) (n : Nat) (b : Option Mark) (k : Nat), k < t.length → (ins r n b t)[k]? = some ((n + k, r), (if k = 0 then b else some (n + k - 1, r)), t.getD k 0)
  | [], _, _, k, h => absurd h (Nat.not_lt_zero _)
  | c :: t, n, b, 0, _ => rfl
  | c :: t, n, b, k + 1, h => by
    show (ins r (n + 1) (some (n, r)) t)[k]? = _
    rw [ins_get r t (n + 1) (some (n, r)) k (by simpa using h)]
    have e1 : n + 1 + k = n + (k + 1) := by omega
    rw [e1, if_neg (Nat.succ_ne_zero k)]
    by_cases hk : k = 0
    · subst hk
      rw [if_pos rfl]
      rfl
    · rw [if_neg hk]
      rfl
/-! ### which deeds are in force -/
def takes : Deed → Bool → List Nat → List Nat
  | .back n, true, t => n :: t
  | _, _, t => t
/-- place, deeds from the last one, places that are taken back -/
def fw : Nat → List Deed → List Nat → List Bool
  | _, [], _ => []
  | p, d :: r, t => (!decide (p ∈ t)) :: fw (p - 1) r (takes d (!decide (p ∈ t)) t)
def tk : Nat → List Deed → List Nat → List Nat
  | _, [], t => t
  | p, d :: r, t => tk (p - 1) r (takes d (!decide (p ∈ t)) t)
theorem fw_len : ∀ (l : List Deed) (p : Nat) (t : List Nat), (fw p l t).length = l.length
  | [], _, _ => rfl
  | d :: l, p, t => by
    show (fw _ l _).length + 1 = _
    rw [fw_len l]
    rfl
theorem fw_snoc : ∀ (l : List Deed) (p : Nat) (t : List Nat) (d : Deed), fw p (l ++ [d]) t = fw p l t ++ [!decide (p - l.length ∈ tk p l t)] ∧ tk p (l ++ [d]) t = takes d (!decide (p - l.length ∈ tk p l t)) (tk p l t)
  | [], p, t, d => ⟨rfl, rfl⟩
  | x :: l, p, t, d => by
    obtain ⟨h1, h2⟩ := fw_snoc l (p - 1) (takes x (!decide (p ∈ t)) t) d
    have e : p - 1 - l.length = p - (x :: l).length := by rw [List.length_cons]; omega
    rw [e] at h1 h2
    refine ⟨?_, h2⟩
    show _ :: fw (p - 1) (l ++ [d]) _ = _ :: (fw (p - 1) l _ ++ _)
    rw [h1]
    rfl
def forces (row : List Deed) : List Bool := (fw row.length row.reverse []).reverse
theorem forces_len (row : List Deed) : (forces row).length = row.length := by
  unfold forces
  rw [List.length_reverse, fw_len, List.length_reverse]
/-- x is taken back by one of the deeds behind -/
theorem mem_tk : ∀ (l : List Deed) (p : Nat) (t : List Nat) (x : Nat), x ∈ tk p l t ↔ x ∈ t ∨ ∃ j : Nat, (fw p l t)[j]? = some true ∧ l[j]? = some (.back x)
  | [], p, t, x => by simp [tk, fw]
  | d :: l, p, t, x => by
    show x ∈ tk (p - 1) l (takes d (!decide (p ∈ t)) t) ↔ _
    rw [mem_tk l]
    constructor
    · rintro (h | ⟨j, h1, h2⟩)
      · cases hd : d with
        | change => rw [hd] at h; exact .inl h
        | back n =>
          rw [hd] at h
          cases hp : (!decide (p ∈ t)) with
          | false => rw [hp] at h; exact .inl h
          | true =>
            rw [hp] at h
            rcases List.mem_cons.mp h with e | h
            · exact .inr ⟨0, by show some (!decide (p ∈ t)) = _; rw [hp], by rw [e]; rfl⟩
            · exact .inl h
      · exact .inr ⟨j + 1, h1, h2⟩
    · rintro (h | ⟨j, h1, h2⟩)
      · refine .inl ?_
        cases d with
        | change => exact h
        | back n =>
          cases (!decide (p ∈ t)) with
          | false => exact h
          | true => exact List.mem_cons_of_mem _ h
      · cases j with
        | zero =>
          have e1 : (!decide (p ∈ t)) = true := Option.some.inj h1
          have e2 : d = .back x := Option.some.inj h2
          rw [e1, e2]
          exact .inl (List.mem_cons_self ..)
        | succ j => exact .inr ⟨j, h1, h2⟩
/-- after the first k deeds from the last -/
theorem fw_take (row : List Deed) (k : Nat) (hk : k ≤ row.length) : (fw row.length row.reverse []).take k = fw row.length (row.reverse.take k) [] := by
  have key : ∀ (a b : List Deed) (p : Nat) (t : List Nat), (fw p (a ++ b) t).take a.length = fw p a t := by
    intro a
    induction a with
    | nil => intros; rfl
    | cons x a ih =>
      intro b p t
      show (_ :: fw (p - 1) (a ++ b) _).take (a.length + 1) = _ :: fw (p - 1) a _
      rw [List.take_succ_cons, ih]
  have h := key (row.reverse.take k) (row.reverse.drop k) row.length []
  rw [List.take_append_drop, List.length_take, List.length_reverse, Nat.min_eq_left hk] at h
  exact h
theorem fw_step (row : List Deed) (k : Nat) (d : Deed) (hd : row.reverse[k]? = some d) :
    fw row.length (row.reverse.take (k + 1)) [] = fw row.length (row.reverse.take k) [] ++ [!decide (row.length - k ∈ tk row.length (row.reverse.take k) [])] ∧
    tk row.length (row.reverse.take (k + 1)) [] = takes d (!decide (row.length - k ∈ tk row.length (row.reverse.take k) [])) (tk row.length (row.reverse.take k) []) := by
  have hk : k < row.length := by
    have := (List.getElem?_eq_some_iff.mp hd).1
    rwa [List.length_reverse] at this
  have hl : (row.reverse.take k).length = k := by rw [List.length_take, List.length_reverse]; omega
  have h := fw_snoc (row.reverse.take k) row.length [] d
  rw [hl] at h
  rw [take_snoc hd]
  exact h
/-- the law of forces: a deed is in force exactly if no later one in force takes it back -/
theorem forces_iff (row : List Deed) (i : Nat) (hi : i < row.length) : ∃ b, (forces row)[i]? = some b ∧ (b = true ↔ ¬ ∃ j : Nat, i < j ∧ (forces row)[j]? = some true ∧ row[j]? = some (.back (i + 1))) := by
  have hfl := forces_len row
  have key : ∀ j : Nat, j < row.length → (forces row)[j]? = (fw row.length row.reverse [])[row.length - 1 - j]? := fun j hj => by
    unfold forces
    rw [List.getElem?_reverse (by rw [fw_len, List.length_reverse]; exact hj), fw_len, List.length_reverse]
  have keyd : ∀ j : Nat, j < row.length → row[j]? = row.reverse[row.length - 1 - j]? := fun j hj => by
    rw [List.getElem?_reverse (by omega)]
    have : row.length - 1 - (row.length - 1 - j) = j := by omega
    rw [this]
  rw [key i hi]
  have hd : row.reverse[row.length - 1 - i]? = some row[i] := by rw [← keyd i hi]; exact List.getElem?_eq_getElem hi
  obtain ⟨h1, _⟩ := fw_step row (row.length - 1 - i) row[i] hd
  have e1 : row.length - (row.length - 1 - i) = i + 1 := by omega
  rw [e1] at h1
  have h2 := fw_take row (row.length - 1 - i + 1) (by omega)
  have h3 : (fw row.length row.reverse [])[row.length - 1 - i]? = (fw row.length (row.reverse.take (row.length - 1 - i + 1)) [])[row.length - 1 - i]? := by
    rw [← h2, List.getElem?_take, if_pos (Nat.lt_succ_self _)]
  have hl : (fw row.length (row.reverse.take (row.length - 1 - i)) []).length = row.length - 1 - i := by rw [fw_len, List.length_take, List.length_reverse]; omega
  rw [h3, h1, List.getElem?_append_right (by omega), hl, Nat.sub_self]
  refine ⟨_, rfl, ?_⟩
  have hm := mem_tk (row.reverse.take (row.length - 1 - i)) row.length [] (i + 1)
  rw [Bool.not_eq_true', decide_eq_false_iff_not]
  refine not_congr (hm.trans ?_)
  constructor
  · rintro (h | ⟨j, hj1, hj2⟩)
    · cases h
    · have hjl : j < row.length - 1 - i := by
        have := (List.getElem?_eq_some_iff.mp hj1).1
        rwa [hl] at this
      refine ⟨row.length - 1 - j, by omega, ?_, ?_⟩
      · rw [key _ (by omega)]
        have : row.length - 1 - (row.length - 1 - j) = j := by omega
        rw [this]
        rw [← fw_take row _ (by omega), List.getElem?_take, if_pos hjl] at hj1
        exact hj1
      · rw [keyd _ (by omega)]
        have : row.length - 1 - (row.length - 1 - j) = j := by omega
        rw [this]
        rw [List.getElem?_take, if_pos hjl] at hj2
        exact hj2
  · rintro ⟨j, h0, hj1, hj2⟩
    have hj : j < row.length := by
      have := (List.getElem?_eq_some_iff.mp hj2).1
      exact this
    refine .inr ⟨row.length - 1 - j, ?_, ?_⟩
    · rw [← fw_take row _ (by omega), List.getElem?_take, if_pos (by omega), ← key j hj]
      exact hj1
    · rw [List.getElem?_take, if_pos (by omega), ← keyd j hj]
      exact hj2
end DM
namespace DM
open PySem PySem.Spec PyProof.Rows L2 SX HL
/-! ## rows of deeds -/
abbrev Rows := Nat → List Deed
def isCh (m : List Nat) : Deed → Bool
  | .change m' _ _ _ _ => decide (m' = m)
  | .back _ => false
def entD (r : Nat) : Deed → List Ent
  | .change _ _ b n t => ins r n b t
  | .back _ => []
def remD : Deed → List Mark
  | .change _ x _ _ _ => x
  | .back _ => []
/-- the marks that a deed names -/
def nam : Deed → List Mark
  | .change _ x b _ _ => x ++ b.toList
  | .back _ => []
def numD : Deed → Nat
  | .change _ _ _ n _ => n
  | .back _ => 0
def endD : Deed → Nat
  | .change _ _ _ n t => n + t.length
  | .back _ => 0
abbrev Chg := Nat × Deed × Bool
abbrev EntF := Mark × Option Mark × Nat × Bool
def chR (rows : Rows) (m : List Nat) (r : Nat) : List Chg := (((rows r).zip (forces (rows r))).filter fun df => isCh m df.1).map fun df => (r, df.1, df.2)
def changes (rows : Rows) (m : List Nat) : List Chg := (List.range 8).flatMap (chR rows m)
def entF (c : Chg) : List EntF := (entD c.1 c.2.1).map fun e => (e.1, e.2.1, e.2.2, c.2.2)
def found (rows : Rows) (m : List Nat) : List EntF := (changes rows m).flatMap entF
def removed (rows : Rows) (m : List Nat) : List Mark := (changes rows m).flatMap fun c => if c.2.2 then remD c.2.1 else []
def marks (rows : Rows) (m : List Nat) : List Mark := (found rows m).map (·.1)
theorem zip_fst {α β : Type _} : ∀ (l : List α) (k : List β), l.length = k.length → (l.zip k).map Prod.fst = l
  | [], [], _ => rfl
  | x :: l, y :: k, h => by
    show x :: (l.zip k).map Prod.fst = _
    rw [zip_fst l k (by simpa using h)]
theorem zip_forces (row : List Deed) : (row.zip (forces row)).map Prod.fst = row := zip_fst _ _ (forces_len row).symm
theorem mem_changes {rows : Rows} {m : List Nat} {c : Chg} (h : c ∈ changes rows m) : c.1 < 8 ∧ c.2.1 ∈ rows c.1 ∧ isCh m c.2.1 = true := by
  obtain ⟨r, hr, h⟩ := List.mem_flatMap.mp h
  obtain ⟨df, hdf, rfl⟩ := List.mem_map.mp h
  obtain ⟨h1, h2⟩ := List.mem_filter.mp hdf
  refine ⟨List.mem_range.mp hr, ?_, h2⟩
  have := List.mem_map_of_mem (f := Prod.fst) h1
  rwa [zip_forces] at this
theorem changes_has {rows : Rows} {m : List Nat} {r : Nat} {d : Deed} (hr : r < 8) (hd : d ∈ rows r) (hm : isCh m d = true) : ∃ f, (r, d, f) ∈ changes rows m := by
  rw [← zip_forces (rows r)] at hd
  obtain ⟨⟨d', f⟩, h1, h2⟩ := List.mem_map.mp hd
  cases h2
  exact ⟨f, List.mem_flatMap.mpr ⟨r, List.mem_range.mpr hr, List.mem_map.mpr ⟨(d', f), List.mem_filter.mpr ⟨h1, hm⟩, rfl⟩⟩⟩
theorem mem_marks {rows : Rows} {m : List Nat} {x : Mark} : x ∈ marks rows m ↔ ∃ r d, r < 8 ∧ d ∈ rows r ∧ isCh m d = true ∧ x ∈ (entD r d).map (·.1) := by
  constructor
  · intro h
    obtain ⟨e, he, rfl⟩ := List.mem_map.mp h
    obtain ⟨c, hc, he⟩ := List.mem_flatMap.mp he
    obtain ⟨e', he', rfl⟩ := List.mem_map.mp he
    obtain ⟨h1, h2, h3⟩ := mem_changes hc
    exact ⟨c.1, c.2.1, h1, h2, h3, List.mem_map.mpr ⟨e', he', rfl⟩⟩
  · rintro ⟨r, d, hr, hd, hm, hx⟩
    obtain ⟨f, hc⟩ := changes_has hr hd hm
    obtain ⟨e, he, rfl⟩ := List.mem_map.mp hx
    exact List.mem_map.mpr ⟨(e.1, e.2.1, e.2.2, f), List.mem_flatMap.mpr ⟨_, hc, List.mem_map.mpr ⟨e, he, rfl⟩⟩, rfl⟩
theorem marks_mono {rows rows' : Rows} (h : ∀ r, r < 8 → ∀ d ∈ rows r, d ∈ rows' r) {m : List Nat} {x : Mark} (hx : x ∈ marks rows m) : x ∈ marks rows' m := by
  obtain ⟨r, d, hr, hd, hm, hx⟩ := mem_marks.mp hx
  exact mem_marks.mpr ⟨r, d, hr, h r hr d hd, hm, hx⟩
theorem mem_entD {r : Nat} {d : Deed} {e : Ent} (h : e ∈ entD r d) : ∃ m x b n t k, d = .change m x b n t ∧ k < t.length ∧ e = ((n + k, r), (if k = 0 then b else some (n + k - 1, r)), t.getD k 0) := by
  cases d with
  | back => cases h
  | change m x b n t =>
    obtain ⟨k, hk, he⟩ := List.mem_iff_getElem.mp h
    have hk' : k < t.length := by
      have : (entD r (.change m x b n t)).length = t.length := ins_len r t n b
      omega
    have h2 := ins_get r t n b k hk'
    have h3 : (ins r n b t)[k]? = some e := by
      rw [← he]
      exact List.getElem?_eq_getElem hk
    rw [h3] at h2
    exact ⟨m, x, b, n, t, k, rfl, hk', Option.some.inj h2⟩
theorem entD_has {r : Nat} {m : List Nat} {x : List Mark} {b : Option Mark} {n k : Nat} {t : List Nat} (hk : k < t.length) : (n + k, r) ∈ (entD r (.change m x b n t)).map (·.1) := by
  have h := ins_get r t n b k hk
  exact List.mem_map.mpr ⟨_, List.mem_of_getElem? h, rfl⟩
/-! ### rows as deeds make them -/
def mlt (a b : Mark) : Prop := a.1 < b.1 ∨ (a.1 = b.1 ∧ a.2 < b.2)
structure Good (rows : Rows) : Prop where
  num : ∀ r, r < 8 → (rows r).Pairwise fun a b => (∃ m x c n t, b = .change m x c n t) → endD a ≤ numD b
  nam : ∀ r, r < 8 → ∀ m x b n t, Deed.change m x b n t ∈ rows r → ∀ y ∈ x ++ b.toList, y ∈ marks rows m ∧ y.1 < n
theorem mlt_irrefl {a : Mark} : ¬ mlt a a := by
  rintro (h | ⟨_, h⟩) <;> omega
theorem mlt_trans {a b c : Mark} (h : mlt a b) (k : mlt b c) : mlt a c := by
  unfold mlt at *
  omega
theorem mlt_total {a b : Mark} (h : a ≠ b) : mlt a b ∨ mlt b a := by
  have : ¬ (a.1 = b.1 ∧ a.2 = b.2) := fun ⟨h1, h2⟩ => h (Prod.ext h1 h2)
  unfold mlt
  omega
theorem marks_nodup {rows : Rows} (G : Good rows) (m : List Nat) : (marks rows m).Nodup := by
  unfold marks found changes
  rw [List.map_flatMap]
  refine List.pairwise_flatMap.mpr ⟨fun c hc => ?_, ?_⟩
  · -- one deed
    obtain ⟨r, _, hc⟩ := List.mem_flatMap.mp hc
    unfold entF
    rw [List.map_map]
    have e : ((fun x : EntF => x.1) ∘ fun e : Ent => (e.1, e.2.1, e.2.2, c.2.2)) = fun e : Ent => e.1 := rfl
    rw [e]
    cases hd : c.2.1 with
    | back => exact List.Pairwise.nil
    | change m' x b n t =>
      show ((ins c.1 n b t).map fun e => e.1).Nodup
      have key : ∀ (t : List Nat) (n : Nat) (b : Option Mark), ((ins c.1 n b t).map fun e => e.1).Nodup ∧ ∀ y ∈ (ins c.1 n b t).map (fun e => e.1), n ≤ y.1 := by
        intro t
        induction t with
        | nil => intro n b; exact ⟨List.Pairwise.nil, fun y h => by cases h⟩
        | cons z t ih =>
          intro n b
          obtain ⟨h1, h2⟩ := ih (n + 1) (some (n, c.1))
          refine ⟨List.nodup_cons.mpr ⟨fun h => ?_, h1⟩, fun y hy => ?_⟩
          · have := h2 _ h
            simp at this
            omega
          · rcases List.mem_cons.mp hy with e | h
            · rw [e]; exact Nat.le_refl _
            · have := h2 _ h
              omega
      exact (key t n b).1
  · refine List.pairwise_flatMap.mpr ⟨fun r hr => ?_, ?_⟩
    · unfold chR
      refine List.pairwise_map.mpr (List.Pairwise.filter _ ?_)
      have hp : ((rows r).zip (forces (rows r))).Pairwise fun a b => (∃ m x c n t, b.1 = .change m x c n t) → endD a.1 ≤ numD b.1 := by
        have := G.num r (List.mem_range.mp hr)
        rw [← zip_forces (rows r)] at this
        exact List.pairwise_map.mp this
      refine hp.imp fun {a b} hab => ?_
      rintro x hx y hy rfl
      obtain ⟨e1, he1, rfl⟩ := List.mem_map.mp hx
      obtain ⟨e2, he2, h2⟩ := List.mem_map.mp hy
      obtain ⟨f1, hf1, rfl⟩ := List.mem_map.mp he1
      obtain ⟨f2, hf2, rfl⟩ := List.mem_map.mp he2
      obtain ⟨m1, x1, b1, n1, t1, k1, d1, hk1, rfl⟩ := mem_entD hf1
      obtain ⟨m2, x2, b2, n2, t2, k2, d2, hk2, rfl⟩ := mem_entD hf2
      have := hab ⟨_, _, _, _, _, d2⟩
      have e1' : a.1 = .change m1 x1 b1 n1 t1 := d1
      have e2' : b.1 = .change m2 x2 b2 n2 t2 := d2
      rw [e1', e2'] at this
      have h3 : n2 + k2 = n1 + k1 := congrArg Prod.fst h2
      have h4 : n1 + t1.length ≤ n2 := this
      omega
    · refine List.Pairwise.imp (R := fun a b => a ≠ b) (fun {a b} hab => ?_) List.nodup_range
      rintro c hc c' hc' x hx y hy rfl
      obtain ⟨df, _, rfl⟩ := List.mem_map.mp hc
      obtain ⟨df', _, rfl⟩ := List.mem_map.mp hc'
      obtain ⟨e1, he1, rfl⟩ := List.mem_map.mp hx
      obtain ⟨e2, he2, h2⟩ := List.mem_map.mp hy
      obtain ⟨f1, hf1, rfl⟩ := List.mem_map.mp he1
      obtain ⟨f2, hf2, rfl⟩ := List.mem_map.mp he2
      obtain ⟨_, _, _, n1, _, k1, _, _, rfl⟩ := mem_entD hf1
      obtain ⟨_, _, _, n2, _, k2, _, _, rfl⟩ := mem_entD hf2
      have h3 : ((n2 + k2, b) : Mark) = (n1 + k1, a) := h2
      exact hab (congrArg Prod.snd h3).symm
/-- what stands behind a mark is a lesser mark of the module -/
theorem behind_ok {rows : Rows} (G : Good rows) {m : List Nat} {e : EntF} (he : e ∈ found rows m) {x : Mark} (hx : e.2.1 = some x) : x ∈ marks rows m ∧ mlt x e.1 := by
  obtain ⟨c, hc, he⟩ := List.mem_flatMap.mp he
  obtain ⟨f, hf, rfl⟩ := List.mem_map.mp he
  obtain ⟨h1, h2, h3⟩ := mem_changes hc
  obtain ⟨m1, x1, b1, n1, t1, k1, d1, hk1, rfl⟩ := mem_entD hf
  rw [d1] at h2 h3
  have hm : m1 = m := of_decide_eq_true h3
  subst hm
  by_cases hk : k1 = 0
  · subst hk
    have hb : b1 = some x := hx
    have := G.nam c.1 h1 m1 x1 b1 n1 t1 h2 x (by rw [hb]; simp)
    exact ⟨this.1, .inl (by show x.1 < n1 + 0; omega)⟩
  · have hb : (if k1 = 0 then b1 else some (n1 + k1 - 1, c.1)) = some x := hx
    rw [if_neg hk] at hb
    cases hb
    refine ⟨mem_marks.mpr ⟨c.1, _, h1, h2, by simp [isCh], ?_⟩, .inl (by show n1 + k1 - 1 < n1 + k1; omega)⟩
    have : n1 + k1 - 1 = n1 + (k1 - 1) := by omega
    rw [this]
    exact entD_has (by omega)
/-! ### the row of a module -/
abbrev Cel := Mark × Nat × Bool
def slot (b : Option Mark) (row : List Cel) : Nat := match b with
  | none => 0
  | some x => (row.map (·.1)).idxOf x + 1
def put (rm : List Mark) (row : List Cel) (e : EntF) : List Cel := row.insertIdx (slot e.2.1 row) (e.1, e.2.2.1, e.2.2.2 && !decide (e.1 ∈ rm))
def build (rm : List Mark) (es : List EntF) : List Cel := es.foldl (put rm) []
theorem build_snoc (rm : List Mark) (es : List EntF) (e : EntF) : build rm (es ++ [e]) = put rm (build rm es) e := by
  unfold build
  rw [List.foldl_append]
  rfl
/-- sorted, and what each one stands behind is ahead of it -/
structure Srt (rows : Rows) (m : List Nat) (es : List EntF) : Prop where
  perm : es.Perm (found rows m)
  lt : es.Pairwise fun a b => mlt a.1 b.1
theorem slot_le {b : Option Mark} {row : List Cel} (h : ∀ x, b = some x → x ∈ row.map (·.1)) : slot b row ≤ row.length := by
  cases b with
  | none => exact Nat.zero_le _
  | some x =>
    have := List.idxOf_lt_length_of_mem (h x rfl)
    rw [List.length_map] at this
    exact this
theorem put_perm {rm : List Mark} {row : List Cel} {e : EntF} (h : ∀ x, e.2.1 = some x → x ∈ row.map (·.1)) : ((put rm row e).map (·.1)).Perm (e.1 :: row.map (·.1)) := by
  unfold put
  have h1 := List.perm_insertIdx (e.1, e.2.2.1, e.2.2.2 && !decide (e.1 ∈ rm)) row (slot_le h)
  exact h1.map (·.1)
theorem build_perm {rows : Rows} {m : List Nat} {es : List EntF} (G : Good rows) (S : Srt rows m es) (rm : List Mark) : ∀ i, i ≤ es.length → ((build rm (es.take i)).map (·.1)).Perm ((es.take i).map (·.1)) ∧
    ∀ e, es[i]? = some e → ∀ x, e.2.1 = some x → x ∈ (build rm (es.take i)).map (·.1) := by
  have back : ∀ i, i ≤ es.length → ∀ e, es[i]? = some e → ∀ x, e.2.1 = some x → x ∈ (es.take i).map (·.1) := by
    intro i hi e he x hx
    have hef : e ∈ found rows m := S.perm.mem_iff.mp (List.mem_of_getElem? he)
    obtain ⟨hm, hlt⟩ := behind_ok G hef hx
    obtain ⟨e', he', rfl⟩ := List.mem_map.mp hm
    obtain ⟨j, hj⟩ := List.mem_iff_getElem?.mp (S.perm.mem_iff.mpr he')
    have hji : j < i := by
      rcases Nat.lt_trichotomy j i with h | h | h
      · exact h
      · subst h
        rw [he] at hj
        cases hj
        exact absurd hlt mlt_irrefl
      · have h1 := (List.getElem?_eq_some_iff.mp he)
        have h2 := (List.getElem?_eq_some_iff.mp hj)
        have := List.pairwise_iff_getElem.mp S.lt i j h1.1 h2.1 h
        rw [h1.2, h2.2] at this
        exact absurd (mlt_trans this hlt) mlt_irrefl
    refine List.mem_map.mpr ⟨e', ?_, rfl⟩
    refine List.mem_of_getElem? (i := j) ?_
    rw [List.getElem?_take, if_pos hji]
    exact hj
  intro i
  induction i with
  | zero => exact fun hi => ⟨List.Perm.refl _, fun e he x hx => by have := back 0 hi e he x hx; simp at this⟩
  | succ i ih =>
    intro hi
    obtain ⟨h1, h2⟩ := ih (by omega)
    have he : es[i]? = some es[i] := List.getElem?_eq_getElem (by omega)
    have hp : ((build rm (es.take (i + 1))).map (·.1)).Perm ((es.take (i + 1)).map (·.1)) := by
      rw [take_snoc he, build_snoc, List.map_append]
      refine (put_perm (h2 _ he)).trans ?_
      refine (List.Perm.cons _ h1).trans ?_
      exact (List.perm_append_singleton ..).symm
    exact ⟨hp, fun e he x hx => hp.mem_iff.mpr (back (i + 1) hi e he x hx)⟩
end DM
namespace DM
open PySem PySem.Spec PyProof.Rows L2 SX HL
/-! ## deeds in the heap -/
def TupK (H H' : Hp) : Prop := ∀ a o, H a = some (.tup o) → H' a = some (.tup o)
theorem TupK.refl {H : Hp} : TupK H H := fun _ _ h => h
theorem TupK.trans {H H1 H2 : Hp} (a : TupK H H1) (b : TupK H1 H2) : TupK H H2 := fun x o h => b x o (a x o h)
theorem Same.tk {H H' : Hp} (s : Same H H') : TupK H H' := fun a o h => s a _ h
/-- a store at something that is no tuple -/
theorem tk_upd {H : Hp} {a : Addr} {o : HO} (h : ∀ xs, ¬ H a = some (.tup xs)) : TupK H (upd H a o) := fun b xs e => by
  rw [upd_ne (fun z => h xs (by rw [← z]; exact e))]
  exact e
def MkAt (H : Hp) (x : V) (m : Mark) : Prop := IsRow (fun m : Mark => [vi m.1, vi m.2]) H x m
def OMk (H : Hp) (x : V) : Option Mark → Prop
  | none => x = .non
  | some m => MkAt H x m
def DeedAt (H : Hp) (x : V) : Deed → Prop
  | .back n => ∃ t, x = .ref t ∧ H t = some (.tup [.str "back", vi n])
  | .change m rem beh num txt => ∃ t tr us bx, x = .ref t ∧ H t = some (.tup [.str "change", .str (S m), .ref tr, bx, vi num, .str (S txt)]) ∧ H tr = some (.tup us) ∧ All2 (MkAt H) us rem ∧ OMk H bx beh
theorem MkAt.keep {H H' : Hp} {x : V} {m : Mark} (h : MkAt H x m) (k : TupK H H') : MkAt H' x m := IsRow.same h k
theorem OMk.keep {H H' : Hp} {x : V} {b : Option Mark} (h : OMk H x b) (k : TupK H H') : OMk H' x b := by
  cases b with
  | none => exact h
  | some m => exact MkAt.keep h k
theorem DeedAt.keep {H H' : Hp} {x : V} {d : Deed} (h : DeedAt H x d) (k : TupK H H') : DeedAt H' x d := by
  cases d with
  | back n =>
    obtain ⟨t, e, ht⟩ := h
    exact ⟨t, e, k _ _ ht⟩
  | change m rem beh num txt =>
    obtain ⟨t, tr, us, bx, e, ht, hr, hm, hb⟩ := h
    exact ⟨t, tr, us, bx, e, k _ _ ht, k _ _ hr, hm.mono fun v m h => h.keep k, hb.keep k⟩
theorem DeedAt.tup {H : Hp} {x : V} {d : Deed} (h : DeedAt H x d) : ∃ t xs, x = .ref t ∧ H t = some (.tup xs) := by
  cases d with
  | back n =>
    obtain ⟨t, e, ht⟩ := h
    exact ⟨t, _, e, ht⟩
  | change m rem beh num txt =>
    obtain ⟨t, tr, us, bx, e, ht, _⟩ := h
    exact ⟨t, _, e, ht⟩
/-! ### as data -/
def mD (m : Mark) : PyData := .tuple [di m.1, di m.2]
def oD : Option Mark → PyData
  | none => .none
  | some m => mD m
def pD : Deed → PyData
  | .back n => .tuple [.str "back", di n]
  | .change m rem beh num txt => .tuple [.str "change", .str (S m), .tuple (rem.map mD), oD beh, di num, .str (S txt)]
theorem MkAt.dp {K : PySem.W.Frag} {H : Hp} {x : V} {m : Mark} (h : MkAt H x m) : Dp K H x (mD m) := by
  obtain ⟨t, rfl, ht⟩ := h
  exact .tup (SqT.of ht) (.cons (.int _) (.cons (.int _) .nil))
theorem OMk.dp {K : PySem.W.Frag} {H : Hp} {x : V} {b : Option Mark} (h : OMk H x b) : Dp K H x (oD b) := by
  cases b with
  | none => obtain rfl : x = .non := h; exact .non
  | some m => exact MkAt.dp h
theorem dpAll_of {K : PySem.W.Frag} {H : Hp} {α : Type} {R : V → α → Prop} {f : α → PyData} (hf : ∀ x a, R x a → Dp K H x (f a)) : ∀ {xs : List V} {as : List α}, All2 R xs as → DpAll K H xs (as.map f)
  | _, _, .nil => .nil
  | _, _, .cons h t => .cons (hf _ _ h) (dpAll_of hf t)
theorem DeedAt.dp {K : PySem.W.Frag} {H : Hp} {x : V} {d : Deed} (h : DeedAt H x d) : Dp K H x (pD d) := by
  cases d with
  | back n =>
    obtain ⟨t, rfl, ht⟩ := h
    exact .tup (SqT.of ht) (.cons (.str _) (.cons (.int _) .nil))
  | change m rem beh num txt =>
    obtain ⟨t, tr, us, bx, rfl, ht, hr, hm, hb⟩ := h
    exact .tup (SqT.of ht) (.cons (.str _) (.cons (.str _) (.cons (.tup (SqT.of hr) (dpAll_of (fun x a h => MkAt.dp h) hm)) (.cons hb.dp (.cons (.int _) (.cons (.str _) .nil))))))
/-- codes of characters -/
def okC (l : List Nat) : Prop := ∀ c ∈ l, c < 1114112
structure DOk (d : Deed) : Prop where
  m : ∀ m x b n t, d = .change m x b n t → okC m ∧ okC t ∧ m.length ≤ 100 ∧ x.length ≤ 1000 ∧ t.length ≤ 100
theorem strOk_S {l : List Nat} (h : okC l) : PySem.PyData.strOk (S l) = true := by
  show (S l).cps.all _ = true
  rw [← Array.all_toList]
  exact List.all_eq_true.mpr fun c hc => decide_eq_true (h c hc)
theorem can_marks : ∀ l : List Mark, PyData.canLayAll0 (l.map mD) = true
  | [] => rfl
  | m :: l => by
    show (PyData.canLay0 (mD m) && PyData.canLayAll0 (l.map mD)) = true
    rw [can_marks l]
    rfl
theorem depth_marks : ∀ l : List Mark, PyData.depthAll (l.map mD) ≤ 2
  | [] => Nat.zero_le _
  | m :: l => by
    have h1 := depth_marks l
    have h2 : PyData.depth (mD m) ≤ 2 := by simp [mD, PyData.depth, PyData.depthAll, di]
    show max (PyData.depth (mD m)) (PyData.depthAll (l.map mD)) ≤ 2
    omega
theorem shaped_mark (m : Mark) : SeqAt.shaped (mD m) = true := by
  simp [SeqAt.shaped, mD, PyData.canLay0, PyData.canLayAll0, PyData.depth, PyData.depthAll, di]
theorem shaped_marks (l : List Mark) : SeqAt.shaped (.list (l.map mD)) = true := by
  have h1 := can_marks l
  have h2 := depth_marks l
  simp only [SeqAt.shaped, PyData.canLay0, PyData.depth, Bool.and_eq_true, decide_eq_true_eq]
  exact ⟨h1, decide_eq_true (by omega)⟩
theorem shaped_o (b : Option Mark) : PyData.canLay0 (oD b) = true ∧ PyData.depth (oD b) ≤ 1 := by
  cases b with
  | none => exact ⟨rfl, Nat.zero_le _⟩
  | some m => exact ⟨by simp [oD, mD, PyData.canLay0, PyData.canLayAll0, di], by simp [oD, mD, PyData.depth, PyData.depthAll, di]⟩
theorem shaped_deed {d : Deed} (h : DOk d) : SeqAt.shaped (pD d) = true := by
  cases d with
  | back n =>
    have : PySem.PyData.strOk ("back" : Str) = true := by decide +kernel
    simp [SeqAt.shaped, pD, PyData.canLay0, PyData.canLayAll0, PyData.depth, PyData.depthAll, di, this]
  | change m x b n t =>
    obtain ⟨h1, h2, _⟩ := h.m _ _ _ _ _ rfl
    have e1 := strOk_S h1
    have e2 := strOk_S h2
    have e3 : PySem.PyData.strOk ("change" : Str) = true := by decide +kernel
    have e4 := can_marks x
    have e5 := depth_marks x
    obtain ⟨e6, e7⟩ := shaped_o b
    simp only [SeqAt.shaped, pD, PyData.canLay0, PyData.canLayAll0, PyData.depth, PyData.depthAll, di, e1, e2, e3, e4, e6, Bool.and_self, Bool.and_eq_true, decide_eq_true_eq]
    refine ⟨by simp, ?_⟩
    omega
theorem eqv_mark (a b : Mark) : PyData.eqv (mD a) (mD b) = decide (a = b) := by
  obtain ⟨a1, a2⟩ := a
  obtain ⟨b1, b2⟩ := b
  rw [Bool.eq_iff_iff, decide_eq_true_iff]
  simp [mD, di, PyData.eqv, PyData.eqvAll]
  omega
theorem eqv_back (d : Deed) (p : Nat) : PyData.eqv (pD d) (pD (.back p)) = decide (d = .back p) := by
  cases d with
  | back n =>
    rw [Bool.eq_iff_iff, decide_eq_true_iff]
    simp [pD, di, PyData.eqv, PyData.eqvAll]
    omega
  | change m x b n t => simp [pD, PyData.eqv, PyData.eqvAll]
/-! ### told the same -/
theorem MkAt.same {K : PySem.W.Frag} {H : Hp} {n : Nat} {x y : V} {m : Mark} (h : MkAt H x m) (h' : MkAt H y m) : SameD K H (n + 1) x y := by
  obtain ⟨t, rfl, ht⟩ := h
  obtain ⟨u, rfl, hu⟩ := h'
  exact .row ht hu (by show 2 ≤ 1000000; decide) fun x hx => by
    simp at hx
    rcases hx with e | e <;> rw [e] <;> exact True.intro
theorem OMk.same {K : PySem.W.Frag} {H : Hp} {n : Nat} {x y : V} {b : Option Mark} (h : OMk H x b) (h' : OMk H y b) : SameD K H (n + 1) x y := by
  cases b with
  | none =>
    obtain rfl : x = .non := h
    obtain rfl : y = .non := h'
    exact .leaf True.intro
  | some m => exact MkAt.same h h'
theorem all_same {K : PySem.W.Frag} {H : Hp} {α : Type} {R : V → α → Prop} {n : Nat} (hR : ∀ x y a, R x a → R y a → SameD K H n x y) {xs ys : List V} {as : List α} (h1 : All2 R xs as) (h2 : All2 R ys as) (i : Nat) (u v : V) (hu : xs[i]? = some u) (hv : ys[i]? = some v) : SameD K H n u v := by
  obtain ⟨a, ha, h⟩ := h1.get hu
  obtain ⟨b, hb, h'⟩ := h2.get hv
  rw [ha] at hb
  cases hb
  exact hR _ _ _ h h'
theorem DeedAt.same {K : PySem.W.Frag} {H : Hp} {n : Nat} {x y : V} {d : Deed} (hd : DOk d) (h : DeedAt H x d) (h' : DeedAt H y d) : SameD K H (n + 3) x y := by
  cases d with
  | back n =>
    obtain ⟨t, rfl, ht⟩ := h
    obtain ⟨u, rfl, hu⟩ := h'
    exact .row ht hu (by show 2 ≤ 1000000; decide) fun x hx => by
      simp at hx
      rcases hx with e | e <;> rw [e] <;> exact True.intro
  | change m rem beh num txt =>
    obtain ⟨t, tr, us, bx, rfl, ht, hr, hm, hb⟩ := h
    obtain ⟨t', tr', us', bx', rfl, ht', hr', hm', hb'⟩ := h'
    obtain ⟨_, _, _, hx, _⟩ := hd.m _ _ _ _ _ rfl
    refine .seq (.tup ht) (.tup ht') rfl (by show 6 ≤ 1000000; decide) fun i u v hu hv => ?_
    match i, hu, hv with
    | 0, hu, hv => cases hu; cases hv; exact .leaf True.intro
    | 1, hu, hv => cases hu; cases hv; exact .leaf True.intro
    | 2, hu, hv =>
      cases hu
      cases hv
      exact .seq (.tup hr) (.tup hr') (by rw [hm.len, hm'.len]) (by rw [hm'.len]; omega) (all_same (R := MkAt H) (fun x y a h k => MkAt.same h k) hm hm')
    | 3, hu, hv => cases hu; cases hv; exact OMk.same hb hb'
    | 4, hu, hv => cases hu; cases hv; exact .leaf True.intro
    | 5, hu, hv => cases hu; cases hv; exact .leaf True.intro
    | i + 6, hu, _ => cases hu
/-! ### rows -/
structure RowsAt (H : Hp) (A : Addr) (rs : List Addr) (rows : Rows) : Prop where
  h : H A = some (.lst (rs.map V.ref))
  n : rs.length = 8
  r : ∀ (i : Nat) (a : Addr), rs[i]? = some a → ∃ us, H a = some (.lst us) ∧ All2 (DeedAt H) us (rows i)
theorem RowsAt.keep {H H' : Hp} {A : Addr} {rs : List Addr} {rows : Rows} (R : RowsAt H A rs rows) (s : Same H H') : RowsAt H' A rs rows :=
  ⟨s _ _ R.h, R.n, fun i a h => by obtain ⟨us, h1, h2⟩ := R.r i a h; exact ⟨us, s _ _ h1, h2.mono fun v d h => h.keep (Same.tk s)⟩⟩
theorem RowsAt.get {H : Hp} {A : Addr} {rs : List Addr} {rows : Rows} (R : RowsAt H A rs rows) {i : Nat} (hi : i < 8) : ∃ a us, rs[i]? = some a ∧ (rs.map V.ref)[i]? = some (.ref a) ∧ H a = some (.lst us) ∧ All2 (DeedAt H) us (rows i) := by
  have hl : i < rs.length := by rw [R.n]; exact hi
  have e := List.getElem?_eq_getElem hl
  obtain ⟨us, h1, h2⟩ := R.r i _ e
  exact ⟨rs[i], us, e, by rw [List.getElem?_map, e]; rfl, h1, h2⟩
/-- few deeds, of few characters -/
def Few (rows : Rows) : Prop := ∀ r, r < 8 → (rows r).length ≤ 100 ∧ ∀ d ∈ rows r, DOk d
theorem flat_len {α β : Type} {f : α → List β} {k : Nat} : ∀ {l : List α}, (∀ a ∈ l, (f a).length ≤ k) → (l.flatMap f).length ≤ l.length * k
  | [], _ => by simp
  | a :: l, h => by
    have h1 := h a (List.mem_cons_self ..)
    have h2 := flat_len (l := l) fun x hx => h x (List.mem_cons_of_mem _ hx)
    rw [List.flatMap_cons, List.length_append, List.length_cons, Nat.add_mul]
    omega
theorem changes_len {rows : Rows} (h : Few rows) (m : List Nat) : (changes rows m).length ≤ 800 := by
  have := flat_len (l := List.range 8) (f := chR rows m) (k := 100) fun r hr => by
    unfold chR
    rw [List.length_map]
    refine Nat.le_trans (List.length_filter_le ..) ?_
    rw [List.length_zip, forces_len, Nat.min_self]
    exact (h r (List.mem_range.mp hr)).1
  rw [List.length_range] at this
  exact this
theorem entF_len {rows : Rows} (h : Few rows) {m : List Nat} {c : Chg} (hc : c ∈ changes rows m) : (entF c).length ≤ 100 := by
  obtain ⟨h1, h2, h3⟩ := mem_changes hc
  unfold entF
  rw [List.length_map]
  cases hd : c.2.1 with
  | back => exact Nat.zero_le _
  | change m x b n t =>
    have := ((h c.1 h1).2 _ h2).m _ _ _ _ _ hd
    show (ins c.1 n b t).length ≤ 100
    rw [ins_len]
    exact this.2.2.2.2
theorem found_len {rows : Rows} (h : Few rows) (m : List Nat) : (found rows m).length ≤ 80000 := by
  have := flat_len (l := changes rows m) (f := entF) (k := 100) fun c hc => entF_len h hc
  have h2 := changes_len h m
  exact Nat.le_trans this (Nat.mul_le_mul_right 100 h2)
theorem removed_len {rows : Rows} (h : Few rows) (m : List Nat) : (removed rows m).length ≤ 800000 := by
  have := flat_len (l := changes rows m) (f := fun c : Chg => if c.2.2 then remD c.2.1 else []) (k := 1000) fun c hc => by
    obtain ⟨h1, h2, h3⟩ := mem_changes hc
    split
    · cases hd : c.2.1 with
      | back => exact Nat.zero_le _
      | change m x b n t => exact (((h c.1 h1).2 _ h2).m _ _ _ _ _ hd).2.2.2.1
    · exact Nat.zero_le _
  have h2 := changes_len h m
  exact Nat.le_trans this (Nat.mul_le_mul_right 1000 h2)
end DM
namespace HM
open PySem PySem.Spec PyProof.Rows L2 SX HL
section
variable {X : Cx}
/-- case number: -/
theorem pm_int {z : Int} {body : List Stmt} {rest : List MatchCase} {k pos : Pos} {j : Nat} {tb : TS} {t : TMs} (hb : PSs X body tb) (hr : PMs X rest t) :
    PMs X (⟨.MatchValue (.Constant (.int z) j k) pos, none, body⟩ :: rest) (fun v D σ H => ∃ y : Int, v = .int y ∧ if y = z then tb D σ H else t v D σ H) := by
  refine ⟨fun first pins s σ H D v u I r h => ?_⟩
  obtain ⟨y, rfl, h⟩ := h
  refine wpAny_matchCases_cons (wpAny_matchPattern_Value ?_)
  refine thn ((pe_int (X := X) (i := z)).run pins s σ H (fun w H1 => w = .int z ∧ H1 = H) I ⟨rfl, rfl⟩) fun x s1 ⟨w, H1, I1, r1, e1, e2⟩ => ?_
  subst e1
  rw [e2] at I1
  refine thn (op_eq (X := X) pins s1 σ H (.int y) (.int z) u x (fun c H2 => c = .bl (decide (V.int y = V.int z)) ∧ H2 = H) I1 r r1 ⟨rfl, rfl, rfl⟩) fun c s2 ⟨w, H2, I2, r2, e3, e4⟩ => ?_
  subst e3
  rw [e4] at I2
  obtain rfl : c = .bool (decide (V.int y = V.int z)) := r2
  refine wpAny_truthy_bool ?_
  by_cases e : y = z
  · have ed : decide (V.int y = V.int z) = true := decide_eq_true (by rw [e])
    rw [if_pos e] at h
    rw [ed, if_pos rfl]
    exact assignInOrder_nil (hb.run pins s2 σ H D I2 h)
  · have ed : decide (V.int y = V.int z) = false := decide_eq_false (fun q => e (V.int.inj q))
    rw [if_neg e] at h
    rw [ed, if_neg (by simp)]
    exact hr.run false pins s2 σ H D _ u I2 r h
end
end HM
namespace RC
open PySem PySem.W PySem.Calls PyProof.Rows PySem.HandSPX
/-! ## RefusedChunk(position): its __init__ asks super().__init__ with a text, then keeps the position -/
/-- the text of __init__, by its places -/
def rA : Arguments := { posonlyargs := [], args := [{ arg := "self", annotation := none, pos := ⟨43, 17, 43, 21⟩ }, { arg := "position", annotation := none, pos := ⟨43, 23, 43, 31⟩ }], vararg := none, kwonlyargs := [], kw_defaults := [], kwarg := none, defaults := [] }
def rB : List Stmt :=
  [.Expr (.Call (.Attribute (.Call (.Name "super" ⟨44, 8, 44, 13⟩) [] [] ⟨44, 8, 44, 15⟩) "__init__" ⟨44, 8, 44, 24⟩) [.JoinedStr [.Constant (.str "refused at ") 0 ⟨44, 27, 44, 38⟩, .FormattedValue (.Name "position" ⟨44, 39, 44, 47⟩) (-1) none ⟨44, 38, 44, 48⟩] ⟨44, 25, 44, 49⟩] [] ⟨44, 8, 44, 50⟩) ⟨44, 8, 44, 50⟩,
   .Assign [.Attribute (.Name "self" ⟨45, 8, 45, 12⟩) "position" ⟨45, 8, 45, 21⟩] (.Name "position" ⟨45, 24, 45, 32⟩) ⟨45, 8, 45, 32⟩]
def rS : Scope := { kind := .function, names := [(PySem.Str.ofString "self", .local), (PySem.Str.ofString "position", .local), (PySem.Str.ofString "__class__", .free), (PySem.Str.ofString "super", .globalImplicit)], isGenerator := false, isCoroutine := false, more := [] }
/-- what the written part says of the class at C and of its __init__ at fI -/
structure Facts (prog : Program) (K : Frag) (mg : Str → Option Value) (C fI : Addr) : Prop where
  gC : mg "RefusedChunk" = some (.ref C)
  cls : ∃ nm q N bs bm sn sub ab col dd k0 k1 k2 k3 k5, K.lookup C = some (excClassObj nm q C N bs bm true sn sub ab col dd k0 k1 k2 k3 k5 "ValueError.__new__") ∧ refsVE bm = true
  sa : findIn K (.ref C) "__setattr__" = some (some (.builtin "object.__setattr__"))
  ga : findIn K (.ref C) "__getattribute__" = some (some (.builtin "BaseException.__getattribute__"))
  gg : findIn K (.ref C) "__getattr__" = some none
  noN : findIn K (.ref C) "position" = some none
  iC : findIn K (.ref C) "__init__" = some (some (.ref fI))
  tC : typeIn K (.ref fI) = some (.type "function")
  kC : keepIn K (.ref C) = true
  exC : subIn K (.ref C) (.type "BaseException") = some true
  veC : subIn K (.ref C) (.type "ValueError") = some true
  tyC : typeIn K (.ref C) = some (.type "type")
  hdC : hasDictIn K C = true
  te : exmOne K (.ref C) (.ref C) = some true
  sup : ks_superIn K C C "__init__" = some (some (.builtin "ValueError.__init__"))
  mro : mroIn K C (.ref C) = some true
  any : nsIn K cStatics "thirdparty.any" = some none
  noS : mg "super" = none
  fn : ∃ (oc : Value) (od : Option Addr) (doc pm : Value) (an : Option Addr) (ct : Value) (osl : Array (Option Value)) (cda cc : Addr) (ccl cl : Value) (cdd cld : Option Addr) (vs : Array Value) (ccs csl : Array (Option Value)) (file : Str) (tf : Tok),
    K.lookup fI = some ⟨oc, od, .func (ksFn "__init__" "RefusedChunk.__init__" rA rB rS .none .none doc pm an (.ref cda) ct cc), osl⟩ ∧ codeIn K (.ref cda) "RefusedChunk.__init__" = true ∧
      K.lookup cda = some ⟨ccl, cdd, .fields vs, ccs⟩ ∧ vs[2]? = some (.str file tf) ∧ ((prog.main.file : Str) == file) = true ∧ K.lookup cc = some ⟨cl, cld, .cell (some (.ref C)), csl⟩
  top : (prog.main.scope.names.lookup ("super" : Str)).isSome = false
/-- what is known of the module where the exception is made -/
structure Mods (mg : Str → Option Value) (h : Heap) : Prop where
  g : h.Ns mainGlobals mg
  b : ∃ mb, h.Ns builtinsNs mb ∧ mb "super" = bootBuiltins "super"
theorem Mods.keeps {mg : Str → Option Value} {h h' : Heap} (m : Mods mg h) (k : ∀ b o, h.get? b = some o → h'.get? b = some o) : Mods mg h' := by
  obtain ⟨mb, h1, h2⟩ := m.b
  exact ⟨m.g.keeps k, mb, h1.keeps k, h2⟩
/-- what __init__ leaves of a fresh exception at x -/
structure Done (h h' : Heap) (x C dx : Addr) (v : Value) : Prop where
  keep : ∀ b o, b ≠ x → h.get? b = some o → h'.get? b = some o
  obj : ∃ t1, h'.get? x = some { cls := .ref C, dict := some dx, data := .fields #[.ref t1, .none, .none, .none, .bool false, .none] }
  dbig : h.objs.size ≤ dx
  dne : dx ≠ x
  ns : h'.Ns1 dx (fun y => if y = "position" then some v else none)
theorem one_size (v : Value) : [v].length ≤ sizeLine := by
  rw [sizeLine_eq]
  exact (by decide : 1 ≤ 16777216)
section
variable {prog : Program} {w : World} {A : Around} {E : Value → Shared → Prop} {R : Result → Shared → Prop} {s : Shared} {K : Frag} {mg : Str → Option Value} {C fI : Addr}
theorem init_ok (T : Facts prog K mg C fI) {x t0 : Addr} {i : Int} {tk : Tok} (hi : i.natAbs.log2 < 1920) (X : K.In s.heap) (G : Mods mg s.heap) (hlim : s.heap.NoLimit) (hx : s.heap.get? x = some (excO C t0)) (hnx : K.lookup x = none) (hroom : A.depth < recursionLimit)
    (hq : ∀ h' tk' dx, Done s.heap h' x C dx (.int i tk) → R (.ok (.ret .none)) { s with heap := h', toks := tk' }) :
    codeAny (model prog w) A (.call (.ref fI) ⟨[.ref x, .int i tk], []⟩) R s := by
  obtain ⟨oc, od, doc, pm, an, ct, osl, cda, cc, ccl, cl, cdd, cld, vs, ccs, csl, file, tf, ho, hcd, hcode, hvs, hfile, hcell⟩ := T.fn
  obtain ⟨nm, q, N, bs, bm, sn, sub, ab, col, dd, k0, k1, k2, k3, k5, hC, hbm⟩ := T.cls
  have hcl : clsIn K C = some { name := nm, bases := bs, mro := .ref C :: bm, ns := N, qualname := q, hasDict := true, slotNames := sn, subclasses := sub, abstract := ab, collection := col, hasDel := false } := by unfold clsIn; rw [hC] <;> rfl
  refine ks_codeAny_call_defAt (fd := ksFn "__init__" "RefusedChunk.__init__" rA rB rS .none .none doc pm an (.ref cda) ct cc) (binds := [("self", .ref x), ("position", .int i tk)]) hroom (X _ _ ho) rfl hlim (codeRec_of X hcd) rfl (BindsTo.of_eq (by first | rfl | with_unfolding_all rfl)) (show ∀ x ∈ rS.names, x.2 ≠ .cell by decide) (locs rfl) (fun h1 hn kk => ?_) rfl rfl rfl
  have X1 : K.In h1 := X.keeps kk
  have G1 := G.keeps kk
  have hx1 := kk _ _ hx
  have hI : InstAt h1 x (excO C t0) C none := ⟨hx1, rfl, rfl, trivial⟩
  show _root_.PySem.wpAt (model prog w) (A.deeper (ksEnv "RefusedChunk.__init__" rS s.heap.objs.size fI (.ref cda) cc)) (.func rB (ksEnv "RefusedChunk.__init__" rS s.heap.objs.size fI (.ref cda) cc)) (execs rB (ksEnv "RefusedChunk.__init__" rS s.heap.objs.size fI (.ref cda) cc)) _ _ _
  obtain ⟨oD, hD1, hD2⟩ : ∃ oD, h1.get? C = some oD ∧ oD.data = .cls { name := nm, bases := bs, mro := .ref C :: bm, ns := N, qualname := q, hasDict := true, slotNames := sn, subclasses := sub, abstract := ab, collection := col, hasDel := false } := ⟨_, X1 _ _ hC, rfl⟩
  obtain ⟨mb, gb, gs⟩ := G1.b
  obtain ⟨hp, g, dr, tks, os⟩ := s
  refine ks_wpAt_execs_cons (ks_wpAt_Expr_any (ks_wpAt_MethodCall ?_))
  refine ks_wpAt_super_base (env := ksEnv "RefusedChunk.__init__" rS hp.objs.size fI (.ref cda) cc) rfl rfl (by decide +kernel) rfl (X1 _ _ ho) rfl rfl rfl (X1 _ _ hcode) rfl hvs hfile T.top ?_
  refine ks_loadName_global rfl rfl (loadGlobal_builtin (env := ksEnv "RefusedChunk.__init__" rS hp.objs.size fI (.ref cda) cc) G1.g T.noS gb (gs.trans (by first | rfl | kernel_rfl)) ⟨rfl, ?_⟩)
  refine wpAny_loadName_free rfl rfl rfl ⟨_, X1 _ _ hcell, rfl⟩ ?_
  refine wpAny_loadName_local rfl rfl hn (by first | rfl | with_unfolding_all rfl) ?_
  refine ks_wpAny_isType_cls hD1 hD2 ⟨rfl, ?_⟩
  refine ks_wpAny_call_super hD1 hD2 hI.at_ hI.cls (fun c e => by cases e) (looks_mroIn X1 T.mro) (fun h2 so k2 => ?_)
  have X2 : K.In h2 := X1.keeps k2
  have hx2 := k2 _ _ hx1
  have hI2 : InstAt h2 x (excO C t0) C none := ⟨hx2, rfl, rfl, trivial⟩
  have hm : alongIn K "__init__" (((Value.ref C :: bm).dropWhile (· != .ref C)).drop 1) = some (some (.builtin "ValueError.__init__")) := by
    have q := T.sup
    unfold ks_superIn at q
    rw [hcl] at q
    exact q
  have hxC : x ≠ C := ks_ne X1 hI hcl
  refine kxs_getMethod kxs_ValueError so (looks_opaque X2 T.any) (l₀ := .ref C :: bm) ((looks_clsIn X2 hcl).andThen .now) rfl X2 hm (hI2.type.andThen (looks_subIn X2 T.veC)) hxC (by decide +kernel) ?_
  -- the argument, a text
  have ku : ∀ b o, h2.get? b = some o → (h2.push (kxs_mw "ValueError.__init__" x)).get? b = some o := fun b o e => Heap.get?_push_of_some _ e
  have hu : (h2.push (kxs_mw "ValueError.__init__" x)).get? h2.objs.size = some (kxs_mw "ValueError.__init__" x) := Heap.get?_push_at rfl rfl
  have hn3 := (hn.keeps k2).keeps ku
  refine kxs_callWith (i := "ValueError.__init__") (x := x) rfl (evalArgs_plain (Calls.spliced_cons ?_))
  refine wpAny_JoinedStr (pos := ⟨44, 25, 44, 49⟩) (Calls.Constant_str ⟨_, _, rfl, by decide +kernel, ?_⟩)
  refine wpAny_FormattedValue_plain (wpAny_Name (wpAny_loadName_local rfl rfl hn3 (by first | rfl | with_unfolding_all rfl) ?_) (by decide))
  have hlen := int_text_len_1921 hi
  have hsum : (Str.empty ++ ("refused at " : Str) ++ (Str.ofString (toString i))).length ≤ 2000 := by
    have e : ∀ a b : Str, (a ++ b).length = a.length + b.length := fun a b => Array.size_append ..
    rw [e]
    have : (Str.empty ++ ("refused at " : Str)).length = 11 := by decide +kernel
    omega
  have hfit : (Str.empty ++ ("refused at " : Str) ++ (Str.ofString (toString i))).length ≤ sizeLine := Nat.le_trans hsum (by decide)
  refine wpAny_formatField_int hi ⟨_, _, rfl, hfit, hfit, Calls.spliced_nil ⟨hu, ?_⟩⟩
  -- ValueError.__init__, bound to the exception
  have he3 : (h2.push (kxs_mw "ValueError.__init__" x)).get? x = some (excO C t0) := ku _ _ hx2
  have hC3 := ku _ _ (X2 _ _ hC)
  refine wpAny_call (codeAny_of_tree (show wpAny _ (Around.in1 _) (callAny (.ref h2.objs.size) ⟨[_], []⟩) _ _ _ from ?_))
  simp only [callAny]; refine wpAny_bind (wpAny_load hu ?_)
  simp only [show (Value.type "method-wrapper" == Value.type "method" || Value.type "method-wrapper" == Value.type "builtin_function_or_method" || Value.type "method-wrapper" == Value.type "method-wrapper") = true from by decide, if_true]
  refine KFB.if_so (by decide) (wpAny_bind (check_bound_init F.excBase_ValueError.toExcCallFacts hC3 he3 rfl (wpAny_bind (wpAny_pure (wpAny_pure ⟨plainId_quiet F.excBase_ValueError.init.plain _, codeAny_builtin F.excBase_ValueError.initEntry ?_⟩)))))
  refine exc_init_tree (cls := .ref C) (t0 := t0) (dv := none) (c2 := .none) (c3 := .none) (b4 := .bool false) he3 (one_size _) (fun h4 k4 e4 _ => ?_)
  -- self.position = position
  show _root_.PySem.wpAt _ _ _ (execs _ _) _ _ _
  have hL : hp.objs.size ≠ x := Nat.ne_of_gt (Heap.lt_size hx)
  have hn4 : h4.Ns hp.objs.size _ := hn3.at fun o q => k4 _ _ hL q
  have X4 : K.In h4 := fun a o e => k4 a o (fun z => by rw [z, hnx] at e; cases e) (ku _ _ (X2 _ _ e))
  refine wpAt_of_wpAny (wpAny_execs_cons (plainObj_wpAny_Assign_Attribute ?_))
  refine wpAny_Name (wpAny_loadName_local rfl rfl hn4 (by first | rfl | with_unfolding_all rfl) ?_) (by decide)
  refine wpAny_Name (wpAny_loadName_local rfl rfl hn4 (by first | rfl | with_unfolding_all rfl) ?_) (by decide)
  refine set_plain X4 (ox := excO C (h2.push (kxs_mw "ValueError.__init__" x)).objs.size) (od := none) ⟨e4, rfl, rfl, trivial⟩ T.sa ?_
  refine exc_osa X4 e4 hcl (show refsVE (.ref C :: bm) = true from hbm) rfl T.noN (fun h5 tk5 dx k5 dn dne hx5 hn5 => ?_)
  have z : hp.objs.size < h4.objs.size := hn4.lt
  exact wpAny_execs_nil (hq h5 tk5 dx ⟨fun b o hb e => k5 b o hb (k4 b o hb (ku _ _ (k2 _ _ (kk _ _ e)))), ⟨_, hx5⟩, Nat.le_of_lt (Nat.lt_of_lt_of_le z dn), dne, hn5⟩)
/-- a made exception -/
structure Made (h h' : Heap) (e C d : Addr) (v : Value) : Prop where
  keep : ∀ b o, h.get? b = some o → h'.get? b = some o
  new : h.objs.size ≤ e
  obj : ∃ oe vs, h'.get? e = some oe ∧ oe.cls = .ref C ∧ oe.dict = some d ∧ oe.data = .fields vs ∧ vs[1]? = some .none
  dbig : h.objs.size ≤ d
  dne : d ≠ e
  ns : h'.Ns1 d (fun y => if y = "position" then some v else none)
theorem made_ok (T : Facts prog K mg C fI) {i : Int} {tk : Tok} (hi : i.natAbs.log2 < 1920) (X : K.In s.heap) (G : Mods mg s.heap) (hlim : s.heap.NoLimit) (hroom : A.depth + 1 < recursionLimit)
    (hq : ∀ h' tk' e d, Made s.heap h' e C d (.int i tk) → R (.ok (.ret (.ref e))) { s with heap := h', toks := tk' }) :
    codeAny (model prog w) A (.call (.ref C) ⟨[.int i tk], []⟩) R s := by
  obtain ⟨nm, q, N, bs, bm, sn, sub, ab, col, dd, k0, k1, k2, k3, k5, hC, hbm⟩ := T.cls
  obtain ⟨hp, g, dr, tks, os⟩ := s
  have k : ∀ b o, hp.get? b = some o → ((hp.push (kdv_tup [.int i tk])).push (excO C hp.objs.size)).get? b = some o := fun b o e => Heap.get?_push_of_some _ (Heap.get?_push_of_some _ e)
  have hget : ((hp.push (kdv_tup [.int i tk])).push (excO C hp.objs.size)).get? (hp.objs.size + 1) = some (excO C hp.objs.size) := by heap_get
  have hnx : K.lookup (hp.objs.size + 1) = none := by
    cases e : K.lookup (hp.objs.size + 1) with
    | none => rfl
    | some o =>
      have z : hp.get? (hp.objs.size + 1) = some o := X _ _ e
      exact absurd (Nat.lt_of_succ_lt (Heap.lt_size z)) (Nat.lt_irrefl _)
  refine call_own F.excBase_ValueError (fun X => refsVE_contains X bm hbm) (X _ _ hC) (looks_findIn X T.iC) (fun self => bind_fn X self T.tC) (one_size _) ?_
  refine init_ok (s := ⟨(hp.push (kdv_tup [.int i tk])).push (excO C hp.objs.size), g, dr, tks, os⟩) T hi (X.keeps k) (G.keeps k) (hlim.keeps k) hget hnx ?_ fun h' tk' dx D => ?_
  · show A.depth + 1 < recursionLimit
    exact hroom
  · obtain ⟨kd, ⟨t1, hx⟩, dn, dne, hns⟩ := D
    have old : ∀ b o, hp.get? b = some o → h'.get? b = some o := fun b o e => kd b o (Nat.ne_of_lt (Nat.lt_succ_of_lt (Heap.lt_size e))) (k b o e)
    have z : hp.objs.size + 1 + 1 ≤ dx := by
      first
        | (simpa only [Heap.size_push] using dn)
        | exact dn
        | (have q := dn; rw [Heap.size_push, Heap.size_push] at q; exact q)
    exact ⟨rfl, hq h' tk' (hp.objs.size + 1) dx ⟨old, Nat.le_succ _, ⟨_, _, hx, rfl, rfl, rfl, rfl⟩, Nat.le_trans (Nat.le_trans (Nat.le_succ _) (Nat.le_succ _)) z, dne, hns⟩⟩
end
end RC
namespace L2
open PySem PySem.Spec PyProof.Rows
theorem relO_pos {v : V} {v' : Value} (r : RelV v v') (f : Str) : RelO (List.lookup f [(("position" : Str), v)]) (if f = "position" then some v' else none) := by
  by_cases hw : f = "position"
  · subst hw
    rw [if_pos rfl]
    have q : List.lookup ("position" : Str) [(("position" : Str), v)] = some v := by simp [List.lookup]
    rw [q]
    exact r
  · rw [if_neg hw]
    have qw : (f == ("position" : Str)) = false := by simpa using hw
    have q2 : List.lookup f [(("position" : Str), v)] = none := by simp [List.lookup, qw]
    rw [q2]
    trivial
section
variable {X : Cx} {C fI : Addr}
/-- RefusedChunk(e), e a number -/
def tMkRC (C : Addr) (ta : TA) : St → Hp → XK → Prop := fun σ H Q => ta σ H fun vs H1 => ∃ i : Int, vs = [.int i] ∧ i.natAbs.log2 < 1920 ∧ ∀ d, H1 d = none → Q (.ref C) (some d) (upd H1 d (.xd [(("position" : Str), .int i)]))
theorem pmk_rc {a : Expr} {ta : TA} {p pos : Pos} {k : Nat} (T : RC.Facts X.prog X.K X.mg C fI) (hr : Room k X.A) (ha : PA X [a] ta) (hg : Gl X "RefusedChunk" := by rfl)
    (he : starEach (a :: []) X.env = (false, eval a X.env) :: starEach [] X.env := by rfl) (hpl : (backTo pos (starEach [] X.env)).any (·.1) = false := by rfl) :
    PMk X (.Call (.Name "RefusedChunk" p) [a] [] pos) (tMkRC C ta) := by
  intro pins s σ H Q I h
  refine wpAny_Call_Name_kw (ld_glob I hg T.gC ?_)
  refine PySem.W.callWith_K (h₀ := X.base) I.ok.mod.kin T.kC (thn (ha.run pos pins s σ H _ I h) fun us s1 hh => ?_) he hpl
  obtain ⟨vs, H1, I1, r1, i, ev, hi, q1⟩ := hh
  subst ev
  refine ⟨I1.kIn, ?_⟩
  cases r1 with
  | cons rv rn =>
    rename_i v' us'
    cases rn
    obtain ⟨tk, rfl⟩ := (show ∃ t, v' = Value.int i t from rv)
    show wpAny _ _ (call (.ref C) [.int i tk]) _ _ _
    have hlim := I1.nolimit
    have G1 : RC.Mods X.mg s1.heap := by
      obtain ⟨mb, h1, h2⟩ := I1.mod.blt
      exact ⟨I1.mod.glob.keeps I1.bk, mb, h1.keeps I1.bk, h2 _ (by decide)⟩
    obtain ⟨hp, g, dr, tks, os⟩ := s1
    refine wpAny_call (RC.made_ok T hi I1.kIn G1 hlim (by have := hr.dp; omega) fun h' tk' e d M => ?_)
    show MkP X pins σ Q (.ref e) ⟨h', g, dr, tk', os⟩
    obtain ⟨oe, fv, hoe, hc, hd, hdat, h1⟩ := M.obj
    have hns := M.ns
    obtain ⟨G', g1, g2⟩ := restrict h' fun b => decide (b ≠ e)
    have gk : ∀ b, b ≠ e → G'.get? b = h'.get? b := fun b hb => g1 b (decide_eq_true hb)
    have ge : G'.get? e = none := g2 e (by simp)
    have old : ∀ b o, hp.get? b = some o → G'.get? b = some o := fun b o q => (gk b (Nat.ne_of_lt (Nat.lt_of_lt_of_le (Heap.lt_size q) M.new))).trans (M.keep b o q)
    have ob : ObjOk X.prog X.w (upd H1 d (.xd [(("position" : Str), .int i)])) G' d (.xd [(("position" : Str), .int i)]) :=
      ⟨_, hns.at (fun o q => (gk d M.dne).trans q), fun f => relO_pos (v := .int i) ⟨tk, rfl⟩ f⟩
    have J : Inv X pins σ (upd H1 d (.xd [(("position" : Str), .int i)])) ⟨G', g, dr, tk', os⟩ := I1.laid (t' := tk') old M.dbig ob
    refine ⟨e, oe, fv, ⟨G', g, dr, tk', os⟩, _, .ref C, some d, rfl, J, fun b o q => ?_, ge, hoe, ⟨hc, hd⟩, hdat, h1, ?_, rfl, I1.bare, raises_own T.exC T.tyC, q1 d (I1.hok.fresh M.dbig)⟩
    · by_cases hb : b = e
      · have q' : G'.get? b = some o := q
        rw [hb, ge] at q'; cases q'
      · exact (gk b hb).symm.trans q
    · rw [upd_ne (Ne.symm M.dne)]
      exact I1.hok.fresh M.new
/-- raise RefusedChunk(e) -/
def tRaiseRC (C : Addr) (W : WX) (ta : TA) : TS := fun _ σ H => tMkRC C ta σ H fun cls d H' => W cls d σ H'
theorem ps_raiseRC {a : Expr} {ta : TA} {W : WX} {p pos pos2 : Pos} {k : Nat} (hc : X.calm = true) (T : RC.Facts X.prog X.K X.mg C fI) (hr : Room k X.A) (tk : Takes X W) (ha : PA X [a] ta) (hg : Gl X "RefusedChunk" := by rfl)
    (he : starEach (a :: []) X.env = (false, eval a X.env) :: starEach [] X.env := by rfl) (hpl : (backTo pos (starEach [] X.env)).any (·.1) = false := by rfl) :
    PS X (.Raise (some (.Call (.Name "RefusedChunk" p) [a] [] pos)) none pos2) (tRaiseRC C W ta) := ps_raise hc tk (pmk_rc T hr ha hg he hpl)
/-- e.position, e the exception that the suite holds (at a; its class cls, its dict d) -/
def tPosRC (C : Addr) (a : Addr) (cls : Value) (d : Option Addr) (te : TE) : TE := fun σ H Q => te σ H fun x H1 => x = .ref a ∧ cls = .ref C ∧ ∃ (dd : Addr) (v : V), d = some dd ∧ H1 dd = some (.xd [(("position" : Str), v)]) ∧ Q v H1
theorem pe_posRC {a : Addr} {oe : Obj} {cls : Value} {d : Option Addr} {pn : List (Addr × Obj)} {e : Expr} {te : TE} {pos : Pos} (T : RC.Facts X.prog X.K X.mg C fI) (hz : Zc cls d oe) (hf : ∃ vs, oe.data = .fields vs) (he : PE (X.suite a ((a, oe) :: pn)) e te)
    (hb : attributeBase e "position" X.env (eval e X.env) = eval e X.env := by rfl) :
    PE (X.suite a ((a, oe) :: pn)) (.Attribute e "position" pos) (tPosRC C a cls d te) := by
  refine ⟨fun pins s σ H Q I h => ?_⟩
  refine attr_of hb (thn (he.run pins s σ H _ I h) fun u s1 hh => ?_)
  obtain ⟨x, H1, I1, rx, ex, ec, dd, v, ed, ea, q⟩ := hh
  subst ex
  obtain rfl : u = Value.ref a := rx
  subst ec
  subst ed
  obtain ⟨ha, _⟩ := I1.pin (a, oe) (List.mem_append_left _ List.mem_cons_self)
  obtain ⟨vs, hd⟩ := hf
  have hx : ObjOk X.prog X.w H1 s1.heap dd (.xd [(("position" : Str), v)]) := I1.hok dd _ ea
  obtain ⟨mA, hns, hr⟩ := hx
  obtain ⟨od, ho, hl⟩ := lookIn_ns hns
  have l : List.lookup ("position" : Str) [(("position" : Str), v)] = some v := by simp [List.lookup]
  obtain ⟨u, hu, ru⟩ := RelO.some_of (v := v) (o := mA "position") (by rw [← l]; exact hr "position")
  have J : PySem.W.InstAt s1.heap a oe C (some od) := ⟨ha, hz.1, by unfold PySem.W.notCls; rw [hd] <;> rfl, by rw [hz.2]; exact ho⟩
  exact HandSPX.exc_get I1.kIn J T.ga T.gg T.exC (PySem.W.findObj_own T.hdC T.noN rfl (by rw [hl, hu])) (handed_of ru) ⟨v, H1, I1.tok _, ru, q⟩
end
end L2
namespace PySem.W
open PySem PySem.Spec PySem.Calls PyProof.Rows
section
variable {prog : Program} {w : World} {A : Around} {E : Value → Shared → Prop} {s : Shared} {K : Frag} {x D : Addr} {ox : Obj} {od : Option Obj}
/-! isinstance of a caught error that has fields -/
/-- where the class of the caught error says that __class__ is found -/
theorem rc_found (c : L2.ExcC K D) : findObj K D od "__class__" = some (.bind (.builtin "getset_descriptor.__get__") (.builtin "object.__class__")) := by
  obtain ⟨cd, hcd, -⟩ := any_some c.hd
  simp [findObj, hcd, c.ha, c.hn, c.ht]
/-- the two questions of the way by its own __getattribute__ -/
theorem rc_no : (Value.builtin "BaseException.__getattribute__" == Value.builtin "object.__getattribute__") = false := by decide +kernel
/-- object.__getattribute__(x, "__class__") -/
theorem rc_slot {tk : Tok} {Q : Fin → Shared → Prop} (c : L2.ExcC K D) (X : K.In s.heap) (I : InstAt s.heap x ox D od) (h : Q (.done (.ret (.ref D))) s) : wpAny (model prog w) A (Builtin.«object.__getattribute__» ⟨[.ref x, .str "__class__" tk], []⟩) Q E s := by
  have ty := I.type (M := model prog w)
  have fd := looks_find (M := model prog w) X I (rc_found c)
  cases s
  simp only [Builtin.«object.__getattribute__»]
  apply wpAny_bind; apply wpAny_of_eq (a := ((Value.ref x : Value), [Value.str "__class__" tk])) (by simp only [slotArgs]; rfl)
  apply wpAny_bind; apply wpAny_pure; apply wpAny_bind; apply ty.at; apply wpAny_bind; apply fd.at
  apply wpAny_bind (m := holding [Value.builtin "object.__class__"] (call (.builtin "getset_descriptor.__get__") [.builtin "object.__class__", .ref x, .ref D]))
  apply wpAny_holding; apply wpAny_call; apply class_get X I c.hm
  exact wpAny_pure h
/-- the same by BaseException.__getattribute__ -/
theorem rc_code {tk : Tok} {R : Result → Shared → Prop} (c : L2.ExcC K D) (X : K.In s.heap) (I : InstAt s.heap x ox D od) (h : R (.ok (.ret (.ref D))) s) : codeAny (model prog w) A (.call (.builtin "BaseException.__getattribute__") ⟨[.ref x, .str "__class__" tk], []⟩) R s := by
  have sb : Looks (model prog w) s.heap (isInstance (.ref x) (.type "BaseException")) true := (I.type (M := model prog w)).andThen (looks_subIn X c.hs)
  obtain ⟨hp, gs, dr, ts, o⟩ := s
  apply codeAny_call_builtin PySem.F.excAttr_ValueError.ga.plain PySem.F.entry_bexc_ga
  exact @check_slot _ _ _ ⟨hp, gs, dr, ts, o⟩ "BaseException.__getattribute__" "BaseException" "__getattribute__" _ [.str "__class__" tk] [] _ (by decide +kernel) (by decide +kernel) sb (PySem.F.args_bexc_ga _ _) (rc_slot c X I h)
/-- x.__class__ -/
theorem rc_classE {Q : Option Value → Shared → Prop} (c : L2.ExcC K D) (X : K.In s.heap) (I : InstAt s.heap x ox D od) (h : Q (some (.ref D)) { s with toks := s.toks + 1 }) : wpAny (model prog w) A (getAttr? (.ref x) "__class__") Q E s := by
  obtain ⟨hp, gs, dr, ts, o⟩ := s
  have ty : Looks (model prog w) hp _ _ := I.type
  have ga := looks_findIn (M := model prog w) X c.hg
  have gt := looks_findIn (M := model prog w) X c.hk
  simp only [getAttr?, getAttrBy?, getAttrBy]
  apply wpAny_bind; apply wpAny_mkText; apply wpAny_bind; apply wpAny_attempt; apply wpAny_holding
  apply wpAny_bind; apply ty.at; apply wpAny_bind; apply ga.at
  dsimp only
  rw [rc_no, Bool.and_false, if_neg Bool.false_ne_true]
  simp only [getAttrByItsOwn, hookBefore]
  apply wpAny_bind; rw [if_pos (by rfl)]; apply gt.at
  apply wpAny_bind; apply wpAny_attempt; apply wpAny_holding
  simp only [callGetattribute, boundAndCalled]
  rw [PySem.F.excAttr_ValueError.ga.bind (.ref x)]
  rw [Bool.false_and, if_neg Bool.false_ne_true]
  apply wpAny_bind; apply wpAny_pure
  apply wpAny_call (pos := [Value.ref x, Value.str "__class__" ts])
  apply rc_code (s := ⟨hp, gs, dr, ts + 1, o⟩) c X I
  dsimp only
  rw [handedOut_of (v := Value.ref D) (by rfl)]
  exact wpAny_pure (wpAny_pure h)
/-- its instances asked -/
theorem rc_kit (c : L2.ExcC K D) : KitX K (.ref x) (.ref D) (fun h => ∃ od, InstAt h x ox D od) := by
  obtain ⟨cd, hcd, -⟩ := any_some c.hd
  obtain ⟨oD, ho, hdat⟩ : ∃ oD, K.lookup D = some oD ∧ ∃ c', oD.data = .cls c' := by
    unfold clsIn at hcd
    split at hcd
    · rename_i c' d' cd' sl' ho
      exact ⟨_, ho, _, rfl⟩
    · cases hcd
  obtain ⟨c', hdat⟩ := hdat
  refine ⟨fun _ _ _ ⟨_, I⟩ => I.type, fun _ _ X _ => ?_, fun h tp dd its n sl X ht => ?_, fun X ⟨_, I⟩ k => rc_classE c X I k⟩
  · intro A' Q' E' s' k q
    obtain ⟨oc, od, oda, osl⟩ := oD
    cases hdat
    simp only [isType, loadHead]
    apply wpAny_bind; apply wpAny_loadPart (k _ _ (X _ _ ho)); exact wpAny_pure q
  · by_cases e : D = tp
    · subst e
      rw [X _ _ ho] at ht
      cases ht
      cases hdat
    · simpa using e
end
end PySem.W
namespace L2
open PySem PySem.Spec PyProof.Rows
/-- isinstance(e, c), e the exception that the suite holds, which has fields -/
def rIsF (K : PySem.W.Frag) (D a : Addr) (cls : Value) (d : Option Addr) : List V → Hp → VK → Prop := fun xs H Q => ∃ (c : V) (cv : Value) (b : Bool) (dd : Addr) (fs : List (Str × V)), xs = [.ref a, c] ∧ cls = .ref D ∧ d = some dd ∧ H dd = some (.xd fs) ∧ (∀ u, RelV c u → u = cv) ∧ PySem.W.kitOne K (.ref D) cv = some b ∧ Q (.bl b) H
theorem call_isF {X : Cx} {a D : Addr} {oe : Obj} {cls : Value} {d : Option Addr} {pn : List (Addr × Obj)} (C : ExcC X.K D) (hz : Zc cls d oe) (hf : ∃ vs, oe.data = .fields vs) : CallR (X.suite a ((a, oe) :: pn)) (.builtin "isinstance") (rIsF X.K D a cls d) := by
  intro pins s σ H xs us Q I r h
  obtain ⟨c, cv, b, dd, fs, rfl, rfl, rfl, hd, hcv, e, q⟩ := h
  cases r with
  | cons rx rr =>
    cases rr with
    | cons rt rr =>
      cases rr
      cases rx
      have ec := hcv _ rt
      subst ec
      have hget := (I.pin (a, oe) (List.mem_append_left pins List.mem_cons_self)).1
      obtain ⟨vs, hv⟩ := hf
      have hx : ObjOk X.prog X.w H s.heap dd (.xd fs) := I.hok dd _ hd
      obtain ⟨mA, hns, hr⟩ := hx
      obtain ⟨od, ho, hl⟩ := lookIn_ns hns
      have J : PySem.W.InstAt s.heap a oe D (some od) := ⟨hget, hz.1, by unfold PySem.W.notCls; rw [hv] <;> rfl, by rw [hz.2]; exact ho⟩
      exact PySem.W.kia_one (PySem.W.rc_kit C) I.kIn ⟨_, J⟩ e (fun z => nomatch z) fun tk => ⟨.bl b, H, I.kept (t' := tk) fun _ _ z => z, rfl, q⟩
end L2
namespace Q23
/-! ## the mathematics of tokens -/
def isLow (c : Nat) : Bool := decide (97 ≤ c) && decide (c ≤ 122)
def isUp (c : Nat) : Bool := decide (65 ≤ c) && decide (c ≤ 90)
def isDig (c : Nat) : Bool := decide (48 ≤ c) && decide (c ≤ 57)
def isLet (c : Nat) : Bool := isLow c || isUp c
def isWord (c : Nat) : Bool := isLow c || isUp c || isDig c || decide (c = 95)
def isBlank (c : Nat) : Bool := decide (c = 32) || decide (c = 10)
def longs : List (List Nat) := [[43, 43], [58, 58], [45, 62], [58, 61]]
def shorts : List Nat := [40, 41, 91, 93, 44, 59, 124, 61, 60, 43, 45, 42, 47, 58]
def signs : List (List Nat) := shorts.map (fun c => [c]) ++ longs
/-- quotes doubled -/
def enc : List Nat → List Nat
  | [] => []
  | c :: r => if c = 39 then 39 :: 39 :: enc r else c :: enc r
/-- a value: a text or a number -/
inductive Val
  | s (l : List Nat)
  | n (k : Nat)
inductive Kind
  | keyword | name | maker | number | text | sign
/-- the kind of a word -/
def kindOf (kws : List (List Nat)) (w : List Nat) : Kind := if (w.head?.map isUp).getD false then .maker else if w ∈ kws then .keyword else .name
/-- a written token: its kind, its value -/
inductive Lex (kws : List (List Nat)) (dv : List Nat → Nat) : List Nat → Kind → Val → Prop
  | word (c : Nat) (s : List Nat) : isLet c = true → (∀ x ∈ s, isWord x = true) → Lex kws dv (c :: s) (kindOf kws (c :: s)) (.s (c :: s))
  | num (w : List Nat) : w ≠ [] → (∀ x ∈ w, isDig x = true) → w.length ≤ 18 → Lex kws dv w .number (.n (dv w))
  | quo (x : List Nat) : Lex kws dv (39 :: (enc x ++ [39])) .text (.s x)
  | sign (w : List Nat) : w ∈ signs → Lex kws dv w .sign (.s w)
/-- what may stand behind the token w -/
def Sep (w rest : List Nat) : Prop :=
  match w with
  | [] => True
  | c :: s => (isLet c = true → ∀ d, rest.head? = some d → isWord d = false) ∧ (isDig c = true → ∀ d, rest.head? = some d → isDig d = false) ∧ (c = 39 → rest.head? ≠ some 39) ∧
      (isLet c = false → isDig c = false → c ≠ 39 → s = [] → ∀ d, rest.head? = some d → [c, d] ∉ longs)
/-- nothing starts here -/
inductive BadAt : List Nat → Prop
  | num (w r : List Nat) : (∀ x ∈ w, isDig x = true) → 18 < w.length → BadAt (w ++ r)
  | quo (x : List Nat) : BadAt (39 :: enc x)
  | odd (c : Nat) (r : List Nat) : isLet c = false → isDig c = false → c ≠ 39 → isBlank c = false → c ∉ shorts → (∀ d, [c, d] ∉ longs) → BadAt (c :: r)
section
variable {kws : List (List Nat)} {dv : List Nat → Nat}
/-- the tokens of a text that begins at off -/
inductive Toks (kws : List (List Nat)) (dv : List Nat → Nat) : Nat → List Nat → List (Kind × Val × Nat) → Prop
  | nil (off : Nat) : Toks kws dv off [] []
  | blank {off c : Nat} {r : List Nat} {L : List (Kind × Val × Nat)} : isBlank c = true → Toks kws dv (off + 1) r L → Toks kws dv off (c :: r) L
  | tok {off : Nat} {w r : List Nat} {k : Kind} {v : Val} {L : List (Kind × Val × Nat)} : Lex kws dv w k v → Sep w r → Toks kws dv (off + w.length) r L → Toks kws dv off (w ++ r) ((k, v, off) :: L)
/-- a text that begins at off is refused at p -/
inductive Bad (kws : List (List Nat)) (dv : List Nat → Nat) : Nat → List Nat → Nat → Prop
  | here {off : Nat} {u : List Nat} : BadAt u → Bad kws dv off u off
  | blank {off c p : Nat} {r : List Nat} : isBlank c = true → Bad kws dv (off + 1) r p → Bad kws dv off (c :: r) p
  | tok {off p : Nat} {w r : List Nat} {k : Kind} {v : Val} : Lex kws dv w k v → Sep w r → Bad kws dv (off + w.length) r p → Bad kws dv off (w ++ r) p
theorem blanks_toks : ∀ (g : List Nat) (off : Nat) (r : List Nat) (L : List (Kind × Val × Nat)), (∀ c ∈ g, isBlank c = true) → Toks kws dv (off + g.length) r L → Toks kws dv off (g ++ r) L
  | [], off, r, L, _, h => h
  | c :: g, off, r, L, hg, h => by
    refine .blank (hg c (List.mem_cons_self ..)) (blanks_toks g (off + 1) r L (fun x hx => hg x (List.mem_cons_of_mem _ hx)) ?_)
    have e : off + 1 + g.length = off + (c :: g).length := by simp; omega
    rw [e]
    exact h
theorem blanks_bad : ∀ (g : List Nat) (off : Nat) (r : List Nat) (p : Nat), (∀ c ∈ g, isBlank c = true) → Bad kws dv (off + g.length) r p → Bad kws dv off (g ++ r) p
  | [], off, r, L, _, h => h
  | c :: g, off, r, L, hg, h => by
    refine .blank (hg c (List.mem_cons_self ..)) (blanks_bad g (off + 1) r L (fun x hx => hg x (List.mem_cons_of_mem _ hx)) ?_)
    have e : off + 1 + g.length = off + (c :: g).length := by simp; omega
    rw [e]
    exact h
theorem lex_ne {w : List Nat} {k : Kind} {v : Val} (h : Lex kws dv w k v) : w ≠ [] := by
  cases h with
  | word c s _ _ => simp
  | num w h1 _ _ => exact h1
  | quo x => simp
  | sign w h => intro e; subst e; revert h; decide
theorem blank_not {c : Nat} (h : isBlank c = true) : isWord c = false ∧ isDig c = false ∧ c ≠ 39 ∧ c ≠ 62 ∧ c ≠ 43 ∧ c ≠ 58 ∧ c ≠ 61 := by
  simp only [isBlank, Bool.or_eq_true, decide_eq_true_eq] at h
  rcases h with rfl | rfl <;> decide
theorem longs_snd {c d : Nat} (h : [c, d] ∈ longs) : (c = 43 ∧ d = 43) ∨ (c = 58 ∧ d = 58) ∨ (c = 45 ∧ d = 62) ∨ (c = 58 ∧ d = 61) := by
  simp only [longs, List.mem_cons, List.cons.injEq, List.not_mem_nil, or_false, and_true] at h
  omega
/-- a blank may stand behind everything -/
theorem sep_blank (w : List Nat) {c : Nat} {r : List Nat} (h : isBlank c = true) : Sep w (c :: r) := by
  obtain ⟨b1, b2, b3, b4, b5, b6, b7⟩ := blank_not h
  cases w with
  | nil => trivial
  | cons x s =>
    refine ⟨fun _ d hd => ?_, fun _ d hd => ?_, fun _ hd => ?_, fun _ _ _ _ d hd hl => ?_⟩
    · cases hd; exact b1
    · cases hd; exact b2
    · cases hd; exact b3 rfl
    · cases hd
      have := longs_snd hl
      omega
theorem sep_nil (w : List Nat) : Sep w [] := by
  cases w with
  | nil => trivial
  | cons x s => exact ⟨fun _ d hd => by simp at hd, fun _ d hd => by simp at hd, fun _ => by simp, fun _ _ _ _ d hd => by simp at hd⟩
/-- would two tokens be read as one -/
def joinsC (c d : Nat) (b : Bool) : Bool := if isLet c = true then isWord d else if isDig c = true then isDig d else if c = 39 then decide (d = 39) else b && decide (d = 43 ∨ d = 58 ∨ d = 61)
def joins (p w : List Nat) : Bool := joinsC (p.headD 0) (w.headD 0) (decide (p = [43] ∨ p = [58]))
theorem lex_head {w : List Nat} {k : Kind} {v : Val} (h : Lex kws dv w k v) : w.headD 0 ≠ 62 := by
  cases h with
  | word c s h1 _ =>
    intro e
    simp only [List.headD_cons] at e
    subst e
    revert h1
    decide
  | num w h1 h2 _ =>
    cases w with
    | nil => exact absurd rfl h1
    | cons c s =>
      intro e
      simp only [List.headD_cons] at e
      subst e
      have := h2 62 (List.mem_cons_self ..)
      revert this
      decide
  | quo x => simp
  | sign w h => revert w; decide
theorem sep_of_joins {p w : List Nat} {k : Kind} {v : Val} (h : Lex kws dv w k v) (hj : joins p w = false) (r : List Nat) : Sep p (w ++ r) := by
  have hw := lex_ne h
  have h62 := lex_head h
  obtain ⟨d, s, rfl⟩ := List.exists_cons_of_ne_nil hw
  cases p with
  | nil => trivial
  | cons c t =>
    have hj : joinsC c d (decide (c :: t = [43] ∨ c :: t = [58])) = false := hj
    unfold joinsC at hj
    simp only [List.headD_cons] at h62
    refine ⟨fun h1 x hx => ?_, fun h1 x hx => ?_, fun h1 hx => ?_, fun h1 h2 h3 h4 x hx hl => ?_⟩
    · cases hx
      rw [if_pos h1] at hj
      exact hj
    · cases hx
      have h0 : ¬ isLet c = true := by
        simp only [isLet, isLow, isUp, isDig, Bool.or_eq_true, Bool.and_eq_true, decide_eq_true_eq] at h1 ⊢
        omega
      rw [if_neg h0, if_pos h1] at hj
      exact hj
    · cases hx
      subst h1
      rw [if_neg (by decide), if_neg (by decide), if_pos rfl] at hj
      revert hj
      decide
    · cases hx
      subst h4
      rw [if_neg (by rw [h1]; decide), if_neg (by rw [h2]; decide), if_neg h3] at hj
      have := longs_snd hl
      rcases this with ⟨rfl, rfl⟩ | ⟨rfl, rfl⟩ | ⟨rfl, rfl⟩ | ⟨rfl, rfl⟩
      · revert hj; decide
      · revert hj; decide
      · exact h62 rfl
      · revert hj; decide
/-- so far: the text, its tokens, the last token -/
def SoFar (kws : List (List Nat)) (dv : List Nat → Nat) (T : List Nat) (L : List (Kind × Val × Nat)) (p : List Nat) : Prop :=
  (∀ r M, Sep p r → Toks kws dv T.length r M → Toks kws dv 0 (T ++ r) (L ++ M)) ∧ ∀ r q, Sep p r → Bad kws dv T.length r q → Bad kws dv 0 (T ++ r) q
theorem sofar_start (g : List Nat) (hg : ∀ c ∈ g, isBlank c = true) : SoFar kws dv g [] [32] :=
  ⟨fun r M _ h => blanks_toks g 0 r M hg (by simpa using h), fun r q _ h => blanks_bad g 0 r q hg (by simpa using h)⟩
theorem sep_gap {p g w : List Nat} {k : Kind} {v : Val} (r : List Nat) (hg : ∀ c ∈ g, isBlank c = true) (hw : Lex kws dv w k v) (hj : joins p w = true → g ≠ []) : Sep p (g ++ (w ++ r)) := by
  cases g with
  | nil =>
    cases hb : joins p w with
    | true => exact absurd rfl (hj hb)
    | false => exact sep_of_joins hw hb r
  | cons c g => exact sep_blank p (hg c (List.mem_cons_self ..))
theorem sofar_step {T g w p : List Nat} {L : List (Kind × Val × Nat)} {k : Kind} {v : Val} (h : SoFar kws dv T L p) (hg : ∀ c ∈ g, isBlank c = true) (hw : Lex kws dv w k v) (hj : joins p w = true → g ≠ []) :
    SoFar kws dv (T ++ g ++ w) (L ++ [(k, v, (T ++ g).length)]) w := by
  refine ⟨fun r M hs ht => ?_, fun r q hs ht => ?_⟩
  · have e1 : T ++ g ++ w ++ r = T ++ (g ++ (w ++ r)) := by simp
    have e2 : L ++ [(k, v, (T ++ g).length)] ++ M = L ++ ((k, v, (T ++ g).length) :: M) := by simp
    rw [e1, e2]
    refine h.1 _ _ (sep_gap r hg hw hj) (blanks_toks g _ _ _ hg ?_)
    have e3 : T.length + g.length = (T ++ g).length := by simp
    rw [e3]
    refine .tok hw hs ?_
    have e4 : (T ++ g).length + w.length = (T ++ g ++ w).length := by simp; omega
    rw [e4]
    exact ht
  · have e1 : T ++ g ++ w ++ r = T ++ (g ++ (w ++ r)) := by simp
    rw [e1]
    refine h.2 _ _ (sep_gap r hg hw hj) (blanks_bad g _ _ _ hg ?_)
    have e3 : T.length + g.length = (T ++ g).length := by simp
    rw [e3]
    refine .tok hw hs ?_
    have e4 : (T ++ g).length + w.length = (T ++ g ++ w).length := by simp; omega
    rw [e4]
    exact ht
theorem sep_blanks (p g : List Nat) (hg : ∀ c ∈ g, isBlank c = true) : Sep p g := by
  cases g with
  | nil => exact sep_nil p
  | cons c g => exact sep_blank p (hg c (List.mem_cons_self ..))
theorem sofar_end {T g p : List Nat} {L : List (Kind × Val × Nat)} (h : SoFar kws dv T L p) (hg : ∀ c ∈ g, isBlank c = true) : Toks kws dv 0 (T ++ g) L := by
  have := h.1 g [] (sep_blanks p g hg) (by
    have := blanks_toks (kws := kws) (dv := dv) g T.length [] [] hg (.nil _)
    simpa using this)
  simpa using this
theorem sofar_bad {T g p u : List Nat} {L : List (Kind × Val × Nat)} (h : SoFar kws dv T L p) (hg : ∀ c ∈ g, isBlank c = true) (hb : BadAt u) : Bad kws dv 0 (T ++ g ++ [32] ++ u) (T ++ g ++ [32]).length := by
  have e : T ++ g ++ [32] ++ u = T ++ ((g ++ [32]) ++ u) := by simp
  rw [e]
  have hg' : ∀ c ∈ g ++ [32], isBlank c = true := fun c hc => by
    rcases List.mem_append.mp hc with hc | hc
    · exact hg c hc
    · rw [List.mem_singleton.mp hc]; decide
  refine h.2 _ _ ?_ (blanks_bad _ _ _ _ hg' ?_)
  · cases g with
    | nil => exact sep_blank p (by decide)
    | cons c g => exact sep_blank p (hg c (List.mem_cons_self ..))
  · have e3 : T.length + (g ++ [32]).length = (T ++ g ++ [32]).length := by simp [Nat.add_assoc]
    rw [e3]
    exact .here hb
/-! ### runs -/
theorem run_take {f : Nat → Bool} : ∀ (w r : List Nat), (∀ x ∈ w, f x = true) → (∀ d, r.head? = some d → f d = false) → (w ++ r).takeWhile f = w
  | [], [], _, _ => rfl
  | [], d :: r, _, h => by
    have := h d rfl
    simp [this]
  | c :: w, r, hw, h => by
    have hc := hw c (List.mem_cons_self ..)
    simp only [List.cons_append, List.takeWhile_cons, hc, if_true]
    rw [run_take w r (fun x hx => hw x (List.mem_cons_of_mem _ hx)) h]
theorem run_ge {f : Nat → Bool} : ∀ (w r : List Nat), (∀ x ∈ w, f x = true) → w.length ≤ ((w ++ r).takeWhile f).length
  | [], r, _ => Nat.zero_le _
  | c :: w, r, hw => by
    have hc := hw c (List.mem_cons_self ..)
    simp only [List.cons_append, List.takeWhile_cons, hc, if_true, List.length_cons]
    have := run_ge w r (fun x hx => hw x (List.mem_cons_of_mem _ hx))
    omega
end
end Q23
/-! a written dict of the module told at once: its values tuples of pairs of texts, or numbers -/
namespace GR
open PySem PySem.Spec PyProof.Rows L2 SX
def pairW (K : PySem.W.Frag) : Value → Option (Str × Str)
  | .ref b => match K.lookup b with
    | some ⟨.type c, _, .seq ws _, _⟩ => match ws.toList with
      | [.str x _, .str y _] => if c = "tuple" then some (x, y) else none
      | _ => none
    | _ => none
  | _ => none
def allW {α : Type} (f : Value → Option α) : List Value → Option (List α)
  | [] => some []
  | v :: r => match f v with
    | some x => match allW f r with
      | some xs => some (x :: xs)
      | none => none
    | none => none
def rowsW (K : PySem.W.Frag) : Value → Option (List (Str × Str))
  | .ref b => match K.lookup b with
    | some ⟨.type c, _, .seq ws _, _⟩ => if c = "tuple" then allW (pairW K) ws.toList else none
    | _ => none
  | _ => none
def intW : Value → Option Int
  | .int i _ => some i
  | _ => none
def entsW {α : Type} (f : Value → Option α) : List DictEntry → Option (List (Str × α))
  | [] => some []
  | ⟨_, .str x _, v⟩ :: r => match f v with
    | some y => match entsW f r with
      | some ys => some ((x, y) :: ys)
      | none => none
    | none => none
  | _ => none
def dictW {α : Type} (f : Value → Option α) (K : PySem.W.Frag) (a : Addr) : Option (List (Str × α)) := match K.lookup a with
  | some ⟨_, _, .dict es _, _⟩ => entsW f es.toList
  | _ => none
theorem ents_in {α : Type} {f : Value → Option α} (z : Str) : ∀ {es : List DictEntry} {g : List (Str × α)}, entsW f es = some g →
    (∀ y, g.lookup z = some y → ∃ e, es.find? (·.key.isStr z) = some e ∧ f e.val = some y) ∧ (g.lookup z = none → es.find? (·.key.isStr z) = none ∧ es.any (·.refKey) = false)
  | [], g, h => by
    obtain rfl := Option.some.inj h
    exact ⟨fun y e => (nomatch e), fun _ => ⟨rfl, rfl⟩⟩
  | ⟨hs, k, v⟩ :: r, g, h => by
    cases k with
    | str x t =>
      unfold entsW at h
      cases q : f v with
      | none => rw [q] at h; cases h
      | some y =>
        rw [q] at h
        dsimp only at h
        cases q2 : entsW f r with
        | none => rw [q2] at h; cases h
        | some ys =>
          rw [q2] at h
          obtain rfl := Option.some.inj h
          obtain ⟨i1, i2⟩ := ents_in z q2
          have e0 : (Value.str x t).isStr z = (x == z) := rfl
          by_cases hz : x = z
          · subst hz
            have e1 : (x == x) = true := beq_self_eq_true x
            refine ⟨fun y' e => ⟨⟨hs, .str x t, v⟩, ?_, ?_⟩, fun e => ?_⟩
            · rw [List.find?_cons]
              dsimp only
              rw [e0, e1]
            · rw [List.lookup_cons, e1] at e
              rw [q]
              exact e
            · rw [List.lookup_cons, e1] at e
              cases e
          · have e1 : (x == z) = false := by
              rw [beq_eq_false_iff_ne]
              exact hz
            have e2 : (z == x) = false := by
              rw [beq_eq_false_iff_ne]
              exact fun h => hz h.symm
            refine ⟨fun y' e => ?_, fun e => ?_⟩
            · rw [List.lookup_cons, e2] at e
              obtain ⟨en, h1, h2⟩ := i1 y' e
              refine ⟨en, ?_, h2⟩
              rw [List.find?_cons]
              dsimp only
              rw [e0, e1]
              exact h1
            · rw [List.lookup_cons, e2] at e
              obtain ⟨h1, h2⟩ := i2 e
              refine ⟨?_, ?_⟩
              · rw [List.find?_cons]
                dsimp only
                rw [e0, e1]
                exact h1
              · rw [List.any_cons, h2, Bool.or_false]
                rfl
    | _ => cases h
theorem dict_in {α : Type} {f : Value → Option α} {K : PySem.W.Frag} {a : Addr} {g : List (Str × α)} (h : dictW f K a = some g) (z : Str) :
    (∀ y, g.lookup z = some y → ∃ v, PySem.W.nsIn K a z = some (some v) ∧ f v = some y) ∧ (g.lookup z = none → PySem.W.nsIn K a z = some none) := by
  unfold dictW at h
  unfold PySem.W.nsIn
  split at h
  · rename_i c d es n sl q
    rw [q]
    dsimp only
    obtain ⟨i1, i2⟩ := ents_in z h
    refine ⟨fun y e => ?_, fun e => ?_⟩
    · obtain ⟨en, h1, h2⟩ := i1 y e
      rw [h1]
      exact ⟨_, rfl, h2⟩
    · obtain ⟨h1, h2⟩ := i2 e
      rw [h1, h2]
      rfl
  · cases h
theorem pair_in {K : PySem.W.Frag} {v : Value} {x y : Str} (h : pairW K v = some (x, y)) : ∃ b, v = .ref b ∧ ∀ H : Hp, SqT K H b [.str x, .str y] := by
  unfold pairW at h
  split at h
  · rename_i b
    split at h
    · rename_i c d ws n sl q
      split at h
      · rename_i x' t y' t' q2
        split at h
        · rename_i hc
          obtain ⟨rfl, rfl⟩ := Prod.mk.inj (Option.some.inj h)
          subst hc
          refine ⟨b, rfl, fun H => .inr ⟨_, ws, n, q, rfl, rfl, ?_, ?_⟩⟩
          · rw [← Array.length_toList, q2]
            show 2 ≤ sizeLine
            decide
          · rw [q2]
            exact .cons ⟨_, rfl⟩ (.cons ⟨_, rfl⟩ .nil)
        · cases h
      · cases h
    · cases h
  · cases h
theorem all_in {K : PySem.W.Frag} : ∀ {vs : List Value} {rs : List (Str × Str)}, allW (pairW K) vs = some rs →
    ∃ ps : List Addr, ps.length = rs.length ∧ Vals (ps.map V.ref) vs ∧ ∀ (i : Nat) (b : Addr) (x y : Str), ps[i]? = some b → rs[i]? = some (x, y) → ∀ H : Hp, SqT K H b [.str x, .str y]
  | [], rs, h => by
    obtain rfl := Option.some.inj h
    exact ⟨[], rfl, .nil, fun i b x y e => by simp at e⟩
  | v :: r, rs, h => by
    unfold allW at h
    cases q : pairW K v with
    | none => rw [q] at h; cases h
    | some xy =>
      rw [q] at h
      dsimp only at h
      cases q2 : allW (pairW K) r with
      | none => rw [q2] at h; cases h
      | some ys =>
        rw [q2] at h
        obtain rfl := Option.some.inj h
        obtain ⟨x, y⟩ := xy
        obtain ⟨b, rfl, hb⟩ := pair_in q
        obtain ⟨ps, h1, h2, h3⟩ := all_in q2
        refine ⟨b :: ps, by simp [h1], .cons rfl h2, fun i c x' y' e1 e2 => ?_⟩
        cases i with
        | zero =>
          simp only [List.getElem?_cons_zero, Option.some.injEq, Prod.mk.injEq] at e1 e2
          obtain ⟨rfl, rfl⟩ := e2
          subst e1
          exact hb
        | succ i =>
          simp only [List.getElem?_cons_succ] at e1 e2
          exact h3 i c x' y' e1 e2
/-- at b: the rows, a tuple of pairs -/
def RowsT (K : PySem.W.Frag) (b : Addr) (rs : List (Str × Str)) : Prop :=
  ∃ ps : List Addr, ps.length = rs.length ∧ (∀ H : Hp, SqT K H b (ps.map V.ref)) ∧ ∀ (i : Nat) (c : Addr) (x y : Str), ps[i]? = some c → rs[i]? = some (x, y) → ∀ H : Hp, SqT K H c [.str x, .str y]
theorem rows_in {K : PySem.W.Frag} {v : Value} {rs : List (Str × Str)} (hl : rs.length ≤ 1000) (h : rowsW K v = some rs) : ∃ b, v = .ref b ∧ RowsT K b rs := by
  unfold rowsW at h
  split at h
  · rename_i b
    split at h
    · rename_i c d ws n sl q
      split at h
      · rename_i hc
        subst hc
        obtain ⟨ps, h1, h2, h3⟩ := all_in h
        refine ⟨b, rfl, ps, h1, fun H => .inr ⟨_, ws, n, q, rfl, rfl, ?_, h2⟩, h3⟩
        have := h2.length
        have e1 : (ps.map V.ref).length = ps.length := List.length_map _
        have e2 : ws.toList.length = ws.size := rfl
        have hz : 1000 ≤ sizeLine := by decide
        omega
      · cases h
    · cases h
  · cases h
theorem int_in {v : Value} {i : Int} (h : intW v = some i) : ∃ t, v = .int i t := by
  unfold intW at h
  split at h
  · obtain rfl := Option.some.inj h
    exact ⟨_, rfl⟩
  · cases h
end GR
namespace Q23
open PySem
def gram : List (Str × List (Str × Str)) :=
  (("<definition>" : Str), ([(("data" : Str), ("data NAME = !none <maker> <makers> !data" : Str)), (("fun" : Str), ("fun NAME ( !none <names> ) = <expression> !fun" : Str)), (("cell" : Str), ("cell NAME : <kind> = <expression> <turn> !cell" : Str)), (("view" : Str), ("view NAME = <expression> !view" : Str)), (("act" : Str), ("act NAME ( !none <names> ) = !none <settings> then <expression> !act" : Str))] : List (Str × Str))) ::
  (("<maker>" : Str), ([(("" : Str), ("MAKER !none <fields> !pair !item" : Str))] : List (Str × Str))) ::
  (("<makers>" : Str), ([(("|" : Str), ("| <maker> <makers>" : Str)), (("" : Str), ("" : Str))] : List (Str × Str))) ::
  (("<fields>" : Str), ([(("(" : Str), ("( <kinds> )" : Str)), (("" : Str), ("" : Str))] : List (Str × Str))) ::
  (("<kinds>" : Str), ([((")" : Str), ("" : Str)), (("" : Str), ("<kind> !item <more-kinds>" : Str))] : List (Str × Str))) ::
  (("<more-kinds>" : Str), ([(("," : Str), (", <kind> !item <more-kinds>" : Str)), (("" : Str), ("" : Str))] : List (Str × Str))) ::
  (("<kind>" : Str), ([(("list" : Str), ("list <kind> !level" : Str)), (("num text bool NAME" : Str), ("TAKE !kind" : Str))] : List (Str × Str))) ::
  (("<names>" : Str), ([(("NAME" : Str), ("NAME !item <more-names>" : Str)), (("" : Str), ("" : Str))] : List (Str × Str))) ::
  (("<more-names>" : Str), ([(("," : Str), (", NAME !item <more-names>" : Str)), (("" : Str), ("" : Str))] : List (Str × Str))) ::
  (("<turn>" : Str), ([(("turn" : Str), ("turn NAME" : Str)), (("" : Str), ("!nothing" : Str))] : List (Str × Str))) ::
  (("<settings>" : Str), ([(("NAME" : Str), ("<setting> <more-settings>" : Str)), (("" : Str), ("" : Str))] : List (Str × Str))) ::
  (("<setting>" : Str), ([(("" : Str), ("NAME := <expression> !pair !item" : Str))] : List (Str × Str))) ::
  (("<more-settings>" : Str), ([(("," : Str), (", <setting> <more-settings>" : Str)), (("" : Str), ("" : Str))] : List (Str × Str))) ::
  (("<expression>" : Str), ([(("if" : Str), ("if <expression> then <expression> else <expression> !if" : Str)), (("let" : Str), ("let NAME = <expression> in <expression> !let" : Str)), (("" : Str), ("<or>" : Str))] : List (Str × Str))) ::
  (("<or>" : Str), ([(("" : Str), ("<and> <more-or>" : Str))] : List (Str × Str))) ::
  (("<more-or>" : Str), ([(("or" : Str), ("TAKE <and> !binary <more-or>" : Str)), (("" : Str), ("" : Str))] : List (Str × Str))) ::
  (("<and>" : Str), ([(("" : Str), ("<not> <more-and>" : Str))] : List (Str × Str))) ::
  (("<more-and>" : Str), ([(("and" : Str), ("TAKE <not> !binary <more-and>" : Str)), (("" : Str), ("" : Str))] : List (Str × Str))) ::
  (("<not>" : Str), ([(("not" : Str), ("not <not> !not" : Str)), (("" : Str), ("<cons> <comparison>" : Str))] : List (Str × Str))) ::
  (("<comparison>" : Str), ([(("= <" : Str), ("TAKE <cons> !binary" : Str)), (("" : Str), ("" : Str))] : List (Str × Str))) ::
  (("<cons>" : Str), ([(("" : Str), ("<sum> <tail>" : Str))] : List (Str × Str))) ::
  (("<tail>" : Str), ([(("::" : Str), (":: <cons> !cons" : Str)), (("" : Str), ("" : Str))] : List (Str × Str))) ::
  (("<sum>" : Str), ([(("" : Str), ("<product> <more-sum>" : Str))] : List (Str × Str))) ::
  (("<more-sum>" : Str), ([(("+ - ++" : Str), ("TAKE <product> !binary <more-sum>" : Str)), (("" : Str), ("" : Str))] : List (Str × Str))) ::
  (("<product>" : Str), ([(("" : Str), ("<primary> <more-product>" : Str))] : List (Str × Str))) ::
  (("<more-product>" : Str), ([(("* / mod" : Str), ("TAKE <primary> !binary <more-product>" : Str)), (("" : Str), ("" : Str))] : List (Str × Str))) ::
  (("<primary>" : Str), ([(("NUMBER" : Str), ("NUMBER !number" : Str)), (("TEXT" : Str), ("TEXT !text" : Str)), (("true" : Str), ("true !true" : Str)), (("false" : Str), ("false !false" : Str)), (("NAME" : Str), ("NAME <call>" : Str)), (("MAKER" : Str), ("MAKER !none <make> !make" : Str)), (("[" : Str), ("[ !none <items> ] !list" : Str)), (("(" : Str), ("( <expression> )" : Str)), (("case" : Str), ("case <expression> of <choice> end" : Str))] : List (Str × Str))) ::
  (("<call>" : Str), ([(("(" : Str), ("( !none <items> ) !call" : Str)), (("" : Str), ("!name" : Str))] : List (Str × Str))) ::
  (("<make>" : Str), ([(("(" : Str), ("( <items> )" : Str)), (("" : Str), ("" : Str))] : List (Str × Str))) ::
  (("<items>" : Str), ([((") ]" : Str), ("" : Str)), (("" : Str), ("<expression> !item <more-items>" : Str))] : List (Str × Str))) ::
  (("<more-items>" : Str), ([(("," : Str), (", <expression> !item <more-items>" : Str)), (("" : Str), ("" : Str))] : List (Str × Str))) ::
  (("<choice>" : Str), ([(("[" : Str), ("[ ] -> <expression> ; NAME :: NAME -> <expression> !split" : Str)), (("" : Str), ("!none <arm> <more-arms> !match" : Str))] : List (Str × Str))) ::
  (("<arm>" : Str), ([(("" : Str), ("MAKER !none <arm-names> -> <expression> !triple !item" : Str))] : List (Str × Str))) ::
  (("<more-arms>" : Str), ([((";" : Str), ("; <arm> <more-arms>" : Str)), (("" : Str), ("" : Str))] : List (Str × Str))) ::
  (("<arm-names>" : Str), ([(("(" : Str), ("( <names> )" : Str)), (("" : Str), ("" : Str))] : List (Str × Str))) :: []
def trees : List (Str × Int) := (("!data" : Str), (2 : Int)) :: (("!fun" : Str), (3 : Int)) :: (("!cell" : Str), (4 : Int)) :: (("!view" : Str), (2 : Int)) :: (("!act" : Str), (4 : Int)) :: (("!number" : Str), (1 : Int)) :: (("!text" : Str), (1 : Int)) :: (("!name" : Str), (1 : Int)) :: (("!list" : Str), (1 : Int)) :: (("!cons" : Str), (2 : Int)) :: (("!not" : Str), (1 : Int)) :: (("!if" : Str), (3 : Int)) :: (("!let" : Str), (3 : Int)) :: (("!call" : Str), (2 : Int)) :: (("!make" : Str), (2 : Int)) :: (("!split" : Str), (5 : Int)) :: (("!match" : Str), (2 : Int)) :: []
def steps : List Str := ["!none", "!item", "!pair", "!triple", "!binary", "!true", "!false", "!nothing", "!kind", "!level"]
end Q23
namespace Q23
open PySem PySem.Spec PyProof.Rows L2 SX HL
def topS (i : Nat) : Stmt := PySem.Challenge.pw_quillrun_k23_operators_bind.main.body.getD i (.Pass ⟨0, 0, 0, 0⟩)
abbrev sPopped : Stmt := topS 2
theorem scPopped : FnScope ["values", "count", "found"] ["values", "count"] (defScope sPopped) := ⟨rfl, rfl, rfl, by decide +kernel, rfl, by decide +kernel, by decide +kernel⟩
abbrev sBeginItems : Stmt := topS 3
theorem scBeginItems : FnScope ["values"] ["values"] (defScope sBeginItems) := ⟨rfl, rfl, rfl, by decide +kernel, rfl, by decide +kernel, by decide +kernel⟩
abbrev sAddItem : Stmt := topS 4
theorem scAddItem : FnScope ["values", "items", "item"] ["values"] (defScope sAddItem) := ⟨rfl, rfl, rfl, by decide +kernel, rfl, by decide +kernel, by decide +kernel⟩
abbrev sJoinPair : Stmt := topS 5
theorem scJoinPair : FnScope ["values"] ["values"] (defScope sJoinPair) := ⟨rfl, rfl, rfl, by decide +kernel, rfl, by decide +kernel, by decide +kernel⟩
abbrev sJoinTriple : Stmt := topS 6
theorem scJoinTriple : FnScope ["values"] ["values"] (defScope sJoinTriple) := ⟨rfl, rfl, rfl, by decide +kernel, rfl, by decide +kernel, by decide +kernel⟩
abbrev sBuildBinary : Stmt := topS 7
theorem scBuildBinary : FnScope ["values", "first", "operator", "second"] ["values"] (defScope sBuildBinary) := ⟨rfl, rfl, rfl, by decide +kernel, rfl, by decide +kernel, by decide +kernel⟩
abbrev sBuildTrue : Stmt := topS 8
theorem scBuildTrue : FnScope ["values"] ["values"] (defScope sBuildTrue) := ⟨rfl, rfl, rfl, by decide +kernel, rfl, by decide +kernel, by decide +kernel⟩
abbrev sBuildFalse : Stmt := topS 9
theorem scBuildFalse : FnScope ["values"] ["values"] (defScope sBuildFalse) := ⟨rfl, rfl, rfl, by decide +kernel, rfl, by decide +kernel, by decide +kernel⟩
abbrev sKeepNothing : Stmt := topS 10
theorem scKeepNothing : FnScope ["values"] ["values"] (defScope sKeepNothing) := ⟨rfl, rfl, rfl, by decide +kernel, rfl, by decide +kernel, by decide +kernel⟩
abbrev sBeginKind : Stmt := topS 11
theorem scBeginKind : FnScope ["values"] ["values"] (defScope sBeginKind) := ⟨rfl, rfl, rfl, by decide +kernel, rfl, by decide +kernel, by decide +kernel⟩
abbrev sRaiseLevel : Stmt := topS 12
theorem scRaiseLevel : FnScope ["values", "levels", "base"] ["values"] (defScope sRaiseLevel) := ⟨rfl, rfl, rfl, by decide +kernel, rfl, by decide +kernel, by decide +kernel⟩
abbrev sBuild : Stmt := topS 14
theorem scBuild : FnScope ["values", "word", "found", "step"] ["values", "word"] (defScope sBuild) := ⟨rfl, rfl, rfl, by decide +kernel, rfl, by decide +kernel, by decide +kernel⟩
abbrev sProduction : Stmt := topS 20
theorem scProduction : FnScope ["symbol", "word", "words", "row"] ["symbol", "word"] (defScope sProduction) := ⟨rfl, rfl, rfl, by decide +kernel, rfl, by decide +kernel, by decide +kernel⟩
abbrev sTokenize : Stmt := topS 31
theorem scTokenize : FnScope ["chunk", "tokens", "position", "kind", "value", "end"] ["chunk"] (defScope sTokenize) := ⟨rfl, rfl, rfl, by decide +kernel, rfl, by decide +kernel, by decide +kernel⟩
abbrev sTokenAt : Stmt := topS 32
theorem scTokenAt : FnScope ["chunk", "start", "first"] ["chunk", "start"] (defScope sTokenAt) := ⟨rfl, rfl, rfl, by decide +kernel, rfl, by decide +kernel, by decide +kernel⟩
abbrev sWordAt : Stmt := topS 33
theorem scWordAt : FnScope ["chunk", "start", "end", "word"] ["chunk", "start"] (defScope sWordAt) := ⟨rfl, rfl, rfl, by decide +kernel, rfl, by decide +kernel, by decide +kernel⟩
abbrev sNumberAt : Stmt := topS 34
theorem scNumberAt : FnScope ["chunk", "start", "end"] ["chunk", "start"] (defScope sNumberAt) := ⟨rfl, rfl, rfl, by decide +kernel, rfl, by decide +kernel, by decide +kernel⟩
abbrev sTextAt : Stmt := topS 35
theorem scTextAt : FnScope ["chunk", "start", "characters", "position"] ["chunk", "start"] (defScope sTextAt) := ⟨rfl, rfl, rfl, by decide +kernel, rfl, by decide +kernel, by decide +kernel⟩
abbrev sSignAt : Stmt := topS 36
theorem scSignAt : FnScope ["chunk", "start"] ["chunk", "start"] (defScope sSignAt) := ⟨rfl, rfl, rfl, by decide +kernel, rfl, by decide +kernel, by decide +kernel⟩
abbrev sEndOfRun : Stmt := topS 37
theorem scEndOfRun : FnScope ["chunk", "start", "allowed", "end"] ["chunk", "start", "allowed"] (defScope sEndOfRun) := ⟨rfl, rfl, rfl, by decide +kernel, rfl, by decide +kernel, by decide +kernel⟩
abbrev sParts : Stmt := topS 39
theorem scParts : FnScope ["e", "items", "arguments", "first", "second", "condition", "whole", "arms", "arm"] ["e"] (defScope sParts) := ⟨rfl, rfl, rfl, by decide +kernel, rfl, by decide +kernel, by decide +kernel⟩
abbrev sExpressions : Stmt := topS 40
theorem scExpressions : FnScope ["definition", "e", "settings", "setting"] ["definition"] (defScope sExpressions) := ⟨rfl, rfl, rfl, by decide +kernel, rfl, by decide +kernel, by decide +kernel⟩
abbrev sKinds : Stmt := topS 41
theorem scKinds : FnScope ["definition", "makers", "kind", "_", "fields", "field"] ["definition"] (defScope sKinds) := ⟨rfl, rfl, rfl, by decide +kernel, rfl, by decide +kernel, by decide +kernel⟩
abbrev sParse : Stmt := topS 51
theorem scParse : FnScope ["chunk", "pending", "values", "places", "index", "kind", "value", "position", "word"] ["chunk"] (defScope sParse) := ⟨rfl, rfl, rfl, by decide +kernel, rfl, by decide +kernel, by decide +kernel⟩
abbrev sWordOf : Stmt := topS 52
theorem scWordOf : FnScope ["kind", "value"] ["kind", "value"] (defScope sWordOf) := ⟨rfl, rfl, rfl, by decide +kernel, rfl, by decide +kernel, by decide +kernel⟩
abbrev sOpenedBy : Stmt := topS 53
theorem scOpenedBy : FnScope ["word"] ["word"] (defScope sOpenedBy) := ⟨rfl, rfl, rfl, by decide +kernel, rfl, by decide +kernel, by decide +kernel⟩
abbrev sTakes : Stmt := topS 54
theorem scTakes : FnScope ["pending", "values", "word", "value"] ["pending", "values", "word", "value"] (defScope sTakes) := ⟨rfl, rfl, rfl, by decide +kernel, rfl, by decide +kernel, by decide +kernel⟩
abbrev sSettle : Stmt := topS 55
theorem scSettle : FnScope ["pending", "values", "word", "symbol", "row"] ["pending", "values", "word"] (defScope sSettle) := ⟨rfl, rfl, rfl, by decide +kernel, rfl, by decide +kernel, by decide +kernel⟩
abbrev sGoesTooDeep : Stmt := topS 56
theorem scGoesTooDeep : FnScope ["definition", "waiting", "e", "depth", "levels", "_", "part"] ["definition"] (defScope sGoesTooDeep) := ⟨rfl, rfl, rfl, by decide +kernel, rfl, by decide +kernel, by decide +kernel⟩
abbrev sLawNext : Stmt := topS 58
theorem scLawNext : FnScope ["state", "limit", "cell", "value"] ["state", "limit"] (defScope sLawNext) := ⟨rfl, rfl, rfl, by decide +kernel, rfl, by decide +kernel, by decide +kernel⟩
abbrev sLawSame : Stmt := topS 59
theorem scLawSame : FnScope ["actual", "expected", "k"] ["actual", "expected"] (defScope sLawSame) := ⟨rfl, rfl, rfl, by decide +kernel, rfl, by decide +kernel, by decide +kernel⟩
abbrev sLawKeywords : Stmt := topS 60
theorem scLawKeywords : FnScope ["words"] [] (defScope sLawKeywords) := ⟨rfl, rfl, rfl, by decide +kernel, rfl, by decide +kernel, by decide +kernel⟩
abbrev sLawWord : Stmt := topS 61
theorem scLawWord : FnScope ["state", "first", "following", "word", "k"] ["state", "first"] (defScope sLawWord) := ⟨rfl, rfl, rfl, by decide +kernel, rfl, by decide +kernel, by decide +kernel⟩
abbrev sLawName : Stmt := topS 62
theorem scLawName : FnScope ["state"] ["state"] (defScope sLawName) := ⟨rfl, rfl, rfl, by decide +kernel, rfl, by decide +kernel, by decide +kernel⟩
abbrev sLawMaker : Stmt := topS 63
theorem scLawMaker : FnScope ["state"] ["state"] (defScope sLawMaker) := ⟨rfl, rfl, rfl, by decide +kernel, rfl, by decide +kernel, by decide +kernel⟩
abbrev sLawOperator : Stmt := topS 64
theorem scLawOperator : FnScope ["state", "compared", "operators"] ["state", "compared"] (defScope sLawOperator) := ⟨rfl, rfl, rfl, by decide +kernel, rfl, by decide +kernel, by decide +kernel⟩
abbrev sLawFlat : Stmt := topS 65
theorem scLawFlat : FnScope ["state", "count", "items", "compared", "opens", "k", "operator"] ["state", "count"] (defScope sLawFlat) := ⟨rfl, rfl, rfl, by decide +kernel, rfl, by decide +kernel, by decide +kernel⟩
abbrev sLawLast : Stmt := topS 66
theorem scLawLast : FnScope ["items", "operators", "k"] ["items", "operators"] (defScope sLawLast) := ⟨rfl, rfl, rfl, by decide +kernel, rfl, by decide +kernel, by decide +kernel⟩
abbrev sLawSplit : Stmt := topS 67
theorem scLawSplit : FnScope ["items", "place", "first", "second"] ["items", "place"] (defScope sLawSplit) := ⟨rfl, rfl, rfl, by decide +kernel, rfl, by decide +kernel, by decide +kernel⟩
abbrev sLawDivided : Stmt := topS 68
theorem scLawDivided : FnScope ["items", "operators"] ["items"] (defScope sLawDivided) := ⟨rfl, rfl, rfl, by decide +kernel, rfl, by decide +kernel, by decide +kernel⟩
abbrev sLawDepth : Stmt := topS 69
theorem scLawDepth : FnScope ["e", "parts_v", "part"] ["e"] (defScope sLawDepth) := ⟨rfl, rfl, rfl, by decide +kernel, rfl, by decide +kernel, by decide +kernel⟩
abbrev sLawText : Stmt := topS 70
theorem scLawText : FnScope ["e"] ["e"] (defScope sLawText) := ⟨rfl, rfl, rfl, by decide +kernel, rfl, by decide +kernel, by decide +kernel⟩
abbrev sLawRead : Stmt := topS 71
theorem scLawRead : FnScope ["chunk", "e"] ["chunk"] (defScope sLawRead) := ⟨rfl, rfl, rfl, by decide +kernel, rfl, by decide +kernel, by decide +kernel⟩
abbrev sLaw : Stmt := topS 72
theorem scLaw : FnScope ["script", "state", "count", "items", "name", "gap", "chunk", "item", "e"] ["script"] (defScope sLaw) := ⟨rfl, rfl, rfl, by decide +kernel, rfl, by decide +kernel, by decide +kernel⟩
/-- what the top has written -/
structure Defs (K : PySem.W.Frag) (mg : Str → Option Value) where
  any : mg "any" = none
  bool : mg "bool" = none
  enumerate : mg "enumerate" = none
  int : mg "int" = none
  isinstance : mg "isinstance" = none
  len : mg "len" = none
  list : mg "list" = none
  max : mg "max" = none
  range : mg "range" = none
  str : mg "str" = none
  super : mg "super" = none
  tuple : mg "tuple" = none
  kBLANKS : ∃ t, mg "BLANKS" = some (.str " \n" t)
  kLOWER : ∃ t, mg "LOWER" = some (.str "abcdefghijklmnopqrstuvwxyz" t)
  kUPPER : ∃ t, mg "UPPER" = some (.str "ABCDEFGHIJKLMNOPQRSTUVWXYZ" t)
  kDIGITS : ∃ t, mg "DIGITS" = some (.str "0123456789" t)
  kWORD_CHARACTERS : ∃ t, mg "WORD_CHARACTERS" = some (.str "abcdefghijklmnopqrstuvwxyzABCDEFGHIJKLMNOPQRSTUVWXYZ0123456789_" t)
  kMOST_DIGITS : ∃ t, mg "MOST_DIGITS" = some (.int 18 t)
  kMOST_TOKENS : ∃ t, mg "MOST_TOKENS" = some (.int 200 t)
  kMOST_OPEN : ∃ t, mg "MOST_OPEN" = some (.int 12 t)
  kDEEPEST : ∃ t, mg "DEEPEST" = some (.int 12 t)
  kMOST_LEVELS : ∃ t, mg "MOST_LEVELS" = some (.int 12 t)
  kEND_OF_CHUNK : ∃ t, mg "END_OF_CHUNK" = some (.str "END" t)
  fPopped : Addr
  fdPopped : FuncData
  DPopped : DefN K mg "popped" sPopped ["values", "count"] fPopped fdPopped
  fBeginItems : Addr
  fdBeginItems : FuncData
  DBeginItems : DefN K mg "begin_items" sBeginItems ["values"] fBeginItems fdBeginItems
  fAddItem : Addr
  fdAddItem : FuncData
  DAddItem : DefN K mg "add_item" sAddItem ["values"] fAddItem fdAddItem
  fJoinPair : Addr
  fdJoinPair : FuncData
  DJoinPair : DefN K mg "join_pair" sJoinPair ["values"] fJoinPair fdJoinPair
  fJoinTriple : Addr
  fdJoinTriple : FuncData
  DJoinTriple : DefN K mg "join_triple" sJoinTriple ["values"] fJoinTriple fdJoinTriple
  fBuildBinary : Addr
  fdBuildBinary : FuncData
  DBuildBinary : DefN K mg "build_binary" sBuildBinary ["values"] fBuildBinary fdBuildBinary
  fBuildTrue : Addr
  fdBuildTrue : FuncData
  DBuildTrue : DefN K mg "build_true" sBuildTrue ["values"] fBuildTrue fdBuildTrue
  fBuildFalse : Addr
  fdBuildFalse : FuncData
  DBuildFalse : DefN K mg "build_false" sBuildFalse ["values"] fBuildFalse fdBuildFalse
  fKeepNothing : Addr
  fdKeepNothing : FuncData
  DKeepNothing : DefN K mg "keep_nothing" sKeepNothing ["values"] fKeepNothing fdKeepNothing
  fBeginKind : Addr
  fdBeginKind : FuncData
  DBeginKind : DefN K mg "begin_kind" sBeginKind ["values"] fBeginKind fdBeginKind
  fRaiseLevel : Addr
  fdRaiseLevel : FuncData
  DRaiseLevel : DefN K mg "raise_level" sRaiseLevel ["values"] fRaiseLevel fdRaiseLevel
  fBuild : Addr
  fdBuild : FuncData
  DBuild : DefN K mg "build" sBuild ["values", "word"] fBuild fdBuild
  fProduction : Addr
  fdProduction : FuncData
  DProduction : DefN K mg "production" sProduction ["symbol", "word"] fProduction fdProduction
  fTokenize : Addr
  fdTokenize : FuncData
  DTokenize : DefN K mg "tokenize" sTokenize ["chunk"] fTokenize fdTokenize
  fTokenAt : Addr
  fdTokenAt : FuncData
  DTokenAt : DefN K mg "token_at" sTokenAt ["chunk", "start"] fTokenAt fdTokenAt
  fWordAt : Addr
  fdWordAt : FuncData
  DWordAt : DefN K mg "word_at" sWordAt ["chunk", "start"] fWordAt fdWordAt
  fNumberAt : Addr
  fdNumberAt : FuncData
  DNumberAt : DefN K mg "number_at" sNumberAt ["chunk", "start"] fNumberAt fdNumberAt
  fTextAt : Addr
  fdTextAt : FuncData
  DTextAt : DefN K mg "text_at" sTextAt ["chunk", "start"] fTextAt fdTextAt
  fSignAt : Addr
  fdSignAt : FuncData
  DSignAt : DefN K mg "sign_at" sSignAt ["chunk", "start"] fSignAt fdSignAt
  fEndOfRun : Addr
  fdEndOfRun : FuncData
  DEndOfRun : DefN K mg "end_of_run" sEndOfRun ["chunk", "start", "allowed"] fEndOfRun fdEndOfRun
  fParts : Addr
  fdParts : FuncData
  DParts : DefN K mg "parts" sParts ["e"] fParts fdParts
  fExpressions : Addr
  fdExpressions : FuncData
  DExpressions : DefN K mg "expressions" sExpressions ["definition"] fExpressions fdExpressions
  fKinds : Addr
  fdKinds : FuncData
  DKinds : DefN K mg "kinds" sKinds ["definition"] fKinds fdKinds
  fParse : Addr
  fdParse : FuncData
  DParse : DefN K mg "parse" sParse ["chunk"] fParse fdParse
  fWordOf : Addr
  fdWordOf : FuncData
  DWordOf : DefN K mg "word_of" sWordOf ["kind", "value"] fWordOf fdWordOf
  fOpenedBy : Addr
  fdOpenedBy : FuncData
  DOpenedBy : DefN K mg "opened_by" sOpenedBy ["word"] fOpenedBy fdOpenedBy
  fTakes : Addr
  fdTakes : FuncData
  DTakes : DefN K mg "takes" sTakes ["pending", "values", "word", "value"] fTakes fdTakes
  fSettle : Addr
  fdSettle : FuncData
  DSettle : DefN K mg "settle" sSettle ["pending", "values", "word"] fSettle fdSettle
  fGoesTooDeep : Addr
  fdGoesTooDeep : FuncData
  DGoesTooDeep : DefN K mg "goes_too_deep" sGoesTooDeep ["definition"] fGoesTooDeep fdGoesTooDeep
  fLawNext : Addr
  fdLawNext : FuncData
  DLawNext : DefN K mg "_law_next" sLawNext ["state", "limit"] fLawNext fdLawNext
  fLawSame : Addr
  fdLawSame : FuncData
  DLawSame : DefN K mg "_law_same" sLawSame ["actual", "expected"] fLawSame fdLawSame
  fLawKeywords : Addr
  fdLawKeywords : FuncData
  DLawKeywords : DefN K mg "_law_keywords" sLawKeywords [] fLawKeywords fdLawKeywords
  fLawWord : Addr
  fdLawWord : FuncData
  DLawWord : DefN K mg "_law_word" sLawWord ["state", "first"] fLawWord fdLawWord
  fLawName : Addr
  fdLawName : FuncData
  DLawName : DefN K mg "_law_name" sLawName ["state"] fLawName fdLawName
  fLawOperator : Addr
  fdLawOperator : FuncData
  DLawOperator : DefN K mg "_law_operator" sLawOperator ["state", "compared"] fLawOperator fdLawOperator
  fLawFlat : Addr
  fdLawFlat : FuncData
  DLawFlat : DefN K mg "_law_flat" sLawFlat ["state", "count"] fLawFlat fdLawFlat
  fLawLast : Addr
  fdLawLast : FuncData
  DLawLast : DefN K mg "_law_last" sLawLast ["items", "operators"] fLawLast fdLawLast
  fLawSplit : Addr
  fdLawSplit : FuncData
  DLawSplit : DefN K mg "_law_split" sLawSplit ["items", "place"] fLawSplit fdLawSplit
  fLawDivided : Addr
  fdLawDivided : FuncData
  DLawDivided : DefN K mg "_law_divided" sLawDivided ["items"] fLawDivided fdLawDivided
  fLawDepth : Addr
  fdLawDepth : FuncData
  DLawDepth : DefN K mg "_law_depth" sLawDepth ["e"] fLawDepth fdLawDepth
  fLawText : Addr
  fdLawText : FuncData
  DLawText : DefN K mg "_law_text" sLawText ["e"] fLawText fdLawText
  fLawRead : Addr
  fdLawRead : FuncData
  DLawRead : DefN K mg "_law_read" sLawRead ["chunk"] fLawRead fdLawRead
  fLaw : Addr
  fdLaw : FuncData
  DLaw : DefN K mg "law" sLaw ["script"] fLaw fdLaw
  aKEYWORDS : Addr
  gKEYWORDS : mg "KEYWORDS" = some (.ref aKEYWORDS)
  sKEYWORDS : ∀ H : Hp, SqT K H aKEYWORDS [V.str "data", V.str "fun", V.str "cell", V.str "view", V.str "act", V.str "turn", V.str "then", V.str "true", V.str "false", V.str "not", V.str "and", V.str "or", V.str "if", V.str "else", V.str "let", V.str "in", V.str "case", V.str "of", V.str "end", V.str "num", V.str "text", V.str "bool", V.str "list", V.str "mod"]
  tKEYWORDS : ∀ H : Hp, TyX K H (.ref aKEYWORDS) (.type "tuple")
  aLONGSIGNS : Addr
  gLONGSIGNS : mg "LONG_SIGNS" = some (.ref aLONGSIGNS)
  sLONGSIGNS : ∀ H : Hp, SqT K H aLONGSIGNS [V.str "++", V.str "::", V.str "->", V.str ":="]
  tLONGSIGNS : ∀ H : Hp, TyX K H (.ref aLONGSIGNS) (.type "tuple")
  aSHORTSIGNS : Addr
  gSHORTSIGNS : mg "SHORT_SIGNS" = some (.ref aSHORTSIGNS)
  sSHORTSIGNS : ∀ H : Hp, SqT K H aSHORTSIGNS [V.str "(", V.str ")", V.str "[", V.str "]", V.str ",", V.str ";", V.str "|", V.str "=", V.str "<", V.str "+", V.str "-", V.str "*", V.str "/", V.str ":"]
  tSHORTSIGNS : ∀ H : Hp, TyX K H (.ref aSHORTSIGNS) (.type "tuple")
  aOPENING : Addr
  gOPENING : mg "OPENING" = some (.ref aOPENING)
  sOPENING : ∀ H : Hp, SqT K H aOPENING [V.str "(", V.str "[", V.str "case"]
  tOPENING : ∀ H : Hp, TyX K H (.ref aOPENING) (.type "tuple")
  aCLOSING : Addr
  gCLOSING : mg "CLOSING" = some (.ref aCLOSING)
  sCLOSING : ∀ H : Hp, SqT K H aCLOSING [V.str ")", V.str "]", V.str "end"]
  tCLOSING : ∀ H : Hp, TyX K H (.ref aCLOSING) (.type "tuple")
  aWITHVALUES : Addr
  gWITHVALUES : mg "WITH_VALUES" = some (.ref aWITHVALUES)
  sWITHVALUES : ∀ H : Hp, SqT K H aWITHVALUES [V.str "TAKE", V.str "NAME", V.str "MAKER", V.str "NUMBER", V.str "TEXT"]
  tWITHVALUES : ∀ H : Hp, TyX K H (.ref aWITHVALUES) (.type "tuple")
  aG : Addr
  gG : mg "GRAMMAR" = some (.ref aG)
  G : GR.dictW (GR.rowsW K) K aG = some gram
  aT : Addr
  gT : mg "TREES" = some (.ref aT)
  Tr : GR.dictW GR.intW K aT = some trees
  aS : Addr
  gS : mg "STEPS" = some (.ref aS)
  sBeginItems : PySem.W.nsIn K aS "!none" = some (some (.ref fBeginItems))
  sAddItem : PySem.W.nsIn K aS "!item" = some (some (.ref fAddItem))
  sJoinPair : PySem.W.nsIn K aS "!pair" = some (some (.ref fJoinPair))
  sJoinTriple : PySem.W.nsIn K aS "!triple" = some (some (.ref fJoinTriple))
  sBuildBinary : PySem.W.nsIn K aS "!binary" = some (some (.ref fBuildBinary))
  sBuildTrue : PySem.W.nsIn K aS "!true" = some (some (.ref fBuildTrue))
  sBuildFalse : PySem.W.nsIn K aS "!false" = some (some (.ref fBuildFalse))
  sKeepNothing : PySem.W.nsIn K aS "!nothing" = some (some (.ref fKeepNothing))
  sBeginKind : PySem.W.nsIn K aS "!kind" = some (some (.ref fBeginKind))
  sRaiseLevel : PySem.W.nsIn K aS "!level" = some (some (.ref fRaiseLevel))
  aC : Addr
  fI : Addr
  aQ : Addr
def cBlanks : Str := " \n"
def cLower : Str := "abcdefghijklmnopqrstuvwxyz"
def cUpper : Str := "ABCDEFGHIJKLMNOPQRSTUVWXYZ"
def cDigits : Str := "0123456789"
def cWord : Str := "abcdefghijklmnopqrstuvwxyzABCDEFGHIJKLMNOPQRSTUVWXYZ0123456789_"
def kws : List (List Nat) := ["data", "fun", "cell", "view", "act", "turn", "then", "true", "false", "not", "and", "or", "if", "else", "let", "in", "case", "of", "end", "num", "text", "bool", "list", "mod"].map fun (x : String) => (Str.ofString x).cps.toList
structure Txt (prog : Program) (K : PySem.W.Frag) (mg : Str → Option Value) (C fI aK aL aS : Addr) : Prop where
  rc : RC.Facts prog K mg C fI
  len : mg "len" = none
  range : mg "range" = none
  isinstance : mg "isinstance" = none
  bool : mg "bool" = none
  int : mg "int" = none
  str : mg "str" = none
  tuple : mg "tuple" = none
  list : mg "list" = none
  any : mg "any" = none
  enumerate : mg "enumerate" = none
  max : mg "max" = none
  g_BLANKS : ∃ t, mg "BLANKS" = some (.str " \n" t)
  g_LOWER : ∃ t, mg "LOWER" = some (.str "abcdefghijklmnopqrstuvwxyz" t)
  g_UPPER : ∃ t, mg "UPPER" = some (.str "ABCDEFGHIJKLMNOPQRSTUVWXYZ" t)
  g_DIGITS : ∃ t, mg "DIGITS" = some (.str "0123456789" t)
  g_WORD : ∃ t, mg "WORD_CHARACTERS" = some (.str "abcdefghijklmnopqrstuvwxyzABCDEFGHIJKLMNOPQRSTUVWXYZ0123456789_" t)
  g_KEYWORDS : mg "KEYWORDS" = some (.ref aK)
  g_LONG_SIGNS : mg "LONG_SIGNS" = some (.ref aL)
  g_SHORT_SIGNS : mg "SHORT_SIGNS" = some (.ref aS)
  g_MOST : ∃ t, mg "MOST_DIGITS" = some (.int 18 t)
  sK : ∀ H, SqT K H aK (kws.map fun x => V.str (S x))
  sL : ∀ H, SqT K H aL (longs.map fun x => V.str (S x))
  sS : ∀ H, SqT K H aS (shorts.map fun x => V.str (S [x]))
  tK : ∀ H, TyX K H (.ref aK) (.type "tuple")
/-- what is known beside Z -/
structure Rest (P : Program) (w : World) (K : PySem.W.Frag) (mg : Str → Option Value) (Z : Defs K mg) : Prop where
  T : Txt P K mg Z.aC Z.fI Z.aKEYWORDS Z.aLONGSIGNS Z.aSHORTSIGNS
  kG : ∃ es n, KDict K w Z.aG es n
  kT : ∃ es n, KDict K w Z.aT es n
  kS : ∃ es n, KDict K w Z.aS es n
theorem Rest.of {P : Program} {w : World} {K : PySem.W.Frag} {mg : Str → Option Value} {Z : Defs K mg} (R : RC.Facts P K mg Z.aC Z.fI) (h1 : ∃ es n, KDict K w Z.aG es n) (h2 : ∃ es n, KDict K w Z.aT es n) (h3 : ∃ es n, KDict K w Z.aS es n) : Rest P w K mg Z :=
  ⟨{ rc := R, len := Z.len, range := Z.range, isinstance := Z.isinstance, bool := Z.bool, int := Z.int, str := Z.str, tuple := Z.tuple, list := Z.list, any := Z.any, enumerate := Z.enumerate, max := Z.max, g_BLANKS := Z.kBLANKS, g_LOWER := Z.kLOWER, g_UPPER := Z.kUPPER, g_DIGITS := Z.kDIGITS, g_WORD := Z.kWORD_CHARACTERS,
     g_KEYWORDS := Z.gKEYWORDS, g_LONG_SIGNS := Z.gLONGSIGNS, g_SHORT_SIGNS := Z.gSHORTSIGNS, g_MOST := Z.kMOST_DIGITS, sK := Z.sKEYWORDS, sL := Z.sLONGSIGNS, sS := Z.sSHORTSIGNS, tK := Z.tKEYWORDS }, h1, h2, h3⟩
end Q23
namespace Q23
open PySem PySem.Spec PyProof.Rows L2 SX HL
section
variable {P : Program} {w : World} {K : PySem.W.Frag} {mg : Str → Option Value} {base : Heap} {C fI aK aL aS : Addr}
/-! ### _law_next -/
def StAt (H : Hp) (p q : Addr) (ns : List Int) : Prop := H q = some (.lst (ns.map V.int)) ∧ ns.length ≤ 63 ∧ ∃ (i c z : Int), H p = some (.lst [.ref q, .int i, .int c, .int z]) ∧ 0 ≤ i ∧ 0 ≤ c ∧ 0 ≤ z ∧ z < 2147483648
theorem StAt.upd {H : Hp} {p q : Addr} {ns : List Int} (h : StAt H p q ns) {i c z : Int} (hi : 0 ≤ i) (hc : 0 ≤ c) (hz : 0 ≤ z) (hz2 : z < 2147483648) : StAt (upd H p (.lst [.ref q, .int i, .int c, .int z])) p q ns := by
  obtain ⟨h1, hl, i0, c0, z0, h2, _⟩ := h
  have ne : q ≠ p := by
    intro e
    subst e
    rw [h1] at h2
    have e2 := HO.lst.inj (Option.some.inj h2)
    cases ns with
    | nil => cases e2
    | cons x r => cases e2
  exact ⟨by rw [upd_ne ne]; exact h1, hl, i, c, z, upd_same, hi, hc, hz, hz2⟩
def spNext : Sp := fun vs H Q _ => ∃ (p q : Addr) (ns : List Int) (lim : Int), vs = [.ref p, .int lim] ∧ StAt H p q ns ∧ 0 < lim ∧ lim ≤ 1000 ∧
  ∀ H' v, StAt H' p q ns → But H H' p → 0 ≤ v → v < lim → Q (.int v) H'
theorem ok_next {f : Addr} {fd : FuncData} {k : Nat} (D : DefN K mg "_law_next" sLawNext ["state", "limit"] f fd) (T : Txt P K mg C fI aK aL aS) : FnOk P w K mg base CX0 (k + 1) f fd ["state", "limit"] spNext := by
  refine D.F.ok scLawNext (fun vs H Q E h => ?_) (fun cdv A outer s H vs Q E hr h => ?_)
  · obtain ⟨p, q, ns, lim, rfl, _⟩ := h
    rfl
  · obtain ⟨p, q, ns, lim, rfl, hS, l0, l1, qq⟩ := h
    refine ⟨_, (C8.pss_cut (ps_if (PW.pt (pw_and (pt_cmpR op_eq (pe_ix ix_list (pv 0) pe_int (fun _ _ => rfl)) pe_int (nomark _)) (pw_and1 (pt_cmpR op_lt (pe_ix ix_list (pv 0) pe_int (fun _ _ => rfl)) (pe_callB call_len_seq (by rfl) T.len PySem.boot_len (pa_cons (pe_ix ix_list (pv 0) pe_int (fun _ _ => rfl)) pa_nil)) (nomark _))))) (pss_cons (ps_set (i := 2) scLawNext.nd rfl (.inl rfl) (pe_ix ix_list (pe_ix ix_list (pv 0) pe_int (fun _ _ => rfl)) (pe_ix ix_list (pv 0) pe_int (fun _ _ => rfl)) (fun _ _ => rfl)))
        (pss_cons (ps_augS (pv 0) pe_int pget_list pe_int ip_add set_list)
        (pss_one (ps_if (pt_cmpR op_ge (pv 2) (pe_op op_pow pe_int pe_int) (nomark _)) (pss_one (ps_asg (pv 2) (pg_sub (pv 0) pe_int set_list))) (pss_one (ps_asg (pe_op op_mod (pe_callTy call_int1 (by rfl) T.int HL.boot_int (pa_cons (pe_op op_add (pe_op op_add (pe_op op_mul (pe_ix ix_list (pv 0) pe_int (fun _ _ => rfl)) pe_int) (pe_op op_mod (pe_callTy call_int1 (by rfl) T.int HL.boot_int (pa_cons (pv 2) pa_nil)) pe_int)) pe_int) pa_nil)) pe_int) (pg_sub (pv 0) pe_int set_list))))))) pss_nil)
        (pss_cons (ps_if (pt_cmpR op_gt (pe_ix ix_list (pv 0) pe_int (fun _ _ => rfl)) pe_int (nomark _)) (pss_cons (ps_set (i := 3) scLawNext.nd rfl (.inl rfl) (pe_op op_mod (pe_callTy call_int1 (by rfl) T.int HL.boot_int (pa_cons (pe_ix ix_list (pv 0) pe_int (fun _ _ => rfl)) pa_nil)) (pv 1)))
        (pss_cons (ps_asg (pe_op op_fdiv (pe_ix ix_list (pv 0) pe_int (fun _ _ => rfl)) (pv 1)) (pg_sub (pv 0) pe_int set_list))
        (pss_one (ps_ret (pv 3))))) pss_nil)
        (pss_cons (ps_asg (pe_op op_mod (pe_callTy call_int1 (by rfl) T.int HL.boot_int (pa_cons (pe_op op_add (pe_op op_mul (pe_ix ix_list (pv 0) pe_int (fun _ _ => rfl)) pe_int) pe_int) pa_nil)) pe_int) (pg_sub (pv 0) pe_int set_list))
        (pss_one (ps_ret (pe_op op_mod (pe_callTy call_int1 (by rfl) T.int HL.boot_int (pa_cons (pe_op op_fdiv (pe_ix ix_list (pv 0) pe_int (fun _ _ => rfl)) pe_int) pa_nil)) (pv 1))))))), ?_⟩
    obtain ⟨hq, hlen, i, c, z, hp, hi, hc, hz, hz2⟩ := id hS
    refine ⟨fun σ' H' => StAt H' p q ns ∧ But H H' p ∧ ∃ y, σ' = [some (.ref p), some (.int lim), y, none], ?_, ?_⟩
    · refine ⟨.ref p, rfl, p, _, 2, .int c, rfl, rfl, SqL.of hp, rfl, rfl, _, rfl, ite2 (fun e => ?_) (fun e => iteF ⟨hS, But.refl, _, rfl⟩)⟩
      refine ⟨.ref p, rfl, p, _, 1, .int i, rfl, rfl, SqL.of hp, rfl, .ref p, rfl, p, _, 0, .ref q, rfl, rfl, SqL.of hp, rfl, q, _, rfl, .inl (SqL.of hq), _, _, rfl, rfl, _, rfl, ite2 (fun e2 => ?_) (fun e2 => ⟨hS, But.refl, _, rfl⟩)⟩
      have h2 : i < (ns.map V.int).length := of_decide_eq_true e2
      rw [List.length_map] at h2
      have hg : (ns.map V.int)[i.toNat]? = some (.int (ns.getD i.toNat 0)) := by
        have : i.toNat < ns.length := by omega
        simp [this]
      have hat : atI (ns.map V.int) i = some (.int (ns.getD i.toNat 0)) := by
        have : i = (i.toNat : Int) := by omega
        rw [this]
        exact atI_nat hg
      generalize ns.getD i.toNat 0 = x at hat
      refine ⟨.ref p, rfl, p, _, 0, .ref q, rfl, rfl, SqL.of hp, rfl, .ref p, rfl, p, _, 1, .int i, rfl, rfl, SqL.of hp, rfl, q, _, i, _, rfl, rfl, SqL.of hq, hat, ?_⟩
      refine ⟨.ref p, rfl, p, _, 1, .int i, rfl, rfl, SqL.of hp, by decide, rfl, i, 1, rfl, rfl, p, _, 1, 1, rfl, rfl, hp, rfl, ?_⟩
      have s1 := hS.upd (i := i + 1) (c := c) (z := z) (by omega) hc hz hz2
      refine ⟨_, rfl, _, _, rfl, rfl, ⟨by decide, by decide, by decide⟩, _, _, rfl, rfl, _, rfl, ite2 (fun e3 => ?_) (fun e3 => ?_)⟩
      · have h3 : (10 : Int) ^ 18 ≤ x := of_decide_eq_true e3
        have h4 : (0 : Int) ≤ x := Int.le_trans (by decide) h3
        refine ⟨_, rfl, .ref p, rfl, p, _, 2, 2, rfl, rfl, upd_same, rfl, ?_⟩
        rw [upd_upd]
        exact ⟨hS.upd (by show (0 : Int) ≤ i + 1; omega) h4 hz hz2, but_upd, _, rfl⟩
      · refine ⟨.ref p, rfl, p, _, 3, .int z, rfl, rfl, SqL.of upd_same, rfl, z, 48271, rfl, rfl, .inl ⟨by omega, by omega⟩, _, rfl, .inl ⟨x, rfl, x, _, rfl, rfl, (by show (0 : Int) < 2147483647; decide), _, _, rfl, rfl, _, _, rfl, rfl, .inl ⟨_, rfl, _, _, rfl, rfl, (by show (0 : Int) < 2147483647; decide), .ref p, rfl, p, _, 3, 3, rfl, rfl, upd_same, rfl, ?_⟩⟩⟩
        rw [upd_upd]
        refine ⟨hS.upd (by show (0 : Int) ≤ i + 1; omega) hc ?_ ?_, but_upd, _, rfl⟩
        · exact Int.emod_nonneg _ (by decide)
        · have := Int.emod_lt_of_pos (z * 48271 + x % 2147483647 + 7) (b := 2147483647) (by decide)
          omega
    · rintro σ' H' ⟨hS', hB, y, rfl⟩
      obtain ⟨hq', hlen', i', c', z', hp', hi', hc', hz', hz2'⟩ := id hS'
      refine ⟨.ref p, rfl, p, _, 2, .int c', rfl, rfl, SqL.of hp', rfl, c', 0, rfl, rfl, _, rfl, ite2 (fun e => ?_) (fun e => ?_)⟩
      · refine ⟨.ref p, rfl, p, _, 2, .int c', rfl, rfl, SqL.of hp', rfl, .inl ⟨c', rfl, .int lim, rfl, c', lim, rfl, rfl, l0, ?_⟩⟩
        refine ⟨.ref p, rfl, p, _, 2, .int c', rfl, rfl, SqL.of hp', rfl, .int lim, rfl, c', lim, rfl, rfl, ⟨l0, by omega⟩, .ref p, rfl, p, _, 2, 2, rfl, rfl, hp', rfl, _, rfl, ?_⟩
        refine qq _ _ (hS'.upd hi' (Int.ediv_nonneg hc' (by omega)) hz' hz2') (hB.trans but_upd) (Int.emod_nonneg _ (by omega)) (Int.emod_lt_of_pos _ l0)
      · refine ⟨.ref p, rfl, p, _, 3, .int z', rfl, rfl, SqL.of hp', rfl, z', 69621, rfl, rfl, .inl ⟨by omega, by omega⟩, _, _, rfl, rfl, .inl ⟨_, rfl, _, _, rfl, rfl, (by show (0 : Int) < 2147483647; decide), .ref p, rfl, p, _, 3, 3, rfl, rfl, hp', rfl, ?_⟩⟩
        have b1 : 0 ≤ (z' * 69621 + 12345) % 2147483647 := Int.emod_nonneg _ (by decide)
        have b2 := Int.emod_lt_of_pos (z' * 69621 + 12345) (b := 2147483647) (by decide)
        refine ⟨.ref p, rfl, p, _, 3, .int ((z' * 69621 + 12345) % 2147483647), rfl, rfl, SqL.of upd_same, rfl, _, 7, rfl, rfl, ⟨by decide, by decide⟩, .inl ⟨_, rfl, .int lim, rfl, _, lim, rfl, rfl, l0, ?_⟩⟩
        exact qq _ _ (hS'.upd hi' hc' b1 (by omega)) (hB.trans but_upd) (Int.emod_nonneg _ (by omega)) (Int.emod_lt_of_pos _ l0)
/-! ### _law_same -/
theorem same_zero {f : Addr} {fd : FuncData} (DLawSame : DefN K mg "_law_same" sLawSame ["actual", "expected"] f fd) (T : Txt P K mg C fI aK aL aS) : FnOk P w K mg base CX0 1 f fd ["actual", "expected"] (spSame K 0) := by
  refine DLawSame.F.ok scLawSame (fun vs H Q E h => ?_) (fun cdv A outer s H vs Q E hr h => ?_)
  · obtain ⟨x, y, rfl, _⟩ := h
    rfl
  · obtain ⟨x, y, rfl, ⟨lf, rfl⟩, q⟩ := h
    refine ⟨_, (pss_cons (ps_if (pt_cmp (pc_isN (pv 1))) (pss_one (ps_ret (pe_cmp (pc_isN (pv 0)) rfl))) pss_nil)
        (pss_cons (ps_if (pt_val (pe_callB call_isB (by rfl) T.isinstance HL.boot_isinstance (pa_cons (pv 1) (pa_cons (pe_bltn (v := .ty "bool") (by rfl) T.bool HL.boot_bool rfl) pa_nil)))) (pss_one (ps_ret (pe_and (pe_callB call_isB (by rfl) T.isinstance HL.boot_isinstance (pa_cons (pv 0) (pa_cons (pe_bltn (v := .ty "bool") (by rfl) T.bool HL.boot_bool rfl) pa_nil))) (pe_one (pe_cmpR op_eq (pv 0) (pv 1) (nomark _)))))) pss_nil)
        (pss_cons (ps_if (pt_val (pe_callB call_isB (by rfl) T.isinstance HL.boot_isinstance (pa_cons (pv 1) (pa_cons (pe_bltn (v := .ty "int") (by rfl) T.int HL.boot_int rfl) pa_nil)))) (pss_one (ps_ret (pe_and (pe_callB call_isB (by rfl) T.isinstance HL.boot_isinstance (pa_cons (pv 0) (pa_cons (pe_bltn (v := .ty "int") (by rfl) T.int HL.boot_int rfl) pa_nil))) (pe_and (pe_not (pe_callB call_isB (by rfl) T.isinstance HL.boot_isinstance (pa_cons (pv 0) (pa_cons (pe_bltn (v := .ty "bool") (by rfl) T.bool HL.boot_bool rfl) pa_nil)))) (pe_one (pe_cmpR op_eq (pv 0) (pv 1) (nomark _))))))) pss_nil)
        (pss_cons (ps_if (pt_val (pe_callB call_isB (by rfl) T.isinstance HL.boot_isinstance (pa_cons (pv 1) (pa_cons (pe_bltn (v := .ty "str") (by rfl) T.str HL.boot_str rfl) pa_nil)))) (pss_one (ps_ret (pe_and (pe_callB call_isB (by rfl) T.isinstance HL.boot_isinstance (pa_cons (pv 0) (pa_cons (pe_bltn (v := .ty "str") (by rfl) T.str HL.boot_str rfl) pa_nil))) (pe_one (pe_cmpR op_eq (pv 0) (pv 1) (nomark _)))))) pss_nil) pss_never)))), ?_⟩
    cases x with
    | int i =>
      refine ⟨_, rfl, _, rfl, iteF ?_⟩
      refine ⟨_, rfl, _, "int", "bool", false, rfl, .base (.int i), by decide +kernel, false, rfl, iteF ?_⟩
      refine ⟨_, rfl, _, "int", "int", true, rfl, .base (.int i), by decide +kernel, true, rfl, iteT ?_⟩
      refine ⟨_, rfl, _, "int", "int", true, rfl, .base (.int i), by decide +kernel, true, rfl, iteT ?_⟩
      refine ⟨_, rfl, _, "int", "bool", false, rfl, .base (.int i), by decide +kernel, false, rfl, true, rfl, iteT ?_⟩
      refine ⟨_, rfl, _, rfl, rfl, ?_⟩
      rw [decide_eq_true rfl]
      exact q
    | str z =>
      refine ⟨_, rfl, _, rfl, iteF ?_⟩
      refine ⟨_, rfl, _, "str", "bool", false, rfl, .base (.str z), by decide +kernel, false, rfl, iteF ?_⟩
      refine ⟨_, rfl, _, "str", "int", false, rfl, .base (.str z), by decide +kernel, false, rfl, iteF ?_⟩
      refine ⟨_, rfl, _, "str", "str", true, rfl, .base (.str z), by decide +kernel, true, rfl, iteT ?_⟩
      refine ⟨_, rfl, _, "str", "str", true, rfl, .base (.str z), by decide +kernel, true, rfl, iteT ?_⟩
      refine ⟨_, rfl, _, rfl, rfl, ?_⟩
      rw [decide_eq_true rfl]
      exact q
    | bl b =>
      refine ⟨_, rfl, _, rfl, iteF ?_⟩
      refine ⟨_, rfl, _, "bool", "bool", true, rfl, .base (.bl b), by decide +kernel, true, rfl, iteT ?_⟩
      refine ⟨_, rfl, _, "bool", "bool", true, rfl, .base (.bl b), by decide +kernel, true, rfl, iteT ?_⟩
      refine ⟨_, rfl, _, rfl, rfl, ?_⟩
      rw [decide_eq_true rfl]
      exact q
    | non =>
      refine ⟨_, rfl, _, rfl, iteT ?_⟩
      exact ⟨_, rfl, q⟩
    | _ => exact (show False from lf).elim
theorem same_step {f : Addr} {fd : FuncData} {k n : Nat} (DLawSame : DefN K mg "_law_same" sLawSame ["actual", "expected"] f fd) (T : Txt P K mg C fI aK aL aS) (GLawSame : FnOk P w K mg base CX0 k f fd ["actual", "expected"] (spSame K n)) : FnOk P w K mg base CX0 (k + 1) f fd ["actual", "expected"] (spSame K (n + 1)) := by
  refine DLawSame.F.ok scLawSame (fun vs H Q E h => ?_) (fun cdv A outer s H vs Q E hr h => ?_)
  · obtain ⟨x, y, rfl, _⟩ := h
    rfl
  · obtain ⟨x, y, rfl, hs, q⟩ := h
    refine ⟨_, (pss_cons (ps_if (pt_cmp (pc_isN (pv 1))) (pss_one (ps_ret (pe_cmp (pc_isN (pv 0)) rfl))) pss_nil)
        (pss_cons (ps_if (pt_val (pe_callB call_isB (by rfl) T.isinstance HL.boot_isinstance (pa_cons (pv 1) (pa_cons (pe_bltn (v := .ty "bool") (by rfl) T.bool HL.boot_bool rfl) pa_nil)))) (pss_one (ps_ret (pe_and (pe_callB call_isB (by rfl) T.isinstance HL.boot_isinstance (pa_cons (pv 0) (pa_cons (pe_bltn (v := .ty "bool") (by rfl) T.bool HL.boot_bool rfl) pa_nil))) (pe_one (pe_cmpR op_eq (pv 0) (pv 1) (nomark _)))))) pss_nil)
        (pss_cons (ps_if (pt_val (pe_callB call_isB (by rfl) T.isinstance HL.boot_isinstance (pa_cons (pv 1) (pa_cons (pe_bltn (v := .ty "int") (by rfl) T.int HL.boot_int rfl) pa_nil)))) (pss_one (ps_ret (pe_and (pe_callB call_isB (by rfl) T.isinstance HL.boot_isinstance (pa_cons (pv 0) (pa_cons (pe_bltn (v := .ty "int") (by rfl) T.int HL.boot_int rfl) pa_nil))) (pe_and (pe_not (pe_callB call_isB (by rfl) T.isinstance HL.boot_isinstance (pa_cons (pv 0) (pa_cons (pe_bltn (v := .ty "bool") (by rfl) T.bool HL.boot_bool rfl) pa_nil)))) (pe_one (pe_cmpR op_eq (pv 0) (pv 1) (nomark _))))))) pss_nil)
        (pss_cons (ps_if (pt_val (pe_callB call_isB (by rfl) T.isinstance HL.boot_isinstance (pa_cons (pv 1) (pa_cons (pe_bltn (v := .ty "str") (by rfl) T.str HL.boot_str rfl) pa_nil)))) (pss_one (ps_ret (pe_and (pe_callB call_isB (by rfl) T.isinstance HL.boot_isinstance (pa_cons (pv 0) (pa_cons (pe_bltn (v := .ty "str") (by rfl) T.str HL.boot_str rfl) pa_nil))) (pe_one (pe_cmpR op_eq (pv 0) (pv 1) (nomark _)))))) pss_nil)
        (pss_cons (ps_if (PW.pt (pw_and (pt_val (pe_callB call_isB (by rfl) T.isinstance HL.boot_isinstance (pa_cons (pv 1) (pa_cons (pe_bltn (v := .ty "tuple") (by rfl) T.tuple HL.boot_tuple rfl) pa_nil)))) (pw_and1 (pt_not (pt_val (pe_callB call_isB (by rfl) T.isinstance HL.boot_isinstance (pa_cons (pv 0) (pa_cons (pe_bltn (v := .ty "tuple") (by rfl) T.tuple HL.boot_tuple rfl) pa_nil)))))))) (pss_one (ps_ret pe_bl)) pss_nil)
        (pss_cons (ps_if (PW.pt (pw_and (pt_val (pe_callB call_isB (by rfl) T.isinstance HL.boot_isinstance (pa_cons (pv 1) (pa_cons (pe_bltn (v := .ty "list") (by rfl) T.list HL.boot_list rfl) pa_nil)))) (pw_and1 (pt_not (pt_val (pe_callB call_isB (by rfl) T.isinstance HL.boot_isinstance (pa_cons (pv 0) (pa_cons (pe_bltn (v := .ty "list") (by rfl) T.list HL.boot_list rfl) pa_nil)))))))) (pss_one (ps_ret pe_bl)) pss_nil)
        (pss_cons (ps_if (pt_cmpR op_ne (pe_callB call_len_seq (by rfl) T.len PySem.boot_len (pa_cons (pv 0) pa_nil)) (pe_callB call_len_seq (by rfl) T.len PySem.boot_len (pa_cons (pv 1) pa_nil)) (nomark _)) (pss_one (ps_ret pe_bl)) pss_nil)
        (pss_cons (ps_for PassesOwn.never rfl (pi_range1 (by rfl) T.range (pa_cons (pe_callB call_len_seq (by rfl) T.len PySem.boot_len (pa_cons (pv 1) pa_nil)) pa_nil)) (pg_name (i := 2) scLawSame.nd rfl (.inl rfl)) (pss_one (ps_if (pt_not (pt_val (pe_call GLawSame (hr.mono (by omega)) (by rfl) DLawSame.g DLawSame.F.kp DLawSame.b .nil pass0 (pa_cons (pe_ix ix_seq (pv 0) (pv 2) (fun _ _ => rfl)) (pa_cons (pe_ix ix_seq (pv 1) (pv 2) (fun _ _ => rfl)) pa_nil))))) (pss_one (ps_ret pe_bl)) pss_nil)))
        (pss_one (ps_ret pe_bl)))))))))), ?_⟩
    rcases hs with ⟨lf, rfl⟩ | ⟨t, a, b, xs, ys, rfl, rfl, h1, h2, el, hz, hh⟩
    · cases x with
      | int i =>
        refine ⟨_, rfl, _, rfl, iteF ?_⟩
        refine ⟨_, rfl, _, "int", "bool", false, rfl, .base (.int i), by decide +kernel, false, rfl, iteF ?_⟩
        refine ⟨_, rfl, _, "int", "int", true, rfl, .base (.int i), by decide +kernel, true, rfl, iteT ?_⟩
        refine ⟨_, rfl, _, "int", "int", true, rfl, .base (.int i), by decide +kernel, true, rfl, iteT ?_⟩
        refine ⟨_, rfl, _, "int", "bool", false, rfl, .base (.int i), by decide +kernel, false, rfl, true, rfl, iteT ?_⟩
        refine ⟨_, rfl, _, rfl, rfl, ?_⟩
        rw [decide_eq_true rfl]
        exact q
      | str z =>
        refine ⟨_, rfl, _, rfl, iteF ?_⟩
        refine ⟨_, rfl, _, "str", "bool", false, rfl, .base (.str z), by decide +kernel, false, rfl, iteF ?_⟩
        refine ⟨_, rfl, _, "str", "int", false, rfl, .base (.str z), by decide +kernel, false, rfl, iteF ?_⟩
        refine ⟨_, rfl, _, "str", "str", true, rfl, .base (.str z), by decide +kernel, true, rfl, iteT ?_⟩
        refine ⟨_, rfl, _, "str", "str", true, rfl, .base (.str z), by decide +kernel, true, rfl, iteT ?_⟩
        refine ⟨_, rfl, _, rfl, rfl, ?_⟩
        rw [decide_eq_true rfl]
        exact q
      | bl b =>
        refine ⟨_, rfl, _, rfl, iteF ?_⟩
        refine ⟨_, rfl, _, "bool", "bool", true, rfl, .base (.bl b), by decide +kernel, true, rfl, iteT ?_⟩
        refine ⟨_, rfl, _, "bool", "bool", true, rfl, .base (.bl b), by decide +kernel, true, rfl, iteT ?_⟩
        refine ⟨_, rfl, _, rfl, rfl, ?_⟩
        rw [decide_eq_true rfl]
        exact q
      | non =>
        refine ⟨_, rfl, _, rfl, iteT ?_⟩
        exact ⟨_, rfl, q⟩
      | _ => exact (show False from lf).elim
    · have rest : ∀ (i : Nat) (u v : V), xs[i]? = some u → ys[i]? = some v → atI xs ((0 : Int) + (i : Int)) = some u ∧ atI ys ((0 : Int) + (i : Int)) = some v := fun i u v hu hv => by
        rw [Int.zero_add]
        exact ⟨atI_nat hu, atI_nat hv⟩
      have turn : ∀ i : Nat, i < (ys.length : Int).toNat → ∃ u v, xs[i]? = some u ∧ ys[i]? = some v := fun i hi => by
        have i1 : i < ys.length := by omega
        have i2 : i < xs.length := by omega
        exact ⟨_, _, List.getElem?_eq_getElem i2, List.getElem?_eq_getElem i1⟩
      rcases h1 with ⟨rfl, s1, t1⟩ | ⟨rfl, s1, t1⟩
      · rcases h2 with ⟨_, s2, t2⟩ | ⟨z, _⟩
        · refine ⟨_, rfl, _, rfl, iteF ?_⟩
          refine ⟨_, rfl, _, "tuple", "bool", false, rfl, t2, by decide +kernel, false, rfl, iteF ?_⟩
          refine ⟨_, rfl, _, "tuple", "int", false, rfl, t2, by decide +kernel, false, rfl, iteF ?_⟩
          refine ⟨_, rfl, _, "tuple", "str", false, rfl, t2, by decide +kernel, false, rfl, iteF ?_⟩
          refine ⟨_, rfl, _, "tuple", "tuple", true, rfl, t2, by decide +kernel, true, rfl, iteT ?_⟩
          refine ⟨_, rfl, _, "tuple", "tuple", true, rfl, t1, by decide +kernel, true, rfl, iteF ?_⟩
          refine ⟨_, rfl, _, "tuple", "list", false, rfl, t2, by decide +kernel, false, rfl, iteF (iteF ?_)⟩
          refine ⟨_, rfl, a, xs, rfl, .inr s1, _, rfl, b, ys, rfl, .inr s2, rfl, _, rfl, iteNS (by rw [el]) ?_⟩
          refine ⟨_, rfl, b, ys, rfl, .inr s2, _, rfl, by omega, by omega, ?_⟩
          refine for_range (lo := 0) (n := (ys.length : Int).toNat) (fun i σ H' => H' = H ∧ ∃ y, σ = [some (.ref a), some (.ref b), y]) ⟨rfl, none, rfl⟩ ?_ ?_
          · rintro i σ H' hi ⟨rfl, y, rfl⟩
            obtain ⟨u, v, hu, hv⟩ := turn i hi
            obtain ⟨r1, r2⟩ := rest i u v hu hv
            exact ⟨_, rfl, _, rfl, .inr (.inl ⟨a, xs, _, u, rfl, rfl, s1, r1, _, rfl, _, rfl, .inr (.inl ⟨b, ys, _, v, rfl, rfl, s2, r2, u, v, rfl, hh i u v hu hv, true, rfl, iteF ⟨rfl, _, rfl⟩⟩)⟩)⟩
          · rintro σ H' ⟨rfl, y, rfl⟩
            exact q
        · exact absurd z (by decide)
      · rcases h2 with ⟨z, _⟩ | ⟨_, s2, t2⟩
        · exact absurd z (by decide)
        · refine ⟨_, rfl, _, rfl, iteF ?_⟩
          refine ⟨_, rfl, _, "list", "bool", false, rfl, t2, by decide +kernel, false, rfl, iteF ?_⟩
          refine ⟨_, rfl, _, "list", "int", false, rfl, t2, by decide +kernel, false, rfl, iteF ?_⟩
          refine ⟨_, rfl, _, "list", "str", false, rfl, t2, by decide +kernel, false, rfl, iteF ?_⟩
          refine ⟨_, rfl, _, "list", "tuple", false, rfl, t2, by decide +kernel, false, rfl, iteF (iteF ?_)⟩
          refine ⟨_, rfl, _, "list", "list", true, rfl, t2, by decide +kernel, true, rfl, iteT ?_⟩
          refine ⟨_, rfl, _, "list", "list", true, rfl, t1, by decide +kernel, true, rfl, iteF ?_⟩
          refine ⟨_, rfl, a, xs, rfl, .inl s1, _, rfl, b, ys, rfl, .inl s2, rfl, _, rfl, iteNS (by rw [el]) ?_⟩
          refine ⟨_, rfl, b, ys, rfl, .inl s2, _, rfl, by omega, by omega, ?_⟩
          refine for_range (lo := 0) (n := (ys.length : Int).toNat) (fun i σ H' => H' = H ∧ ∃ y, σ = [some (.ref a), some (.ref b), y]) ⟨rfl, none, rfl⟩ ?_ ?_
          · rintro i σ H' hi ⟨rfl, y, rfl⟩
            obtain ⟨u, v, hu, hv⟩ := turn i hi
            obtain ⟨r1, r2⟩ := rest i u v hu hv
            exact ⟨_, rfl, _, rfl, .inl ⟨a, xs, _, u, rfl, rfl, s1, r1, _, rfl, _, rfl, .inl ⟨b, ys, _, v, rfl, rfl, s2, r2, u, v, rfl, hh i u v hu hv, true, rfl, iteF ⟨rfl, _, rfl⟩⟩⟩⟩
          · rintro σ H' ⟨rfl, y, rfl⟩
            exact q
theorem ok_same {f : Addr} {fd : FuncData} (DLawSame : DefN K mg "_law_same" sLawSame ["actual", "expected"] f fd) (T : Txt P K mg C fI aK aL aS) : ∀ n, FnOk P w K mg base CX0 (n + 1) f fd ["actual", "expected"] (spSame K n)
  | 0 => same_zero DLawSame T
  | n + 1 => same_step DLawSame T (ok_same DLawSame T n)
end
end Q23
namespace Q23
open PySem PySem.Spec PyProof.Rows L2 SX HL
theorem drop_cons {t : List Nat} {e : Nat} (he : e < t.length) : t.drop e = t.getD e 0 :: t.drop (e + 1) := by
  rw [List.drop_eq_getElem_cons he]
  simp [List.getD_eq_getElem?_getD, he]
theorem run_more (f : Nat → Bool) (t : List Nat) (s e : Nat) (hs : s ≤ e) (he : e < t.length) (hf : f (t.getD e 0) = true) (h : (t.drop s).takeWhile f = (t.drop s).take (e - s) ++ (t.drop e).takeWhile f) :
    (t.drop s).takeWhile f = (t.drop s).take (e + 1 - s) ++ (t.drop (e + 1)).takeWhile f := by
  rw [h, drop_cons he, List.takeWhile_cons, if_pos hf]
  have e1 : e + 1 - s = (e - s) + 1 := by omega
  have e2 : (t.drop s)[e - s]? = some (t.getD e 0) := by
    rw [List.getElem?_drop, show s + (e - s) = e by omega]
    simp [List.getD_eq_getElem?_getD, he]
  rw [e1, List.take_add_one, e2]
  simp
theorem run_stop (f : Nat → Bool) (t : List Nat) (s e : Nat) (hs : s ≤ e) (he : e ≤ t.length) (hf : e < t.length → f (t.getD e 0) = false) (h : (t.drop s).takeWhile f = (t.drop s).take (e - s) ++ (t.drop e).takeWhile f) :
    s + ((t.drop s).takeWhile f).length = e := by
  have z : (t.drop e).takeWhile f = [] := by
    by_cases hl : e < t.length
    · rw [drop_cons hl, List.takeWhile_cons, if_neg (by rw [hf hl]; decide)]
    · rw [List.drop_of_length_le (by omega)]
      rfl
  rw [h, z, List.append_nil, List.length_take, List.length_drop]
  omega
section
variable {P : Program} {w : World} {K : PySem.W.Frag} {mg : Str → Option Value} {base : Heap} {C fI aK aL aS : Addr}
/-! ### end_of_run -/
def spRun : Sp := fun vs H Q _ => ∃ (t : List Nat) (s : Nat) (al : Str), vs = [.str (S t), .int (s : Int), .str al] ∧ s ≤ t.length ∧ t.length ≤ 1000000 ∧
  Q (.int ((s + ((t.drop s).takeWhile (fun c => decide (c ∈ al.cps.toList))).length : Nat) : Int)) H
theorem ok_run {f : Addr} {fd : FuncData} {k : Nat} (D : DefN K mg "end_of_run" sEndOfRun ["chunk", "start", "allowed"] f fd) (T : Txt P K mg C fI aK aL aS) : FnOk P w K mg base CX0 (k + 1) f fd ["chunk", "start", "allowed"] spRun := by
  refine D.F.ok scEndOfRun (fun vs H Q E h => ?_) (fun cdv A outer s H vs Q E hr h => ?_)
  · obtain ⟨t, s, al, rfl, _⟩ := h
    rfl
  · obtain ⟨t, st, al, rfl, hs, hl, q⟩ := h
    refine ⟨_, (pss_cons (ps_set (i := 3) scEndOfRun.nd rfl (.inl rfl) (pv 1))
        (pss_cons (ps_while PassesOwn.never (PW.pt (pw_and (pt_cmpR op_lt (pv 3) (pe_callB call_len_str (by rfl) T.len PySem.boot_len (pa_cons (pv 0) pa_nil)) (nomark _)) (pw_and1 (pt_cmpR op_in_sign (pe_ix ix_str (pv 0) (pv 3) (fun _ _ => rfl)) (pv 2) rfl)))) (pss_one (ps_aug (i := 3) scEndOfRun.nd rfl (.inl rfl) pe_int ip_add)))
        (pss_one (ps_ret (pv 3))))), ?_⟩
    have hts : (S t).length ≤ sizeLine := by rw [S_len]; exact small _ hl
    refine ⟨.int (st : Int), rfl, ?_⟩
    refine ⟨fun m σ H' => H' = H ∧ ∃ e : Nat, m = t.length - e ∧ σ = [some (.str (S t)), some (.int (st : Int)), some (.str al), some (.int (e : Int))] ∧ st ≤ e ∧ e ≤ t.length ∧
      (t.drop st).takeWhile (fun c => decide (c ∈ al.cps.toList)) = (t.drop st).take (e - st) ++ (t.drop e).takeWhile (fun c => decide (c ∈ al.cps.toList)),
      ⟨t.length - st, rfl, st, rfl, rfl, Nat.le_refl _, hs, by simp⟩, ?_⟩
    rintro m σ H' ⟨rfl, e, rfl, rfl, h1, h2, h3⟩
    have out : (e < t.length → decide (t.getD e 0 ∈ al.cps.toList) = false) → Q (.int (e : Int)) H' := fun hf => by
      rw [run_stop _ t st e h1 h2 hf h3] at q
      exact q
    refine ⟨.int (e : Int), rfl, .str (S t), rfl, S t, rfl, hts, _, _, rfl, rfl, _, rfl, ite2 (fun hc => ?_) (fun hc => iteF ⟨_, rfl, out fun z => ?_⟩)⟩
    · have hlt : e < t.length := by
        have := of_decide_eq_true hc
        rw [S_len] at this
        omega
      refine ⟨.str (S t), rfl, .int (e : Int), rfl, S t, e, t.getD e 0, rfl, rfl, hts, sign_at hlt, .str al, rfl, t.getD e 0, al, rfl, rfl, _, rfl, ite2 (fun hc2 => ?_) (fun hc2 => ⟨_, rfl, out fun _ => ?_⟩)⟩
      · refine ⟨fun σ' H2 => H2 = H' ∧ σ' = [some (.str (S t)), some (.int (st : Int)), some (.str al), some (.int ((e + 1 : Nat) : Int))], fun σ' H2 ⟨e1, e2⟩ => ⟨t.length - (e + 1), by omega, e1, e + 1, rfl, e2, by omega, by omega, ?_⟩, ?_⟩
        · exact run_more _ t st e h1 hlt hc2 h3
        · exact ⟨.int (e : Int), rfl, e, 1, rfl, rfl, rfl, rfl⟩
      · simpa using hc2
    · exfalso
      apply hc
      rw [S_len]
      exact decide_eq_true (by omega)
end
end Q23
namespace Q23
open PySem PySem.Spec PyProof.Rows L2 SX HL
def kindS : Kind → Str
  | .keyword => "keyword"
  | .name => "name"
  | .maker => "maker"
  | .number => "number"
  | .text => "text"
  | .sign => "sign"
def vV : Val → V
  | .s l => .str (S l)
  | .n k => .int (k : Int)
abbrev dv : List Nat → Nat := NumText.digitsVal
theorem low_codes (c : Nat) : decide (c ∈ ("abcdefghijklmnopqrstuvwxyz" : Str).cps.toList) = isLow c := by
  have e : ("abcdefghijklmnopqrstuvwxyz" : Str).cps.toList = List.range' 97 26 := by decide +kernel
  rw [e, Bool.eq_iff_iff]
  simp only [isLow, List.mem_range'_1, decide_eq_true_eq, Bool.and_eq_true]
  omega
theorem up_codes (c : Nat) : decide (c ∈ ("ABCDEFGHIJKLMNOPQRSTUVWXYZ" : Str).cps.toList) = isUp c := by
  have e : ("ABCDEFGHIJKLMNOPQRSTUVWXYZ" : Str).cps.toList = List.range' 65 26 := by decide +kernel
  rw [e, Bool.eq_iff_iff]
  simp only [isUp, List.mem_range'_1, decide_eq_true_eq, Bool.and_eq_true]
  omega
theorem dig_codes (c : Nat) : decide (c ∈ ("0123456789" : Str).cps.toList) = isDig c := by
  have e : ("0123456789" : Str).cps.toList = List.range' 48 10 := by decide +kernel
  rw [e, Bool.eq_iff_iff]
  simp only [isDig, List.mem_range'_1, decide_eq_true_eq, Bool.and_eq_true]
  omega
theorem word_codes (c : Nat) : decide (c ∈ ("abcdefghijklmnopqrstuvwxyzABCDEFGHIJKLMNOPQRSTUVWXYZ0123456789_" : Str).cps.toList) = isWord c := by
  have e : ("abcdefghijklmnopqrstuvwxyzABCDEFGHIJKLMNOPQRSTUVWXYZ0123456789_" : Str).cps.toList = List.range' 97 26 ++ List.range' 65 26 ++ List.range' 48 10 ++ [95] := by decide +kernel
  rw [e, Bool.eq_iff_iff]
  simp only [isWord, isLow, isUp, isDig, List.mem_append, List.mem_range'_1, List.mem_singleton, decide_eq_true_eq, Bool.and_eq_true, Bool.or_eq_true]
  omega
theorem blank_codes (c : Nat) : decide (c ∈ (" \n" : Str).cps.toList) = isBlank c := by
  have e : (" \n" : Str).cps.toList = [32, 10] := by decide +kernel
  rw [e, Bool.eq_iff_iff]
  simp [isBlank]
theorem inV_str (w : List Nat) : ∀ l : List (List Nat), inV (.str (S w)) (l.map fun x => V.str (S x)) = decide (w ∈ l)
  | [] => rfl
  | x :: l => by
    have ih := inV_str w l
    unfold inV at ih ⊢
    rw [List.map_cons, List.any_cons, ih]
    have e : eqV (V.str (S x)) (V.str (S w)) = (S x == S w) := rfl
    rw [e, S_beq_eq, Bool.eq_iff_iff]
    simp only [Bool.or_eq_true, decide_eq_true_eq, List.mem_cons]
    constructor
    · rintro (rfl | h)
      · exact .inl rfl
      · exact .inr h
    · rintro (rfl | h)
      · exact .inl rfl
      · exact .inr h
theorem flat_strs (l : List (List Nat)) : (l.map fun x => V.str (S x)).all flatV = true := by
  rw [List.all_eq_true]
  intro x hx
  obtain ⟨y, _, rfl⟩ := List.mem_map.mp hx
  rfl
theorem mid_drop (pre w rest : List Nat) : (pre ++ (w ++ rest)).drop pre.length = w ++ rest := by simp
theorem mid_cut (pre w rest : List Nat) : cutS (S (pre ++ (w ++ rest))) (some (pre.length : Int)) (some ((pre.length + w.length : Nat) : Int)) = S w := by
  rw [cutS_nat _ _ _ (by omega) (by simp), mid_drop]
  congr 2
  simp
theorem mid_get (pre : List Nat) (c : Nat) (r : List Nat) : (pre ++ (c :: r)).getD pre.length 0 = c := by simp
section
variable {P : Program} {w : World} {K : PySem.W.Frag} {mg : Str → Option Value} {base : Heap} {C fI aK aL aS : Addr}
/-- what a reader of one token promises, for the tokens that E allows -/
def spTok (A : List Nat → Prop) : Sp := fun vs H Q _ => ∃ (pre u rest : List Nat) (k : Kind) (v : Val), vs = [.str (S (pre ++ (u ++ rest))), .int (pre.length : Int)] ∧ Lex kws dv u k v ∧ Sep u rest ∧ A u ∧ (pre ++ (u ++ rest)).length ≤ 1000000 ∧
  ∀ p, H p = none → ∀ H', Same H H' → H' p = some (.tup [.str (kindS k), vV v, .int ((pre.length + u.length : Nat) : Int)]) → Q (.ref p) H'
/-! ### word_at -/
theorem ok_word {f fR : Addr} {fd fdR : FuncData} {k : Nat} (D : DefN K mg "word_at" sWordAt ["chunk", "start"] f fd) (T : Txt P K mg C fI aK aL aS) (DEndOfRun : DefN K mg "end_of_run" sEndOfRun ["chunk", "start", "allowed"] fR fdR) :
    FnOk P w K mg base CX0 (k + 2) f fd ["chunk", "start"] (spTok fun u => ∃ c s, u = c :: s ∧ isLet c = true) := by
  have GEndOfRun : FnOk P w K mg base CX0 (k + 1) fR fdR ["chunk", "start", "allowed"] spRun := ok_run DEndOfRun T
  refine D.F.ok scWordAt (fun vs H Q E h => ?_) (fun cdv A outer s H vs Q E hr h => ?_)
  · obtain ⟨pre, u, rest, k, v, rfl, _⟩ := h
    rfl
  · obtain ⟨pre, u, rest, kd, v, rfl, lx, sp, ⟨c, s, rfl, hc⟩, hl, q⟩ := h
    obtain ⟨rfl, rfl, hs⟩ : kd = kindOf kws (c :: s) ∧ v = .s (c :: s) ∧ ∀ x ∈ s, isWord x = true := by
      cases lx with
      | word _ _ _ h2 => exact ⟨rfl, rfl, h2⟩
      | num _ _ h2 _ =>
        exfalso
        have := h2 c (List.mem_cons_self ..)
        simp only [isLet, isLow, isUp, isDig, Bool.or_eq_true, Bool.and_eq_true, decide_eq_true_eq] at hc this
        omega
      | quo x => exact absurd hc (by decide)
      | sign _ h2 =>
        exfalso
        have : ∀ u ∈ signs, isLet (u.headD 0) = false := by decide
        have := this _ h2
        rw [List.headD_cons, hc] at this
        cases this
    refine ⟨_, (pss_cons (ps_set (i := 2) scWordAt.nd rfl (.inl rfl) (pe_call GEndOfRun (hr.mono (by omega)) (by rfl) DEndOfRun.g DEndOfRun.F.kp DEndOfRun.b .nil pass0 (pa_cons (pv 0) (pa_cons (pv 1) (pa_cons (pe_gstr rfl T.g_WORD) pa_nil)))))
        (pss_cons (ps_set (i := 3) scWordAt.nd rfl (.inl rfl) (pe_slice sl_str (pv 0) (po_some (pv 1)) (po_some (pv 2))))
        (pss_cons (ps_if (pt_cmpR op_in_sign (pe_ix ix_str (pv 3) pe_int (fun _ _ => rfl)) (pe_gstr rfl T.g_UPPER) rfl) (pss_one (ps_ret (pe_tup (pa_cons pe_str (pa_cons (pv 3) (pa_cons (pv 2) pa_nil)))))) pss_nil)
        (pss_cons (ps_if (pt_cmpR op_in_seq (pv 3) (pe_glob (v := .ref aK) rfl T.g_KEYWORDS rfl) rfl) (pss_one (ps_ret (pe_tup (pa_cons pe_str (pa_cons (pv 3) (pa_cons (pv 2) pa_nil)))))) pss_nil)
        (pss_one (ps_ret (pe_tup (pa_cons pe_str (pa_cons (pv 3) (pa_cons (pv 2) pa_nil)))))))))), ?_⟩
    have hts : (S (pre ++ (c :: s ++ rest))).length ≤ sizeLine := by rw [S_len]; exact small _ hl
    have hrun : ((pre ++ (c :: s ++ rest)).drop pre.length).takeWhile (fun c => decide (c ∈ ("abcdefghijklmnopqrstuvwxyzABCDEFGHIJKLMNOPQRSTUVWXYZ0123456789_" : Str).cps.toList)) = c :: s := by
      rw [mid_drop, show (fun c => decide (c ∈ ("abcdefghijklmnopqrstuvwxyzABCDEFGHIJKLMNOPQRSTUVWXYZ0123456789_" : Str).cps.toList)) = isWord from funext word_codes]
      refine run_take _ _ (fun x hx => ?_) (sp.1 hc)
      rcases List.mem_cons.mp hx with rfl | hx
      · simp only [isLet, Bool.or_eq_true] at hc
        simp only [isWord, Bool.or_eq_true]
        rcases hc with h | h
        · exact .inl (.inl (.inl h))
        · exact .inl (.inl (.inr h))
      · exact hs x hx
    refine ⟨_, rfl, _, rfl, pre ++ (c :: s ++ rest), pre.length, _, rfl, by simp, hl, ?_⟩
    rw [hrun]
    refine ⟨_, rfl, _, rfl, _, rfl, _, rfl, _, rfl, _, rfl, hts, ?_⟩
    rw [mid_cut]
    have hws : (S (c :: s)).length ≤ sizeLine := by
      rw [S_len]
      refine small _ (Nat.le_trans ?_ hl)
      simp
      omega
    have fin : ∀ kk : Str, kk = kindS (kindOf kws (c :: s)) → ∀ p, H p = none → Q (.ref p) (upd H p (.tup [.str kk, .str (S (c :: s)), .int ((pre.length + (c :: s).length : Nat) : Int)])) := fun kk e p hp => by
      subst e
      exact q p hp _ (same_upd hp) upd_same
    refine ⟨.str (S (c :: s)), rfl, S (c :: s), 0, c, rfl, rfl, hws, atI_nat (j := 0) rfl, c, _, rfl, rfl, _, rfl, ite2 (fun h => ?_) (fun h => ?_)⟩
    · have hu : isUp c = true := by
        rw [up_codes] at h
        exact h
      refine ⟨_, rfl, _, rfl, (by show 3 ≤ sizeLine; decide), fin _ ?_⟩
      simp [kindOf, hu, kindS]
    · have hu : isUp c = false := by
        rw [up_codes] at h
        simpa using h
      refine ⟨.str (S (c :: s)), rfl, aK, _, rfl, .inr (T.sK H), rfl, flat_strs _, _, rfl, ite2 (fun h2 => ?_) (fun h2 => ?_)⟩
      · have hk : c :: s ∈ kws := by
          have h2' : inV (.str (S (c :: s))) (kws.map fun x => V.str (S x)) = true := h2
          rw [inV_str] at h2'
          exact of_decide_eq_true h2'
        refine ⟨_, rfl, _, rfl, (by show 3 ≤ sizeLine; decide), fin _ ?_⟩
        simp [kindOf, hu, hk, kindS]
      · have hk : c :: s ∉ kws := fun z => h2 (by
          show inV (.str (S (c :: s))) (kws.map fun x => V.str (S x)) = true
          rw [inV_str]
          exact decide_eq_true z)
        refine ⟨_, rfl, _, rfl, (by show 3 ≤ sizeLine; decide), fin _ ?_⟩
        simp [kindOf, hu, hk, kindS]
end
end Q23
namespace Q23
open PySem PySem.Spec PyProof.Rows L2 SX HL
theorem pos_small (n : Nat) (h : n ≤ 1000000) : ((n : Int)).natAbs.log2 < 1920 := by
  rw [Int.natAbs_natCast]
  by_cases h0 : n = 0
  · subst h0; decide
  · refine Nat.lt_trans ((Nat.log2_lt h0).mpr (Nat.lt_of_le_of_lt h (show 1000000 < 2 ^ 20 by decide))) (by decide)
theorem enc_append : ∀ x y : List Nat, enc (x ++ y) = enc x ++ enc y
  | [], _ => rfl
  | c :: r, y => by
    simp only [List.cons_append, enc, enc_append r y]
    split <;> simp
theorem enc_len : ∀ x : List Nat, x.length ≤ (enc x).length
  | [] => Nat.le_refl _
  | c :: r => by
    have := enc_len r
    simp only [enc]
    split <;> simp <;> omega
theorem ones_flat : ∀ x : List Nat, (x.map fun c => [c]).flatten = x
  | [] => rfl
  | c :: r => by simp [ones_flat r]
theorem quo_str : ("'" : Str) = S [39] := by decide +kernel
theorem nil_str : ("" : Str) = S [] := by decide +kernel
section
variable {P : Program} {w : World} {K : PySem.W.Frag} {mg : Str → Option Value} {base : Heap} {C fI aK aL aS : Addr}
/-- what a reader of one token promises that may refuse: A the tokens, B what is refused -/
def spTokX (C : Addr) (A B : List Nat → Prop) : Sp := fun vs H Q E => (∃ (pre u rest : List Nat) (k : Kind) (v : Val), vs = [.str (S (pre ++ (u ++ rest))), .int (pre.length : Int)] ∧ Lex kws dv u k v ∧ Sep u rest ∧ A u ∧ (pre ++ (u ++ rest)).length ≤ 1000000 ∧
    ∀ p, H p = none → ∀ H', Same H H' → H' p = some (.tup [.str (kindS k), vV v, .int ((pre.length + u.length : Nat) : Int)]) → Q (.ref p) H') ∨
  (∃ (pre u : List Nat), vs = [.str (S (pre ++ u)), .int (pre.length : Int)] ∧ BadAt u ∧ B u ∧ (pre ++ u).length ≤ 1000000 ∧
    ∀ d, H d = none → ∀ H', Same H H' → H' d = some (.xd [("position", .int (pre.length : Int))]) → E (.ref C) (some d) H')
/-! ### number_at -/
theorem ok_number {f fR : Addr} {fd fdR : FuncData} {k : Nat} (D : DefN K mg "number_at" sNumberAt ["chunk", "start"] f fd) (T : Txt P K mg C fI aK aL aS) (DEndOfRun : DefN K mg "end_of_run" sEndOfRun ["chunk", "start", "allowed"] fR fdR) :
    FnOk P w K mg base (L2.CX P w) (k + 2) f fd ["chunk", "start"] (spTokX C (fun u => isDig (u.headD 0) = true) (fun u => isDig (u.headD 0) = true)) := by
  have GEndOfRun : FnOk P w K mg base CX0 (k + 1) fR fdR ["chunk", "start", "allowed"] spRun := ok_run DEndOfRun T
  refine D.F.okX scNumberAt (fun vs H Q E h => ?_) (fun cdv A outer s H vs Q E hr h => ?_)
  · rcases h with ⟨pre, u, rest, k, v, rfl, _⟩ | ⟨pre, u, rfl, _⟩ <;> rfl
  · obtain ⟨t, st, rfl, hst, hl, hh⟩ : ∃ (t : List Nat) (st : Nat), vs = [.str (S t), .int (st : Int)] ∧ st ≤ t.length ∧ t.length ≤ 1000000 ∧
        ((∃ u rest, t.drop st = u ++ rest ∧ u ≠ [] ∧ (∀ x ∈ u, isDig x = true) ∧ u.length ≤ 18 ∧ (∀ d, rest.head? = some d → isDig d = false) ∧ (t.drop st).take u.length = u ∧
          ∀ p, H p = none → ∀ H', Same H H' → H' p = some (.tup [.str "number", .int (dv u : Int), .int ((st + u.length : Nat) : Int)]) → Q (.ref p) H') ∨
         (18 < ((t.drop st).takeWhile isDig).length ∧ ∀ d, H d = none → ∀ H', Same H H' → H' d = some (.xd [("position", .int (st : Int))]) → E (.ref C) (some d) H')) := by
      rcases h with ⟨pre, u, rest, kd, v, rfl, lx, sp, ha, hl, q⟩ | ⟨pre, u, rfl, bd, hb, hl, q⟩
      · refine ⟨_, _, rfl, by simp, hl, .inl ⟨u, rest, mid_drop pre u rest, lex_ne lx, ?_⟩⟩
        cases lx with
        | word c s h1 _ =>
          exfalso
          simp only [List.headD_cons] at ha
          simp only [isLet, isLow, isUp, isDig, Bool.or_eq_true, Bool.and_eq_true, decide_eq_true_eq] at h1 ha
          omega
        | num _ h1 h2 h3 =>
          refine ⟨h2, h3, ?_, ?_, q⟩
          · obtain ⟨c, s, rfl⟩ := List.exists_cons_of_ne_nil h1
            exact sp.2.1 (h2 c (List.mem_cons_self ..))
          · rw [mid_drop]
            simp
        | quo x => exact absurd ha (by show ¬ (isDig 39 = true); decide)
        | sign _ h2 =>
          exfalso
          have : ∀ u ∈ signs, isDig (u.headD 0) = false := by decide
          rw [this _ h2] at ha
          cases ha
      · refine ⟨_, _, rfl, by simp, hl, .inr ⟨?_, q⟩⟩
        rw [List.drop_left]
        cases bd with
        | num w r h1 h2 => exact Nat.lt_of_lt_of_le h2 (run_ge w r h1)
        | quo x => exact absurd hb (by show ¬ (isDig 39 = true); decide)
        | odd c r _ h2 => rw [List.headD_cons, h2] at hb; cases hb
    refine ⟨_, (pss_cons (ps_set (i := 2) scNumberAt.nd rfl (.inl rfl) (pe_call GEndOfRun (hr.mono (by omega)) (by rfl) DEndOfRun.g DEndOfRun.F.kp DEndOfRun.b .nil pass0 (pa_cons (pv 0) (pa_cons (pv 1) (pa_cons (pe_gstr rfl T.g_DIGITS) pa_nil)))))
        (pss_cons (ps_if (pt_cmpR op_gt (pe_op op_sub (pv 2) (pv 1)) (pe_gint rfl T.g_MOST) (nomark _)) (pss_one (ps_raiseRC rfl T.rc hr (takes_of rfl rfl rfl rfl) (pa_cons (pv 1) pa_nil))) pss_nil)
        (pss_one (ps_ret (pe_tup (pa_cons pe_str (pa_cons (pe_callTy call_int_str (by rfl) T.int HL.boot_int (pa_cons (pe_slice sl_str (pv 0) (po_some (pv 1)) (po_some (pv 2))) pa_nil)) (pa_cons (pv 2) pa_nil)))))))), ?_⟩
    have hts : (S t).length ≤ sizeLine := by rw [S_len]; exact small _ hl
    have ed : (fun c => decide (c ∈ ("0123456789" : Str).cps.toList)) = isDig := funext dig_codes
    refine ⟨_, rfl, _, rfl, t, st, _, rfl, hst, hl, ?_⟩
    rw [ed]
    refine ⟨_, rfl, _, rfl, _, _, rfl, rfl, _, _, rfl, rfl, _, rfl, ite2 (fun hc => ?_) (fun hc => ?_)⟩
    · rcases hh with ⟨u, rest, e1, h1, h2, h3, h4, h5, q⟩ | ⟨h1, q⟩
      · exfalso
        have := of_decide_eq_true hc
        rw [e1, run_take u rest h2 h4] at this
        have h6 : (18 : Int) < ((st + u.length : Nat) : Int) - (st : Int) := this
        omega
      · refine ⟨_, rfl, (st : Int), rfl, pos_small _ (by omega), fun d hd => ?_⟩
        exact q d hd _ (same_upd hd) upd_same
    · rcases hh with ⟨u, rest, e1, h1, h2, h3, h4, h5, q⟩ | ⟨h1, q⟩
      · rw [e1, run_take u rest h2 h4]
        have hle : st + u.length ≤ t.length := by
          have : (t.drop st).length = (u ++ rest).length := by rw [e1]
          rw [List.length_drop, List.length_append] at this
          omega
        refine ⟨_, rfl, _, rfl, _, rfl, _, rfl, _, rfl, S t, rfl, hts, _, (dv u : Int), rfl, ?_, ?_, _, rfl, (by show 3 ≤ sizeLine; decide), fun p hp => ?_⟩
        · rw [cutS_nat _ _ _ (by omega) hle, show st + u.length - st = u.length by omega, h5]
          refine int_S ?_ h1 (by omega)
          rw [List.all_eq_true]
          intro x hx
          have := h2 x hx
          exact this
        · rw [cutS_nat _ _ _ (by omega) hle, show st + u.length - st = u.length by omega, h5, S_len]
          omega
        · exact q p hp _ (same_upd hp) upd_same
      · exfalso
        apply hc
        refine decide_eq_true ?_
        show (18 : Int) < ((st + ((t.drop st).takeWhile isDig).length : Nat) : Int) - (st : Int)
        omega
end
end Q23
namespace Q23
open PySem PySem.Spec PyProof.Rows L2 SX HL
section
variable {P : Program} {w : World} {K : PySem.W.Frag} {mg : Str → Option Value} {base : Heap} {C fI aK aL aS : Addr}
theorem lex_quo {u : List Nat} {k : Kind} {v : Val} (h : Lex kws dv u k v) (h39 : u.headD 0 = 39) : ∃ x, u = 39 :: (enc x ++ [39]) ∧ k = .text ∧ v = .s x := by
  cases h with
  | word c s h1 _ => simp only [List.headD_cons] at h39; subst h39; exact absurd h1 (by decide)
  | num _ h1 h2 _ =>
    obtain ⟨c, s, rfl⟩ := List.exists_cons_of_ne_nil h1
    simp only [List.headD_cons] at h39
    subst h39
    exact absurd (h2 39 (List.mem_cons_self ..)) (by decide)
  | quo x => exact ⟨x, rfl, rfl, rfl⟩
  | sign _ h2 =>
    exfalso
    have : ∀ u ∈ signs, u.headD 0 ≠ 39 := by decide
    exact this _ h2 h39
theorem bad_quo {u : List Nat} (h : BadAt u) (h39 : u.headD 0 = 39) : ∃ x, u = 39 :: enc x := by
  cases h with
  | num w r h1 h2 =>
    cases w with
    | nil => simp at h2
    | cons c s =>
      simp only [List.cons_append, List.headD_cons] at h39
      subst h39
      exact absurd (h1 39 (List.mem_cons_self ..)) (by decide)
  | quo x => exact ⟨x, rfl⟩
  | odd c r _ _ h3 => exact absurd h39 h3
theorem get_mid {t a b : List Nat} {n : Nat} (e : t = a ++ b) (h : a.length = n) : t.drop n = b ∧ ∀ c r, b = c :: r → n < t.length ∧ t.getD n 0 = c := by
  subst e h
  refine ⟨by simp, fun c r h => ?_⟩
  subst h
  simp
/-! ### text_at -/
theorem ok_text {f : Addr} {fd : FuncData} {k : Nat} (D : DefN K mg "text_at" sTextAt ["chunk", "start"] f fd) (T : Txt P K mg C fI aK aL aS) :
    FnOk P w K mg base (L2.CX P w) (k + 1) f fd ["chunk", "start"] (spTokX C (fun u => u.headD 0 = 39) (fun u => u.headD 0 = 39)) := by
  refine D.F.okX scTextAt (fun vs H Q E h => ?_) (fun cdv A outer s H vs Q E hr h => ?_)
  · rcases h with ⟨pre, u, rest, k, v, rfl, _⟩ | ⟨pre, u, rfl, _⟩ <;> rfl
  · obtain ⟨pre, x, z, rfl, hl, hh⟩ : ∃ (pre x z : List Nat), vs = [.str (S (pre ++ (39 :: (enc x ++ z)))), .int (pre.length : Int)] ∧ (pre ++ (39 :: (enc x ++ z))).length ≤ 1000000 ∧
        ((∃ rest, z = 39 :: rest ∧ rest.head? ≠ some 39 ∧ ∀ p, H p = none → ∀ H', Same H H' → H' p = some (.tup [.str "text", .str (S x), .int ((pre.length + 1 + (enc x).length + 1 : Nat) : Int)]) → Q (.ref p) H') ∨
         (z = [] ∧ ∀ d, H d = none → ∀ H', Same H H' → H' d = some (.xd [("position", .int (pre.length : Int))]) → E (.ref C) (some d) H')) := by
      rcases h with ⟨pre, u, rest, kd, v, rfl, lx, sp, ha, hl, q⟩ | ⟨pre, u, rfl, bd, hb, hl, q⟩
      · obtain ⟨x, rfl, rfl, rfl⟩ := lex_quo lx ha
        have e : pre ++ (39 :: (enc x ++ [39]) ++ rest) = pre ++ (39 :: (enc x ++ (39 :: rest))) := by simp
        rw [e] at hl ⊢
        refine ⟨pre, x, 39 :: rest, rfl, hl, .inl ⟨rest, rfl, sp.2.2.1 rfl, ?_⟩⟩
        have e2 : pre.length + (39 :: (enc x ++ [39])).length = pre.length + 1 + (enc x).length + 1 := by simp; omega
        rw [e2] at q
        exact q
      · obtain ⟨x, rfl⟩ := bad_quo bd hb
        have e : pre ++ (39 :: enc x) = pre ++ (39 :: (enc x ++ [])) := by simp
        rw [e] at hl ⊢
        exact ⟨pre, x, [], rfl, hl, .inr ⟨rfl, q⟩⟩
    refine ⟨_, (pss_cons (ps_set (i := 2) scTextAt.nd rfl (.inl rfl) (pe_lst pa_nil))
        (pss_cons (ps_set (i := 3) scTextAt.nd rfl (.inl rfl) (pe_op op_add (pv 1) pe_int))
        (pss_cons (ps_while (passes_of rfl) (pt_cmpR op_lt (pv 3) (pe_callB call_len_str (by rfl) T.len PySem.boot_len (pa_cons (pv 0) pa_nil)) (nomark _)) (pss_one (ps_if (pt_cmpR op_ne (pe_ix ix_str (pv 0) (pv 3) (fun _ _ => rfl)) pe_str (nomark _)) (pss_cons (ps_expr (pe_bm PySem.F.plainAttrs_list PySem.F.slot_list_append PySem.F.type_list_append mt_append (pv 2) (pa_cons (pe_ix ix_str (pv 0) (pv 3) (fun _ _ => rfl)) pa_nil)))
        (pss_one (ps_aug (i := 3) scTextAt.nd rfl (.inl rfl) pe_int ip_add))) (pss_one (ps_if (pt_cmpR op_eq (pe_slice sl_str (pv 0) (po_some (pe_op op_add (pv 3) pe_int)) (po_some (pe_op op_add (pv 3) pe_int))) pe_str (nomark _)) (pss_cons (ps_expr (pe_bm PySem.F.plainAttrs_list PySem.F.slot_list_append PySem.F.type_list_append mt_append (pv 2) (pa_cons pe_str pa_nil)))
        (pss_one (ps_aug (i := 3) scTextAt.nd rfl (.inl rfl) pe_int ip_add))) (pss_one (ps_ret (pe_tup (pa_cons pe_str (pa_cons (pe_join pe_str (pv 2)) (pa_cons (pe_op op_add (pv 3) pe_int) pa_nil)))))))))))
        (pss_one (ps_raiseRC rfl T.rc hr (takes_of rfl rfl rfl rfl) (pa_cons (pv 1) pa_nil)))))), ?_⟩
    rw [quo_str, nil_str]
    generalize et : pre ++ (39 :: (enc x ++ z)) = t at hl ⊢
    have hts : (S t).length ≤ sizeLine := by rw [S_len]; exact small _ hl
    refine ⟨Nat.zero_le _, fun D0 hD => ?_⟩
    refine ⟨_, rfl, _, _, rfl, rfl, ?_⟩
    refine ⟨fun m σ H' => ∃ x1 x2 : List Nat, x = x1 ++ x2 ∧ m = x2.length ∧ σ = [some (.str (S t)), some (.int (pre.length : Int)), some (.ref D0), some (.int ((pre.length + 1 + (enc x1).length : Nat) : Int))] ∧ H' = upd H D0 (.lst (x1.map fun c => V.str (S [c]))),
      ⟨x.length, [], x, rfl, rfl, ?_, rfl⟩, ?_⟩
    · show _ = _
      simp [enc]
      rfl
    rintro m σ H' ⟨x1, x2, ex, rfl, rfl, rfl⟩
    have ht : t = (pre ++ (39 :: enc x1)) ++ (enc x2 ++ z) := by
      rw [← et, ex, enc_append]
      simp
    have hp : (pre ++ (39 :: enc x1)).length = pre.length + 1 + (enc x1).length := by simp; omega
    obtain ⟨hd, hg⟩ := get_mid ht hp
    have hlen : t.length = pre.length + 1 + (enc x1).length + (enc x2).length + z.length := by
      rw [ht]; simp; omega
    have hx1 : x1.length ≤ (enc x1).length := enc_len x1
    have sz1 : (x1.map fun c => V.str (S [c])).length < sizeLine := by
      rw [List.length_map]
      exact Nat.lt_of_le_of_lt (show x1.length ≤ 1000000 by omega) (by decide)
    generalize hq : pre.length + 1 + (enc x1).length = pos at *
    refine ⟨_, rfl, .str (S t), rfl, S t, rfl, hts, _, _, rfl, rfl, _, rfl, ite2 (fun hc => ?_) (fun hc => ?_)⟩
    · have hlt : pos < t.length := by
        have := of_decide_eq_true hc
        rw [S_len] at this
        omega
      refine ⟨fun σ' H2 => ∃ c x3 : _, x2 = c :: x3 ∧ σ' = [some (.str (S t)), some (.int (pre.length : Int)), some (.ref D0), some (.int ((pre.length + 1 + (enc (x1 ++ [c])).length : Nat) : Int))] ∧ H2 = upd H D0 (.lst ((x1 ++ [c]).map fun c => V.str (S [c]))), ?_, ?_⟩
      · rintro σ' H2 ⟨c, x3, rfl, e2, e3⟩
        exact ⟨x3.length, Nat.lt_succ_self _, x1 ++ [c], x3, by rw [ex]; simp, rfl, e2, e3⟩
      · refine ⟨.str (S t), rfl, .int (pos : Int), rfl, S t, pos, t.getD pos 0, rfl, rfl, hts, sign_at hlt, rfl, _, rfl, ?_⟩
        cases x2 with
        | cons c x3 =>
          by_cases c39 : c = 39
          · subst c39
            obtain ⟨_, g⟩ := hg 39 (39 :: enc x3 ++ z) (by simp [enc])
            rw [g]
            refine iteNS rfl ?_
            refine ⟨.str (S t), rfl, _, rfl, _, _, rfl, rfl, _, rfl, _, rfl, _, _, rfl, rfl, _, rfl, S t, rfl, hts, rfl, _, rfl, ?_⟩
            have ec : cutS (S t) (some ((pos : Int) + 1)) (some ((pos : Int) + 2)) = S [39] := by
              have := cutS_any t (pos + 1) (pos + 2)
              have e1 : ((pos + 1 : Nat) : Int) = (pos : Int) + 1 := by omega
              have e2 : ((pos + 2 : Nat) : Int) = (pos : Int) + 2 := by omega
              rw [e1, e2] at this
              rw [this, show pos + 2 - (pos + 1) = 1 by omega, show pos + 1 = pos + 1 from rfl, ← List.drop_drop, hd]
              simp [enc]
            show if (decide (V.str (cutS (S t) (some ((pos : Int) + 1)) (some ((pos : Int) + 2))) = V.str (S [39]))) = true then _ else _
            rw [ec, decide_eq_true rfl]
            refine iteT ?_
            refine ⟨.ref D0, rfl, .inl ⟨rfl, _, SqL.of upd_same⟩, D0, _, _, rfl, rfl, upd_same, sz1, ?_⟩
            refine ⟨_, rfl, _, _, rfl, rfl, 39, x3, rfl, ?_, ?_⟩
            · rw [enc_append]
              have e3 : pre.length + 1 + (enc x1 ++ enc [39]).length = pos + 2 := by simp [enc]; omega
              rw [e3]
              rfl
            · rw [upd_upd]; simp
          · obtain ⟨_, g⟩ := hg c (enc x3 ++ z) (by simp [enc, c39])
            rw [g]
            have ne : V.str (S [c]) ≠ V.str (S [39]) := fun z => c39 (by
              have := S_inj (V.str.inj z)
              simpa using this)
            show if (!decide (V.str (S [c]) = V.str (S [39]))) = true then _ else _
            rw [decide_eq_false ne]
            refine iteT ?_
            refine ⟨.ref D0, rfl, .inl ⟨rfl, _, SqL.of upd_same⟩, .str (S t), rfl, .int (pos : Int), rfl, S t, pos, c, rfl, rfl, hts, by rw [sign_at hlt, g], D0, _, _, rfl, rfl, upd_same, sz1, ?_⟩
            refine ⟨_, rfl, _, _, rfl, rfl, c, x3, rfl, ?_, ?_⟩
            · rw [enc_append]
              have e3 : pre.length + 1 + (enc x1 ++ enc [c]).length = pos + 1 := by simp [enc, c39]; omega
              rw [e3]
              rfl
            · rw [upd_upd]; simp
        | nil =>
          rcases hh with ⟨rest, rfl, hr39, q⟩ | ⟨rfl, q⟩
          · obtain ⟨_, g⟩ := hg 39 rest (by simp [enc])
            rw [g]
            refine iteNS rfl ?_
            refine ⟨.str (S t), rfl, _, rfl, _, _, rfl, rfl, _, rfl, _, rfl, _, _, rfl, rfl, _, rfl, S t, rfl, hts, rfl, _, rfl, ?_⟩
            have ec : cutS (S t) (some ((pos : Int) + 1)) (some ((pos : Int) + 2)) ≠ S [39] := by
              have := cutS_any t (pos + 1) (pos + 2)
              have e1 : ((pos + 1 : Nat) : Int) = (pos : Int) + 1 := by omega
              have e2 : ((pos + 2 : Nat) : Int) = (pos : Int) + 2 := by omega
              rw [e1, e2] at this
              rw [this, show pos + 2 - (pos + 1) = 1 by omega, ← List.drop_drop, hd]
              intro z
              have z2 := S_inj z
              simp only [enc, List.nil_append, List.drop_succ_cons, List.drop_zero] at z2
              cases rest with
              | nil => simp at z2
              | cons d r =>
                simp at z2
                subst z2
                exact hr39 rfl
            show if (decide (V.str (cutS (S t) (some ((pos : Int) + 1)) (some ((pos : Int) + 2))) = V.str (S [39]))) = true then _ else _
            rw [decide_eq_false (fun z => ec (V.str.inj z))]
            refine iteF ?_
            have ex1 : x = x1 := by rw [ex]; simp
            have esl : (x1.map fun c => V.str (S [c])) = ((x1.map fun c => [c]).map S).map V.str := by simp
            refine ⟨⟨_, rfl⟩, .ref D0, rfl, S [], D0, (x1.map fun c => [c]).map S, rfl, rfl, .inl (by rw [← esl]; exact SqL.of upd_same), ?_, ?_⟩
            · rw [SX.lens, S_len, List.length_nil, Nat.mul_zero, Nat.add_zero]
              have : ((x1.map fun c => [c]).map (·.length)).sum = x1.length := by
                have := congrArg List.length (ones_flat x1)
                rw [List.length_flatten] at this
                exact this
              rw [this]
              omega
            · rw [join_S, joinL_nil, ones_flat]
              refine ⟨_, rfl, _, _, rfl, rfl, (by show 3 ≤ sizeLine; decide), fun p hp => ?_⟩
              have hp0 : H p = none := (same_upd hD).free hp
              refine q p hp0 _ ((same_upd hD).trans (same_upd hp)) ?_
              rw [upd_same, ex1]
              have e3 : ((pre.length + 1 + (enc x1).length + 1 : Nat) : Int) = (pos : Int) + 1 := by rw [hq]; omega
              rw [e3]
          · exfalso
            simp [enc] at hlen
            omega
    · -- the end of the text
      rcases hh with ⟨rest, rfl, hr39, q⟩ | ⟨rfl, q⟩
      · exfalso
        apply hc
        rw [S_len]
        refine decide_eq_true ?_
        simp at hlen
        omega
      · refine ⟨_, rfl, (pre.length : Int), rfl, pos_small _ (by omega), fun d hd2 => ?_⟩
        exact q d ((same_upd hD).free hd2) _ ((same_upd hD).trans (same_upd hd2)) upd_same
end
end Q23
namespace Q23
open PySem PySem.Spec PyProof.Rows L2 SX HL
theorem take_two {t a b : List Nat} {n : Nat} (e : t = a ++ b) (h : a.length = n) : cutS (S t) (some (n : Int)) (some ((n : Int) + 2)) = S (b.take 2) := by
  have := cutS_any t n (n + 2)
  have e2 : ((n + 2 : Nat) : Int) = (n : Int) + 2 := by omega
  rw [e2] at this
  rw [this, show n + 2 - n = 2 by omega]
  subst e h
  simp
section
variable {P : Program} {w : World} {K : PySem.W.Frag} {mg : Str → Option Value} {base : Heap} {C fI aK aL aS : Addr}
def OtherHead (u : List Nat) : Prop := isLet (u.headD 0) = false ∧ isDig (u.headD 0) = false ∧ u.headD 0 ≠ 39
/-! ### sign_at -/
theorem ok_sign {f : Addr} {fd : FuncData} {k : Nat} (D : DefN K mg "sign_at" sSignAt ["chunk", "start"] f fd) (T : Txt P K mg C fI aK aL aS) :
    FnOk P w K mg base (L2.CX P w) (k + 1) f fd ["chunk", "start"] (spTokX C OtherHead OtherHead) := by
  refine D.F.okX scSignAt (fun vs H Q E h => ?_) (fun cdv A outer s H vs Q E hr h => ?_)
  · rcases h with ⟨pre, u, rest, k, v, rfl, _⟩ | ⟨pre, u, rfl, _⟩ <;> rfl
  · obtain ⟨pre, c, b, rfl, hl, hh⟩ : ∃ (pre : List Nat) (c : Nat) (b : List Nat), vs = [.str (S (pre ++ (c :: b))), .int (pre.length : Int)] ∧ (pre ++ (c :: b)).length ≤ 1000000 ∧
        ((∃ d r, b = d :: r ∧ [c, d] ∈ longs ∧ ∀ p, H p = none → ∀ H', Same H H' → H' p = some (.tup [.str "sign", .str (S [c, d]), .int ((pre.length + 2 : Nat) : Int)]) → Q (.ref p) H') ∨
         ((c :: b).take 2 ∉ longs ∧ c ∈ shorts ∧ ∀ p, H p = none → ∀ H', Same H H' → H' p = some (.tup [.str "sign", .str (S [c]), .int ((pre.length + 1 : Nat) : Int)]) → Q (.ref p) H') ∨
         ((c :: b).take 2 ∉ longs ∧ c ∉ shorts ∧ ∀ d, H d = none → ∀ H', Same H H' → H' d = some (.xd [("position", .int (pre.length : Int))]) → E (.ref C) (some d) H')) := by
      rcases h with ⟨pre, u, rest, kd, v, rfl, lx, sp, ⟨a1, a2, a3⟩, hl, q⟩ | ⟨pre, u, rfl, bd, ⟨b1, b2, b3⟩, hl, q⟩
      · cases lx with
        | word c s h1 _ => rw [List.headD_cons, h1] at a1; cases a1
        | num _ h1 h2 _ =>
          obtain ⟨c, s, rfl⟩ := List.exists_cons_of_ne_nil h1
          rw [List.headD_cons, h2 c (List.mem_cons_self ..)] at a2
          cases a2
        | quo x => exact absurd rfl a3
        | sign _ h2 =>
          rcases List.mem_append.mp h2 with h3 | h3
          · obtain ⟨c, hc, rfl⟩ := List.mem_map.mp h3
            refine ⟨pre, c, rest, rfl, hl, .inr (.inl ⟨?_, hc, q⟩)⟩
            cases rest with
            | nil => intro z; exact absurd z (by
                have : ∀ x ∈ longs, x.length = 2 := by decide
                intro z
                have := this _ z
                simp at this)
            | cons d r => exact sp.2.2.2 a1 a2 a3 rfl d rfl
          · have : ∀ x ∈ longs, ∃ c d, x = [c, d] := by
              intro x hx
              simp only [longs, List.mem_cons, List.not_mem_nil, or_false] at hx
              rcases hx with rfl | rfl | rfl | rfl <;> exact ⟨_, _, rfl⟩
            obtain ⟨c, d, rfl⟩ := this _ h3
            exact ⟨pre, c, d :: rest, rfl, hl, .inl ⟨d, rest, rfl, h3, q⟩⟩
      · cases bd with
        | num w r h1 h2 =>
          exfalso
          cases w with
          | nil => simp at h2
          | cons c s =>
            rw [List.cons_append, List.headD_cons, h1 c (List.mem_cons_self ..)] at b2
            cases b2
        | quo x => exact absurd rfl b3
        | odd c r h1 h2 h3 h4 h5 h6 =>
          refine ⟨pre, c, r, rfl, hl, .inr (.inr ⟨?_, h5, q⟩)⟩
          cases r with
          | nil => intro z; exact absurd z (by
              have : ∀ x ∈ longs, x.length = 2 := by decide
              intro z
              have := this _ z
              simp at this)
          | cons d r => exact h6 d
    refine ⟨_, (pss_cons (ps_if (pt_cmpR op_in_seq (pe_slice sl_str (pv 0) (po_some (pv 1)) (po_some (pe_op op_add (pv 1) pe_int))) (pe_glob (v := .ref aL) rfl T.g_LONG_SIGNS rfl) rfl) (pss_one (ps_ret (pe_tup (pa_cons pe_str (pa_cons (pe_slice sl_str (pv 0) (po_some (pv 1)) (po_some (pe_op op_add (pv 1) pe_int))) (pa_cons (pe_op op_add (pv 1) pe_int) pa_nil)))))) pss_nil)
        (pss_cons (ps_if (pt_cmpR op_in_seq (pe_ix ix_str (pv 0) (pv 1) (fun _ _ => rfl)) (pe_glob (v := .ref aS) rfl T.g_SHORT_SIGNS rfl) rfl) (pss_one (ps_ret (pe_tup (pa_cons pe_str (pa_cons (pe_ix ix_str (pv 0) (pv 1) (fun _ _ => rfl)) (pa_cons (pe_op op_add (pv 1) pe_int) pa_nil)))))) pss_nil)
        (pss_one (ps_raiseRC rfl T.rc hr (takes_of rfl rfl rfl rfl) (pa_cons (pv 1) pa_nil))))), ?_⟩
    generalize et : pre ++ (c :: b) = t at hl ⊢
    have hts : (S t).length ≤ sizeLine := by rw [S_len]; exact small _ hl
    have e2 := take_two et.symm (rfl : pre.length = pre.length)
    obtain ⟨_, hg⟩ := get_mid et.symm (rfl : pre.length = pre.length)
    obtain ⟨hlt, g⟩ := hg c b rfl
    have eS : (shorts.map fun x => V.str (S [x])) = (shorts.map fun x => [x]).map fun x => V.str (S x) := by simp
    refine ⟨.str (S t), rfl, _, rfl, _, rfl, _, rfl, _, _, rfl, rfl, _, rfl, S t, rfl, hts, aL, _, rfl, .inr (T.sL H), rfl, flat_strs _, _, rfl, ?_⟩
    show if inV (.str (cutS (S t) (some (pre.length : Int)) (some ((pre.length : Int) + 2)))) (longs.map fun x => V.str (S x)) = true then _ else _
    rw [e2, inV_str]
    refine ite2 (fun hc => ?_) (fun hc => ?_)
    · have hc := of_decide_eq_true hc
      rcases hh with ⟨d, r, rfl, h1, q⟩ | ⟨h1, _⟩ | ⟨h1, _⟩
      · refine ⟨.str (S t), rfl, _, rfl, _, rfl, _, rfl, _, _, rfl, rfl, _, rfl, S t, rfl, hts, _, rfl, _, _, rfl, rfl, (by show 3 ≤ sizeLine; decide), fun p hp => ?_⟩
        refine q p hp _ (same_upd hp) ?_
        show (upd H p (.tup [.str "sign", .str (cutS (S t) (some (pre.length : Int)) (some ((pre.length : Int) + 2))), .int ((pre.length : Int) + 2)])) p = _
        rw [upd_same, e2]
        rfl
      · exact absurd hc h1
      · exact absurd hc h1
    · have hc : (c :: b).take 2 ∉ longs := fun z => hc (decide_eq_true z)
      refine ⟨.str (S t), rfl, .int (pre.length : Int), rfl, S t, pre.length, c, rfl, rfl, hts, by rw [sign_at hlt, g], aS, _, rfl, .inr (T.sS H), rfl, ?_, _, rfl, ?_⟩
      · rw [eS]; exact flat_strs _
      show if inV (.str (S [c])) (shorts.map fun x => V.str (S [x])) = true then _ else _
      rw [eS, inV_str]
      have em : decide ([c] ∈ shorts.map fun x => [x]) = decide (c ∈ shorts) := by
        rw [Bool.eq_iff_iff]
        simp
      rw [em]
      refine ite2 (fun hs => ?_) (fun hs => ?_)
      · have hs := of_decide_eq_true hs
        rcases hh with ⟨d, r, rfl, h1, q⟩ | ⟨h1, h2, q⟩ | ⟨h1, h2, q⟩
        · exact absurd h1 hc
        · refine ⟨.str (S t), rfl, .int (pre.length : Int), rfl, S t, pre.length, c, rfl, rfl, hts, by rw [sign_at hlt, g], _, rfl, _, _, rfl, rfl, (by show 3 ≤ sizeLine; decide), fun p hp => ?_⟩
          exact q p hp _ (same_upd hp) upd_same
        · exact absurd hs h2
      · rcases hh with ⟨d, r, rfl, h1, q⟩ | ⟨h1, h2, q⟩ | ⟨h1, h2, q⟩
        · exact absurd h1 hc
        · exact absurd (decide_eq_true h2) hs
        · refine ⟨_, rfl, (pre.length : Int), rfl, pos_small _ (by omega), fun d hd => ?_⟩
          exact q d hd _ (same_upd hd) upd_same
end
end Q23
namespace Q23
open PySem PySem.Spec PyProof.Rows L2 SX HL
theorem head_cons {u rest pre : List Nat} (h : u ≠ []) : ∃ b, pre ++ (u ++ rest) = pre ++ (u.headD 0 :: b) := by
  obtain ⟨c, s, rfl⟩ := List.exists_cons_of_ne_nil h
  exact ⟨s ++ rest, by simp⟩
theorem bad_ne {u : List Nat} (h : BadAt u) : u ≠ [] := by
  cases h with
  | num w r _ h2 =>
    intro e
    have z := (List.append_eq_nil_iff.mp e).1
    subst z
    simp at h2
  | quo x => simp
  | odd c r _ _ _ => simp
theorem bad_let {u : List Nat} (h : BadAt u) : isLet (u.headD 0) = false := by
  cases h with
  | num w r h1 h2 =>
    cases w with
    | nil => simp at h2
    | cons c s =>
      have hd := h1 c (List.mem_cons_self ..)
      show isLet c = false
      cases hl : isLet c with
      | false => rfl
      | true =>
        exfalso
        simp only [isLet, isLow, isUp, isDig, Bool.or_eq_true, Bool.and_eq_true, decide_eq_true_eq] at hd hl
        omega
  | quo x => rfl
  | odd c r h1 _ _ => exact h1
section
variable {P : Program} {w : World} {K : PySem.W.Frag} {mg : Str → Option Value} {base : Heap} {C fI aK aL aS : Addr}
/-! ### token_at -/
theorem ok_token {f fR fW fN fT fS : Addr} {fd fdR fdW fdN fdT fdS : FuncData} {k : Nat} (D : DefN K mg "token_at" sTokenAt ["chunk", "start"] f fd) (T : Txt P K mg C fI aK aL aS) (DEndOfRun : DefN K mg "end_of_run" sEndOfRun ["chunk", "start", "allowed"] fR fdR)
    (DWordAt : DefN K mg "word_at" sWordAt ["chunk", "start"] fW fdW) (DNumberAt : DefN K mg "number_at" sNumberAt ["chunk", "start"] fN fdN) (DTextAt : DefN K mg "text_at" sTextAt ["chunk", "start"] fT fdT) (DSignAt : DefN K mg "sign_at" sSignAt ["chunk", "start"] fS fdS) :
    FnOk P w K mg base (L2.CX P w) (k + 3) f fd ["chunk", "start"] (spTokX C (fun _ => True) (fun _ => True)) := by
  have GWordAt : FnOk P w K mg base CX0 (k + 2) fW fdW ["chunk", "start"] (spTok fun u => ∃ c s, u = c :: s ∧ isLet c = true) := ok_word DWordAt T DEndOfRun
  have GNumberAt : FnOk P w K mg base (L2.CX P w) (k + 2) fN fdN ["chunk", "start"] (spTokX C (fun u => isDig (u.headD 0) = true) (fun u => isDig (u.headD 0) = true)) := ok_number DNumberAt T DEndOfRun
  have GTextAt : FnOk P w K mg base (L2.CX P w) (k + 1) fT fdT ["chunk", "start"] (spTokX C (fun u => u.headD 0 = 39) (fun u => u.headD 0 = 39)) := ok_text DTextAt T
  have GSignAt : FnOk P w K mg base (L2.CX P w) (k + 1) fS fdS ["chunk", "start"] (spTokX C OtherHead OtherHead) := ok_sign DSignAt T
  refine D.F.okX scTokenAt (fun vs H Q E h => ?_) (fun cdv A outer s H vs Q E hr h => ?_)
  · rcases h with ⟨pre, u, rest, k, v, rfl, _⟩ | ⟨pre, u, rfl, _⟩ <;> rfl
  · obtain ⟨pre, c, b, rfl, hl, hW, hN, hT, hS⟩ : ∃ (pre : List Nat) (c : Nat) (b : List Nat), vs = [.str (S (pre ++ (c :: b))), .int (pre.length : Int)] ∧ (pre ++ (c :: b)).length ≤ 1000000 ∧
        (isLet c = true → spTok (fun u => ∃ c s, u = c :: s ∧ isLet c = true) [.str (S (pre ++ (c :: b))), .int (pre.length : Int)] H Q E0) ∧
        (isDig c = true → spTokX C (fun u => isDig (u.headD 0) = true) (fun u => isDig (u.headD 0) = true) [.str (S (pre ++ (c :: b))), .int (pre.length : Int)] H Q E) ∧
        (c = 39 → spTokX C (fun u => u.headD 0 = 39) (fun u => u.headD 0 = 39) [.str (S (pre ++ (c :: b))), .int (pre.length : Int)] H Q E) ∧
        (isLet c = false → isDig c = false → c ≠ 39 → spTokX C OtherHead OtherHead [.str (S (pre ++ (c :: b))), .int (pre.length : Int)] H Q E) := by
      rcases h with ⟨pre, u, rest, kd, v, rfl, lx, sp, _, hl, q⟩ | ⟨pre, u, rfl, bd, _, hl, q⟩
      · obtain ⟨b, e⟩ := head_cons (rest := rest) (pre := pre) (lex_ne lx)
        have hl2 := hl
        rw [e] at hl2
        refine ⟨pre, u.headD 0, b, by rw [e], hl2, fun h => ?_, fun h => ?_, fun h => ?_, fun h1 h2 h3 => ?_⟩
        · obtain ⟨c, s, rfl⟩ := List.exists_cons_of_ne_nil (lex_ne lx)
          exact ⟨pre, c :: s, rest, kd, v, by rw [e], lx, sp, ⟨c, s, rfl, h⟩, hl, q⟩
        · exact .inl ⟨pre, u, rest, kd, v, by rw [e], lx, sp, h, hl, q⟩
        · exact .inl ⟨pre, u, rest, kd, v, by rw [e], lx, sp, h, hl, q⟩
        · exact .inl ⟨pre, u, rest, kd, v, by rw [e], lx, sp, ⟨h1, h2, h3⟩, hl, q⟩
      · obtain ⟨b, e⟩ := head_cons (rest := []) (pre := pre) (bad_ne bd)
        rw [List.append_nil] at e
        have hl2 := hl
        rw [e] at hl2
        refine ⟨pre, u.headD 0, b, by rw [e], hl2, fun h => ?_, fun h => ?_, fun h => ?_, fun h1 h2 h3 => ?_⟩
        · rw [bad_let bd] at h; cases h
        · exact .inr ⟨pre, u, by rw [e], bd, h, hl, q⟩
        · exact .inr ⟨pre, u, by rw [e], bd, h, hl, q⟩
        · exact .inr ⟨pre, u, by rw [e], bd, ⟨h1, h2, h3⟩, hl, q⟩
    clear h
    refine ⟨_, (pss_cons (ps_set (i := 2) scTokenAt.nd rfl (.inl rfl) (pe_ix ix_str (pv 0) (pv 1) (fun _ _ => rfl)))
        (pss_cons (ps_if (PW.pt (pw_or (pt_cmpR op_in_sign (pv 2) (pe_gstr rfl T.g_LOWER) rfl) (pw_or1 (pt_cmpR op_in_sign (pv 2) (pe_gstr rfl T.g_UPPER) rfl)))) (pss_one (ps_ret (pe_call GWordAt (hr.mono (by omega)) (by rfl) DWordAt.g DWordAt.F.kp DWordAt.b .nil pass0 (pa_cons (pv 0) (pa_cons (pv 1) pa_nil))))) pss_nil)
        (pss_cons (ps_if (pt_cmpR op_in_sign (pv 2) (pe_gstr rfl T.g_DIGITS) rfl) (pss_one (ps_ret (pe_call GNumberAt (hr.mono (by omega)) (by rfl) DNumberAt.g DNumberAt.F.kp DNumberAt.b .nil (passes_call (takes_of rfl rfl rfl rfl) (fun _ _ _ _ h => h)) (pa_cons (pv 0) (pa_cons (pv 1) pa_nil))))) pss_nil)
        (pss_cons (ps_if (pt_cmpR op_eq (pv 2) pe_str (nomark _)) (pss_one (ps_ret (pe_call GTextAt (hr.mono (by omega)) (by rfl) DTextAt.g DTextAt.F.kp DTextAt.b .nil (passes_call (takes_of rfl rfl rfl rfl) (fun _ _ _ _ h => h)) (pa_cons (pv 0) (pa_cons (pv 1) pa_nil))))) pss_nil)
        (pss_one (ps_ret (pe_call GSignAt (hr.mono (by omega)) (by rfl) DSignAt.g DSignAt.F.kp DSignAt.b .nil (passes_call (takes_of rfl rfl rfl rfl) (fun _ _ _ _ h => h)) (pa_cons (pv 0) (pa_cons (pv 1) pa_nil))))))))), ?_⟩
    generalize et : pre ++ (c :: b) = t at hl hW hN hT hS ⊢
    have hts : (S t).length ≤ sizeLine := by rw [S_len]; exact small _ hl
    obtain ⟨_, hg⟩ := get_mid et.symm (rfl : pre.length = pre.length)
    obtain ⟨hlt, g⟩ := hg c b rfl
    have eq39 : (decide (V.str (S [c]) = V.str (S [39])) = true) ↔ c = 39 := by
      constructor
      · intro z
        have := S_inj (V.str.inj (of_decide_eq_true z))
        simpa using this
      · rintro rfl
        exact decide_eq_true rfl
    rw [quo_str]
    refine ⟨.str (S t), rfl, .int (pre.length : Int), rfl, S t, pre.length, c, rfl, rfl, hts, by rw [sign_at hlt, g], ?_⟩
    refine ⟨_, rfl, c, _, rfl, rfl, _, rfl, ?_⟩
    rw [low_codes]
    have goLet : isLet c = true → (tRet (tCall (spTok fun u => ∃ c s, u = c :: s ∧ isLet c = true) [] E0 (tCons (tVar 0) (tCons (tVar 1) tNil)))) { nx := fun _ H' => Q .non H', rt := Q } [some (.str (S t)), some (.int (pre.length : Int)), some (.str (S [c]))] H := fun h =>
      ⟨_, rfl, _, rfl, hW h⟩
    cases hlow : isLow c with
    | true => exact iteT (iteT (goLet (by simp [isLet, hlow])))
    | false =>
      refine iteF ⟨_, rfl, c, _, rfl, rfl, _, rfl, ?_⟩
      rw [up_codes]
      cases hup : isUp c with
      | true => exact iteT (goLet (by simp [isLet, hup]))
      | false =>
        refine iteF ⟨_, rfl, c, _, rfl, rfl, _, rfl, ?_⟩
        rw [dig_codes]
        cases hdg : isDig c with
        | true => exact iteT ⟨_, rfl, _, rfl, hN hdg⟩
        | false =>
          refine iteF ⟨_, rfl, rfl, _, rfl, ?_⟩
          refine ite2 (fun h => ⟨_, rfl, _, rfl, hT (eq39.mp h)⟩) (fun h => ⟨_, rfl, _, rfl, hS (by simp [isLet, hlow, hup]) hdg (fun z => h (eq39.mpr z))⟩)
end
end Q23
namespace Q23
open PySem PySem.Spec PyProof.Rows L2 SX HL
/-- the told tokens -/
def Rows (H : Hp) (ps : List Addr) (L : List (Kind × Val × Nat)) : Prop := ps.length = L.length ∧ ∀ (i : Nat) (k : Kind) (v : Val) (o : Nat), L[i]? = some (k, v, o) → ∃ a : Addr, ps[i]? = some a ∧ H a = some (.tup [.str (kindS k), vV v, .int (o : Int)])
theorem Rows.keep {H H' : Hp} {ps : List Addr} {L : List (Kind × Val × Nat)} (h : Rows H ps L) (s : ∀ a xs, H a = some (.tup xs) → H' a = some (.tup xs)) : Rows H' ps L := by
  refine ⟨h.1, fun i k v o e => ?_⟩
  obtain ⟨a, h1, h2⟩ := h.2 i k v o e
  exact ⟨a, h1, s _ _ h2⟩
theorem Rows.snoc {H : Hp} {ps : List Addr} {L : List (Kind × Val × Nat)} {a : Addr} {k : Kind} {v : Val} {o : Nat} (h : Rows H ps L) (ha : H a = some (.tup [.str (kindS k), vV v, .int (o : Int)])) : Rows H (ps ++ [a]) (L ++ [(k, v, o)]) := by
  refine ⟨by simp [h.1], fun i k' v' o' e => ?_⟩
  by_cases hi : i < L.length
  · rw [List.getElem?_append_left hi] at e
    obtain ⟨b, h1, h2⟩ := h.2 i k' v' o' e
    refine ⟨b, ?_, h2⟩
    rw [List.getElem?_append_left (by rw [h.1]; exact hi)]
    exact h1
  · have hi2 : i = L.length := by
      have := (List.getElem?_eq_some_iff.mp e).1
      simp at this
      omega
    subst hi2
    have e' : (k, v, o) = (k', v', o') := by simpa using e
    cases e'
    refine ⟨a, ?_, ha⟩
    rw [← h.1]
    simp
theorem lex_blank {u : List Nat} {k : Kind} {v : Val} (h : Lex kws dv u k v) : isBlank (u.headD 0) = false := by
  cases h with
  | word c s h1 _ =>
    cases hb : isBlank c with
    | false => rw [List.headD_cons, hb]
    | true =>
      exfalso
      simp only [isLet, isLow, isUp, isBlank, Bool.or_eq_true, Bool.and_eq_true, decide_eq_true_eq] at h1 hb
      omega
  | num _ h1 h2 _ =>
    obtain ⟨c, s, rfl⟩ := List.exists_cons_of_ne_nil h1
    have hd := h2 c (List.mem_cons_self ..)
    cases hb : isBlank c with
    | false => rw [List.headD_cons, hb]
    | true =>
      exfalso
      simp only [isDig, isBlank, Bool.or_eq_true, Bool.and_eq_true, decide_eq_true_eq] at hd hb
      omega
  | quo x => rfl
  | sign _ h2 =>
    have : ∀ u ∈ signs, isBlank (u.headD 0) = false := by decide
    exact this _ h2
theorem bad_blank {u : List Nat} (h : BadAt u) : isBlank (u.headD 0) = false := by
  cases h with
  | num w r h1 h2 =>
    cases w with
    | nil => simp at h2
    | cons c s =>
      have hd := h1 c (List.mem_cons_self ..)
      show isBlank c = false
      cases hb : isBlank c with
      | false => rfl
      | true =>
        exfalso
        simp only [isDig, isBlank, Bool.or_eq_true, Bool.and_eq_true, decide_eq_true_eq] at hd hb
        omega
  | quo x => rfl
  | odd c r _ _ _ h4 => exact h4
theorem toks_cons {n c : Nat} {r : List Nat} {L : List (Kind × Val × Nat)} (h : Toks kws dv n (c :: r) L) : (isBlank c = true ∧ Toks kws dv (n + 1) r L) ∨
    (isBlank c = false ∧ ∃ u rest k v L2, c :: r = u ++ rest ∧ Lex kws dv u k v ∧ Sep u rest ∧ L = (k, v, n) :: L2 ∧ Toks kws dv (n + u.length) rest L2) := by
  generalize e : c :: r = x at h
  cases h with
  | nil => cases e
  | blank h1 h2 => cases e; exact .inl ⟨h1, h2⟩
  | @tok _ u rest k v L2 h1 h2 h3 =>
    refine .inr ⟨?_, u, rest, k, v, L2, rfl, h1, h2, rfl, h3⟩
    have := lex_blank h1
    obtain ⟨d, s, rfl⟩ := List.exists_cons_of_ne_nil (lex_ne h1)
    cases e
    exact this
theorem bad_cons {n c q : Nat} {r : List Nat} (h : Bad kws dv n (c :: r) q) : (isBlank c = true ∧ Bad kws dv (n + 1) r q) ∨
    (isBlank c = false ∧ ((q = n ∧ BadAt (c :: r)) ∨ ∃ u rest k v, c :: r = u ++ rest ∧ Lex kws dv u k v ∧ Sep u rest ∧ Bad kws dv (n + u.length) rest q)) := by
  generalize e : c :: r = x at h
  cases h with
  | here h1 =>
    subst e
    exact .inr ⟨bad_blank h1, .inl ⟨rfl, h1⟩⟩
  | blank h1 h2 => cases e; exact .inl ⟨h1, h2⟩
  | @tok _ _ u rest k v h1 h2 h3 =>
    refine .inr ⟨?_, .inr ⟨u, rest, k, v, rfl, h1, h2, h3⟩⟩
    have := lex_blank h1
    obtain ⟨d, s, rfl⟩ := List.exists_cons_of_ne_nil (lex_ne h1)
    cases e
    exact this
theorem toks_nil {n : Nat} {L : List (Kind × Val × Nat)} (h : Toks kws dv n [] L) : L = [] := by
  generalize e : ([] : List Nat) = x at h
  cases h with
  | nil => rfl
  | blank h1 h2 => cases e
  | tok h1 h2 h3 => exact absurd (List.append_eq_nil_iff.mp e.symm).1 (lex_ne h1)
theorem bad_nil {n q : Nat} (h : Bad kws dv n [] q) : False := by
  generalize e : ([] : List Nat) = x at h
  cases h with
  | here h1 => subst e; exact bad_ne h1 rfl
  | blank h1 h2 => cases e
  | tok h1 h2 h3 => exact absurd (List.append_eq_nil_iff.mp e.symm).1 (lex_ne h1)
section
variable {P : Program} {w : World} {K : PySem.W.Frag} {mg : Str → Option Value} {base : Heap} {C fI aK aL aS : Addr}
/-! ### tokenize -/
def spTokenize (C : Addr) : Sp := fun vs H Q E => ∃ t : List Nat, vs = [.str (S t)] ∧ t.length ≤ 1000000 ∧
  ((∃ L, Toks kws dv 0 t L ∧ ∀ p H' ps, Same H H' → H' p = some (.lst (ps.map V.ref)) → Rows H' ps L → Q (.ref p) H') ∨
   (∃ q, Bad kws dv 0 t q ∧ ∀ d H', Same H H' → H d = none → H' d = some (.xd [("position", .int (q : Int))]) → E (.ref C) (some d) H'))
theorem ok_tokenize {f fA fR fW fN fT fS : Addr} {fd fdA fdR fdW fdN fdT fdS : FuncData} {k : Nat} (D : DefN K mg "tokenize" sTokenize ["chunk"] f fd) (T : Txt P K mg C fI aK aL aS) (DTokenAt : DefN K mg "token_at" sTokenAt ["chunk", "start"] fA fdA)
    (DEndOfRun : DefN K mg "end_of_run" sEndOfRun ["chunk", "start", "allowed"] fR fdR)
    (DWordAt : DefN K mg "word_at" sWordAt ["chunk", "start"] fW fdW) (DNumberAt : DefN K mg "number_at" sNumberAt ["chunk", "start"] fN fdN) (DTextAt : DefN K mg "text_at" sTextAt ["chunk", "start"] fT fdT) (DSignAt : DefN K mg "sign_at" sSignAt ["chunk", "start"] fS fdS) :
    FnOk P w K mg base (L2.CX P w) (k + 4) f fd ["chunk"] (spTokenize C) := by
  have GTokenAt : FnOk P w K mg base (L2.CX P w) (k + 3) fA fdA ["chunk", "start"] (spTokX C (fun _ => True) (fun _ => True)) := ok_token DTokenAt T DEndOfRun DWordAt DNumberAt DTextAt DSignAt
  refine D.F.okX scTokenize (fun vs H Q E h => ?_) (fun cdv A outer s H vs Q E hr h => ?_)
  · obtain ⟨t, rfl, _⟩ := h
    rfl
  · obtain ⟨t, rfl, hl, hh⟩ := h
    refine ⟨_, (pss_cons (ps_set (i := 1) scTokenize.nd rfl (.inl rfl) (pe_lst pa_nil))
        (pss_cons (ps_set (i := 2) scTokenize.nd rfl (.inl rfl) pe_int)
        (pss_cons (ps_while (passes_of rfl) (pt_cmpR op_lt (pv 2) (pe_callB call_len_str (by rfl) T.len PySem.boot_len (pa_cons (pv 0) pa_nil)) (nomark _)) (pss_one (ps_if (pt_cmpR op_in_sign (pe_ix ix_str (pv 0) (pv 2) (fun _ _ => rfl)) (pe_gstr rfl T.g_BLANKS) rfl) (pss_one (ps_aug (i := 2) scTokenize.nd rfl (.inl rfl) pe_int ip_add)) (pss_cons (ps_asg (pe_call GTokenAt (hr.mono (by omega)) (by rfl) DTokenAt.g DTokenAt.F.kp DTokenAt.b .nil (passes_call (takes_of rfl rfl rfl rfl) (fun _ _ _ _ h => h)) (pa_cons (pv 0) (pa_cons (pv 2) pa_nil))) (pg_tup rfl (pgs_cons (pg_name (i := 3) scTokenize.nd rfl (.inl rfl)) (pgs_cons (pg_name (i := 4) scTokenize.nd rfl (.inl rfl)) (pgs_cons (pg_name (i := 5) scTokenize.nd rfl (.inl rfl)) pgs_nil)))))
        (pss_cons (ps_expr (pe_bm PySem.F.plainAttrs_list PySem.F.slot_list_append PySem.F.type_list_append mt_append (pv 1) (pa_cons (pe_tup (pa_cons (pv 3) (pa_cons (pv 4) (pa_cons (pv 2) pa_nil)))) pa_nil)))
        (pss_one (ps_set (i := 2) scTokenize.nd rfl (.inl rfl) (pv 5))))))))
        (pss_one (ps_ret (pv 1)))))), ?_⟩
    have hts : (S t).length ≤ sizeLine := by rw [S_len]; exact small _ hl
    refine ⟨Nat.zero_le _, fun D0 hD => ?_⟩
    refine ⟨fun m σ H' => ∃ (pre u : List Nat) (ps : List Addr) (L1 : List (Kind × Val × Nat)) (y3 y4 y5 : Option V), t = pre ++ u ∧ m = u.length ∧ σ = [some (.str (S t)), some (.ref D0), some (.int (pre.length : Int)), y3, y4, y5] ∧ Same H H' ∧ H' D0 = some (.lst (ps.map V.ref)) ∧ Rows H' ps L1 ∧ L1.length ≤ pre.length ∧
        ((∃ L L2, Toks kws dv pre.length u L2 ∧ L = L1 ++ L2 ∧ ∀ p H' ps, Same H H' → H' p = some (.lst (ps.map V.ref)) → Rows H' ps L → Q (.ref p) H') ∨
         (∃ q, Bad kws dv pre.length u q ∧ ∀ d H', Same H H' → H d = none → H' d = some (.xd [("position", .int (q : Int))]) → E (.ref C) (some d) H')),
      ⟨t.length, [], t, [], [], none, none, none, rfl, rfl, rfl, same_upd hD, upd_same, ⟨rfl, fun _ _ _ _ e => by simp at e⟩, Nat.le_refl _, ?_⟩, ?_⟩
    · rcases hh with ⟨L, h1, h2⟩ | ⟨q, h1, h2⟩
      · exact .inl ⟨L, L, h1, rfl, h2⟩
      · exact .inr ⟨q, h1, h2⟩
    rintro m σ H' ⟨pre, u, ps, L1, y3, y4, y5, et, rfl, rfl, sm, hps, hrows, hL1, hh⟩
    obtain ⟨_, hg⟩ := get_mid et (rfl : pre.length = pre.length)
    have htl : t.length = pre.length + u.length := by rw [et]; simp
    cases u with
    | nil =>
      refine ⟨_, rfl, .str (S t), rfl, S t, rfl, hts, _, _, rfl, rfl, _, rfl, iteNo (by
        rw [decide_eq_true_eq, S_len, htl]
        simp) ?_⟩
      refine ⟨_, rfl, ?_⟩
      rcases hh with ⟨L, L2, h1, rfl, h2⟩ | ⟨q, h1, _⟩
      · have := toks_nil h1
        subst this
        rw [List.append_nil] at h2
        exact h2 D0 H' ps sm hps hrows
      · exact (bad_nil h1).elim
    | cons c r =>
      obtain ⟨hlt, g⟩ := hg c r rfl
      refine ⟨_, rfl, .str (S t), rfl, S t, rfl, hts, _, _, rfl, rfl, _, rfl, iteYes (by
        rw [decide_eq_true_eq, S_len]
        omega) ?_⟩
      refine ⟨fun σ' H2 => ∃ (pre2 u2 : List Nat) (ps : List Addr) (L1 : List (Kind × Val × Nat)) (y3 y4 y5 : Option V), t = pre2 ++ u2 ∧ u2.length < (c :: r).length ∧ σ' = [some (.str (S t)), some (.ref D0), some (.int (pre2.length : Int)), y3, y4, y5] ∧ Same H H2 ∧ H2 D0 = some (.lst (ps.map V.ref)) ∧ Rows H2 ps L1 ∧ L1.length ≤ pre2.length ∧
        ((∃ L L2, Toks kws dv pre2.length u2 L2 ∧ L = L1 ++ L2 ∧ ∀ p H' ps, Same H H' → H' p = some (.lst (ps.map V.ref)) → Rows H' ps L → Q (.ref p) H') ∨
         (∃ q, Bad kws dv pre2.length u2 q ∧ ∀ d H', Same H H' → H d = none → H' d = some (.xd [("position", .int (q : Int))]) → E (.ref C) (some d) H')), ?_, ?_⟩
      · rintro σ' H2 ⟨pre2, u2, ps2, L12, z3, z4, z5, g1, g2, g3⟩
        exact ⟨u2.length, g2, pre2, u2, ps2, L12, z3, z4, z5, g1, rfl, g3⟩
      refine ⟨.str (S t), rfl, .int (pre.length : Int), rfl, S t, pre.length, c, rfl, rfl, hts, by rw [sign_at hlt, g], c, _, rfl, rfl, _, rfl, ?_⟩
      rw [blank_codes]
      have et2 : t = (pre ++ [c]) ++ r := by rw [et]; simp
      have el2 : (pre ++ [c]).length = pre.length + 1 := by simp
      cases hb : isBlank c with
      | true =>
        refine iteT ⟨_, rfl, _, _, rfl, rfl, pre ++ [c], r, ps, L1, y3, y4, y5, et2, by simp, ?_, sm, hps, hrows, by omega, ?_⟩
        · rw [el2]
          rfl
        · rw [el2]
          rcases hh with ⟨L, L2, h1, h2, h3⟩ | ⟨q, h1, h2⟩
          · rcases toks_cons h1 with ⟨_, h4⟩ | ⟨h4, _⟩
            · exact .inl ⟨L, L2, h4, h2, h3⟩
            · rw [hb] at h4; cases h4
          · rcases bad_cons h1 with ⟨_, h4⟩ | ⟨h4, _⟩
            · exact .inr ⟨q, h4, h2⟩
            · rw [hb] at h4; cases h4
      | false =>
        refine iteF ?_
        have hcase : (∃ (u rest : List Nat) (kd : Kind) (v : Val), c :: r = u ++ rest ∧ Lex kws dv u kd v ∧ Sep u rest ∧
            ((∃ L L2, Toks kws dv (pre.length + u.length) rest L2 ∧ L = (L1 ++ [(kd, v, pre.length)]) ++ L2 ∧ ∀ p H' ps, Same H H' → H' p = some (.lst (ps.map V.ref)) → Rows H' ps L → Q (.ref p) H') ∨
             (∃ q, Bad kws dv (pre.length + u.length) rest q ∧ ∀ d H', Same H H' → H d = none → H' d = some (.xd [("position", .int (q : Int))]) → E (.ref C) (some d) H'))) ∨
            (BadAt (c :: r) ∧ ∀ d H', Same H H' → H d = none → H' d = some (.xd [("position", .int (pre.length : Int))]) → E (.ref C) (some d) H') := by
          rcases hh with ⟨L, L2, h1, h2, h3⟩ | ⟨q, h1, h2⟩
          · rcases toks_cons h1 with ⟨h4, _⟩ | ⟨_, u, rest, kd, v, L3, e1, lx, sp, e2, h5⟩
            · rw [hb] at h4; cases h4
            · refine .inl ⟨u, rest, kd, v, e1, lx, sp, .inl ⟨L, L3, h5, ?_, h3⟩⟩
              rw [h2, e2]
              simp
          · rcases bad_cons h1 with ⟨h4, _⟩ | ⟨_, ⟨rfl, h5⟩ | ⟨u, rest, kd, v, e1, lx, sp, h5⟩⟩
            · rw [hb] at h4; cases h4
            · exact .inr ⟨h5, h2⟩
            · exact .inl ⟨u, rest, kd, v, e1, lx, sp, .inr ⟨q, h5, h2⟩⟩
        rcases hcase with ⟨u, rest, kd, v, e1, lx, sp, hn⟩ | ⟨h5, h2⟩
        · -- a token, and what follows it
          have et3 : t = pre ++ (u ++ rest) := by rw [et, e1]
          refine ⟨_, rfl, .int (pre.length : Int), rfl, .inl ⟨pre, u, rest, kd, v, (by rw [et3]; rfl), lx, sp, trivial, by rw [← et3]; exact hl, fun p hp H2 s2 hp2 => ?_⟩⟩
          refine ⟨p, _, rfl, SqT.of hp2, rfl, _, _, rfl, _, _, rfl, _, _, rfl, rfl, ?_⟩
          have hD2 : H2 D0 = some (.lst (ps.map V.ref)) := s2 _ _ hps
          refine ⟨.ref D0, rfl, .inl ⟨rfl, _, SqL.of hD2⟩, _, rfl, _, rfl, _, rfl, (by show 3 ≤ sizeLine; decide), fun p2 hn2 => ?_⟩
          have ne2 : D0 ≠ p2 := ne_of_none hD2 hn2
          refine ⟨D0, _, _, rfl, rfl, by rw [upd_ne ne2]; exact hD2, ?_, ?_⟩
          · rw [List.length_map, hrows.1]
            exact Nat.lt_of_le_of_lt (show L1.length ≤ 1000000 by omega) (by decide)
          · have eu : (c :: r).length = u.length + rest.length := by rw [e1]; simp
            have hu : 0 < u.length := List.length_pos_iff.mpr (lex_ne lx)
            have epr : (pre ++ u).length = pre.length + u.length := by simp
            refine ⟨_, rfl, pre ++ u, rest, ps ++ [p2], L1 ++ [(kd, v, pre.length)], some (.str (kindS kd)), some (vV v), some (.int ((pre.length + u.length : Nat) : Int)), (by rw [et3]; simp), (by omega), ?_, ?_, (by rw [upd_same]; simp), ?_, ?_, ?_⟩
            · rw [epr]
              rfl
            · intro b o hb2
              have nb : b ≠ D0 := ne_of_none hb2 hD
              rw [upd_ne nb, upd_ne (ne_of_none (s2 _ _ (sm _ _ hb2)) hn2)]
              exact s2 _ _ (sm _ _ hb2)
            · refine Rows.snoc (hrows.keep fun a xs ha => ?_) ?_
              · have ha2 := s2 _ _ ha
                rw [upd_ne (ne_of ha2 hD2 (by intro z; cases z)), upd_ne (ne_of_none ha2 hn2)]
                exact ha2
              · rw [upd_ne ne2.symm, upd_same]
            · simp; omega
            · rw [epr]
              exact hn
        · refine ⟨_, rfl, .int (pre.length : Int), rfl, .inr ⟨pre, c :: r, (by rw [et]; rfl), h5, trivial, by rw [← et]; exact hl, fun d hd H2 s2 hd2 => ?_⟩⟩
          exact h2 d H2 (sm.trans s2) (sm.free hd) hd2
end
end Q23
namespace Q23
open PySem PySem.Spec PyProof.Rows L2 SX HL
def wordsS : Str := "data fun cell view act turn then true false not and or if else let in case of end num text bool list mod"
theorem split_kws : PySem.Txt.split wordsS " " = kws.map S := by decide +kernel
theorem kws_us : ∀ x ∈ kws, 95 ∉ x ∧ x ≠ [] ∧ x.length ≤ 6 := by decide +kernel
theorem kws_low : ∀ x ∈ kws, ∃ c s, x = c :: s ∧ isLow c = true ∧ ∀ y ∈ s, isWord y = true := by
  intro x hx
  have h : ∀ x ∈ kws, isLow (x.headD 0) = true ∧ ∀ y ∈ x.tail, isWord y = true := by decide +kernel
  obtain ⟨h1, h2⟩ := h x hx
  obtain ⟨c, s, rfl⟩ := List.exists_cons_of_ne_nil (kws_us x hx).2.1
  exact ⟨c, s, rfl, h1, h2⟩
theorem followS : ("abcdefghijklmnopqrstuvwxyzABCDEFGHIJKLMNOPQRSTUVWXYZ0123456789_" : Str) = S (List.range' 97 26 ++ List.range' 65 26 ++ List.range' 48 10 ++ [95]) := by decide +kernel
theorem lowS : ("abcdefghijklmnopqrstuvwxyz" : Str) = S (List.range' 97 26) := by decide +kernel
theorem upS : ("ABCDEFGHIJKLMNOPQRSTUVWXYZ" : Str) = S (List.range' 65 26) := by decide +kernel
section
variable {P : Program} {w : World} {K : PySem.W.Frag} {mg : Str → Option Value} {base : Heap} {C fI aK aL aS : Addr}
theorem _root_.Q23.StAt.kept {H H' : Hp} {p q : Addr} {ns : List Int} (h : StAt H p q ns) (hp : H' p = H p) (s : Kept H H' p) : StAt H' p q ns := by
  obtain ⟨a, l, i, c, z, b, r⟩ := h
  have ne : q ≠ p := by
    intro e
    subst e
    rw [a] at b
    have e2 := HO.lst.inj (Option.some.inj b)
    cases ns with
    | nil => cases e2
    | cons x r => cases e2
  exact ⟨s _ _ ne a, l, i, c, z, hp.trans b, r⟩
theorem StAt.same {H H' : Hp} {p q : Addr} {ns : List Int} (h : StAt H p q ns) (s : Same H H') : StAt H' p q ns := by
  obtain ⟨a, l, i, c, z, b, r⟩ := h
  exact ⟨s _ _ a, l, i, c, z, s _ _ b, r⟩
/-! ### _law_keywords -/
def spKw : Sp := fun vs H Q _ => vs = [] ∧ ∀ p, H p = none → Q (.ref p) (upd H p (.lst (kws.map fun x => V.str (S x))))
theorem ok_kw {f : Addr} {fd : FuncData} {k : Nat} (D : DefN K mg "_law_keywords" sLawKeywords [] f fd) (T : Txt P K mg C fI aK aL aS) : FnOk P w K mg base CX0 (k + 1) f fd [] spKw := by
  refine D.F.ok scLawKeywords (fun vs H Q E h => ?_) (fun cdv A outer s H vs Q E hr h => ?_)
  · obtain ⟨rfl, _⟩ := h
    rfl
  · obtain ⟨rfl, q⟩ := h
    refine ⟨_, (pss_cons (ps_set (i := 0) scLawKeywords.nd rfl (.inl rfl) pe_str)
        (pss_one (ps_ret (pe_split (pv 0) pe_str)))), ?_⟩
    refine ⟨_, rfl, ⟨_, rfl⟩, wordsS, " ", rfl, rfl, by decide +kernel, by decide +kernel, fun p hp => ?_⟩
    rw [split_kws]
    have e : (kws.map S).map V.str = kws.map fun x => V.str (S x) := by simp
    rw [e]
    exact q p hp
/-! ### _law_word -/
def spWord : Sp := fun vs H Q _ => ∃ (p q : Addr) (ns : List Int) (fs : List Nat), vs = [.ref p, .str (S fs)] ∧ StAt H p q ns ∧ fs.length = 26 ∧
  ∀ H' c s, StAt H' p q ns → Kept H H' p → c ∈ fs → (∀ x ∈ s, isWord x = true) → s.length ≤ 10 → c :: s ∉ kws → Q (.str (S (c :: s))) H'
theorem ok_lword {f fN fK : Addr} {fd fdN fdK : FuncData} {k : Nat} (D : DefN K mg "_law_word" sLawWord ["state", "first"] f fd) (T : Txt P K mg C fI aK aL aS) (DLawNext : DefN K mg "_law_next" sLawNext ["state", "limit"] fN fdN) (DLawKeywords : DefN K mg "_law_keywords" sLawKeywords [] fK fdK) :
    FnOk P w K mg base CX0 (k + 2) f fd ["state", "first"] spWord := by
  have GLawNext : FnOk P w K mg base CX0 (k + 1) fN fdN ["state", "limit"] spNext := ok_next DLawNext T
  have GLawKeywords : FnOk P w K mg base CX0 (k + 1) fK fdK [] spKw := ok_kw DLawKeywords T
  refine D.F.ok scLawWord (fun vs H Q E h => ?_) (fun cdv A outer s H vs Q E hr h => ?_)
  · obtain ⟨p, q, ns, fs, rfl, _⟩ := h
    rfl
  · obtain ⟨p, q, ns, fs, rfl, hS, hf, qq⟩ := h
    refine ⟨_, (pss_cons (ps_set (i := 2) scLawWord.nd rfl (.inl rfl) pe_str)
        (pss_cons (ps_set (i := 3) scLawWord.nd rfl (.inl rfl) (pe_ix ix_str (pv 1) (pe_call GLawNext (hr.mono (by omega)) (by rfl) DLawNext.g DLawNext.F.kp DLawNext.b .nil pass0 (pa_cons (pv 0) (pa_cons pe_int pa_nil))) (fun _ _ => rfl)))
        (pss_cons (ps_for PassesOwn.never rfl (pi_range1 (by rfl) T.range (pa_cons (pe_call GLawNext (hr.mono (by omega)) (by rfl) DLawNext.g DLawNext.F.kp DLawNext.b .nil pass0 (pa_cons (pv 0) (pa_cons pe_int pa_nil))) pa_nil)) (pg_name (i := 4) scLawWord.nd rfl (.inl rfl)) (pss_one (ps_set (i := 3) scLawWord.nd rfl (.inl rfl) (pe_op op_add_str (pv 3) (pe_ix ix_str (pv 2) (pe_call GLawNext (hr.mono (by omega)) (by rfl) DLawNext.g DLawNext.F.kp DLawNext.b .nil pass0 (pa_cons (pv 0) (pa_cons pe_int pa_nil))) (fun _ _ => rfl))))))
        (C8.pss_cut (ps_if (pt_cmpR op_in_seq (pv 3) (pe_call0 GLawKeywords (hr.mono (by omega)) (by rfl) DLawKeywords.g DLawKeywords.F.kp DLawKeywords.b .nil pass0) rfl) (pss_one (ps_set (i := 3) scLawWord.nd rfl (.inl rfl) (pe_op op_add_str (pv 3) pe_str))) pss_nil)
        (pss_one (ps_ret (pv 3))))))), ?_⟩
    rw [followS]
    have hfl : (S fs).length ≤ sizeLine := by rw [S_len, hf]; decide
    have hus : ("_" : Str) = S [95] := by decide +kernel
    rw [hus]
    refine ⟨_, rfl, _, rfl, p, q, ns, 26, rfl, hS, by decide, by decide, fun H1 v S1 B1 v0 v1 => ?_⟩
    have ev : v = (v.toNat : Int) := by omega
    have hvl : v.toNat < fs.length := by omega
    refine ⟨S fs, v, fs.getD v.toNat 0, rfl, rfl, hfl, by rw [ev]; exact sign_at hvl, ?_⟩
    have hc : fs.getD v.toNat 0 ∈ fs := by
      rw [List.getD_eq_getElem?_getD, List.getElem?_eq_getElem hvl]
      exact List.getElem_mem hvl
    generalize fs.getD v.toNat 0 = c at hc
    refine ⟨_, rfl, p, q, ns, 5, rfl, S1, by decide, by decide, fun H2 u S2 B2 u0 u1 => ⟨u, rfl, by omega, by omega, ?_⟩⟩
    refine for_range (lo := 0) (n := u.toNat) (fun i σ H' => StAt H' p q ns ∧ Kept H H' p ∧ ∃ (l : List Nat) (y : Option V), σ = [some (.ref p), some (.str (S fs)), some (.str (S (List.range' 97 26 ++ List.range' 65 26 ++ List.range' 48 10 ++ [95]))), some (.str (S (c :: l))), y] ∧ (∀ x ∈ l, isWord x = true) ∧ l.length = i)
      ⟨S2, (B1.trans B2).kept, [], none, rfl, (fun _ h => nomatch h), rfl⟩ ?_ ?_
    · rintro i σ H' hi ⟨S3, K3, l, y, rfl, hl, el⟩
      refine ⟨_, rfl, _, rfl, _, rfl, p, q, ns, 63, rfl, S3, by decide, by decide, fun H4 z S4 B4 z0 z1 => ?_⟩
      have ez : z = (z.toNat : Int) := by omega
      have hzl : z.toNat < (List.range' 97 26 ++ List.range' 65 26 ++ List.range' 48 10 ++ [95]).length := by simp; omega
      have hd : ∀ j, j < 63 → isWord ((List.range' 97 26 ++ List.range' 65 26 ++ List.range' 48 10 ++ [95]).getD j 0) = true := by decide +kernel
      have hd := hd z.toNat (by omega)
      refine ⟨_, z, (List.range' 97 26 ++ List.range' 65 26 ++ List.range' 48 10 ++ [95]).getD z.toNat 0, rfl, rfl, by rw [S_len]; exact small _ (by simp), by rw [ez]; exact sign_at hzl, S (c :: l), S [_], rfl, rfl, ?_, ?_⟩
      · rw [S_len, S_len]
        exact small _ (by simp; omega)
      · rw [S_app]
        refine ⟨S4, K3.trans B4.kept, l ++ [_], _, rfl, fun x hx => ?_, by simp [el]⟩
        rcases List.mem_append.mp hx with hx | hx
        · exact hl x hx
        · rw [List.mem_singleton.mp hx]
          exact hd
    · rintro σ H3 ⟨S3, K3, l, y, rfl, hl, el⟩
      refine ⟨fun σ' H' => ∃ s : List Nat, σ' = [some (.ref p), some (.str (S fs)), some (.str (S (List.range' 97 26 ++ List.range' 65 26 ++ List.range' 48 10 ++ [95]))), some (.str (S (c :: s))), y] ∧ StAt H' p q ns ∧ Kept H H' p ∧ (∀ x ∈ s, isWord x = true) ∧ s.length ≤ 10 ∧ c :: s ∉ kws, ?_, ?_⟩
      · refine ⟨_, rfl, rfl, fun d hd => ?_⟩
        have sm : Same H3 (upd H3 d (.lst (kws.map fun x => V.str (S x)))) := same_upd hd
        refine ⟨d, _, rfl, .inl (SqL.of upd_same), rfl, flat_strs _, _, rfl, ?_⟩
        show if inV (.str (S (c :: l))) (kws.map fun x => V.str (S x)) = true then _ else _
        rw [inV_str]
        refine ite2 (fun hk => ?_) (fun hk => ?_)
        · refine ⟨_, rfl, S (c :: l), S [95], rfl, rfl, ?_, ?_⟩
          · rw [S_len, S_len]
            exact small _ (by simp; omega)
          · rw [S_app]
            refine ⟨l ++ [95], rfl, S3.same sm, K3.trans (sm.kept p), fun x hx => ?_, by simp; omega, fun hk2 => ?_⟩
            · rcases List.mem_append.mp hx with hx | hx
              · exact hl x hx
              · rw [List.mem_singleton.mp hx]; decide
            · exact (kws_us _ hk2).1 (by simp)
        · exact ⟨l, rfl, S3.same sm, K3.trans (sm.kept p), hl, by omega, fun z => hk (decide_eq_true z)⟩
      · rintro σ' H' ⟨s, rfl, S5, K5, hs, sl, hk⟩
        exact ⟨_, rfl, qq _ _ _ S5 K5 hc hs sl hk⟩
/-! ### _law_name, _law_maker -/
def spLex (kd : Kind) : Sp := fun vs H Q _ => ∃ (p q : Addr) (ns : List Int), vs = [.ref p] ∧ StAt H p q ns ∧ ∀ H' u, StAt H' p q ns → Kept H H' p → Lex kws dv u kd (.s u) → u.length ≤ 700 → Q (.str (S u)) H'
theorem ok_lname {f fN fK fW : Addr} {fd fdN fdK fdW : FuncData} {k : Nat} (D : DefN K mg "_law_name" sLawName ["state"] f fd) (T : Txt P K mg C fI aK aL aS) (DLawNext : DefN K mg "_law_next" sLawNext ["state", "limit"] fN fdN) (DLawKeywords : DefN K mg "_law_keywords" sLawKeywords [] fK fdK)
    (DLawWord : DefN K mg "_law_word" sLawWord ["state", "first"] fW fdW) : FnOk P w K mg base CX0 (k + 3) f fd ["state"] (spLex .name) := by
  have GLawWord : FnOk P w K mg base CX0 (k + 2) fW fdW ["state", "first"] spWord := ok_lword DLawWord T DLawNext DLawKeywords
  refine D.F.ok scLawName (fun vs H Q E h => ?_) (fun cdv A outer s H vs Q E hr h => ?_)
  · obtain ⟨p, q, ns, rfl, _⟩ := h
    rfl
  · obtain ⟨p, q, ns, rfl, hS, qq⟩ := h
    refine ⟨_, (pss_one (ps_ret (pe_call GLawWord (hr.mono (by omega)) (by rfl) DLawWord.g DLawWord.F.kp DLawWord.b .nil pass0 (pa_cons (pv 0) (pa_cons pe_str pa_nil))))), ?_⟩
    rw [lowS]
    refine ⟨_, rfl, p, q, ns, _, rfl, hS, by simp, fun H' c s S1 K1 hc hs sl hk => qq H' (c :: s) S1 K1 ?_ (by simp; omega)⟩
    have hc2 : isLow c = true := by
      simp only [List.mem_range'_1] at hc
      simp only [isLow, Bool.and_eq_true, decide_eq_true_eq]
      omega
    have hu : isUp c = false := by
      simp only [isLow, isUp, Bool.and_eq_true, decide_eq_true_eq, Bool.and_eq_false_iff, decide_eq_false_iff_not] at hc2 ⊢
      omega
    have := Lex.word (kws := kws) (dv := dv) c s (by simp [isLet, hc2]) hs
    have e : kindOf kws (c :: s) = .name := by simp [kindOf, hu, hk]
    rw [e] at this
    exact this
end
end Q23
/-! del xs[a:] of a list -/
namespace DS
open PySem PySem.Spec PyProof.Rows L2 SX
section
variable {prog : Program} {w : World} {A : Around} {E : Value → Shared → Prop} {s : Shared}
theorem bounds_tail (lo : Int) (n : Nat) : sliceBounds (some lo) none none n = (((HT.sIx n 0 (some lo) : Nat) : Int), (n : Int), 1) := by
  simp only [sliceBounds, Option.getD_none, HT.sIx, show (1 : Int) > 0 by decide, if_true]
  by_cases h : lo < 0
  · simp only [h, if_true]
    congr 1
    omega
  · simp only [h, if_false]
    congr 1
    omega
theorem keep_tail (xs : List Value) (k : Nat) (b : Nat) (hk : k ≤ b + xs.length) : ∀ (f : Nat → Bool), (∀ i, i < b + xs.length → f i = decide (k ≤ i)) → (xs.zipIdx b).filterMap (fun p => if f p.2 = true then none else some p.1) = xs.take (k - b) := by
  intro f hf
  induction xs generalizing b with
  | nil => simp
  | cons x r ih =>
    rw [List.zipIdx_cons, List.filterMap_cons]
    dsimp only
    have h1 := hf b (by simp)
    have h2 := ih (b + 1) (by simp at hk ⊢; omega) (fun i hi => hf i (by simp at hi ⊢; omega))
    by_cases hb : k ≤ b
    · rw [h1, decide_eq_true hb, if_pos rfl]
      dsimp only
      rw [h2]
      have e1 : k - (b + 1) = 0 := by omega
      have e2 : k - b = 0 := by omega
      rw [e1, e2]
      simp
    · rw [h1, decide_eq_false hb, if_neg (by decide)]
      dsimp only
      rw [h2]
      have e1 : k - b = (k - (b + 1)) + 1 := by omega
      rw [e1, List.take_succ_cons]
def sel (start stop step : Int) (i : Nat) : Bool :=
  if step > 0 then start ≤ i && i < stop && (i - start) % step == 0
  else stop < i && i ≤ start && (start - i) % (-step) == 0
theorem sel_tail (k n i : Nat) (h : i < n) : sel (k : Int) (n : Int) 1 i = decide (k ≤ i) := by
  unfold sel
  rw [if_pos (by decide), Int.emod_one]
  have : (i : Int) < (n : Int) := by omega
  rw [decide_eq_true this]
  simp only [Bool.and_true, beq_self_eq_true]
  exact decide_eq_decide.mpr (by omega)
def cutF (k n : Nat) : Array Value → Array Value := fun xs => (List.filterMap (fun x : Value × Nat => if sel (k : Int) (n : Int) 1 x.2 = true then none else some x.1) xs.toList.zipIdx).toArray
theorem cutF_eq (items : Array Value) (k : Nat) (hk : k ≤ items.size) : cutF k items.size items = (items.toList.take k).toArray := by
  unfold cutF
  rw [keep_tail items.toList k 0 (by rw [Array.length_toList]; omega) (fun i => sel (k : Int) (items.size : Int) 1 i) (fun i hi => sel_tail k _ i (by rw [Array.length_toList] at hi; omega))]
  simp
set_option maxRecDepth 100000 in
theorem delItem_tail {l sl : Addr} {items : Array Value} {n : Nat} {vl : Value} {lo : Int} {Q : Unit → Shared → Prop}
    (e : s.heap.get? l = some { cls := .type "list", data := .seq items n })
    (hs : s.heap.IsSliceOf sl vl .none .none) (pl : IsPart vl (some lo))
    (hsz : items.size ≤ sizeLine) (h : Q () { s with heap := s.heap.update l (Obj.mapSeq (cutF (HT.sIx items.size 0 (some lo)) items.size)) }) :
    wpAny (model prog w) A (delItem (.ref l) (.ref sl)) Q E s := by
  have hl : s.heap.IsList l items := PySem.IsL.isList e
  obtain ⟨os, hos, hcs, hds⟩ := id hs
  have hTs : s.TypeIs (.ref sl) "slice" := ⟨os, hos, hcs⟩
  have hstep : ¬ ((rawPart none == rawInt 0) = true) := Bool.false_ne_true
  unfold delItem
  refine wpAny_holding ?_
  refine wpAny_bind (wpAny_sequenceKey hl.typeIs (by decide) ?_)
  refine wpAny_bind (wpAny_callSpecial?_slot (name := Str.ofString "__delitem__") hl.typeIs PySem.F.slot_list_delitem
    (wpAny_call_entry PySem.F.slot_list_delitem hl.typeIs PySem.F.entry_list_delitem ?_ (PySem.F.args_list_delitem_2 _ _)))
  show wpAny _ _ (Builtin.List.listSubscript? (.ref sl) >>= _) _ _ s
  refine wpAny_bind ?_
  unfold Builtin.List.listSubscript?
  refine wpAny_bind (wpAny_specialOf hTs slice_no_index ?_)
  simp only [Option.isNone_none, if_true]
  refine wpAny_pure ?_
  show wpAny _ _ (typeOf (.ref sl) >>= _) _ _ s
  refine wpAny_bind (wpAny_typeOf hTs ?_)
  first
    | rw [if_neg (by decide)]
    | refine PySem.W.KFB.if_not (by decide) ?_
  rw [listSliceParts_eq]
  refine wpAny_bind (wpAny_bind (wpAny_field hos hds (x := .none) rfl (wpAny_bind (wpAny_listPart .none ?_))))
  rw [if_neg hstep]
  refine wpAny_bind (wpAny_field hos hds (x := vl) rfl (wpAny_bind (wpAny_listPart pl ?_)))
  refine wpAny_bind (wpAny_field hos hds (x := .none) rfl (wpAny_bind (wpAny_listPart .none (wpAny_pure ?_))))
  dsimp only
  unfold Builtin.List.listItems
  refine wpAny_bind (wpAny_bind (wpAny_seqItems e rfl (wpAny_pure ?_)))
  refine wpAny_bind (wpAny_of_eq ((sliceIndices_raw (some lo) none none items.size (by simp)).trans (congrArg (pure : Int × Int × Int → Sem (Int × Int × Int)) (bounds_tail lo items.size))) ?_)
  refine wpAny_bind (wpAny_rule ?_)
  have hk : HT.sIx items.size 0 (some lo) ≤ items.size := HT.sIx_le _ _ (Nat.zero_le _) _
  refine wpAny_bind (?_ : wpAny _ _ (Builtin.List.listUpdate (.ref l) (cutF (HT.sIx items.size 0 (some lo)) items.size)) _ _ s)
  unfold Builtin.List.listUpdate
  have hz' : (cutF (HT.sIx items.size 0 (some lo)) items.size items).size ≤ sizeLine + 1 := by
    rw [cutF_eq items _ hk, List.size_toArray, List.length_take, Array.length_toList]
    omega
  refine wpAny_updateSeq (hz := hsz) (_hz' := hz') e rfl ?_
  refine wpAny_bind (wpAny_letGo ?_)
  first
    | exact wpAny_bind (wpAny_pure (wpAny_pure ⟨.none, rfl, wpAny_pure h⟩))
    | exact wpAny_pure ⟨.none, rfl, wpAny_pure h⟩
end
section
variable {X : Cx}
/-- what stands when the last items of xs are dropped -/
def tDelT (to : TE) (tl : TE) : TS := fun D σ H => to σ H fun x H1 => tl σ H1 fun y H2 => ∃ (l : Addr) (xs : List V) (i : Int), x = .ref l ∧ y = .int i ∧ H2 l = some (.lst xs) ∧ D.nx σ (upd H2 l (.lst (xs.take (HT.sIx xs.length 0 (some i)))))
theorem ps_delT {o i : Expr} {to ti : TE} {tpos p2 pos : Pos} (ho : PE X o to) (hi : PE X i ti) : PS X (.Delete [.Subscript o (.Slice (some i) none none p2) tpos] pos) (tDelT to ti) := by
  refine ⟨fun pins s σ H D I h => ?_⟩
  refine wpAny_Delete (wpAny_deleteEach_cons (wpAny_delete_Subscript (thn (ho.run pins s σ H _ I h) fun u s1 ⟨x, H1, I1, rx, q1⟩ => ?_)))
  refine wpAny_Slice ?_
  rw [evalPart_some]
  refine thn (hi.run pins s1 σ H1 _ I1 q1) fun iv s2 ⟨y, H2, I2, ry, q2⟩ => ?_
  rw [evalPart_none]
  refine wpAny_pure ?_
  refine wpAny_pure ?_
  obtain ⟨l, xs, j, ex, ey, hH, q2⟩ := q2
  subst ex
  subst ey
  cases (show u = Value.ref l from rx)
  obtain ⟨t, rfl⟩ := (show ∃ t, iv = Value.int j t from ry)
  have I4 : Inv X pins σ H2 { s2 with heap := s2.heap.push { cls := .type "slice", data := .fields #[.int j t, .none, .none] } } := I2.kept (t' := s2.toks) fun b ob q => Heap.get?_push_of_some _ q
  obtain ⟨z, its, n, r, hl, e⟩ := I4.lstM hH
  have hsz : its.toArray.size = xs.length := by rw [List.size_toArray]; exact r.length.symm
  refine delItem_tail (lo := j) e (Heap.IsSliceOf.new ..) (.int _ _) (by rw [hsz]; omega) (wpAny_deleteEach_nil ⟨σ, _, ?_, q2⟩)
  refine I4.lset (its' := its.take (HT.sIx xs.length 0 (some j))) (t' := s2.toks) hH e ?_ (r.take _) ?_
  · rw [cutF_eq _ _ (HT.sIx_le _ _ (Nat.zero_le _) _), hsz]
  · rw [List.length_take]
    omega
end
end DS
namespace Q23
open PySem PySem.Spec PyProof.Rows L2 SX HL
/-! ## trees -/
inductive T
  | s (x : Str)
  | n (i : Int)
  | b (c : Bool)
  | o
  | t (l : List T)
mutual
def TrAt (H : Hp) : T → V → Prop
  | .s x, u => u = .str x
  | .n i, u => u = .int i
  | .b c, u => u = .bl c
  | .o, u => u = .non
  | .t l, u => ∃ a us, u = .ref a ∧ H a = some (.tup us) ∧ TrsAt H l us
def TrsAt (H : Hp) : List T → List V → Prop
  | [], us => us = []
  | x :: l, us => ∃ u r, us = u :: r ∧ TrAt H x u ∧ TrsAt H l r
end
def TupK (H H' : Hp) : Prop := ∀ a xs, H a = some (.tup xs) → H' a = some (.tup xs)
theorem TupK.refl {H : Hp} : TupK H H := fun _ _ h => h
theorem TupK.tr {H H1 H2 : Hp} (a : TupK H H1) (b : TupK H1 H2) : TupK H H2 := fun z o h => b z o (a z o h)
theorem TupK.of {H H' : Hp} (s : Same H H') : TupK H H' := fun a xs h => s a _ h
theorem tk_lst {H : Hp} {l : Addr} {xs ys : List V} (h : H l = some (.lst xs)) : TupK H (upd H l (.lst ys)) := fun b zs e => by
  rw [upd_ne (fun z => by rw [z, h] at e; cases e)]
  exact e
mutual
theorem TrAt.keep {H H' : Hp} (k : TupK H H') : ∀ {x : T} {u : V}, TrAt H x u → TrAt H' x u
  | .s _, _, h => h
  | .n _, _, h => h
  | .b _, _, h => h
  | .o, _, h => h
  | .t _, _, ⟨a, us, e, ha, h⟩ => ⟨a, us, e, k _ _ ha, TrsAt.keep k h⟩
theorem TrsAt.keep {H H' : Hp} (k : TupK H H') : ∀ {l : List T} {us : List V}, TrsAt H l us → TrsAt H' l us
  | [], _, h => h
  | _ :: _, _, ⟨u, r, e, h1, h2⟩ => ⟨u, r, e, TrAt.keep k h1, TrsAt.keep k h2⟩
end
theorem TrsAt.all {H : Hp} : ∀ {l : List T} {us : List V}, TrsAt H l us → All2 (TrAt H) l us
  | [], _, h => by
    obtain rfl : _ = [] := h
    exact .nil
  | _ :: _, _, ⟨u, r, e, h1, h2⟩ => by
    subst e
    exact .cons h1 (TrsAt.all h2)
theorem TrsAt.of {H : Hp} : ∀ {l : List T} {us : List V}, All2 (TrAt H) l us → TrsAt H l us
  | _, _, .nil => rfl
  | _, _, .cons h r => ⟨_, _, rfl, h, TrsAt.of r⟩
abbrev WAt (H : Hp) (W : List T) (us : List V) : Prop := All2 (TrAt H) W us
theorem WAt.keep {H H' : Hp} (k : TupK H H') {W : List T} {us : List V} (h : WAt H W us) : WAt H' W us := All2.mono h fun _ _ x => x.keep k
theorem TrAt.tup {H : Hp} {l : List T} {us : List V} {a : Addr} (ha : H a = some (.tup us)) (h : WAt H l us) : TrAt H (.t l) (.ref a) := ⟨a, us, rfl, ha, TrsAt.of h⟩
mutual
def T.dep : T → Nat
  | .t l => deps l + 1
  | _ => 0
def deps : List T → Nat
  | [] => 0
  | x :: l => max x.dep (deps l)
end
mutual
def T.wid : T → Nat
  | .t l => max l.length (wids l)
  | _ => 0
def wids : List T → Nat
  | [] => 0
  | x :: l => max x.wid (wids l)
end
mutual
theorem TrAt.same {K : PySem.W.Frag} {H : Hp} : ∀ {x : T} {u v : V} {n : Nat}, TrAt H x u → TrAt H x v → x.dep ≤ n → x.wid ≤ 1000000 → SameD K H n u v
  | .s x, u, v, n, h1, h2, _, _ => by
    obtain rfl : u = _ := h1
    obtain rfl : v = _ := h2
    exact SameD.leaf trivial
  | .n i, u, v, n, h1, h2, _, _ => by
    obtain rfl : u = _ := h1
    obtain rfl : v = _ := h2
    exact SameD.leaf trivial
  | .b i, u, v, n, h1, h2, _, _ => by
    obtain rfl : u = _ := h1
    obtain rfl : v = _ := h2
    exact SameD.leaf trivial
  | .o, u, v, n, h1, h2, _, _ => by
    obtain rfl : u = _ := h1
    obtain rfl : v = _ := h2
    exact SameD.leaf trivial
  | .t l, u, v, n, ⟨a, us, e1, ha, h1⟩, ⟨b, ws, e2, hb, h2⟩, hd, hw => by
    subst e1
    subst e2
    rw [T.dep] at hd
    rw [T.wid] at hw
    cases n with
    | zero => omega
    | succ n =>
      have l1 := h1.all.len
      have l2 := h2.all.len
      exact SameD.seq (.tup ha) (.tup hb) (by omega) (by omega) (TrsAt.same h1 h2 (by omega) (by omega))
theorem TrsAt.same {K : PySem.W.Frag} {H : Hp} : ∀ {l : List T} {us ws : List V} {n : Nat}, TrsAt H l us → TrsAt H l ws → deps l ≤ n → wids l ≤ 1000000 → ∀ (i : Nat) (u v : V), us[i]? = some u → ws[i]? = some v → SameD K H n u v
  | [], us, ws, n, h1, h2, _, _, i, u, v, e1, e2 => by
    obtain rfl : us = _ := h1
    simp at e1
  | x :: l, us, ws, n, ⟨u0, r0, f1, g1, q1⟩, ⟨u1, r1, f2, g2, q2⟩, hd, hw, i, u, v, e1, e2 => by
    subst f1
    subst f2
    rw [deps] at hd
    rw [wids] at hw
    cases i with
    | zero =>
      simp only [List.getElem?_cons_zero, Option.some.injEq] at e1 e2
      subst e1
      subst e2
      exact TrAt.same g1 g2 (by omega) (by omega)
    | succ i =>
      simp only [List.getElem?_cons_succ] at e1 e2
      exact TrsAt.same q1 q2 (by omega) (by omega) i u v e1 e2
end
/-! ## the machine -/
/-- what waits and what is found: the last first -/
structure Cf where
  P : List Str
  W : List T
def prodRows (w : Str) : List (Str × Str) → Option (List Str)
  | [] => none
  | (ws, row) :: r => if ws = "" ∨ w ∈ Txt.split ws " " then some (Txt.words row) else prodRows w r
def bang (x : Str) : Bool := Txt.startswith x "!"
def bldS (x : Str) (W : List T) : Option (List T) :=
  if x = "!none" then some (.t [] :: W)
  else if x = "!item" then (match W with | i :: .t l :: r => if l.length ≤ 1000000 then some (.t (l ++ [i]) :: r) else none | _ => none)
  else if x = "!pair" then (match W with | b :: a :: r => some (.t [a, b] :: r) | _ => none)
  else if x = "!triple" then (match W with | c :: b :: a :: r => some (.t [a, b, c] :: r) | _ => none)
  else if x = "!binary" then (match W with | b :: o :: a :: r => some (.t [.s "binary", o, a, b] :: r) | _ => none)
  else if x = "!true" then some (.t [.s "bool", .b true] :: W)
  else if x = "!false" then some (.t [.s "bool", .b false] :: W)
  else if x = "!nothing" then some (.o :: W)
  else if x = "!kind" then (match W with | a :: r => some (.t [.n 0, a] :: r) | _ => none)
  else if x = "!level" then (match W with | .t [.n l, a] :: r => some (.t [.n (l + 1), a] :: r) | _ => none)
  else none
def bld (x : Str) (W : List T) : Option (List T) := match trees.lookup x with
  | some n => if n.toNat ≤ W.length then some (.t (.s (cutS x (some 1) none) :: (W.take n.toNat).reverse) :: W.drop n.toNat) else none
  | none => bldS x W
/-- one step at what waits, the next word known -/
def sst (w : Str) (c : Cf) : Option Cf := match c.P with
  | [] => none
  | x :: p => match gram.lookup x with
    | some rows => (prodRows w rows).map fun r => ⟨r ++ p, c.W⟩
    | none => if bang x then (bld x c.W).map fun W => ⟨p, W⟩ else none
/-- no step -/
def Halt (w : Str) (c : Cf) : Prop := match c.P with
  | [] => True
  | x :: _ => match gram.lookup x with
    | some rows => prodRows w rows = none
    | none => bang x = false
inductive Stl (w : Str) : Nat → Cf → Cf → Prop
  | stop {n : Nat} {c : Cf} : Halt w c → Stl w n c c
  | step {n : Nat} {c c1 c2 : Cf} : sst w c = some c1 → Stl w n c1 c2 → Stl w (n + 1) c c2
end Q23
namespace Q23
open PySem PySem.Spec PyProof.Rows L2 SX HL
theorem kept_upd {H : Hp} {l : Addr} {o : HO} : Kept H (upd H l o) l := fun b x n h => by
  rw [upd_ne n]
  exact h
theorem kept_new {H H1 : Hp} {l p : Addr} {o : HO} (k : Kept H H1 l) (hp : H1 p = none) : Kept H (upd H1 p o) l := fun b x n h => by
  have h1 := k b x n h
  rw [upd_ne (ne_of_none h1 hp)]
  exact h1
theorem tk_new {H : Hp} {p : Addr} {o : HO} (hp : H p = none) : TupK H (upd H p o) := TupK.of (same_upd hp)
theorem Kept.tk {H H' : Hp} {l : Addr} {xs : List V} (k : Kept H H' l) (h : H l = some (.lst xs)) : TupK H H' := fun b zs e => k b _ (fun z => by rw [z, h] at e; cases e) e
theorem cut_tail (a b : List V) (n : Nat) (hn : b.length = n) (h0 : 0 < n) : HT.sIx (a ++ b).length 0 (some (-(n : Int))) = a.length := by
  show (if (-(n : Int)) < 0 then ((-(n : Int)) + ((a ++ b).length : Int)).toNat else _) = a.length
  rw [if_pos (by omega), List.length_append]
  omega
theorem cutV_tail (a b : List V) (n : Nat) (hn : b.length = n) (h0 : 0 < n) : cutV (a ++ b) (some (-(n : Int))) none = b := by
  unfold cutV
  rw [cut_tail a b n hn h0, HT.sIx_none, List.drop_left]
  exact List.take_of_length_le (by rw [List.length_append]; omega)
theorem bi_none {W W' : List T} (h : bldS "!none" W = some W') : W' = .t [] :: W := by
  unfold bldS at h
  rw [if_pos rfl] at h
  exact (Option.some.inj h).symm
theorem bi_item {W W' : List T} (h : bldS "!item" W = some W') : ∃ i l r, W = i :: .t l :: r ∧ W' = .t (l ++ [i]) :: r ∧ l.length ≤ 1000000 := by
  unfold bldS at h
  rw [if_neg (by decide +kernel), if_pos rfl] at h
  split at h
  · split at h
    · exact ⟨_, _, _, rfl, (Option.some.inj h).symm, by assumption⟩
    · cases h
  · cases h
theorem bi_pair {W W' : List T} (h : bldS "!pair" W = some W') : ∃ b a r, W = b :: a :: r ∧ W' = .t [a, b] :: r := by
  unfold bldS at h
  rw [if_neg (by decide +kernel), if_neg (by decide +kernel), if_pos rfl] at h
  split at h
  · exact ⟨_, _, _, rfl, (Option.some.inj h).symm⟩
  · cases h
theorem bi_triple {W W' : List T} (h : bldS "!triple" W = some W') : ∃ c b a r, W = c :: b :: a :: r ∧ W' = .t [a, b, c] :: r := by
  unfold bldS at h
  rw [if_neg (by decide +kernel), if_neg (by decide +kernel), if_neg (by decide +kernel), if_pos rfl] at h
  split at h
  · exact ⟨_, _, _, _, rfl, (Option.some.inj h).symm⟩
  · cases h
theorem bi_binary {W W' : List T} (h : bldS "!binary" W = some W') : ∃ b o a r, W = b :: o :: a :: r ∧ W' = .t [.s "binary", o, a, b] :: r := by
  unfold bldS at h
  rw [if_neg (by decide +kernel), if_neg (by decide +kernel), if_neg (by decide +kernel), if_neg (by decide +kernel), if_pos rfl] at h
  split at h
  · exact ⟨_, _, _, _, rfl, (Option.some.inj h).symm⟩
  · cases h
theorem bi_true {W W' : List T} (h : bldS "!true" W = some W') : W' = .t [.s "bool", .b true] :: W := by
  unfold bldS at h
  rw [if_neg (by decide +kernel), if_neg (by decide +kernel), if_neg (by decide +kernel), if_neg (by decide +kernel), if_neg (by decide +kernel), if_pos rfl] at h
  exact (Option.some.inj h).symm
theorem bi_false {W W' : List T} (h : bldS "!false" W = some W') : W' = .t [.s "bool", .b false] :: W := by
  unfold bldS at h
  rw [if_neg (by decide +kernel), if_neg (by decide +kernel), if_neg (by decide +kernel), if_neg (by decide +kernel), if_neg (by decide +kernel), if_neg (by decide +kernel), if_pos rfl] at h
  exact (Option.some.inj h).symm
theorem bi_nothing {W W' : List T} (h : bldS "!nothing" W = some W') : W' = .o :: W := by
  unfold bldS at h
  rw [if_neg (by decide +kernel), if_neg (by decide +kernel), if_neg (by decide +kernel), if_neg (by decide +kernel), if_neg (by decide +kernel), if_neg (by decide +kernel), if_neg (by decide +kernel), if_pos rfl] at h
  exact (Option.some.inj h).symm
theorem bi_kind {W W' : List T} (h : bldS "!kind" W = some W') : ∃ a r, W = a :: r ∧ W' = .t [.n 0, a] :: r := by
  unfold bldS at h
  rw [if_neg (by decide +kernel), if_neg (by decide +kernel), if_neg (by decide +kernel), if_neg (by decide +kernel), if_neg (by decide +kernel), if_neg (by decide +kernel), if_neg (by decide +kernel), if_neg (by decide +kernel), if_pos rfl] at h
  split at h
  · exact ⟨_, _, rfl, (Option.some.inj h).symm⟩
  · cases h
theorem bi_level {W W' : List T} (h : bldS "!level" W = some W') : ∃ l a r, W = .t [.n l, a] :: r ∧ W' = .t [.n (l + 1), a] :: r := by
  unfold bldS at h
  rw [if_neg (by decide +kernel), if_neg (by decide +kernel), if_neg (by decide +kernel), if_neg (by decide +kernel), if_neg (by decide +kernel), if_neg (by decide +kernel), if_neg (by decide +kernel), if_neg (by decide +kernel), if_neg (by decide +kernel), if_pos rfl] at h
  split at h
  · exact ⟨_, _, _, rfl, (Option.some.inj h).symm⟩
  · cases h
theorem len_of_WAt {H : Hp} {W : List T} {us : List V} (h : WAt H W.reverse us) : W.length = us.length := by
  have := h.len
  rw [List.length_reverse] at this
  exact this
theorem all2_split {α β : Type} {R : α → β → Prop} : ∀ {xs ys : List α} {us : List β}, All2 R (xs ++ ys) us → ∃ a b, us = a ++ b ∧ All2 R xs a ∧ All2 R ys b
  | [], ys, us, h => ⟨[], us, rfl, .nil, h⟩
  | x :: xs, ys, _, .cons h r => by
    obtain ⟨a, b, rfl, h1, h2⟩ := all2_split r
    exact ⟨_ :: a, b, rfl, .cons h h1, h2⟩
theorem WAt.pop {H : Hp} {W : List T} {us : List V} (h : WAt H W.reverse us) (n : Nat) (hn : n ≤ W.length) : ∃ a b, us = a ++ b ∧ b.length = n ∧ WAt H (W.drop n).reverse a ∧ WAt H (W.take n).reverse b := by
  have e : W.reverse = (W.drop n).reverse ++ (W.take n).reverse := by
    rw [← List.reverse_append, List.take_append_drop]
  unfold WAt at h
  rw [e] at h
  obtain ⟨a, b, rfl, h1, h2⟩ := all2_split h
  refine ⟨a, b, rfl, ?_, h1, h2⟩
  have := h2.len
  rw [List.length_reverse, List.length_take] at this
  omega
/-- a new thing on top -/
theorem WAt.push {H H1 : Hp} {l : Addr} {W : List T} {x : T} {a : List V} {u : V} (h : WAt H W.reverse a) (k : TupK H H1) (h1 : H1 l = some (.lst a)) (hu : TrAt H1 x u) : WAt (upd H1 l (.lst (a ++ [u]))) (x :: W).reverse (a ++ [u]) := by
  rw [List.reverse_cons]
  exact ((h.keep k).keep (tk_lst h1)).snoc (hu.keep (tk_lst h1))
theorem small1 {a : List V} (h : a.length ≤ 1000000) : a.length < sizeLine := by
  have : 1000001 ≤ sizeLine := by decide
  omega
section
variable {P : Program} {w : World} {K : PySem.W.Frag} {mg : Str → Option Value} {base : Heap}
/-! ### popped -/
def spPopped : Sp := fun vs H Q _ => ∃ (l : Addr) (n : Nat) (a b : List V), vs = [.ref l, .int (n : Int)] ∧ H l = some (.lst (a ++ b)) ∧ b.length = n ∧ 0 < n ∧ (a ++ b).length ≤ 1000000 ∧
  ∀ H' p, Kept H H' l → H' l = some (.lst a) → H' p = some (.tup b) → Q (.ref p) H'
theorem ok_popped {k : Nat} (Z : Defs K mg) (R : Rest P w K mg Z) : FnOk P w K mg base CX0 (k + 1) Z.fPopped Z.fdPopped ["values", "count"] spPopped := by
  have T := R.T
  refine Z.DPopped.F.ok scPopped (fun vs H Q E h => ?_) (fun cdv A outer s H vs Q E hr h => ?_)
  · obtain ⟨l, n, a, b, rfl, _⟩ := h
    rfl
  · obtain ⟨l, n, a, b, rfl, hl, hn, h0, hz, q⟩ := h
    refine ⟨_, (pss_cons (ps_set (i := 2) scPopped.nd rfl (.inl rfl) (pe_callTy call_tuple_of (by rfl) T.tuple HL.boot_tuple (pa_cons (pe_slice sl_list (pv 0) (po_some (pe_un un_neg (pv 1))) po_none) pa_nil)))
        (pss_cons (DS.ps_delT (pv 0) (pe_un un_neg (pv 1)))
        (pss_one (ps_ret (pv 2))))), ?_⟩
    refine ⟨_, rfl, _, rfl, (n : Int), rfl, _, rfl, l, a ++ b, rfl, SqL.of hl, fun z hz1 => ?_⟩
    rw [cutV_tail a b n hn h0]
    refine ⟨z, b, rfl, .inl ⟨SqL.of upd_same, fun t ht => ?_⟩⟩
    have n1 : l ≠ z := ne_of_none hl hz1
    have h1 : upd H z (.lst b) l = some (.lst (a ++ b)) := by rw [upd_ne n1]; exact hl
    have n2 : l ≠ t := ne_of_none h1 ht
    have h2 : upd (upd H z (.lst b)) t (.tup b) l = some (.lst (a ++ b)) := by rw [upd_ne n2]; exact h1
    refine ⟨_, rfl, _, rfl, (n : Int), rfl, l, a ++ b, _, rfl, rfl, h2, _, rfl, ?_⟩
    rw [cut_tail a b n hn h0, List.take_left]
    refine q _ t (Kept.trans (kept_new (kept_new Kept.refl hz1) ht) kept_upd) upd_same ?_
    rw [upd_ne (fun e => n2 e.symm)]
    exact upd_same
/-! ### the steps -/
def spStep (x : Str) : Sp := fun vs H Q _ => ∃ (l : Addr) (us : List V) (W W' : List T), vs = [.ref l] ∧ H l = some (.lst us) ∧ WAt H W.reverse us ∧ bldS x W = some W' ∧ us.length ≤ 1000000 ∧
  ∀ H' us', Kept H H' l → H' l = some (.lst us') → WAt H' W'.reverse us' → Q .non H'
theorem ok_begin_items {k : Nat} (Z : Defs K mg) (R : Rest P w K mg Z) : FnOk P w K mg base CX0 (k + 1) Z.fBeginItems Z.fdBeginItems ["values"] (spStep "!none") := by
  have T := R.T
  refine Z.DBeginItems.F.ok scBeginItems (fun vs H Q E h => ?_) (fun cdv A outer s H vs Q E hr h => ?_)
  · obtain ⟨l, us, W, W', rfl, _⟩ := h
    rfl
  · obtain ⟨l, us, W, W', rfl, hl, hW, hb, hz, q⟩ := h
    refine ⟨_, (pss_one (ps_expr (pe_bm PySem.F.plainAttrs_list PySem.F.slot_list_append PySem.F.type_list_append mt_append (pv 0) (pa_cons (pe_tup pa_nil) pa_nil)))), ?_⟩
    obtain rfl := bi_none hb
    refine ⟨_, rfl, .inl ⟨rfl, _, SqL.of hl⟩, by show 0 ≤ sizeLine; decide, fun p hp => ?_⟩
    have n1 : l ≠ p := ne_of_none hl hp
    have h1 : upd H p (.tup []) l = some (.lst us) := by rw [upd_ne n1]; exact hl
    refine ⟨l, _, _, rfl, rfl, h1, by have : 1000001 ≤ sizeLine := by decide
                                      omega, ?_⟩
    refine q _ _ (Kept.trans (kept_new Kept.refl hp) kept_upd) upd_same ?_
    rw [List.reverse_cons]
    exact ((hW.keep (tk_new hp)).keep (tk_lst h1)).snoc (TrAt.tup (by rw [upd_ne (fun e => n1 e.symm)]; exact upd_same) .nil)
theorem ok_join_pair {k : Nat} (Z : Defs K mg) (R : Rest P w K mg Z) : FnOk P w K mg base CX0 (k + 2) Z.fJoinPair Z.fdJoinPair ["values"] (spStep "!pair") := by
  have T := R.T
  have DPopped := Z.DPopped
  have GPopped : FnOk P w K mg base CX0 (k + 1) Z.fPopped Z.fdPopped ["values", "count"] spPopped := ok_popped Z R
  refine Z.DJoinPair.F.ok scJoinPair (fun vs H Q E h => ?_) (fun cdv A outer s H vs Q E hr h => ?_)
  · obtain ⟨l, us, W, W', rfl, _⟩ := h
    rfl
  · obtain ⟨l, us, W, W', rfl, hl, hW, hb, hz, q⟩ := h
    refine ⟨_, (pss_one (ps_expr (pe_bm PySem.F.plainAttrs_list PySem.F.slot_list_append PySem.F.type_list_append mt_append (pv 0) (pa_cons (pe_call GPopped (hr.mono (by omega)) (by rfl) DPopped.g DPopped.F.kp DPopped.b .nil pass0 (pa_cons (pv 0) (pa_cons pe_int pa_nil))) pa_nil)))), ?_⟩
    obtain ⟨y, x, r, rfl, rfl⟩ := bi_pair hb
    obtain ⟨a, b, rfl, hbn, ha, hbb⟩ := hW.pop 2 (by simp)
    have haz : a.length ≤ 1000000 := by rw [List.length_append] at hz; omega
    refine ⟨_, rfl, .inl ⟨rfl, _, SqL.of hl⟩, _, rfl, l, 2, a, b, rfl, hl, hbn, by omega, hz, fun H1 p k1 h1 hp => ?_⟩
    have tk := Kept.tk k1 hl
    refine ⟨l, _, _, rfl, rfl, h1, small1 haz, ?_⟩
    exact q _ _ (Kept.trans k1 kept_upd) upd_same (ha.push tk h1 (TrAt.tup hp (hbb.keep tk)))
theorem ok_join_triple {k : Nat} (Z : Defs K mg) (R : Rest P w K mg Z) : FnOk P w K mg base CX0 (k + 2) Z.fJoinTriple Z.fdJoinTriple ["values"] (spStep "!triple") := by
  have T := R.T
  have DPopped := Z.DPopped
  have GPopped : FnOk P w K mg base CX0 (k + 1) Z.fPopped Z.fdPopped ["values", "count"] spPopped := ok_popped Z R
  refine Z.DJoinTriple.F.ok scJoinTriple (fun vs H Q E h => ?_) (fun cdv A outer s H vs Q E hr h => ?_)
  · obtain ⟨l, us, W, W', rfl, _⟩ := h
    rfl
  · obtain ⟨l, us, W, W', rfl, hl, hW, hb, hz, q⟩ := h
    refine ⟨_, (pss_one (ps_expr (pe_bm PySem.F.plainAttrs_list PySem.F.slot_list_append PySem.F.type_list_append mt_append (pv 0) (pa_cons (pe_call GPopped (hr.mono (by omega)) (by rfl) DPopped.g DPopped.F.kp DPopped.b .nil pass0 (pa_cons (pv 0) (pa_cons pe_int pa_nil))) pa_nil)))), ?_⟩
    obtain ⟨z, y, x, r, rfl, rfl⟩ := bi_triple hb
    obtain ⟨a, b, rfl, hbn, ha, hbb⟩ := hW.pop 3 (by simp)
    have haz : a.length ≤ 1000000 := by rw [List.length_append] at hz; omega
    refine ⟨_, rfl, .inl ⟨rfl, _, SqL.of hl⟩, _, rfl, l, 3, a, b, rfl, hl, hbn, by omega, hz, fun H1 p k1 h1 hp => ?_⟩
    have tk := Kept.tk k1 hl
    refine ⟨l, _, _, rfl, rfl, h1, small1 haz, ?_⟩
    exact q _ _ (Kept.trans k1 kept_upd) upd_same (ha.push tk h1 (TrAt.tup hp (hbb.keep tk)))
theorem ok_build_true {k : Nat} (Z : Defs K mg) (R : Rest P w K mg Z) : FnOk P w K mg base CX0 (k + 1) Z.fBuildTrue Z.fdBuildTrue ["values"] (spStep "!true") := by
  have T := R.T
  refine Z.DBuildTrue.F.ok scBuildTrue (fun vs H Q E h => ?_) (fun cdv A outer s H vs Q E hr h => ?_)
  · obtain ⟨l, us, W, W', rfl, _⟩ := h
    rfl
  · obtain ⟨l, us, W, W', rfl, hl, hW, hb, hz, q⟩ := h
    refine ⟨_, (pss_one (ps_expr (pe_bm PySem.F.plainAttrs_list PySem.F.slot_list_append PySem.F.type_list_append mt_append (pv 0) (pa_cons (pe_tup (pa_cons pe_str (pa_cons pe_bl pa_nil))) pa_nil)))), ?_⟩
    obtain rfl := bi_true hb
    refine ⟨_, rfl, .inl ⟨rfl, _, SqL.of hl⟩, by show 2 ≤ sizeLine; decide, fun p hp => ?_⟩
    have n1 : l ≠ p := ne_of_none hl hp
    have h1 : upd H p (.tup [.str "bool", .bl true]) l = some (.lst us) := by rw [upd_ne n1]; exact hl
    refine ⟨l, _, _, rfl, rfl, h1, small1 hz, ?_⟩
    exact q _ _ (Kept.trans (kept_new Kept.refl hp) kept_upd) upd_same (hW.push (tk_new hp) h1 (TrAt.tup upd_same (.cons rfl (.cons rfl .nil))))
theorem ok_build_false {k : Nat} (Z : Defs K mg) (R : Rest P w K mg Z) : FnOk P w K mg base CX0 (k + 1) Z.fBuildFalse Z.fdBuildFalse ["values"] (spStep "!false") := by
  have T := R.T
  refine Z.DBuildFalse.F.ok scBuildFalse (fun vs H Q E h => ?_) (fun cdv A outer s H vs Q E hr h => ?_)
  · obtain ⟨l, us, W, W', rfl, _⟩ := h
    rfl
  · obtain ⟨l, us, W, W', rfl, hl, hW, hb, hz, q⟩ := h
    refine ⟨_, (pss_one (ps_expr (pe_bm PySem.F.plainAttrs_list PySem.F.slot_list_append PySem.F.type_list_append mt_append (pv 0) (pa_cons (pe_tup (pa_cons pe_str (pa_cons pe_bl pa_nil))) pa_nil)))), ?_⟩
    obtain rfl := bi_false hb
    refine ⟨_, rfl, .inl ⟨rfl, _, SqL.of hl⟩, by show 2 ≤ sizeLine; decide, fun p hp => ?_⟩
    have n1 : l ≠ p := ne_of_none hl hp
    have h1 : upd H p (.tup [.str "bool", .bl false]) l = some (.lst us) := by rw [upd_ne n1]; exact hl
    refine ⟨l, _, _, rfl, rfl, h1, small1 hz, ?_⟩
    exact q _ _ (Kept.trans (kept_new Kept.refl hp) kept_upd) upd_same (hW.push (tk_new hp) h1 (TrAt.tup upd_same (.cons rfl (.cons rfl .nil))))
theorem ok_keep_nothing {k : Nat} (Z : Defs K mg) (R : Rest P w K mg Z) : FnOk P w K mg base CX0 (k + 1) Z.fKeepNothing Z.fdKeepNothing ["values"] (spStep "!nothing") := by
  have T := R.T
  refine Z.DKeepNothing.F.ok scKeepNothing (fun vs H Q E h => ?_) (fun cdv A outer s H vs Q E hr h => ?_)
  · obtain ⟨l, us, W, W', rfl, _⟩ := h
    rfl
  · obtain ⟨l, us, W, W', rfl, hl, hW, hb, hz, q⟩ := h
    refine ⟨_, (pss_one (ps_expr (pe_bm PySem.F.plainAttrs_list PySem.F.slot_list_append PySem.F.type_list_append mt_append (pv 0) (pa_cons pe_non pa_nil)))), ?_⟩
    obtain rfl := bi_nothing hb
    refine ⟨_, rfl, .inl ⟨rfl, _, SqL.of hl⟩, l, _, _, rfl, rfl, hl, small1 hz, ?_⟩
    exact q _ _ kept_upd upd_same (hW.push TupK.refl hl rfl)
theorem ok_add_item {k : Nat} (Z : Defs K mg) (R : Rest P w K mg Z) : FnOk P w K mg base CX0 (k + 2) Z.fAddItem Z.fdAddItem ["values"] (spStep "!item") := by
  have T := R.T
  have DPopped := Z.DPopped
  have GPopped : FnOk P w K mg base CX0 (k + 1) Z.fPopped Z.fdPopped ["values", "count"] spPopped := ok_popped Z R
  refine Z.DAddItem.F.ok scAddItem (fun vs H Q E h => ?_) (fun cdv A outer s H vs Q E hr h => ?_)
  · obtain ⟨l, us, W, W', rfl, _⟩ := h
    rfl
  · obtain ⟨l, us, W, W', rfl, hl, hW, hb, hz, q⟩ := h
    refine ⟨_, (pss_cons (ps_asg (pe_call GPopped (hr.mono (by omega)) (by rfl) DPopped.g DPopped.F.kp DPopped.b .nil pass0 (pa_cons (pv 0) (pa_cons pe_int pa_nil))) (pg_tup rfl (pgs_cons (pg_name (i := 1) scAddItem.nd rfl (.inl rfl)) (pgs_cons (pg_name (i := 2) scAddItem.nd rfl (.inl rfl)) pgs_nil))))
        (pss_one (ps_expr (pe_bm PySem.F.plainAttrs_list PySem.F.slot_list_append PySem.F.type_list_append mt_append (pv 0) (pa_cons (pe_tup (StX.pa_star (pv 1) (pa_cons (pv 2) pa_nil))) pa_nil))))), ?_⟩
    obtain ⟨i, its, r, rfl, rfl, hil⟩ := bi_item hb
    obtain ⟨a, b, rfl, hbn, ha, hbb⟩ := hW.pop 2 (by simp)
    have haz : a.length ≤ 1000000 := by rw [List.length_append] at hz; omega
    obtain ⟨u1, u2, rfl, g1, g2⟩ : ∃ u1 u2, b = [u1, u2] ∧ TrAt H (.t its) u1 ∧ TrAt H i u2 := by
      cases hbb with
      | cons g1 r1 =>
        cases r1 with
        | cons g2 r2 =>
          cases r2
          exact ⟨_, _, rfl, g1, g2⟩
    obtain ⟨ia, ius, rfl, hia, hius⟩ := g1
    refine ⟨_, rfl, l, 2, a, _, rfl, hl, rfl, by omega, hz, fun H1 p k1 h1 hp => ?_⟩
    have tk := Kept.tk k1 hl
    refine ⟨p, _, rfl, SqT.of hp, rfl, _, _, rfl, _, _, rfl, rfl, ?_⟩
    refine ⟨_, rfl, .inl ⟨rfl, _, SqL.of h1⟩, _, rfl, ia, ius, rfl, .inl (SqT.of (tk _ _ hia)), _, rfl, ?_⟩
    have li := hius.all.len
    refine ⟨by
      have : 1000001 ≤ sizeLine := by decide
      rw [List.length_append]
      show ius.length + 1 ≤ sizeLine
      omega, fun t ht => ?_⟩
    have n1 : l ≠ t := ne_of_none h1 ht
    have h2 : upd H1 t (.tup (ius ++ [u2])) l = some (.lst a) := by rw [upd_ne n1]; exact h1
    refine ⟨l, _, _, rfl, rfl, h2, small1 haz, ?_⟩
    have tk2 := tk.tr (tk_new (o := .tup (ius ++ [u2])) ht)
    exact q _ _ (Kept.trans (kept_new k1 ht) kept_upd) upd_same (ha.push tk2 h2 (TrAt.tup upd_same ((WAt.keep tk2 hius.all).snoc (g2.keep tk2))))
theorem ok_build_binary {k : Nat} (Z : Defs K mg) (R : Rest P w K mg Z) : FnOk P w K mg base CX0 (k + 2) Z.fBuildBinary Z.fdBuildBinary ["values"] (spStep "!binary") := by
  have T := R.T
  have DPopped := Z.DPopped
  have GPopped : FnOk P w K mg base CX0 (k + 1) Z.fPopped Z.fdPopped ["values", "count"] spPopped := ok_popped Z R
  refine Z.DBuildBinary.F.ok scBuildBinary (fun vs H Q E h => ?_) (fun cdv A outer s H vs Q E hr h => ?_)
  · obtain ⟨l, us, W, W', rfl, _⟩ := h
    rfl
  · obtain ⟨l, us, W, W', rfl, hl, hW, hb, hz, q⟩ := h
    refine ⟨_, (pss_cons (ps_asg (pe_call GPopped (hr.mono (by omega)) (by rfl) DPopped.g DPopped.F.kp DPopped.b .nil pass0 (pa_cons (pv 0) (pa_cons pe_int pa_nil))) (pg_tup rfl (pgs_cons (pg_name (i := 1) scBuildBinary.nd rfl (.inl rfl)) (pgs_cons (pg_name (i := 2) scBuildBinary.nd rfl (.inl rfl)) (pgs_cons (pg_name (i := 3) scBuildBinary.nd rfl (.inl rfl)) pgs_nil)))))
        (pss_one (ps_expr (pe_bm PySem.F.plainAttrs_list PySem.F.slot_list_append PySem.F.type_list_append mt_append (pv 0) (pa_cons (pe_tup (pa_cons pe_str (pa_cons (pv 2) (pa_cons (pv 1) (pa_cons (pv 3) pa_nil))))) pa_nil))))), ?_⟩
    obtain ⟨y, o, x, r, rfl, rfl⟩ := bi_binary hb
    obtain ⟨a, b, rfl, hbn, ha, hbb⟩ := hW.pop 3 (by simp)
    have haz : a.length ≤ 1000000 := by rw [List.length_append] at hz; omega
    obtain ⟨u1, u2, u3, rfl, g1, g2, g3⟩ : ∃ u1 u2 u3, b = [u1, u2, u3] ∧ TrAt H x u1 ∧ TrAt H o u2 ∧ TrAt H y u3 := by
      cases hbb with
      | cons g1 r1 =>
        cases r1 with
        | cons g2 r2 =>
          cases r2 with
          | cons g3 r3 =>
            cases r3
            exact ⟨_, _, _, rfl, g1, g2, g3⟩
    refine ⟨_, rfl, l, 3, a, _, rfl, hl, rfl, by omega, hz, fun H1 p k1 h1 hp => ?_⟩
    have tk := Kept.tk k1 hl
    refine ⟨p, _, rfl, SqT.of hp, rfl, _, _, rfl, _, _, rfl, _, _, rfl, rfl, ?_⟩
    refine ⟨_, rfl, .inl ⟨rfl, _, SqL.of h1⟩, _, rfl, _, rfl, _, rfl, by show 4 ≤ sizeLine; decide, fun t ht => ?_⟩
    have n1 : l ≠ t := ne_of_none h1 ht
    have h2 : upd H1 t (.tup [.str "binary", u2, u1, u3]) l = some (.lst a) := by rw [upd_ne n1]; exact h1
    refine ⟨l, _, _, rfl, rfl, h2, small1 haz, ?_⟩
    have tk2 := tk.tr (tk_new (o := .tup [.str "binary", u2, u1, u3]) ht)
    exact q _ _ (Kept.trans (kept_new k1 ht) kept_upd) upd_same (ha.push tk2 h2 (TrAt.tup upd_same (.cons rfl (.cons (g2.keep tk2) (.cons (g1.keep tk2) (.cons (g3.keep tk2) .nil))))))
theorem ok_begin_kind {k : Nat} (Z : Defs K mg) (R : Rest P w K mg Z) : FnOk P w K mg base CX0 (k + 1) Z.fBeginKind Z.fdBeginKind ["values"] (spStep "!kind") := by
  have T := R.T
  refine Z.DBeginKind.F.ok scBeginKind (fun vs H Q E h => ?_) (fun cdv A outer s H vs Q E hr h => ?_)
  · obtain ⟨l, us, W, W', rfl, _⟩ := h
    rfl
  · obtain ⟨l, us, W, W', rfl, hl, hW, hb, hz, q⟩ := h
    refine ⟨_, (pss_one (ps_expr (pe_bm PySem.F.plainAttrs_list PySem.F.slot_list_append PySem.F.type_list_append mt_append (pv 0) (pa_cons (pe_tup (pa_cons pe_int (pa_cons (pe_bm0 PySem.F.plainAttrs_list PySem.F.slot_list_pop PySem.F.type_list_pop mt_pop (pv 0)) pa_nil))) pa_nil)))), ?_⟩
    obtain ⟨x, r, rfl, rfl⟩ := bi_kind hb
    obtain ⟨a, b, rfl, hbn, ha, hbb⟩ := hW.pop 1 (by simp)
    have haz : a.length ≤ 1000000 := by rw [List.length_append] at hz; omega
    obtain ⟨u, rfl, g⟩ : ∃ u, b = [u] ∧ TrAt H x u := by
      cases hbb with
      | cons g r1 =>
        cases r1
        exact ⟨_, rfl, g⟩
    refine ⟨_, rfl, .inl ⟨rfl, _, SqL.of hl⟩, _, rfl, .inl ⟨rfl, _, SqL.of hl⟩, l, _, u, rfl, rfl, hl, by simp, by show 2 ≤ sizeLine; decide, fun p hp => ?_⟩
    rw [List.dropLast_concat] at hp ⊢
    have h0 : upd H l (.lst a) l = some (.lst a) := upd_same
    have n1 : l ≠ p := ne_of_none h0 hp
    have h1 : upd (upd H l (.lst a)) p (.tup [.int 0, u]) l = some (.lst a) := by rw [upd_ne n1]; exact h0
    have tk := (tk_lst (ys := a) hl).tr (tk_new (o := .tup [.int 0, u]) hp)
    refine ⟨l, _, _, rfl, rfl, h1, small1 haz, ?_⟩
    exact q _ _ (Kept.trans (kept_new kept_upd hp) kept_upd) upd_same (ha.push tk h1 (TrAt.tup upd_same (.cons rfl (.cons (g.keep tk) .nil))))
theorem ok_raise_level {k : Nat} (Z : Defs K mg) (R : Rest P w K mg Z) : FnOk P w K mg base CX0 (k + 1) Z.fRaiseLevel Z.fdRaiseLevel ["values"] (spStep "!level") := by
  have T := R.T
  refine Z.DRaiseLevel.F.ok scRaiseLevel (fun vs H Q E h => ?_) (fun cdv A outer s H vs Q E hr h => ?_)
  · obtain ⟨l, us, W, W', rfl, _⟩ := h
    rfl
  · obtain ⟨l, us, W, W', rfl, hl, hW, hb, hz, q⟩ := h
    refine ⟨_, (pss_cons (ps_asg (pe_bm0 PySem.F.plainAttrs_list PySem.F.slot_list_pop PySem.F.type_list_pop mt_pop (pv 0)) (pg_tup rfl (pgs_cons (pg_name (i := 1) scRaiseLevel.nd rfl (.inl rfl)) (pgs_cons (pg_name (i := 2) scRaiseLevel.nd rfl (.inl rfl)) pgs_nil))))
        (pss_one (ps_expr (pe_bm PySem.F.plainAttrs_list PySem.F.slot_list_append PySem.F.type_list_append mt_append (pv 0) (pa_cons (pe_tup (pa_cons (pe_op op_add (pv 1) pe_int) (pa_cons (pv 2) pa_nil))) pa_nil))))), ?_⟩
    obtain ⟨lv, x, r, rfl, rfl⟩ := bi_level hb
    obtain ⟨a, b, rfl, hbn, ha, hbb⟩ := hW.pop 1 (by simp)
    have haz : a.length ≤ 1000000 := by rw [List.length_append] at hz; omega
    obtain ⟨u, rfl, g⟩ : ∃ u, b = [u] ∧ TrAt H (.t [.n lv, x]) u := by
      cases hbb with
      | cons g r1 =>
        cases r1
        exact ⟨_, rfl, g⟩
    obtain ⟨ta, tus, rfl, hta, htus⟩ := g
    obtain ⟨uy, rfl, gy⟩ : ∃ uy, tus = [.int lv, uy] ∧ TrAt H x uy := by
      have h2 := htus.all
      cases h2 with
      | cons g1 r1 =>
        cases r1 with
        | cons g2 r2 =>
          cases r2
          obtain rfl := g1
          exact ⟨_, rfl, g2⟩
    have tk0 := tk_lst (ys := a) hl
    refine ⟨_, rfl, .inl ⟨rfl, _, SqL.of hl⟩, l, _, .ref ta, rfl, rfl, hl, by simp, ?_⟩
    rw [List.dropLast_concat]
    have h0 : upd H l (.lst a) l = some (.lst a) := upd_same
    refine ⟨ta, _, rfl, SqT.of (tk0 _ _ hta), rfl, _, _, rfl, _, _, rfl, rfl, ?_⟩
    refine ⟨_, rfl, .inl ⟨rfl, _, SqL.of h0⟩, _, rfl, _, _, rfl, rfl, _, rfl, by show 2 ≤ sizeLine; decide, fun p hp => ?_⟩
    have n1 : l ≠ p := ne_of_none h0 hp
    have h1 : upd (upd H l (.lst a)) p (.tup [.int (lv + 1), uy]) l = some (.lst a) := by rw [upd_ne n1]; exact h0
    have tk := tk0.tr (tk_new (o := .tup [.int (lv + 1), uy]) hp)
    refine ⟨l, _, _, rfl, rfl, h1, small1 haz, ?_⟩
    exact q _ _ (Kept.trans (kept_new kept_upd hp) kept_upd) upd_same (ha.push tk h1 (TrAt.tup upd_same (.cons rfl (.cons (gy.keep tk) .nil))))
end
end Q23
namespace Q23
open PySem PySem.Spec PyProof.Rows L2 SX HL
theorem kdct {K : PySem.W.Frag} {w : World} {d : Addr} {es : Array DictEntry} {n : Nat} {x : Str} {u : Value} {v : V} (D : KDict K w d es n) (h : PySem.W.nsIn K d x = some (some u)) (r : RelV v u) : KDct K w d x v := ⟨es, n, u, D.at_, D.lit, h, r⟩
theorem lookup_mem {α : Type} {x : Str} {y : α} : ∀ {l : List (Str × α)}, l.lookup x = some y → (x, y) ∈ l
  | [], h => by cases h
  | (a, b) :: l, h => by
    rw [List.lookup_cons] at h
    split at h
    · rename_i e
      have e1 : x = a := by simpa using e
      subst e1
      obtain rfl := Option.some.inj h
      exact List.mem_cons_self
    · exact List.mem_cons_of_mem _ (lookup_mem h)
theorem trees_pos {x : Str} {n : Int} (h : trees.lookup x = some n) : 0 < n.toNat ∧ n.toNat ≤ 5 ∧ ((n.toNat : Nat) : Int) = n ∧ x.length ≤ 1000 := by
  have h1 := lookup_mem h
  have h2 : ∀ p ∈ trees, 0 < p.2.toNat ∧ p.2.toNat ≤ 5 ∧ ((p.2.toNat : Nat) : Int) = p.2 ∧ p.1.length ≤ 1000 := by decide +kernel
  exact h2 _ h1
section
variable {P : Program} {w : World} {K : PySem.W.Frag} {mg : Str → Option Value} {base : Heap}
theorem held_of {f : Addr} {fd : FuncData} {k : Nat} {n : Str} {S : Stmt} {sp : Sp} (D : DefN K mg n S ["values"] f fd) (h : FnOk P w K mg base CX0 k f fd ["values"] sp) : Held P w K mg base k f sp := ⟨fd, ["values"], h, D.F.kp, D.b⟩
/-- the def that takes a step -/
theorem step_of {k : Nat} (Z : Defs K mg) (R : Rest P w K mg Z) {x : Str} {W W' : List T} (h : bldS x W = some W') : ∃ f, PySem.W.nsIn K Z.aS x = some (some (.ref f)) ∧ Held P w K mg base (k + 2) f (spStep x) := by
  unfold bldS at h
  split at h
  · rename_i e; subst e; exact ⟨_, Z.sBeginItems, held_of Z.DBeginItems (ok_begin_items (k := k + 1) Z R)⟩
  split at h
  · rename_i e; subst e; exact ⟨_, Z.sAddItem, held_of Z.DAddItem (ok_add_item (k := k) Z R)⟩
  split at h
  · rename_i e; subst e; exact ⟨_, Z.sJoinPair, held_of Z.DJoinPair (ok_join_pair (k := k) Z R)⟩
  split at h
  · rename_i e; subst e; exact ⟨_, Z.sJoinTriple, held_of Z.DJoinTriple (ok_join_triple (k := k) Z R)⟩
  split at h
  · rename_i e; subst e; exact ⟨_, Z.sBuildBinary, held_of Z.DBuildBinary (ok_build_binary (k := k) Z R)⟩
  split at h
  · rename_i e; subst e; exact ⟨_, Z.sBuildTrue, held_of Z.DBuildTrue (ok_build_true (k := k + 1) Z R)⟩
  split at h
  · rename_i e; subst e; exact ⟨_, Z.sBuildFalse, held_of Z.DBuildFalse (ok_build_false (k := k + 1) Z R)⟩
  split at h
  · rename_i e; subst e; exact ⟨_, Z.sKeepNothing, held_of Z.DKeepNothing (ok_keep_nothing (k := k + 1) Z R)⟩
  split at h
  · rename_i e; subst e; exact ⟨_, Z.sBeginKind, held_of Z.DBeginKind (ok_begin_kind (k := k + 1) Z R)⟩
  split at h
  · rename_i e; subst e; exact ⟨_, Z.sRaiseLevel, held_of Z.DRaiseLevel (ok_raise_level (k := k + 1) Z R)⟩
  · cases h
/-! ### build -/
def spBuild : Sp := fun vs H Q _ => ∃ (l : Addr) (x : Str) (us : List V) (W W' : List T), vs = [.ref l, .str x] ∧ H l = some (.lst us) ∧ WAt H W.reverse us ∧ bld x W = some W' ∧ us.length ≤ 1000000 ∧
  ∀ H' us', Kept H H' l → H' l = some (.lst us') → WAt H' W'.reverse us' → Q .non H'
theorem ok_build {k : Nat} (Z : Defs K mg) (R : Rest P w K mg Z) : FnOk P w K mg base CX0 (k + 3) Z.fBuild Z.fdBuild ["values", "word"] spBuild := by
  have T := R.T
  have DPopped := Z.DPopped
  have GPopped : FnOk P w K mg base CX0 (k + 1) Z.fPopped Z.fdPopped ["values", "count"] spPopped := ok_popped Z R
  obtain ⟨eT, nT, DT⟩ := R.kT
  obtain ⟨eS, nS, DS⟩ := R.kS
  refine Z.DBuild.F.ok scBuild (fun vs H Q E h => ?_) (fun cdv A outer s H vs Q E hr h => ?_)
  · obtain ⟨l, x, us, W, W', rfl, _⟩ := h
    rfl
  · obtain ⟨l, x, us, W, W', rfl, hl, hW, hb, hz, q⟩ := h
    obtain ⟨i1, i2⟩ := GR.dict_in Z.Tr x
    unfold bld at hb
    cases ht : trees.lookup x with
    | some n =>
      rw [ht] at hb
      dsimp only at hb
      split at hb
      · rename_i hn
        obtain rfl := (Option.some.inj hb).symm
        obtain ⟨v, hv1, hv2⟩ := i1 n ht
        obtain ⟨t, rfl⟩ := GR.int_in hv2
        obtain ⟨p0, p5, pe, hx⟩ := trees_pos ht
        obtain ⟨a, b, rfl, hbn, ha, hbb⟩ := hW.pop n.toNat hn
        have AS : ∀ (f : Addr) (sp : Sp), (fun _ : Addr => (none : Option Sp)) f = some sp → Held P w K mg base k f sp := fun f sp e => nomatch e
        refine ⟨_, (pss_one (ps_if (pt_cmpR (HK.op_in_kdK (K := K) (w := w) rfl rfl DT) (pv 1) (pe_glob (v := .ref Z.aT) rfl Z.gT rfl) rfl) (pss_cons (ps_set (i := 2) scBuild.nd rfl (.inl rfl) (pe_call GPopped (hr.mono (by omega)) (by rfl) DPopped.g DPopped.F.kp DPopped.b .nil pass0 (pa_cons (pv 0) (pa_cons (pe_ix (HK.ix_kdictK (K := K) (w := w) rfl rfl) (pe_glob (v := .ref Z.aT) rfl Z.gT rfl) (pv 1) (fun _ _ => rfl)) pa_nil))))
        (pss_one (ps_expr (pe_bm PySem.F.plainAttrs_list PySem.F.slot_list_append PySem.F.type_list_append mt_append (pv 0) (pa_cons (pe_tup (pa_cons (pe_slice sl_str (pv 1) (po_some pe_int) po_none) (StX.pa_star (pv 2) pa_nil))) pa_nil))))) (pss_cons (ps_set (i := 3) scBuild.nd rfl (.inl rfl) (pe_ix (HK.ix_kdictK (K := K) (w := w) rfl rfl) (pe_glob (v := .ref Z.aS) rfl Z.gS rfl) (pv 1) (fun _ _ => rfl)))
        (pss_one (ps_expr (pe_callA (i := 3) AS (hr.mono (by omega)) rfl (.inl rfl) (pa_cons (pv 0) pa_nil))))))), ?_⟩
        refine ⟨_, rfl, x, _, rfl, rfl, hv1, _, rfl, iteT ?_⟩
        refine ⟨_, rfl, _, rfl, Z.aT, x, .int n, rfl, rfl, kdct DT hv1 ⟨_, rfl⟩, l, n.toNat, a, b, by rw [pe]; rfl, hl, hbn, p0, hz, fun H1 p k1 h1 hp => ?_⟩
        have haz : a.length ≤ 1000000 := by rw [List.length_append] at hz; omega
        have big : 1000001 ≤ sizeLine := by decide
        have tk := Kept.tk k1 hl
        refine ⟨_, rfl, .inl ⟨rfl, _, SqL.of h1⟩, _, rfl, 1, rfl, x, rfl, by omega, _, rfl, p, b, rfl, .inl (SqT.of hp), by
          show (V.str (cutS x (some 1) none) :: (b ++ [])).length ≤ sizeLine
          rw [List.append_nil, List.length_cons]
          omega, fun t ht0 => ?_⟩
        rw [List.append_nil]
        have n1 : l ≠ t := ne_of_none h1 ht0
        have h2 : upd H1 t (.tup (V.str (cutS x (some 1) none) :: b)) l = some (.lst a) := by rw [upd_ne n1]; exact h1
        refine ⟨l, _, _, rfl, rfl, h2, small1 haz, ?_⟩
        have tk2 := tk.tr (tk_new (o := .tup (V.str (cutS x (some 1) none) :: b)) ht0)
        exact q _ _ (Kept.trans (kept_new k1 ht0) kept_upd) upd_same (ha.push tk2 h2 (TrAt.tup upd_same (.cons rfl (WAt.keep tk2 hbb))))
      · cases hb
    | none =>
      rw [ht] at hb
      dsimp only at hb
      obtain ⟨f, hf, hH⟩ := step_of (base := base) (k := k) Z R hb
      have AS : ∀ (g : Addr) (sp : Sp), (fun g : Addr => if g = f then some (spStep x) else none) g = some sp → Held P w K mg base (k + 2) g sp := fun g sp e => by
        dsimp only at e
        split at e
        · rename_i e1
          subst e1
          obtain rfl := Option.some.inj e
          exact hH
        · cases e
      refine ⟨_, (pss_one (ps_if (pt_cmpR (HK.op_in_kdK (K := K) (w := w) rfl rfl DT) (pv 1) (pe_glob (v := .ref Z.aT) rfl Z.gT rfl) rfl) (pss_cons (ps_set (i := 2) scBuild.nd rfl (.inl rfl) (pe_call GPopped (hr.mono (by omega)) (by rfl) DPopped.g DPopped.F.kp DPopped.b .nil pass0 (pa_cons (pv 0) (pa_cons (pe_ix (HK.ix_kdictK (K := K) (w := w) rfl rfl) (pe_glob (v := .ref Z.aT) rfl Z.gT rfl) (pv 1) (fun _ _ => rfl)) pa_nil))))
        (pss_one (ps_expr (pe_bm PySem.F.plainAttrs_list PySem.F.slot_list_append PySem.F.type_list_append mt_append (pv 0) (pa_cons (pe_tup (pa_cons (pe_slice sl_str (pv 1) (po_some pe_int) po_none) (StX.pa_star (pv 2) pa_nil))) pa_nil))))) (pss_cons (ps_set (i := 3) scBuild.nd rfl (.inl rfl) (pe_ix (HK.ix_kdictK (K := K) (w := w) rfl rfl) (pe_glob (v := .ref Z.aS) rfl Z.gS rfl) (pv 1) (fun _ _ => rfl)))
        (pss_one (ps_expr (pe_callA (i := 3) AS (hr.mono (by omega)) rfl (.inl rfl) (pa_cons (pv 0) pa_nil))))))), ?_⟩
      refine ⟨_, rfl, x, _, rfl, rfl, i2 ht, _, rfl, iteF ?_⟩
      exact ⟨_, rfl, Z.aS, x, .ref f, rfl, rfl, kdct DS hf rfl, f, spStep x, rfl, if_pos rfl, _, rfl, l, us, W, W', rfl, hl, hW, hb, hz, fun H' us' k1 h1 h2 => q H' us' k1 h1 h2⟩
end
end Q23
namespace GS
open PySem PySem.Spec PyProof.Rows L2 SX
theorem op_notIn_kdK {X : Cx} {K : PySem.W.Frag} {w : World} {d : Addr} {es : Array DictEntry} {n : Nat} (hK : X.K = K) (hw : X.w = w) (D : KDict K w d es n) : OpR X (compareOp .NotIn) (fun x y H Q => ∃ (z : Str) (r : Option Value), x = .str z ∧ y = .ref d ∧ PySem.W.nsIn K d z = some r ∧ Q (.bl (!r.isSome)) H) := by
  subst hK
  subst hw
  exact op_notIn_kd D
end GS
namespace Q23
open PySem PySem.Spec PyProof.Rows L2 SX HL
theorem inV_strs (w : Str) : ∀ l : List Str, inV (.str w) (l.map V.str) = decide (w ∈ l)
  | [] => rfl
  | x :: l => by
    have ih := inV_strs w l
    unfold inV at ih ⊢
    rw [List.map_cons, List.any_cons, ih]
    have e : eqV (V.str x) (V.str w) = (x == w) := rfl
    rw [e, Bool.eq_iff_iff]
    simp only [Bool.or_eq_true, decide_eq_true_eq, List.mem_cons, beq_iff_eq]
    constructor
    · rintro (rfl | h)
      · exact .inl rfl
      · exact .inr h
    · rintro (rfl | h)
      · exact .inl rfl
      · exact .inr h
theorem flat_strs2 (l : List Str) : (l.map V.str).all flatV = true := by
  rw [List.all_eq_true]
  intro x hx
  obtain ⟨y, _, rfl⟩ := List.mem_map.mp hx
  rfl
theorem gram_rows {x : Str} {rows : List (Str × Str)} (h : gram.lookup x = some rows) : rows.length ≤ 20 ∧ ∀ r ∈ rows, r.1.length ≤ 100 ∧ r.2.length ≤ 200 := by
  have h1 := lookup_mem h
  have h2 : ∀ p ∈ gram, p.2.length ≤ 20 ∧ ∀ r ∈ p.2, r.1.length ≤ 100 ∧ r.2.length ≤ 200 := by decide +kernel
  exact h2 _ h1
section
variable {P : Program} {w : World} {K : PySem.W.Frag} {mg : Str → Option Value} {base : Heap}
/-! ### production -/
def spProd : Sp := fun vs H Q _ => ∃ (x wd : Str) (rows : List (Str × Str)), vs = [.str x, .str wd] ∧ gram.lookup x = some rows ∧
  (prodRows wd rows = none → ∀ H', Same H H' → Q .non H') ∧ ∀ row, prodRows wd rows = some row → ∀ p H', Same H H' → (∀ a o, H a = some o → a ≠ p) → H' p = some (.lst (row.map V.str)) → Q (.ref p) H'
theorem ok_production {k : Nat} (Z : Defs K mg) (R : Rest P w K mg Z) : FnOk P w K mg base CX0 (k + 1) Z.fProduction Z.fdProduction ["symbol", "word"] spProd := by
  have T := R.T
  obtain ⟨eG, nG, DG⟩ := R.kG
  refine Z.DProduction.F.ok scProduction (fun vs H Q E h => ?_) (fun cdv A outer s H vs Q E hr h => ?_)
  · obtain ⟨x, wd, rows, rfl, _⟩ := h
    rfl
  · obtain ⟨x, wd, rows, rfl, hg, q1, q2⟩ := h
    obtain ⟨i1, i2⟩ := GR.dict_in Z.G x
    obtain ⟨v, hv1, hv2⟩ := i1 rows hg
    obtain ⟨g1, g2⟩ := gram_rows hg
    obtain ⟨b, rfl, ps, e1, e2, e3⟩ := GR.rows_in (by omega) hv2
    refine ⟨_, (pss_cons (ps_for PassesOwn.never rfl (pi_tup (pe_ix (HK.ix_kdictK (K := K) (w := w) rfl rfl) (pe_glob (v := .ref Z.aG) rfl Z.gG rfl) (pv 0) (fun _ _ => rfl))) (pg_tup rfl (pgs_cons (pg_name (i := 2) scProduction.nd rfl (.inl rfl)) (pgs_cons (pg_name (i := 3) scProduction.nd rfl (.inl rfl)) pgs_nil))) (pss_one (ps_if (PW.pt (pw_or (pt_cmpR op_eq (pv 2) pe_str (nomark _)) (pw_or1 (pt_cmpR op_in_seq (pv 1) (pe_split (pv 2) pe_str) rfl)))) (pss_one (ps_ret (pe_m0 PySem.F.slot_str_split PySem.F.type_str_split mt_words (pv 3)))) pss_nil)))
        (pss_one (ps_ret pe_non))), ?_⟩
    refine ⟨_, rfl, Z.aG, x, .ref b, rfl, rfl, kdct DG hv1 rfl, b, rfl, ⟨_, e2 H⟩, ?_⟩
    refine for_it walk_tup (fun i σ H' => Same H H' ∧ prodRows wd rows = prodRows wd (rows.drop i) ∧ ∃ y2 y3 : Option V, σ = [some (.str x), some (.str wd), y2, y3]) ⟨fun _ _ h => h, rfl, none, none, rfl⟩ (fun i σ H' _ _ => e2 H') ?_ ?_
    · rintro i x2 σ H1 H' hi ⟨sm, pe, y2, y3, rfl⟩ ⟨rfl, f2⟩
      replace f2 : (ps.map V.ref)[i]? = some x2 := f2
      have hi2 : i < ps.length := by rw [List.length_map] at hi; exact hi
      have hi3 : i < rows.length := by omega
      rw [List.getElem?_map, List.getElem?_eq_getElem hi2] at f2
      obtain rfl := Option.some.inj f2
      have er : rows[i]? = some (rows[i].1, rows[i].2) := List.getElem?_eq_getElem hi3
      have hs := e3 i _ _ _ (List.getElem?_eq_getElem hi2) er
      rw [List.drop_eq_getElem_cons hi3] at pe
      obtain ⟨z1, z2⟩ := g2 _ (List.getElem_mem hi3)
      generalize rows[i] = row at *
      obtain ⟨ws, rw0⟩ := row
      refine ⟨_, _, rfl, hs _, rfl, _, _, rfl, _, _, rfl, rfl, ?_⟩
      rw [show prodRows wd ((ws, rw0) :: rows.drop (i + 1)) = (if ws = "" ∨ wd ∈ Txt.split ws " " then some (Txt.words rw0) else prodRows wd (rows.drop (i + 1))) from rfl] at pe
      have zs1 : ws.length + 2 ≤ sizeLine := by
        have : 1000 ≤ sizeLine := by decide
        have z3 : ws.length ≤ 100 := z1
        omega
      have out : prodRows wd rows = some (Txt.words rw0) → ∀ H'', Same H H'' → (∃ a, V.str rw0 = V.str a ∧ ([] : List V) = [] ∧ a.length + 2 ≤ sizeLine ∧ rNewStrs (Txt.words a) H'' Q) := fun pe H'' sm'' =>
        ⟨rw0, rfl, rfl, by have : 1000 ≤ sizeLine := by decide
                           have z3 : rw0.length ≤ 200 := z2
                           omega, fun p hp => q2 _ pe p _ (Same.tr sm'' (same_upd hp)) (fun a o ha => ne_of_none (sm'' _ _ ha) hp) upd_same⟩
      refine ⟨_, rfl, rfl, _, rfl, ?_⟩
      by_cases he : ws = ""
      · rw [if_pos (.inl he)] at pe
        subst he
        refine iteT (iteT ⟨_, rfl, ?_⟩)
        exact ⟨⟨_, rfl⟩, out pe H' sm⟩
      · refine HL.iteNo (by
          have : ¬ (V.str ws = V.str "") := fun e => he (V.str.inj e)
          simp [this]) ?_
        refine ⟨_, rfl, _, rfl, ⟨_, rfl⟩, ws, " ", rfl, rfl, rfl, zs1, fun p hp => ?_⟩
        have sm1 := Same.tr sm (same_upd (o := .lst ((Txt.split ws " ").map V.str)) hp)
        refine ⟨p, _, rfl, .inl (SqL.of upd_same), rfl, flat_strs2 _, _, rfl, ?_⟩
        rw [show (inV (.str wd) ((Txt.split ws " ").map V.str)) = decide (wd ∈ Txt.split ws " ") from inV_strs wd _]
        by_cases h2 : wd ∈ Txt.split ws " "
        · rw [if_pos (.inr h2)] at pe
          rw [decide_eq_true h2]
          exact iteT ⟨_, rfl, ⟨_, rfl⟩, out pe _ sm1⟩
        · rw [if_neg (fun z => z.elim he h2)] at pe
          rw [decide_eq_false h2]
          exact iteF ⟨sm1, pe, _, _, rfl⟩
    · rintro σ H' ⟨sm, pe, y2, y3, rfl⟩
      rw [List.length_map, e1, List.drop_length] at pe
      exact q1 pe H' sm
/-! ### opened_by, word_of -/
def spOpen : Sp := fun vs H Q _ => ∃ x : Str, vs = [.str x] ∧ Q (.int (if x ∈ ([("(" : Str), "[", "case"] : List Str) then 1 else if x ∈ ([(")" : Str), "]", "end"] : List Str) then -1 else 0)) H
theorem ok_opened {k : Nat} (Z : Defs K mg) (R : Rest P w K mg Z) : FnOk P w K mg base CX0 (k + 1) Z.fOpenedBy Z.fdOpenedBy ["word"] spOpen := by
  have T := R.T
  refine Z.DOpenedBy.F.ok scOpenedBy (fun vs H Q E h => ?_) (fun cdv A outer s H vs Q E hr h => ?_)
  · obtain ⟨x, rfl, _⟩ := h
    rfl
  · obtain ⟨x, rfl, q⟩ := h
    refine ⟨_, (pss_cons (ps_if (pt_cmpR op_in_seq (pv 0) (pe_glob (v := .ref Z.aOPENING) rfl Z.gOPENING rfl) rfl) (pss_one (ps_ret pe_int)) pss_nil)
        (pss_cons (ps_if (pt_cmpR op_in_seq (pv 0) (pe_glob (v := .ref Z.aCLOSING) rfl Z.gCLOSING rfl) rfl) (pss_one (ps_ret (pe_un un_neg pe_int))) pss_nil)
        (pss_one (ps_ret pe_int)))), ?_⟩
    refine ⟨_, rfl, Z.aOPENING, [("(" : Str), "[", "case"].map V.str, rfl, .inr (Z.sOPENING H), rfl, rfl, _, rfl, ?_⟩
    rw [show (inV (.str x) ([("(" : Str), "[", "case"].map V.str)) = decide (x ∈ ([("(" : Str), "[", "case"] : List Str)) from inV_strs x _]
    by_cases h1 : x ∈ ([("(" : Str), "[", "case"] : List Str)
    · rw [if_pos h1] at q
      rw [decide_eq_true h1]
      exact iteT q
    · rw [if_neg h1] at q
      rw [decide_eq_false h1]
      refine iteF ⟨_, rfl, Z.aCLOSING, [(")" : Str), "]", "end"].map V.str, rfl, .inr (Z.sCLOSING H), rfl, rfl, _, rfl, ?_⟩
      rw [show (inV (.str x) ([(")" : Str), "]", "end"].map V.str)) = decide (x ∈ ([(")" : Str), "]", "end"] : List Str)) from inV_strs x _]
      by_cases h2 : x ∈ ([(")" : Str), "]", "end"] : List Str)
      · rw [if_pos h2] at q
        rw [decide_eq_true h2]
        exact iteT ⟨1, rfl, q⟩
      · rw [if_neg h2] at q
        rw [decide_eq_false h2]
        exact iteF q
def wordOf (k : Str) (v : V) : Option Str := if k ∈ ([("keyword" : Str), "sign"] : List Str) then (match v with | .str x => some x | _ => none) else some (Txt.upper k)
def spWordOf : Sp := fun vs H Q _ => ∃ (kd : Str) (v : V) (wd : Str), vs = [.str kd, v] ∧ wordOf kd v = some wd ∧ kd.length ≤ 1000 ∧ ∀ H', Same H H' → Q (.str wd) H'
theorem ok_word_of {k : Nat} (Z : Defs K mg) (R : Rest P w K mg Z) : FnOk P w K mg base CX0 (k + 1) Z.fWordOf Z.fdWordOf ["kind", "value"] spWordOf := by
  have T := R.T
  refine Z.DWordOf.F.ok scWordOf (fun vs H Q E h => ?_) (fun cdv A outer s H vs Q E hr h => ?_)
  · obtain ⟨kd, v, wd, rfl, _⟩ := h
    rfl
  · obtain ⟨kd, v, wd, rfl, hw, hk, q⟩ := h
    refine ⟨_, (pss_cons (ps_if (pt_cmpR op_in_seq (pv 0) (pe_tup (pa_cons pe_str (pa_cons pe_str pa_nil))) rfl) (pss_one (ps_ret (pv 1))) pss_nil)
        (pss_one (ps_ret (pe_upper (pv 0))))), ?_⟩
    refine ⟨_, rfl, by show 2 ≤ sizeLine; decide, fun t ht => ?_⟩
    have sm : Same H (upd H t (.tup [.str "keyword", .str "sign"])) := same_upd ht
    refine ⟨t, [("keyword" : Str), "sign"].map V.str, rfl, .inr (SqT.of upd_same), rfl, rfl, _, rfl, ?_⟩
    rw [show (inV (.str kd) ([("keyword" : Str), "sign"].map V.str)) = decide (kd ∈ ([("keyword" : Str), "sign"] : List Str)) from inV_strs kd _]
    unfold wordOf at hw
    by_cases h1 : kd ∈ ([("keyword" : Str), "sign"] : List Str)
    · rw [if_pos h1] at hw
      rw [decide_eq_true h1]
      cases v with
      | str z =>
        obtain rfl := Option.some.inj hw
        exact iteT ⟨_, rfl, q _ sm⟩
      | _ => cases hw
    · rw [if_neg h1] at hw
      rw [decide_eq_false h1]
      obtain rfl := Option.some.inj hw
      exact iteF ⟨_, rfl, ⟨_, rfl⟩, kd, rfl, rfl, by omega, q _ sm⟩
end
end Q23
namespace Q23
open PySem PySem.Spec PyProof.Rows L2 SX HL
def Kept2 (H H' : Hp) (p q : Addr) : Prop := ∀ b o, b ≠ p → b ≠ q → H b = some o → H' b = some o
theorem Kept2.refl {H : Hp} {p q : Addr} : Kept2 H H p q := fun _ _ _ _ h => h
theorem Kept2.tr {H H1 H2 : Hp} {p q : Addr} (a : Kept2 H H1 p q) (b : Kept2 H1 H2 p q) : Kept2 H H2 p q := fun c o n1 n2 h => b c o n1 n2 (a c o n1 n2 h)
theorem Kept2.same {H H1 : Hp} {p q : Addr} (s : Same H H1) : Kept2 H H1 p q := fun c o _ _ h => s c o h
theorem Kept2.l {H H1 : Hp} {p q : Addr} (k : Kept H H1 p) : Kept2 H H1 p q := fun c o n _ h => k c o n h
theorem Kept2.r {H H1 : Hp} {p q : Addr} (k : Kept H H1 q) : Kept2 H H1 p q := fun c o _ n h => k c o n h
theorem row_short {x : Str} {rows : List (Str × Str)} {wd : Str} {row : List Str} (h : gram.lookup x = some rows) (hr : prodRows wd rows = some row) : row.length ≤ 20 := by
  have h1 := lookup_mem h
  have h2 : ∀ p ∈ gram, ∀ r ∈ p.2, (Txt.words r.2).length ≤ 20 := by decide +kernel
  have h3 := h2 _ h1
  dsimp only at h3
  clear h h1 h2
  induction rows with
  | nil => cases hr
  | cons a r ih =>
    obtain ⟨ws, rw0⟩ := a
    rw [show prodRows wd ((ws, rw0) :: r) = (if ws = "" ∨ wd ∈ Txt.split ws " " then some (Txt.words rw0) else prodRows wd r) from rfl] at hr
    split at hr
    · obtain rfl := Option.some.inj hr
      exact h3 _ List.mem_cons_self
    · exact ih hr fun q hq => h3 q (List.mem_cons_of_mem _ hq)
abbrev pst (P : List Str) : List V := P.reverse.map V.str
theorem pst_cons (x : Str) (p : List Str) : pst (x :: p) = pst p ++ [V.str x] := by
  simp [pst]
theorem pst_app (r p : List Str) : pst (r ++ p) = pst p ++ (r.map V.str).reverse := by
  simp [pst]
theorem pst_len (p : List Str) : (pst p).length = p.length := by simp [pst]
theorem halt_none {w : Str} {c : Cf} (h : Halt w c) : sst w c = none := by
  obtain ⟨p, W⟩ := c
  cases p with
  | nil => rfl
  | cons x p =>
    unfold Halt at h
    unfold sst
    dsimp only at h ⊢
    cases e : gram.lookup x with
    | some rows =>
      rw [e] at h
      dsimp only at h
      show (prodRows w rows).map _ = none
      rw [h]
      rfl
    | none =>
      rw [e] at h
      dsimp only at h
      rw [h]
      rfl
theorem Stl.non {w : Str} {n : Nat} {c c2 : Cf} (h : Stl w n c c2) (e : sst w c = none) : c2 = c := by
  cases h with
  | stop _ => rfl
  | step h1 _ => rw [h1] at e; cases e
theorem Stl.som {w : Str} {n : Nat} {c c1 c2 : Cf} (h : Stl w n c c2) (e : sst w c = some c1) : ∃ m, n = m + 1 ∧ Stl w m c1 c2 := by
  cases h with
  | stop h => rw [halt_none h] at e; cases e
  | step h1 h2 =>
    rw [h1] at e
    obtain rfl := Option.some.inj e
    exact ⟨_, rfl, h2⟩
theorem stuck {w : Str} {n : Nat} {x : Str} {P1 : List Str} {W : List T} {c2 : Cf} (h : Stl w n ⟨x :: P1, W⟩ c2) (e : sst w ⟨x :: P1, W⟩ = none) (hg : gram.lookup x = none) (hb : bang x = true) : False := by
  cases h with
  | stop h =>
    unfold Halt at h
    dsimp only at h
    rw [hg] at h
    dsimp only at h
    rw [hb] at h
    cases h
  | step h1 _ => rw [h1] at e; cases e
theorem bld_len {x : Str} {W W' : List T} (h : bld x W = some W') : W'.length ≤ W.length + 1 := by
  unfold bld at h
  split at h
  · split at h
    · obtain rfl := Option.some.inj h
      rw [List.length_cons, List.length_drop]
      omega
    · cases h
  · unfold bldS at h
    repeat' split at h
    all_goals first
      | (cases h; done)
      | (obtain rfl := Option.some.inj h
         simp only [List.length_cons]
         omega)
theorem tkl {H H' : Hp} {p v : Addr} {us : List V} {W : List T} (kk : Kept2 H H' p v) {xs : List V} (hp : H p = some (.lst xs)) (hv : H v = some (.lst us)) (h : WAt H W us) : WAt H' W us :=
  h.keep fun b zs e => kk b _ (fun z => by rw [z, hp] at e; cases e) (fun z => by rw [z, hv] at e; cases e) e
section
variable {P : Program} {w : World} {K : PySem.W.Frag} {mg : Str → Option Value} {base : Heap}
/-! ### settle -/
def spSettle : Sp := fun vs H Q _ => ∃ (p v : Addr) (wd : Str) (us : List V) (c c2 : Cf) (n : Nat), vs = [.ref p, .ref v, .str wd] ∧ p ≠ v ∧ H p = some (.lst (pst c.P)) ∧ H v = some (.lst us) ∧ WAt H c.W.reverse us ∧ Stl wd n c c2 ∧ c.P.length + c.W.length + 20 * n ≤ 900000 ∧
  ∀ H' us', Kept2 H H' p v → H' p = some (.lst (pst c2.P)) → H' v = some (.lst us') → WAt H' c2.W.reverse us' → Q .non H'
theorem ok_settle {k : Nat} (Z : Defs K mg) (R : Rest P w K mg Z) : FnOk P w K mg base CX0 (k + 4) Z.fSettle Z.fdSettle ["pending", "values", "word"] spSettle := by
  have T := R.T
  have DBuild := Z.DBuild
  have GBuild : FnOk P w K mg base CX0 (k + 3) Z.fBuild Z.fdBuild ["values", "word"] spBuild := ok_build Z R
  have DProduction := Z.DProduction
  have GProduction : FnOk P w K mg base CX0 (k + 1) Z.fProduction Z.fdProduction ["symbol", "word"] spProd := ok_production Z R
  obtain ⟨eG, nG, DG⟩ := R.kG
  refine Z.DSettle.F.ok scSettle (fun vs H Q E h => ?_) (fun cdv A outer s H vs Q E hr h => ?_)
  · obtain ⟨p, v, wd, us, c, c2, n, rfl, _⟩ := h
    rfl
  · obtain ⟨p, v, wd, us, c, c2, n, rfl, hpv, hp, hv, hW, hst, hz, q⟩ := h
    refine ⟨_, (pss_one (ps_while PassesOwn.never (PW.pt (pw_and (pt_truth (pv 0) (by intro _; rfl)) (pw_and1 (PW.pt (pw_or (pt_cmpR (HK.op_in_kdK (K := K) (w := w) rfl rfl DG) (pe_ix ix_list (pv 0) (pe_un un_neg pe_int) (fun _ _ => rfl)) (pe_glob (v := .ref Z.aG) rfl Z.gG rfl) rfl) (pw_or1 (pt_val (pe_m1 PySem.F.slot_str_startswith PySem.F.type_str_startswith mt_startswith (pe_ix ix_list (pv 0) (pe_un un_neg pe_int) (fun _ _ => rfl)) pe_str)))))))) (pss_cons (ps_set (i := 3) scSettle.nd rfl (.inl rfl) (pe_bm0 PySem.F.plainAttrs_list PySem.F.slot_list_pop PySem.F.type_list_pop mt_pop (pv 0)))
        (pss_cons (ps_if (pt_cmpR (GS.op_notIn_kdK (K := K) (w := w) rfl rfl DG) (pv 3) (pe_glob (v := .ref Z.aG) rfl Z.gG rfl) rfl) (pss_cons (ps_expr (pe_call GBuild (hr.mono (by omega)) (by rfl) DBuild.g DBuild.F.kp DBuild.b .nil pass0 (pa_cons (pv 1) (pa_cons (pv 3) pa_nil))))
        (pss_one ps_continue)) pss_nil)
        (pss_cons (ps_set (i := 4) scSettle.nd rfl (.inl rfl) (pe_call GProduction (hr.mono (by omega)) (by rfl) DProduction.g DProduction.F.kp DProduction.b .nil pass0 (pa_cons (pv 3) (pa_cons (pv 2) pa_nil))))
        (pss_cons (ps_if (pt_cmp (pc_isN (pv 4))) (pss_cons (ps_expr (pe_bm PySem.F.plainAttrs_list PySem.F.slot_list_append PySem.F.type_list_append mt_append (pv 0) (pa_cons (pv 3) pa_nil)))
        (pss_one ps_retN)) pss_nil)
        (pss_one (ps_expr (pe_bm PySem.F.plainAttrs_list PySem.F.slot_list_extend PySem.F.type_list_extend mt_extend (pv 0) (pa_cons (HR.pe_revL (pv 4) (pe_un un_neg pe_int)) pa_nil)))))))))), ?_⟩
    refine ⟨fun m σ H' => ∃ (n : Nat) (c : Cf) (us : List V) (y3 y4 : Option V), σ = [some (.ref p), some (.ref v), some (.str wd), y3, y4] ∧ Kept2 H H' p v ∧ H' p = some (.lst (pst c.P)) ∧ H' v = some (.lst us) ∧ WAt H' c.W.reverse us ∧ Stl wd n c c2 ∧ c.P.length + c.W.length + 20 * n ≤ 900000 ∧ m = n,
      ⟨n, n, c, us, none, none, rfl, Kept2.refl, hp, hv, hW, hst, hz, rfl⟩, ?_⟩
    clear hp hv hW hst hz
    rintro m σ H1 ⟨n, c, us, y3, y4, rfl, kk, hp, hv, hW, hst, hz, rfl⟩
    obtain ⟨P0, W⟩ := c
    have lw := len_of_WAt hW
    dsimp only at hp hW hz lw
    have big : 1000001 ≤ sizeLine := by decide
    cases P0 with
    | nil =>
      obtain rfl := hst.non rfl
      exact ⟨_, rfl, false, .inl ⟨_, SqL.of hp, rfl⟩, iteF (iteF (q H1 us kk hp hv hW))⟩
    | cons x P1 =>
      rw [pst_cons] at hp
      refine ⟨_, rfl, true, .inl ⟨_, SqL.of hp, by simp⟩, iteT ?_⟩
      obtain ⟨i1, i2⟩ := GR.dict_in Z.G x
      have hs0 : sst wd ⟨x :: P1, W⟩ = (match gram.lookup x with
        | some rows => (prodRows wd rows).map fun r => ⟨r ++ P1, W⟩
        | none => if bang x then (bld x W).map fun W' => ⟨P1, W'⟩ else none) := rfl
      have h2p : upd H1 p (.lst (pst P1)) p = some (.lst (pst P1)) := upd_same
      have h2v : upd H1 p (.lst (pst P1)) v = some (.lst us) := by rw [upd_ne (fun e => hpv e.symm)]; exact hv
      have k2 : Kept2 H1 (upd H1 p (.lst (pst P1))) p v := Kept2.l kept_upd
      have hW2 := tkl k2 hp hv hW
      have ll : (pst P1).length = P1.length := pst_len P1
      rw [List.length_cons] at hz
      cases hg : gram.lookup x with
      | some rows =>
        rw [hg] at hs0
        dsimp only at hs0
        obtain ⟨vv, hv1, hv2⟩ := i1 rows hg
        refine ⟨_, rfl, 1, rfl, p, _, -1, .str x, rfl, rfl, SqL.of hp, atI_last _ _, x, _, rfl, rfl, hv1, _, rfl, iteT (iteT ?_)⟩
        refine ⟨fun σ' H2 => ∃ (n' : Nat) (c : Cf) (us : List V) (y3 y4 : Option V), σ' = [some (.ref p), some (.ref v), some (.str wd), y3, y4] ∧ Kept2 H H2 p v ∧ H2 p = some (.lst (pst c.P)) ∧ H2 v = some (.lst us) ∧ WAt H2 c.W.reverse us ∧ Stl wd n' c c2 ∧ c.P.length + c.W.length + 20 * n' ≤ 900000 ∧ n' < m, ?_, ?_⟩
        · rintro σ' H2 ⟨n', c, us, y3, y4, e1, e2, e3, e4, e5, e6, e7, e8⟩
          exact ⟨n', e8, n', c, us, y3, y4, e1, e2, e3, e4, e5, e6, e7, rfl⟩
        refine ⟨_, rfl, .inl ⟨rfl, _, SqL.of hp⟩, p, _, .str x, rfl, rfl, hp, by simp, ?_⟩
        rw [List.dropLast_concat]
        refine ⟨_, rfl, x, _, rfl, rfl, hv1, _, rfl, iteF ?_⟩
        refine ⟨_, rfl, _, rfl, x, wd, rows, rfl, hg, fun e H3 sm => ?_, fun row e z H3 sm nz hzz => ?_⟩
        · rw [e] at hs0
          obtain rfl := hst.non hs0
          have k3 := k2.tr (Kept2.same (p := p) (q := v) sm)
          refine ⟨_, rfl, _, rfl, iteT ⟨_, rfl, .inl ⟨rfl, _, SqL.of (sm _ _ h2p)⟩, _, rfl, p, _, _, rfl, rfl, sm _ _ h2p, by show (pst P1).length < sizeLine; rw [ll]; omega, ?_⟩⟩
          have h4v : upd H3 p (.lst (pst P1 ++ [V.str x])) v = some (.lst us) := by rw [upd_ne (fun e => hpv e.symm)]; exact sm _ _ h2v
          have k4 := k3.tr (Kept2.l (p := p) (q := v) (kept_upd (o := .lst (pst P1 ++ [V.str x]))))
          exact q _ us (kk.tr k4) (by rw [pst_cons]; exact upd_same) h4v (tkl k4 hp hv hW)
        · rw [e] at hs0
          obtain ⟨n', rfl, hst'⟩ := hst.som hs0
          have k3 := k2.tr (Kept2.same (p := p) (q := v) sm)
          have rl := row_short hg e
          refine ⟨_, rfl, _, rfl, iteF ?_⟩
          refine ⟨_, rfl, .inl ⟨rfl, _, SqL.of (sm _ _ h2p)⟩, _, rfl, 1, rfl, rfl, z, _, rfl, SqL.of hzz, fun t ht => ?_⟩
          have n1 : p ≠ t := ne_of_none (sm _ _ h2p) ht
          have s4 := same_upd (o := .lst (row.map V.str).reverse) ht
          refine ⟨p, t, _, _, rfl, rfl, s4 _ _ (sm _ _ h2p), upd_same, by show (pst P1).length + _ ≤ sizeLine; rw [ll, List.length_reverse, List.length_map]; omega, ?_⟩
          have k4 := (k3.tr (Kept2.same (p := p) (q := v) s4)).tr (Kept2.l (p := p) (q := v) (kept_upd (o := .lst (pst P1 ++ (row.map V.str).reverse))))
          refine ⟨n', ⟨row ++ P1, W⟩, us, _, _, rfl, kk.tr k4, by rw [pst_app]; exact upd_same, ?_, tkl k4 hp hv hW, hst', ?_, by omega⟩
          · rw [upd_ne (fun e => hpv e.symm)]
            exact s4 _ _ (sm _ _ h2v)
          · show (row ++ P1).length + W.length + 20 * n' ≤ 900000
            rw [List.length_append]
            omega
      | none =>
        rw [hg] at hs0
        dsimp only at hs0
        refine ⟨_, rfl, 1, rfl, p, _, -1, .str x, rfl, rfl, SqL.of hp, atI_last _ _, x, _, rfl, rfl, i2 hg, _, rfl, iteF ?_⟩
        refine ⟨_, rfl, 1, rfl, p, _, -1, .str x, rfl, rfl, SqL.of hp, atI_last _ _, ⟨_, rfl⟩, x, "!", rfl, rfl, _, rfl, ?_⟩
        cases hb : bang x with
        | false =>
          rw [hb] at hs0
          obtain rfl := hst.non hs0
          refine HL.iteNo (by
            have : Txt.startswith x "!" = false := hb
            rw [this]; decide) ?_
          exact q H1 us kk (by rw [pst_cons]; exact hp) hv hW
        | true =>
          rw [hb] at hs0
          have hb2 : Txt.startswith x "!" = true := hb
          rw [hb2]
          rw [if_pos rfl] at hs0
          refine iteT ?_
          refine ⟨fun σ' H2 => ∃ (n' : Nat) (c : Cf) (us : List V) (y3 y4 : Option V), σ' = [some (.ref p), some (.ref v), some (.str wd), y3, y4] ∧ Kept2 H H2 p v ∧ H2 p = some (.lst (pst c.P)) ∧ H2 v = some (.lst us) ∧ WAt H2 c.W.reverse us ∧ Stl wd n' c c2 ∧ c.P.length + c.W.length + 20 * n' ≤ 900000 ∧ n' < m, ?_, ?_⟩
          · rintro σ' H2 ⟨n', c, us, y3, y4, e1, e2, e3, e4, e5, e6, e7, e8⟩
            exact ⟨n', e8, n', c, us, y3, y4, e1, e2, e3, e4, e5, e6, e7, rfl⟩
          refine ⟨_, rfl, .inl ⟨rfl, _, SqL.of hp⟩, p, _, .str x, rfl, rfl, hp, by simp, ?_⟩
          rw [List.dropLast_concat]
          refine ⟨_, rfl, x, _, rfl, rfl, i2 hg, _, rfl, iteT ?_⟩
          cases hbl : bld x W with
          | none =>
            rw [hbl] at hs0
            exact (stuck hst hs0 hg hb).elim
          | some W' =>
            rw [hbl] at hs0
            obtain ⟨n', rfl, hst'⟩ := hst.som hs0
            have bl := bld_len hbl
            refine ⟨_, rfl, _, rfl, v, x, us, W, W', rfl, h2v, hW2, hbl, by omega, fun H3 us' k3 h3v hW3 => ?_⟩
            have k4 := k2.tr (Kept2.r (p := p) k3)
            refine ⟨n', ⟨P1, W'⟩, us', _, _, rfl, kk.tr k4, k3 _ _ hpv h2p, h3v, hW3, hst', ?_, by omega⟩
            show P1.length + W'.length + 20 * n' ≤ 900000
            omega
end
end Q23
namespace Q23
open PySem PySem.Spec PyProof.Rows L2 SX HL
def withV : List Str := ["TAKE", "NAME", "MAKER", "NUMBER", "TEXT"]
/-- the word is taken -/
def tkn (wd : Str) (tv : T) (c : Cf) : Option Cf := match c.P with
  | [] => none
  | t :: p => if t ∈ ([("TAKE" : Str), wd] : List Str) then some ⟨p, if t ∈ withV then tv :: c.W else c.W⟩ else none
section
variable {P : Program} {w : World} {K : PySem.W.Frag} {mg : Str → Option Value} {base : Heap}
/-! ### takes -/
def spTakes : Sp := fun vs H Q _ => ∃ (p v : Addr) (wd : Str) (x : V) (tv : T) (us : List V) (c c2 : Cf) (n : Nat), vs = [.ref p, .ref v, .str wd, x] ∧ p ≠ v ∧ H p = some (.lst (pst c.P)) ∧ H v = some (.lst us) ∧ WAt H c.W.reverse us ∧ TrAt H tv x ∧ Stl wd n c c2 ∧
  c.P.length + c.W.length + 20 * n ≤ 900000 ∧ c2.P.length + c2.W.length ≤ 900000 ∧
  (tkn wd tv c2 = none → ∀ H', Kept2 H H' p v → Q (.bl false) H') ∧
  ∀ c3, tkn wd tv c2 = some c3 → ∀ H' us', Kept2 H H' p v → H' p = some (.lst (pst c3.P)) → H' v = some (.lst us') → WAt H' c3.W.reverse us' → Q (.bl true) H'
theorem ok_takes {k : Nat} (Z : Defs K mg) (R : Rest P w K mg Z) : FnOk P w K mg base CX0 (k + 5) Z.fTakes Z.fdTakes ["pending", "values", "word", "value"] spTakes := by
  have T := R.T
  have DSettle := Z.DSettle
  have GSettle : FnOk P w K mg base CX0 (k + 4) Z.fSettle Z.fdSettle ["pending", "values", "word"] spSettle := ok_settle Z R
  refine Z.DTakes.F.ok scTakes (fun vs H Q E h => ?_) (fun cdv A outer s H vs Q E hr h => ?_)
  · obtain ⟨p, v, wd, x, tv, us, c, c2, n, rfl, _⟩ := h
    rfl
  · obtain ⟨p, v, wd, x, tv, us, c, c2, n, rfl, hpv, hp, hv, hW, hx, hst, hz, hz2, q1, q2⟩ := h
    refine ⟨_, (pss_cons (ps_expr (pe_call GSettle (hr.mono (by omega)) (by rfl) DSettle.g DSettle.F.kp DSettle.b .nil pass0 (pa_cons (pv 0) (pa_cons (pv 1) (pa_cons (pv 2) pa_nil)))))
        (pss_cons (ps_if (PW.pt (pw_or (pt_not (pt_truth (pv 0) (by intro _; rfl))) (pw_or1 (pt_cmpR op_notIn_seq (pe_ix ix_list (pv 0) (pe_un un_neg pe_int) (fun _ _ => rfl)) (pe_tup (pa_cons pe_str (pa_cons (pv 2) pa_nil))) rfl)))) (pss_one (ps_ret pe_bl)) pss_nil)
        (C8.pss_cut (ps_if (pt_cmpR op_in_seq (pe_bm0 PySem.F.plainAttrs_list PySem.F.slot_list_pop PySem.F.type_list_pop mt_pop (pv 0)) (pe_glob (v := .ref Z.aWITHVALUES) rfl Z.gWITHVALUES rfl) rfl) (pss_one (ps_expr (pe_bm PySem.F.plainAttrs_list PySem.F.slot_list_append PySem.F.type_list_append mt_append (pv 1) (pa_cons (pv 3) pa_nil)))) pss_nil)
        (pss_one (ps_ret pe_bl))))), ?_⟩
    refine ⟨_, rfl, _, rfl, _, rfl, p, v, wd, us, c, c2, n, rfl, hpv, hp, hv, hW, hst, hz, fun H1 us1 kk h1p h1v hW1 => ?_⟩
    obtain ⟨P0, W⟩ := c2
    dsimp only at h1p hW1 hz2
    have lw := len_of_WAt hW1
    have big : 1000001 ≤ sizeLine := by decide
    cases P0 with
    | nil =>
      refine ⟨_, rfl, false, .inl ⟨_, SqL.of h1p, rfl⟩, iteT (iteT (q1 rfl H1 kk))⟩
    | cons t P1 =>
      rw [pst_cons] at h1p
      refine ⟨_, rfl, true, .inl ⟨_, SqL.of h1p, by simp⟩, iteF ?_⟩
      refine ⟨_, rfl, 1, rfl, p, _, -1, .str t, rfl, rfl, SqL.of h1p, atI_last _ _, _, rfl, by show 2 ≤ sizeLine; decide, fun z hzz => ?_⟩
      have s2 := same_upd (o := .tup ([("TAKE" : Str), wd].map V.str)) hzz
      refine ⟨z, [("TAKE" : Str), wd].map V.str, rfl, .inr (SqT.of upd_same), rfl, rfl, _, rfl, ?_⟩
      rw [show (inV (.str t) ([("TAKE" : Str), wd].map V.str)) = decide (t ∈ ([("TAKE" : Str), wd] : List Str)) from inV_strs t _]
      have k2 := kk.tr (Kept2.same (p := p) (q := v) s2)
      by_cases ht : t ∈ ([("TAKE" : Str), wd] : List Str)
      · have e3 : tkn wd tv ⟨t :: P1, W⟩ = some ⟨P1, if t ∈ withV then tv :: W else W⟩ := if_pos ht
        rw [decide_eq_true ht]
        refine iteF ?_
        have h2p := s2 _ _ h1p
        refine ⟨fun _ H' => Q (.bl true) H', ?_, fun _ _ z => z⟩
        refine ⟨_, rfl, .inl ⟨rfl, _, SqL.of h2p⟩, p, _, .str t, rfl, rfl, h2p, by simp, Z.aWITHVALUES, withV.map V.str, rfl, .inr (Z.sWITHVALUES _), rfl, rfl, _, rfl, ?_⟩
        rw [List.dropLast_concat]
        rw [show (inV (.str t) (withV.map V.str)) = decide (t ∈ withV) from inV_strs t _]
        have k3 := k2.tr (Kept2.l (p := p) (q := v) (kept_upd (o := .lst (pst P1))))
        obtain ⟨H3, eH⟩ : ∃ H3, upd (upd H1 z (.tup ([("TAKE" : Str), wd].map V.str))) p (.lst (pst P1)) = H3 := ⟨_, rfl⟩
        rw [eH] at k3
        have h3p : H3 p = some (.lst (pst P1)) := by rw [← eH]; exact upd_same
        have h3v : H3 v = some (.lst us1) := by
          rw [← eH, upd_ne (fun e => hpv e.symm)]
          exact s2 _ _ h1v
        have kH : Kept2 H1 H3 p v := by
          rw [← eH]
          exact (Kept2.same (p := p) (q := v) s2).tr (Kept2.l (p := p) (q := v) (kept_upd (o := .lst (pst P1))))
        have hW3 := tkl kH h1p h1v hW1
        by_cases hm : t ∈ withV
        · rw [if_pos hm] at e3
          rw [decide_eq_true hm]
          refine iteT ?_
          have h4p : upd H3 v (.lst (us1 ++ [x])) p = some (.lst (pst P1)) := by rw [upd_ne hpv]; exact h3p
          have k4 := k3.tr (Kept2.r (p := p) (q := v) (kept_upd (o := .lst (us1 ++ [x]))))
          have kx := kk.tr kH
          have hx3 : TrAt H3 tv x := hx.keep fun b zs e => kx b _ (fun z => by rw [z, hp] at e; cases e) (fun z => by rw [z, hv] at e; cases e) e
          have hz4 : us1.length < sizeLine := by omega
          have W4 := hW3.push TupK.refl h3v hx3
          have fin := q2 _ e3 _ _ k4 h4p upd_same W4
          subst eH
          exact ⟨_, rfl, .inl ⟨rfl, _, SqL.of h3v⟩, _, rfl, v, _, _, rfl, rfl, h3v, hz4, fin⟩
        · rw [if_neg hm] at e3
          rw [decide_eq_false hm]
          refine iteF ?_
          have fin := q2 _ e3 _ _ k3 h3p h3v hW3
          subst eH
          exact fin
      · have e3 : tkn wd tv ⟨t :: P1, W⟩ = none := if_neg ht
        rw [decide_eq_false ht]
        exact iteT (q1 e3 _ k2)
end
end Q23
namespace Q23
open PySem PySem.Spec PyProof.Rows L2 SX HL
/-! ## parts of trees -/
def partsT (tag : Str) (r : List T) : Option (List T) :=
  if tag = "list" then (match r with | [.t its] => some its | _ => none) else
  if tag = "call" then (match r with | [_, .t its] => some its | _ => none) else
  if tag = "make" then (match r with | [_, .t its] => some its | _ => none) else
  if tag = "not" then (match r with | [a] => some [a] | _ => none) else
  if tag = "cons" then (match r with | [a, b] => some [a, b] | _ => none) else
  if tag = "let" then (match r with | [_, a, b] => some [a, b] | _ => none) else
  if tag = "binary" then (match r with | [_, a, b] => some [a, b] | _ => none) else
  if tag = "if" then (match r with | [a, b, c] => some [a, b, c] | _ => none) else
  if tag = "split" then (match r with | [a, b, _, _, c] => some [a, b, c] | _ => none) else
  if tag = "match" then none else some []
def kids : T → Option (List T)
  | .t (.s tag :: r) => partsT tag r
  | _ => none
mutual
def T.siz : T → Nat
  | .t l => sizs l + 1
  | _ => 1
def sizs : List T → Nat
  | [] => 0
  | x :: l => x.siz + sizs l
end
theorem siz_pos : ∀ x : T, 0 < x.siz
  | .t _ => by rw [T.siz]; omega
  | .s _ => by rw [T.siz] <;> simp
  | .n _ => by rw [T.siz] <;> simp
  | .b _ => by rw [T.siz] <;> simp
  | .o => by rw [T.siz] <;> simp
theorem sizs_app : ∀ a b : List T, sizs (a ++ b) = sizs a + sizs b
  | [], b => by rw [sizs, List.nil_append]; omega
  | x :: a, b => by rw [List.cons_append, sizs, sizs, sizs_app a b]; omega
theorem len_sizs : ∀ a : List T, a.length ≤ sizs a
  | [] => Nat.zero_le _
  | x :: a => by
    rw [sizs, List.length_cons]
    have := siz_pos x
    have := len_sizs a
    omega
theorem parts_siz {tag : Str} {r l : List T} (h : partsT tag r = some l) : sizs l ≤ sizs r := by
  unfold partsT at h
  repeat' split at h
  all_goals first
    | (cases h; done)
    | (obtain rfl := Option.some.inj h
       simp only [sizs, T.siz]
       omega)
theorem kids_siz {e : T} {l : List T} (h : kids e = some l) : sizs l < e.siz := by
  unfold kids at h
  split at h
  · have := parts_siz h
    rw [T.siz, sizs]
    omega
  · cases h
/-- not deeper than n -/
def DepLe : Nat → T → Prop
  | 0, _ => False
  | n + 1, e => ∃ l, kids e = some l ∧ ∀ x ∈ l, DepLe n x
inductive Full : T → Prop
  | mk {e : T} {l : List T} : kids e = some l → (∀ x ∈ l, Full x) → Full e
theorem Full.kids {e : T} (h : Full e) : ∃ l, kids e = some l ∧ ∀ x ∈ l, Full x := by
  cases h with
  | mk h1 h2 => exact ⟨_, h1, h2⟩
theorem dep_succ {n : Nat} {e : T} {l : List T} (h : kids e = some l) : DepLe (n + 1) e ↔ ∀ x ∈ l, DepLe n x := by
  constructor
  · rintro ⟨l', h1, h2⟩
    rw [h] at h1
    obtain rfl := Option.some.inj h1
    exact h2
  · exact fun h2 => ⟨l, h, h2⟩
section
variable {P : Program} {w : World} {K : PySem.W.Frag} {mg : Str → Option Value} {base : Heap}
def spParts : Sp := fun vs H Q _ => ∃ (a : Addr) (e : T) (l : List T), vs = [.ref a] ∧ TrAt H e (.ref a) ∧ kids e = some l ∧ ∀ H' t us, Same H H' → H' t = some (.tup us) → WAt H' l us → Q (.ref t) H'
theorem ok_parts {k : Nat} (Z : Defs K mg) (R : Rest P w K mg Z) : FnOk P w K mg base CX0 (k + 1) Z.fParts Z.fdParts ["e"] spParts := by
  have T := R.T
  refine Z.DParts.F.ok scParts (fun vs H Q E h => ?_) (fun cdv A outer s H vs Q E hr h => ?_)
  · obtain ⟨a, e, l, rfl, _⟩ := h
    rfl
  · obtain ⟨a, e, l, rfl, he, hk, qq⟩ := h
    refine ⟨_, (pss_cons (HM.ps_match (pv 0) (HM.pm_tag rfl scParts.nd (.name (i := 1) rfl (.inl rfl) (by first | exact .inl rfl | exact .inr rfl) .nil) (pss_one (ps_ret (pv 1)))
          (HM.pm_tag rfl scParts.nd (.wild (.name (i := 2) rfl (.inl rfl) (by first | exact .inl rfl | exact .inr rfl) .nil)) (pss_one (ps_ret (pv 2)))
          (HM.pm_tag rfl scParts.nd (.wild (.name (i := 2) rfl (.inl rfl) (by first | exact .inl rfl | exact .inr rfl) .nil)) (pss_one (ps_ret (pv 2)))
          (HM.pm_tag rfl scParts.nd (.name (i := 3) rfl (.inl rfl) (by first | exact .inl rfl | exact .inr rfl) .nil) (pss_one (ps_ret (pe_tup (pa_cons (pv 3) pa_nil))))
          (HM.pm_tag rfl scParts.nd (.name (i := 3) rfl (.inl rfl) (by first | exact .inl rfl | exact .inr rfl) (.name (i := 4) rfl (.inl rfl) (by first | exact .inl rfl | exact .inr rfl) .nil)) (pss_one (ps_ret (pe_tup (pa_cons (pv 3) (pa_cons (pv 4) pa_nil)))))
          (HM.pm_tag rfl scParts.nd (.wild (.name (i := 3) rfl (.inl rfl) (by first | exact .inl rfl | exact .inr rfl) (.name (i := 4) rfl (.inl rfl) (by first | exact .inl rfl | exact .inr rfl) .nil))) (pss_one (ps_ret (pe_tup (pa_cons (pv 3) (pa_cons (pv 4) pa_nil)))))
          (HM.pm_tag rfl scParts.nd (.wild (.name (i := 3) rfl (.inl rfl) (by first | exact .inl rfl | exact .inr rfl) (.name (i := 4) rfl (.inl rfl) (by first | exact .inl rfl | exact .inr rfl) .nil))) (pss_one (ps_ret (pe_tup (pa_cons (pv 3) (pa_cons (pv 4) pa_nil)))))
          (HM.pm_tag rfl scParts.nd (.name (i := 5) rfl (.inl rfl) (by first | exact .inl rfl | exact .inr rfl) (.name (i := 3) rfl (.inl rfl) (by first | exact .inl rfl | exact .inr rfl) (.name (i := 4) rfl (.inl rfl) (by first | exact .inl rfl | exact .inr rfl) .nil))) (pss_one (ps_ret (pe_tup (pa_cons (pv 5) (pa_cons (pv 3) (pa_cons (pv 4) pa_nil))))))
          (HM.pm_tag rfl scParts.nd (.name (i := 6) rfl (.inl rfl) (by first | exact .inl rfl | exact .inr rfl) (.name (i := 3) rfl (.inl rfl) (by first | exact .inl rfl | exact .inr rfl) (.wild (.wild (.name (i := 4) rfl (.inl rfl) (by first | exact .inl rfl | exact .inr rfl) .nil))))) (pss_one (ps_ret (pe_tup (pa_cons (pv 6) (pa_cons (pv 3) (pa_cons (pv 4) pa_nil))))))
          (HM.pm_tag rfl scParts.nd (.name (i := 6) rfl (.inl rfl) (by first | exact .inl rfl | exact .inr rfl) (.name (i := 7) rfl (.inl rfl) (by first | exact .inl rfl | exact .inr rfl) .nil)) (pss_one (ps_ret (pe_tup (pa_cons (pv 6) (StX.pa_star (pe_lc (own := [("arm", 8)]) (g := (gName 8)) (by rfl) scParts.nd (HK.pi_tupK (K := K) rfl (pv 7)) (blkOk_by (own := [("arm", 8)]) (N := ["e", "items", "arguments", "first", "second", "condition", "whole", "arms", "arm"]) (sc := defScope sParts) (by decide +kernel)) (fun _ _ _ _ _ => (pg_name (i := 8) scParts.nd rfl (Or.inl rfl))) (fun _ _ _ _ _ => pts_nil) (fun _ _ _ _ _ => (pe_ix (HL.ix_tupK (K := K) rfl) (pv 8) pe_int (fun _ _ => rfl)))) pa_nil)))))
          HM.pm_nil)))))))))))
        (pss_one (ps_ret (pe_tup pa_nil)))), ?_⟩
    unfold kids at hk
    split at hk
    · rename_i tag r
      obtain ⟨a', us, ea, ha, hus⟩ := he
      obtain rfl := V.ref.inj ea
      obtain ⟨u0, rs, rfl, e0, hrs⟩ := hus
      obtain rfl : u0 = .str tag := e0
      have hr2 := hrs.all
      have ne : ∀ (z : Str) (n : Nat), ¬ tag = z → ¬ (tag = z ∧ rs.length = n) := fun z n h1 h2 => h1 h2.1
      unfold partsT at hk
      by_cases h0 : tag = "list"
      · rw [if_pos h0] at hk
        split at hk
        · obtain rfl := Option.some.inj hk
          obtain ⟨x0, rfl, g0⟩ : ∃ x0, rs = [x0] ∧ TrAt H _ x0 := by
            cases hr2 with
            | cons f0 r0 =>
              cases r0
              exact ⟨_, rfl, f0⟩
          refine ⟨_, rfl, a, tag, [x0], rfl, SqT.of ha, iteYes ⟨h0, rfl⟩ ?_⟩
          obtain ⟨q, ws, rfl, hq, hws⟩ := g0
          exact ⟨_, rfl, qq H q ws (Same.refl H) hq hws.all⟩
        · cases hk
      rw [if_neg h0] at hk
      by_cases h1 : tag = "call"
      · rw [if_pos h1] at hk
        split at hk
        · obtain rfl := Option.some.inj hk
          obtain ⟨x0, x1, rfl, g0, g1⟩ : ∃ x0 x1, rs = [x0, x1] ∧ TrAt H _ x0 ∧ TrAt H _ x1 := by
            cases hr2 with
            | cons f0 r0 =>
              cases r0 with
              | cons f1 r1 =>
                cases r1
                exact ⟨_, _, rfl, f0, f1⟩
          refine ⟨_, rfl, a, tag, [x0, x1], rfl, SqT.of ha, iteNo (fun zz => h0 zz.1) ⟨a, tag, [x0, x1], rfl, SqT.of ha, iteYes ⟨h1, rfl⟩ ?_⟩⟩
          obtain ⟨q, ws, rfl, hq, hws⟩ := g1
          exact ⟨_, rfl, qq H q ws (Same.refl H) hq hws.all⟩
        · cases hk
      rw [if_neg h1] at hk
      by_cases h2 : tag = "make"
      · rw [if_pos h2] at hk
        split at hk
        · obtain rfl := Option.some.inj hk
          obtain ⟨x0, x1, rfl, g0, g1⟩ : ∃ x0 x1, rs = [x0, x1] ∧ TrAt H _ x0 ∧ TrAt H _ x1 := by
            cases hr2 with
            | cons f0 r0 =>
              cases r0 with
              | cons f1 r1 =>
                cases r1
                exact ⟨_, _, rfl, f0, f1⟩
          refine ⟨_, rfl, a, tag, [x0, x1], rfl, SqT.of ha, iteNo (fun zz => h0 zz.1) ⟨a, tag, [x0, x1], rfl, SqT.of ha, iteNo (fun zz => h1 zz.1) ⟨a, tag, [x0, x1], rfl, SqT.of ha, iteYes ⟨h2, rfl⟩ ?_⟩⟩⟩
          obtain ⟨q, ws, rfl, hq, hws⟩ := g1
          exact ⟨_, rfl, qq H q ws (Same.refl H) hq hws.all⟩
        · cases hk
      rw [if_neg h2] at hk
      by_cases h3 : tag = "not"
      · rw [if_pos h3] at hk
        split at hk
        · obtain rfl := Option.some.inj hk
          obtain ⟨x0, rfl, g0⟩ : ∃ x0, rs = [x0] ∧ TrAt H _ x0 := by
            cases hr2 with
            | cons f0 r0 =>
              cases r0
              exact ⟨_, rfl, f0⟩
          refine ⟨_, rfl, a, tag, [x0], rfl, SqT.of ha, iteNo (fun zz => h0 zz.1) ⟨a, tag, [x0], rfl, SqT.of ha, iteNo (fun zz => h1 zz.1) ⟨a, tag, [x0], rfl, SqT.of ha, iteNo (fun zz => h2 zz.1) ⟨a, tag, [x0], rfl, SqT.of ha, iteYes ⟨h3, rfl⟩ ?_⟩⟩⟩⟩
          refine ⟨_, rfl, by show 1 ≤ sizeLine; decide, fun t ht => ?_⟩
          have sT := same_upd (o := .tup [x0]) ht
          exact qq _ t _ sT upd_same (.cons (g0.keep (TupK.of sT)) .nil)
        · cases hk
      rw [if_neg h3] at hk
      by_cases h4 : tag = "cons"
      · rw [if_pos h4] at hk
        split at hk
        · obtain rfl := Option.some.inj hk
          obtain ⟨x0, x1, rfl, g0, g1⟩ : ∃ x0 x1, rs = [x0, x1] ∧ TrAt H _ x0 ∧ TrAt H _ x1 := by
            cases hr2 with
            | cons f0 r0 =>
              cases r0 with
              | cons f1 r1 =>
                cases r1
                exact ⟨_, _, rfl, f0, f1⟩
          refine ⟨_, rfl, a, tag, [x0, x1], rfl, SqT.of ha, iteNo (fun zz => h0 zz.1) ⟨a, tag, [x0, x1], rfl, SqT.of ha, iteNo (fun zz => h1 zz.1) ⟨a, tag, [x0, x1], rfl, SqT.of ha, iteNo (fun zz => h2 zz.1) ⟨a, tag, [x0, x1], rfl, SqT.of ha, iteNo (fun zz => h3 zz.1) ⟨a, tag, [x0, x1], rfl, SqT.of ha, iteYes ⟨h4, rfl⟩ ?_⟩⟩⟩⟩⟩
          refine ⟨_, rfl, _, rfl, by show 2 ≤ sizeLine; decide, fun t ht => ?_⟩
          have sT := same_upd (o := .tup [x0, x1]) ht
          exact qq _ t _ sT upd_same (.cons (g0.keep (TupK.of sT)) (.cons (g1.keep (TupK.of sT)) .nil))
        · cases hk
      rw [if_neg h4] at hk
      by_cases h5 : tag = "let"
      · rw [if_pos h5] at hk
        split at hk
        · obtain rfl := Option.some.inj hk
          obtain ⟨x0, x1, x2, rfl, g0, g1, g2⟩ : ∃ x0 x1 x2, rs = [x0, x1, x2] ∧ TrAt H _ x0 ∧ TrAt H _ x1 ∧ TrAt H _ x2 := by
            cases hr2 with
            | cons f0 r0 =>
              cases r0 with
              | cons f1 r1 =>
                cases r1 with
                | cons f2 r2 =>
                  cases r2
                  exact ⟨_, _, _, rfl, f0, f1, f2⟩
          refine ⟨_, rfl, a, tag, [x0, x1, x2], rfl, SqT.of ha, iteNo (fun zz => h0 zz.1) ⟨a, tag, [x0, x1, x2], rfl, SqT.of ha, iteNo (fun zz => h1 zz.1) ⟨a, tag, [x0, x1, x2], rfl, SqT.of ha, iteNo (fun zz => h2 zz.1) ⟨a, tag, [x0, x1, x2], rfl, SqT.of ha, iteNo (fun zz => h3 zz.1) ⟨a, tag, [x0, x1, x2], rfl, SqT.of ha, iteNo (fun zz => h4 zz.1) ⟨a, tag, [x0, x1, x2], rfl, SqT.of ha, iteYes ⟨h5, rfl⟩ ?_⟩⟩⟩⟩⟩⟩
          refine ⟨_, rfl, _, rfl, by show 2 ≤ sizeLine; decide, fun t ht => ?_⟩
          have sT := same_upd (o := .tup [x1, x2]) ht
          exact qq _ t _ sT upd_same (.cons (g1.keep (TupK.of sT)) (.cons (g2.keep (TupK.of sT)) .nil))
        · cases hk
      rw [if_neg h5] at hk
      by_cases h6 : tag = "binary"
      · rw [if_pos h6] at hk
        split at hk
        · obtain rfl := Option.some.inj hk
          obtain ⟨x0, x1, x2, rfl, g0, g1, g2⟩ : ∃ x0 x1 x2, rs = [x0, x1, x2] ∧ TrAt H _ x0 ∧ TrAt H _ x1 ∧ TrAt H _ x2 := by
            cases hr2 with
            | cons f0 r0 =>
              cases r0 with
              | cons f1 r1 =>
                cases r1 with
                | cons f2 r2 =>
                  cases r2
                  exact ⟨_, _, _, rfl, f0, f1, f2⟩
          refine ⟨_, rfl, a, tag, [x0, x1, x2], rfl, SqT.of ha, iteNo (fun zz => h0 zz.1) ⟨a, tag, [x0, x1, x2], rfl, SqT.of ha, iteNo (fun zz => h1 zz.1) ⟨a, tag, [x0, x1, x2], rfl, SqT.of ha, iteNo (fun zz => h2 zz.1) ⟨a, tag, [x0, x1, x2], rfl, SqT.of ha, iteNo (fun zz => h3 zz.1) ⟨a, tag, [x0, x1, x2], rfl, SqT.of ha, iteNo (fun zz => h4 zz.1) ⟨a, tag, [x0, x1, x2], rfl, SqT.of ha, iteNo (fun zz => h5 zz.1) ⟨a, tag, [x0, x1, x2], rfl, SqT.of ha, iteYes ⟨h6, rfl⟩ ?_⟩⟩⟩⟩⟩⟩⟩
          refine ⟨_, rfl, _, rfl, by show 2 ≤ sizeLine; decide, fun t ht => ?_⟩
          have sT := same_upd (o := .tup [x1, x2]) ht
          exact qq _ t _ sT upd_same (.cons (g1.keep (TupK.of sT)) (.cons (g2.keep (TupK.of sT)) .nil))
        · cases hk
      rw [if_neg h6] at hk
      by_cases h7 : tag = "if"
      · rw [if_pos h7] at hk
        split at hk
        · obtain rfl := Option.some.inj hk
          obtain ⟨x0, x1, x2, rfl, g0, g1, g2⟩ : ∃ x0 x1 x2, rs = [x0, x1, x2] ∧ TrAt H _ x0 ∧ TrAt H _ x1 ∧ TrAt H _ x2 := by
            cases hr2 with
            | cons f0 r0 =>
              cases r0 with
              | cons f1 r1 =>
                cases r1 with
                | cons f2 r2 =>
                  cases r2
                  exact ⟨_, _, _, rfl, f0, f1, f2⟩
          refine ⟨_, rfl, a, tag, [x0, x1, x2], rfl, SqT.of ha, iteNo (fun zz => h0 zz.1) ⟨a, tag, [x0, x1, x2], rfl, SqT.of ha, iteNo (fun zz => h1 zz.1) ⟨a, tag, [x0, x1, x2], rfl, SqT.of ha, iteNo (fun zz => h2 zz.1) ⟨a, tag, [x0, x1, x2], rfl, SqT.of ha, iteNo (fun zz => h3 zz.1) ⟨a, tag, [x0, x1, x2], rfl, SqT.of ha, iteNo (fun zz => h4 zz.1) ⟨a, tag, [x0, x1, x2], rfl, SqT.of ha, iteNo (fun zz => h5 zz.1) ⟨a, tag, [x0, x1, x2], rfl, SqT.of ha, iteNo (fun zz => h6 zz.1) ⟨a, tag, [x0, x1, x2], rfl, SqT.of ha, iteYes ⟨h7, rfl⟩ ?_⟩⟩⟩⟩⟩⟩⟩⟩
          refine ⟨_, rfl, _, rfl, _, rfl, by show 3 ≤ sizeLine; decide, fun t ht => ?_⟩
          have sT := same_upd (o := .tup [x0, x1, x2]) ht
          exact qq _ t _ sT upd_same (.cons (g0.keep (TupK.of sT)) (.cons (g1.keep (TupK.of sT)) (.cons (g2.keep (TupK.of sT)) .nil)))
        · cases hk
      rw [if_neg h7] at hk
      by_cases h8 : tag = "split"
      · rw [if_pos h8] at hk
        split at hk
        · obtain rfl := Option.some.inj hk
          obtain ⟨x0, x1, x2, x3, x4, rfl, g0, g1, g2, g3, g4⟩ : ∃ x0 x1 x2 x3 x4, rs = [x0, x1, x2, x3, x4] ∧ TrAt H _ x0 ∧ TrAt H _ x1 ∧ TrAt H _ x2 ∧ TrAt H _ x3 ∧ TrAt H _ x4 := by
            cases hr2 with
            | cons f0 r0 =>
              cases r0 with
              | cons f1 r1 =>
                cases r1 with
                | cons f2 r2 =>
                  cases r2 with
                  | cons f3 r3 =>
                    cases r3 with
                    | cons f4 r4 =>
                      cases r4
                      exact ⟨_, _, _, _, _, rfl, f0, f1, f2, f3, f4⟩
          refine ⟨_, rfl, a, tag, [x0, x1, x2, x3, x4], rfl, SqT.of ha, iteNo (fun zz => h0 zz.1) ⟨a, tag, [x0, x1, x2, x3, x4], rfl, SqT.of ha, iteNo (fun zz => h1 zz.1) ⟨a, tag, [x0, x1, x2, x3, x4], rfl, SqT.of ha, iteNo (fun zz => h2 zz.1) ⟨a, tag, [x0, x1, x2, x3, x4], rfl, SqT.of ha, iteNo (fun zz => h3 zz.1) ⟨a, tag, [x0, x1, x2, x3, x4], rfl, SqT.of ha, iteNo (fun zz => h4 zz.1) ⟨a, tag, [x0, x1, x2, x3, x4], rfl, SqT.of ha, iteNo (fun zz => h5 zz.1) ⟨a, tag, [x0, x1, x2, x3, x4], rfl, SqT.of ha, iteNo (fun zz => h6 zz.1) ⟨a, tag, [x0, x1, x2, x3, x4], rfl, SqT.of ha, iteNo (fun zz => h7 zz.1) ⟨a, tag, [x0, x1, x2, x3, x4], rfl, SqT.of ha, iteYes ⟨h8, rfl⟩ ?_⟩⟩⟩⟩⟩⟩⟩⟩⟩
          refine ⟨_, rfl, _, rfl, _, rfl, by show 3 ≤ sizeLine; decide, fun t ht => ?_⟩
          have sT := same_upd (o := .tup [x0, x1, x4]) ht
          exact qq _ t _ sT upd_same (.cons (g0.keep (TupK.of sT)) (.cons (g1.keep (TupK.of sT)) (.cons (g4.keep (TupK.of sT)) .nil)))
        · cases hk
      rw [if_neg h8] at hk
      by_cases h9 : tag = "match"
      · rw [if_pos h9] at hk
        cases hk
      rw [if_neg h9] at hk
      obtain rfl := Option.some.inj hk
      refine ⟨_, rfl, a, tag, rs, rfl, SqT.of ha, iteNo (fun zz => h0 zz.1) ⟨a, tag, rs, rfl, SqT.of ha, iteNo (fun zz => h1 zz.1) ⟨a, tag, rs, rfl, SqT.of ha, iteNo (fun zz => h2 zz.1) ⟨a, tag, rs, rfl, SqT.of ha, iteNo (fun zz => h3 zz.1) ⟨a, tag, rs, rfl, SqT.of ha, iteNo (fun zz => h4 zz.1) ⟨a, tag, rs, rfl, SqT.of ha, iteNo (fun zz => h5 zz.1) ⟨a, tag, rs, rfl, SqT.of ha, iteNo (fun zz => h6 zz.1) ⟨a, tag, rs, rfl, SqT.of ha, iteNo (fun zz => h7 zz.1) ⟨a, tag, rs, rfl, SqT.of ha, iteNo (fun zz => h8 zz.1) ⟨a, tag, rs, rfl, SqT.of ha, iteNo (fun zz => h9 zz.1) ?_⟩⟩⟩⟩⟩⟩⟩⟩⟩⟩
      exact ⟨Nat.zero_le _, fun t ht => qq _ t [] (same_upd ht) upd_same .nil⟩
    · cases hk
def spView : Sp := fun vs H Q _ => ∃ (a : Addr) (nm : Str) (u : V), vs = [.ref a] ∧ H a = some (.tup [.str "view", .str nm, u]) ∧ ∀ H' t, Same H H' → H' t = some (.tup [u]) → Q (.ref t) H'
def spViewK : Sp := fun vs H Q _ => ∃ (a : Addr) (nm : Str) (u : V), vs = [.ref a] ∧ H a = some (.tup [.str "view", .str nm, u]) ∧ ∀ H' t, Same H H' → H' t = some (.tup []) → Q (.ref t) H'
theorem ok_expressions {k : Nat} (Z : Defs K mg) (R : Rest P w K mg Z) : FnOk P w K mg base CX0 (k + 1) Z.fExpressions Z.fdExpressions ["definition"] spView := by
  have T := R.T
  refine Z.DExpressions.F.ok scExpressions (fun vs H Q E h => ?_) (fun cdv A outer s H vs Q E hr h => ?_)
  · obtain ⟨a, nm, u, rfl, _⟩ := h
    rfl
  · obtain ⟨a, nm, u, rfl, ha, qq⟩ := h
    refine ⟨_, (pss_cons (HM.ps_match (pv 0) (HM.pm_tag rfl scExpressions.nd (.wild (.wild (.name (i := 1) rfl (.inl rfl) (by first | exact .inl rfl | exact .inr rfl) .nil))) (pss_one (ps_ret (pe_tup (pa_cons (pv 1) pa_nil))))
          (HM.pm_tag rfl scExpressions.nd (.wild (.wild (.name (i := 1) rfl (.inl rfl) (by first | exact .inl rfl | exact .inr rfl) (.wild .nil)))) (pss_one (ps_ret (pe_tup (pa_cons (pv 1) pa_nil))))
          (HM.pm_tag rfl scExpressions.nd (.wild (.name (i := 1) rfl (.inl rfl) (by first | exact .inl rfl | exact .inr rfl) .nil)) (pss_one (ps_ret (pe_tup (pa_cons (pv 1) pa_nil))))
          (HM.pm_tag rfl scExpressions.nd (.wild (.wild (.name (i := 2) rfl (.inl rfl) (by first | exact .inl rfl | exact .inr rfl) (.name (i := 1) rfl (.inl rfl) (by first | exact .inl rfl | exact .inr rfl) .nil)))) (pss_one (ps_ret (pe_tup (StX.pa_star (pe_lc (own := [("setting", 3)]) (g := (gName 3)) (by rfl) scExpressions.nd (HK.pi_tupK (K := K) rfl (pv 2)) (blkOk_by (own := [("setting", 3)]) (N := ["definition", "e", "settings", "setting"]) (sc := defScope sExpressions) (by decide +kernel)) (fun _ _ _ _ _ => (pg_name (i := 3) scExpressions.nd rfl (Or.inl rfl))) (fun _ _ _ _ _ => pts_nil) (fun _ _ _ _ _ => (pe_ix (HL.ix_tupK (K := K) rfl) (pv 3) pe_int (fun _ _ => rfl)))) (pa_cons (pv 1) pa_nil)))))
          HM.pm_nil)))))
        (pss_one (ps_ret (pe_tup pa_nil)))), ?_⟩
    refine ⟨_, rfl, a, "view", [.str nm, u], rfl, SqT.of ha, iteNo (fun h => absurd h.1 (by decide +kernel)) ⟨a, "view", [.str nm, u], rfl, SqT.of ha, iteNo (fun h => absurd h.1 (by decide +kernel)) ⟨a, "view", [.str nm, u], rfl, SqT.of ha, iteYes ⟨rfl, rfl⟩ ?_⟩⟩⟩
    exact ⟨_, rfl, by show 1 ≤ sizeLine; decide, fun t ht => qq _ t (same_upd ht) upd_same⟩
theorem ok_kinds {k : Nat} (Z : Defs K mg) (R : Rest P w K mg Z) : FnOk P w K mg base CX0 (k + 1) Z.fKinds Z.fdKinds ["definition"] spViewK := by
  have T := R.T
  refine Z.DKinds.F.ok scKinds (fun vs H Q E h => ?_) (fun cdv A outer s H vs Q E hr h => ?_)
  · obtain ⟨a, nm, u, rfl, _⟩ := h
    rfl
  · obtain ⟨a, nm, u, rfl, ha, qq⟩ := h
    refine ⟨_, (pss_cons (HM.ps_match (pv 0) (HM.pm_tag rfl scKinds.nd (.wild (.name (i := 1) rfl (.inl rfl) (by first | exact .inl rfl | exact .inr rfl) .nil)) (pss_one (ps_ret (pe_callTy call_tuple_of (by rfl) T.tuple HL.boot_tuple (pa_cons (pe_lc2 (own := [("_", 3), ("fields", 4), ("field", 5)]) (vs1 := [5]) (g := (gTup K 2 (gCons (gName 3) (gCons (gName 4) gNil)))) (g1 := (gName 5)) (by rfl) scKinds.nd  (pi_tup (pv 1)) (blkOk_by (own := [("_", 3), ("fields", 4), ("field", 5)]) (N := ["definition", "makers", "kind", "_", "fields", "field"]) (sc := defScope sKinds) (by decide +kernel)) (by decide) (fun _ _ _ _ _ => (pg_tup rfl (pgs_cons (pg_name (i := 3) scKinds.nd rfl (.inl rfl)) (pgs_cons (pg_name (i := 4) scKinds.nd rfl (.inl rfl)) pgs_nil)))) (fun _ _ _ _ _ => pts_nil) (fun _ _ _ _ _ => (HK.pi_tupK (K := K) rfl (pv 4))) (fun _ _ _ _ _ => (pg_name (i := 5) scKinds.nd rfl (Or.inl rfl))) (fun _ _ _ _ _ => pts_nil) (fun _ _ _ _ _ => (pv 5))) pa_nil))))
          (HM.pm_tag rfl scKinds.nd (.wild (.name (i := 2) rfl (.inl rfl) (by first | exact .inl rfl | exact .inr rfl) (.wild (.wild .nil)))) (pss_one (ps_ret (pe_tup (pa_cons (pv 2) pa_nil))))
          HM.pm_nil)))
        (pss_one (ps_ret (pe_tup pa_nil)))), ?_⟩
    refine ⟨_, rfl, a, "view", [.str nm, u], rfl, SqT.of ha, iteNo (fun h => absurd h.1 (by decide +kernel)) ⟨a, "view", [.str nm, u], rfl, SqT.of ha, iteNo (fun h => absurd h.1 (by decide +kernel)) ?_⟩⟩
    exact ⟨Nat.zero_le _, fun t ht => qq _ t (same_upd ht) upd_same⟩
end
end Q23
namespace Q23
open PySem PySem.Spec PyProof.Rows L2 SX HL
theorem lst2 {α β : Type} {R : α → β → Prop} : ∀ {a : List α} {b : List β}, All2 R a b → a = [] ∧ b = [] ∨ ∃ a' x b' y, a = a' ++ [x] ∧ b = b' ++ [y] ∧ R x y ∧ All2 R a' b'
  | _, _, .nil => .inl ⟨rfl, rfl⟩
  | _, _, .cons (x := x) (y := y) h r => by
    rcases lst2 r with ⟨rfl, rfl⟩ | ⟨a', x', b', y', rfl, rfl, h', r'⟩
    · exact .inr ⟨[], x, [], y, rfl, rfl, h, .nil⟩
    · exact .inr ⟨x :: a', x', y :: b', y', rfl, rfl, h', .cons h r'⟩
/-- what waits: a tree and its depth -/
def PrAt (H : Hp) (x : T × Nat) (u : V) : Prop := ∃ t ue, u = .ref t ∧ H t = some (.tup [ue, .int (x.2 : Int)]) ∧ TrAt H x.1 ue ∧ ∃ a, ue = .ref a
theorem PrAt.keep {H H' : Hp} (k : TupK H H') {x : T × Nat} {u : V} (h : PrAt H x u) : PrAt H' x u := by
  obtain ⟨t, ue, e, ht, hu, r⟩ := h
  exact ⟨t, ue, e, k _ _ ht, hu.keep k, r⟩
abbrev PrsAt (H : Hp) (ws : List (T × Nat)) (us : List V) : Prop := All2 (PrAt H) ws us
theorem PrsAt.keep {H H' : Hp} (k : TupK H H') {ws : List (T × Nat)} {us : List V} (h : PrsAt H ws us) : PrsAt H' ws us := All2.mono h fun _ _ x => x.keep k
def psz (ws : List (T × Nat)) : Nat := sizs (ws.map Prod.fst)
theorem psz_app (a b : List (T × Nat)) : psz (a ++ b) = psz a + psz b := by
  unfold psz
  rw [List.map_append, sizs_app]
def Bad12 (ws : List (T × Nat)) : Prop := ∃ x ∈ ws, ¬ DepLe (13 - x.2) x.1
theorem full_ref {H : Hp} {e : T} {u : V} (h : Full e) (hu : TrAt H e u) : ∃ a, u = .ref a := by
  obtain ⟨l, hk, _⟩ := h.kids
  cases e with
  | t r =>
    obtain ⟨a, us, rfl, _⟩ := hu
    exact ⟨a, rfl⟩
  | _ => cases hk
theorem same_up {H H' : Hp} {W : Addr} {o : HO} (s : Same H H') (n : H W = none) : Same H (upd H' W o) := fun b x h => by
  rw [upd_ne (ne_of_none h n)]
  exact s b x h
section
variable {P : Program} {w : World} {K : PySem.W.Frag} {mg : Str → Option Value} {base : Heap}
def spDeep : Sp := fun vs H Q _ => ∃ (a : Addr) (nm : Str) (u : V) (e : T) (b : Bool), vs = [.ref a] ∧ H a = some (.tup [.str "view", .str nm, u]) ∧ TrAt H e u ∧ Full e ∧ e.siz ≤ 900000 ∧ (b = true ↔ ¬ DepLe 12 e) ∧ ∀ H', Same H H' → Q (.bl b) H'
theorem ok_deep {k : Nat} (Z : Defs K mg) (R : Rest P w K mg Z) : FnOk P w K mg base CX0 (k + 2) Z.fGoesTooDeep Z.fdGoesTooDeep ["definition"] spDeep := by
  have T := R.T
  have DKinds := Z.DKinds
  have GKinds : FnOk P w K mg base CX0 (k + 1) Z.fKinds Z.fdKinds ["definition"] spViewK := ok_kinds Z R
  have DExpressions := Z.DExpressions
  have GExpressions : FnOk P w K mg base CX0 (k + 1) Z.fExpressions Z.fdExpressions ["definition"] spView := ok_expressions Z R
  have DParts := Z.DParts
  have GParts : FnOk P w K mg base CX0 (k + 1) Z.fParts Z.fdParts ["e"] spParts := ok_parts Z R
  refine Z.DGoesTooDeep.F.ok scGoesTooDeep (fun vs H Q E h => ?_) (fun cdv A outer s H vs Q E hr h => ?_)
  · obtain ⟨a, nm, u, e, b, rfl, _⟩ := h
    rfl
  · obtain ⟨a, nm, u, e, b, rfl, ha, hu, hf, hsz, hb, q⟩ := h
    refine ⟨_, (pss_cons (ps_if (pt_val (pe_callB (cr_any rfl) (by rfl) T.any (by decide +kernel) (pa_cons (pe_lc (own := [("levels", 4), ("_", 5)]) (g := (gTup K 2 (gCons (gName 4) (gCons (gName 5) gNil)))) (by rfl) scGoesTooDeep.nd (HK.pi_tupK (K := K) rfl (pe_call GKinds (hr.mono (by omega)) (by rfl) DKinds.g DKinds.F.kp DKinds.b .nil pass0 (pa_cons (pv 0) pa_nil))) (blkOk_by (own := [("levels", 4), ("_", 5)]) (N := ["definition", "waiting", "e", "depth", "levels", "_", "part"]) (sc := defScope sGoesTooDeep) (by decide +kernel)) (fun _ _ _ _ _ => (pg_tup rfl (pgs_cons (pg_name (i := 4) scGoesTooDeep.nd rfl (.inl rfl)) (pgs_cons (pg_name (i := 5) scGoesTooDeep.nd rfl (.inl rfl)) pgs_nil)))) (fun _ _ _ _ _ => pts_nil) (fun _ _ _ _ _ => (pe_cmpR op_gt (pv 4) (pe_gint rfl Z.kMOST_LEVELS) (nomark _)))) pa_nil))) (pss_one (ps_ret pe_bl)) pss_nil)
        (pss_cons (ps_setLc (i := 1) (own := [("e", 2)]) (g := (gName 2)) (by rfl) scGoesTooDeep.nd rfl rfl (sw_true rfl rfl rfl (by decide +kernel)) (HK.pi_tupK (K := K) rfl (pe_call GExpressions (hr.mono (by omega)) (by rfl) DExpressions.g DExpressions.F.kp DExpressions.b .nil pass0 (pa_cons (pv 0) pa_nil))) (blkOk_by (own := [("e", 2)]) (N := ["definition", "waiting", "e", "depth", "levels", "_", "part"]) (sc := defScope sGoesTooDeep) (by decide +kernel)) (fun _ _ _ _ _ => (pg_name (i := 2) scGoesTooDeep.nd rfl (Or.inl rfl))) (fun _ _ _ _ _ => pts_nil) (fun _ _ _ _ _ => (pe_tup (pa_cons (pv 2) (pa_cons pe_int pa_nil)))))
        (pss_cons (ps_while PassesOwn.never (pt_truth (pv 1) (by intro _; rfl)) (pss_cons (ps_asg (pe_bm0 PySem.F.plainAttrs_list PySem.F.slot_list_pop PySem.F.type_list_pop mt_pop (pv 1)) (pg_tup rfl (pgs_cons (pg_name (i := 2) scGoesTooDeep.nd rfl (.inl rfl)) (pgs_cons (pg_name (i := 3) scGoesTooDeep.nd rfl (.inr rfl)) pgs_nil))))
        (pss_cons (ps_if (pt_cmpR op_gt (pv 3) (pe_gint rfl Z.kDEEPEST) (nomark _)) (pss_one (ps_ret pe_bl)) pss_nil)
        (pss_one (ps_expr (pe_bm PySem.F.plainAttrs_list PySem.F.slot_list_extend PySem.F.type_list_extend mt_extend (pv 1) (pa_cons (pe_lc (own := [("part", 6)]) (g := (gName 6)) (by rfl) scGoesTooDeep.nd (HK.pi_tupK (K := K) rfl (pe_call GParts (hr.mono (by omega)) (by rfl) DParts.g DParts.F.kp DParts.b .nil pass0 (pa_cons (pv 2) pa_nil))) (blkOk_by (own := [("part", 6)]) (N := ["definition", "waiting", "e", "depth", "levels", "_", "part"]) (sc := defScope sGoesTooDeep) (by decide +kernel)) (fun _ _ _ _ _ => (pg_name (i := 6) scGoesTooDeep.nd rfl (Or.inl rfl))) (fun _ _ _ _ _ => pts_nil) (fun _ _ _ _ _ => (pe_tup (pa_cons (pv 6) (pa_cons (pe_op op_add (pv 3) pe_int) pa_nil))))) pa_nil)))))))
        (pss_one (ps_ret pe_bl))))), ?_⟩
    refine ⟨_, rfl, a, nm, u, rfl, ha, fun H1 t0 s1 ht0 => ?_⟩
    refine ⟨t0, rfl, ⟨_, SqT.of ht0⟩, fun D hD => ?_⟩
    refine lc_it walk_tup (fun i H' => Same H1 H' ∧ H' D = some (.lst [])) ⟨same_upd hD, upd_same⟩ (fun i H' _ p => SqT.of (p.1 _ _ ht0)) (fun i x H2 H3 hi _ _ => absurd hi (Nat.not_lt_zero i)) ?_
    rintro H2 ⟨s2, hD2⟩
    have s02 := Same.tr s1 s2
    refine ⟨D, [], rfl, SqL.of hD2, false, rfl, iteF ?_⟩
    refine ⟨_, rfl, a, nm, u, rfl, s02 _ _ ha, fun H3 t3 s3 ht3 => ?_⟩
    have s03 := Same.tr s02 s3
    refine ⟨t3, rfl, ⟨_, SqT.of ht3⟩, fun W hW => ?_⟩
    obtain ⟨ue, rfl⟩ := full_ref hf hu
    refine lc_it walk_tup (fun i H' => Same H3 H' ∧ ∃ us, H' W = some (.lst us) ∧ PrsAt H' (List.replicate i (e, 1)) us) ⟨same_upd hW, [], upd_same, .nil⟩ (fun i H' _ p => SqT.of (p.1 _ _ ht3)) ?_ ?_
    · rintro i x H4 H5 hi ⟨s4, us, hW4, hps⟩ ⟨rfl, hx⟩
      replace hx : [V.ref ue][i]? = some x := hx
      have hi0 : i = 0 := by simp at hi; omega
      subst hi0
      obtain rfl : V.ref ue = x := by simpa using hx
      refine ⟨rfl, lc_yes ?_⟩
      have u0 : us = [] := by
        cases hps
        rfl
      subst u0
      refine ⟨_, rfl, by show 2 ≤ sizeLine; decide, fun t ht => ?_⟩
      have n1 : W ≠ t := ne_of_none hW4 ht
      have s5 := same_upd (o := .tup [.ref ue, .int 1]) ht
      have hW6 : upd H5 t (.tup [.ref ue, .int 1]) W = some (.lst []) := s5 _ _ hW4
      refine ⟨[], hW6, by show 0 < sizeLine; decide, same_up (Same.tr s4 s5) hW, _, upd_same, .cons ⟨t, .ref ue, rfl, ?_, ?_, ue, rfl⟩ .nil⟩
      · rw [upd_ne (fun z => n1 z.symm)]
        exact upd_same
      · exact (hu.keep (TupK.of (Same.tr s03 (Same.tr s4 s5)))).keep (tk_lst hW6)
    · rintro H4 ⟨s4, us, hW4, hps⟩
      have nW : H W = none := by
        cases e0 : H W with
        | none => rfl
        | some o => rw [s03 _ _ e0] at hW; cases hW
      refine ⟨fun m σ H' => ∃ (ws : List (Q23.T × Nat)) (us : List V) (y2 y3 y4 y5 y6 : Option V), σ = [some (.ref a), some (.ref W), y2, y3, y4, y5, y6] ∧ Same H H' ∧ H' W = some (.lst us) ∧ PrsAt H' ws us ∧ (∀ x ∈ ws, Full x.1 ∧ x.2 ≤ 13) ∧ psz ws ≤ 900000 ∧ (b = true ↔ Bad12 ws) ∧ m = psz ws,
        ⟨_, [(e, 1)], us, none, none, none, none, none, rfl, Same.tr s03 s4, hW4, hps, ?_, ?_, ?_, rfl⟩, ?_⟩
      · intro x hx
        obtain rfl := List.mem_singleton.mp hx
        exact ⟨hf, by show 1 ≤ 13; decide⟩
      · show sizs [e] ≤ 900000
        rw [sizs, sizs]
        omega
      · rw [hb]
        constructor
        · exact fun h => ⟨_, List.mem_singleton.mpr rfl, h⟩
        · rintro ⟨x, hx, h⟩
          obtain rfl := List.mem_singleton.mp hx
          exact h
      clear hps hW4 s4 us
      rintro m σ H' ⟨ws, us, y2, y3, y4, y5, y6, rfl, sm, hw, hps, hfu, hz, hbb, rfl⟩
      rcases lst2 hps with ⟨rfl, rfl⟩ | ⟨ws', x, us', u', rfl, rfl, hx, hps'⟩
      · refine ⟨_, rfl, false, .inl ⟨_, SqL.of hw, rfl⟩, iteF ?_⟩
        have hb0 : b = false := by
          cases b with
          | false => rfl
          | true =>
            obtain ⟨x, hx, _⟩ := hbb.mp rfl
            cases hx
        subst hb0
        exact q H' sm
      · refine ⟨_, rfl, true, .inl ⟨_, SqL.of hw, by simp⟩, iteT ?_⟩
        refine ⟨fun σ' H2 => ∃ (ws2 : List (Q23.T × Nat)) (us : List V) (y2 y3 y4 y5 y6 : Option V), σ' = [some (.ref a), some (.ref W), y2, y3, y4, y5, y6] ∧ Same H H2 ∧ H2 W = some (.lst us) ∧ PrsAt H2 ws2 us ∧ (∀ x ∈ ws2, Full x.1 ∧ x.2 ≤ 13) ∧ psz ws2 ≤ 900000 ∧ (b = true ↔ Bad12 ws2) ∧ psz ws2 < psz (ws' ++ [x]), ?_, ?_⟩
        · rintro σ' H2 ⟨ws2, us, y2, y3, y4, y5, y6, e1, e2, e3, e4, e5, e6, e7, e8⟩
          exact ⟨psz ws2, e8, ws2, us, y2, y3, y4, y5, y6, e1, e2, e3, e4, e5, e6, e7, rfl⟩
        refine ⟨_, rfl, .inl ⟨rfl, _, SqL.of hw⟩, W, _, u', rfl, rfl, hw, by simp, ?_⟩
        rw [List.dropLast_concat]
        have k1 : TupK H' (upd H' W (.lst us')) := tk_lst hw
        have hw1 : upd H' W (.lst us') W = some (.lst us') := upd_same
        have sm1 : Same H (upd H' W (.lst us')) := same_up sm nW
        have hx1 := hx.keep k1
        have hps1 : PrsAt (upd H' W (.lst us')) ws' us' := PrsAt.keep k1 hps'
        generalize upd H' W (.lst us') = H5 at *
        obtain ⟨fx, dx⟩ := hfu x (List.mem_append_right _ List.mem_cons_self)
        obtain ⟨e1, d⟩ := x
        obtain ⟨t, _, rfl, ht, hue, ra, rfl⟩ := hx1
        dsimp only at ht hue fx dx
        refine ⟨t, _, rfl, SqT.of ht, rfl, _, _, rfl, _, _, rfl, rfl, ?_⟩
        rw [psz_app] at hz
        have p1 : psz [(e1, d)] = e1.siz := by
          show sizs [e1] = _
          rw [sizs, sizs, Nat.add_zero]
        refine ⟨_, rfl, _, _, rfl, rfl, _, rfl, ite2 (fun hc => ?_) (fun hc => ?_)⟩
        · have hd : d = 13 := by
            have := of_decide_eq_true hc
            omega
          subst hd
          have hb1 : b = true := hbb.mpr ⟨_, List.mem_append_right _ List.mem_cons_self, fun h => h⟩
          subst hb1
          exact q H5 sm1
        · have hd : d ≤ 12 := by
            have : ¬ ((12 : Int) < (d : Int)) := fun h => hc (decide_eq_true h)
            omega
          obtain ⟨l, hk, hfl⟩ := fx.kids
          have ls := kids_siz hk
          have ll := len_sizs l
          refine ⟨_, rfl, .inl ⟨rfl, _, SqL.of hw1⟩, ?_⟩
          refine ⟨_, rfl, ra, e1, l, rfl, hue, hk, fun H6 t6 us6 s6 ht6 hu6 => ⟨t6, rfl, ⟨_, SqT.of ht6⟩, fun D hD => ?_⟩⟩
          have l6 := hu6.len
          refine lc_it walk_tup (fun i H' => Same H6 H' ∧ ∃ acc, H' D = some (.lst acc) ∧ acc.length = i ∧ PrsAt H' ((l.take i).map fun y => (y, d + 1)) acc) ⟨same_upd hD, [], upd_same, rfl, .nil⟩ (fun i H' _ p => SqT.of (p.1 _ _ ht6)) ?_ ?_
          · rintro i x H7 H8 hi ⟨s7, acc, hD7, la, hpa⟩ ⟨rfl, hx⟩
            replace hx : us6[i]? = some x := hx
            obtain ⟨y, hy, hty⟩ := hu6.getR hx
            obtain ⟨r, rfl⟩ := full_ref (hfl y (List.mem_of_getElem? hy)) hty
            have hi6 : i < l.length := by omega
            refine ⟨rfl, lc_yes ⟨_, rfl, _, rfl, _, _, rfl, rfl, by show 2 ≤ sizeLine; decide, fun t2 ht2 => ?_⟩⟩
            have s8 := same_upd (o := .tup [.ref r, .int ((d : Int) + 1)]) ht2
            have big : 1000001 ≤ sizeLine := by decide
            have hD8 := s8 _ _ hD7
            refine ⟨acc, hD8, by omega, same_up (Same.tr s7 s8) hD, _, upd_same, by rw [List.length_append, la]; rfl, ?_⟩
            rw [List.take_add_one, hy, List.map_append]
            have n1 : D ≠ t2 := ne_of_none hD7 ht2
            refine ((PrsAt.keep (TupK.of s8) hpa).keep (tk_lst hD8)).snoc ⟨t2, .ref r, rfl, ?_, ?_, r, rfl⟩
            · rw [upd_ne (fun z => n1 z.symm)]
              exact upd_same
            · exact (hty.keep (TupK.of (Same.tr s7 s8))).keep (tk_lst hD8)
          · rintro H7 ⟨s7, acc, hD7, la, hpa⟩
            have big : 1000001 ≤ sizeLine := by decide
            have hW7 := s7 _ _ (s6 _ _ hw1)
            rw [show l.take us6.length = l from List.take_of_length_le (by omega)] at hpa
            have tk7 : TupK H5 H7 := TupK.of (Same.tr s6 s7)
            have l5 := hps1.len
            have lz := len_sizs (ws'.map Prod.fst)
            rw [List.length_map] at lz
            have lz2 : ws'.length ≤ psz ws' := lz
            have em : psz (l.map fun y => (y, d + 1)) = sizs l := by
              unfold psz
              rw [List.map_map]
              congr 1
              exact List.map_id l
            refine ⟨W, D, us', acc, rfl, rfl, hW7, hD7, by omega, ws' ++ l.map (fun y => (y, d + 1)), _, _, _, _, _, _, rfl, same_up (Same.tr sm1 (Same.tr s6 s7)) nW, upd_same, ?_, ?_, ?_, ?_, ?_⟩
            · exact PrsAt.keep (tk_lst hW7) ((PrsAt.keep tk7 hps1).app hpa)
            · intro x hx
              rcases List.mem_append.mp hx with hx | hx
              · exact hfu x (List.mem_append_left _ hx)
              · obtain ⟨y, hy, rfl⟩ := List.mem_map.mp hx
                exact ⟨hfl y hy, by show d + 1 ≤ 13; omega⟩
            · rw [psz_app, em]
              omega
            · rw [hbb]
              have ed : 13 - d = (13 - (d + 1)) + 1 := by omega
              constructor
              · rintro ⟨x, hx, hn⟩
                rcases List.mem_append.mp hx with hx | hx
                · exact ⟨x, List.mem_append_left _ hx, hn⟩
                · obtain rfl := List.mem_singleton.mp hx
                  dsimp only at hn
                  rw [ed, dep_succ hk] at hn
                  obtain ⟨y, hy⟩ := Classical.not_forall.mp hn
                  obtain ⟨hy1, hy2⟩ := Classical.not_imp.mp hy
                  exact ⟨(y, d + 1), List.mem_append_right _ (List.mem_map.mpr ⟨y, hy1, rfl⟩), hy2⟩
              · rintro ⟨x, hx, hn⟩
                rcases List.mem_append.mp hx with hx | hx
                · exact ⟨x, List.mem_append_left _ hx, hn⟩
                · obtain ⟨y, hy, rfl⟩ := List.mem_map.mp hx
                  refine ⟨(e1, d), List.mem_append_right _ List.mem_cons_self, fun h => hn ?_⟩
                  dsimp only at h ⊢
                  rw [ed, dep_succ hk] at h
                  exact h y hy
            · rw [psz_app, psz_app, em, p1]
              omega
end
end Q23
namespace Q23
open PySem PySem.Spec PyProof.Rows L2 SX HL
def opW (x : Str) : Int := if x ∈ ([("(" : Str), "[", "case"] : List Str) then 1 else if x ∈ ([(")" : Str), "]", "end"] : List Str) then -1 else 0
def valT : Val → T
  | .s l => .s (S l)
  | .n k => .n (k : Int)
theorem valT_at {H : Hp} (v : Val) : TrAt H (valT v) (vV v) := by
  cases v <;> rfl
/-- the tokens are taken, in n steps -/
inductive Acc : List (Kind × Val × Nat) → Int → Nat → Cf → Cf → Prop
  | nil {pl : Int} {c : Cf} : Acc [] pl 0 c c
  | cons {k : Kind} {v : Val} {pos : Nat} {r : List (Kind × Val × Nat)} {pl : Int} {m n : Nat} {c c1 c2 c3 : Cf} {wd : Str} : wordOf (kindS k) (vV v) = some wd → pl + opW wd ≤ 12 → Stl wd m c c1 → tkn wd (valT v) c1 = some c2 → Acc r (pl + opW wd) n c2 c3 → Acc ((k, v, pos) :: r) pl (m + n) c c3
def Cf.size (c : Cf) : Nat := c.P.length + c.W.length
theorem sst_size {w : Str} {c c1 : Cf} (h : sst w c = some c1) : c1.size ≤ c.size + 20 := by
  obtain ⟨P, W⟩ := c
  cases P with
  | nil => cases h
  | cons x p =>
    unfold sst at h
    dsimp only at h
    cases e : gram.lookup x with
    | some rows =>
      rw [e] at h
      dsimp only at h
      cases e2 : prodRows w rows with
      | none => rw [e2] at h; cases h
      | some row =>
        rw [e2] at h
        obtain rfl := Option.some.inj h
        have := row_short e e2
        show (row ++ p).length + W.length ≤ (x :: p).length + W.length + 20
        rw [List.length_append, List.length_cons]
        omega
    | none =>
      rw [e] at h
      dsimp only at h
      split at h
      · cases e2 : bld x W with
        | none => rw [e2] at h; cases h
        | some W' =>
          rw [e2] at h
          obtain rfl := Option.some.inj h
          have := bld_len e2
          show p.length + W'.length ≤ (x :: p).length + W.length + 20
          rw [List.length_cons]
          omega
      · cases h
theorem stl_size {w : Str} {n : Nat} {c c2 : Cf} (h : Stl w n c c2) : c2.size ≤ c.size + 20 * n := by
  induction h with
  | stop _ => omega
  | step h1 _ ih =>
    have := sst_size h1
    omega
theorem tkn_size {w : Str} {tv : T} {c c2 : Cf} (h : tkn w tv c = some c2) : c2.size ≤ c.size := by
  obtain ⟨P, W⟩ := c
  cases P with
  | nil => cases h
  | cons t p =>
    unfold tkn at h
    dsimp only at h
    split at h
    · obtain rfl := Option.some.inj h
      show p.length + (if t ∈ withV then tv :: W else W).length ≤ (t :: p).length + W.length
      rw [List.length_cons]
      split
      · rw [List.length_cons]; omega
      · omega
    · cases h
def start : Cf := ⟨["<definition>"], []⟩
section
variable {P : Program} {w : World} {K : PySem.W.Frag} {mg : Str → Option Value} {base : Heap}
/-! ### parse -/
def spParse (C : Addr) : Sp := fun vs H Q E => ∃ (t : List Nat) (L : List (Kind × Val × Nat)) (n m : Nat) (c1 : Cf) (nm : Str) (e : T) (b : Bool), vs = [.str (S t)] ∧ t.length ≤ 1000000 ∧ Toks kws dv 0 t L ∧ L.length ≤ 200 ∧ Acc L 0 n start c1 ∧ Stl "END" m c1 ⟨[], [.t [.s "view", .s nm, e]]⟩ ∧ 1 + 20 * (n + m) ≤ 900000 ∧
  Full e ∧ e.siz ≤ 900000 ∧ (b = true ↔ ¬ DepLe 12 e) ∧ (b = false → ∀ H' u, Same H H' → TrAt H' (.t [.s "view", .s nm, e]) u → Q u H') ∧
  (b = true → ∀ d H', Same H H' → H d = none → H' d = some (.xd [("position", .int (t.length : Int))]) → E (.ref C) (some d) H')
theorem ok_parse {k : Nat} (Z : Defs K mg) (R : Rest P w K mg Z) : FnOk P w K mg base (L2.CX P w) (k + 6) Z.fParse Z.fdParse ["chunk"] (spParse Z.aC) := by
  have T := R.T
  have DTokenize := Z.DTokenize
  have GTokenize : FnOk P w K mg base (L2.CX P w) (k + 5) Z.fTokenize Z.fdTokenize ["chunk"] (spTokenize Z.aC) := ok_tokenize (k := k + 1) Z.DTokenize T Z.DTokenAt Z.DEndOfRun Z.DWordAt Z.DNumberAt Z.DTextAt Z.DSignAt
  have DWordOf := Z.DWordOf
  have GWordOf : FnOk P w K mg base CX0 (k + 1) Z.fWordOf Z.fdWordOf ["kind", "value"] spWordOf := ok_word_of Z R
  have DOpenedBy := Z.DOpenedBy
  have GOpenedBy : FnOk P w K mg base CX0 (k + 1) Z.fOpenedBy Z.fdOpenedBy ["word"] spOpen := ok_opened Z R
  have DTakes := Z.DTakes
  have GTakes : FnOk P w K mg base CX0 (k + 5) Z.fTakes Z.fdTakes ["pending", "values", "word", "value"] spTakes := ok_takes Z R
  have DSettle := Z.DSettle
  have GSettle : FnOk P w K mg base CX0 (k + 4) Z.fSettle Z.fdSettle ["pending", "values", "word"] spSettle := ok_settle Z R
  have DGoesTooDeep := Z.DGoesTooDeep
  have GGoesTooDeep : FnOk P w K mg base CX0 (k + 2) Z.fGoesTooDeep Z.fdGoesTooDeep ["definition"] spDeep := ok_deep Z R
  refine Z.DParse.F.okX scParse (fun vs H Q E h => ?_) (fun cdv A outer s H vs Q E hr h => ?_)
  · obtain ⟨t, L, n, m, c1, nm, e, b, rfl, _⟩ := h
    rfl
  · obtain ⟨t, L, n, m, c1, nm, e, b, rfl, hl, htk, hL, hacc, hst, hz, hf, hsz, hb, q1, q2⟩ := h
    refine ⟨_, (pss_cons (ps_set (i := 1) scParse.nd rfl (.inl rfl) (pe_lst (pa_cons pe_str pa_nil)))
        (pss_cons (ps_set (i := 2) scParse.nd rfl (.inl rfl) (pe_lst pa_nil))
        (pss_cons (ps_set (i := 3) scParse.nd rfl (.inl rfl) pe_int)
        (pss_cons (ps_for (passes_of rfl) rfl (pi_enum (by rfl) T.enumerate (pa_cons (pe_call GTokenize (hr.mono (by omega)) (by rfl) DTokenize.g DTokenize.F.kp DTokenize.b .nil (passes_call (takes_of rfl rfl rfl rfl) (fun _ _ _ _ h => h)) (pa_cons (pv 0) pa_nil)) pa_nil)) (pg_tup rfl (pgs_cons (pg_name (i := 4) scParse.nd rfl (.inl rfl)) (pgs_cons (pg_tup rfl (pgs_cons (pg_name (i := 5) scParse.nd rfl (.inl rfl)) (pgs_cons (pg_name (i := 6) scParse.nd rfl (.inl rfl)) (pgs_cons (pg_name (i := 7) scParse.nd rfl (.inl rfl)) pgs_nil)))) pgs_nil))) (pss_cons (ps_set (i := 8) scParse.nd rfl (.inl rfl) (pe_call GWordOf (hr.mono (by omega)) (by rfl) DWordOf.g DWordOf.F.kp DWordOf.b .nil pass0 (pa_cons (pv 5) (pa_cons (pv 6) pa_nil))))
        (pss_cons (ps_aug (i := 3) scParse.nd rfl (.inl rfl) (pe_call GOpenedBy (hr.mono (by omega)) (by rfl) DOpenedBy.g DOpenedBy.F.kp DOpenedBy.b .nil pass0 (pa_cons (pv 8) pa_nil)) ip_add)
        (pss_one (ps_if (PW.pt (pw_or (pt_cmpR op_eq (pv 4) (pe_gint rfl Z.kMOST_TOKENS) (nomark _)) (pw_or (pt_cmpR op_gt (pv 3) (pe_gint rfl Z.kMOST_OPEN) (nomark _)) (pw_or1 (pt_not (pt_val (pe_call GTakes (hr.mono (by omega)) (by rfl) DTakes.g DTakes.F.kp DTakes.b .nil pass0 (pa_cons (pv 1) (pa_cons (pv 2) (pa_cons (pv 8) (pa_cons (pv 6) pa_nil))))))))))) (pss_one (ps_raiseRC rfl T.rc hr (takes_of rfl rfl rfl rfl) (pa_cons (pv 7) pa_nil))) pss_nil)))))
        (pss_cons (ps_expr (pe_call GSettle (hr.mono (by omega)) (by rfl) DSettle.g DSettle.F.kp DSettle.b .nil pass0 (pa_cons (pv 1) (pa_cons (pv 2) (pa_cons (pe_gstr rfl Z.kEND_OF_CHUNK) pa_nil)))))
        (pss_cons (ps_if (PW.pt (pw_or (pt_truth (pv 1) (by intro _; rfl)) (pw_or1 (pt_val (pe_call GGoesTooDeep (hr.mono (by omega)) (by rfl) DGoesTooDeep.g DGoesTooDeep.F.kp DGoesTooDeep.b .nil pass0 (pa_cons (pe_ix ix_list (pv 2) pe_int (fun _ _ => rfl)) pa_nil)))))) (pss_one (ps_raiseRC rfl T.rc hr (takes_of rfl rfl rfl rfl) (pa_cons (pe_callB call_len_str (by rfl) T.len PySem.boot_len (pa_cons (pv 0) pa_nil)) pa_nil))) pss_nil)
        (pss_one (ps_ret (pe_ix ix_list (pv 2) pe_int (fun _ _ => rfl)))))))))), ?_⟩
    have hts : (S t).length ≤ sizeLine := by rw [S_len]; exact small _ hl
    refine ⟨by show 1 ≤ sizeLine; decide, fun p hp => ⟨Nat.zero_le _, fun v hv => ?_⟩⟩
    have hvp : H p = none ∧ p ≠ v := ⟨hp, fun e => by rw [← e, upd_same] at hv; cases hv⟩
    obtain ⟨_, hpv⟩ := hvp
    have hv0 : H v = none := by rw [upd_ne (fun e => hpv e.symm)] at hv; exact hv
    have sH : Same H (upd (upd H p (.lst [.str "<definition>"])) v (.lst [])) := Same.tr (same_upd hp) (same_upd hv)
    have h0p : upd (upd H p (.lst [.str "<definition>"])) v (.lst []) p = some (.lst (pst start.P)) := by rw [upd_ne hpv]; exact upd_same
    have h0v : upd (upd H p (.lst [.str "<definition>"])) v (.lst []) v = some (.lst []) := upd_same
    refine ⟨_, rfl, t, rfl, hl, .inl ⟨L, htk, fun q H1 ps s1 hq hrows => ?_⟩⟩
    have sH1 := Same.tr sH s1
    have h1p := s1 _ _ h0p
    have h1v := s1 _ _ h0v
    have lpos : 0 < L.length := by
      cases L with
      | cons _ _ => exact Nat.zero_lt_succ _
      | nil =>
        exfalso
        cases hacc
        have e0 : sst "END" start = none := by decide +kernel
        have := hst.non e0
        cases this
    have lps : ps.length = L.length := hrows.1
    have nqp : q ≠ p := fun e => by
      rw [e, h1p] at hq
      have e2 := HO.lst.inj (Option.some.inj hq)
      cases ps with
      | nil => cases e2
      | cons a r => cases e2
    have nqv : q ≠ v := fun e => by
      rw [e, h1v] at hq
      have e2 := HO.lst.inj (Option.some.inj hq)
      cases ps with
      | nil => rw [List.length_nil] at lps; omega
      | cons a r => cases e2
    refine ⟨q, _, rfl, SqL.of hq, ?_⟩
    refine for_it walk_enum (fun i σ H' => ∃ (pl : Int) (n' : Nat) (c : Cf) (us : List V) (y4 y5 y6 y7 y8 : Option V), σ = [some (.str (S t)), some (.ref p), some (.ref v), some (.int pl), y4, y5, y6, y7, y8] ∧ Kept2 H1 H' p v ∧ H' p = some (.lst (pst c.P)) ∧ H' v = some (.lst us) ∧ WAt H' c.W.reverse us ∧ Acc (L.drop i) pl n' c c1 ∧ c.size + 20 * (n' + m) ≤ 900000)
      ⟨0, n, start, [], none, none, none, none, none, rfl, Kept2.refl, h1p, h1v, .nil, hacc, hz, ⟩ (fun i σ H' _ ⟨_, _, _, _, _, _, _, _, _, _, k', _⟩ => SqL.of (k' _ _ nqp nqv hq)) ?_ ?_
    · rintro i x σ H2 H2' hi ⟨pl, n', c, us, y4, y5, y6, y7, y8, rfl, k2, hp2, hv2, hW2, ha2, hz2⟩ ⟨T0, x1, x2, rfl, hT, rfl, e1, e2⟩
      obtain rfl : V.int (i : Nat) = x1 := Option.some.inj e1
      replace e2 : (ps.map V.ref)[i]? = some x2 := e2
      have hi2 : i < ps.length := by rw [List.length_map] at hi; exact hi
      have hi3 : i < L.length := by omega
      rw [List.drop_eq_getElem_cons hi3] at ha2
      have eL : L[i]? = some L[i] := List.getElem?_eq_getElem hi3
      generalize L[i] = tok at ha2 eL
      obtain ⟨kd, vl, pos⟩ := tok
      obtain ⟨ra, hra, hrw⟩ := hrows.2 i kd vl pos eL
      rw [List.getElem?_map, hra] at e2
      obtain rfl := Option.some.inj e2
      have sT : Same H2 (upd H2 T0 (.tup [.int (i : Nat), .ref ra])) := same_upd hT
      have gT : upd H2 T0 (.tup [.int (i : Nat), .ref ra]) T0 = some (.tup [.int (i : Nat), .ref ra]) := upd_same
      generalize upd H2 T0 (.tup [.int (i : Nat), .ref ra]) = H3 at gT sT
      have hr3 : H3 ra = some (.tup [.str (kindS kd), vV vl, .int (pos : Int)]) := sT _ _ (k2 _ _ (fun e => by rw [e, h1p] at hrw; cases hrw) (fun e => by rw [e, h1v] at hrw; cases hrw) hrw)
      cases ha2 with
      | @cons _ _ _ _ _ m' n'' _ c4 c5 _ wd hwd hpl hst' htk' hacc' =>
      refine ⟨T0, _, rfl, SqT.of gT, rfl, _, _, rfl, _, _, rfl, ra, _, rfl, SqT.of hr3, rfl, _, _, rfl, _, _, rfl, _, _, rfl, rfl, rfl, ?_⟩
      have kl : (kindS kd).length ≤ 1000 := by cases kd <;> decide +kernel
      refine ⟨_, rfl, _, rfl, kindS kd, vV vl, wd, rfl, hwd, kl, fun H4 s4 => ?_⟩
      refine ⟨_, rfl, _, rfl, wd, rfl, pl, opW wd, rfl, rfl, ?_⟩
      have k24 : Kept2 H2 H4 p v := Kept2.same (Same.tr sT s4)
      have hp4 := s4 _ _ (sT _ _ hp2)
      have hv4 := s4 _ _ (sT _ _ hv2)
      have hW4 := tkl k24 hp2 hv2 hW2
      have z1 := stl_size hst'
      have z2 := tkn_size htk'
      have hc4 : c.P.length + c.W.length + 20 * m' ≤ 900000 := by
        have : c.size = c.P.length + c.W.length := rfl
        omega
      have hc5 : c4.P.length + c4.W.length ≤ 900000 := by
        have : c4.size = c4.P.length + c4.W.length := rfl
        omega
      refine ⟨_, rfl, rfl, _, rfl, HL.iteNo (by
        have : ¬ (V.int (i : Nat) = V.int 200) := fun e => by
          have := V.int.inj e
          omega
        simp [this]) ⟨_, rfl, _, _, rfl, rfl, _, rfl, HL.iteNo (by
        have : ¬ ((12 : Int) < pl + opW wd) := by omega
        simp [this]) ?_⟩⟩
      refine ⟨_, rfl, _, rfl, _, rfl, _, rfl, p, v, wd, vV vl, valT vl, us, c, c4, m', rfl, hpv, hp4, hv4, hW4, valT_at vl, hst', hc4, hc5, fun e => (by rw [htk'] at e; cases e), fun c6 e6 H5 us5 k5 h5p h5v hW5 => ?_⟩
      rw [htk'] at e6
      obtain rfl := Option.some.inj e6
      refine ⟨true, rfl, iteF ?_⟩
      exact ⟨_, n'', c5, us5, _, _, _, _, _, rfl, (k2.tr k24).tr k5, h5p, h5v, hW5, hacc', by omega⟩
    · rintro σ H2 ⟨pl, n', c, us, y4, y5, y6, y7, y8, rfl, k2, hp2, hv2, hW2, ha2, hz2⟩
      rw [List.length_map, lps, List.drop_length] at ha2
      cases ha2
      have hc2 : c1.P.length + c1.W.length + 20 * m ≤ 900000 := by
        have : c1.size = c1.P.length + c1.W.length := rfl
        omega
      refine ⟨_, rfl, _, rfl, p, v, "END", us, c1, _, m, rfl, hpv, hp2, hv2, hW2, hst, hc2, fun H6 us6 k6 h6p h6v hW6 => ?_⟩
      obtain ⟨u, rfl, hu⟩ : ∃ u, us6 = [u] ∧ TrAt H6 (.t [.s "view", .s nm, e]) u := by
        cases hW6 with
        | cons g1 r1 =>
          cases r1
          exact ⟨_, rfl, g1⟩
      obtain ⟨a, vus, rfl, ha, hvus⟩ := hu
      obtain ⟨ue, rfl, hue⟩ : ∃ ue, vus = [.str "view", .str nm, ue] ∧ TrAt H6 e ue := by
        have h := hvus.all
        cases h with
        | cons g1 r1 =>
          cases r1 with
          | cons g2 r2 =>
            cases r2 with
            | cons g3 r3 =>
              cases r3
              obtain rfl := g1
              obtain rfl := g2
              exact ⟨_, rfl, g3⟩
      have kk := k2.tr k6
      have same7 : ∀ {H7 : Hp}, Same H6 H7 → Same H H7 := fun s7 b o hb => s7 b o (kk b o (ne_of_none hb hp) (ne_of_none hb hv0) (sH1 b o hb))
      refine ⟨_, rfl, false, .inl ⟨_, SqL.of h6p, rfl⟩, iteF ?_⟩
      refine ⟨_, rfl, v, _, 0, .ref a, rfl, rfl, SqL.of h6v, rfl, a, nm, ue, e, b, rfl, ha, hue, hf, hsz, hb, fun H7 s7 => ⟨b, rfl, ?_⟩⟩
      cases b with
      | true =>
        refine iteT ⟨_, rfl, S t, rfl, hts, (t.length : Int), ?_, pos_small _ hl, fun d hd => ?_⟩
        · rw [S_len]
        · have s67 := same7 s7
          exact q2 rfl d _ (Same.tr s67 (same_upd hd)) (s67.free hd) upd_same
      | false =>
        refine iteF ?_
        refine ⟨_, rfl, v, _, 0, .ref a, rfl, rfl, SqL.of (s7 _ _ h6v), rfl, ?_⟩
        exact q1 rfl H7 _ (same7 s7) ⟨a, _, rfl, s7 _ _ ha, TrsAt.keep (TupK.of s7) (TrsAt.of (.cons rfl (.cons rfl (.cons hue .nil))))⟩
end
end Q23
namespace Q23
open PySem PySem.Spec PyProof.Rows L2 SX HL
/-! ## the parser on tokens -/
abbrev Tk := Str × T
def la : List Tk → Str
  | [] => "END"
  | t :: _ => t.1
/-- from one place to another, the tokens before it -/
inductive R : Nat → Cf → List Tk → Cf → List Tk → Prop
  | refl {c : Cf} {ts : List Tk} : R 0 c ts c ts
  | s {n : Nat} {c c1 c2 : Cf} {ts ts2 : List Tk} : sst (la ts) c = some c1 → R n c1 ts c2 ts2 → R (n + 1) c ts c2 ts2
  | t {n : Nat} {c c1 c2 : Cf} {wd : Str} {tv : T} {ts ts2 : List Tk} : Halt wd c → tkn wd tv c = some c1 → R n c1 ts c2 ts2 → R n c ((wd, tv) :: ts) c2 ts2
theorem R.tr {n m : Nat} {c c1 c2 : Cf} {ts ts1 ts2 : List Tk} (h : R n c ts c1 ts1) (h2 : R m c1 ts1 c2 ts2) : R (n + m) c ts c2 ts2 := by
  induction h with
  | refl => rw [Nat.zero_add]; exact h2
  | s e _ ih =>
    rw [Nat.add_right_comm]
    exact .s e (ih h2)
  | t e1 e2 _ ih => exact .t e1 e2 (ih h2)
def pr (x w : Str) : Option (List Str) := (gram.lookup x).bind (prodRows w)
theorem sst_row {w x : Str} {r p : List Str} {W : List T} (h : pr x w = some r) : sst w ⟨x :: p, W⟩ = some ⟨r ++ p, W⟩ := by
  unfold pr at h
  unfold sst
  dsimp only
  cases e : gram.lookup x with
  | none => rw [e] at h; cases h
  | some rows =>
    rw [e] at h
    have h : prodRows w rows = some r := h
    show (prodRows w rows).map _ = _
    rw [h]
    rfl
theorem sst_act {w x : Str} {p : List Str} {W W' : List T} (h1 : gram.lookup x = none) (h2 : bang x = true) (h3 : bld x W = some W') : sst w ⟨x :: p, W⟩ = some ⟨p, W'⟩ := by
  unfold sst
  dsimp only
  rw [h1]
  show (if bang x = true then (bld x W).map _ else none) = _
  rw [if_pos h2, h3]
  rfl
theorem R.row {n : Nat} {x : Str} {r p : List Str} {W : List T} {c2 : Cf} {ts ts2 : List Tk} (h : pr x (la ts) = some r) (h2 : R n ⟨r ++ p, W⟩ ts c2 ts2) : R (n + 1) ⟨x :: p, W⟩ ts c2 ts2 := .s (sst_row h) h2
theorem R.act {n : Nat} {x : Str} {p : List Str} {W W' : List T} {c2 : Cf} {ts ts2 : List Tk} (h1 : gram.lookup x = none) (h2 : bang x = true) (h3 : bld x W = some W') (h : R n ⟨p, W'⟩ ts c2 ts2) : R (n + 1) ⟨x :: p, W⟩ ts c2 ts2 := .s (sst_act h1 h2 h3) h
theorem R.take {n : Nat} {x wd : Str} {tv : T} {p : List Str} {W : List T} {c2 : Cf} {ts ts2 : List Tk} (h1 : gram.lookup x = none) (h2 : bang x = false) (h3 : x ∈ ([("TAKE" : Str), wd] : List Str)) (h4 : x ∈ withV) (h : R n ⟨p, tv :: W⟩ ts c2 ts2) : R n ⟨x :: p, W⟩ ((wd, tv) :: ts) c2 ts2 := by
  refine .t ?_ ?_ h
  · unfold Halt
    dsimp only
    rw [h1]
    exact h2
  · unfold tkn
    dsimp only
    rw [if_pos h3, if_pos h4]
theorem R.skip {n : Nat} {x : Str} {tv : T} {p : List Str} {W : List T} {c2 : Cf} {ts ts2 : List Tk} (h1 : gram.lookup x = none) (h2 : bang x = false) (h4 : x ∉ withV) (h : R n ⟨p, W⟩ ts c2 ts2) : R n ⟨x :: p, W⟩ ((x, tv) :: ts) c2 ts2 := by
  refine .t ?_ ?_ h
  · unfold Halt
    dsimp only
    rw [h1]
    exact h2
  · unfold tkn
    dsimp only
    rw [if_pos (List.mem_cons_of_mem _ List.mem_cons_self), if_neg h4]
theorem bld_binary {a o b : T} {W : List T} : bld "!binary" (b :: o :: a :: W) = some (.t [.s "binary", o, a, b] :: W) := by
  unfold bld
  rw [show trees.lookup ("!binary" : Str) = none by decide +kernel]
  unfold bldS
  rw [if_neg (by decide +kernel), if_neg (by decide +kernel), if_neg (by decide +kernel), if_neg (by decide +kernel), if_pos rfl]
theorem bld_tree {x tag : Str} {n : Nat} {W : List T} (h : trees.lookup x = some (n : Int)) (hl : n ≤ W.length) (ht : cutS x (some 1) none = tag) : bld x W = some (.t (.s tag :: (W.take n).reverse) :: W.drop n) := by
  unfold bld
  rw [h]
  dsimp only
  rw [Int.toNat_natCast, if_pos hl, ht]
/-! ### what expressions are -/
def binT (o : Str) (a b : T) : T := .t [.s "binary", .s o, a, b]
def consT (a b : T) : T := .t [.s "cons", a, b]
def notT (a : T) : T := .t [.s "not", a]
def ops (m : Str) : List Str := if m = "<more-product>" then ["*", "/", "mod"] else if m = "<more-sum>" then ["+", "-", "++"] else if m = "<more-and>" then ["and"] else ["or"]
def kw (z : Str) : Tk := (z, .s z)
def numT (k : Int) : Tk := ("NUMBER", .n k)
def nameT (z : Str) : Tk := ("NAME", .s z)
def mores : List Str := ["<more-product>", "<more-sum>", "<more-and>", "<more-or>"]
inductive G : Str → Option T → List Tk → T → Prop
  | num (k : Int) : G "<primary>" none [numT k] (.t [.s "number", .n k])
  | name (z : Str) : G "<primary>" none [nameT z] (.t [.s "name", .s z])
  | par {ts : List Tk} {v : T} : G "<expression>" none ts v → G "<primary>" none (kw "(" :: (ts ++ [kw ")"])) v
  | nil {m : Str} {a : T} : m ∈ mores → G m (some a) [] a
  | more {m sub : Str} {a b v : T} {o : Str} {ts ts' : List Tk} : (m, sub) ∈ ([("<more-product>", "<primary>"), ("<more-sum>", "<product>"), ("<more-and>", "<not>"), ("<more-or>", "<and>")] : List (Str × Str)) → o ∈ ops m → G sub none ts b → G m (some (binT o a b)) ts' v → G m (some a) (kw o :: (ts ++ ts')) v
  | left {x sub m : Str} {a v : T} {ts ts' : List Tk} : (x, sub, m) ∈ ([("<product>", "<primary>", "<more-product>"), ("<sum>", "<product>", "<more-sum>"), ("<and>", "<not>", "<more-and>"), ("<or>", "<and>", "<more-or>")] : List (Str × Str × Str)) → G sub none ts a → G m (some a) ts' v → G x none (ts ++ ts') v
  | cons1 {ts : List Tk} {v : T} : G "<sum>" none ts v → G "<cons>" none ts v
  | cons2 {ts ts' : List Tk} {a b : T} : G "<sum>" none ts a → G "<cons>" none ts' b → G "<cons>" none (ts ++ kw "::" :: ts') (consT a b)
  | cmp1 {ts : List Tk} {v : T} : G "<cons>" none ts v → G "<not>" none ts v
  | cmp2 {ts ts' : List Tk} {a b : T} {o : Str} : o ∈ ([("=" : Str), "<"] : List Str) → G "<cons>" none ts a → G "<cons>" none ts' b → G "<not>" none (ts ++ kw o :: ts') (binT o a b)
  | neg {ts : List Tk} {v : T} : G "<not>" none ts v → G "<not>" none (kw "not" :: ts) (notT v)
  | expr {ts : List Tk} {v : T} : G "<or>" none ts v → G "<expression>" none ts v
/-- what may follow -/
def fol (x : Str) : List Str :=
  let e : List Str := ["END", ")"]
  if x = "<expression>" ∨ x = "<or>" ∨ x = "<more-or>" then e
  else if x = "<and>" ∨ x = "<more-and>" then "or" :: e
  else if x = "<not>" then "and" :: "or" :: e
  else if x = "<cons>" then "=" :: "<" :: "and" :: "or" :: e
  else if x = "<sum>" ∨ x = "<more-sum>" then "::" :: "=" :: "<" :: "and" :: "or" :: e
  else if x = "<product>" ∨ x = "<more-product>" then "+" :: "-" :: "++" :: "::" :: "=" :: "<" :: "and" :: "or" :: e
  else "*" :: "/" :: "mod" :: "+" :: "-" :: "++" :: "::" :: "=" :: "<" :: "and" :: "or" :: e
def lv (x : Str) : Nat := if x = "<primary>" then 0 else if x = "<product>" then 1 else if x = "<sum>" then 2 else if x = "<cons>" then 3 else if x = "<not>" then 4 else if x = "<and>" then 5 else if x = "<or>" then 6 else 7
/-- what an expression begins with -/
def fst4 : List Str := ["not", "NAME", "NUMBER", "("]
theorem G.first {x : Str} {ts : List Tk} {v : T} (h : G x none ts v) : ts ≠ [] ∧ ∀ rest, la (ts ++ rest) ∈ fst4 ∧ (x ∉ ([("<not>" : Str), "<and>", "<or>", "<expression>"] : List Str) → la (ts ++ rest) ≠ "not") := by
  generalize eo : (none : Option T) = o at h
  induction h with
  | num k => exact ⟨by simp, fun rest => ⟨by show ("NUMBER" : Str) ∈ fst4; decide +kernel, fun _ => by show ("NUMBER" : Str) ≠ "not"; decide +kernel⟩⟩
  | name z => exact ⟨by simp, fun rest => ⟨by show ("NAME" : Str) ∈ fst4; decide +kernel, fun _ => by show ("NAME" : Str) ≠ "not"; decide +kernel⟩⟩
  | par _ _ => exact ⟨by simp, fun rest => ⟨by show ("(" : Str) ∈ fst4; decide +kernel, fun _ => by show ("(" : Str) ≠ "not"; decide +kernel⟩⟩
  | nil _ => cases eo
  | more _ _ _ _ _ _ => cases eo
  | left hm _ _ ih _ =>
    obtain ⟨h1, h2⟩ := ih rfl
    refine ⟨by simp [h1], fun rest => ?_⟩
    rw [List.append_assoc]
    obtain ⟨h3, h4⟩ := h2 (_ ++ rest)
    refine ⟨h3, fun hx => h4 ?_⟩
    revert hx
    simp only [List.mem_cons, Prod.mk.injEq, List.not_mem_nil, or_false] at hm
    rcases hm with ⟨rfl, rfl, rfl⟩ | ⟨rfl, rfl, rfl⟩ | ⟨rfl, rfl, rfl⟩ | ⟨rfl, rfl, rfl⟩ <;> decide +kernel
  | cons1 _ ih =>
    obtain ⟨h1, h2⟩ := ih rfl
    exact ⟨h1, fun rest => ⟨(h2 rest).1, fun _ => (h2 rest).2 (by decide +kernel)⟩⟩
  | cons2 _ _ ih _ =>
    obtain ⟨h1, h2⟩ := ih rfl
    refine ⟨by simp, fun rest => ?_⟩
    rw [List.append_assoc]
    exact ⟨(h2 _).1, fun _ => (h2 _).2 (by decide +kernel)⟩
  | cmp1 _ ih =>
    obtain ⟨h1, h2⟩ := ih rfl
    exact ⟨h1, fun rest => ⟨(h2 rest).1, fun hx => absurd hx (by decide +kernel)⟩⟩
  | cmp2 _ _ _ ih _ =>
    obtain ⟨h1, h2⟩ := ih rfl
    refine ⟨by simp, fun rest => ?_⟩
    rw [List.append_assoc]
    exact ⟨(h2 _).1, fun hx => absurd hx (by decide +kernel)⟩
  | neg _ _ => exact ⟨by simp, fun rest => ⟨by show ("not" : Str) ∈ fst4; decide +kernel, fun hx => absurd hx (by decide +kernel)⟩⟩
  | expr _ ih =>
    obtain ⟨h1, h2⟩ := ih rfl
    exact ⟨h1, fun rest => ⟨(h2 rest).1, fun hx => absurd hx (by decide +kernel)⟩⟩
theorem G.mhead {m : Str} {a : T} {ts : List Tk} {v : T} (h : G m (some a) ts v) : m ∈ mores ∧ (ts = [] ∨ ∃ o r, o ∈ ops m ∧ ts = kw o :: r) := by
  cases h with
  | nil hm => exact ⟨hm, .inl rfl⟩
  | more hm ho _ _ =>
    refine ⟨?_, .inr ⟨_, _, ho, rfl⟩⟩
    simp only [List.mem_cons, Prod.mk.injEq, List.not_mem_nil, or_false] at hm
    rcases hm with ⟨rfl, rfl⟩ | ⟨rfl, rfl⟩ | ⟨rfl, rfl⟩ | ⟨rfl, rfl⟩ <;> decide +kernel
def Goes (x : Str) (o : Option T) (ts : List Tk) (v : T) : Prop := ∀ (P : List Str) (W : List T) (rest : List Tk), la rest ∈ fol x → match o with
  | none => ∃ n, n + 60 ≤ 100 * ts.length + 4 * lv x ∧ R n ⟨x :: P, W⟩ (ts ++ rest) ⟨P, v :: W⟩ rest
  | some a => ∃ n, n ≤ 100 * ts.length + 1 ∧ R n ⟨x :: P, a :: W⟩ (ts ++ rest) ⟨P, v :: W⟩ rest
theorem pr_call : ∀ w ∈ fol "<primary>", pr "<call>" w = some (["!name"] : List Str) := by decide +kernel
theorem pr_nil : ∀ m ∈ mores, ∀ w ∈ fol m, pr m w = some ([] : List Str) := by decide +kernel
def msub : List (Str × Str) := [("<more-product>", "<primary>"), ("<more-sum>", "<product>"), ("<more-and>", "<not>"), ("<more-or>", "<and>")]
theorem pr_more : ∀ p ∈ msub, (∀ o ∈ ops p.1, pr p.1 o = some (["TAKE", p.2, "!binary", p.1] : List Str) ∧ o ∈ fol p.2) ∧ (∀ w ∈ fol p.1, w ∈ fol p.2) ∧ lv p.2 ≤ 6 := by decide +kernel
def xsub : List (Str × Str × Str) := [("<product>", "<primary>", "<more-product>"), ("<sum>", "<product>", "<more-sum>"), ("<and>", "<not>", "<more-and>"), ("<or>", "<and>", "<more-or>")]
theorem pr_left : ∀ p ∈ xsub, (∀ w ∈ fst4, pr p.1 w = some ([p.2.1, p.2.2] : List Str)) ∧ (∀ o ∈ ops p.2.2, o ∈ fol p.2.1) ∧ (∀ w ∈ fol p.1, w ∈ fol p.2.1 ∧ w ∈ fol p.2.2) ∧ lv p.2.1 + 1 ≤ lv p.1 := by decide +kernel
theorem pr_tail : (∀ w ∈ fst4, pr "<cons>" w = some (["<sum>", "<tail>"] : List Str)) ∧ (∀ w ∈ fol "<cons>", pr "<tail>" w = some ([] : List Str) ∧ w ∈ fol "<sum>") ∧ pr "<tail>" "::" = some (["::", "<cons>", "!cons"] : List Str) ∧ ("::" : Str) ∈ fol "<sum>" := by decide +kernel
theorem pr_cmp : (∀ w ∈ fst4, w ≠ "not" → pr "<not>" w = some (["<cons>", "<comparison>"] : List Str)) ∧ (∀ w ∈ fol "<not>", pr "<comparison>" w = some ([] : List Str) ∧ w ∈ fol "<cons>") ∧ (∀ o ∈ ([("=" : Str), "<"] : List Str), pr "<comparison>" o = some (["TAKE", "<cons>", "!binary"] : List Str) ∧ o ∈ fol "<cons>") ∧ pr "<not>" "not" = some (["not", "<not>", "!not"] : List Str) := by decide +kernel
theorem pr_expr : (∀ w ∈ fst4, pr "<expression>" w = some (["<or>"] : List Str)) ∧ pr "<primary>" "NUMBER" = some (["NUMBER", "!number"] : List Str) ∧ pr "<primary>" "NAME" = some (["NAME", "<call>"] : List Str) ∧ pr "<primary>" "(" = some (["(", "<expression>", ")"] : List Str) := by decide +kernel
theorem lk_none : ∀ z ∈ ([("TAKE" : Str), "NUMBER", "NAME", "(", ")", "::", "not", "!number", "!name", "!binary", "!cons", "!not"] : List Str), gram.lookup z = none := by decide +kernel
theorem lk {z : Str} (h : z ∈ ([("TAKE" : Str), "NUMBER", "NAME", "(", ")", "::", "not", "!number", "!name", "!binary", "!cons", "!not"] : List Str) := by decide +kernel) : gram.lookup z = none := lk_none z h
theorem G.run {x : Str} {o : Option T} {ts : List Tk} {v : T} (h : G x o ts v) : Goes x o ts v := by
  induction h with
  | num k =>
    intro P W rest hr
    refine ⟨2, by show 2 + 60 ≤ 100 * 1 + _; omega, ?_⟩
    refine R.row (r := ["NUMBER", "!number"]) pr_expr.2.1 (R.take lk (by decide +kernel) (by decide +kernel) (by decide +kernel) ?_)
    exact R.act lk (by decide +kernel) (bld_tree (tag := "number") (n := 1) (by decide +kernel) (by simp) (by decide +kernel)) .refl
  | name z =>
    intro P W rest hr
    refine ⟨3, by show 3 + 60 ≤ 100 * 1 + _; omega, ?_⟩
    refine R.row (r := ["NAME", "<call>"]) pr_expr.2.2.1 (R.take lk (by decide +kernel) (by decide +kernel) (by decide +kernel) ?_)
    refine R.row (r := ["!name"]) (pr_call _ hr) ?_
    exact R.act lk (by decide +kernel) (bld_tree (tag := "name") (n := 1) (by decide +kernel) (by simp) (by decide +kernel)) .refl
  | @par ts v _ ih =>
    intro P W rest hr
    obtain ⟨n, hn, hR⟩ := ih (")" :: P) W (kw ")" :: rest) (by show (")" : Str) ∈ fol "<expression>"; decide +kernel)
    have l7 : lv "<expression>" = 7 := by decide +kernel
    rw [l7] at hn
    refine ⟨n + 1, by rw [List.length_cons, List.length_append]; show n + 1 + 60 ≤ 100 * (ts.length + 1 + 1) + _; omega, ?_⟩
    refine R.row (r := ["(", "<expression>", ")"]) pr_expr.2.2.2 (R.skip lk (by decide +kernel) (by decide +kernel) ?_)
    show R n ⟨_, W⟩ ((ts ++ [kw ")"]) ++ rest) ⟨P, v :: W⟩ rest
    rw [List.append_assoc]
    exact hR.tr (R.skip lk (by decide +kernel) (by decide +kernel) .refl)
  | nil hm =>
    intro P W rest hr
    exact ⟨1, by omega, R.row (r := []) (pr_nil _ hm _ hr) .refl⟩
  | @more m sub a b v o ts ts' hm ho g1 g2 ih1 ih2 =>
    intro P W rest hr
    obtain ⟨p1, p2, p3⟩ := pr_more _ (show (m, sub) ∈ msub from hm)
    obtain ⟨p4, p5⟩ := p1 o ho
    dsimp only at p2 p3 p4 p5
    obtain ⟨_, hh⟩ := g2.mhead
    have hf : la (ts' ++ rest) ∈ fol sub := by
      rcases hh with rfl | ⟨o', r, ho', rfl⟩
      · exact p2 _ hr
      · exact (p1 o' ho').2
    obtain ⟨n1, hn1, hR1⟩ := ih1 ("!binary" :: m :: P) (.s o :: a :: W) (ts' ++ rest) hf
    obtain ⟨n2, hn2, hR2⟩ := ih2 P W rest hr
    refine ⟨n1 + (n2 + 1) + 1, by rw [List.length_cons, List.length_append]; omega, ?_⟩
    refine R.row (r := ["TAKE", sub, "!binary", m]) p4 (R.take lk (by decide +kernel) List.mem_cons_self (by decide +kernel) ?_)
    show R (n1 + (n2 + 1)) ⟨sub :: "!binary" :: m :: P, _⟩ ((ts ++ ts') ++ rest) ⟨P, v :: W⟩ rest
    rw [List.append_assoc]
    exact hR1.tr (R.act lk (by decide +kernel) bld_binary hR2)
  | @left x sub m a v ts ts' hm g1 g2 ih1 ih2 =>
    intro P W rest hr
    obtain ⟨p1, p2, p3, p4⟩ := pr_left _ (show (x, sub, m) ∈ xsub from hm)
    dsimp only at p1 p2 p3 p4
    obtain ⟨_, hh⟩ := g2.mhead
    have hf : la (ts' ++ rest) ∈ fol sub := by
      rcases hh with rfl | ⟨o', r, ho', rfl⟩
      · exact (p3 _ hr).1
      · exact p2 o' ho'
    obtain ⟨n1, hn1, hR1⟩ := ih1 (m :: P) W (ts' ++ rest) hf
    obtain ⟨n2, hn2, hR2⟩ := ih2 P W rest (p3 _ hr).2
    refine ⟨n1 + n2 + 1, by rw [List.length_append]; omega, ?_⟩
    rw [List.append_assoc]
    exact R.row (r := [sub, m]) (p1 _ (g1.first.2 _).1) (hR1.tr hR2)
  | @cons1 ts v g1 ih1 =>
    intro P W rest hr
    obtain ⟨p1, p2, p3, p4⟩ := pr_tail
    obtain ⟨p5, p6⟩ := p2 _ hr
    obtain ⟨n1, hn1, hR1⟩ := ih1 ("<tail>" :: P) W rest p6
    have l1 : lv "<sum>" = 2 := by decide +kernel
    have l2 : lv "<cons>" = 3 := by decide +kernel
    rw [l1] at hn1
    refine ⟨n1 + 1 + 1, by rw [l2]; omega, ?_⟩
    exact R.row (r := ["<sum>", "<tail>"]) (p1 _ (g1.first.2 _).1) (hR1.tr (R.row (r := []) p5 .refl))
  | @cons2 ts ts' a b g1 g2 ih1 ih2 =>
    intro P W rest hr
    obtain ⟨p1, p2, p3, p4⟩ := pr_tail
    obtain ⟨n1, hn1, hR1⟩ := ih1 ("<tail>" :: P) W (kw "::" :: (ts' ++ rest)) p4
    obtain ⟨n2, hn2, hR2⟩ := ih2 ("!cons" :: P) (a :: W) rest hr
    have l1 : lv "<sum>" = 2 := by decide +kernel
    have l2 : lv "<cons>" = 3 := by decide +kernel
    rw [l1] at hn1
    rw [l2] at hn2
    refine ⟨n1 + (n2 + 1 + 1) + 1, by rw [l2, List.length_append, List.length_cons]; omega, ?_⟩
    rw [List.append_assoc]
    refine R.row (r := ["<sum>", "<tail>"]) (p1 _ (g1.first.2 _).1) (hR1.tr (R.row (r := ["::", "<cons>", "!cons"]) p3 (R.skip lk (by decide +kernel) (by decide +kernel) ?_)))
    exact hR2.tr (R.act lk (by decide +kernel) (bld_tree (tag := "cons") (n := 2) (by decide +kernel) (by simp) (by decide +kernel)) .refl)
  | @cmp1 ts v g1 ih1 =>
    intro P W rest hr
    obtain ⟨p1, p2, p3, p4⟩ := pr_cmp
    obtain ⟨p5, p6⟩ := p2 _ hr
    obtain ⟨n1, hn1, hR1⟩ := ih1 ("<comparison>" :: P) W rest p6
    have l1 : lv "<cons>" = 3 := by decide +kernel
    have l2 : lv "<not>" = 4 := by decide +kernel
    rw [l1] at hn1
    refine ⟨n1 + 1 + 1, by rw [l2]; omega, ?_⟩
    exact R.row (r := ["<cons>", "<comparison>"]) (p1 _ (g1.first.2 _).1 ((g1.first.2 _).2 (by decide +kernel))) (hR1.tr (R.row (r := []) p5 .refl))
  | @cmp2 ts ts' a b o ho g1 g2 ih1 ih2 =>
    intro P W rest hr
    obtain ⟨p1, p2, p3, p4⟩ := pr_cmp
    obtain ⟨p5, p6⟩ := p3 o ho
    obtain ⟨n1, hn1, hR1⟩ := ih1 ("<comparison>" :: P) W (kw o :: (ts' ++ rest)) p6
    obtain ⟨n2, hn2, hR2⟩ := ih2 ("!binary" :: P) (.s o :: a :: W) rest (p2 _ hr).2
    have l1 : lv "<cons>" = 3 := by decide +kernel
    have l2 : lv "<not>" = 4 := by decide +kernel
    rw [l1] at hn1 hn2
    refine ⟨n1 + (n2 + 1 + 1) + 1, by rw [l2, List.length_append, List.length_cons]; omega, ?_⟩
    rw [List.append_assoc]
    refine R.row (r := ["<cons>", "<comparison>"]) (p1 _ (g1.first.2 _).1 ((g1.first.2 _).2 (by decide +kernel))) (hR1.tr (R.row (r := ["TAKE", "<cons>", "!binary"]) p5 (R.take lk (by decide +kernel) List.mem_cons_self (by decide +kernel) ?_)))
    exact hR2.tr (R.act lk (by decide +kernel) bld_binary .refl)
  | @neg ts v g1 ih1 =>
    intro P W rest hr
    obtain ⟨p1, p2, p3, p4⟩ := pr_cmp
    obtain ⟨n1, hn1, hR1⟩ := ih1 ("!not" :: P) W rest hr
    refine ⟨n1 + 1 + 1, by rw [List.length_cons]; omega, ?_⟩
    refine R.row (r := ["not", "<not>", "!not"]) p4 (R.skip lk (by decide +kernel) (by decide +kernel) ?_)
    exact hR1.tr (R.act lk (by decide +kernel) (bld_tree (tag := "not") (n := 1) (by decide +kernel) (by simp) (by decide +kernel)) .refl)
  | @expr ts v g1 ih1 =>
    intro P W rest hr
    obtain ⟨n1, hn1, hR1⟩ := ih1 P W rest (by
      have : ∀ w ∈ fol "<expression>", w ∈ fol "<or>" := by decide +kernel
      exact this _ hr)
    have l1 : lv "<or>" = 6 := by decide +kernel
    have l2 : lv "<expression>" = 7 := by decide +kernel
    rw [l1] at hn1
    exact ⟨n1 + 1, by rw [l2]; omega, R.row (r := ["<or>"]) (pr_expr.1 _ (g1.first.2 _).1) hR1⟩
end Q23
namespace Q23
open PySem PySem.Spec PyProof.Rows L2 SX HL
/-! ## from the tokens to the steps of parse -/
def plOk : Int → List Tk → Prop
  | _, [] => True
  | pl, t :: r => pl + opW t.1 ≤ 12 ∧ plOk (pl + opW t.1) r
def TokOf (x : Kind × Val × Nat) (t : Tk) : Prop := wordOf (kindS x.1) (vV x.2.1) = some t.1 ∧ valT x.2.1 = t.2
theorem R.acc {n : Nat} {c c2 : Cf} {ts ts2 : List Tk} (h : R n c ts c2 ts2) : ts2 = [] → c2.P = [] → ∀ (L : List (Kind × Val × Nat)) (pl : Int), All2 TokOf L ts → plOk pl ts → ∃ n1 m c1, n1 + m = n ∧ Acc L pl n1 c c1 ∧ Stl "END" m c1 c2 := by
  induction h with
  | @refl c ts =>
    intro e1 e2 L pl hL _
    subst e1
    cases hL
    refine ⟨0, 0, c, rfl, .nil, .stop ?_⟩
    unfold Halt
    rw [e2]
    trivial
  | @s n c c1 c2 ts ts2 hs _ ih =>
    intro e1 e2 L pl hL hp
    obtain ⟨n1, m, c3, e, ha, hst⟩ := ih e1 e2 L pl hL hp
    cases ts with
    | nil =>
      cases hL
      cases ha
      exact ⟨0, m + 1, c, by omega, .nil, .step hs hst⟩
    | cons t r =>
      cases hL with
      | @cons x _ L' _ hx hr =>
        obtain ⟨k, v, pos⟩ := x
        cases ha with
        | cons h1 h2 h3 h4 h5 =>
          have e4 := hx.1.symm.trans h1
          have e5 := Option.some.inj e4
          rw [← e5] at h1 h2 h3 h4 h5
          refine ⟨_, m, c3, ?_, .cons h1 h2 (.step hs h3) h4 h5, hst⟩
          omega
  | @t n c c1 c2 wd tv ts ts2 hh hk _ ih =>
    intro e1 e2 L pl hL hp
    cases hL with
    | @cons x _ L' _ hx hr =>
      obtain ⟨k, v, pos⟩ := x
      obtain ⟨n1, m, c3, e, ha, hst⟩ := ih e1 e2 L' (pl + opW wd) hr hp.2
      refine ⟨0 + n1, m, c3, by omega, .cons hx.1 hp.1 (.stop hh) ?_ ha, hst⟩
      have : valT v = tv := hx.2
      rw [this]
      exact hk
/-! ### the chunk: view NAME = expression -/
theorem view_run {z : Str} {ts : List Tk} {e : T} (h : G "<expression>" none ts e) : ∃ n, n ≤ 100 * ts.length ∧ R n start (kw "view" :: nameT z :: kw "=" :: ts) ⟨[], [.t [.s "view", .s z, e]]⟩ [] := by
  obtain ⟨n, hn, hR⟩ := h.run ["!view"] [.s z] [] (by show ("END" : Str) ∈ fol "<expression>"; decide +kernel)
  have l2 : lv "<expression>" = 7 := by decide +kernel
  rw [l2] at hn
  refine ⟨n + 1 + 1, by omega, ?_⟩
  refine R.row (r := (["view", "NAME", "=", "<expression>", "!view"] : List Str)) (by show pr "<definition>" "view" = _; decide +kernel) ?_
  refine R.skip (by decide +kernel) (by decide +kernel) (by decide +kernel) (R.take lk (by decide +kernel) (by decide +kernel) (by decide +kernel) (R.skip (by decide +kernel) (by decide +kernel) (by decide +kernel) ?_))
  rw [List.append_nil] at hR
  exact hR.tr (R.act (by decide +kernel) (by decide +kernel) (bld_tree (tag := "view") (n := 2) (by decide +kernel) (by simp) (by decide +kernel)) .refl)
/-! ### the trees of expressions -/
theorem kids_bin (o : Str) (a b : T) : kids (binT o a b) = some [a, b] := by
  show partsT "binary" [.s o, a, b] = _
  unfold partsT
  rw [if_neg (by decide +kernel), if_neg (by decide +kernel), if_neg (by decide +kernel), if_neg (by decide +kernel), if_neg (by decide +kernel), if_neg (by decide +kernel), if_pos rfl]
theorem kids_cons (a b : T) : kids (consT a b) = some [a, b] := by
  show partsT "cons" [a, b] = _
  unfold partsT
  rw [if_neg (by decide +kernel), if_neg (by decide +kernel), if_neg (by decide +kernel), if_neg (by decide +kernel), if_pos rfl]
theorem kids_not (a : T) : kids (notT a) = some [a] := by
  show partsT "not" [a] = _
  unfold partsT
  rw [if_neg (by decide +kernel), if_neg (by decide +kernel), if_neg (by decide +kernel), if_pos rfl]
theorem kids_leaf {tag : Str} (h : tag = "number" ∨ tag = "name") (x : T) : kids (.t [.s tag, x]) = some [] := by
  rcases h with rfl | rfl
  · show partsT "number" [x] = _
    unfold partsT
    rw [if_neg (by decide +kernel), if_neg (by decide +kernel), if_neg (by decide +kernel), if_neg (by decide +kernel), if_neg (by decide +kernel), if_neg (by decide +kernel), if_neg (by decide +kernel), if_neg (by decide +kernel), if_neg (by decide +kernel), if_neg (by decide +kernel)]
  · show partsT "name" [x] = _
    unfold partsT
    rw [if_neg (by decide +kernel), if_neg (by decide +kernel), if_neg (by decide +kernel), if_neg (by decide +kernel), if_neg (by decide +kernel), if_neg (by decide +kernel), if_neg (by decide +kernel), if_neg (by decide +kernel), if_neg (by decide +kernel), if_neg (by decide +kernel)]
/-- an expression of this law: its tree; a leaf's text is a number or a name -/
inductive Ex
  | num (k : Nat)
  | name (z : List Nat)
  | bin (o : Str) (a b : Ex)
  | con (a b : Ex)
  | neg (a : Ex)
def Ex.tr : Ex → T
  | .num k => .t [.s "number", .n (k : Int)]
  | .name z => .t [.s "name", .s (S z)]
  | .bin o a b => binT o a.tr b.tr
  | .con a b => consT a.tr b.tr
  | .neg a => notT a.tr
def Ex.dp : Ex → Nat
  | .num _ => 1
  | .name _ => 1
  | .bin _ a b => 1 + max a.dp b.dp
  | .con a b => 1 + max a.dp b.dp
  | .neg a => 1 + a.dp
theorem Ex.full : ∀ e : Ex, Full e.tr
  | .num k => .mk (kids_leaf (.inl rfl) _) (fun _ h => by cases h)
  | .name z => .mk (kids_leaf (.inr rfl) _) (fun _ h => by cases h)
  | .bin o a b => .mk (kids_bin o _ _) (fun x h => by
    simp only [List.mem_cons, List.not_mem_nil, or_false] at h
    rcases h with rfl | rfl
    · exact a.full
    · exact b.full)
  | .con a b => .mk (kids_cons _ _) (fun x h => by
    simp only [List.mem_cons, List.not_mem_nil, or_false] at h
    rcases h with rfl | rfl
    · exact a.full
    · exact b.full)
  | .neg a => .mk (kids_not _) (fun x h => by
    obtain rfl := List.mem_singleton.mp h
    exact a.full)
theorem Ex.deep : ∀ (e : Ex) (n : Nat), DepLe n e.tr ↔ e.dp ≤ n
  | e, 0 => by
    constructor
    · intro h; exact h.elim
    · intro h
      exfalso
      cases e <;> (rw [Ex.dp] at h; omega)
  | .num k, n + 1 => by
    rw [Ex.tr, dep_succ (kids_leaf (.inl rfl) _), Ex.dp]
    exact ⟨fun _ => by omega, fun _ x h => by cases h⟩
  | .name k, n + 1 => by
    rw [Ex.tr, dep_succ (kids_leaf (.inr rfl) _), Ex.dp]
    exact ⟨fun _ => by omega, fun _ x h => by cases h⟩
  | .bin o a b, n + 1 => by
    rw [Ex.tr, dep_succ (kids_bin o _ _), Ex.dp]
    have ha := Ex.deep a n
    have hb := Ex.deep b n
    constructor
    · intro h
      have h1 := ha.mp (h _ (by simp))
      have h2 := hb.mp (h _ (by simp))
      omega
    · intro h x hx
      simp only [List.mem_cons, List.not_mem_nil, or_false] at hx
      rcases hx with rfl | rfl
      · exact ha.mpr (by omega)
      · exact hb.mpr (by omega)
  | .con a b, n + 1 => by
    rw [Ex.tr, dep_succ (kids_cons _ _), Ex.dp]
    have ha := Ex.deep a n
    have hb := Ex.deep b n
    constructor
    · intro h
      have h1 := ha.mp (h _ (by simp))
      have h2 := hb.mp (h _ (by simp))
      omega
    · intro h x hx
      simp only [List.mem_cons, List.not_mem_nil, or_false] at hx
      rcases hx with rfl | rfl
      · exact ha.mpr (by omega)
      · exact hb.mpr (by omega)
  | .neg a, n + 1 => by
    rw [Ex.tr, dep_succ (kids_not _), Ex.dp]
    have ha := Ex.deep a n
    constructor
    · intro h
      have h1 := ha.mp (h _ (by simp))
      omega
    · intro h x hx
      obtain rfl := List.mem_singleton.mp hx
      exact ha.mpr (by omega)
/-- how many leaves, operators and signs -/
def Ex.cnt : Ex → Nat
  | .num _ => 1
  | .name _ => 1
  | .bin _ a b => a.cnt + b.cnt + 1
  | .con a b => a.cnt + b.cnt + 1
  | .neg a => a.cnt + 1
theorem Ex.siz : ∀ e : Ex, e.tr.siz ≤ 5 * e.cnt
  | .num k => by
    show sizs [T.s "number", T.n k] + 1 ≤ 5
    simp only [sizs, T.siz]
    omega
  | .name k => by
    show sizs [T.s "name", T.s (S k)] + 1 ≤ 5
    simp only [sizs, T.siz]
    omega
  | .bin o a b => by
    have ha := Ex.siz a
    have hb := Ex.siz b
    show sizs [T.s "binary", T.s o, a.tr, b.tr] + 1 ≤ 5 * (a.cnt + b.cnt + 1)
    simp only [sizs, T.siz]
    omega
  | .con a b => by
    have ha := Ex.siz a
    have hb := Ex.siz b
    show sizs [T.s "cons", a.tr, b.tr] + 1 ≤ 5 * (a.cnt + b.cnt + 1)
    simp only [sizs, T.siz]
    omega
  | .neg a => by
    have ha := Ex.siz a
    show sizs [T.s "not", a.tr] + 1 ≤ 5 * (a.cnt + 1)
    simp only [sizs, T.siz]
    omega
end Q23
namespace Q23
open PySem PySem.Spec PyProof.Rows L2 SX HL
/-! ## the flat expressions of the law -/
inductive It
  | neg
  | op (o : Str)
  | num (k : Nat)
  | name (z : List Nat)
def It.tk : It → Tk
  | .neg => kw "not"
  | .op o => kw o
  | .num k => numT (k : Int)
  | .name z => nameT (S z)
def lor : List Str := ["or", "and"]
def lcm : List Str := ["=", "<"]
def lad : List Str := ["+", "-", "++"]
def lmu : List Str := ["*", "/", "mod"]
def lco : List Str := ["::"]
def lall : List Str := lor ++ lcm ++ lco ++ lad ++ lmu
/-- one awaits an operand (signs allowed; compared before), or stands behind one -/
inductive Sta
  | exp (o c : Bool)
  | aft (c : Bool)
def step : Sta → It → Option Sta
  | .exp true c, .neg => some (.exp false c)
  | .exp false _, .neg => none
  | .exp _ c, .num _ => some (.aft c)
  | .exp _ c, .name _ => some (.aft c)
  | .exp _ _, .op _ => none
  | .aft c, .op o => if o ∈ lor then some (.exp true false) else if o ∈ lcm then (if c then none else some (.exp false true)) else if o ∈ lall then some (.exp false c) else none
  | .aft _, _ => none
def run : Sta → List It → Option Sta
  | s, [] => some s
  | s, x :: r => match step s x with
    | some s' => run s' r
    | none => none
theorem run_app : ∀ (a b : List It) (s : Sta), run s (a ++ b) = (run s a).bind fun s' => run s' b
  | [], b, s => rfl
  | x :: a, b, s => by
    rw [List.cons_append, run, run]
    cases step s x with
    | none => rfl
    | some s' => exact run_app a b s'
theorem run_split {a b : List It} {o : Str} {s s2 : Sta} (h : run s (a ++ .op o :: b) = some s2) : ∃ c s1, run s a = some (.aft c) ∧ step (.aft c) (.op o) = some s1 ∧ run s1 b = some s2 := by
  rw [run_app] at h
  cases h1 : run s a with
  | none => rw [h1] at h; cases h
  | some s1 =>
    rw [h1] at h
    have h : run s1 (.op o :: b) = some s2 := h
    rw [run] at h
    cases s1 with
    | exp q c => cases q <;> cases h
    | aft c =>
      cases h2 : step (.aft c) (.op o) with
      | none => rw [h2] at h; cases h
      | some s3 =>
        rw [h2] at h
        exact ⟨c, s3, rfl, h2, h⟩
/-- which operators stand in it -/
def hasO (l : List It) (os : List Str) : Prop := ∃ o ∈ os, It.op o ∈ l
theorem step_op {c : Bool} {o : Str} {s : Sta} (h : step (.aft c) (.op o) = some s) : o ∈ lall ∧ (o ∈ lcm → c = false) ∧ ∃ q d, s = .exp q d := by
  have h0 : (if o ∈ lor then some (Sta.exp true false) else if o ∈ lcm then (if c then none else some (.exp false true)) else if o ∈ lall then some (.exp false c) else none) = some s := h
  have e1 : ∀ o ∈ lor, o ∈ lall ∧ o ∉ lcm := by decide +kernel
  have e2 : ∀ o ∈ lcm, o ∈ lall := by decide +kernel
  split at h0
  · rename_i q
    obtain rfl := Option.some.inj h0
    exact ⟨(e1 _ q).1, fun z => absurd z (e1 _ q).2, _, _, rfl⟩
  · split at h0
    · rename_i q
      cases c with
      | true => cases h0
      | false =>
        obtain rfl := Option.some.inj h0
        exact ⟨e2 _ q, fun _ => rfl, _, _, rfl⟩
    · rename_i q
      split at h0
      · obtain rfl := Option.some.inj h0
        exact ⟨by assumption, fun z => absurd z q, _, _, rfl⟩
      · cases h0
/-- more is allowed -/
def Sta.le : Sta → Sta → Prop
  | .exp q c, .exp q' c' => (q = true → q' = true) ∧ (c' = true → c = true)
  | .aft c, .aft c' => c' = true → c = true
  | _, _ => False
theorem step_le {s s' t : Sta} {x : It} (h : step s x = some t) (hl : s.le s') : ∃ t', step s' x = some t' ∧ t.le t' := by
  cases s with
  | exp q c =>
    cases s' with
    | aft _ => exact hl.elim
    | exp q' c' =>
      obtain ⟨l1, l2⟩ := hl
      cases x with
      | op o => cases q <;> cases h
      | num k =>
        have e1 : t = .aft c := by cases q <;> exact (Option.some.inj h).symm
        subst e1
        exact ⟨.aft c', by cases q' <;> rfl, l2⟩
      | name k =>
        have e1 : t = .aft c := by cases q <;> exact (Option.some.inj h).symm
        subst e1
        exact ⟨.aft c', by cases q' <;> rfl, l2⟩
      | neg =>
        cases q with
        | false => cases h
        | true =>
          obtain rfl := Option.some.inj h
          have e2 : q' = true := l1 rfl
          subst e2
          exact ⟨.exp false c', rfl, fun z => z, l2⟩
  | aft c =>
    cases s' with
    | exp _ _ => exact hl.elim
    | aft c' =>
      cases x with
      | neg => cases h
      | num k => cases h
      | name k => cases h
      | op o =>
        have f : ∀ c : Bool, step (.aft c) (.op o) = if o ∈ lor then some (.exp true false) else if o ∈ lcm then (if c then none else some (.exp false true)) else if o ∈ lall then some (.exp false c) else none := fun _ => rfl
        rw [f] at h ⊢
        split at h
        · rename_i g
          obtain rfl := Option.some.inj h
          rw [if_pos g]
          exact ⟨_, rfl, fun z => z, fun z => z⟩
        · rename_i g
          rw [if_neg g]
          split at h
          · rename_i g2
            rw [if_pos g2]
            cases c with
            | true => cases h
            | false =>
              obtain rfl := Option.some.inj h
              cases c' with
              | true => exact absurd (hl rfl) (by decide)
              | false => exact ⟨_, rfl, fun z => z, fun z => z⟩
          · rename_i g2
            rw [if_neg g2]
            split at h
            · rename_i g3
              obtain rfl := Option.some.inj h
              rw [if_pos g3]
              exact ⟨_, rfl, fun z => z, hl⟩
            · cases h
theorem run_le : ∀ {l : List It} {s s' t : Sta}, run s l = some t → s.le s' → ∃ t', run s' l = some t' ∧ t.le t'
  | [], s, s', t, h, hl => by
    obtain rfl := Option.some.inj h
    exact ⟨s', rfl, hl⟩
  | x :: r, s, s', t, h, hl => by
    rw [run] at h ⊢
    cases h1 : step s x with
    | none => rw [h1] at h; cases h
    | some s1 =>
      rw [h1] at h
      obtain ⟨t1, e1, e2⟩ := step_le h1 hl
      rw [e1]
      exact run_le h e2
def Valid (l : List It) : Prop := ∃ c, run (.exp true false) l = some (.aft c)
theorem valid_of {l : List It} {q c c' : Bool} (h : run (.exp q c) l = some (.aft c')) : Valid l := by
  obtain ⟨t, h1, h2⟩ := run_le h (show Sta.le (.exp q c) (.exp true false) from ⟨fun _ => rfl, fun z => by cases z⟩)
  cases t with
  | exp _ _ => exact h2.elim
  | aft c2 => exact ⟨c2, h1⟩
theorem valid_split {a b : List It} {o : Str} (h : Valid (a ++ .op o :: b)) : Valid a ∧ Valid b ∧ o ∈ lall := by
  obtain ⟨c, h⟩ := h
  obtain ⟨c1, s1, h1, h2, h3⟩ := run_split h
  obtain ⟨g1, _, q, d, rfl⟩ := step_op h2
  exact ⟨⟨_, h1⟩, valid_of h3, g1⟩
theorem valid_neg {r : List It} (h : Valid (.neg :: r)) : Valid r := by
  obtain ⟨c, h⟩ := h
  exact valid_of (q := false) (c := false) h
theorem split_last {α : Type} (p : α → Prop) : ∀ l : List α, (∃ x ∈ l, p x) → ∃ a x b, l = a ++ x :: b ∧ p x ∧ ∀ y ∈ b, ¬ p y
  | [], h => by obtain ⟨x, hx, _⟩ := h; cases hx
  | z :: l, h => by
    by_cases hl : ∃ x ∈ l, p x
    · obtain ⟨a, x, b, e, h1, h2⟩ := split_last p l hl
      exact ⟨z :: a, x, b, by rw [e]; rfl, h1, h2⟩
    · obtain ⟨x, hx, hp⟩ := h
      rcases List.mem_cons.mp hx with rfl | hx
      · exact ⟨[], x, l, rfl, hp, fun y hy hq => hl ⟨y, hy, hq⟩⟩
      · exact absurd ⟨x, hx, hp⟩ hl
theorem split_first {α : Type} (p : α → Prop) : ∀ l : List α, (∃ x ∈ l, p x) → ∃ a x b, l = a ++ x :: b ∧ p x ∧ ∀ y ∈ a, ¬ p y
  | [], h => by obtain ⟨x, hx, _⟩ := h; cases hx
  | z :: l, h => by
    by_cases hz : p z
    · exact ⟨[], z, l, rfl, hz, fun y hy => by cases hy⟩
    · obtain ⟨x, hx, hp⟩ := h
      rcases List.mem_cons.mp hx with rfl | hx
      · exact absurd hp hz
      · obtain ⟨a, y, b, e, h1, h2⟩ := split_first p l ⟨x, hx, hp⟩
        exact ⟨z :: a, y, b, by rw [e]; rfl, h1, fun w hw => by
          rcases List.mem_cons.mp hw with rfl | hw
          · exact hz
          · exact h2 w hw⟩
end Q23
namespace Q23
open PySem PySem.Spec PyProof.Rows L2 SX HL
def lv1 : List Str := ["or"]
def lv2 : List Str := ["and"]
def pr3 : List Str := lor ++ lcm
def pr4 : List Str := lor ++ lcm ++ lco
def pr5 : List Str := lor ++ lcm ++ lco ++ lad
/-- where a level's operators are, and what must not stand there -/
def levs : List (List Str × List Str × Bool) := [(lv1, [], false), (lv2, lv1, false), (lcm, lor, true), (lad, pr4, true), (lmu, pr5, true)]
def NoHead (l : List It) : Prop := ∀ r, l ≠ It.neg :: r
inductive Div : List It → Ex → Prop
  | bin {a b : List It} {o : Str} {os pre : List Str} {hd : Bool} {x y : Ex} : (os, pre, hd) ∈ levs → o ∈ os → ¬ hasO b os → ¬ hasO (a ++ .op o :: b) pre → (hd = true → NoHead (a ++ .op o :: b)) → Div a x → Div b y → Div (a ++ .op o :: b) (.bin o x y)
  | con {a b : List It} {x y : Ex} : ¬ hasO a lco → ¬ hasO (a ++ .op "::" :: b) pr3 → NoHead (a ++ .op "::" :: b) → Div a x → Div b y → Div (a ++ .op "::" :: b) (.con x y)
  | neg {r : List It} {x : Ex} : ¬ hasO (.neg :: r) lor → Div r x → Div (.neg :: r) (.neg x)
  | num (k : Nat) : Div [.num k] (.num k)
  | name (z : List Nat) : Div [.name z] (.name z)
theorem no_left {a b : List It} {o : Str} {os : List Str} (h : ¬ hasO (a ++ .op o :: b) os) : ¬ hasO a os := fun ⟨x, h1, h2⟩ => h ⟨x, h1, List.mem_append_left _ h2⟩
theorem no_right {a b : List It} {o : Str} {os : List Str} (h : ¬ hasO (a ++ .op o :: b) os) : ¬ hasO b os := fun ⟨x, h1, h2⟩ => h ⟨x, h1, List.mem_append_right _ (List.mem_cons_of_mem _ h2)⟩
theorem no_tail {x : It} {r : List It} {os : List Str} (h : ¬ hasO (x :: r) os) : ¬ hasO r os := fun ⟨z, h1, h2⟩ => h ⟨z, h1, List.mem_cons_of_mem _ h2⟩
theorem no_sub {l : List It} {os os' : List Str} (h : ¬ hasO l os) (s : ∀ o ∈ os', o ∈ os) : ¬ hasO l os' := fun ⟨z, h1, h2⟩ => h ⟨z, s z h1, h2⟩
theorem no_app {l : List It} {os os' : List Str} (h : ¬ hasO l os) (h' : ¬ hasO l os') : ¬ hasO l (os ++ os') := fun ⟨z, h1, h2⟩ => by
  rcases List.mem_append.mp h1 with h1 | h1
  · exact h ⟨z, h1, h2⟩
  · exact h' ⟨z, h1, h2⟩
def quiet : Sta → Prop
  | .exp q _ => q = false
  | .aft _ => True
theorem step_quiet {s t : Sta} {x : It} (h : step s x = some t) (q : quiet s) (hx : ∀ o ∈ lor, x ≠ .op o) : quiet t ∧ x ≠ .neg := by
  cases s with
  | exp b c =>
    obtain rfl : b = false := q
    cases x with
    | neg => cases h
    | op o => cases h
    | num k =>
      obtain rfl := Option.some.inj h
      exact ⟨trivial, fun z => by cases z⟩
    | name k =>
      obtain rfl := Option.some.inj h
      exact ⟨trivial, fun z => by cases z⟩
  | aft c =>
    cases x with
    | neg => cases h
    | num k => cases h
    | name k => cases h
    | op o =>
      refine ⟨?_, fun z => by cases z⟩
      have h0 : (if o ∈ lor then some (Sta.exp true false) else if o ∈ lcm then (if c then none else some (.exp false true)) else if o ∈ lall then some (.exp false c) else none) = some t := h
      rw [if_neg (fun z => hx o z rfl)] at h0
      split at h0
      · split at h0
        · cases h0
        · obtain rfl := Option.some.inj h0
          rfl
      · split at h0
        · obtain rfl := Option.some.inj h0
          rfl
        · cases h0
theorem run_quiet : ∀ {l : List It} {s t : Sta}, run s l = some t → quiet s → ¬ hasO l lor → It.neg ∉ l
  | [], s, t, _, _, _ => by simp
  | x :: r, s, t, h, q, hn => by
    rw [run] at h
    cases h1 : step s x with
    | none => rw [h1] at h; cases h
    | some s1 =>
      rw [h1] at h
      obtain ⟨q1, q2⟩ := step_quiet h1 q (fun o ho e => hn ⟨o, ho, by rw [e]; exact List.mem_cons_self⟩)
      have := run_quiet h q1 (no_tail hn)
      intro hm
      rcases List.mem_cons.mp hm with e | e
      · exact q2 e.symm
      · exact this e
theorem valid_quiet {l : List It} (h : Valid l) (hn : ¬ hasO l lor) (hh : NoHead l) : It.neg ∉ l := by
  obtain ⟨c, h⟩ := h
  cases l with
  | nil => cases h
  | cons x r =>
    cases x with
    | neg => exact absurd rfl (hh r)
    | op o => cases h
    | num k =>
      have := run_quiet (s := .aft false) h trivial (no_tail hn)
      intro hm
      rcases List.mem_cons.mp hm with e | e
      · cases e
      · exact this e
    | name k =>
      have := run_quiet (s := .aft false) h trivial (no_tail hn)
      intro hm
      rcases List.mem_cons.mp hm with e | e
      · cases e
      · exact this e
def cmpd : Sta → Bool
  | .exp _ c => c
  | .aft c => c
theorem step_cmp {s t : Sta} {x : It} (h : step s x = some t) (hx : ∀ o ∈ lor, x ≠ .op o) : (cmpd s = true → cmpd t = true) ∧ ∀ o ∈ lcm, x = .op o → cmpd t = true := by
  cases s with
  | exp b c =>
    cases x with
    | op o => cases b <;> cases h
    | neg =>
      cases b with
      | false => cases h
      | true =>
        obtain rfl := Option.some.inj h
        exact ⟨id, fun o _ e => by cases e⟩
    | num k =>
      have e1 : t = .aft c := by cases b <;> exact (Option.some.inj h).symm
      subst e1
      exact ⟨id, fun o _ e => by cases e⟩
    | name k =>
      have e1 : t = .aft c := by cases b <;> exact (Option.some.inj h).symm
      subst e1
      exact ⟨id, fun o _ e => by cases e⟩
  | aft c =>
    cases x with
    | neg => cases h
    | num k => cases h
    | name k => cases h
    | op o =>
      have h0 : (if o ∈ lor then some (Sta.exp true false) else if o ∈ lcm then (if c then none else some (.exp false true)) else if o ∈ lall then some (.exp false c) else none) = some t := h
      rw [if_neg (fun z => hx o z rfl)] at h0
      split at h0
      · split at h0
        · cases h0
        · obtain rfl := Option.some.inj h0
          exact ⟨fun _ => rfl, fun _ _ _ => rfl⟩
      · rename_i g
        split at h0
        · obtain rfl := Option.some.inj h0
          exact ⟨id, fun o' ho' e => by
            cases e
            exact absurd ho' g⟩
        · cases h0
theorem run_cmp : ∀ {l : List It} {s t : Sta}, run s l = some t → ¬ hasO l lor → (cmpd s = true → cmpd t = true) ∧ (hasO l lcm → cmpd t = true)
  | [], s, t, h, _ => by
    obtain rfl := Option.some.inj h
    exact ⟨id, fun ⟨o, _, h2⟩ => by cases h2⟩
  | x :: r, s, t, h, hn => by
    rw [run] at h
    cases h1 : step s x with
    | none => rw [h1] at h; cases h
    | some s1 =>
      rw [h1] at h
      obtain ⟨q1, q2⟩ := step_cmp h1 (fun o ho e => hn ⟨o, ho, by rw [e]; exact List.mem_cons_self⟩)
      obtain ⟨r1, r2⟩ := run_cmp h (no_tail hn)
      refine ⟨fun z => r1 (q1 z), fun ⟨o, ho, hm⟩ => ?_⟩
      rcases List.mem_cons.mp hm with e | e
      · exact r1 (q2 o ho e.symm)
      · exact r2 ⟨o, ho, e⟩
theorem valid_leaf {l : List It} (h : Valid l) (hn : ¬ hasO l lall) (hh : NoHead l) : (∃ k, l = [.num k]) ∨ ∃ z, l = [.name z] := by
  obtain ⟨c, h⟩ := h
  have tl : ∀ r c', run (.aft c') r = some (.aft c) → ¬ hasO r lall → r = [] := by
    intro r c' h hn
    cases r with
    | nil => rfl
    | cons x r =>
      exfalso
      cases x with
      | neg => cases h
      | num k => cases h
      | name k => cases h
      | op o =>
        rw [run] at h
        cases h1 : step (.aft c') (.op o) with
        | none => rw [h1] at h; cases h
        | some s1 => exact hn ⟨o, (step_op h1).1, List.mem_cons_self⟩
  cases l with
  | nil => cases h
  | cons x r =>
    cases x with
    | neg => exact absurd rfl (hh r)
    | op o => cases h
    | num k =>
      have := tl r false h (no_tail hn)
      subst this
      exact .inl ⟨k, rfl⟩
    | name k =>
      have := tl r false h (no_tail hn)
      subst this
      exact .inr ⟨k, rfl⟩
/-! ### one more at the end -/
theorem G.snoc1 {m sub : Str} {a b v : T} {o : Str} {ts ts' : List Tk} (hm : (m, sub) ∈ msub) (ho : o ∈ ops m) (h : G m (some a) ts v) (hb : G sub none ts' b) : G m (some a) (ts ++ kw o :: ts') (binT o v b) := by
  generalize eo : some a = oa at h
  induction h generalizing a with
  | num k => cases eo
  | name z => cases eo
  | par _ _ => cases eo
  | nil hn =>
    cases eo
    have e : ([] ++ kw o :: ts') = kw o :: (ts' ++ []) := by simp
    rw [e]
    exact .more hm ho hb (.nil hn)
  | more hm2 ho2 g1 g2 _ ih2 =>
    cases eo
    rw [List.cons_append, List.append_assoc]
    exact .more hm2 ho2 g1 (ih2 hm ho rfl)
  | left _ _ _ _ _ => cases eo
  | cons1 _ _ => cases eo
  | cons2 _ _ _ _ => cases eo
  | cmp1 _ _ => cases eo
  | cmp2 _ _ _ _ _ => cases eo
  | neg _ _ => cases eo
  | expr _ _ => cases eo
theorem xsub_one : ∀ p ∈ xsub, ∀ q ∈ xsub, p.1 = q.1 → p = q := by decide +kernel
theorem xsub_not : ∀ p ∈ xsub, p.1 ∉ ([("<primary>" : Str), "<cons>", "<not>", "<expression>"] : List Str) := by decide +kernel
theorem G.inv {x sub m : Str} {ts : List Tk} {v : T} (hx : (x, sub, m) ∈ xsub) (h : G x none ts v) : ∃ ts1 ts2 a, ts = ts1 ++ ts2 ∧ G sub none ts1 a ∧ G m (some a) ts2 v := by
  have hn := xsub_not _ hx
  generalize eo : (none : Option T) = o at h
  cases h with
  | left hm g1 g2 =>
    have e := xsub_one _ hx _ hm rfl
    obtain ⟨_, e2⟩ := Prod.mk.inj e
    obtain ⟨e3, e4⟩ := Prod.mk.inj e2
    subst e3
    subst e4
    exact ⟨_, _, _, rfl, g1, g2⟩
  | num k => exact absurd List.mem_cons_self hn
  | name z => exact absurd List.mem_cons_self hn
  | par _ => exact absurd List.mem_cons_self hn
  | nil _ => cases eo
  | more _ _ _ _ => cases eo
  | cons1 _ => exact absurd (List.mem_cons_of_mem _ List.mem_cons_self) hn
  | cons2 _ _ => exact absurd (List.mem_cons_of_mem _ List.mem_cons_self) hn
  | cmp1 _ => exact absurd (List.mem_cons_of_mem _ (List.mem_cons_of_mem _ List.mem_cons_self)) hn
  | cmp2 _ _ _ => exact absurd (List.mem_cons_of_mem _ (List.mem_cons_of_mem _ List.mem_cons_self)) hn
  | neg _ => exact absurd (List.mem_cons_of_mem _ (List.mem_cons_of_mem _ List.mem_cons_self)) hn
  | expr _ => exact absurd (List.mem_cons_of_mem _ (List.mem_cons_of_mem _ (List.mem_cons_of_mem _ List.mem_cons_self))) hn
theorem G.snoc {x sub m : Str} {a b : T} {o : Str} {ts ts' : List Tk} (hx : (x, sub, m) ∈ xsub) (hm : (m, sub) ∈ msub) (ho : o ∈ ops m) (h : G x none ts a) (hb : G sub none ts' b) : G x none (ts ++ kw o :: ts') (binT o a b) := by
  obtain ⟨t1, t2, a0, rfl, g1, g2⟩ := h.inv hx
  rw [List.append_assoc]
  exact .left hx g1 (g2.snoc1 hm ho hb)
theorem G.up {x sub m : Str} {ts : List Tk} {v : T} (hx : (x, sub, m) ∈ xsub) (hm : m ∈ mores) (h : G sub none ts v) : G x none ts v := by
  have := G.left hx h (.nil (m := m) hm)
  rw [List.append_nil] at this
  exact this
theorem up_and {ts : List Tk} {v : T} (h : G "<not>" none ts v) : G "<and>" none ts v := G.up (m := "<more-and>") (by decide +kernel) (by decide +kernel) h
theorem up_or {ts : List Tk} {v : T} (h : G "<and>" none ts v) : G "<or>" none ts v := G.up (m := "<more-or>") (by decide +kernel) (by decide +kernel) h
theorem up_prod {ts : List Tk} {v : T} (h : G "<primary>" none ts v) : G "<product>" none ts v := G.up (m := "<more-product>") (by decide +kernel) (by decide +kernel) h
theorem up_sum {ts : List Tk} {v : T} (h : G "<product>" none ts v) : G "<sum>" none ts v := G.up (m := "<more-sum>") (by decide +kernel) (by decide +kernel) h
/-- an expression at each level that it can be read at -/
structure Lev (l : List It) (e : Ex) : Prop where
  or_ : G "<or>" none (l.map It.tk) e.tr
  and_ : ¬ hasO l lv1 → G "<and>" none (l.map It.tk) e.tr
  not_ : ¬ hasO l lor → G "<not>" none (l.map It.tk) e.tr
  cons_ : ¬ hasO l pr3 → It.neg ∉ l → G "<cons>" none (l.map It.tk) e.tr
  sum_ : ¬ hasO l pr4 → It.neg ∉ l → G "<sum>" none (l.map It.tk) e.tr
  prod_ : ¬ hasO l pr5 → It.neg ∉ l → G "<product>" none (l.map It.tk) e.tr
  prim_ : ¬ hasO l lall → It.neg ∉ l → G "<primary>" none (l.map It.tk) e.tr
theorem has_mid {a b : List It} {o : Str} {os : List Str} (ho : o ∈ os) : hasO (a ++ .op o :: b) os := ⟨o, ho, List.mem_append_right _ List.mem_cons_self⟩
theorem tk_mid (a b : List It) (o : Str) : (a ++ .op o :: b).map It.tk = a.map It.tk ++ kw o :: b.map It.tk := by simp [It.tk]
theorem sets : (∀ o ∈ lv1, o ∈ lor ∧ o ∈ pr3 ∧ o ∈ pr4 ∧ o ∈ pr5 ∧ o ∈ lall) ∧ (∀ o ∈ lv2, o ∈ lor ∧ o ∈ pr3 ∧ o ∈ pr4 ∧ o ∈ pr5 ∧ o ∈ lall) ∧ (∀ o ∈ lor, o ∈ pr3 ∧ o ∈ pr4 ∧ o ∈ pr5 ∧ o ∈ lall) ∧ (∀ o ∈ lcm, o ∈ pr3 ∧ o ∈ pr4 ∧ o ∈ pr5 ∧ o ∈ lall) ∧ (∀ o ∈ pr3, o ∈ pr4 ∧ o ∈ pr5 ∧ o ∈ lall) ∧ (∀ o ∈ lco, o ∈ pr4 ∧ o ∈ pr5 ∧ o ∈ lall) ∧ (∀ o ∈ pr4, o ∈ pr5 ∧ o ∈ lall) ∧ (∀ o ∈ lad, o ∈ pr5 ∧ o ∈ lall) ∧ (∀ o ∈ pr5, o ∈ lall) ∧ (∀ o ∈ lmu, o ∈ lall) ∧ (∀ o ∈ lor, o ∈ lv1 ∨ o ∈ lv2) := ⟨by decide +kernel, by decide +kernel, by decide +kernel, by decide +kernel, by decide +kernel, by decide +kernel, by decide +kernel, by decide +kernel, by decide +kernel, by decide +kernel, by decide +kernel⟩
theorem Lev.of_and {l : List It} {e : Ex} {o : Str} (ho : o ∈ lv1) (h : hasO l lv1) (g : G "<or>" none (l.map It.tk) e.tr) : Lev l e :=
  have s := sets.1
  ⟨g, fun n => absurd h n, fun n => absurd h (no_sub n fun o z => (s o z).1), fun n => absurd h (no_sub n fun o z => (s o z).2.1), fun n => absurd h (no_sub n fun o z => (s o z).2.2.1), fun n => absurd h (no_sub n fun o z => (s o z).2.2.2.1), fun n => absurd h (no_sub n fun o z => (s o z).2.2.2.2)⟩
theorem div_ex : ∀ (n : Nat) (l : List It), l.length ≤ n → Valid l → ∃ e, Div l e ∧ e.cnt = l.length ∧ Lev l e
  | 0, l, hl, hv => by
    have : l = [] := List.length_eq_zero_iff.mp (by omega)
    subst this
    obtain ⟨c, h⟩ := hv
    cases h
  | n + 1, l, hl, hv => by
    obtain ⟨s1, s2, s3, s4, s5, s6, s7, s8, s9, s10, s11⟩ := sets
    by_cases h1 : hasO l lv1
    · obtain ⟨o0, ho0, hm0⟩ := h1
      obtain ⟨a, x, b, rfl, ⟨o, rfl, ho⟩, hb⟩ := split_last (fun x => ∃ o, x = It.op o ∧ o ∈ lv1) l ⟨_, hm0, o0, rfl, ho0⟩
      have hb : ¬ hasO b lv1 := fun ⟨o, h1, h2⟩ => hb _ h2 ⟨o, rfl, h1⟩
      obtain ⟨va, vb, _⟩ := valid_split hv
      rw [List.length_append, List.length_cons] at hl
      obtain ⟨x, dx, cx, lx⟩ := div_ex n a (by omega) va
      obtain ⟨y, dy, cy, ly⟩ := div_ex n b (by omega) vb
      have g : G "<or>" none ((a ++ .op o :: b).map It.tk) (binT o x.tr y.tr) := by
        rw [tk_mid]
        exact G.snoc (sub := "<and>") (m := "<more-or>") (by decide +kernel) (by decide +kernel) (by
          have : ∀ o ∈ lv1, o ∈ ops "<more-or>" := by decide +kernel
          exact this o ho) lx.or_ (ly.and_ hb)
      refine ⟨.bin o x y, .bin (os := lv1) (pre := []) (hd := false) (by decide +kernel) ho hb (fun ⟨_, z, _⟩ => by cases z) (fun z => by cases z) dx dy, ?_, Lev.of_and ho (has_mid ho) g⟩
      rw [Ex.cnt, List.length_append, List.length_cons]
      omega
    by_cases h2 : hasO l lv2
    · obtain ⟨o0, ho0, hm0⟩ := h2
      obtain ⟨a, x, b, rfl, ⟨o, rfl, ho⟩, hb⟩ := split_last (fun x => ∃ o, x = It.op o ∧ o ∈ lv2) l ⟨_, hm0, o0, rfl, ho0⟩
      have hb : ¬ hasO b lv2 := fun ⟨o, h1, h2⟩ => hb _ h2 ⟨o, rfl, h1⟩
      obtain ⟨va, vb, _⟩ := valid_split hv
      rw [List.length_append, List.length_cons] at hl
      obtain ⟨x, dx, cx, lx⟩ := div_ex n a (by omega) va
      obtain ⟨y, dy, cy, ly⟩ := div_ex n b (by omega) vb
      have hb2 : ¬ hasO b lor := fun ⟨o, z1, z2⟩ => by
        rcases s11 o z1 with z | z
        · exact no_right h1 ⟨o, z, z2⟩
        · exact hb ⟨o, z, z2⟩
      have g : G "<and>" none ((a ++ .op o :: b).map It.tk) (binT o x.tr y.tr) := by
        rw [tk_mid]
        exact G.snoc (sub := "<not>") (m := "<more-and>") (by decide +kernel) (by decide +kernel) (by
          have : ∀ o ∈ lv2, o ∈ ops "<more-and>" := by decide +kernel
          exact this o ho) (lx.and_ (no_left h1)) (ly.not_ hb2)
      have hh := has_mid (a := a) (b := b) ho
      refine ⟨.bin o x y, .bin (os := lv2) (pre := lv1) (hd := false) (by decide +kernel) ho hb h1 (fun z => by cases z) dx dy, ?_, ⟨up_or g, fun _ => g, fun n => absurd hh (no_sub n fun o z => (s2 o z).1), fun n => absurd hh (no_sub n fun o z => (s2 o z).2.1), fun n => absurd hh (no_sub n fun o z => (s2 o z).2.2.1), fun n => absurd hh (no_sub n fun o z => (s2 o z).2.2.2.1), fun n => absurd hh (no_sub n fun o z => (s2 o z).2.2.2.2)⟩⟩
      rw [Ex.cnt, List.length_append, List.length_cons]
      omega
    have h3 : ¬ hasO l lor := fun ⟨o, z1, z2⟩ => by
      rcases s11 o z1 with z | z
      · exact h1 ⟨o, z, z2⟩
      · exact h2 ⟨o, z, z2⟩
    by_cases hh : ∃ r, l = It.neg :: r
    · obtain ⟨r, rfl⟩ := hh
      rw [List.length_cons] at hl
      obtain ⟨x, dx, cx, lx⟩ := div_ex n r (by omega) (valid_neg hv)
      have g : G "<not>" none ((It.neg :: r).map It.tk) (notT x.tr) := .neg (lx.not_ (no_tail h3))
      refine ⟨.neg x, .neg h3 dx, by rw [Ex.cnt, List.length_cons, cx], ⟨up_or (up_and g), fun _ => up_and g, fun _ => g, fun _ z => absurd List.mem_cons_self z, fun _ z => absurd List.mem_cons_self z, fun _ z => absurd List.mem_cons_self z, fun _ z => absurd List.mem_cons_self z⟩⟩
    have hh : NoHead l := fun r e => hh ⟨r, e⟩
    have hq := valid_quiet hv h3 hh
    have qa : ∀ {a b : List It} {o : Str}, l = a ++ .op o :: b → It.neg ∉ a ∧ It.neg ∉ b := fun e => by
      subst e
      exact ⟨fun z => hq (List.mem_append_left _ z), fun z => hq (List.mem_append_right _ (List.mem_cons_of_mem _ z))⟩
    by_cases h4 : hasO l lcm
    · obtain ⟨o0, ho0, hm0⟩ := h4
      obtain ⟨a, x, b, rfl, ⟨o, rfl, ho⟩, hb⟩ := split_last (fun x => ∃ o, x = It.op o ∧ o ∈ lcm) l ⟨_, hm0, o0, rfl, ho0⟩
      have hb : ¬ hasO b lcm := fun ⟨o, h1, h2⟩ => hb _ h2 ⟨o, rfl, h1⟩
      obtain ⟨na, nb⟩ := qa rfl
      obtain ⟨va, vb, _⟩ := valid_split hv
      have hac : ¬ hasO a lcm := by
        obtain ⟨c, hv⟩ := hv
        obtain ⟨c1, s, g1, g2, _⟩ := run_split hv
        have c0 : c1 = false := (step_op g2).2.1 ho
        subst c0
        intro z
        have := (run_cmp g1 (no_left h3)).2 z
        cases this
      rw [List.length_append, List.length_cons] at hl
      obtain ⟨x, dx, cx, lx⟩ := div_ex n a (by omega) va
      obtain ⟨y, dy, cy, ly⟩ := div_ex n b (by omega) vb
      have g : G "<not>" none ((a ++ .op o :: b).map It.tk) (binT o x.tr y.tr) := by
        rw [tk_mid]
        exact .cmp2 ho (lx.cons_ (no_app (no_left h3) hac) na) (ly.cons_ (no_app (no_right h3) hb) nb)
      have hh2 := has_mid (a := a) (b := b) ho
      refine ⟨.bin o x y, .bin (os := lcm) (pre := lor) (hd := true) (by decide +kernel) ho hb h3 (fun _ => hh) dx dy, ?_, ⟨up_or (up_and g), fun _ => up_and g, fun _ => g, fun n => absurd hh2 (no_sub n fun o z => (s4 o z).1), fun n => absurd hh2 (no_sub n fun o z => (s4 o z).2.1), fun n => absurd hh2 (no_sub n fun o z => (s4 o z).2.2.1), fun n => absurd hh2 (no_sub n fun o z => (s4 o z).2.2.2)⟩⟩
      rw [Ex.cnt, List.length_append, List.length_cons]
      omega
    have h5 : ¬ hasO l pr3 := no_app h3 h4
    by_cases h6 : hasO l lco
    · obtain ⟨o0, ho0, hm0⟩ := h6
      obtain ⟨a, x, b, rfl, ⟨o, rfl, ho⟩, ha⟩ := split_first (fun x => ∃ o, x = It.op o ∧ o ∈ lco) l ⟨_, hm0, o0, rfl, ho0⟩
      have ha : ¬ hasO a lco := fun ⟨o, h1, h2⟩ => ha _ h2 ⟨o, rfl, h1⟩
      obtain rfl : o = "::" := List.mem_singleton.mp ho
      obtain ⟨na, nb⟩ := qa rfl
      obtain ⟨va, vb, _⟩ := valid_split hv
      rw [List.length_append, List.length_cons] at hl
      obtain ⟨x, dx, cx, lx⟩ := div_ex n a (by omega) va
      obtain ⟨y, dy, cy, ly⟩ := div_ex n b (by omega) vb
      have g : G "<cons>" none ((a ++ .op "::" :: b).map It.tk) (consT x.tr y.tr) := by
        rw [tk_mid]
        exact .cons2 (lx.sum_ (no_app (no_left h5) ha) na) (ly.cons_ (no_right h5) nb)
      have gn := G.cmp1 g
      have hh2 := has_mid (a := a) (b := b) ho
      refine ⟨.con x y, .con ha h5 hh dx dy, ?_, ⟨up_or (up_and gn), fun _ => up_and gn, fun _ => gn, fun _ _ => g, fun n => absurd hh2 (no_sub n fun o z => (s6 o z).1), fun n => absurd hh2 (no_sub n fun o z => (s6 o z).2.1), fun n => absurd hh2 (no_sub n fun o z => (s6 o z).2.2)⟩⟩
      rw [Ex.cnt, List.length_append, List.length_cons]
      omega
    have h7 : ¬ hasO l pr4 := no_app h5 h6
    by_cases h8 : hasO l lad
    · obtain ⟨o0, ho0, hm0⟩ := h8
      obtain ⟨a, x, b, rfl, ⟨o, rfl, ho⟩, hb⟩ := split_last (fun x => ∃ o, x = It.op o ∧ o ∈ lad) l ⟨_, hm0, o0, rfl, ho0⟩
      have hb : ¬ hasO b lad := fun ⟨o, h1, h2⟩ => hb _ h2 ⟨o, rfl, h1⟩
      obtain ⟨na, nb⟩ := qa rfl
      obtain ⟨va, vb, _⟩ := valid_split hv
      rw [List.length_append, List.length_cons] at hl
      obtain ⟨x, dx, cx, lx⟩ := div_ex n a (by omega) va
      obtain ⟨y, dy, cy, ly⟩ := div_ex n b (by omega) vb
      have g : G "<sum>" none ((a ++ .op o :: b).map It.tk) (binT o x.tr y.tr) := by
        rw [tk_mid]
        exact G.snoc (sub := "<product>") (m := "<more-sum>") (by decide +kernel) (by decide +kernel) (by
          have : ∀ o ∈ lad, o ∈ ops "<more-sum>" := by decide +kernel
          exact this o ho) (lx.sum_ (no_left h7) na) (ly.prod_ (no_app (no_right h7) hb) nb)
      have gc := G.cons1 g
      have gn := G.cmp1 gc
      have hh2 := has_mid (a := a) (b := b) ho
      refine ⟨.bin o x y, .bin (os := lad) (pre := pr4) (hd := true) (by decide +kernel) ho hb h7 (fun _ => hh) dx dy, ?_, ⟨up_or (up_and gn), fun _ => up_and gn, fun _ => gn, fun _ _ => gc, fun _ _ => g, fun n => absurd hh2 (no_sub n fun o z => (s8 o z).1), fun n => absurd hh2 (no_sub n fun o z => (s8 o z).2)⟩⟩
      rw [Ex.cnt, List.length_append, List.length_cons]
      omega
    have h9 : ¬ hasO l pr5 := no_app h7 h8
    by_cases h10 : hasO l lmu
    · obtain ⟨o0, ho0, hm0⟩ := h10
      obtain ⟨a, x, b, rfl, ⟨o, rfl, ho⟩, hb⟩ := split_last (fun x => ∃ o, x = It.op o ∧ o ∈ lmu) l ⟨_, hm0, o0, rfl, ho0⟩
      have hb : ¬ hasO b lmu := fun ⟨o, h1, h2⟩ => hb _ h2 ⟨o, rfl, h1⟩
      obtain ⟨na, nb⟩ := qa rfl
      obtain ⟨va, vb, _⟩ := valid_split hv
      rw [List.length_append, List.length_cons] at hl
      obtain ⟨x, dx, cx, lx⟩ := div_ex n a (by omega) va
      obtain ⟨y, dy, cy, ly⟩ := div_ex n b (by omega) vb
      have g : G "<product>" none ((a ++ .op o :: b).map It.tk) (binT o x.tr y.tr) := by
        rw [tk_mid]
        exact G.snoc (sub := "<primary>") (m := "<more-product>") (by decide +kernel) (by decide +kernel) (by
          have : ∀ o ∈ lmu, o ∈ ops "<more-product>" := by decide +kernel
          exact this o ho) (lx.prod_ (no_left h9) na) (ly.prim_ (no_app (no_right h9) hb) nb)
      have gs := up_sum g
      have gc := G.cons1 gs
      have gn := G.cmp1 gc
      have hh2 := has_mid (a := a) (b := b) ho
      refine ⟨.bin o x y, .bin (os := lmu) (pre := pr5) (hd := true) (by decide +kernel) ho hb h9 (fun _ => hh) dx dy, ?_, ⟨up_or (up_and gn), fun _ => up_and gn, fun _ => gn, fun _ _ => gc, fun _ _ => gs, fun _ _ => g, fun n => absurd hh2 (no_sub n fun o z => s10 o z)⟩⟩
      rw [Ex.cnt, List.length_append, List.length_cons]
      omega
    have h11 : ¬ hasO l lall := no_app h9 h10
    rcases valid_leaf hv h11 hh with ⟨k, rfl⟩ | ⟨z, rfl⟩
    · have g : G "<primary>" none ([It.num k].map It.tk) (Ex.num k).tr := .num _
      have gp := up_prod g
      have gs := up_sum gp
      have gc := G.cons1 gs
      have gn := G.cmp1 gc
      exact ⟨.num k, .num k, rfl, ⟨up_or (up_and gn), fun _ => up_and gn, fun _ => gn, fun _ _ => gc, fun _ _ => gs, fun _ _ => gp, fun _ _ => g⟩⟩
    · have g : G "<primary>" none ([It.name z].map It.tk) (Ex.name z).tr := .name _
      have gp := up_prod g
      have gs := up_sum gp
      have gc := G.cons1 gs
      have gn := G.cmp1 gc
      exact ⟨.name z, .name z, rfl, ⟨up_or (up_and gn), fun _ => up_and gn, fun _ => gn, fun _ _ => gc, fun _ _ => gs, fun _ _ => gp, fun _ _ => g⟩⟩
/-! ### how deep a division is -/
def nOps : List It → Nat
  | [] => 0
  | .op _ :: r => nOps r + 1
  | _ :: r => nOps r
theorem nOps_app : ∀ a b : List It, nOps (a ++ b) = nOps a + nOps b
  | [], b => by rw [nOps, List.nil_append]; omega
  | x :: a, b => by
    have := nOps_app a b
    cases x with
    | op o =>
      show nOps (a ++ b) + 1 = nOps a + 1 + nOps b
      omega
    | neg => exact this
    | num k => exact this
    | name z => exact this
theorem Div.dp_le {l : List It} {e : Ex} (h : Div l e) : (Valid l → e.dp ≤ nOps l + 2) ∧ (It.neg ∉ l → e.dp ≤ nOps l + 1) := by
  induction h with
  | @bin a b o os pre hd x y hm ho hb hp hh dx dy ihx ihy =>
    rw [nOps_app, show nOps (It.op o :: b) = nOps b + 1 from rfl, Ex.dp]
    refine ⟨fun hv => ?_, fun hn => ?_⟩
    · obtain ⟨va, vb, _⟩ := valid_split hv
      have h1 := ihx.1 va
      have h2 := ihy.1 vb
      omega
    · have h1 := ihx.2 fun z => hn (List.mem_append_left _ z)
      have h2 := ihy.2 fun z => hn (List.mem_append_right _ (List.mem_cons_of_mem _ z))
      omega
  | @con a b x y ha hp hh dx dy ihx ihy =>
    rw [nOps_app, show nOps (It.op "::" :: b) = nOps b + 1 from rfl, Ex.dp]
    refine ⟨fun hv => ?_, fun hn => ?_⟩
    · obtain ⟨va, vb, _⟩ := valid_split hv
      have h1 := ihx.1 va
      have h2 := ihy.1 vb
      omega
    · have h1 := ihx.2 fun z => hn (List.mem_append_left _ z)
      have h2 := ihy.2 fun z => hn (List.mem_append_right _ (List.mem_cons_of_mem _ z))
      omega
  | @neg r x hl dx ih =>
    rw [show nOps (It.neg :: r) = nOps r from rfl, Ex.dp]
    refine ⟨fun hv => ?_, fun hn => absurd List.mem_cons_self hn⟩
    obtain ⟨c, hv⟩ := hv
    have hq : It.neg ∉ r := run_quiet (s := .exp false false) hv rfl (no_tail hl)
    have := ih.2 hq
    omega
  | num k => exact ⟨fun _ => by show 1 ≤ _; omega, fun _ => by show 1 ≤ _; omega⟩
  | name k => exact ⟨fun _ => by show 1 ≤ _; omega, fun _ => by show 1 ≤ _; omega⟩
end Q23
namespace DM
open PySem PySem.Spec PyProof.Rows L2 SX HL
/-! ## the row of a module: sorting, putting -/
theorem zip_k {α : Type} (key : α → PyData) : ∀ (es : List α) (us : List V), (es.zip us).map (fun z => (z.2, key z.1)) = us.zip (es.map key)
  | [], us => by cases us <;> rfl
  | k :: ks, [] => rfl
  | k :: ks, t :: ts => congrArg (_ :: ·) (zip_k key ks ts)
theorem byKey_rows {α : Type} (es : List α) (us : List V) (key : α → PyData) : ∃ zs : List (α × V), zs.Perm (es.zip us) ∧ HS.byKey us (es.map key) = zs.map (fun z => z.2) ∧
    zs.Pairwise fun a b => PySem.W.dataLe false (Prod.snd (α := V)) (a.2, key a.1) (b.2, key b.1) = true := by
  refine ⟨(es.zip us).mergeSort (PySem.W.sortLe (PyProof.Rows.listOrd PyProof.Rows.itemOrd) false fun z : α × V => PySem.W.keyToks (key z.1)), List.mergeSort_perm _ _, ?_, ?_⟩
  · unfold HS.byKey
    rw [← zip_k, ← PySem.W.sort_maps (r := PySem.W.sortLe (PyProof.Rows.listOrd PyProof.Rows.itemOrd) false fun z : α × V => PySem.W.keyToks (key z.1)) (fun z : α × V => (z.2, key z.1)) (fun _ _ _ _ => rfl), List.map_map]
    rfl
  · exact PySem.W.sort_pairwise (PySem.W.sortLe_total _ _ _) _
theorem mD_alike (a b : Mark) : PySem.W.alike (mD a) (mD b) = true := by
  simp [mD, di, PySem.W.alike, PySem.W.alikeAll]
theorem mD_le {a b : Mark} {x y : V} (h : PySem.W.dataLe false (Prod.snd (α := V)) (x, mD a) (y, mD b) = true) : a = b ∨ mlt a b := by
  unfold PySem.W.dataLe PySem.W.sortLe at h
  simp [mD, di, PySem.W.keyToks, PySem.W.keyToksAll] at h
  rw [PyProof.Rows.lex_cons, PyProof.Rows.lex_cons, PyProof.Rows.lex_cons, PyProof.Rows.lex_cons] at h
  have e1 : itemOrd.blt (Sum.inl (1 : Int)) (Sum.inl (1 : Int)) = false := by decide
  have e2 : ∀ a b : Int, itemOrd.blt (Sum.inl a) (Sum.inl b) = decide (a < b) := fun _ _ => rfl
  rw [e1, e2, e2, e2, e2] at h
  simp only [Bool.not_false, Bool.true_and, Bool.false_or, Bool.or_eq_false_iff, Bool.and_eq_false_iff, Bool.not_eq_false', decide_eq_true_eq, decide_eq_false_iff_not] at h
  obtain ⟨a1, a2⟩ := a
  obtain ⟨b1, b2⟩ := b
  unfold mlt
  simp only at h ⊢
  by_cases q : a1 = b1 ∧ a2 = b2
  · exact .inl (Prod.ext q.1 q.2)
  · refine .inr ?_
    omega
theorem srt_of {rows : Rows} {m : List Nat} (G : Good rows) {us : List V} {zs : List (EntF × V)} (hl : us.length = (found rows m).length) (hp : zs.Perm ((found rows m).zip us))
    (ho : zs.Pairwise fun a b => PySem.W.dataLe false (Prod.snd (α := V)) (a.2, mD a.1.1) (b.2, mD b.1.1) = true) : Srt rows m (zs.map (·.1)) := by
  have h1 : (zs.map (·.1)).Perm (found rows m) := by
    have := hp.map (·.1)
    rwa [List.map_fst_zip (by omega)] at this
  refine ⟨h1, ?_⟩
  have h2 : ((zs.map (·.1)).map (fun e : EntF => e.1)).Nodup := (h1.map (fun e : EntF => e.1)).nodup_iff.mpr (marks_nodup G m)
  rw [List.map_map] at h2
  have h3 : zs.Pairwise fun a b => a.1.1 ≠ b.1.1 := List.pairwise_map.mp h2
  rw [List.pairwise_map]
  exact (List.Pairwise.and ho h3).imp fun {a b} h => (mD_le h.1).resolve_left h.2
theorem all2_zip {α β : Type} {R : α → β → Prop} : ∀ {xs : List α} {ys : List β}, All2 R xs ys → ∀ z ∈ ys.zip xs, R z.2 z.1
  | _, _, .nil, z, h => by cases h
  | _, _, .cons h t, z, hz => by
    rcases List.mem_cons.mp hz with e | hz
    · rw [e]; exact h
    · exact all2_zip t z hz
theorem all2_of_zip {α β : Type} {R : α → β → Prop} : ∀ {zs : List (β × α)}, (∀ z ∈ zs, R z.2 z.1) → All2 R (zs.map (·.2)) (zs.map (·.1))
  | [], _ => .nil
  | z :: zs, h => .cons (h z (List.mem_cons_self ..)) (all2_of_zip fun y hy => h y (List.mem_cons_of_mem _ hy))
theorem insertIdx_eq {α : Type} (x : α) : ∀ (i : Nat) (l : List α), i ≤ l.length → l.insertIdx i x = l.take i ++ [x] ++ l.drop i
  | 0, l, _ => rfl
  | i + 1, [], h => absurd h (Nat.not_succ_le_zero _)
  | i + 1, a :: l, h => by
    show a :: l.insertIdx i x = a :: (l.take i ++ [x] ++ l.drop i)
    rw [insertIdx_eq x i l (Nat.le_of_succ_le_succ h)]
theorem all2_ins {α β : Type} {R : α → β → Prop} {x : α} {y : β} (h : R x y) : ∀ {xs : List α} {ys : List β}, All2 R xs ys → ∀ i, All2 R (xs.take i ++ [x] ++ xs.drop i) (ys.take i ++ [y] ++ ys.drop i)
  | _, _, .nil, i => by
    rw [List.take_nil, List.drop_nil, List.take_nil, List.drop_nil]
    exact .cons h .nil
  | _, _, .cons h1 t, 0 => .cons h (.cons h1 t)
  | _, _, .cons h1 t, i + 1 => .cons h1 (all2_ins h t i)
theorem all2_app {α β : Type} {R : α → β → Prop} : ∀ {xs : List α} {ys : List β} {xs' : List α} {ys' : List β}, All2 R xs ys → All2 R xs' ys' → All2 R (xs ++ xs') (ys ++ ys')
  | _, _, _, _, .nil, h => h
  | _, _, _, _, .cons h1 t, h => .cons h1 (all2_app t h)
theorem idx_none {l : List Mark} {x y : Mark} {m : Nat} (h : m < l.idxOf x) (hy : l[m]? = some y) : y ≠ x := fun e => by
  subst e
  obtain ⟨h1, h2⟩ := List.getElem?_eq_some_iff.mp hy
  have := List.not_of_lt_findIdx (p := fun x : Mark => x == y) (xs := l) h
  rw [h2] at this
  simp at this
def EntFP (H : Hp) (x : V) (e : EntF) : Prop := ∃ t xm xb, x = .ref t ∧ H t = some (.tup [xm, xb, .str (S [e.2.2.1]), .bl e.2.2.2]) ∧ MkAt H xm e.1 ∧ OMk H xb e.2.1
def CelP (H : Hp) (x : V) (c : Cel) : Prop := ∃ t xm, x = .ref t ∧ H t = some (.tup [xm, .str (S [c.2.1]), .bl c.2.2]) ∧ MkAt H xm c.1
theorem EntFP.keep {H H' : Hp} {x : V} {c : EntF} (h : EntFP H x c) (k : TupK H H') : EntFP H' x c := by
  obtain ⟨t, xm, xb, e, ht, h1, h2⟩ := h
  exact ⟨t, xm, xb, e, k _ _ ht, h1.keep k, h2.keep k⟩
theorem CelP.keep {H H' : Hp} {x : V} {c : Cel} (h : CelP H x c) (k : TupK H H') : CelP H' x c := by
  obtain ⟨t, xm, e, ht, h1⟩ := h
  exact ⟨t, xm, e, k _ _ ht, h1.keep k⟩
theorem extN_tk {H H' : Hp} (e : LamX.ExtN H H') : TupK H H' := fun a o h => e a _ h fun ps z => nomatch z
theorem RowsAt.keepN {H H' : Hp} {A : Addr} {rs : List Addr} {rows : Rows} (R : RowsAt H A rs rows) (s : LamX.ExtN H H') : RowsAt H' A rs rows :=
  ⟨s _ _ R.h (fun ps z => nomatch z), R.n, fun i a h => by obtain ⟨us, h1, h2⟩ := R.r i a h; exact ⟨us, s _ _ h1 (fun ps z => nomatch z), h2.mono fun v d h => h.keep (extN_tk s)⟩⟩
/-- as before but for the list at l -/
def ButL (l : Addr) (H H' : Hp) : Prop := ∀ a o, H a = some o → a ≠ l → H' a = some o
theorem ButL.refl {l : Addr} {H : Hp} : ButL l H H := fun _ _ h _ => h
theorem ButL.trans {l : Addr} {H H1 H2 : Hp} (a : ButL l H H1) (b : ButL l H1 H2) : ButL l H H2 := fun x o h n => b x o (a x o h n) n
theorem Same.but {l : Addr} {H H' : Hp} (s : Same H H') : ButL l H H' := fun a o h _ => s a o h
theorem ButL.upd {l : Addr} {H : Hp} {o : HO} : ButL l H (upd H l o) := fun a _ h n => by rw [upd_ne n]; exact h
theorem ButL.tk {l : Addr} {H H' : Hp} {xs : List V} (h : H l = some (.lst xs)) (b : ButL l H H') : TupK H H' := fun a o e => b a _ e fun z => by rw [z, h] at e; cases e
theorem ButL.same {l : Addr} {H H1 H2 : Hp} (h : H l = none) (s : Same H H1) (b : ButL l H1 H2) : Same H H2 := fun a o e => b a _ (s a o e) (ne_of_none e h)
theorem flat_take {α β : Type} {f : α → List β} {l : List α} {i : Nat} {c : α} (h : l[i]? = some c) : (l.take (i + 1)).flatMap f = (l.take i).flatMap f ++ f c := by
  rw [take_snoc h, List.flatMap_append, List.flatMap_singleton]
def remF (c : Chg) : List Mark := if c.2.2 then remD c.2.1 else []
theorem removed_eq (rows : Rows) (m : List Nat) : removed rows m = (changes rows m).flatMap remF := rfl
def toF (f : Bool) (e : Ent) : EntF := (e.1, e.2.1, e.2.2, f)
theorem entF_eq (c : Chg) : entF c = (entD c.1 c.2.1).map (toF c.2.2) := rfl
theorem pre_len {α β : Type} (f : α → List β) (l : List α) (i : Nat) : ((l.take i).flatMap f).length ≤ (l.flatMap f).length := by
  have : l.flatMap f = (l.take i).flatMap f ++ (l.drop i).flatMap f := by rw [← List.flatMap_append, List.take_append_drop]
  rw [this, List.length_append]
  omega
theorem tabs_but {T : List (Addr × Str)} {l : Addr} {H H' : Hp} {xs : List V} (h : LamX.Tabs T H) (hl : H l = some (.lst xs)) (b : ButL l H H') : LamX.Tabs T H' := fun p hp => by
  obtain ⟨ps, h1, h2, h3⟩ := h p hp
  refine ⟨ps, b _ _ h1 (fun e => by rw [e, hl] at h1; cases h1), h2, fun pos cv hc => ?_⟩
  obtain ⟨c, e, hc⟩ := h3 pos cv hc
  refine ⟨c, e, b _ _ hc (fun z => by rw [z, hl] at hc; cases hc)⟩
theorem any_eqv (rm : List Mark) (x : Mark) : ((rm.map mD).any fun z => PyData.eqv z (mD x)) = decide (x ∈ rm) := by
  rw [Bool.eq_iff_iff, decide_eq_true_iff, List.any_eq_true]
  constructor
  · rintro ⟨z, hz, e⟩
    obtain ⟨y, hy, rfl⟩ := List.mem_map.mp hz
    rw [eqv_mark, decide_eq_true_iff] at e
    rw [← e]
    exact hy
  · intro h
    exact ⟨mD x, List.mem_map.mpr ⟨x, h, rfl⟩, by rw [eqv_mark]; exact decide_eq_true rfl⟩
theorem put_step {H H' : Hp} {us : List V} {es : List EntF} {rm : List Mark} {i : Nat} {e : EntF} {t : Addr} {xm : V} {bb : Bool} (he : es[i]? = some e) (hu : All2 (CelP H) us (build rm (es.take i))) (k : TupK H H')
    (hs : ∀ x, e.2.1 = some x → x ∈ (build rm (es.take i)).map (·.1)) (hb : bb = (e.2.2.2 && !decide (e.1 ∈ rm))) (ht : H' t = some (.tup [xm, .str (S [e.2.2.1]), .bl bb])) (hm : MkAt H' xm e.1) :
    All2 (CelP H') (us.take (slot e.2.1 (build rm (es.take i))) ++ [.ref t] ++ us.drop (slot e.2.1 (build rm (es.take i)))) (build rm (es.take (i + 1))) := by
  rw [take_snoc he, build_snoc]
  unfold put
  rw [insertIdx_eq _ _ _ (slot_le hs)]
  subst hb
  exact all2_ins ⟨t, xm, rfl, ht, hm⟩ (hu.mono fun v e h => h.keep k) _
theorem all2_take {α β : Type} {R : α → β → Prop} : ∀ {xs : List α} {ys : List β}, All2 R xs ys → ∀ i, All2 R (xs.take i) (ys.take i)
  | _, _, .nil, i => by
    rw [List.take_nil, List.take_nil]
    exact .nil
  | _, _, .cons h1 t, 0 => .nil
  | _, _, .cons h1 t, i + 1 => .cons h1 (all2_take t i)
theorem all2_some {H : Hp} : ∀ {us : List V} {x : List Mark}, All2 (MkAt H) us x → All2 (OMk H) us (x.map some)
  | _, _, .nil => .nil
  | _, _, .cons h t => .cons h (all2_some t)
structure Fits (W : Rows) (r : Nat) (d : Deed) : Prop where
  ok : DOk d
  num : ∀ m x b n t, d = .change m x b n t → ∀ e ∈ W r, endD e ≤ n
  nam : ∀ m x b n t, d = .change m x b n t → ∀ y ∈ x ++ b.toList, y ∈ marks W m ∧ y.1 < n
theorem hu65 {k : Nat} {A : Around} (hr : Room k A) : A.units + 65 < cLine := by
  have := hr.un
  omega
theorem build_len (rm : List Mark) {rows : Rows} {m : List Nat} {es : List EntF} (G : Good rows) (S : Srt rows m es) {i : Nat} (hi : i ≤ es.length) : (build rm (es.take i)).length = i := by
  have := (build_perm G S rm i hi).1.length_eq
  rw [List.length_map, List.length_map, List.length_take] at this
  omega
end DM
namespace Q23
open PySem PySem.Spec PyProof.Rows L2 SX HL
/-! ## the items in the heap -/
def ItAt (H : Hp) : V → It → Prop
  | u, .neg => u = .str "not"
  | u, .op o => u = .str o
  | u, .num k => ∃ t, u = .ref t ∧ H t = some (.tup [.str "number", .int (k : Int)])
  | u, .name z => ∃ t, u = .ref t ∧ H t = some (.tup [.str "name", .str (S z)])
theorem ItAt.keep {H H' : Hp} (k : TupK H H') {u : V} {x : It} (h : ItAt H u x) : ItAt H' u x := by
  cases x with
  | neg => exact h
  | op o => exact h
  | num n =>
    obtain ⟨t, e, ht⟩ := h
    exact ⟨t, e, k _ _ ht⟩
  | name z =>
    obtain ⟨t, e, ht⟩ := h
    exact ⟨t, e, k _ _ ht⟩
abbrev IsAt (H : Hp) (us : List V) (l : List It) : Prop := All2 (ItAt H) us l
theorem IsAt.keep {H H' : Hp} (k : TupK H H') {us : List V} {l : List It} (h : IsAt H us l) : IsAt H' us l := All2.mono h fun _ _ x => x.keep k
def itD : It → PyData
  | .neg => .str "not"
  | .op o => .str o
  | .num k => .tuple [.str "number", .int (k : Int)]
  | .name z => .tuple [.str "name", .str (S z)]
theorem ItAt.dp {K : PySem.W.Frag} {H : Hp} {u : V} {x : It} (h : ItAt H u x) : Dp K H u (itD x) := by
  cases x with
  | neg => rw [show u = .str "not" from h]; exact .str _
  | op o => rw [show u = .str o from h]; exact .str _
  | num n =>
    obtain ⟨t, rfl, ht⟩ := h
    exact .tup (SqT.of ht) (.cons (.str _) (.cons (.int _) .nil))
  | name z =>
    obtain ⟨t, rfl, ht⟩ := h
    exact .tup (SqT.of ht) (.cons (.str _) (.cons (.str _) .nil))
theorem IsAt.dp {K : PySem.W.Frag} {H : Hp} {us : List V} {l : List It} {a : Addr} (ha : H a = some (.lst us)) (h : IsAt H us l) : Dp K H (.ref a) (.list (l.map itD)) := .lst (SqL.of ha) (DM.dpAll_of (fun _ _ h => ItAt.dp h) h)
def itOk : It → Prop
  | .op o => PyData.strOk o = true ∧ o ≠ "not"
  | .name z => PyData.strOk (S z) = true
  | _ => True
theorem ok_not : PyData.strOk ("not" : Str) = true ∧ PyData.strOk ("number" : Str) = true ∧ PyData.strOk ("name" : Str) = true := by decide +kernel
theorem shaped_it {x : It} (h : itOk x) : SeqAt.shaped (itD x) = true := by
  obtain ⟨o1, o2, o3⟩ := ok_not
  cases x with
  | neg => simp [SeqAt.shaped, itD, PyData.canLay0, PyData.canLayAll0, PyData.depth, PyData.depthAll, o1]
  | op o =>
    have h : PyData.strOk o = true := h.1
    simp [SeqAt.shaped, itD, PyData.canLay0, PyData.canLayAll0, PyData.depth, PyData.depthAll, h]
  | num k => simp [SeqAt.shaped, itD, PyData.canLay0, PyData.canLayAll0, PyData.depth, PyData.depthAll, o2]
  | name z =>
    have h : PyData.strOk (S z) = true := h
    simp [SeqAt.shaped, itD, PyData.canLay0, PyData.canLayAll0, PyData.depth, PyData.depthAll, o3, h]
theorem can_its : ∀ l : List It, (∀ x ∈ l, itOk x) → PyData.canLayAll0 (l.map itD) = true ∧ PyData.depthAll (l.map itD) ≤ 2
  | [], _ => ⟨rfl, Nat.zero_le _⟩
  | x :: l, hx => by
    obtain ⟨h1, h2⟩ := can_its l fun y hy => hx y (List.mem_cons_of_mem _ hy)
    have h := hx x List.mem_cons_self
    obtain ⟨o1, o2, o3⟩ := ok_not
    have h3 : PyData.canLay0 (itD x) = true ∧ PyData.depth (itD x) ≤ 2 := by
      cases x with
      | neg => simp [itD, PyData.canLay0, PyData.canLayAll0, PyData.depth, PyData.depthAll, o1]
      | op o =>
        have h : PyData.strOk o = true := h.1
        simp [itD, PyData.canLay0, PyData.canLayAll0, PyData.depth, PyData.depthAll, h]
      | num k => simp [itD, PyData.canLay0, PyData.canLayAll0, PyData.depth, PyData.depthAll, o2]
      | name z =>
        have h : PyData.strOk (S z) = true := h
        simp [itD, PyData.canLay0, PyData.canLayAll0, PyData.depth, PyData.depthAll, o3, h]
    refine ⟨?_, ?_⟩
    · show (PyData.canLay0 (itD x) && PyData.canLayAll0 (l.map itD)) = true
      rw [h3.1, h1]
      rfl
    · show max (PyData.depth (itD x)) (PyData.depthAll (l.map itD)) ≤ 2
      omega
theorem shaped_its {l : List It} (h : ∀ x ∈ l, itOk x) : SeqAt.shaped (.list (l.map itD)) = true := by
  obtain ⟨h1, h2⟩ := can_its l h
  simp only [SeqAt.shaped, PyData.canLay0, PyData.depth, Bool.and_eq_true, decide_eq_true_eq]
  exact ⟨h1, decide_eq_true (by omega)⟩
theorem strs_can : ∀ l : List Str, (∀ x ∈ l, PyData.strOk x = true) → PyData.canLayAll0 (l.map PyData.str) = true ∧ PyData.depthAll (l.map PyData.str) ≤ 1
  | [], _ => ⟨rfl, Nat.zero_le _⟩
  | x :: l, hx => by
    obtain ⟨h1, h2⟩ := strs_can l fun y hy => hx y (List.mem_cons_of_mem _ hy)
    have h := hx x List.mem_cons_self
    refine ⟨?_, ?_⟩
    · show (PyData.canLay0 (.str x) && PyData.canLayAll0 (l.map PyData.str)) = true
      rw [h1, show PyData.canLay0 (.str x) = true by simp [PyData.canLay0, h]]
      rfl
    · show max (PyData.depth (.str x)) (PyData.depthAll (l.map PyData.str)) ≤ 1
      have : PyData.depth (.str x) = 0 := by simp [PyData.depth]
      omega
theorem shaped_strs {l : List Str} (h : ∀ x ∈ l, PyData.strOk x = true) : SeqAt.shaped (.list (l.map PyData.str)) = true := by
  obtain ⟨h1, h2⟩ := strs_can l h
  simp only [SeqAt.shaped, PyData.canLay0, PyData.depth, Bool.and_eq_true, decide_eq_true_eq]
  exact ⟨h1, decide_eq_true (by omega)⟩
theorem dp_strs {K : PySem.W.Frag} {H : Hp} {a : Addr} {l : List Str} (h : H a = some (.lst (l.map V.str))) : Dp K H (.ref a) (.list (l.map PyData.str)) := by
  refine .lst (SqL.of h) ?_
  clear h
  induction l with
  | nil => exact .nil
  | cons x l ih => exact .cons (.str _) ih
/-- is the item one of these texts -/
def isO (x : It) (os : List Str) : Bool := match x with
  | .neg => decide (("not" : Str) ∈ os)
  | .op o => decide (o ∈ os)
  | _ => false
theorem any_o (x : It) (os : List Str) : ((os.map PyData.str).any fun z => PyData.eqv z (itD x)) = isO x os := by
  induction os with
  | nil => cases x <;> rfl
  | cons o os ih =>
    rw [List.map_cons, List.any_cons, ih]
    cases x with
    | neg =>
      rw [Bool.eq_iff_iff]
      simp only [itD, isO, PyData.eqv, Bool.or_eq_true, beq_iff_eq, decide_eq_true_eq, List.mem_cons]
      exact ⟨fun h => h.imp (fun e => e.symm) id, fun h => h.imp (fun e => e.symm) id⟩
    | op p =>
      rw [Bool.eq_iff_iff]
      simp only [itD, isO, PyData.eqv, Bool.or_eq_true, beq_iff_eq, decide_eq_true_eq, List.mem_cons]
      exact ⟨fun h => h.imp (fun e => e.symm) id, fun h => h.imp (fun e => e.symm) id⟩
    | num k => simp [itD, isO, PyData.eqv]
    | name k => simp [itD, isO, PyData.eqv]
section
variable {P : Program} {w : World} {K : PySem.W.Frag} {mg : Str → Option Value} {base : Heap}
/-! ### _law_last -/
def spLast : Sp := fun vs H Q _ => ∃ (a q : Addr) (us : List V) (l : List It) (os : List Str), vs = [.ref a, .ref q] ∧ H a = some (.lst us) ∧ IsAt H us l ∧ H q = some (.lst (os.map V.str)) ∧ ("not" : Str) ∉ os ∧ l.length ≤ 1000 ∧ (∀ x ∈ l, itOk x) ∧ (∀ x ∈ os, PyData.strOk x = true) ∧
  (¬ hasO l os → Q (.int (-1)) H) ∧ ∀ x o y, l = x ++ .op o :: y → o ∈ os → ¬ hasO y os → Q (.int (x.length : Nat)) H
theorem ok_last {k : Nat} (Z : Defs K mg) (R : Rest P w K mg Z) : FnOk P w K mg base CX0 (k + 1) Z.fLawLast Z.fdLawLast ["items", "operators"] spLast := by
  have T := R.T
  refine Z.DLawLast.F.ok scLawLast (fun vs H Q E h => ?_) (fun cdv A outer s H vs Q E hr h => ?_)
  · obtain ⟨a, q, us, l, os, rfl, _⟩ := h
    rfl
  · obtain ⟨a, q, us, l, os, rfl, ha, hl, hq, hno, hz, hk1, hk2, q1, q2⟩ := h
    refine ⟨_, (pss_cons (ps_for PassesOwn.never rfl (pi_range1 (by rfl) T.range (pa_cons (pe_callB call_len_seq (by rfl) T.len PySem.boot_len (pa_cons (pv 0) pa_nil)) pa_nil)) (pg_name (i := 2) scLawLast.nd rfl (.inl rfl)) (pss_one (ps_if (pt_cmpR (HX.op_inDK (K := K) rfl (DM.hu65 hr)) (pe_ix ix_list (pv 0) (pe_op op_sub (pe_op op_sub (pe_callB call_len_seq (by rfl) T.len PySem.boot_len (pa_cons (pv 0) pa_nil)) pe_int) (pv 2)) (fun _ _ => rfl)) (pv 1) rfl) (pss_one (ps_ret (pe_op op_sub (pe_op op_sub (pe_callB call_len_seq (by rfl) T.len PySem.boot_len (pa_cons (pv 0) pa_nil)) pe_int) (pv 2)))) pss_nil)))
        (pss_one (ps_ret (pe_un un_neg pe_int)))), ?_⟩
    have hlen := hl.len
    refine ⟨_, rfl, a, us, rfl, .inl (SqL.of ha), _, rfl, by omega, by omega, ?_⟩
    refine for_range (lo := 0) (n := us.length) (fun i σ H' => H' = H ∧ i ≤ l.length ∧ ¬ hasO (l.drop (l.length - i)) os ∧ ∃ y, σ = [some (.ref a), some (.ref q), y]) ⟨rfl, Nat.zero_le _, ?_, none, rfl⟩ ?_ ?_
    · rw [Nat.sub_zero, List.drop_length]
      rintro ⟨o, _, h⟩
      cases h
    · rintro i σ H' hi ⟨rfl, h1, h2, y, rfl⟩
      have hi2 : i < l.length := by omega
      obtain ⟨j, hj⟩ : ∃ j, j = l.length - 1 - i := ⟨_, rfl⟩
      have hjl : j < l.length := by omega
      obtain ⟨x, hx⟩ : ∃ x, l[j]? = some x := ⟨_, List.getElem?_eq_getElem hjl⟩
      obtain ⟨u, hu, hit⟩ := hl.getR hx
      have ej : ((us.length : Nat) : Int) - 1 - (0 + (i : Int)) = ((j : Nat) : Int) := by omega
      have hat : atI us (((us.length : Nat) : Int) - 1 - (0 + (i : Int))) = some u := by
        rw [ej]
        exact atI_nat hu
      refine ⟨_, rfl, _, rfl, a, us, rfl, .inl (SqL.of ha), _, _, rfl, rfl, _, rfl, _, _, rfl, rfl, a, us, _, u, rfl, rfl, SqL.of ha, hat, _, rfl, itD x, os.map PyData.str, hit.dp, dp_strs hq, shaped_it (hk1 x (List.mem_of_getElem? hx)), shaped_strs hk2, _, rfl, ?_⟩
      rw [any_o]
      have ed : l.drop j = x :: l.drop (l.length - i) := by
        rw [List.drop_eq_getElem_cons hjl]
        have e1 : l[j] = x := by
          rw [List.getElem?_eq_getElem hjl] at hx
          exact Option.some.inj hx
        rw [e1, show j + 1 = l.length - i by omega]
      cases hb : isO x os with
      | true =>
        refine iteT ⟨_, rfl, a, us, rfl, .inl (SqL.of ha), _, _, rfl, rfl, _, rfl, _, _, rfl, rfl, ?_⟩
        show Q (.int (((us.length : Nat) : Int) - 1 - (0 + (i : Int)))) H'
        rw [ej]
        cases x with
        | neg => exact absurd (of_decide_eq_true hb) hno
        | num k => cases hb
        | name k => cases hb
        | op o =>
          have e2 : l = l.take j ++ .op o :: l.drop (l.length - i) := by
            rw [← ed, List.take_append_drop]
          have := q2 (l.take j) o (l.drop (l.length - i)) e2 (of_decide_eq_true hb) h2
          rw [List.length_take, Nat.min_eq_left (by omega)] at this
          exact this
      | false =>
        refine iteF ⟨rfl, by omega, ?_, _, rfl⟩
        rw [show l.length - (i + 1) = j by omega, ed]
        rintro ⟨o, ho, hm⟩
        rcases List.mem_cons.mp hm with e | e
        · subst e
          have : decide (o ∈ os) = false := hb
          rw [decide_eq_true ho] at this
          cases this
        · exact h2 ⟨o, ho, e⟩
    · rintro σ H' ⟨rfl, h1, h2, y, rfl⟩
      rw [hlen, Nat.sub_self, List.drop_zero] at h2
      exact ⟨1, rfl, q1 h2⟩
end
end Q23
namespace Q23
open PySem PySem.Spec PyProof.Rows L2 SX HL
theorem cut_head (us : List V) (n : Nat) (hn : n ≤ us.length) : cutV us none (some (n : Int)) = us.take n := by
  unfold cutV
  rw [HT.sIx_none, HT.sIx_nat, Nat.min_eq_left hn, List.drop_zero, Nat.sub_zero]
theorem cut_from (us : List V) (n : Nat) (hn : n ≤ us.length) : cutV us (some (n : Int)) none = us.drop n := by
  unfold cutV
  rw [HT.sIx_none, HT.sIx_nat, Nat.min_eq_left hn]
  exact List.take_of_length_le (by rw [List.length_drop]; omega)
section
variable {P : Program} {w : World} {K : PySem.W.Frag} {mg : Str → Option Value} {base : Heap}
/-! ### _law_split, _law_divided -/
def spDiv (d : Nat) : Sp := fun vs H Q _ => ∃ (a : Addr) (us : List V) (l : List It) (e : Ex), vs = [.ref a] ∧ H a = some (.lst us) ∧ IsAt H us l ∧ Div l e ∧ e.dp ≤ d ∧ l.length ≤ 1000 ∧ (∀ x ∈ l, itOk x) ∧ ∀ H' u, Same H H' → TrAt H' e.tr u → Q u H'
def spSplit (d : Nat) : Sp := fun vs H Q _ => ∃ (a : Addr) (us : List V) (x y : List It) (o : Str) (ex ey : Ex), vs = [.ref a, .int (x.length : Nat)] ∧ H a = some (.lst us) ∧ IsAt H us (x ++ .op o :: y) ∧ Div x ex ∧ Div y ey ∧ ex.dp ≤ d ∧ ey.dp ≤ d ∧ (x ++ It.op o :: y).length ≤ 1000 ∧ (∀ z ∈ x ++ It.op o :: y, itOk z) ∧
  ∀ H' u, Same H H' → TrAt H' (if o = "::" then consT ex.tr ey.tr else binT o ex.tr ey.tr) u → Q u H'
theorem ok_split {k d : Nat} (Z : Defs K mg) (R : Rest P w K mg Z) (GLawDivided : FnOk P w K mg base CX0 k Z.fLawDivided Z.fdLawDivided ["items"] (spDiv d)) : FnOk P w K mg base CX0 (k + 1) Z.fLawSplit Z.fdLawSplit ["items", "place"] (spSplit d) := by
  have T := R.T
  have DLawDivided := Z.DLawDivided
  refine Z.DLawSplit.F.ok scLawSplit (fun vs H Q E h => ?_) (fun cdv A outer s H vs Q E hr h => ?_)
  · obtain ⟨a, us, x, y, o, ex, ey, rfl, _⟩ := h
    rfl
  · obtain ⟨a, us, x, y, o, ex, ey, rfl, ha, hl, dx, dy, hx, hy, hz, hok, q⟩ := h
    refine ⟨_, (pss_cons (ps_set (i := 2) scLawSplit.nd rfl (.inl rfl) (pe_call GLawDivided (hr.mono (by omega)) (by rfl) DLawDivided.g DLawDivided.F.kp DLawDivided.b .nil pass0 (pa_cons (pe_slice sl_list (pv 0) po_none (po_some (pv 1))) pa_nil)))
        (pss_cons (ps_set (i := 3) scLawSplit.nd rfl (.inl rfl) (pe_call GLawDivided (hr.mono (by omega)) (by rfl) DLawDivided.g DLawDivided.F.kp DLawDivided.b .nil pass0 (pa_cons (pe_slice sl_list (pv 0) (po_some (pe_op op_add (pv 1) pe_int)) po_none) pa_nil)))
        (pss_cons (ps_if (pt_cmpR op_eq (pe_ix ix_list (pv 0) (pv 1) (fun _ _ => rfl)) pe_str (nomark _)) (pss_one (ps_ret (pe_tup (pa_cons pe_str (pa_cons (pv 2) (pa_cons (pv 3) pa_nil)))))) pss_nil)
        (pss_one (ps_ret (pe_tup (pa_cons pe_str (pa_cons (pe_ix ix_list (pv 0) (pv 1) (fun _ _ => rfl)) (pa_cons (pv 2) (pa_cons (pv 3) pa_nil)))))))))), ?_⟩
    have hlen := hl.len
    rw [List.length_append, List.length_cons] at hlen hz
    refine ⟨_, rfl, _, rfl, _, rfl, a, us, rfl, SqL.of ha, fun z hz1 => ?_⟩
    rw [cut_head us x.length (by omega)]
    have s1 := same_upd (o := .lst (us.take x.length)) hz1
    have hxl : IsAt (upd H z (.lst (us.take x.length))) (us.take x.length) x := by
      have := hl.take x.length
      rw [List.take_left] at this
      exact IsAt.keep (TupK.of s1) this
    refine ⟨z, _, x, ex, rfl, upd_same, hxl, dx, hx, by omega, fun t ht => hok t (List.mem_append_left _ ht), fun H1 u1 sm1 t1 => ?_⟩
    have s01 := Same.tr s1 sm1
    refine ⟨_, rfl, _, rfl, _, _, rfl, rfl, _, rfl, a, us, rfl, SqL.of (s01 _ _ ha), fun z2 hz2 => ?_⟩
    have e2 : cutV us (some ((x.length : Nat) + 1 : Int)) none = us.drop (x.length + 1) := cut_from us (x.length + 1) (by omega)
    have s2 := same_upd (o := .lst (cutV us (some ((x.length : Nat) + 1 : Int)) none)) hz2
    have s02 := Same.tr s01 s2
    have hyl : IsAt H (us.drop (x.length + 1)) y := by
      have := hl.drop (x.length + 1)
      rw [show (x ++ It.op o :: y).drop (x.length + 1) = y by
        rw [List.drop_append, List.drop_of_length_le (by omega)]
        simp] at this
      exact this
    refine ⟨z2, us.drop (x.length + 1), y, ey, rfl, upd_same.trans (congrArg (fun c => some (HO.lst c)) e2), IsAt.keep (TupK.of s02) hyl, dy, hy, by omega, fun t ht => hok t (List.mem_append_right _ (List.mem_cons_of_mem _ ht)), fun H3 u2 sm2 t2 => ?_⟩
    have s03 := Same.tr s02 sm2
    have t1' := t1.keep (TupK.of (Same.tr s2 sm2))
    obtain ⟨uo, huo, hio⟩ : ∃ uo, us[x.length]? = some uo ∧ uo = .str o := by
      have e : (x ++ It.op o :: y)[x.length]? = some (It.op o) := by simp
      obtain ⟨uo, h1, h2⟩ := hl.getR e
      exact ⟨uo, h1, h2⟩
    subst hio
    refine ⟨_, rfl, _, rfl, a, us, _, _, rfl, rfl, SqL.of (s03 _ _ ha), atI_nat huo, rfl, _, rfl, ?_⟩
    by_cases he : o = "::"
    · subst he
      refine iteT ⟨_, rfl, _, rfl, by show 3 ≤ sizeLine; decide, fun t ht => ?_⟩
      have s4 := same_upd (o := .tup [.str "cons", u1, u2]) ht
      refine q _ _ (Same.tr s03 s4) ?_
      rw [if_pos rfl]
      exact TrAt.tup upd_same (.cons rfl (.cons (t1'.keep (TupK.of s4)) (.cons (t2.keep (TupK.of s4)) .nil)))
    · refine HL.iteNo (by
        have : ¬ (V.str o = V.str "::") := fun e => he (V.str.inj e)
        simp [this]) ?_
      refine ⟨_, rfl, _, rfl, a, us, _, _, rfl, rfl, SqL.of (s03 _ _ ha), atI_nat huo, _, rfl, _, rfl, by show 4 ≤ sizeLine; decide, fun t ht => ?_⟩
      have s4 := same_upd (o := .tup [.str "binary", .str o, u1, u2]) ht
      refine q _ _ (Same.tr s03 s4) ?_
      rw [if_neg he]
      exact TrAt.tup upd_same (.cons rfl (.cons rfl (.cons (t1'.keep (TupK.of s4)) (.cons (t2.keep (TupK.of s4)) .nil))))
end
end Q23
namespace Q23
open PySem PySem.Spec PyProof.Rows L2 SX HL
theorem levs_two : ∀ p ∈ levs, ∀ q ∈ levs, p = q ∨ (∀ o ∈ q.1, o ∈ p.2.1) ∨ (∀ o ∈ p.1, o ∈ q.2.1) := by decide +kernel
theorem levs_con : ∀ p ∈ levs, (∀ o ∈ p.1, o ∈ pr3) ∨ ("::" : Str) ∈ p.2.1 := by decide +kernel
theorem levs_neg : ∀ p ∈ levs, p.2.2 = true ∨ ∀ o ∈ p.1, o ∈ lor := by decide +kernel
theorem levs_co : ∀ p ∈ levs, ("::" : Str) ∉ p.1 ∧ ("not" : Str) ∉ p.1 ∧ ∀ o ∈ p.1, PyData.strOk o = true := by decide +kernel
theorem Div.at_bin {l : List It} {e : Ex} {os pre : List Str} {hd : Bool} (h : Div l e) (hm : (os, pre, hd) ∈ levs) (hp : ¬ hasO l pre) (hn : hd = true → NoHead l) (ho : hasO l os) :
    ∃ x o y ex ey, l = x ++ .op o :: y ∧ o ∈ os ∧ ¬ hasO y os ∧ Div x ex ∧ Div y ey ∧ e = .bin o ex ey := by
  cases h with
  | @bin a b o os' pre' hd' x y hm' ho' hb hp' hn' dx dy =>
    rcases levs_two _ hm _ hm' with e | e | e
    · obtain ⟨rfl, e2⟩ := Prod.mk.inj e
      exact ⟨a, o, b, x, y, rfl, ho', hb, dx, dy, rfl⟩
    · exact absurd (has_mid (e o ho')) hp
    · obtain ⟨z, hz, hz2⟩ := ho
      exact absurd ⟨z, e z hz, hz2⟩ hp'
  | con ha hp' hn' dx dy =>
    rcases levs_con _ hm with e | e
    · obtain ⟨z, hz, hz2⟩ := ho
      exact absurd ⟨z, e z hz, hz2⟩ hp'
    · exact absurd (has_mid e) hp
  | neg hl dx =>
    rcases levs_neg _ hm with e | e
    · exact absurd rfl (hn e _)
    · obtain ⟨z, hz, hz2⟩ := ho
      exact absurd ⟨z, e z hz, hz2⟩ hl
  | num k =>
    obtain ⟨z, _, hz⟩ := ho
    simp at hz
  | name k =>
    obtain ⟨z, _, hz⟩ := ho
    simp at hz
theorem levs_lor : ∀ p ∈ levs, (∀ o ∈ p.1, o ∈ lor) ∨ p.2.2 = true := by decide +kernel
theorem Div.at_neg {r : List It} {e : Ex} (h : Div (.neg :: r) e) (hn : ¬ hasO (.neg :: r) lor) : ∃ x, e = .neg x ∧ Div r x := by
  generalize el : It.neg :: r = l at h
  cases h with
  | bin hm ho hb hp hh dx dy =>
    rcases levs_lor _ hm with e | e
    · rw [el] at hn
      exact absurd (has_mid (e _ ho)) hn
    · exact absurd el.symm (hh e r)
  | con ha hp hh dx dy => exact absurd el.symm (hh r)
  | neg hl dx =>
    obtain ⟨_, rfl⟩ := List.cons.inj el
    exact ⟨_, rfl, dx⟩
  | num k => cases el
  | name k => cases el
theorem Div.at_con {l : List It} {e : Ex} (h : Div l e) (hp : ¬ hasO l pr3) (hn : NoHead l) (ho : hasO l lco) : ∃ x y ex ey, l = x ++ .op "::" :: y ∧ ¬ hasO x lco ∧ Div x ex ∧ Div y ey ∧ e = .con ex ey := by
  cases h with
  | @bin a b o os' pre' hd' x y hm' ho' hb hp' hn' dx dy =>
    rcases levs_con _ hm' with e | e
    · exact absurd (has_mid (e o ho')) hp
    · obtain ⟨z, hz, hz2⟩ := ho
      obtain rfl := List.mem_singleton.mp hz
      exact absurd ⟨_, e, hz2⟩ hp'
  | con ha hp' hn' dx dy => exact ⟨_, _, _, _, rfl, ha, dx, dy, rfl⟩
  | neg hl dx => exact absurd rfl (hn _)
  | num k =>
    obtain ⟨z, _, hz⟩ := ho
    simp at hz
  | name k =>
    obtain ⟨z, _, hz⟩ := ho
    simp at hz
theorem levs_all : ∀ p ∈ levs, ∀ o ∈ p.1, o ∈ lall := by decide +kernel
theorem Div.at_leaf {l : List It} {e : Ex} (h : Div l e) (hp : ¬ hasO l lall) (hn : NoHead l) : (∃ k, l = [.num k] ∧ e = .num k) ∨ ∃ z, l = [.name z] ∧ e = .name z := by
  cases h with
  | bin hm ho hb hp' hh dx dy => exact absurd (has_mid (levs_all _ hm _ ho)) hp
  | con ha hp' hh dx dy => exact absurd (has_mid (by decide +kernel)) hp
  | neg hl dx => exact absurd rfl (hn _)
  | num k => exact .inl ⟨k, rfl, rfl⟩
  | name k => exact .inr ⟨k, rfl, rfl⟩
theorem Div.ne {l : List It} {e : Ex} (h : Div l e) : l ≠ [] := by
  cases h <;> simp
section
variable {P : Program} {w : World} {K : PySem.W.Frag} {mg : Str → Option Value} {base : Heap}
theorem last_uniq {x y x' y' : List It} {o o' : Str} {os : List Str} (e : x ++ .op o :: y = x' ++ .op o' :: y') (ho : o ∈ os) (ho' : o' ∈ os) (hy : ¬ hasO y os) (hy' : ¬ hasO y' os) : x'.length = x.length := by
  rcases Nat.lt_trichotomy x.length x'.length with h | h | h
  · exfalso
    have e1 : (x' ++ It.op o' :: y')[x'.length]? = some (It.op o') := by simp
    rw [← e, List.getElem?_append_right (by omega), List.getElem?_cons, if_neg (by omega)] at e1
    exact hy ⟨o', ho', List.mem_of_getElem? e1⟩
  · exact h.symm
  · exfalso
    have e1 : (x ++ It.op o :: y)[x.length]? = some (It.op o) := by simp
    rw [e, List.getElem?_append_right (by omega), List.getElem?_cons, if_neg (by omega)] at e1
    exact hy' ⟨o, ho, List.mem_of_getElem? e1⟩
theorem div_zero {k : Nat} (Z : Defs K mg) (R : Rest P w K mg Z) : FnOk P w K mg base CX0 (k + 1) Z.fLawDivided Z.fdLawDivided ["items"] (spDiv 0) := by
  have no : ∀ e : Ex, ¬ e.dp ≤ 0 := fun e h => by cases e <;> (rw [Ex.dp] at h; omega)
  refine Z.DLawDivided.F.ok scLawDivided (fun vs H Q E h => ?_) (fun cdv A outer s H vs Q E hr h => ?_)
  · obtain ⟨a, us, l, e, rfl, _⟩ := h
    rfl
  · obtain ⟨a, us, l, e, rfl, _, _, _, he, _⟩ := h
    exact absurd he (no e)
theorem div_step {k d : Nat} (Z : Defs K mg) (R : Rest P w K mg Z) (G0 : FnOk P w K mg base CX0 (k + 1) Z.fLawDivided Z.fdLawDivided ["items"] (spDiv d)) : FnOk P w K mg base CX0 (k + 3) Z.fLawDivided Z.fdLawDivided ["items"] (spDiv (d + 1)) := by
  have T := R.T
  have DLawDivided := Z.DLawDivided
  have GLawDivided := G0
  have DLawSplit := Z.DLawSplit
  have GLawSplit : FnOk P w K mg base CX0 (k + 2) Z.fLawSplit Z.fdLawSplit ["items", "place"] (spSplit d) := ok_split Z R G0
  have DLawLast := Z.DLawLast
  have GLawLast : FnOk P w K mg base CX0 (k + 1) Z.fLawLast Z.fdLawLast ["items", "operators"] spLast := ok_last Z R
  refine Z.DLawDivided.F.ok scLawDivided (fun vs H Q E h => ?_) (fun cdv A outer s H vs Q E hr h => ?_)
  · obtain ⟨a, us, l, e, rfl, _⟩ := h
    rfl
  · obtain ⟨a, us, l, e, rfl, ha, hl, hd, he, hz, hok, q⟩ := h
    refine ⟨_, (pss_cons (ps_for PassesOwn.never rfl (pi_list (pe_lst (pa_cons (pe_lst (pa_cons pe_str pa_nil)) (pa_cons (pe_lst (pa_cons pe_str pa_nil)) pa_nil)))) (pg_name (i := 1) scLawDivided.nd rfl (.inl rfl)) (pss_one (ps_if (pt_cmpR op_ge (pe_call GLawLast (hr.mono (by omega)) (by rfl) DLawLast.g DLawLast.F.kp DLawLast.b .nil pass0 (pa_cons (pv 0) (pa_cons (pv 1) pa_nil))) pe_int (nomark _)) (pss_one (ps_ret (pe_call GLawSplit (hr.mono (by omega)) (by rfl) DLawSplit.g DLawSplit.F.kp DLawSplit.b .nil pass0 (pa_cons (pv 0) (pa_cons (pe_call GLawLast (hr.mono (by omega)) (by rfl) DLawLast.g DLawLast.F.kp DLawLast.b .nil pass0 (pa_cons (pv 0) (pa_cons (pv 1) pa_nil))) pa_nil))))) pss_nil)))
        (pss_cons (ps_if (pt_cmpR (op_eqD hr.units) (pe_ix ix_list (pv 0) pe_int (fun _ _ => rfl)) pe_str (nomark _)) (pss_one (ps_ret (pe_tup (pa_cons pe_str (pa_cons (pe_call GLawDivided (hr.mono (by omega)) (by rfl) DLawDivided.g DLawDivided.F.kp DLawDivided.b .nil pass0 (pa_cons (pe_slice sl_list (pv 0) (po_some pe_int) po_none) pa_nil)) pa_nil))))) pss_nil)
        (pss_cons (ps_if (pt_cmpR op_ge (pe_call GLawLast (hr.mono (by omega)) (by rfl) DLawLast.g DLawLast.F.kp DLawLast.b .nil pass0 (pa_cons (pv 0) (pa_cons (pe_lst (pa_cons pe_str (pa_cons pe_str pa_nil))) pa_nil))) pe_int (nomark _)) (pss_one (ps_ret (pe_call GLawSplit (hr.mono (by omega)) (by rfl) DLawSplit.g DLawSplit.F.kp DLawSplit.b .nil pass0 (pa_cons (pv 0) (pa_cons (pe_call GLawLast (hr.mono (by omega)) (by rfl) DLawLast.g DLawLast.F.kp DLawLast.b .nil pass0 (pa_cons (pv 0) (pa_cons (pe_lst (pa_cons pe_str (pa_cons pe_str pa_nil))) pa_nil))) pa_nil))))) pss_nil)
        (pss_cons (ps_if (pt_cmpR (HX.op_inDK (K := K) rfl (DM.hu65 hr)) pe_str (pv 0) rfl) (pss_one (ps_ret (pe_call GLawSplit (hr.mono (by omega)) (by rfl) DLawSplit.g DLawSplit.F.kp DLawSplit.b .nil pass0 (pa_cons (pv 0) (pa_cons (pe_bm PySem.F.plainAttrs_list PySem.F.slot_list_index PySem.F.type_list_index (mt_indexD (DM.hu65 hr)) (pv 0) (pa_cons pe_str pa_nil)) pa_nil))))) pss_nil)
        (pss_cons (ps_for PassesOwn.never rfl (pi_list (pe_lst (pa_cons (pe_lst (pa_cons pe_str (pa_cons pe_str (pa_cons pe_str pa_nil)))) (pa_cons (pe_lst (pa_cons pe_str (pa_cons pe_str (pa_cons pe_str pa_nil)))) pa_nil)))) (pg_name (i := 1) scLawDivided.nd rfl (.inl rfl)) (pss_one (ps_if (pt_cmpR op_ge (pe_call GLawLast (hr.mono (by omega)) (by rfl) DLawLast.g DLawLast.F.kp DLawLast.b .nil pass0 (pa_cons (pv 0) (pa_cons (pv 1) pa_nil))) pe_int (nomark _)) (pss_one (ps_ret (pe_call GLawSplit (hr.mono (by omega)) (by rfl) DLawSplit.g DLawSplit.F.kp DLawSplit.b .nil pass0 (pa_cons (pv 0) (pa_cons (pe_call GLawLast (hr.mono (by omega)) (by rfl) DLawLast.g DLawLast.F.kp DLawLast.b .nil pass0 (pa_cons (pv 0) (pa_cons (pv 1) pa_nil))) pa_nil))))) pss_nil)))
        (pss_one (ps_ret (pe_ix ix_list (pv 0) pe_int (fun _ _ => rfl))))))))), ?_⟩
    refine ⟨by show 1 ≤ sizeLine; decide, fun q1 hq1 => ⟨by show 1 ≤ sizeLine; decide, fun q2 hq2 => ⟨by show 2 ≤ sizeLine; decide, fun L hL => ?_⟩⟩⟩
    have s3 : Same H (upd (upd (upd H q1 (.lst [.str "or"])) q2 (.lst [.str "and"])) L (.lst [.ref q1, .ref q2])) := Same.tr (same_upd hq1) (Same.tr (same_upd hq2) (same_upd hL))
    have g1 : upd (upd (upd H q1 (.lst [.str "or"])) q2 (.lst [.str "and"])) L (.lst [.ref q1, .ref q2]) q1 = some (.lst (lv1.map V.str)) := same_upd hL _ _ (same_upd hq2 _ _ upd_same)
    have g2 : upd (upd (upd H q1 (.lst [.str "or"])) q2 (.lst [.str "and"])) L (.lst [.ref q1, .ref q2]) q2 = some (.lst (lv2.map V.str)) := same_upd hL _ _ upd_same
    have g3 : upd (upd (upd H q1 (.lst [.str "or"])) q2 (.lst [.str "and"])) L (.lst [.ref q1, .ref q2]) L = some (.lst [.ref q1, .ref q2]) := upd_same
    generalize upd (upd (upd H q1 (.lst [.str "or"])) q2 (.lst [.str "and"])) L (.lst [.ref q1, .ref q2]) = H1 at s3 g1 g2 g3
    refine ⟨L, rfl, ⟨_, SqL.of g3⟩, ?_⟩
    have ha1 := s3 _ _ ha
    have hl1 : IsAt H1 us l := IsAt.keep (TupK.of s3) hl
    refine for_it walk_list (fun i σ H' => H' = H1 ∧ (1 ≤ i → ¬ hasO l lv1) ∧ (2 ≤ i → ¬ hasO l lv2) ∧ ∃ y, σ = [some (.ref a), y]) ⟨rfl, fun z => by omega, fun z => by omega, none, rfl⟩ (fun i σ H' _ ⟨z, _⟩ => by rw [z]; exact SqL.of g3) ?_ ?_
    · rintro i x0 σ H' H'' hi ⟨rfl, n1, n2, y0, rfl⟩ ⟨rfl, hx0⟩
      replace hx0 : [V.ref q1, V.ref q2][i]? = some x0 := hx0
      obtain ⟨qx, os, pre, rfl, hm, gq, hp, hno, hok2⟩ : ∃ qx os pre, x0 = .ref qx ∧ (os, pre, false) ∈ levs ∧ H'' qx = some (.lst (os.map V.str)) ∧ ¬ hasO l pre ∧ ("not" : Str) ∉ os ∧ (∀ x ∈ os, PyData.strOk x = true) ∧ (i = 0 → os = lv1) ∧ (i = 1 → os = lv2) := by
        have hi' : i = 0 ∨ i = 1 := by
          have : i < 2 := hi
          omega
        rcases hi' with rfl | rfl
        · exact ⟨q1, lv1, [], (Option.some.inj hx0).symm, by decide +kernel, g1, fun ⟨_, z, _⟩ => (by cases z), by decide +kernel, by decide +kernel, fun _ => rfl, fun z => by omega⟩
        · exact ⟨q2, lv2, lv1, (Option.some.inj hx0).symm, by decide +kernel, g2, n1 (by omega), by decide +kernel, by decide +kernel, fun z => by omega, fun _ => rfl⟩
      obtain ⟨hok2, w1, w2⟩ := hok2
      refine ⟨_, rfl, _, rfl, a, qx, us, l, os, rfl, ha1, hl1, gq, hno, hz, hok, hok2, fun nn => ?_, fun x o y ee ho hy => ?_⟩
      · refine ⟨_, _, rfl, rfl, _, rfl, HL.iteNo (by simp) ⟨rfl, ?_, ?_, _, rfl⟩⟩
        · intro z
          have hi' : i = 0 ∨ i = 1 := by
            have : i < 2 := hi
            omega
          rcases hi' with z0 | z0
          · rw [← w1 z0]; exact nn
          · exact n1 (by omega)
        · intro z
          have hi' : i = 1 := by
            have : i < 2 := hi
            omega
          rw [← w2 hi']
          exact nn
      · have hh : hasO l os := by rw [ee]; exact has_mid ho
        obtain ⟨x1, o1, y1, ex, ey, e1, ho1, hy1, dx, dy, rfl⟩ := hd.at_bin hm hp (fun z => by cases z) hh
        have hne : o1 ≠ "::" := fun z => (levs_co _ hm).1 (by rw [← z]; exact ho1)
        rw [Ex.dp] at he
        refine ⟨_, _, rfl, rfl, _, rfl, HL.iteYes (by simp) ⟨_, rfl, _, rfl, _, rfl, a, qx, us, l, os, rfl, ha1, hl1, gq, hno, hz, hok, hok2, fun nn => absurd hh nn, fun x' o' y' e' ho' hy' => ?_⟩⟩
        have eu := last_uniq (e1.symm.trans e') ho1 ho' hy1 hy'
        have e1' := e1
        subst e1
        exact ⟨a, us, x1, y1, o1, ex, ey, by rw [eu]; rfl, ha1, hl1, dx, dy, by omega, by omega, hz, hok, fun H9 u9 s9 t9 => q H9 u9 (Same.tr s3 s9) (by rw [if_neg hne] at t9; exact t9)⟩
    · rintro σ H' ⟨rfl, n1, n2, y0, rfl⟩
      have n1 := n1 (by show 1 ≤ 2; omega)
      have n2 := n2 (by show 2 ≤ 2; omega)
      have n3 : ¬ hasO l lor := fun ⟨o, z1, z2⟩ => by
        rcases sets.2.2.2.2.2.2.2.2.2.2 o z1 with z | z
        · exact n1 ⟨o, z, z2⟩
        · exact n2 ⟨o, z, z2⟩
      obtain ⟨x0, hx0⟩ : ∃ x0, l[0]? = some x0 := by
        cases l with
        | nil => exact absurd rfl hd.ne
        | cons x0 r => exact ⟨x0, rfl⟩
      obtain ⟨u0, hu0, hit0⟩ := hl1.getR hx0
      have ok0 := shaped_it (hok x0 (List.mem_of_getElem? hx0))
      have oks : SeqAt.shaped (.str "not") = true := by simp [SeqAt.shaped, PyData.canLay0, PyData.depth, ok_not.1]
      refine ⟨_, rfl, a, us, 0, u0, rfl, rfl, SqL.of ha1, atI_nat hu0, itD x0, .str "not", hit0.dp, .str _, ok0, oks, _, rfl, ?_⟩
      by_cases hneg : x0 = .neg
      · subst hneg
        obtain ⟨r, rfl⟩ : ∃ r, l = .neg :: r := by
          cases l with
          | nil => cases hx0
          | cons y r => exact ⟨r, by rw [Option.some.inj (show some y = some It.neg from hx0)]⟩
        obtain ⟨ex, rfl, dx⟩ := hd.at_neg n3
        rw [Ex.dp] at he
        have hlen := hl1.len
        rw [List.length_cons] at hlen hz
        refine HL.iteYes rfl ⟨_, rfl, 1, rfl, a, us, rfl, SqL.of ha1, fun z hz1 => ?_⟩
        have e2 : cutV us (some (1 : Int)) none = us.drop 1 := cut_from us 1 (by omega)
        have s4 := same_upd (o := .lst (cutV us (some (1 : Int)) none)) hz1
        refine ⟨z, us.drop 1, r, ex, rfl, upd_same.trans (congrArg (fun c => some (HO.lst c)) e2), IsAt.keep (TupK.of s4) (hl1.drop 1), dx, by omega, by omega, fun y hy => hok y (List.mem_cons_of_mem _ hy), fun H5 u5 s5 t5 => ⟨by show 2 ≤ sizeLine; decide, fun t ht => ?_⟩⟩
        have s6 := same_upd (o := .tup [.str "not", u5]) ht
        exact q _ _ (Same.tr s3 (Same.tr s4 (Same.tr s5 s6))) (TrAt.tup upd_same (.cons rfl (.cons (t5.keep (TupK.of s6)) .nil)))
      have ev : PyData.eqv (itD x0) (.str "not") = false := by
        cases x0 with
        | neg => exact absurd rfl hneg
        | op o =>
          have h := (hok _ (List.mem_of_getElem? hx0)).2
          show (o == "not") = false
          rw [beq_eq_false_iff_ne]
          exact h
        | num k => simp [itD, PyData.eqv]
        | name z => simp [itD, PyData.eqv]
      have hnh : NoHead l := fun r e => by
        rw [e] at hx0
        exact hneg (Option.some.inj (show some It.neg = some x0 from hx0)).symm
      rw [ev]
      refine iteF ?_
      -- = <
      refine ⟨_, rfl, by show 2 ≤ sizeLine; decide, fun q3 hq3 => ?_⟩
      have s4 := same_upd (o := .lst [.str "=", .str "<"]) hq3
      have g4 : upd H' q3 (.lst [.str "=", .str "<"]) q3 = some (.lst (lcm.map V.str)) := upd_same
      have ha2 := s4 _ _ ha1
      have hl2 : IsAt (upd H' q3 (.lst [.str "=", .str "<"])) us l := IsAt.keep (TupK.of s4) hl1
      have s03 := Same.tr s3 s4
      have cmno : ("not" : Str) ∉ lcm ∧ ∀ x ∈ lcm, PyData.strOk x = true := by decide +kernel
      refine ⟨a, q3, us, l, lcm, rfl, ha2, hl2, g4, cmno.1, hz, hok, cmno.2, fun nn => ?_, fun x o y ee ho hy => ?_⟩
      rotate_left
      · have hh : hasO l lcm := by rw [ee]; exact has_mid ho
        obtain ⟨x1, o1, y1, ex, ey, e1, ho1, hy1, dx, dy, rfl⟩ := hd.at_bin (os := lcm) (pre := lor) (hd := true) (by decide +kernel) n3 (fun _ => hnh) hh
        have hne : o1 ≠ "::" := fun z => (levs_co (lcm, lor, true) (by decide +kernel)).1 (by rw [← z]; exact ho1)
        rw [Ex.dp] at he
        refine ⟨_, _, rfl, rfl, _, rfl, HL.iteYes (by simp) ⟨_, rfl, _, rfl, by show 2 ≤ sizeLine; decide, fun q4 hq4 => ?_⟩⟩
        have s5 := same_upd (o := .lst [.str "=", .str "<"]) hq4
        have g5 : upd (upd H' q3 (.lst [.str "=", .str "<"])) q4 (.lst [.str "=", .str "<"]) q4 = some (.lst (lcm.map V.str)) := upd_same
        have ha3 := s5 _ _ ha2
        have hl3 := IsAt.keep (TupK.of s5) hl2
        refine ⟨a, q4, us, l, lcm, rfl, ha3, hl3, g5, cmno.1, hz, hok, cmno.2, fun nn => absurd hh nn, fun x' o' y' e' ho' hy' => ?_⟩
        have eu := last_uniq (e1.symm.trans e') ho1 ho' hy1 hy'
        subst e1
        exact ⟨a, us, x1, y1, o1, ex, ey, by rw [eu]; rfl, ha3, hl3, dx, dy, by omega, by omega, hz, hok, fun H9 u9 s9 t9 => q H9 u9 (Same.tr s03 (Same.tr s5 s9)) (by rw [if_neg hne] at t9; exact t9)⟩
      refine ⟨_, _, rfl, rfl, _, rfl, HL.iteNo (by simp) ?_⟩
      generalize upd H' q3 (.lst [.str "=", .str "<"]) = H2 at s4 g4 ha2 hl2 s03
      have n4 : ¬ hasO l pr3 := no_app n3 nn
      -- ::
      have okc : SeqAt.shaped (.str "::") = true := by
        have : PyData.strOk ("::" : Str) = true := by decide +kernel
        simp [SeqAt.shaped, PyData.canLay0, PyData.depth, this]
      refine ⟨_, rfl, .str "::", l.map itD, .str _, IsAt.dp ha2 hl2, okc, shaped_its hok, _, rfl, ?_⟩
      have eany : ((l.map itD).any fun z => PyData.eqv z (.str "::")) = true ↔ hasO l lco := by
        rw [List.any_eq_true]
        constructor
        · rintro ⟨z, hz1, hz2⟩
          obtain ⟨x, hx, rfl⟩ := List.mem_map.mp hz1
          cases x with
          | neg => exact absurd hz2 (by decide +kernel)
          | num k => simp [itD, PyData.eqv] at hz2
          | name k => simp [itD, PyData.eqv] at hz2
          | op o =>
            have : o = "::" := by simpa [itD, PyData.eqv] using hz2
            exact ⟨o, by rw [this]; exact List.mem_cons_self, hx⟩
        · rintro ⟨o, ho, hm⟩
          obtain rfl := List.mem_singleton.mp ho
          exact ⟨_, List.mem_map.mpr ⟨_, hm, rfl⟩, by simp [itD, PyData.eqv]⟩
      by_cases hc : hasO l lco
      · rw [eany.mpr hc]
        obtain ⟨x1, y1, ex, ey, e1, hx1, dx, dy, rfl⟩ := hd.at_con n4 hnh hc
        rw [Ex.dp] at he
        refine iteT ⟨_, rfl, _, rfl, .inl ⟨rfl, _, SqL.of ha2⟩, a, _, .str "::", l.map itD, x1.length, .str "::", rfl, rfl, IsAt.dp ha2 hl2, .str _, shaped_its hok, okc, by rw [e1]; simp [itD], by simp [PyData.eqv], fun m z' hm hz' => ?_, ?_⟩
        · rw [e1, List.map_append, List.getElem?_append_left (by rw [List.length_map]; exact hm), List.getElem?_map] at hz'
          cases hxm : x1[m]? with
          | none => rw [hxm] at hz'; cases hz'
          | some x =>
            rw [hxm] at hz'
            obtain rfl := Option.some.inj hz'
            cases x with
            | neg => decide +kernel
            | num k => simp [itD, PyData.eqv]
            | name k => simp [itD, PyData.eqv]
            | op o =>
              show (o == "::") = false
              rw [beq_eq_false_iff_ne]
              intro z
              exact hx1 ⟨o, by rw [z]; exact List.mem_cons_self, List.mem_of_getElem? hxm⟩
        · subst e1
          exact ⟨a, us, x1, y1, "::", ex, ey, rfl, ha2, hl2, dx, dy, by omega, by omega, hz, hok, fun H9 u9 s9 t9 => q H9 u9 (Same.tr s03 s9) (by rw [if_pos rfl] at t9; exact t9)⟩
      rw [show ((l.map itD).any fun z => PyData.eqv z (.str "::")) = false from by
        rw [Bool.eq_false_iff]
        exact fun z => hc (eany.mp z)]
      refine iteF ?_
      have n5 : ¬ hasO l pr4 := no_app n4 hc
      -- + - ++, * / mod
      refine ⟨by show 3 ≤ sizeLine; decide, fun r1 hr1 => ⟨by show 3 ≤ sizeLine; decide, fun r2 hr2 => ⟨by show 2 ≤ sizeLine; decide, fun L2 hL2 => ?_⟩⟩⟩
      have s5 : Same H2 (upd (upd (upd H2 r1 (.lst (lad.map V.str))) r2 (.lst (lmu.map V.str))) L2 (.lst [.ref r1, .ref r2])) := Same.tr (same_upd hr1) (Same.tr (same_upd hr2) (same_upd hL2))
      have h1 : (upd (upd (upd H2 r1 (.lst (lad.map V.str))) r2 (.lst (lmu.map V.str))) L2 (.lst [.ref r1, .ref r2])) r1 = some (.lst (lad.map V.str)) := same_upd hL2 _ _ (same_upd hr2 _ _ upd_same)
      have h2 : (upd (upd (upd H2 r1 (.lst (lad.map V.str))) r2 (.lst (lmu.map V.str))) L2 (.lst [.ref r1, .ref r2])) r2 = some (.lst (lmu.map V.str)) := same_upd hL2 _ _ upd_same
      have g3' : (upd (upd (upd H2 r1 (.lst (lad.map V.str))) r2 (.lst (lmu.map V.str))) L2 (.lst [.ref r1, .ref r2])) L2 = some (.lst [.ref r1, .ref r2]) := upd_same
      have ha3 := s5 _ _ ha2
      have hl3 : IsAt (upd (upd (upd H2 r1 (.lst (lad.map V.str))) r2 (.lst (lmu.map V.str))) L2 (.lst [.ref r1, .ref r2])) us l := IsAt.keep (TupK.of s5) hl2
      have s06 := Same.tr s03 s5
      refine ⟨L2, rfl, ⟨_, SqL.of g3'⟩, ?_⟩
      refine for_it walk_list (fun i σ H'' => H'' = upd (upd (upd H2 r1 (.lst (lad.map V.str))) r2 (.lst (lmu.map V.str))) L2 (.lst [.ref r1, .ref r2]) ∧ (1 ≤ i → ¬ hasO l lad) ∧ (2 ≤ i → ¬ hasO l lmu) ∧ ∃ y, σ = [some (.ref a), y]) ⟨rfl, fun z => by omega, fun z => by omega, y0, rfl⟩ (fun i σ H' _ ⟨z, _⟩ => by rw [z]; exact SqL.of g3') ?_ ?_
      · rintro i x0 σ H7 H8 hi ⟨e7, n1', n2', y0', rfl⟩ ⟨e8, hx0'⟩
        subst e8
        subst e7
        replace hx0' : [V.ref r1, V.ref r2][i]? = some x0 := hx0'
        obtain ⟨qx, os, pre, rfl, hm, gq, hp, hno, hok2, w1, w2⟩ : ∃ qx os pre, x0 = .ref qx ∧ (os, pre, true) ∈ levs ∧ upd (upd (upd H2 r1 (.lst (lad.map V.str))) r2 (.lst (lmu.map V.str))) L2 (.lst [.ref r1, .ref r2]) qx = some (.lst (os.map V.str)) ∧ ¬ hasO l pre ∧ ("not" : Str) ∉ os ∧ (∀ x ∈ os, PyData.strOk x = true) ∧ (i = 0 → os = lad) ∧ (i = 1 → os = lmu) := by
          have hi' : i = 0 ∨ i = 1 := by
            have : i < 2 := hi
            omega
          rcases hi' with rfl | rfl
          · exact ⟨r1, lad, pr4, (Option.some.inj hx0').symm, by decide +kernel, h1, n5, by decide +kernel, by decide +kernel, fun _ => rfl, fun z => by omega⟩
          · exact ⟨r2, lmu, pr5, (Option.some.inj hx0').symm, by decide +kernel, h2, no_app n5 (n1' (by omega)), by decide +kernel, by decide +kernel, fun z => by omega, fun _ => rfl⟩
        refine ⟨_, rfl, _, rfl, a, qx, us, l, os, rfl, ha3, hl3, gq, hno, hz, hok, hok2, fun nn => ?_, fun x o y ee ho hy => ?_⟩
        · refine ⟨_, _, rfl, rfl, _, rfl, HL.iteNo (by simp) ⟨rfl, ?_, ?_, _, rfl⟩⟩
          · intro z
            have hi' : i = 0 ∨ i = 1 := by
              have : i < 2 := hi
              omega
            rcases hi' with z0 | z0
            · rw [← w1 z0]; exact nn
            · exact n1' (by omega)
          · intro z
            have hi' : i = 1 := by
              have : i < 2 := hi
              omega
            rw [← w2 hi']
            exact nn
        · have hh : hasO l os := by rw [ee]; exact has_mid ho
          obtain ⟨x1, o1, y1, ex, ey, e1, ho1, hy1, dx, dy, rfl⟩ := hd.at_bin hm hp (fun _ => hnh) hh
          have hne : o1 ≠ "::" := fun z => (levs_co _ hm).1 (by rw [← z]; exact ho1)
          rw [Ex.dp] at he
          refine ⟨_, _, rfl, rfl, _, rfl, HL.iteYes (by simp) ⟨_, rfl, _, rfl, _, rfl, a, qx, us, l, os, rfl, ha3, hl3, gq, hno, hz, hok, hok2, fun nn => absurd hh nn, fun x' o' y' e' ho' hy' => ?_⟩⟩
          have eu := last_uniq (e1.symm.trans e') ho1 ho' hy1 hy'
          subst e1
          exact ⟨a, us, x1, y1, o1, ex, ey, by rw [eu]; rfl, ha3, hl3, dx, dy, by omega, by omega, hz, hok, fun H9 u9 s9 t9 => q H9 u9 (Same.tr s06 s9) (by rw [if_neg hne] at t9; exact t9)⟩
      · rintro σ H7 ⟨rfl, n1', n2', y0', rfl⟩
        have n6 := n1' (by show 1 ≤ 2; omega)
        have n7 := n2' (by show 2 ≤ 2; omega)
        have n8 : ¬ hasO l lall := no_app (no_app n5 n6) n7
        refine ⟨_, rfl, a, us, 0, u0, rfl, rfl, SqL.of ha3, atI_nat hu0, ?_⟩
        have hit3 : ItAt _ u0 x0 := hit0.keep (TupK.of (Same.tr s4 s5))
        refine q _ u0 s06 ?_
        rcases hd.at_leaf n8 hnh with ⟨k0, rfl, rfl⟩ | ⟨z0, rfl, rfl⟩
        · obtain rfl := Option.some.inj hx0
          obtain ⟨t, rfl, ht⟩ := hit3
          exact TrAt.tup ht (.cons rfl (.cons rfl .nil))
        · obtain rfl := Option.some.inj hx0
          obtain ⟨t, rfl, ht⟩ := hit3
          exact TrAt.tup ht (.cons rfl (.cons rfl .nil))
theorem ok_divided {k : Nat} (Z : Defs K mg) (R : Rest P w K mg Z) : ∀ d, FnOk P w K mg base CX0 (k + 1 + 2 * d) Z.fLawDivided Z.fdLawDivided ["items"] (spDiv d)
  | 0 => div_zero Z R
  | d + 1 => by
    have h := ok_divided (k := k) Z R d
    rw [show k + 1 + 2 * d = k + 2 * d + 1 by omega] at h
    have h2 := div_step (k := k + 2 * d) Z R h
    rw [show k + 2 * d + 3 = k + 1 + 2 * (d + 1) by omega] at h2
    exact h2
end
end Q23
namespace Q23
open PySem PySem.Spec PyProof.Rows L2 SX HL
section
variable {P : Program} {w : World} {K : PySem.W.Frag} {mg : Str → Option Value} {base : Heap}
/-! ### _law_read -/
def spRead : Sp := fun vs H Q _ => ∃ (t : List Nat) (L : List (Kind × Val × Nat)) (n m : Nat) (c1 : Cf) (nm : Str) (e : T) (b : Bool), vs = [.str (S t)] ∧ t.length ≤ 1000000 ∧ Toks kws dv 0 t L ∧ L.length ≤ 200 ∧ Acc L 0 n start c1 ∧ Stl "END" m c1 ⟨[], [.t [.s "view", .s nm, e]]⟩ ∧ 1 + 20 * (n + m) ≤ 900000 ∧
  Full e ∧ e.siz ≤ 900000 ∧ (b = true ↔ ¬ DepLe 12 e) ∧ (b = false → ∀ H' r, Same H H' → TrAt H' (.t [.s "read", .t [.s "view", .s nm, e]]) (.ref r) → Q (.ref r) H') ∧
  (b = true → ∀ H' r, Same H H' → H' r = some (.tup [.str "refused", .int (t.length : Int)]) → Q (.ref r) H')
theorem ok_read {k : Nat} (Z : Defs K mg) (R : Rest P w K mg Z) : FnOk P w K mg base CX0 (k + 7) Z.fLawRead Z.fdLawRead ["chunk"] spRead := by
  have T := R.T
  have DParse := Z.DParse
  have GParse : FnOk P w K mg base (L2.CX P w) (k + 6) Z.fParse Z.fdParse ["chunk"] (spParse Z.aC) := ok_parse Z R
  refine Z.DLawRead.F.ok scLawRead (fun vs H Q E h => ?_) (fun cdv A outer s H vs Q E hr h => ?_)
  · obtain ⟨t, L, n, m, c1, nm, e, b, rfl, _⟩ := h
    rfl
  · obtain ⟨t, L, n, m, c1, nm, e, b, rfl, hl, htk, hL, hacc, hst, hz, hf, hsz, hb, q1, q2⟩ := h
    refine ⟨_, pss_one (ps_try_as (i := 1) (Wout := fun _ _ _ _ => False) rfl rfl scLawRead.nd rfl rfl ⟨rfl, by decide, Or.inl T.rc.gC⟩ takes0
      (fun W pn xe tk _ => pss_one (ps_ret (pe_tup (pa_cons pe_str (pa_cons (pe_callS GParse (hr.mono (by omega)) rfl DParse.g DParse.F.kp DParse.b (fun σ => passAt tk σ) (pa_cons (pv 0) pa_nil)) pa_nil)))))
      (fun a oe cls d pn hz hf => pss_one (ps_ret (pe_tup (pa_cons pe_str (pa_cons (pe_posRC T.rc hz hf (pv 1)) pa_nil)))))), ?_⟩
    refine ⟨_, rfl, t, L, n, m, c1, nm, e, b, rfl, hl, htk, hL, hacc, hst, hz, hf, hsz, hb, fun hb0 H1 u s1 tu => ?_, fun hb1 d H1 s1 hd hx => ?_⟩
    · refine ⟨by show 2 ≤ sizeLine; decide, fun r hr0 => ?_⟩
      have s2 := same_upd (o := .tup [.str "read", u]) hr0
      exact q1 hb0 _ r (Same.tr s1 s2) (TrAt.tup upd_same (.cons rfl (.cons (tu.keep (TupK.of s2)) .nil)))
    · refine ⟨true, T.rc.te, fun _ a ha => ?_, fun z => nomatch z⟩
      refine ⟨_, rfl, rfl, rfl, d, .int (t.length : Int), rfl, hx, ?_⟩
      refine ⟨(by show 2 ≤ sizeLine; decide), fun r hr0 => ?_⟩
      exact q2 hb1 _ r (Same.tr s1 (same_upd hr0)) upd_same
end
end Q23
namespace Q23
open PySem PySem.Spec PyProof.Rows L2 SX HL
/-- what stands behind the tag: leaves and parts -/
def kidsO : Ex → List (Option Ex)
  | .num _ => [none]
  | .name _ => [none]
  | .bin _ a b => [none, some a, some b]
  | .con a b => [some a, some b]
  | .neg a => [some a]
def ExO (H : Hp) : Option Ex → V → Prop
  | none, u => (∃ i, u = .int i) ∨ ∃ z, u = .str z
  | some x, u => TrAt H x.tr u
theorem ex_tup {H : Hp} {e : Ex} {u : V} (h : TrAt H e.tr u) : ∃ a tag us, u = .ref a ∧ H a = some (.tup (.str tag :: us)) ∧ All2 (ExO H) (kidsO e) us := by
  have key : ∀ {l : List T} {tag : Str}, TrAt H (.t (.s tag :: l)) u → ∃ a us, u = .ref a ∧ H a = some (.tup (.str tag :: us)) ∧ WAt H l us := by
    rintro l tag ⟨a, us, e, ha, h⟩
    have h2 := h.all
    cases h2 with
    | cons g r =>
      obtain rfl := g
      exact ⟨a, _, e, ha, r⟩
  cases e with
  | num k =>
    obtain ⟨a, us, e, ha, h⟩ := key h
    cases h with
    | cons g r =>
      cases r
      exact ⟨a, _, _, e, ha, .cons (.inl ⟨_, g⟩) .nil⟩
  | name k =>
    obtain ⟨a, us, e, ha, h⟩ := key h
    cases h with
    | cons g r =>
      cases r
      exact ⟨a, _, _, e, ha, .cons (.inr ⟨_, g⟩) .nil⟩
  | bin o x y =>
    obtain ⟨a, us, e, ha, h⟩ := key h
    cases h with
    | cons g r =>
      cases r with
      | cons g1 r1 =>
        cases r1 with
        | cons g2 r2 =>
          cases r2
          exact ⟨a, _, _, e, ha, .cons (.inr ⟨_, g⟩) (.cons g1 (.cons g2 .nil))⟩
  | con x y =>
    obtain ⟨a, us, e, ha, h⟩ := key h
    cases h with
    | cons g1 r1 =>
      cases r1 with
      | cons g2 r2 =>
        cases r2
        exact ⟨a, _, _, e, ha, .cons g1 (.cons g2 .nil)⟩
  | neg x =>
    obtain ⟨a, us, e, ha, h⟩ := key h
    cases h with
    | cons g1 r1 =>
      cases r1
      exact ⟨a, _, _, e, ha, .cons g1 .nil⟩
def subE (e : Ex) : List Ex := (kidsO e).filterMap id
theorem dp_max {e : Ex} {m : Int} (h : m ∈ (0 : Int) :: (subE e).map fun x => (x.dp : Int)) (h2 : ∀ y ∈ (0 : Int) :: (subE e).map (fun x => (x.dp : Int)), y ≤ m) : (e.dp : Int) = 1 + m := by
  cases e <;> simp [subE, kidsO, Ex.dp] at h h2 ⊢ <;> omega
theorem dp_lt {e x : Ex} (h : x ∈ subE e) : x.dp < e.dp := by
  cases e <;> simp [subE, kidsO] at h
  · rcases h with rfl | rfl <;> (rw [Ex.dp]; omega)
  · rcases h with rfl | rfl <;> (rw [Ex.dp]; omega)
  · subst h; rw [Ex.dp]; omega
section
variable {P : Program} {w : World} {K : PySem.W.Frag} {mg : Str → Option Value} {base : Heap}
/-! ### _law_depth -/
def spDepth (d : Nat) : Sp := fun vs H Q _ => ∃ (a : Addr) (e : Ex), vs = [.ref a] ∧ TrAt H e.tr (.ref a) ∧ e.dp ≤ d ∧ e.dp ≤ 1000 ∧ ∀ H', Same H H' → Q (.int (e.dp : Int)) H'
theorem depth_zero {k : Nat} (Z : Defs K mg) (R : Rest P w K mg Z) : FnOk P w K mg base CX0 (k + 1) Z.fLawDepth Z.fdLawDepth ["e"] (spDepth 0) := by
  have no : ∀ e : Ex, ¬ e.dp ≤ 0 := fun e h => by cases e <;> (rw [Ex.dp] at h; omega)
  refine Z.DLawDepth.F.ok scLawDepth (fun vs H Q E h => ?_) (fun cdv A outer s H vs Q E hr h => ?_)
  · obtain ⟨a, e, rfl, _⟩ := h
    rfl
  · obtain ⟨a, e, rfl, _, he, _⟩ := h
    exact absurd he (no e)
theorem depth_step {k d : Nat} (Z : Defs K mg) (R : Rest P w K mg Z) (GLawDepth : FnOk P w K mg base CX0 (k + 1) Z.fLawDepth Z.fdLawDepth ["e"] (spDepth d)) : FnOk P w K mg base CX0 (k + 2) Z.fLawDepth Z.fdLawDepth ["e"] (spDepth (d + 1)) := by
  have T := R.T
  have DLawDepth := Z.DLawDepth
  refine Z.DLawDepth.F.ok scLawDepth (fun vs H Q E h => ?_) (fun cdv A outer s H vs Q E hr h => ?_)
  · obtain ⟨a, e, rfl, _⟩ := h
    rfl
  · obtain ⟨a, e, rfl, ha, he, hz, q⟩ := h
    refine ⟨_, (pss_cons (ps_setLc (i := 1) (own := [("part", 2)]) (g := (gName 2)) (by rfl) scLawDepth.nd rfl rfl (sw_true rfl rfl rfl (by decide +kernel)) (HK.pi_tupK (K := K) rfl (pe_slice sl_tup (pv 0) (po_some pe_int) po_none)) (blkOk_by (own := [("part", 2)]) (N := ["e", "parts_v", "part"]) (sc := defScope sLawDepth) (by decide +kernel)) (fun _ _ _ _ _ => (pg_name (i := 2) scLawDepth.nd rfl (Or.inl rfl))) (fun _ _ _ _ _ => (pts_one (pt_val (pe_callB (HX.call_isBK (K := K) rfl) (by rfl) T.isinstance HL.boot_isinstance (pa_cons (pv 2) (pa_cons (pe_bltn (v := .ty "tuple") (by rfl) T.tuple HL.boot_tuple rfl) pa_nil)))))) (fun _ _ _ _ _ => (pv 2)))
        (pss_one (ps_ret (pe_op op_add pe_int (pe_callB (cr_max rfl) (by rfl) T.max (by decide +kernel) (pa_cons (pe_op op_cat (pe_lst (pa_cons pe_int pa_nil)) (pe_lc (own := [("part", 2)]) (g := (gName 2)) (by rfl) scLawDepth.nd (ET.pi_listK (K := K) rfl (pv 1)) (blkOk_by (own := [("part", 2)]) (N := ["e", "parts_v", "part"]) (sc := defScope sLawDepth) (by decide +kernel)) (fun _ _ _ _ _ => (pg_name (i := 2) scLawDepth.nd rfl (Or.inl rfl))) (fun _ _ _ _ _ => pts_nil) (fun _ _ _ _ _ => (pe_call GLawDepth (hr.mono (by omega)) (by rfl) DLawDepth.g DLawDepth.F.kp DLawDepth.b .nil pass0 (pa_cons (pv 2) pa_nil))))) pa_nil)))))), ?_⟩
    obtain ⟨a', tag, us, ea, hta, hus⟩ := ex_tup ha
    obtain rfl := V.ref.inj ea
    have hlen := hus.len
    have hk3 : (kidsO e).length ≤ 3 ∧ 0 < (kidsO e).length := by cases e <;> simp [kidsO]
    have ecut : cutV (.str tag :: us) (some (1 : Int)) none = us := cut_from _ 1 (by simp)
    refine ⟨_, rfl, 1, rfl, a, _, rfl, SqT.of hta, ?_, fun z hz1 => ?_⟩
    · intro h
      have := h.1
      rw [show HT.sIx (V.str tag :: us).length 0 (some (1 : Int)) = min 1 (V.str tag :: us).length from HT.sIx_nat _ _ 1] at this
      simp at this
    rw [ecut]
    have s1 := same_upd (o := .tup us) hz1
    have hz2 : upd H z (.tup us) z = some (.tup us) := upd_same
    have hus1 : All2 (ExO (upd H z (.tup us))) (kidsO e) us := All2.mono hus fun o u h => by
      cases o with
      | none => exact h
      | some x => exact TrAt.keep (TupK.of s1) h
    generalize upd H z (.tup us) = H1 at s1 hz2 hus1
    refine ⟨z, rfl, ⟨_, SqT.of hz2⟩, fun D hD => ?_⟩
    refine lc_it walk_tup (fun i H' => Same H1 H' ∧ ∃ acc, H' D = some (.lst acc) ∧ acc.length ≤ i ∧ All2 (fun (x : Ex) u => TrAt H' x.tr u) (((kidsO e).take i).filterMap id) acc) ⟨same_upd hD, [], upd_same, Nat.le_refl _, .nil⟩ (fun i H' _ p => SqT.of (p.1 _ _ hz2)) ?_ ?_
    · rintro i x H2 H3 hi ⟨s2, acc, hD2, la, hacc⟩ ⟨rfl, hx⟩
      replace hx : us[i]? = some x := hx
      obtain ⟨o, ho, hox⟩ := hus1.getR hx
      have etk : (kidsO e).take (i + 1) = (kidsO e).take i ++ [o] := by
        rw [List.take_add_one, ho]
        rfl
      have big : 100 ≤ sizeLine := by decide
      cases o with
      | none =>
        have e0 : ((kidsO e).take (i + 1)).filterMap id = ((kidsO e).take i).filterMap id := by rw [etk]; simp
        rcases hox with ⟨v, rfl⟩ | ⟨v, rfl⟩
        · exact ⟨rfl, _, rfl, _, "int", "tuple", false, rfl, .base (.int v), by decide +kernel, false, rfl, iteF ⟨s2, acc, hD2, by omega, by rw [e0]; exact hacc⟩⟩
        · exact ⟨rfl, _, rfl, _, "str", "tuple", false, rfl, .base (.str v), by decide +kernel, false, rfl, iteF ⟨s2, acc, hD2, by omega, by rw [e0]; exact hacc⟩⟩
      | some y =>
        have e0 : ((kidsO e).take (i + 1)).filterMap id = ((kidsO e).take i).filterMap id ++ [y] := by rw [etk]; simp
        obtain ⟨b, tg, ys, rfl, hb, _⟩ := ex_tup hox
        refine ⟨rfl, _, rfl, _, "tuple", "tuple", true, rfl, .base (.tup (s2 _ _ hb)), by decide +kernel, true, rfl, iteT ⟨_, rfl, acc, hD2, by omega, same_up s2 hD, _, upd_same, by rw [List.length_append]; show acc.length + 1 ≤ i + 1; omega, ?_⟩⟩
        rw [e0]
        have kk := tk_lst (ys := acc ++ [V.ref b]) hD2
        exact (All2.mono hacc fun x u h => TrAt.keep kk h).snoc ((TrAt.keep (TupK.of s2) hox).keep kk)
    · rintro H2 ⟨s2, acc, hD2, la, hacc⟩
      rw [show us.length = (kidsO e).length from hlen.symm, List.take_length] at hacc
      have hsub : All2 (fun (x : Ex) u => TrAt H2 x.tr u) (subE e) acc := hacc
      have lsub := hsub.len
      have big : 100 ≤ sizeLine := by decide
      have s02 := Same.tr s1 s2
      refine ⟨by show 1 ≤ sizeLine; decide, fun z0 hz0 => ?_⟩
      have s3 := same_upd (o := .lst [.int 0]) hz0
      have hz0' : upd H2 z0 (.lst [.int 0]) z0 = some (.lst [.int 0]) := upd_same
      have hD3 := s3 _ _ hD2
      have hsub3 : All2 (fun (x : Ex) u => TrAt (upd H2 z0 (.lst [.int 0])) x.tr u) (subE e) acc := All2.mono hsub fun x u h => TrAt.keep (TupK.of s3) h
      generalize upd H2 z0 (.lst [.int 0]) = H3 at s3 hz0' hD3 hsub3
      have s03 := Same.tr s02 s3
      refine ⟨_, rfl, D, rfl, ⟨_, SqL.of hD3⟩, fun D2 hDD => ?_⟩
      refine lc_it walk_list (fun i H' => Same H3 H' ∧ H' D2 = some (.lst (((subE e).take i).map fun x => V.int (x.dp : Int)))) ⟨same_upd hDD, upd_same⟩ (fun i H' _ p => SqL.of (p.1 _ _ hD3)) ?_ ?_
      · rintro i x H4 H5 hi ⟨s4, hA⟩ ⟨rfl, hx⟩
        replace hx : acc[i]? = some x := hx
        obtain ⟨y, hy, hty⟩ := hsub3.getR hx
        obtain ⟨b, tg, ys, rfl, hb, _⟩ := ex_tup hty
        have hlt := dp_lt (List.mem_of_getElem? hy)
        have ly : (subE e).length ≤ 3 := by cases e <;> simp [subE, kidsO]
        refine ⟨rfl, lc_yes ⟨_, rfl, b, y, rfl, TrAt.keep (TupK.of s4) hty, by omega, by omega, fun H6 s6 => ?_⟩⟩
        refine ⟨_, s6 _ _ hA, by rw [List.length_map, List.length_take]; omega, same_up (Same.tr s4 s6) hDD, ?_⟩
        rw [upd_same, List.take_add_one, hy]
        simp
      · rintro H4 ⟨s4, hA⟩
        rw [show acc.length = (subE e).length from lsub.symm, List.take_length] at hA
        have ly : (subE e).length ≤ 3 := by cases e <;> simp [subE, kidsO]
        refine ⟨z0, D2, _, _, rfl, rfl, s4 _ _ hz0', hA, by rw [List.length_map]; show 1 + _ ≤ _; omega, fun p hp => ?_⟩
        refine ⟨p, (0 : Int) :: (subE e).map (fun x => (x.dp : Int)), rfl, SqL.of (by rw [upd_same]; simp), by simp, fun m hm hmx => ⟨_, _, rfl, rfl, ?_⟩⟩
        have := dp_max hm hmx
        rw [this] at q
        exact q _ (Same.tr s03 (Same.tr s4 (same_upd hp)))
theorem ok_depth {k : Nat} (Z : Defs K mg) (R : Rest P w K mg Z) : ∀ d, FnOk P w K mg base CX0 (k + 1 + d) Z.fLawDepth Z.fdLawDepth ["e"] (spDepth d)
  | 0 => depth_zero Z R
  | d + 1 => by
    have h := ok_depth (k := k) Z R d
    rw [show k + 1 + d = k + d + 1 by omega] at h
    have h2 := depth_step (k := k + d) Z R h
    rw [show k + d + 2 = k + 1 + (d + 1) by omega] at h2
    exact h2
end
end Q23
/-! str(x) of a number or of a text -/
namespace SA
open PySem PySem.Spec PyProof.Rows L2 SX
variable {X : Cx}
def rStr : List V → Hp → VK → Prop := fun xs H Q => (∃ i : Int, xs = [.int i] ∧ i.natAbs.log2 < 1920 ∧ Q (.str (toString i)) H) ∨ ∃ a : Str, xs = [.str a] ∧ Q (.str a) H
theorem call_str_any : CallR X (.type "str") rStr := by
  intro pins s σ H xs us Q I r h
  rcases h with h | h
  · exact call_str_int pins s σ H xs us Q I r h
  · exact SkE.call_str_str pins s σ H xs us Q I r h
end SA
namespace Q23
open PySem PySem.Spec PyProof.Rows L2 SX HL
/-! ## the text with all brackets -/
def opc (o : Str) : List Nat := o.cps.toList
def Ex.txt : Ex → List Nat
  | .num k => TL.numL k
  | .name z => z
  | .bin o a b => [40] ++ a.txt ++ [32] ++ opc o ++ [32] ++ b.txt ++ [41]
  | .con a b => [40] ++ a.txt ++ [58, 58] ++ b.txt ++ [41]
  | .neg a => [40, 110, 111, 116, 32] ++ a.txt ++ [41]
def Ex.ok : Ex → Prop
  | .num k => k < 1000
  | .name z => Lex kws dv z .name (.s z) ∧ z.length ≤ 700
  | .bin o a b => (o ∈ lall ∧ o ≠ "::") ∧ a.ok ∧ b.ok
  | .con a b => a.ok ∧ b.ok
  | .neg a => a.ok
theorem opc_S (o : Str) : S (opc o) = o := rfl
theorem num_S (k : Nat) : Str.ofString (toString ((k : Nat) : Int)) = S (TL.numL k) := by
  rw [← TL.tl_num]
section
variable {P : Program} {w : World} {K : PySem.W.Frag} {mg : Str → Option Value} {base : Heap}
def spText (d : Nat) : Sp := fun vs H Q _ => ∃ (a : Addr) (e : Ex), vs = [.ref a] ∧ TrAt H e.tr (.ref a) ∧ e.dp ≤ d ∧ e.ok ∧ e.txt.length ≤ 100000 ∧ Q (.str (S e.txt)) H
theorem text_zero {k : Nat} (Z : Defs K mg) (R : Rest P w K mg Z) : FnOk P w K mg base CX0 (k + 1) Z.fLawText Z.fdLawText ["e"] (spText 0) := by
  have no : ∀ e : Ex, ¬ e.dp ≤ 0 := fun e h => by cases e <;> (rw [Ex.dp] at h; omega)
  refine Z.DLawText.F.ok scLawText (fun vs H Q E h => ?_) (fun cdv A outer s H vs Q E hr h => ?_)
  · obtain ⟨a, e, rfl, _⟩ := h
    rfl
  · obtain ⟨a, e, rfl, _, he, _⟩ := h
    exact absurd he (no e)
theorem text_step {k d : Nat} (Z : Defs K mg) (R : Rest P w K mg Z) (GLawText : FnOk P w K mg base CX0 (k + 1) Z.fLawText Z.fdLawText ["e"] (spText d)) : FnOk P w K mg base CX0 (k + 2) Z.fLawText Z.fdLawText ["e"] (spText (d + 1)) := by
  have T := R.T
  have DLawText := Z.DLawText
  refine Z.DLawText.F.ok scLawText (fun vs H Q E h => ?_) (fun cdv A outer s H vs Q E hr h => ?_)
  · obtain ⟨a, e, rfl, _⟩ := h
    rfl
  · obtain ⟨a, e, rfl, ha, he, hok, hz, q⟩ := h
    refine ⟨_, (pss_cons (ps_if (pt_cmpR op_eq (pe_ix ix_tup (pv 0) pe_int (fun _ _ => rfl)) pe_str (nomark _)) (pss_one (ps_ret (pe_op op_add_str (pe_op op_add_str (pe_op op_add_str (pe_op op_add_str (pe_op op_add_str (pe_op op_add_str pe_str (pe_call GLawText (hr.mono (by omega)) (by rfl) DLawText.g DLawText.F.kp DLawText.b .nil pass0 (pa_cons (pe_ix ix_tup (pv 0) pe_int (fun _ _ => rfl)) pa_nil))) pe_str) (pe_ix ix_tup (pv 0) pe_int (fun _ _ => rfl))) pe_str) (pe_call GLawText (hr.mono (by omega)) (by rfl) DLawText.g DLawText.F.kp DLawText.b .nil pass0 (pa_cons (pe_ix ix_tup (pv 0) pe_int (fun _ _ => rfl)) pa_nil))) pe_str))) pss_nil)
        (pss_cons (ps_if (pt_cmpR op_eq (pe_ix ix_tup (pv 0) pe_int (fun _ _ => rfl)) pe_str (nomark _)) (pss_one (ps_ret (pe_op op_add_str (pe_op op_add_str (pe_op op_add_str (pe_op op_add_str pe_str (pe_call GLawText (hr.mono (by omega)) (by rfl) DLawText.g DLawText.F.kp DLawText.b .nil pass0 (pa_cons (pe_ix ix_tup (pv 0) pe_int (fun _ _ => rfl)) pa_nil))) pe_str) (pe_call GLawText (hr.mono (by omega)) (by rfl) DLawText.g DLawText.F.kp DLawText.b .nil pass0 (pa_cons (pe_ix ix_tup (pv 0) pe_int (fun _ _ => rfl)) pa_nil))) pe_str))) pss_nil)
        (pss_cons (ps_if (pt_cmpR op_eq (pe_ix ix_tup (pv 0) pe_int (fun _ _ => rfl)) pe_str (nomark _)) (pss_one (ps_ret (pe_op op_add_str (pe_op op_add_str pe_str (pe_call GLawText (hr.mono (by omega)) (by rfl) DLawText.g DLawText.F.kp DLawText.b .nil pass0 (pa_cons (pe_ix ix_tup (pv 0) pe_int (fun _ _ => rfl)) pa_nil))) pe_str))) pss_nil)
        (pss_one (ps_ret (pe_callTy SA.call_str_any (by rfl) T.str HL.boot_str (pa_cons (pe_ix ix_tup (pv 0) pe_int (fun _ _ => rfl)) pa_nil))))))), ?_⟩
    have no : ∀ {x y : Str}, ¬ x = y → ¬ (decide (V.str x = V.str y) = true) := fun h z => h (V.str.inj (of_decide_eq_true z))
    cases e with
    | num k0 =>
      obtain ⟨a', us, ea, hta, hus⟩ := ha
      obtain rfl := V.ref.inj ea
      obtain ⟨u0, r0, rfl, e0, u1, r1, rfl, e1, e2⟩ := hus
      obtain rfl : u0 = _ := e0
      obtain rfl : u1 = _ := e1
      obtain rfl : r1 = _ := e2
      refine ⟨_, rfl, a, _, 0, _, rfl, rfl, SqT.of hta, rfl, rfl, _, rfl, HL.iteNo (no (by decide +kernel)) ⟨_, rfl, a, _, 0, _, rfl, rfl, SqT.of hta, rfl, rfl, _, rfl, HL.iteNo (no (by decide +kernel)) ⟨_, rfl, a, _, 0, _, rfl, rfl, SqT.of hta, rfl, rfl, _, rfl, HL.iteNo (no (by decide +kernel)) ?_⟩⟩⟩
      refine ⟨_, rfl, a, _, 1, _, rfl, rfl, SqT.of hta, rfl, .inl ⟨(k0 : Int), rfl, ?_, ?_⟩⟩
      · have h1 : k0 < 1000 := hok
        have h2 := Nat.log2_le_self ((k0 : Int)).natAbs
        omega
      · show Q (.str (Str.ofString (toString ((k0 : Nat) : Int)))) H
        rw [num_S]
        exact q
    | name z =>
      obtain ⟨a', us, ea, hta, hus⟩ := ha
      obtain rfl := V.ref.inj ea
      obtain ⟨u0, r0, rfl, e0, u1, r1, rfl, e1, e2⟩ := hus
      obtain rfl : u0 = _ := e0
      obtain rfl : u1 = _ := e1
      obtain rfl : r1 = _ := e2
      refine ⟨_, rfl, a, _, 0, _, rfl, rfl, SqT.of hta, rfl, rfl, _, rfl, HL.iteNo (no (by decide +kernel)) ⟨_, rfl, a, _, 0, _, rfl, rfl, SqT.of hta, rfl, rfl, _, rfl, HL.iteNo (no (by decide +kernel)) ⟨_, rfl, a, _, 0, _, rfl, rfl, SqT.of hta, rfl, rfl, _, rfl, HL.iteNo (no (by decide +kernel)) ?_⟩⟩⟩
      exact ⟨_, rfl, a, _, 1, _, rfl, rfl, SqT.of hta, rfl, .inr ⟨S z, rfl, q⟩⟩
    | bin o x y =>
      obtain ⟨a', us, ea, hta, hus⟩ := ha
      obtain rfl := V.ref.inj ea
      obtain ⟨u0, r0, rfl, e0, u1, r1, rfl, e1, u2, r2, rfl, e2, u3, r3, rfl, e3, e4⟩ := hus
      obtain rfl : u0 = _ := e0
      obtain rfl : u1 = _ := e1
      obtain rfl : r3 = _ := e4
      obtain ⟨b2, _, _, rfl, _, _⟩ := ex_tup e2
      obtain ⟨b3, _, _, rfl, _, _⟩ := ex_tup e3
      obtain ⟨_, ok1, ok2⟩ := hok
      rw [Ex.dp] at he
      rw [Ex.txt] at hz
      simp only [List.length_append, List.length_cons, List.length_nil] at hz
      have big : 200000 ≤ sizeLine := by decide
      have len1 : ∀ l : List Nat, (S l).length = l.length := fun l => S_len l
      refine ⟨_, rfl, a, _, 0, _, rfl, rfl, SqT.of hta, rfl, rfl, _, rfl, HL.iteYes (decide_eq_true rfl) ?_⟩
      have eo : o = S (opc o) := rfl
      refine ⟨_, rfl, a, _, 2, _, rfl, rfl, SqT.of hta, rfl, b2, x, rfl, e2, by omega, ok1, by omega, ?_⟩
      rw [show ("(" : Str) = S [40] by decide +kernel, show (" " : Str) = S [32] by decide +kernel, show (")" : Str) = S [41] by decide +kernel]
      refine ⟨_, _, rfl, rfl, (by simp only [S_app, S_len, List.length_append, List.length_cons, List.length_nil]; omega), _, _, rfl, rfl, (by simp only [S_app, S_len, List.length_append, List.length_cons, List.length_nil]; omega), _, rfl, a, _, 1, _, rfl, rfl, SqT.of hta, rfl, _, S (opc o), rfl, rfl, (by simp only [S_app, S_len, List.length_append, List.length_cons, List.length_nil]; omega), _, _, rfl, rfl, (by simp only [S_app, S_len, List.length_append, List.length_cons, List.length_nil]; omega), _, rfl, a, _, 3, _, rfl, rfl, SqT.of hta, rfl, b3, y, rfl, e3, by omega, ok2, by omega, _, _, rfl, rfl, (by simp only [S_app, S_len, List.length_append, List.length_cons, List.length_nil]; omega), _, _, rfl, rfl, (by simp only [S_app, S_len, List.length_append, List.length_cons, List.length_nil]; omega), ?_⟩
      simp only [S_app]
      exact q
    | con x y =>
      obtain ⟨a', us, ea, hta, hus⟩ := ha
      obtain rfl := V.ref.inj ea
      obtain ⟨u0, r0, rfl, e0, u2, r2, rfl, e2, u3, r3, rfl, e3, e4⟩ := hus
      obtain rfl : u0 = _ := e0
      obtain rfl : r3 = _ := e4
      obtain ⟨b2, _, _, rfl, _, _⟩ := ex_tup e2
      obtain ⟨b3, _, _, rfl, _, _⟩ := ex_tup e3
      obtain ⟨ok1, ok2⟩ := hok
      rw [Ex.dp] at he
      rw [Ex.txt] at hz
      simp only [List.length_append, List.length_cons, List.length_nil] at hz
      have big : 200000 ≤ sizeLine := by decide
      refine ⟨_, rfl, a, _, 0, _, rfl, rfl, SqT.of hta, rfl, rfl, _, rfl, HL.iteNo (no (by decide +kernel)) ⟨_, rfl, a, _, 0, _, rfl, rfl, SqT.of hta, rfl, rfl, _, rfl, HL.iteYes (decide_eq_true rfl) ?_⟩⟩
      refine ⟨_, rfl, a, _, 1, _, rfl, rfl, SqT.of hta, rfl, b2, x, rfl, e2, by omega, ok1, by omega, ?_⟩
      rw [show ("(" : Str) = S [40] by decide +kernel, show ("::" : Str) = S [58, 58] by decide +kernel, show (")" : Str) = S [41] by decide +kernel]
      refine ⟨_, _, rfl, rfl, (by simp only [S_app, S_len, List.length_append, List.length_cons, List.length_nil]; omega), _, _, rfl, rfl, (by simp only [S_app, S_len, List.length_append, List.length_cons, List.length_nil]; omega), _, rfl, a, _, 2, _, rfl, rfl, SqT.of hta, rfl, b3, y, rfl, e3, by omega, ok2, by omega, _, _, rfl, rfl, (by simp only [S_app, S_len, List.length_append, List.length_cons, List.length_nil]; omega), _, _, rfl, rfl, (by simp only [S_app, S_len, List.length_append, List.length_cons, List.length_nil]; omega), ?_⟩
      simp only [S_app]
      exact q
    | neg x =>
      obtain ⟨a', us, ea, hta, hus⟩ := ha
      obtain rfl := V.ref.inj ea
      obtain ⟨u0, r0, rfl, e0, u2, r2, rfl, e2, e4⟩ := hus
      obtain rfl : u0 = _ := e0
      obtain rfl : r2 = _ := e4
      obtain ⟨b2, _, _, rfl, _, _⟩ := ex_tup e2
      rw [Ex.dp] at he
      rw [Ex.txt] at hz
      simp only [List.length_append, List.length_cons, List.length_nil] at hz
      have big : 200000 ≤ sizeLine := by decide
      refine ⟨_, rfl, a, _, 0, _, rfl, rfl, SqT.of hta, rfl, rfl, _, rfl, HL.iteNo (no (by decide +kernel)) ⟨_, rfl, a, _, 0, _, rfl, rfl, SqT.of hta, rfl, rfl, _, rfl, HL.iteNo (no (by decide +kernel)) ⟨_, rfl, a, _, 0, _, rfl, rfl, SqT.of hta, rfl, rfl, _, rfl, HL.iteYes (decide_eq_true rfl) ?_⟩⟩⟩
      refine ⟨_, rfl, a, _, 1, _, rfl, rfl, SqT.of hta, rfl, b2, x, rfl, e2, by omega, hok, by omega, ?_⟩
      rw [show ("(not " : Str) = S [40, 110, 111, 116, 32] by decide +kernel, show (")" : Str) = S [41] by decide +kernel]
      refine ⟨_, _, rfl, rfl, (by simp only [S_app, S_len, List.length_append, List.length_cons, List.length_nil]; omega), _, _, rfl, rfl, (by simp only [S_app, S_len, List.length_append, List.length_cons, List.length_nil]; omega), ?_⟩
      simp only [S_app]
      exact q
theorem ok_ltext {k : Nat} (Z : Defs K mg) (R : Rest P w K mg Z) : ∀ d, FnOk P w K mg base CX0 (k + 1 + d) Z.fLawText Z.fdLawText ["e"] (spText d)
  | 0 => text_zero Z R
  | d + 1 => by
    have h := ok_ltext (k := k) Z R d
    rw [show k + 1 + d = k + d + 1 by omega] at h
    have h2 := text_step (k := k + d) Z R h
    rw [show k + d + 2 = k + 1 + (d + 1) by omega] at h2
    exact h2
end
/-! the tokens with all brackets -/
def Ex.bt : Ex → List Tk
  | .num k => [numT (k : Int)]
  | .name z => [nameT (S z)]
  | .bin o a b => kw "(" :: ((a.bt ++ kw o :: b.bt) ++ [kw ")"])
  | .con a b => kw "(" :: ((a.bt ++ kw "::" :: b.bt) ++ [kw ")"])
  | .neg a => kw "(" :: ((kw "not" :: a.bt) ++ [kw ")"])
theorem lall_five : ∀ o ∈ lall, o ∈ lv1 ∨ o ∈ lv2 ∨ o ∈ lcm ∨ o ∈ lco ∨ o ∈ lad ∨ o ∈ lmu := by decide +kernel
theorem bt_G : ∀ e : Ex, e.ok → G "<primary>" none e.bt e.tr
  | .num k, _ => .num _
  | .name z, _ => .name _
  | .neg a, h => by
    have g := up_prod (bt_G a h)
    exact .par (.expr (up_or (up_and (.neg (.cmp1 (.cons1 (up_sum g)))))))
  | .con a b, h => by
    have g1 := up_sum (up_prod (bt_G a h.1))
    have g2 := G.cons1 (up_sum (up_prod (bt_G b h.2)))
    exact .par (.expr (up_or (up_and (.cmp1 (.cons2 g1 g2)))))
  | .bin o a b, h => by
    have ga := bt_G a h.2.1
    have gb := bt_G b h.2.2
    have p1 := up_prod ga
    have p2 := up_prod gb
    have s1 := up_sum p1
    have s2 := up_sum p2
    have c1 := G.cons1 s1
    have c2 := G.cons1 s2
    have n1 := G.cmp1 c1
    have n2 := G.cmp1 c2
    have a1 := up_and n1
    have a2 := up_and n2
    refine .par (.expr ?_)
    rcases lall_five o h.1.1 with z | z | z | z | z | z
    · exact G.snoc (sub := "<and>") (m := "<more-or>") (by decide +kernel) (by decide +kernel) (by
        have : ∀ o ∈ lv1, o ∈ ops "<more-or>" := by decide +kernel
        exact this o z) (up_or a1) a2
    · exact up_or (G.snoc (sub := "<not>") (m := "<more-and>") (by decide +kernel) (by decide +kernel) (by
        have : ∀ o ∈ lv2, o ∈ ops "<more-and>" := by decide +kernel
        exact this o z) a1 n2)
    · exact up_or (up_and (.cmp2 z c1 c2))
    · exact absurd (List.mem_singleton.mp z) h.1.2
    · exact up_or (up_and (.cmp1 (.cons1 (G.snoc (sub := "<product>") (m := "<more-sum>") (by decide +kernel) (by decide +kernel) (by
        have : ∀ o ∈ lad, o ∈ ops "<more-sum>" := by decide +kernel
        exact this o z) s1 p2))))
    · exact up_or (up_and (.cmp1 (.cons1 (up_sum (G.snoc (sub := "<primary>") (m := "<more-product>") (by decide +kernel) (by decide +kernel) (by
        have : ∀ o ∈ lmu, o ∈ ops "<more-product>" := by decide +kernel
        exact this o z) p1 gb)))))
end Q23
namespace Q23
open PySem PySem.Spec PyProof.Rows L2 SX HL
/-! ## texts and their tokens -/
/-- a written token: its text, its kind, its value -/
abbrev Pc := List Nat × Kind × Val
theorem toks_gap {g w rest : List Nat} {k : Kind} {v : Val} {off : Nat} {L : List (Kind × Val × Nat)} (hg : ∀ c ∈ g, isBlank c = true) (hw : Lex kws dv w k v) (hr : Sep w rest) (h : Toks kws dv (off + g.length + w.length) rest L) : Toks kws dv off (g ++ (w ++ rest)) ((k, v, off + g.length) :: L) :=
  blanks_toks g off _ _ hg (.tok hw hr h)
theorem toks_list {g : List Nat} (hg : ∀ c ∈ g, isBlank c = true) (hne : g ≠ []) : ∀ (ps : List Pc) (off : Nat), (∀ p ∈ ps, Lex kws dv p.1 p.2.1 p.2.2) → ∃ L, Toks kws dv off (ps.flatMap fun p => g ++ p.1) L ∧ L.map (fun x => (x.1, x.2.1)) = ps.map (fun p => (p.2.1, p.2.2))
  | [], off, _ => ⟨[], .nil off, rfl⟩
  | p :: ps, off, h => by
    obtain ⟨L, h1, h2⟩ := toks_list hg hne ps (off + g.length + p.1.length) fun q hq => h q (List.mem_cons_of_mem _ hq)
    have hsep : Sep p.1 (ps.flatMap fun p => g ++ p.1) := by
      cases ps with
      | nil => exact sep_nil _
      | cons q ps =>
        obtain ⟨c, g', rfl⟩ := List.exists_cons_of_ne_nil hne
        exact sep_blank _ (hg c List.mem_cons_self)
    refine ⟨(p.2.1, p.2.2, off + g.length) :: L, ?_, by rw [List.map_cons, h2, List.map_cons]⟩
    rw [List.flatMap_cons, List.append_assoc]
    exact toks_gap hg (h p List.mem_cons_self) hsep h1
/-- the text of an item; of a number any digits -/
inductive PcOf : It → Pc → Prop
  | neg : PcOf .neg ([110, 111, 116], .keyword, .s [110, 111, 116])
  | word {o : Str} {w : List Nat} : o = S w → w ∈ ([[111, 114], [97, 110, 100], [109, 111, 100]] : List (List Nat)) → PcOf (.op o) (w, .keyword, .s w)
  | sign {o : Str} {w : List Nat} : o = S w → w ∈ ([[61], [60], [58, 58], [43], [45], [43, 43], [42], [47]] : List (List Nat)) → PcOf (.op o) (w, .sign, .s w)
  | num {k : Nat} {w : List Nat} : w ≠ [] → (∀ x ∈ w, isDig x = true) → w.length ≤ 18 → dv w = k → PcOf (.num k) (w, .number, .n k)
  | name {z : List Nat} : Lex kws dv z .name (.s z) → PcOf (.name z) (z, .name, .s z)
theorem lex_words : ∀ w ∈ ([[110, 111, 116], [111, 114], [97, 110, 100], [109, 111, 100], [118, 105, 101, 119]] : List (List Nat)), isLet (w.headD 0) = true ∧ (∀ x ∈ w.tail, isWord x = true) ∧ w ≠ [] ∧ isUp (w.headD 0) = false ∧ w ∈ kws := by decide +kernel
theorem lex_word {w : List Nat} (h : w ∈ ([[110, 111, 116], [111, 114], [97, 110, 100], [109, 111, 100], [118, 105, 101, 119]] : List (List Nat))) : Lex kws dv w .keyword (.s w) := by
  obtain ⟨h1, h2, h3, h4, h5⟩ := lex_words w h
  obtain ⟨c, s, rfl⟩ := List.exists_cons_of_ne_nil h3
  have l := Lex.word (kws := kws) (dv := dv) c s h1 h2
  have e : kindOf kws (c :: s) = .keyword := by
    have h4 : isUp c = false := h4
    simp [kindOf, h4, h5]
  rw [e] at l
  exact l
theorem pc_lex {x : It} {p : Pc} (h : PcOf x p) : Lex kws dv p.1 p.2.1 p.2.2 := by
  cases h with
  | neg => exact lex_word (by decide +kernel)
  | word e hw => exact lex_word (List.mem_cons_of_mem _ (by
      simp only [List.mem_cons, List.not_mem_nil, or_false] at hw ⊢
      rcases hw with h | h | h <;> simp [h]))
  | sign e hw =>
    refine .sign _ ?_
    have : ∀ w ∈ ([[61], [60], [58, 58], [43], [45], [43, 43], [42], [47]] : List (List Nat)), w ∈ signs := by decide +kernel
    exact this _ hw
  | @num k w h1 h2 h3 h4 =>
    have l := Lex.num (kws := kws) (dv := dv) w h1 h2 h3
    rw [h4] at l
    exact l
  | name h => exact h
theorem notS : ("not" : Str) = S [110, 111, 116] := by decide +kernel
theorem tok_kw (w : List Nat) (pos : Nat) : TokOf (.keyword, .s w, pos) (kw (S w)) ∧ TokOf (.sign, .s w, pos) (kw (S w)) := by
  refine ⟨⟨?_, rfl⟩, ⟨?_, rfl⟩⟩
  · show wordOf "keyword" (.str (S w)) = some (S w)
    unfold wordOf
    rw [if_pos (by decide +kernel)]
  · show wordOf "sign" (.str (S w)) = some (S w)
    unfold wordOf
    rw [if_pos (by decide +kernel)]
theorem pc_tok {x : It} {p : Pc} (h : PcOf x p) (pos : Nat) : TokOf (p.2.1, p.2.2, pos) x.tk := by
  cases h with
  | neg =>
    have := (tok_kw [110, 111, 116] pos).1
    rw [← notS] at this
    exact this
  | word e hw =>
    subst e
    exact (tok_kw _ pos).1
  | sign e hw =>
    subst e
    exact (tok_kw _ pos).2
  | @num k w h1 h2 h3 h4 =>
    refine ⟨?_, rfl⟩
    show wordOf "number" (.int (k : Int)) = some "NUMBER"
    unfold wordOf
    rw [if_neg (by decide +kernel)]
    exact congrArg some (by decide +kernel)
  | @name z h =>
    refine ⟨?_, rfl⟩
    show wordOf "name" (.str (S z)) = some "NAME"
    unfold wordOf
    rw [if_neg (by decide +kernel)]
    exact congrArg some (by decide +kernel)
theorem all_tok : ∀ {l : List It} {ps : List Pc} {L : List (Kind × Val × Nat)}, All2 PcOf l ps → L.map (fun x => (x.1, x.2.1)) = ps.map (fun p => (p.2.1, p.2.2)) → All2 TokOf L (l.map It.tk)
  | _, _, [], .nil, _ => .nil
  | _, _, x :: L, .nil, h => by simp at h
  | _, _, [], .cons _ _, h => by simp at h
  | _, _, (k, v, pos) :: L, .cons (x := y) (y := p) h1 h2, h => by
    rw [List.map_cons, List.map_cons, List.cons.injEq, Prod.mk.injEq] at h
    obtain ⟨⟨e1, e2⟩, h3⟩ := h
    have e1 : k = p.2.1 := e1
    have e2 : v = p.2.2 := e2
    subst e1
    subst e2
    exact .cons (pc_tok h1 pos) (all_tok h2 h3)
def viewC (z g : List Nat) (ps : List Pc) : List Nat := [118, 105, 101, 119] ++ ([32] ++ (z ++ ([32] ++ ([61] ++ ps.flatMap fun p => g ++ p.1))))
/-- the tokens of the flat chunk -/
theorem view_toks {z g : List Nat} {l : List It} {ps : List Pc} (hz : Lex kws dv z .name (.s z)) (hg : ∀ c ∈ g, isBlank c = true) (hne : g ≠ []) (h : All2 PcOf l ps) :
    ∃ L, Toks kws dv 0 (viewC z g ps) L ∧ All2 TokOf L (kw "view" :: nameT (S z) :: kw "=" :: l.map It.tk) := by
  have hlex : ∀ p ∈ ps, Lex kws dv p.1 p.2.1 p.2.2 := by
    intro p hp
    obtain ⟨i, hi, e⟩ := List.mem_iff_getElem.mp hp
    obtain ⟨x, _, hx⟩ := h.getR (show ps[i]? = some p by rw [List.getElem?_eq_getElem hi, e])
    exact pc_lex hx
  obtain ⟨L, h1, h2⟩ := toks_list hg hne ps (0 + 0 + 4 + 1 + z.length + 1 + 1) hlex
  have sp : ∀ c ∈ [32], isBlank c = true := by decide
  have sep : Sep [61] (ps.flatMap fun p => g ++ p.1) := by
    cases ps with
    | nil => exact sep_nil _
    | cons q ps =>
      obtain ⟨c, g', rfl⟩ := List.exists_cons_of_ne_nil hne
      exact sep_blank _ (hg c List.mem_cons_self)
  have t3 := toks_gap (g := [32]) (w := [61]) (off := 0 + 0 + 4 + 1 + z.length) sp (.sign [61] (by decide)) sep h1
  have t2 := toks_gap (g := [32]) (w := z) (off := 0 + 0 + 4) sp hz (sep_blank _ (by decide)) t3
  have t1 := toks_gap (g := []) (w := [118, 105, 101, 119]) (off := 0) (fun c hc => by cases hc) (lex_word (by decide +kernel)) (sep_blank _ (by decide)) t2
  refine ⟨_, t1, .cons ?_ (.cons ?_ (.cons ?_ (all_tok h h2)))⟩
  · have := (tok_kw [118, 105, 101, 119] (0 + 0)).1
    rw [show S [118, 105, 101, 119] = ("view" : Str) by decide +kernel] at this
    exact this
  · exact pc_tok (.name hz) _
  · have := (tok_kw [61] (0 + 0 + 4 + 1 + z.length)).2
    rw [show S [61] = ("=" : Str) by decide +kernel] at this
    exact this
end Q23
namespace Q23
open PySem PySem.Spec PyProof.Rows L2 SX HL
/-! ## the tokens of the text with all brackets -/
def Okr (rest : List Nat) : Prop := ∀ d, rest.head? = some d → d = 32 ∨ d = 41 ∨ d = 58
theorem okr_sep {w rest : List Nat} (h : Okr rest) (hw : w = [41] ∨ (∃ c s, w = c :: s ∧ isLet c = true) ∨ (∃ c s, w = c :: s ∧ isDig c = true)) : Sep w rest := by
  have no : ∀ d, rest.head? = some d → isWord d = false ∧ isDig d = false := fun d hd => by
    rcases h d hd with rfl | rfl | rfl <;> decide
  rcases hw with rfl | ⟨c, s, rfl, hc⟩ | ⟨c, s, rfl, hc⟩
  · refine ⟨fun z => absurd z (by decide), fun z => absurd z (by decide), fun z => absurd z (by decide), fun _ _ _ _ d hd hl => ?_⟩
    have := longs_snd hl
    omega
  · refine ⟨fun _ d hd => (no d hd).1, fun _ d hd => (no d hd).2, fun z => ?_, fun z => ?_⟩
    · subst z
      exact absurd hc (by decide)
    · rw [hc] at z; cases z
  · refine ⟨fun z d hd => (no d hd).1, fun _ d hd => (no d hd).2, fun z => ?_, fun _ z => ?_⟩
    · subst z
      exact absurd hc (by decide)
    · rw [hc] at z; cases z
theorem sep_open (rest : List Nat) : Sep [40] rest := by
  refine ⟨fun z => absurd z (by decide), fun z => absurd z (by decide), fun z => absurd z (by decide), fun _ _ _ _ d hd hl => ?_⟩
  have := longs_snd hl
  omega
theorem sep_two (rest : List Nat) : Sep [58, 58] rest := ⟨fun z => absurd z (by decide), fun z => absurd z (by decide), fun z => absurd z (by decide), fun _ _ _ z => by cases z⟩
theorem num_lex {k : Nat} (h : k < 1000) : Lex kws dv (TL.numL k) .number (.n k) := by
  have hl : ∀ k : Fin 1000, (TL.numL k.val).length ≤ 18 ∧ ∀ x ∈ TL.numL k.val, isDig x = true := by decide +kernel
  obtain ⟨h1, h2⟩ := hl ⟨k, h⟩
  have l := Lex.num (kws := kws) (dv := dv) (TL.numL k) (TL.numL_ne k) h2 h1
  rw [show dv (TL.numL k) = k from TL.numL_val k] at l
  exact l
theorem name_let {z : List Nat} (h : Lex kws dv z .name (.s z)) : ∃ c s, z = c :: s ∧ isLet c = true := by
  generalize ek : Kind.name = k at h
  generalize ev : Val.s z = v at h
  cases h with
  | word c s h1 h2 => exact ⟨c, s, rfl, h1⟩
  | num w _ _ _ => cases ek
  | quo x => cases ek
  | sign w _ => cases ek
theorem op_lex {o : Str} (h : o ∈ lall) : ∃ k, (k = .keyword ∨ k = .sign) ∧ Lex kws dv (opc o) k (.s (opc o)) := by
  have h1 : ∀ o ∈ lall, opc o ∈ ([[110, 111, 116], [111, 114], [97, 110, 100], [109, 111, 100], [118, 105, 101, 119]] : List (List Nat)) ∨ opc o ∈ signs := by decide +kernel
  rcases h1 o h with z | z
  · exact ⟨.keyword, .inl rfl, lex_word z⟩
  · exact ⟨.sign, .inr rfl, .sign _ z⟩
theorem okr32 (r : List Nat) : Okr (32 :: r) := fun d hd => .inl (Option.some.inj hd).symm
theorem okr41 (r : List Nat) : Okr (41 :: r) := fun d hd => .inr (.inl (Option.some.inj hd).symm)
theorem okr58 (r : List Nat) : Okr (58 :: r) := fun d hd => .inr (.inr (Option.some.inj hd).symm)
theorem off_eq {n m : Nat} {r : List Nat} {L : List (Kind × Val × Nat)} (h : Toks kws dv n r L) (e : n = m) : Toks kws dv m r L := e ▸ h
theorem tok_par : (∀ pos, TokOf (.sign, .s [40], pos) (kw "(")) ∧ (∀ pos, TokOf (.sign, .s [41], pos) (kw ")")) ∧ (∀ pos, TokOf (.sign, .s [58, 58], pos) (kw "::")) ∧ ∀ pos, TokOf (.keyword, .s [110, 111, 116], pos) (kw "not") := by
  refine ⟨fun pos => ?_, fun pos => ?_, fun pos => ?_, fun pos => ?_⟩
  · have := (tok_kw [40] pos).2
    rw [show S [40] = ("(" : Str) by decide +kernel] at this
    exact this
  · have := (tok_kw [41] pos).2
    rw [show S [41] = (")" : Str) by decide +kernel] at this
    exact this
  · have := (tok_kw [58, 58] pos).2
    rw [show S [58, 58] = ("::" : Str) by decide +kernel] at this
    exact this
  · have := (tok_kw [110, 111, 116] pos).1
    rw [← notS] at this
    exact this
theorem nog : ∀ c ∈ ([] : List Nat), isBlank c = true := fun c h => by cases h
theorem txt_toks : ∀ (e : Ex), e.ok → ∀ (off : Nat) (rest : List Nat) (L : List (Kind × Val × Nat)), Okr rest → Toks kws dv (off + e.txt.length) rest L → ∃ L1, Toks kws dv off (e.txt ++ rest) (L1 ++ L) ∧ All2 TokOf L1 e.bt
  | .num k, h, off, rest, L, hr, ht => by
    have lx := num_lex (k := k) h
    have hd : ∃ c s, TL.numL k = c :: s ∧ isDig c = true := by
      obtain ⟨c, s, e⟩ := List.exists_cons_of_ne_nil (TL.numL_ne k)
      have hl : ∀ k : Fin 1000, ∀ x ∈ TL.numL k.val, isDig x = true := by decide +kernel
      exact ⟨c, s, e, hl ⟨k, h⟩ c (by rw [e]; exact List.mem_cons_self)⟩
    refine ⟨[(.number, .n k, off)], .tok lx (okr_sep hr (.inr (.inr hd))) ht, .cons ?_ .nil⟩
    exact pc_tok (.num (w := TL.numL k) (TL.numL_ne k) (fun x hx => by
      have hl : ∀ k : Fin 1000, ∀ x ∈ TL.numL k.val, isDig x = true := by decide +kernel
      exact hl ⟨k, h⟩ x hx) (by
      have hl : ∀ k : Fin 1000, (TL.numL k.val).length ≤ 18 := by decide +kernel
      exact hl ⟨k, h⟩) (TL.numL_val k)) off
  | .name z, h, off, rest, L, hr, ht =>
    ⟨[(.name, .s z, off)], .tok h.1 (okr_sep hr (.inr (.inl (name_let h.1)))) ht, .cons (pc_tok (.name h.1) off) .nil⟩
  | .neg a, h, off, rest, L, hr, ht => by
    have t1 := Toks.tok (kws := kws) (dv := dv) (off := off + 5 + a.txt.length) (w := [41]) (.sign [41] (by decide)) (okr_sep hr (.inl rfl)) (off_eq ht (by
      rw [Ex.txt]
      simp only [List.length_append, List.length_cons, List.length_nil]
      omega))
    obtain ⟨La, ta, ga⟩ := txt_toks a h (off + 5) _ _ (okr41 rest) t1
    have t3 := Toks.blank (kws := kws) (dv := dv) (off := off + 4) (c := 32) (by decide) ta
    have t4 := Toks.tok (kws := kws) (dv := dv) (off := off + 1) (w := [110, 111, 116]) (lex_word (by decide +kernel)) (sep_blank _ (by decide)) t3
    have t5 := Toks.tok (kws := kws) (dv := dv) (off := off) (w := [40]) (.sign [40] (by decide)) (sep_open _) t4
    refine ⟨(.sign, .s [40], off) :: ((.keyword, .s [110, 111, 116], off + 1) :: (La ++ [(.sign, .s [41], off + 5 + a.txt.length)])), ?_, .cons (tok_par.1 _) (.cons (tok_par.2.2.2 _) (ga.app (.cons (tok_par.2.1 _) .nil)))⟩
    have e1 : (Ex.neg a).txt ++ rest = [40] ++ ([110, 111, 116] ++ (32 :: (a.txt ++ ([41] ++ rest)))) := by simp [Ex.txt]
    rw [e1]
    simpa using t5
  | .con a b, h, off, rest, L, hr, ht => by
    have t1 := Toks.tok (kws := kws) (dv := dv) (off := off + 1 + a.txt.length + 2 + b.txt.length) (w := [41]) (.sign [41] (by decide)) (okr_sep hr (.inl rfl)) (off_eq ht (by
      rw [Ex.txt]
      simp only [List.length_append, List.length_cons, List.length_nil]
      omega))
    obtain ⟨Lb, tb, gb⟩ := txt_toks b h.2 (off + 1 + a.txt.length + 2) _ _ (okr41 rest) t1
    have t2 := Toks.tok (kws := kws) (dv := dv) (off := off + 1 + a.txt.length) (w := [58, 58]) (.sign [58, 58] (by decide)) (sep_two _) tb
    obtain ⟨La, ta, ga⟩ := txt_toks a h.1 (off + 1) _ _ (okr58 _) t2
    have t5 := Toks.tok (kws := kws) (dv := dv) (off := off) (w := [40]) (.sign [40] (by decide)) (sep_open _) ta
    refine ⟨(.sign, .s [40], off) :: ((La ++ (.sign, .s [58, 58], off + 1 + a.txt.length) :: Lb) ++ [(.sign, .s [41], off + 1 + a.txt.length + 2 + b.txt.length)]), ?_, .cons (tok_par.1 _) ((ga.app (.cons (tok_par.2.2.1 _) gb)).app (.cons (tok_par.2.1 _) .nil))⟩
    have e1 : (Ex.con a b).txt ++ rest = [40] ++ (a.txt ++ ([58, 58] ++ (b.txt ++ ([41] ++ rest)))) := by simp [Ex.txt]
    rw [e1]
    simpa using t5
  | .bin o a b, h, off, rest, L, hr, ht => by
    obtain ⟨ko, hko, lo⟩ := op_lex h.1.1
    have t1 := Toks.tok (kws := kws) (dv := dv) (off := off + 1 + a.txt.length + 1 + (opc o).length + 1 + b.txt.length) (w := [41]) (.sign [41] (by decide)) (okr_sep hr (.inl rfl)) (off_eq ht (by
      rw [Ex.txt]
      simp only [List.length_append, List.length_cons, List.length_nil]
      omega))
    obtain ⟨Lb, tb, gb⟩ := txt_toks b h.2.2 (off + 1 + a.txt.length + 1 + (opc o).length + 1) _ _ (okr41 rest) t1
    have t2 := Toks.blank (kws := kws) (dv := dv) (off := off + 1 + a.txt.length + 1 + (opc o).length) (c := 32) (by decide) tb
    have t3 := Toks.tok (kws := kws) (dv := dv) (off := off + 1 + a.txt.length + 1) (w := opc o) lo (sep_blank _ (by decide)) t2
    have t4 := Toks.blank (kws := kws) (dv := dv) (off := off + 1 + a.txt.length) (c := 32) (by decide) t3
    obtain ⟨La, ta, ga⟩ := txt_toks a h.2.1 (off + 1) _ _ (okr32 _) t4
    have t5 := Toks.tok (kws := kws) (dv := dv) (off := off) (w := [40]) (.sign [40] (by decide)) (sep_open _) ta
    have to : ∀ pos, TokOf (ko, .s (opc o), pos) (kw o) := fun pos => by
      rcases hko with rfl | rfl
      · exact (tok_kw (opc o) pos).1
      · exact (tok_kw (opc o) pos).2
    refine ⟨(.sign, .s [40], off) :: ((La ++ (ko, .s (opc o), off + 1 + a.txt.length + 1) :: Lb) ++ [(.sign, .s [41], off + 1 + a.txt.length + 1 + (opc o).length + 1 + b.txt.length)]), ?_, .cons (tok_par.1 _) ((ga.app (.cons (to _) gb)).app (.cons (tok_par.2.1 _) .nil))⟩
    have e1 : (Ex.bin o a b).txt ++ rest = [40] ++ (a.txt ++ (32 :: (opc o ++ (32 :: (b.txt ++ ([41] ++ rest)))))) := by simp [Ex.txt]
    rw [e1]
    simpa using t5
end Q23
namespace Q23
open PySem PySem.Spec PyProof.Rows L2 SX HL
section
variable {P : Program} {w : World} {K : PySem.W.Frag} {mg : Str → Option Value} {base : Heap}
/-! ### _law_operator -/
def opl : List Str := ["or", "and", "::", "+", "-", "++", "*", "/", "mod", "::", "=", "<"]
def spOper : Sp := fun vs H Q _ => ∃ (p q : Addr) (ns : List Int) (c : Bool), vs = [.ref p, .bl c] ∧ StAt H p q ns ∧ ∀ H' o, StAt H' p q ns → Kept H H' p → o ∈ lall → (c = true → o ∉ lcm) → Q (.str o) H'
theorem ok_operator {k : Nat} (Z : Defs K mg) (R : Rest P w K mg Z) : FnOk P w K mg base CX0 (k + 2) Z.fLawOperator Z.fdLawOperator ["state", "compared"] spOper := by
  have T := R.T
  have DLawNext := Z.DLawNext
  have GLawNext : FnOk P w K mg base CX0 (k + 1) Z.fLawNext Z.fdLawNext ["state", "limit"] spNext := ok_next DLawNext T
  refine Z.DLawOperator.F.ok scLawOperator (fun vs H Q E h => ?_) (fun cdv A outer s H vs Q E hr h => ?_)
  · obtain ⟨p, q, ns, c, rfl, _⟩ := h
    rfl
  · obtain ⟨p, q, ns, c, rfl, hst, qq⟩ := h
    refine ⟨_, (pss_cons (ps_set (i := 2) scLawOperator.nd rfl (.inl rfl) (pe_lst (pa_cons pe_str (pa_cons pe_str (pa_cons pe_str (pa_cons pe_str (pa_cons pe_str (pa_cons pe_str (pa_cons pe_str (pa_cons pe_str (pa_cons pe_str (pa_cons pe_str (pa_cons pe_str (pa_cons pe_str pa_nil))))))))))))))
        (pss_one (ps_ret (pe_ix ix_list (pv 2) (pe_call GLawNext (hr.mono (by omega)) (by rfl) DLawNext.g DLawNext.F.kp DLawNext.b .nil pass0 (pa_cons (pv 0) (pa_cons (pe_op op_sub pe_int (pe_op op_mul pe_int (pe_callTy call_int1 (by rfl) T.int HL.boot_int (pa_cons (pv 1) pa_nil)))) pa_nil))) (fun _ _ => rfl))))), ?_⟩
    refine ⟨by show 12 ≤ sizeLine; decide, fun L hL => ?_⟩
    have s1 := same_upd (o := .lst (opl.map V.str)) hL
    have hL1 : upd H L (.lst (opl.map V.str)) L = some (.lst (opl.map V.str)) := upd_same
    have hS1 := StAt.same hst s1
    have nLp : L ≠ p := by
      obtain ⟨_, _, i, c0, z, h, _⟩ := hst
      exact (ne_of_none h hL).symm
    have fin : ∀ (H' : Hp) (v : Int), StAt H' p q ns → But (upd H L (.lst (opl.map V.str))) H' p → 0 ≤ v → v < 12 - 2 * (if c = true then 1 else 0) → ∃ o, atI (opl.map V.str) v = some (V.str o) ∧ o ∈ lall ∧ (c = true → o ∉ lcm) := by
      intro H' v _ _ h0 h1
      obtain ⟨n, rfl⟩ : ∃ n : Nat, v = (n : Int) := ⟨v.toNat, by omega⟩
      have hlt : n < opl.length := by
        show n < 12
        split at h1 <;> omega
      have hall : ∀ i : Fin 12, opl[i] ∈ lall ∧ (i.val < 10 → opl[i] ∉ lcm) := by decide +kernel
      obtain ⟨g1, g2⟩ := hall ⟨n, hlt⟩
      refine ⟨opl[n], ?_, g1, fun hc => g2 ?_⟩
      · refine atI_nat ?_
        rw [List.getElem?_map, List.getElem?_eq_getElem hlt]
        rfl
      · rw [if_pos hc] at h1
        show n < 10
        omega
    refine ⟨_, rfl, _, rfl, _, rfl, .inr ⟨c, rfl, _, _, rfl, rfl, ?_, _, _, rfl, rfl, p, q, ns, 12 - 2 * (if c = true then 1 else 0), rfl, hS1, by split <;> omega, by split <;> omega, fun H' v S1 B1 v0 v1 => ?_⟩⟩
    · exact .inl ⟨by decide, by decide⟩
    · obtain ⟨o, h1, h2, h3⟩ := fin H' v S1 B1 v0 v1
      have hL2 : H' L = some (.lst (opl.map V.str)) := (B1 L nLp).trans hL1
      refine ⟨L, _, v, .str o, rfl, rfl, SqL.of hL2, h1, ?_⟩
      exact qq H' o S1 (fun b x n h => B1.kept b x n (s1 b x h)) h2 h3
end
end Q23
namespace Q23
open PySem PySem.Spec PyProof.Rows L2 SX HL
/-- what is drawn -/
def ItW : It → Prop
  | .neg => True
  | .op o => o ∈ lall
  | .num k => k < 1000
  | .name z => Lex kws dv z .name (.s z) ∧ z.length ≤ 700
theorem Valid.snoc {l : List It} {s s' : Sta} {x : It} (h : run (.exp true false) l = some s) (hx : step s x = some s') : run (.exp true false) (l ++ [x]) = some s' := by
  rw [run_app, h]
  show run s [x] = _
  rw [run, hx]
  rfl
/-- an item goes to the end of the list -/
theorem put1 {H H2 H3 : Hp} {p q I : Addr} {ns : List Int} {us : List V} {l : List It} {u : V} {it : It} {s s' : Sta} (hst : StAt H p q ns) (hS : StAt H2 p q ns) (hK : Kept H H2 p) (hI : H I = none) (nIp : I ≠ p) (hHI : H2 I = some (.lst us)) (hl : IsAt H2 us l) (hrun : run (.exp true false) l = some s)
    (S3 : StAt H3 p q ns) (K3 : Kept H2 H3 p) (hit : ItAt H3 u it) (hx : step s it = some s') :
    StAt (upd H3 I (.lst (us ++ [u]))) p q ns ∧ Kept H (upd H3 I (.lst (us ++ [u]))) p ∧ upd H3 I (.lst (us ++ [u])) I = some (.lst (us ++ [u])) ∧ IsAt (upd H3 I (.lst (us ++ [u]))) (us ++ [u]) (l ++ [it]) ∧ run (.exp true false) (l ++ [it]) = some s' := by
  have hI3 := K3 _ _ nIp hHI
  have nIq : I ≠ q := by
    obtain ⟨h, _⟩ := hst
    exact (ne_of_none h hI).symm
  have hp2 : ∃ xs, H2 p = some (.lst xs) := by
    obtain ⟨_, _, i0, c0, z0, h, _⟩ := hS
    exact ⟨_, h⟩
  obtain ⟨xsp, hp2⟩ := hp2
  have tk := Kept.tk K3 hp2
  refine ⟨?_, fun b x n h => ?_, upd_same, All2.snoc (IsAt.keep (tk_lst hI3) (IsAt.keep tk hl)) (ItAt.keep (tk_lst hI3) hit), Valid.snoc hrun hx⟩
  · obtain ⟨a, b, i, c, z, h, r⟩ := S3
    exact ⟨by rw [upd_ne nIq.symm]; exact a, b, i, c, z, by rw [upd_ne nIp.symm]; exact h, r⟩
  · rw [upd_ne (ne_of_none h hI)]
    exact K3 _ _ n (hK _ _ n h)
theorem put2 {H H2 H3 : Hp} {p q I : Addr} {ns : List Int} {us : List V} {l : List It} {u : V} {it : It} {op2 cm op : Bool} {i n : Nat} {y6 : Option V} (hst : StAt H p q ns) (hS : StAt H2 p q ns) (hK : Kept H H2 p) (hI : H I = none) (nIp : I ≠ p) (hHI : H2 I = some (.lst us)) (hl : IsAt H2 us l) (hrun : run (.exp true false) l = some (.exp op2 cm))
    (S3 : StAt H3 p q ns) (K3 : Kept H2 H3 p) (hit : ItAt H3 u it) (hx : step (.exp op2 cm) it = some (.aft cm)) (hlen : l.length ≤ 3 * i + 1) (hops : nOps l ≤ i) (hW : ∀ x ∈ l, ItW x) (h0 : nOps [it] = 0) (hw : ItW it) :
    ∃ (I' : Addr) (us' : List V) (l' : List It) (y6' : Option V), [some (V.ref p), some (.int (n : Int)), some (.ref I), some (.bl cm), some (.bl op), some (.int (0 + (i : Int))), y6] = [some (.ref p), some (.int (n : Int)), some (.ref I'), some (.bl cm), some (.bl op), some (.int (0 + (i : Int))), y6'] ∧ StAt (upd H3 I (.lst (us ++ [u]))) p q ns ∧ Kept H (upd H3 I (.lst (us ++ [u]))) p ∧ H I' = none ∧ I' ≠ p ∧ upd H3 I (.lst (us ++ [u])) I' = some (.lst us') ∧ IsAt (upd H3 I (.lst (us ++ [u]))) us' l' ∧
        run (.exp true false) l' = some (.aft cm) ∧ l'.length ≤ 3 * i + 2 ∧ nOps l' ≤ i ∧ ∀ x ∈ l', ItW x := by
  obtain ⟨g1, g2, g3, g4, g5⟩ := put1 hst hS hK hI nIp hHI hl hrun S3 K3 hit hx
  refine ⟨I, _, l ++ [it], y6, rfl, g1, g2, hI, nIp, g3, g4, g5, by rw [List.length_append]; show l.length + 1 ≤ _; omega, by rw [nOps_app, h0]; omega, fun x hx => ?_⟩
  rcases List.mem_append.mp hx with h | h
  · exact hW x h
  · obtain rfl := List.mem_singleton.mp h
    exact hw
section
variable {P : Program} {w : World} {K : PySem.W.Frag} {mg : Str → Option Value} {base : Heap}
/-! ### _law_flat -/
def spFlat : Sp := fun vs H Q _ => ∃ (p q : Addr) (ns : List Int) (n : Nat), vs = [.ref p, .int (n : Int)] ∧ StAt H p q ns ∧ 0 < n ∧ n ≤ 40 ∧
  ∀ H' I us l, StAt H' p q ns → Kept H H' p → H' I = some (.lst us) → IsAt H' us l → Valid l → l.length ≤ 3 * n → nOps l ≤ n → (∀ x ∈ l, ItW x) → Q (.ref I) H'
theorem ok_flat {k : Nat} (Z : Defs K mg) (R : Rest P w K mg Z) : FnOk P w K mg base CX0 (k + 4) Z.fLawFlat Z.fdLawFlat ["state", "count"] spFlat := by
  have T := R.T
  have DLawNext := Z.DLawNext
  have GLawNext : FnOk P w K mg base CX0 (k + 1) Z.fLawNext Z.fdLawNext ["state", "limit"] spNext := ok_next DLawNext T
  have DLawName := Z.DLawName
  have GLawName : FnOk P w K mg base CX0 (k + 3) Z.fLawName Z.fdLawName ["state"] (spLex .name) := ok_lname DLawName T DLawNext Z.DLawKeywords Z.DLawWord
  have DLawOperator := Z.DLawOperator
  have GLawOperator : FnOk P w K mg base CX0 (k + 2) Z.fLawOperator Z.fdLawOperator ["state", "compared"] spOper := ok_operator Z R
  refine Z.DLawFlat.F.ok scLawFlat (fun vs H Q E h => ?_) (fun cdv A outer s H vs Q E hr h => ?_)
  · obtain ⟨p, q, ns, n, rfl, _⟩ := h
    rfl
  · obtain ⟨p, q, ns, n, rfl, hst, n0, n40, qq⟩ := h
    refine ⟨_, (pss_cons (ps_set (i := 2) scLawFlat.nd rfl (.inl rfl) (pe_lst pa_nil))
        (pss_cons (ps_set (i := 3) scLawFlat.nd rfl (.inl rfl) pe_bl)
        (pss_cons (ps_set (i := 4) scLawFlat.nd rfl (.inl rfl) pe_bl)
        (pss_cons (ps_for PassesOwn.never rfl (pi_range1 (by rfl) T.range (pa_cons (pv 1) pa_nil)) (pg_name (i := 5) scLawFlat.nd rfl (.inl rfl)) (C8.pss_cut (ps_if (pt_val (pv 4)) (pss_one (ps_set (i := 2) scLawFlat.nd rfl (.inl rfl) (pe_op op_cat (pv 2) (pe_op op_rep (pe_lst (pa_cons pe_str pa_nil)) (pe_op op_fdiv (pe_call GLawNext (hr.mono (by omega)) (by rfl) DLawNext.g DLawNext.F.kp DLawNext.b .nil pass0 (pa_cons (pv 0) (pa_cons pe_int pa_nil))) pe_int))))) pss_nil)
        (C8.pss_cut (ps_if (pt_cmpR op_eq (pe_call GLawNext (hr.mono (by omega)) (by rfl) DLawNext.g DLawNext.F.kp DLawNext.b .nil pass0 (pa_cons (pv 0) (pa_cons pe_int pa_nil))) pe_int (nomark _)) (pss_one (ps_expr (pe_bm PySem.F.plainAttrs_list PySem.F.slot_list_append PySem.F.type_list_append mt_append (pv 2) (pa_cons (pe_tup (pa_cons pe_str (pa_cons (pe_call GLawNext (hr.mono (by omega)) (by rfl) DLawNext.g DLawNext.F.kp DLawNext.b .nil pass0 (pa_cons (pv 0) (pa_cons pe_int pa_nil))) pa_nil))) pa_nil)))) (pss_one (ps_expr (pe_bm PySem.F.plainAttrs_list PySem.F.slot_list_append PySem.F.type_list_append mt_append (pv 2) (pa_cons (pe_tup (pa_cons pe_str (pa_cons (pe_call GLawName (hr.mono (by omega)) (by rfl) DLawName.g DLawName.F.kp DLawName.b .nil pass0 (pa_cons (pv 0) pa_nil)) pa_nil))) pa_nil)))))
        (pss_one (ps_if (pt_cmpR op_lt (pv 5) (pe_op op_sub (pv 1) pe_int) (nomark _)) (pss_cons (ps_set (i := 6) scLawFlat.nd rfl (.inl rfl) (pe_call GLawOperator (hr.mono (by omega)) (by rfl) DLawOperator.g DLawOperator.F.kp DLawOperator.b .nil pass0 (pa_cons (pv 0) (pa_cons (pv 3) pa_nil))))
        (pss_cons (ps_set (i := 4) scLawFlat.nd rfl (.inl rfl) (pe_cmpR op_in_seq (pv 6) (pe_lst (pa_cons pe_str (pa_cons pe_str pa_nil))) rfl))
        (pss_cons (ps_set (i := 3) scLawFlat.nd rfl (.inl rfl) (pe_or (pe_cmpR op_in_seq (pv 6) (pe_lst (pa_cons pe_str (pa_cons pe_str pa_nil))) rfl) (pe_one (pe_and (pv 3) (pe_one (pe_not (pv 4)))))))
        (pss_one (ps_expr (pe_bm PySem.F.plainAttrs_list PySem.F.slot_list_append PySem.F.type_list_append mt_append (pv 2) (pa_cons (pv 6) pa_nil))))))) pss_nil)))))
        (pss_one (ps_ret (pv 2))))))), ?_⟩
    refine ⟨Nat.zero_le _, fun I0 hI0 => ?_⟩
    have s1 := same_upd (o := .lst []) hI0
    refine ⟨_, rfl, _, rfl, by omega, by omega, ?_⟩
    refine for_range (lo := 0) (n := n) (fun i σ H' => ∃ (I : Addr) (us : List V) (l : List It) (op cm : Bool) (y5 y6 : Option V), σ = [some (.ref p), some (.int (n : Int)), some (.ref I), some (.bl cm), some (.bl op), y5, y6] ∧ StAt H' p q ns ∧ Kept H H' p ∧ H I = none ∧ I ≠ p ∧ H' I = some (.lst us) ∧ IsAt H' us l ∧
      run (.exp true false) l = some (if i < n then .exp op cm else .aft cm) ∧ l.length ≤ 3 * i ∧ nOps l ≤ i ∧ ∀ x ∈ l, ItW x) ⟨I0, [], [], true, false, none, none, rfl, StAt.same hst s1, fun b x _ h => s1 b x h, hI0, ?_, upd_same, .nil, ?_, Nat.zero_le _, Nat.zero_le _, fun _ z => by cases z⟩ ?_ ?_
    · obtain ⟨_, _, i, c0, z, h, _⟩ := hst
      exact (ne_of_none h hI0).symm
    · rw [if_pos n0]
      rfl
    · rintro i σ H' hi ⟨I, us, l, op, cm, y5, y6, rfl, hS, hK, hI, nIp, hHI, hl, hrun, hlen, hops, hW⟩
      rw [if_pos hi] at hrun
      have big : 1000 ≤ sizeLine := by decide
      have hlen' := hl.len
      refine ⟨fun σ' H2 => ∃ (I : Addr) (us : List V) (l : List It) (op2 : Bool) (y6 : Option V), σ' = [some (.ref p), some (.int (n : Int)), some (.ref I), some (.bl cm), some (.bl op), some (.int (0 + (i : Int))), y6] ∧ StAt H2 p q ns ∧ Kept H H2 p ∧ H I = none ∧ I ≠ p ∧ H2 I = some (.lst us) ∧ IsAt H2 us l ∧
        run (.exp true false) l = some (.exp op2 cm) ∧ l.length ≤ 3 * i + 1 ∧ nOps l ≤ i ∧ ∀ x ∈ l, ItW x, ?_, ?_⟩
      · refine ⟨_, rfl, op, rfl, ?_⟩
        cases op with
        | false => exact iteF ⟨I, us, l, false, y6, rfl, hS, hK, hI, nIp, hHI, hl, hrun, by omega, hops, hW⟩
        | true =>
          refine iteT ⟨_, rfl, by show 1 ≤ sizeLine; decide, fun z hz => ?_⟩
          have s2 := same_upd (o := .lst [.str "not"]) hz
          have hz2 : upd H' z (.lst [.str "not"]) z = some (.lst [.str "not"]) := upd_same
          refine ⟨_, rfl, p, q, ns, 5, rfl, StAt.same hS s2, by decide, by decide, fun H3 v S3 B3 v0 v1 => ?_⟩
          have nzp : z ≠ p := by
            obtain ⟨_, _, i0, c0, z0, h, _⟩ := hS
            exact (ne_of_none h hz).symm
          have hz3 := (B3 z nzp).trans hz2
          have hI3 := (B3 I nIp).trans (s2 _ _ hHI)
          refine ⟨_, _, rfl, rfl, ⟨by decide, by decide⟩, z, v / 3, _, rfl, rfl, hz3, by omega, by omega, by show 1 * (v / 3).toNat ≤ sizeLine; omega, fun r hr => ?_⟩
          have s4 := same_upd (o := .lst (List.replicate (v / 3).toNat [V.str "not"]).flatten) hr
          have hr4 : upd H3 r (.lst (List.replicate (v / 3).toNat [V.str "not"]).flatten) r = some (.lst (List.replicate (v / 3).toNat [V.str "not"]).flatten) := upd_same
          refine ⟨I, r, us, _, rfl, rfl, s4 _ _ hI3, hr4, ?_, fun I2 hI2 => ?_⟩
          · have : (v / 3).toNat = 0 ∨ (v / 3).toNat = 1 := by omega
            rcases this with e | e <;> rw [e] <;> simp <;> omega
          have s5 := same_upd (o := .lst (us ++ (List.replicate (v / 3).toNat [V.str "not"]).flatten)) hI2
          have K3 : Kept H' H3 p := fun b x n h => B3.kept b x n (s2 b x h)
          have K5 : Kept H' (upd (upd H3 r (.lst (List.replicate (v / 3).toNat [V.str "not"]).flatten)) I2 (.lst (us ++ (List.replicate (v / 3).toNat [V.str "not"]).flatten))) p := fun b x n h => s5 b x (s4 b x (K3 b x n h))
          have hp' : ∃ xs, H' p = some (.lst xs) := by
            obtain ⟨_, _, i0, c0, z0, h, _⟩ := hS
            exact ⟨_, h⟩
          obtain ⟨xsp, hp'⟩ := hp'
          have S5 := StAt.same (StAt.same S3 s4) s5
          have n2p : I2 ≠ p := by
            obtain ⟨_, _, i0, c0, z0, h, _⟩ := StAt.same S3 s4
            exact (ne_of_none h hI2).symm
          have hI2n : H I2 = none := by
            cases e0 : H I2 with
            | none => rfl
            | some o => rw [s4 _ _ (K3 _ _ n2p (hK _ _ n2p e0))] at hI2; cases hI2
          have tk5 := Kept.tk K5 hp'
          have : (v / 3).toNat = 0 ∨ (v / 3).toNat = 1 := by omega
          rcases this with e | e
          · refine ⟨I2, us, l, true, y6, rfl, S5, Kept.trans hK K5, hI2n, n2p, ?_, IsAt.keep tk5 hl, hrun, by omega, hops, hW⟩
            rw [upd_same, e]
            simp
          · refine ⟨I2, us ++ [V.str "not"], l ++ [.neg], false, y6, rfl, S5, Kept.trans hK K5, hI2n, n2p, ?_, All2.snoc (IsAt.keep tk5 hl) (show ItAt _ (.str "not") .neg from rfl), Valid.snoc hrun rfl, by rw [List.length_append]; show l.length + 1 ≤ _; omega, by rw [nOps_app]; show nOps l + 0 ≤ i; omega, ?_⟩
            · rw [upd_same, e]
              simp
            · intro x hx
              rcases List.mem_append.mp hx with h | h
              · exact hW x h
              · obtain rfl := List.mem_singleton.mp h
                trivial
      clear hS hK hI nIp hHI hl hrun hlen hops hW hlen' y5 y6
      rintro σ' H2 ⟨I, us, l, op2, y6, rfl, hS, hK, hI, nIp, hHI, hl, hrun, hlen, hops, hW⟩
      refine ⟨fun σ' H2 => ∃ (I : Addr) (us : List V) (l : List It) (y6 : Option V), σ' = [some (.ref p), some (.int (n : Int)), some (.ref I), some (.bl cm), some (.bl op), some (.int (0 + (i : Int))), y6] ∧ StAt H2 p q ns ∧ Kept H H2 p ∧ H I = none ∧ I ≠ p ∧ H2 I = some (.lst us) ∧ IsAt H2 us l ∧
        run (.exp true false) l = some (.aft cm) ∧ l.length ≤ 3 * i + 2 ∧ nOps l ≤ i ∧ ∀ x ∈ l, ItW x, ?_, ?_⟩
      · -- the operand goes to the end
        have hlen' := hl.len
        refine ⟨_, rfl, p, q, ns, 3, rfl, hS, by decide, by decide, fun H3 v S3 B3 v0 v1 => ?_⟩
        have K3 : Kept H2 H3 p := B3.kept
        refine ⟨rfl, _, rfl, ite2 (fun hc => ?_) (fun hc => ?_)⟩
        · refine ⟨_, rfl, .inl ⟨rfl, _, SqL.of (K3 _ _ nIp hHI)⟩, _, rfl, p, q, ns, 1000, rfl, S3, by decide, by decide, fun H4 v2 S4 B4 w0 w1 => ⟨by show 2 ≤ sizeLine; decide, fun t ht => ?_⟩⟩
          obtain ⟨m, rfl⟩ : ∃ m : Nat, v2 = (m : Int) := ⟨v2.toNat, by omega⟩
          have K4 : Kept H2 H4 p := Kept.trans K3 B4.kept
          have s5 := same_upd (o := .tup [.str "number", .int (m : Int)]) ht
          have K5 : Kept H2 (upd H4 t (.tup [.str "number", .int (m : Int)])) p := fun b x n h => s5 b x (K4 b x n h)
          exact ⟨I, us, _, rfl, rfl, K5 _ _ nIp hHI, by omega, put2 (it := .num m) hst hS hK hI nIp hHI hl hrun (StAt.same S4 s5) K5 ⟨t, rfl, upd_same⟩ (by cases op2 <;> rfl) hlen hops hW rfl (show m < 1000 by omega)⟩
        · refine ⟨_, rfl, .inl ⟨rfl, _, SqL.of (K3 _ _ nIp hHI)⟩, _, rfl, p, q, ns, rfl, S3, fun H4 z S4 Kz lx lz => ⟨by show 2 ≤ sizeLine; decide, fun t ht => ?_⟩⟩
          have K4 : Kept H2 H4 p := Kept.trans K3 Kz
          have s5 := same_upd (o := .tup [.str "name", .str (S z)]) ht
          have K5 : Kept H2 (upd H4 t (.tup [.str "name", .str (S z)])) p := fun b x n h => s5 b x (K4 b x n h)
          exact ⟨I, us, _, rfl, rfl, K5 _ _ nIp hHI, by omega, put2 (it := .name z) hst hS hK hI nIp hHI hl hrun (StAt.same S4 s5) K5 ⟨t, rfl, upd_same⟩ (by cases op2 <;> rfl) hlen hops hW rfl ⟨lx, lz⟩⟩
      clear hS hK hI nIp hHI hl hrun hlen hops hW
      rintro σ' H2 ⟨I, us, l, y6, rfl, hS, hK, hI, nIp, hHI, hl, hrun, hlen, hops, hW⟩
      refine ⟨_, rfl, _, rfl, _, _, rfl, rfl, _, _, rfl, rfl, _, rfl, ite2 (fun hc => ?_) (fun hc => ?_)⟩
      rotate_left
      · have hi2 : ¬ (i + 1 < n) := fun h => hc (decide_eq_true (by omega))
        exact ⟨I, us, l, op, cm, _, _, rfl, hS, hK, hI, nIp, hHI, hl, by rw [if_neg hi2]; exact hrun, by omega, by omega, hW⟩
      have hi2 : i + 1 < n := by
        have := of_decide_eq_true hc
        omega
      refine ⟨_, rfl, _, rfl, p, q, ns, cm, rfl, hS, fun H3 o S3 K3 ho hcm => ?_⟩
      have eL : inV (.str o) (lor.map V.str) = decide (o ∈ lor) := inV_strs o lor
      have eC : inV (.str o) (lcm.map V.str) = decide (o ∈ lcm) := inV_strs o lcm
      have hlen' := hl.len
      refine ⟨_, rfl, by show 2 ≤ sizeLine; decide, fun a1 h1 => ?_⟩
      have s4 := same_upd (o := .lst (lor.map V.str)) h1
      have g4 : upd H3 a1 (.lst (lor.map V.str)) a1 = some (.lst (lor.map V.str)) := upd_same
      refine ⟨a1, lor.map V.str, rfl, .inl (SqL.of g4), rfl, rfl, ?_⟩
      refine ⟨_, rfl, by show 2 ≤ sizeLine; decide, fun a2 h2 => ?_⟩
      have s5 := same_upd (H := upd H3 a1 (.lst (lor.map V.str))) (o := .lst (lcm.map V.str)) h2
      have g5 : upd (upd H3 a1 (.lst (lor.map V.str))) a2 (.lst (lcm.map V.str)) a2 = some (.lst (lcm.map V.str)) := upd_same
      have K5 : Kept H2 (upd (upd H3 a1 (.lst (lor.map V.str))) a2 (.lst (lcm.map V.str))) p := fun b x n h => s5 b x (s4 b x (K3 b x n h))
      have S5 : StAt (upd (upd H3 a1 (.lst (lor.map V.str))) a2 (.lst (lcm.map V.str))) p q ns := StAt.same (StAt.same S3 s4) s5
      refine ⟨a2, lcm.map V.str, rfl, .inl (SqL.of g5), rfl, rfl, _, rfl, ?_⟩
      have fin : ∀ (cm' op' : Bool) (y5 y6 : Option V), step (.aft cm) (.op o) = some (.exp op' cm') → ∃ (I' : Addr) (us' : List V) (l' : List It) (op2 cm2 : Bool) (z5 z6 : Option V), [some (V.ref p), some (.int (n : Int)), some (.ref I), some (.bl cm'), some (.bl op'), y5, y6] = [some (.ref p), some (.int (n : Int)), some (.ref I'), some (.bl cm2), some (.bl op2), z5, z6] ∧ StAt (upd (upd (upd H3 a1 (.lst (lor.map V.str))) a2 (.lst (lcm.map V.str))) I (.lst (us ++ [.str o]))) p q ns ∧ Kept H (upd (upd (upd H3 a1 (.lst (lor.map V.str))) a2 (.lst (lcm.map V.str))) I (.lst (us ++ [.str o]))) p ∧ H I' = none ∧ I' ≠ p ∧ upd (upd (upd H3 a1 (.lst (lor.map V.str))) a2 (.lst (lcm.map V.str))) I (.lst (us ++ [.str o])) I' = some (.lst us') ∧ IsAt (upd (upd (upd H3 a1 (.lst (lor.map V.str))) a2 (.lst (lcm.map V.str))) I (.lst (us ++ [.str o]))) us' l' ∧
          run (.exp true false) l' = some (if i + 1 < n then .exp op2 cm2 else .aft cm2) ∧ l'.length ≤ 3 * (i + 1) ∧ nOps l' ≤ i + 1 ∧ ∀ x ∈ l', ItW x := by
        intro cm' op' y5 y6 hx
        obtain ⟨g1, g2, g3, g4, g5⟩ := put1 hst hS hK hI nIp hHI hl hrun S5 K5 (u := .str o) (it := .op o) rfl hx
        refine ⟨I, _, l ++ [.op o], op', cm', y5, y6, rfl, g1, g2, hI, nIp, g3, g4, by rw [if_pos hi2]; exact g5, by rw [List.length_append]; show l.length + 1 ≤ _; omega, by rw [nOps_app]; show nOps l + 1 ≤ _; omega, fun x hx => ?_⟩
        rcases List.mem_append.mp hx with h | h
        · exact hW x h
        · obtain rfl := List.mem_singleton.mp h
          exact ho
      have hI5 := K5 _ _ nIp hHI
      have fs : step (.aft cm) (.op o) = if o ∈ lor then some (.exp true false) else if o ∈ lcm then (if cm then none else some (.exp false true)) else if o ∈ lall then some (.exp false cm) else none := rfl
      have dis : ∀ o ∈ lcm, o ∉ lor := by decide +kernel
      by_cases c1 : o ∈ lcm
      · have c2 := dis o c1
        have hcm0 : cm = false := by
          cases cm with
          | false => rfl
          | true => exact absurd c1 (hcm rfl)
        subst hcm0
        rw [if_neg c2, if_pos c1] at fs
        have f := fin true false (some (.int (0 + (i : Int)))) (some (.str o)) fs
        rw [eC, decide_eq_true c1]
        refine iteT ⟨_, rfl, .inl ⟨rfl, _, SqL.of hI5⟩, _, rfl, I, us, _, rfl, rfl, hI5, by omega, ?_⟩
        rw [eL, decide_eq_false c2]
        exact f
      · rw [eC, decide_eq_false c1]
        refine iteF ⟨_, rfl, cm, rfl, ?_⟩
        by_cases c2 : o ∈ lor
        · rw [if_pos c2] at fs
          have f := fin false true (some (.int (0 + (i : Int)))) (some (.str o)) fs
          cases cm with
          | false =>
            refine iteF ⟨_, rfl, .inl ⟨rfl, _, SqL.of hI5⟩, _, rfl, I, us, _, rfl, rfl, hI5, by omega, ?_⟩
            rw [eL, decide_eq_true c2]
            exact f
          | true =>
            refine iteT ⟨_, rfl, _, rfl, _, rfl, .inl ⟨rfl, _, SqL.of hI5⟩, _, rfl, I, us, _, rfl, rfl, hI5, by omega, ?_⟩
            rw [eL, decide_eq_true c2]
            exact f
        · rw [if_neg c2, if_neg c1, if_pos ho] at fs
          have f := fin cm false (some (.int (0 + (i : Int)))) (some (.str o)) fs
          cases cm with
          | false =>
            refine iteF ⟨_, rfl, .inl ⟨rfl, _, SqL.of hI5⟩, _, rfl, I, us, _, rfl, rfl, hI5, by omega, ?_⟩
            rw [eL, decide_eq_false c2]
            exact f
          | true =>
            refine iteT ⟨_, rfl, _, rfl, _, rfl, .inl ⟨rfl, _, SqL.of hI5⟩, _, rfl, I, us, _, rfl, rfl, hI5, by omega, ?_⟩
            rw [eL, decide_eq_false c2]
            exact f
    · rintro σ H' ⟨I, us, l, op, cm, y5, y6, rfl, hS, hK, hI, nIp, hHI, hl, hrun, hlen, hops, hW⟩
      rw [if_neg (Nat.lt_irrefl _)] at hrun
      exact ⟨_, rfl, qq H' I us l hS hK hHI hl ⟨_, hrun⟩ hlen hops hW⟩
end
end Q23
namespace Q23
open PySem PySem.Spec PyProof.Rows L2 SX HL
/-! ## what the law needs of what is drawn -/
theorem div_ok {l : List It} {e : Ex} (h : Div l e) : (∀ x ∈ l, ItW x) → e.ok := by
  induction h with
  | @bin a b o os pre hd x y hm ho hb hp hh dx dy ihx ihy =>
    intro hw
    refine ⟨⟨levs_all _ hm _ ho, fun z => (levs_co _ hm).1 (by rw [← z]; exact ho)⟩, ihx fun z hz => hw z (List.mem_append_left _ hz), ihy fun z hz => hw z (List.mem_append_right _ (List.mem_cons_of_mem _ hz))⟩
  | con ha hp hh dx dy ihx ihy =>
    intro hw
    exact ⟨ihx fun z hz => hw z (List.mem_append_left _ hz), ihy fun z hz => hw z (List.mem_append_right _ (List.mem_cons_of_mem _ hz))⟩
  | neg hl dx ih => exact fun hw => ih fun z hz => hw z (List.mem_cons_of_mem _ hz)
  | num k => exact fun hw => hw _ List.mem_cons_self
  | name z => exact fun hw => hw _ List.mem_cons_self
theorem opW_zero : ∀ o ∈ ("not" : Str) :: "view" :: "=" :: "NUMBER" :: "NAME" :: lall, opW o = 0 := by decide +kernel
theorem it_opW {x : It} (h : ItW x) : opW x.tk.1 = 0 := by
  cases x with
  | neg => exact opW_zero _ (by show ("not" : Str) ∈ _; exact List.mem_cons_self)
  | op o => exact opW_zero o (List.mem_cons_of_mem _ (List.mem_cons_of_mem _ (List.mem_cons_of_mem _ (List.mem_cons_of_mem _ (List.mem_cons_of_mem _ h)))))
  | num k => exact opW_zero "NUMBER" (by decide +kernel)
  | name z => exact opW_zero "NAME" (by decide +kernel)
/-- words that open nothing -/
theorem plOk_zero : ∀ {ts : List Tk} {pl : Int}, pl ≤ 12 → (∀ t ∈ ts, opW t.1 = 0) → plOk pl ts
  | [], _, _, _ => trivial
  | t :: ts, pl, h, hz => by
    have h0 := hz t List.mem_cons_self
    refine ⟨by rw [h0]; omega, ?_⟩
    rw [h0, Int.add_zero]
    exact plOk_zero h fun x hx => hz x (List.mem_cons_of_mem _ hx)
theorem plOk_app : ∀ {a b : List Tk} {pl : Int}, plOk pl a → plOk (pl + (a.map fun t => opW t.1).sum) b → plOk pl (a ++ b)
  | [], b, pl, _, h => by
    simp only [List.map_nil, List.sum_nil, Int.add_zero] at h
    exact h
  | t :: a, b, pl, h, h2 => by
    refine ⟨h.1, plOk_app h.2 ?_⟩
    rw [List.map_cons, List.sum_cons] at h2
    rw [show pl + opW t.1 + (a.map fun t => opW t.1).sum = pl + (opW t.1 + (a.map fun t => opW t.1).sum) by omega]
    exact h2
theorem opW_par : opW "(" = 1 ∧ opW ")" = -1 ∧ opW "NUMBER" = 0 ∧ opW "NAME" = 0 ∧ opW "not" = 0 ∧ opW "::" = 0 := by decide +kernel
/-- brackets in brackets: as deep as the tree -/
theorem bt_pl : ∀ (e : Ex), e.ok → (e.bt.map fun t => opW t.1).sum = 0 ∧ ∀ pl : Int, pl + (e.dp : Int) ≤ 13 → plOk pl e.bt
  | .num k, _ => ⟨by show opW "NUMBER" + 0 = 0; rw [opW_par.2.2.1]; rfl, fun pl h => ⟨by
      show pl + opW "NUMBER" ≤ 12
      rw [opW_par.2.2.1]
      have : ((Ex.num k).dp : Int) = 1 := rfl
      omega, trivial⟩⟩
  | .name z, _ => ⟨by show opW "NAME" + 0 = 0; rw [opW_par.2.2.2.1]; rfl, fun pl h => ⟨by
      show pl + opW "NAME" ≤ 12
      rw [opW_par.2.2.2.1]
      have : ((Ex.name z).dp : Int) = 1 := rfl
      omega, trivial⟩⟩
  | .neg a, h => by
    obtain ⟨s1, p1⟩ := bt_pl a h
    refine ⟨?_, fun pl hp => ?_⟩
    · simp only [Ex.bt, kw, List.map_cons, List.map_append, List.map_nil, List.sum_cons, List.sum_append, List.sum_nil, s1, opW_par]
      omega
    · have ed : ((Ex.neg a).dp : Int) = 1 + (a.dp : Int) := by rw [Ex.dp]; omega
      refine ⟨by show pl + opW "(" ≤ 12; rw [opW_par.1]; have : 0 ≤ (a.dp : Int) := by omega
                 have : 1 ≤ (a.dp : Int) := by cases a <;> (rw [Ex.dp]; omega)
                 omega, ?_⟩
      show plOk (pl + opW "(") ((kw "not" :: a.bt) ++ [kw ")"])
      rw [opW_par.1]
      have h1 : 1 ≤ (a.dp : Int) := by cases a <;> (rw [Ex.dp]; omega)
      refine plOk_app ⟨by show pl + 1 + opW "not" ≤ 12; rw [opW_par.2.2.2.2.1]; omega, ?_⟩ ⟨?_, trivial⟩
      · show plOk (pl + 1 + opW "not") a.bt
        rw [opW_par.2.2.2.2.1]
        exact p1 _ (by omega)
      · simp only [kw, List.map_cons, List.sum_cons, s1, opW_par]
        omega
  | .con a b, h => by
    obtain ⟨s1, p1⟩ := bt_pl a h.1
    obtain ⟨s2, p2⟩ := bt_pl b h.2
    have h1 : 1 ≤ (a.dp : Int) := by cases a <;> (rw [Ex.dp]; omega)
    refine ⟨?_, fun pl hp => ?_⟩
    · simp only [Ex.bt, kw, List.map_cons, List.map_append, List.map_nil, List.sum_cons, List.sum_append, List.sum_nil, s1, s2, opW_par]
      omega
    · have ed : ((Ex.con a b).dp : Int) = 1 + max (a.dp : Int) (b.dp : Int) := by rw [Ex.dp]; omega
      refine ⟨by show pl + opW "(" ≤ 12; rw [opW_par.1]; omega, ?_⟩
      show plOk (pl + opW "(") ((a.bt ++ kw "::" :: b.bt) ++ [kw ")"])
      rw [opW_par.1]
      refine plOk_app (plOk_app (p1 _ (by omega)) ⟨?_, ?_⟩) ⟨?_, trivial⟩
      · rw [s1]
        show pl + 1 + 0 + opW "::" ≤ 12
        rw [opW_par.2.2.2.2.2]
        omega
      · rw [s1]
        show plOk (pl + 1 + 0 + opW "::") b.bt
        rw [opW_par.2.2.2.2.2]
        exact p2 _ (by omega)
      · simp only [kw, List.map_cons, List.map_append, List.sum_cons, List.sum_append, s1, s2, opW_par]
        omega
  | .bin o a b, h => by
    obtain ⟨s1, p1⟩ := bt_pl a h.2.1
    obtain ⟨s2, p2⟩ := bt_pl b h.2.2
    have h1 : 1 ≤ (a.dp : Int) := by cases a <;> (rw [Ex.dp]; omega)
    have ho : opW o = 0 := opW_zero o (List.mem_cons_of_mem _ (List.mem_cons_of_mem _ (List.mem_cons_of_mem _ (List.mem_cons_of_mem _ (List.mem_cons_of_mem _ h.1.1)))))
    refine ⟨?_, fun pl hp => ?_⟩
    · simp only [Ex.bt, kw, List.map_cons, List.map_append, List.map_nil, List.sum_cons, List.sum_append, List.sum_nil, s1, s2, ho, opW_par]
      omega
    · have ed : ((Ex.bin o a b).dp : Int) = 1 + max (a.dp : Int) (b.dp : Int) := by rw [Ex.dp]; omega
      refine ⟨by show pl + opW "(" ≤ 12; rw [opW_par.1]; omega, ?_⟩
      show plOk (pl + opW "(") ((a.bt ++ kw o :: b.bt) ++ [kw ")"])
      rw [opW_par.1]
      refine plOk_app (plOk_app (p1 _ (by omega)) ⟨?_, ?_⟩) ⟨?_, trivial⟩
      · rw [s1]
        show pl + 1 + 0 + opW o ≤ 12
        rw [ho]
        omega
      · rw [s1]
        show plOk (pl + 1 + 0 + opW o) b.bt
        rw [ho]
        exact p2 _ (by omega)
      · simp only [kw, List.map_cons, List.map_append, List.sum_cons, List.sum_append, s1, s2, ho, opW_par]
        omega
end Q23
namespace Q23
open PySem PySem.Spec PyProof.Rows L2 SX HL
/-- what a read wants of the tokens -/
theorem read_prem {z : Str} {ts : List Tk} {e : T} {L : List (Kind × Val × Nat)} (hL : All2 TokOf L (kw "view" :: nameT z :: kw "=" :: ts)) (hg : G "<expression>" none ts e) (hp : plOk 0 ts) (hn : ts.length ≤ 197) :
    L.length ≤ 200 ∧ ∃ n m c1, Acc L 0 n start c1 ∧ Stl "END" m c1 ⟨[], [.t [.s "view", .s z, e]]⟩ ∧ 1 + 20 * (n + m) ≤ 900000 := by
  have hl := hL.len
  simp only [List.length_cons] at hl
  obtain ⟨n, hn2, hR⟩ := view_run (z := z) hg
  have hz : ∀ w ∈ ([("view" : Str), "=", "NAME"] : List Str), opW w = 0 := by decide +kernel
  have pv : opW "view" = 0 := hz _ (by decide +kernel)
  have pe : opW "=" = 0 := hz _ (by decide +kernel)
  have pn : opW "NAME" = 0 := hz _ (by decide +kernel)
  have hp3 : plOk 0 (kw "view" :: nameT z :: kw "=" :: ts) := by
    refine ⟨by show 0 + opW "view" ≤ 12; rw [pv]; decide, ?_⟩
    show plOk (0 + opW "view") _
    rw [pv]
    refine ⟨by show 0 + 0 + opW "NAME" ≤ 12; rw [pn]; decide, ?_⟩
    show plOk (0 + 0 + opW "NAME") _
    rw [pn]
    refine ⟨by show 0 + 0 + 0 + opW "=" ≤ 12; rw [pe]; decide, ?_⟩
    show plOk (0 + 0 + 0 + opW "=") _
    rw [pe]
    exact hp
  obtain ⟨n1, m, c1, e1, h1, h2⟩ := hR.acc rfl rfl L 0 hL hp3
  exact ⟨by omega, n1, m, c1, h1, h2, by omega⟩
theorem cps_S (z : List Nat) : (S z).cps.toList = z := rfl
theorem word_small {z : List Nat} (h : Lex kws dv z .name (.s z)) : PyData.strOk (S z) = true := by
  generalize ek : Kind.name = k at h
  generalize ev : Val.s z = v at h
  have key : ∀ c, isWord c = true → c < 1114112 := by
    intro c hc
    simp only [isWord, isLow, isUp, isDig, Bool.or_eq_true, Bool.and_eq_true, decide_eq_true_eq] at hc
    omega
  cases h with
  | word c s h1 h2 =>
    have h3 : isWord c = true := by
      simp only [isLet, Bool.or_eq_true] at h1
      simp only [isWord, Bool.or_eq_true]
      rcases h1 with h | h
      · exact .inl (.inl (.inl h))
      · exact .inl (.inl (.inr h))
    unfold PyData.strOk
    rw [← Array.all_toList, List.all_eq_true]
    intro x hx
    rcases List.mem_cons.mp hx with e | e
    · rw [e]
      exact decide_eq_true (key c h3)
    · exact decide_eq_true (key x (h2 x e))
  | num w _ _ _ => cases ek
  | quo x => cases ek
  | sign w _ => cases ek
theorem itOk_of {x : It} (h : ItW x) : itOk x := by
  cases x with
  | neg => trivial
  | num k => trivial
  | op o =>
    have : ∀ o ∈ lall, PyData.strOk o = true ∧ o ≠ "not" := by decide +kernel
    exact this o h
  | name z => exact word_small h.1
theorem ex_dep : ∀ e : Ex, e.tr.dep ≤ e.dp
  | .num k => by show deps [T.s "number", T.n k] + 1 ≤ 1; simp [deps, T.dep]
  | .name z => by show deps [T.s "name", T.s (S z)] + 1 ≤ 1; simp [deps, T.dep]
  | .bin o a b => by
    have h1 := ex_dep a
    have h2 := ex_dep b
    show deps [T.s "binary", T.s o, a.tr, b.tr] + 1 ≤ _
    rw [Ex.dp]
    simp only [deps, T.dep]
    omega
  | .con a b => by
    have h1 := ex_dep a
    have h2 := ex_dep b
    show deps [T.s "cons", a.tr, b.tr] + 1 ≤ _
    rw [Ex.dp]
    simp only [deps, T.dep]
    omega
  | .neg a => by
    have h1 := ex_dep a
    show deps [T.s "not", a.tr] + 1 ≤ _
    rw [Ex.dp]
    simp only [deps, T.dep]
    omega
theorem ex_wid : ∀ e : Ex, e.tr.wid ≤ 4
  | .num k => by show max 2 (wids [T.s "number", T.n k]) ≤ 4; simp [wids, T.wid]
  | .name z => by show max 2 (wids [T.s "name", T.s (S z)]) ≤ 4; simp [wids, T.wid]
  | .bin o a b => by
    have h1 := ex_wid a
    have h2 := ex_wid b
    show max 4 (wids [T.s "binary", T.s o, a.tr, b.tr]) ≤ _
    simp only [wids, T.wid]
    omega
  | .con a b => by
    have h1 := ex_wid a
    have h2 := ex_wid b
    show max 3 (wids [T.s "cons", a.tr, b.tr]) ≤ _
    simp only [wids, T.wid]
    omega
  | .neg a => by
    have h1 := ex_wid a
    show max 2 (wids [T.s "not", a.tr]) ≤ _
    simp only [wids, T.wid]
    omega
theorem ex_txt : ∀ e : Ex, e.ok → e.txt.length ≤ 800 * e.cnt ∧ e.bt.length ≤ 3 * e.cnt
  | .num k, h => by
    have hl : ∀ k : Fin 1000, (TL.numL k.val).length ≤ 18 := by decide +kernel
    have h1 : (TL.numL k).length ≤ 18 := hl ⟨k, h⟩
    exact ⟨by show (TL.numL k).length ≤ 800; omega, by show 1 ≤ 3; omega⟩
  | .name z, h => ⟨by have := h.2; show z.length ≤ 800; omega, by show 1 ≤ 3; omega⟩
  | .bin o a b, h => by
    obtain ⟨h1, h2⟩ := ex_txt a h.2.1
    obtain ⟨h3, h4⟩ := ex_txt b h.2.2
    have h5 : ∀ o ∈ lall, (opc o).length ≤ 100 := by decide +kernel
    have h6 := h5 o h.1.1
    rw [Ex.txt, Ex.bt, Ex.cnt]
    simp only [List.length_append, List.length_cons, List.length_nil]
    omega
  | .con a b, h => by
    obtain ⟨h1, h2⟩ := ex_txt a h.1
    obtain ⟨h3, h4⟩ := ex_txt b h.2
    rw [Ex.txt, Ex.bt, Ex.cnt]
    simp only [List.length_append, List.length_cons, List.length_nil]
    omega
  | .neg a, h => by
    obtain ⟨h1, h2⟩ := ex_txt a h
    rw [Ex.txt, Ex.bt, Ex.cnt]
    simp only [List.length_append, List.length_cons, List.length_nil]
    omega
end Q23
namespace Q23
open PySem PySem.Spec PyProof.Rows L2 SX HL
/-- the items that are texts -/
def It.isS : It → Bool
  | .neg => true
  | .op _ => true
  | _ => false
def Sta.one : Sta → Nat
  | .exp _ _ => 1
  | .aft _ => 0
theorem run_short : ∀ (l : List It) (s t : Sta), run s l = some t → l.length ≤ 2 * (l.filter It.isS).length + s.one
  | [], s, t, _ => Nat.zero_le _
  | x :: r, s, t, h => by
    rw [run] at h
    cases h1 : step s x with
    | none => rw [h1] at h; cases h
    | some s1 =>
      rw [h1] at h
      have ih := run_short r s1 t h
      have o1 : s1.one ≤ 1 := by cases s1 <;> simp [Sta.one]
      cases x with
      | neg =>
        rw [show (It.neg :: r).filter It.isS = It.neg :: r.filter It.isS from rfl, List.length_cons, List.length_cons]
        omega
      | op o =>
        rw [show (It.op o :: r).filter It.isS = It.op o :: r.filter It.isS from rfl, List.length_cons, List.length_cons]
        omega
      | num k =>
        rw [show (It.num k :: r).filter It.isS = r.filter It.isS from rfl, List.length_cons]
        cases s with
        | aft c => cases h1
        | exp q c =>
          have e1 : s1 = .aft c := by cases q <;> exact (Option.some.inj h1).symm
          subst e1
          have ih : r.length ≤ 2 * (r.filter It.isS).length + 0 := ih
          show r.length + 1 ≤ 2 * (r.filter It.isS).length + 1
          omega
      | name k =>
        rw [show (It.name k :: r).filter It.isS = r.filter It.isS from rfl, List.length_cons]
        cases s with
        | aft c => cases h1
        | exp q c =>
          have e1 : s1 = .aft c := by cases q <;> exact (Option.some.inj h1).symm
          subst e1
          have ih : r.length ≤ 2 * (r.filter It.isS).length + 0 := ih
          show r.length + 1 ≤ 2 * (r.filter It.isS).length + 1
          omega
theorem valid_short {l : List It} (h : Valid l) : l.length ≤ 2 * (l.filter It.isS).length + 1 := by
  obtain ⟨c, h⟩ := h
  exact run_short l _ _ h
def parC (z : List Nat) (e : Ex) : List Nat := [118, 105, 101, 119, 32] ++ z ++ [61] ++ e.txt
/-- the tokens of the chunk with all brackets -/
theorem par_toks {z : List Nat} {e : Ex} (hz : Lex kws dv z .name (.s z)) (hok : e.ok) : ∃ L, Toks kws dv 0 (parC z e) L ∧ All2 TokOf L (kw "view" :: nameT (S z) :: kw "=" :: e.bt) := by
  obtain ⟨L1, h1, h2⟩ := txt_toks e hok (0 + 4 + 1 + z.length + 1) [] [] (fun d hd => by cases hd) (.nil _)
  have sep : Sep [61] (e.txt ++ []) := by
    refine ⟨fun z => absurd z (by decide), fun z => absurd z (by decide), fun z => absurd z (by decide), fun _ _ _ _ d hd hl => ?_⟩
    have := longs_snd hl
    omega
  have t3 := Toks.tok (kws := kws) (dv := dv) (off := 0 + 4 + 1 + z.length) (w := [61]) (.sign [61] (by decide)) sep h1
  have sepz : Sep z ([61] ++ (e.txt ++ [])) := by
    obtain ⟨c, s, rfl, hc⟩ := name_let hz
    refine ⟨fun _ d hd => ?_, fun _ d hd => ?_, fun z => ?_, fun z => ?_⟩
    · cases hd; decide
    · cases hd; decide
    · subst z
      exact absurd hc (by decide)
    · rw [hc] at z; cases z
  have t2 := Toks.tok (kws := kws) (dv := dv) (off := 0 + 4 + 1) (w := z) hz sepz t3
  have t1 := Toks.blank (kws := kws) (dv := dv) (off := 0 + 4) (c := 32) (by decide) t2
  have t0 := Toks.tok (kws := kws) (dv := dv) (off := 0) (w := [118, 105, 101, 119]) (lex_word (by decide +kernel)) (sep_blank _ (by decide)) t1
  have e1 : parC z e = [118, 105, 101, 119] ++ 32 :: (z ++ ([61] ++ (e.txt ++ []))) := by simp [parC]
  rw [e1]
  rw [List.append_nil L1] at t0
  refine ⟨_, t0, .cons ?_ (.cons ?_ (.cons ?_ h2))⟩
  · have := (tok_kw [118, 105, 101, 119] 0).1
    rw [show S [118, 105, 101, 119] = ("view" : Str) by decide +kernel] at this
    exact this
  · exact pc_tok (.name hz) _
  · have := (tok_kw [61] (0 + 4 + 1 + z.length)).2
    rw [show S [61] = ("=" : Str) by decide +kernel] at this
    exact this
end Q23
namespace Q23
open PySem PySem.Spec PyProof.Rows L2 SX HL
theorem viewC_snoc (z g : List Nat) (ps : List Pc) (x : Pc) : viewC z g (ps ++ [x]) = viewC z g ps ++ (g ++ x.1) := by
  simp [viewC]
section
variable {P : Program} {w : World} {K : PySem.W.Frag} {mg : Str → Option Value} {base : Heap}
def spLaw (K : PySem.W.Frag) : Sp := fun vs H Q _ => ∃ (a : Addr) (ns : List Int), vs = [.ref a] ∧ SqL K H a (ns.map V.int) ∧ ns.length ≤ 63 ∧ ∀ H', Q (.bl true) H'
theorem ok_law (Z : Defs K mg) (R : Rest P w K mg Z) : FnOk P w K mg base CX0 130 Z.fLaw Z.fdLaw ["script"] (spLaw K) := by
  have T := R.T
  have DLawNext := Z.DLawNext
  have GLawNext : FnOk P w K mg base CX0 100 Z.fLawNext Z.fdLawNext ["state", "limit"] spNext := ok_next DLawNext T
  have DLawFlat := Z.DLawFlat
  have GLawFlat : FnOk P w K mg base CX0 100 Z.fLawFlat Z.fdLawFlat ["state", "count"] spFlat := ok_flat (k := 96) Z R
  have DLawName := Z.DLawName
  have GLawName : FnOk P w K mg base CX0 100 Z.fLawName Z.fdLawName ["state"] (spLex .name) := ok_lname (k := 97) DLawName T DLawNext Z.DLawKeywords Z.DLawWord
  have DLawDivided := Z.DLawDivided
  have GLawDivided : FnOk P w K mg base CX0 100 Z.fLawDivided Z.fdLawDivided ["items"] (spDiv 42) := ok_divided (k := 15) Z R 42
  have DLawDepth := Z.DLawDepth
  have GLawDepth : FnOk P w K mg base CX0 100 Z.fLawDepth Z.fdLawDepth ["e"] (spDepth 42) := ok_depth (k := 57) Z R 42
  have DLawRead := Z.DLawRead
  have GLawRead : FnOk P w K mg base CX0 100 Z.fLawRead Z.fdLawRead ["chunk"] spRead := ok_read (k := 93) Z R
  have DLawText := Z.DLawText
  have GLawText : FnOk P w K mg base CX0 100 Z.fLawText Z.fdLawText ["e"] (spText 42) := ok_ltext (k := 57) Z R 42
  have DLawSame := Z.DLawSame
  have GLawSame : FnOk P w K mg base CX0 100 Z.fLawSame Z.fdLawSame ["actual", "expected"] (spSame K 99) := ok_same DLawSame T 99
  refine Z.DLaw.F.ok scLaw (fun vs H Q E h => ?_) (fun cdv A outer s H vs Q E hr h => ?_)
  · obtain ⟨a, ns, rfl, _⟩ := h
    rfl
  · obtain ⟨a, ns, rfl, hs, hn, qq⟩ := h
    refine ⟨_, (pss_cons (ps_set (i := 1) scLaw.nd rfl (.inl rfl) (pe_lst (pa_cons (pe_callTy call_list_of (by rfl) T.list HL.boot_list (pa_cons (pv 0) pa_nil)) (pa_cons pe_int (pa_cons pe_int (pa_cons pe_int pa_nil))))))
        (pss_cons (ps_set (i := 2) scLaw.nd rfl (.inl rfl) (pe_op op_add pe_int (pe_call GLawNext (hr.mono (by omega)) (by rfl) DLawNext.g DLawNext.F.kp DLawNext.b .nil pass0 (pa_cons (pv 1) (pa_cons pe_int pa_nil)))))
        (C8.pss_cut (ps_if (pt_cmpR op_eq (pe_call GLawNext (hr.mono (by omega)) (by rfl) DLawNext.g DLawNext.F.kp DLawNext.b .nil pass0 (pa_cons (pv 1) (pa_cons pe_int pa_nil))) pe_int (nomark _)) (pss_one (ps_set (i := 2) scLaw.nd rfl (.inl rfl) (pe_op op_add pe_int (pe_call GLawNext (hr.mono (by omega)) (by rfl) DLawNext.g DLawNext.F.kp DLawNext.b .nil pass0 (pa_cons (pv 1) (pa_cons pe_int pa_nil)))))) pss_nil)
        (pss_cons (ps_set (i := 3) scLaw.nd rfl (.inl rfl) (pe_call GLawFlat (hr.mono (by omega)) (by rfl) DLawFlat.g DLawFlat.F.kp DLawFlat.b .nil pass0 (pa_cons (pv 1) (pa_cons (pv 2) pa_nil))))
        (pss_cons (ps_set (i := 4) scLaw.nd rfl (.inl rfl) (pe_call GLawName (hr.mono (by omega)) (by rfl) DLawName.g DLawName.F.kp DLawName.b .nil pass0 (pa_cons (pv 1) pa_nil)))
        (pss_cons (ps_set (i := 5) scLaw.nd rfl (.inl rfl) (pe_ix ix_list (pe_lst (pa_cons pe_str (pa_cons pe_str (pa_cons pe_str pa_nil)))) (pe_call GLawNext (hr.mono (by omega)) (by rfl) DLawNext.g DLawNext.F.kp DLawNext.b .nil pass0 (pa_cons (pv 1) (pa_cons pe_int pa_nil))) (fun _ _ => rfl)))
        (pss_cons (ps_set (i := 6) scLaw.nd rfl (.inl rfl) (pe_op op_add_str (pe_op op_add_str pe_str (pv 4)) pe_str))
        (pss_cons (ps_for PassesOwn.never rfl (pi_list (pv 3)) (pg_name (i := 7) scLaw.nd rfl (.inl rfl)) (pss_cons (ps_set (i := 6) scLaw.nd rfl (.inl rfl) (pe_op op_add_str (pv 6) (pv 5)))
        (pss_one (ps_if (pt_val (pe_callB call_isB (by rfl) T.isinstance HL.boot_isinstance (pa_cons (pv 7) (pa_cons (pe_bltn (v := .ty "str") (by rfl) T.str HL.boot_str rfl) pa_nil)))) (pss_one (ps_set (i := 6) scLaw.nd rfl (.inl rfl) (pe_op op_add_str (pv 6) (pv 7)))) (pss_one (ps_set (i := 6) scLaw.nd rfl (.inl rfl) (pe_op op_add_str (pv 6) (pe_callTy SA.call_str_any (by rfl) T.str HL.boot_str (pa_cons (pe_ix ix_tup (pv 7) pe_int (fun _ _ => rfl)) pa_nil)))))))))
        (pss_cons (ps_set (i := 8) scLaw.nd rfl (.inl rfl) (pe_call GLawDivided (hr.mono (by omega)) (by rfl) DLawDivided.g DLawDivided.F.kp DLawDivided.b .nil pass0 (pa_cons (pv 3) pa_nil)))
        (pss_cons (ps_if (pt_cmpR op_gt (pe_call GLawDepth (hr.mono (by omega)) (by rfl) DLawDepth.g DLawDepth.F.kp DLawDepth.b .nil pass0 (pa_cons (pv 8) pa_nil)) pe_int (nomark _)) (pss_one (ps_ret (pe_call GLawSame (hr.mono (by omega)) (by rfl) DLawSame.g DLawSame.F.kp DLawSame.b .nil pass0 (pa_cons (pe_call GLawRead (hr.mono (by omega)) (by rfl) DLawRead.g DLawRead.F.kp DLawRead.b .nil pass0 (pa_cons (pv 6) pa_nil)) (pa_cons (pe_tup (pa_cons pe_str (pa_cons (pe_callB call_len_str (by rfl) T.len PySem.boot_len (pa_cons (pv 6) pa_nil)) pa_nil))) pa_nil))))) pss_nil)
        (pss_cons (ps_if (pt_not (pt_val (pe_call GLawSame (hr.mono (by omega)) (by rfl) DLawSame.g DLawSame.F.kp DLawSame.b .nil pass0 (pa_cons (pe_call GLawRead (hr.mono (by omega)) (by rfl) DLawRead.g DLawRead.F.kp DLawRead.b .nil pass0 (pa_cons (pv 6) pa_nil)) (pa_cons (pe_tup (pa_cons pe_str (pa_cons (pe_tup (pa_cons pe_str (pa_cons (pv 4) (pa_cons (pv 8) pa_nil)))) pa_nil))) pa_nil))))) (pss_one (ps_ret pe_bl)) pss_nil)
        (pss_cons (ps_if (pt_cmpR op_gt (pe_callB call_len_seq (by rfl) T.len PySem.boot_len (pa_cons (pe_lc (own := [("item", 7)]) (g := (gName 7)) (by rfl) scLaw.nd (ET.pi_listK (K := K) rfl (pv 3)) (blkOk_by (own := [("item", 7)]) (N := ["script", "state", "count", "items", "name", "gap", "chunk", "item", "e"]) (sc := defScope sLaw) (by decide +kernel)) (fun _ _ _ _ _ => (pg_name (i := 7) scLaw.nd rfl (Or.inl rfl))) (fun _ _ _ _ _ => (pts_one (pt_val (pe_callB (HX.call_isBK (K := K) rfl) (by rfl) T.isinstance HL.boot_isinstance (pa_cons (pv 7) (pa_cons (pe_bltn (v := .ty "str") (by rfl) T.str HL.boot_str rfl) pa_nil)))))) (fun _ _ _ _ _ => (pv 7))) pa_nil)) pe_int (nomark _)) (pss_one (ps_ret pe_bl)) pss_nil)
        (pss_one (ps_ret (pe_call GLawSame (hr.mono (by omega)) (by rfl) DLawSame.g DLawSame.F.kp DLawSame.b .nil pass0 (pa_cons (pe_call GLawRead (hr.mono (by omega)) (by rfl) DLawRead.g DLawRead.F.kp DLawRead.b .nil pass0 (pa_cons (pe_op op_add_str (pe_op op_add_str (pe_op op_add_str pe_str (pv 4)) pe_str) (pe_call GLawText (hr.mono (by omega)) (by rfl) DLawText.g DLawText.F.kp DLawText.b .nil pass0 (pa_cons (pv 8) pa_nil))) pa_nil)) (pa_cons (pe_tup (pa_cons pe_str (pa_cons (pe_tup (pa_cons pe_str (pa_cons (pv 4) (pa_cons (pv 8) pa_nil)))) pa_nil))) pa_nil))))))))))))))))), ?_⟩
    refine ⟨_, rfl, a, _, rfl, .inl hs, fun q hq => ⟨by show 4 ≤ sizeLine; decide, fun p hp => ?_⟩⟩
    have hq1 : upd H q (.lst (ns.map V.int)) q = some (.lst (ns.map V.int)) := upd_same
    have npq : q ≠ p := ne_of_none hq1 hp
    have S1 : StAt (upd (upd H q (.lst (ns.map V.int))) p (.lst [.ref q, .int 0, .int 0, .int 1])) p q ns := ⟨by rw [upd_ne npq]; exact hq1, hn, 0, 0, 1, upd_same, by decide, by decide, by decide, by decide⟩
    generalize upd (upd H q (.lst (ns.map V.int))) p (.lst [.ref q, .int 0, .int 0, .int 1]) = H1 at S1
    refine ⟨_, rfl, p, q, ns, 6, rfl, S1, by decide, by decide, fun H2 v S2 B2 v0 v1 => ⟨_, _, rfl, rfl, ?_⟩⟩
    refine ⟨fun σ' H' => ∃ n : Nat, σ' = [some (.ref a), some (.ref p), some (.int (n : Int)), none, none, none, none, none, none] ∧ StAt H' p q ns ∧ 0 < n ∧ n ≤ 40, ?_, ?_⟩
    · refine ⟨_, rfl, p, q, ns, 2, rfl, S2, by decide, by decide, fun H3 w S3 B3 w0 w1 => ⟨rfl, _, rfl, ite2 (fun hc => ?_) (fun hc => ?_)⟩⟩
      · refine ⟨_, rfl, p, q, ns, 40, rfl, S3, by decide, by decide, fun H4 x S4 B4 x0 x1 => ⟨_, _, rfl, rfl, (1 + x).toNat, ?_, S4, by omega, by omega⟩⟩
        rw [show (((1 + x).toNat : Nat) : Int) = 1 + x by omega]
        rfl
      · refine ⟨(1 + v).toNat, ?_, S3, by omega, by omega⟩
        rw [show (((1 + v).toNat : Nat) : Int) = 1 + v by omega]
        rfl
    clear S1 S2 B2 v0 v1 H2 v H1 hq1 hp npq hq
    rintro σ' H1 ⟨n, rfl, S1, n0, n40⟩
    refine ⟨_, rfl, _, rfl, p, q, ns, n, rfl, S1, n0, n40, fun H2 I us l S2 K2 hI hl hv hlen hops hW => ?_⟩
    refine ⟨_, rfl, p, q, ns, rfl, S2, fun H3 z S3 K3 lz zl => ?_⟩
    refine ⟨by show 3 ≤ sizeLine; decide, fun G0 hG => ?_⟩
    have s4 := same_upd (o := .lst [.str " ", .str "\n ", .str "  "]) hG
    have gG : upd H3 G0 (.lst [.str " ", .str "\n ", .str "  "]) G0 = some (.lst [.str " ", .str "\n ", .str "  "]) := upd_same
    refine ⟨_, rfl, p, q, ns, 3, rfl, StAt.same S3 s4, by decide, by decide, fun H5 v S5 B5 v0 v1 => ?_⟩
    have nGp : G0 ≠ p := by
      obtain ⟨_, _, i0, c0, z0, h, _⟩ := S3
      exact (ne_of_none h hG).symm
    have gG5 := (B5 G0 nGp).trans gG
    obtain ⟨g, hat, hg, gne, gl⟩ : ∃ g : List Nat, atI [V.str " ", .str "\n ", .str "  "] v = some (.str (S g)) ∧ (∀ c ∈ g, isBlank c = true) ∧ g ≠ [] ∧ g.length ≤ 2 := by
      have : v = 0 ∨ v = 1 ∨ v = 2 := by omega
      rcases this with rfl | rfl | rfl
      · exact ⟨[32], by decide +kernel, by decide, by decide, by decide⟩
      · exact ⟨[10, 32], by decide +kernel, by decide, by decide, by decide⟩
      · exact ⟨[32, 32], by decide +kernel, by decide, by decide, by decide⟩
    refine ⟨G0, _, v, _, rfl, rfl, SqL.of gG5, hat, ?_⟩
    have nIp : I ≠ p := by
      rintro rfl
      obtain ⟨_, _, i0, c0, z0, h, _⟩ := S2
      rw [h] at hI
      have e := HO.lst.inj (Option.some.inj hI)
      subst e
      cases hl with
      | cons g1 r1 =>
        cases r1 with
        | @cons x y _ _ g2 r2 =>
          cases y with
          | neg => cases g2
          | op o => cases g2
          | num k0 => obtain ⟨_, e, _⟩ := g2; cases e
          | name k0 => obtain ⟨_, e, _⟩ := g2; cases e
    have K5 : Kept H2 H5 p := fun b x n h => B5.kept b x n (s4 b x (K3 b x n h))
    have hI5 := K5 _ _ nIp hI
    have hp2 : ∃ xs, H2 p = some (.lst xs) := by
      obtain ⟨_, _, i0, c0, z0, h, _⟩ := S2
      exact ⟨_, h⟩
    obtain ⟨xsp, hp2⟩ := hp2
    have hl5 : IsAt H5 us l := IsAt.keep (Kept.tk K5 hp2) hl
    have hlen2 := hl5.len
    have big : 16000000 ≤ sizeLine := by decide
    refine ⟨_, rfl, _, _, rfl, rfl, ?_, _, _, rfl, rfl, ?_, ?_⟩
    · rw [show ("view " : Str) = S [118, 105, 101, 119, 32] by decide +kernel, S_len, S_len]
      show 5 + z.length ≤ _
      omega
    · rw [show ("view " : Str) = S [118, 105, 101, 119, 32] by decide +kernel, show (" =" : Str) = S [32, 61] by decide +kernel, S_app, S_len, S_len, List.length_append]
      show 5 + z.length + 2 ≤ _
      omega
    refine ⟨_, rfl, I, rfl, ⟨_, SqL.of hI5⟩, ?_⟩
    refine for_it walk_list (fun i σ H' => H' = H5 ∧ ∃ (ps : List Pc) (y7 : Option V), All2 PcOf (l.take i) ps ∧ σ = [some (.ref a), some (.ref p), some (.int (n : Int)), some (.ref I), some (.str (S z)), some (.str (S g)), some (.str (S (viewC z g ps))), y7, none] ∧ (viewC z g ps).length ≤ 1000 + 1000 * i)
      ⟨rfl, [], none, .nil, ?_, ?_⟩ (fun i σ H' _ ⟨e, _⟩ => by rw [e]; exact SqL.of hI5) ?_ ?_
    · rw [show ("view " : Str) = S [118, 105, 101, 119, 32] by decide +kernel, show (" =" : Str) = S [32, 61] by decide +kernel, S_app, S_app]
      rw [show viewC z g [] = [118, 105, 101, 119, 32] ++ z ++ [32, 61] by simp [viewC]]
      rfl
    · rw [show viewC z g [] = [118, 105, 101, 119, 32] ++ z ++ [32, 61] by simp [viewC]]
      simp only [List.length_append, List.length_cons, List.length_nil]
      omega
    · rintro i x σ H' H'' hi ⟨rfl, ps, y7, hps, rfl, hcl⟩ ⟨rfl, hx⟩
      replace hx : us[i]? = some x := hx
      have hil : i < l.length := by omega
      obtain ⟨it, hit⟩ : ∃ it, l[i]? = some it := ⟨_, List.getElem?_eq_getElem hil⟩
      obtain ⟨u0, hu0, hia⟩ := hl5.getR hit
      rw [hx] at hu0
      obtain rfl := Option.some.inj hu0
      have etk : l.take (i + 1) = l.take i ++ [it] := by
        rw [List.take_add_one, hit]
        rfl
      have hw := hW it (List.mem_of_getElem? hit)
      have szv : ∀ w : List Nat, w.length ≤ 900 → (S (viewC z g ps) ++ S g).length + (S w).length ≤ sizeLine := fun w hw => by
        rw [S_app, S_len, S_len, List.length_append]
        omega
      have nx : ∀ (w : List Nat) (k : Kind) (v : Val), PcOf it (w, k, v) → w.length ≤ 900 → ∃ (ps' : List Pc) (y7 : Option V), All2 PcOf (l.take (i + 1)) ps' ∧ [some (V.ref a), some (.ref p), some (.int (n : Int)), some (.ref I), some (.str (S z)), some (.str (S g)), some (.str (S (viewC z g ps) ++ S g ++ S w)), some x, none] = [some (.ref a), some (.ref p), some (.int (n : Int)), some (.ref I), some (.str (S z)), some (.str (S g)), some (.str (S (viewC z g ps'))), y7, none] ∧ (viewC z g ps').length ≤ 1000 + 1000 * (i + 1) := fun w k v hp hl => by
        refine ⟨ps ++ [(w, k, v)], some x, by rw [etk]; exact hps.snoc hp, ?_, ?_⟩
        · rw [S_app, S_app, viewC_snoc, List.append_assoc]
        · rw [viewC_snoc, List.length_append, List.length_append]
          show (viewC z g ps).length + (g.length + w.length) ≤ _
          omega
      refine ⟨_, rfl, _, rfl, _, _, rfl, rfl, (by rw [S_len, S_len]; omega), ?_⟩
      cases it with
      | neg =>
        obtain rfl : x = _ := hia
        refine ⟨_, rfl, _, "str", "str", true, rfl, .base (.str _), by decide +kernel, true, rfl, iteT ⟨_, rfl, _, rfl, _, _, rfl, rfl, ?_, rfl, ?_⟩⟩
        · rw [notS]; exact szv _ (by decide)
        · rw [notS]; exact nx _ _ _ .neg (by decide)
      | op o =>
        obtain rfl : x = _ := hia
        have hop : ∃ k, PcOf (.op o) (opc o, k, .s (opc o)) ∧ (opc o).length ≤ 900 := by
          have h1 : ∀ o ∈ lall, (opc o ∈ ([[111, 114], [97, 110, 100], [109, 111, 100]] : List (List Nat)) ∨ opc o ∈ ([[61], [60], [58, 58], [43], [45], [43, 43], [42], [47]] : List (List Nat))) ∧ (opc o).length ≤ 900 := by decide +kernel
          obtain ⟨h2, h3⟩ := h1 o hw
          rcases h2 with h | h
          · exact ⟨_, .word rfl h, h3⟩
          · exact ⟨_, .sign rfl h, h3⟩
        obtain ⟨ko, hpo, hlo⟩ := hop
        refine ⟨_, rfl, _, "str", "str", true, rfl, .base (.str _), by decide +kernel, true, rfl, iteT ⟨_, rfl, _, rfl, _, _, rfl, rfl, szv (opc o) hlo, rfl, nx _ _ _ hpo hlo⟩⟩
      | num k0 =>
        obtain ⟨t, rfl, ht⟩ := hia
        have hk : k0 < 1000 := hw
        have hl18 : ∀ k : Fin 1000, (TL.numL k.val).length ≤ 18 ∧ ∀ x ∈ TL.numL k.val, isDig x = true := by decide +kernel
        obtain ⟨h1, h2⟩ := hl18 ⟨k0, hk⟩
        have h1 : (TL.numL k0).length ≤ 18 := h1
        refine ⟨_, rfl, _, "tuple", "str", false, rfl, .base (.tup ht), by decide +kernel, false, rfl, iteF ⟨_, rfl, _, rfl, t, _, 1, _, rfl, rfl, SqT.of ht, rfl, .inl ⟨(k0 : Int), rfl, ?_, _, _, rfl, rfl, ?_, rfl, ?_⟩⟩⟩
        · have h2 := Nat.log2_le_self ((k0 : Int)).natAbs
          omega
        · rw [num_S]; exact szv _ (by omega)
        · rw [num_S]; exact nx _ _ _ (.num (TL.numL_ne k0) h2 h1 (TL.numL_val k0)) (by omega)
      | name z0 =>
        obtain ⟨t, rfl, ht⟩ := hia
        refine ⟨_, rfl, _, "tuple", "str", false, rfl, .base (.tup ht), by decide +kernel, false, rfl, iteF ⟨_, rfl, _, rfl, t, _, 1, _, rfl, rfl, SqT.of ht, rfl, .inr ⟨S z0, rfl, _, _, rfl, rfl, szv _ (by have := hw.2; omega), rfl, nx _ _ _ (.name hw.1) (by have := hw.2; omega)⟩⟩⟩
    · rintro σ H' ⟨rfl, ps, y7, hps, rfl, hcl⟩
      rw [hlen2, List.take_length] at hps
      obtain ⟨e, hd, hcnt, hlev⟩ := div_ex _ l (Nat.le_refl _) hv
      have hdp := hd.dp_le.1 hv
      have hok := div_ok hd hW
      obtain ⟨L, hT, hLt⟩ := view_toks lz hg gne hps
      obtain ⟨hL, n', m', c1, hacc, hst, hbud⟩ := read_prem hLt (.expr hlev.or_) (plOk_zero (by decide) (fun t ht => by
        obtain ⟨it, h1, rfl⟩ := List.mem_map.mp ht
        exact it_opW (hW it h1))) (by rw [List.length_map]; omega)
      have hsz := e.siz
      have hcz : (viewC z g ps).length ≤ 1000000 := by omega
      refine ⟨_, rfl, I, us, l, e, rfl, hI5, hl5, hd, by omega, by omega, fun x hx => itOk_of (hW x hx), fun H6 u s6 tu => ?_⟩
      obtain ⟨au, _, _, rfl, _, _⟩ := ex_tup tu
      refine ⟨_, rfl, au, e, rfl, tu, by omega, by omega, fun H7 s7 => ⟨_, _, rfl, rfl, _, rfl, ite2 (fun hc => ?_) (fun hc => ?_)⟩⟩
      · have hb : true = true ↔ ¬ DepLe 12 e.tr := by
          rw [e.deep]
          have := of_decide_eq_true hc
          exact ⟨fun _ => by omega, fun _ => rfl⟩
        refine ⟨_, rfl, viewC z g ps, L, n', m', c1, S z, e.tr, true, rfl, hcz, hT, hL, hacc, hst, hbud, e.full, by omega, hb, fun z => (by cases z), fun _ H8 r s8 hr8 => ?_⟩
        refine ⟨_, rfl, S (viewC z g ps), rfl, by rw [S_len]; omega, by show 2 ≤ sizeLine; decide, fun t ht => ?_⟩
        have s9 := same_upd (o := .tup [.str "refused", .int ((S (viewC z g ps)).length : Int)]) ht
        refine ⟨.ref r, .ref t, rfl, SameD.row (n := 98) (s9 _ _ hr8) (by rw [upd_same, S_len]) (by show 2 ≤ 1000000; decide) (fun x hx => ?_), qq _⟩
        simp only [List.mem_cons, List.not_mem_nil, or_false] at hx
        rcases hx with rfl | rfl <;> trivial
      · have hd12 : e.dp ≤ 12 := by
          have : ¬ ((12 : Int) < (e.dp : Int)) := fun h => hc (decide_eq_true h)
          omega
        have hb : false = true ↔ ¬ DepLe 12 e.tr := by
          rw [e.deep]
          exact ⟨fun h => (by cases h), fun h => absurd hd12 h⟩
        have same : ∀ {Hx : Hp} {x y : V}, TrAt Hx (.t [.s "read", .t [.s "view", .s (S z), e.tr]]) x → TrAt Hx (.t [.s "read", .t [.s "view", .s (S z), e.tr]]) y → SameD K Hx 99 x y := fun h1 h2 => by
          have d1 := ex_dep e
          have d2 := ex_wid e
          refine TrAt.same h1 h2 ?_ ?_
          · simp only [Q23.T.dep, deps]
            omega
          · simp only [Q23.T.wid, wids, List.length_cons, List.length_nil]
            omega
        have tu7 : TrAt H7 e.tr (.ref au) := TrAt.keep (TupK.of s7) tu
        refine ⟨_, rfl, viewC z g ps, L, n', m', c1, S z, e.tr, false, rfl, hcz, hT, hL, hacc, hst, hbud, e.full, by omega, hb, fun _ H8 r s8 hr8 => ?_, fun z => (by cases z)⟩
        refine ⟨_, rfl, _, rfl, by show 3 ≤ sizeLine; decide, fun t1 ht1 => ⟨by show 2 ≤ sizeLine; decide, fun t2 ht2 => ?_⟩⟩
        have s9 := same_upd (o := .tup [.str "view", .str (S z), .ref au]) ht1
        have g9 : upd H8 t1 (.tup [.str "view", .str (S z), .ref au]) t1 = some (.tup [.str "view", .str (S z), .ref au]) := upd_same
        have tu9 : TrAt (upd H8 t1 (.tup [.str "view", .str (S z), .ref au])) e.tr (.ref au) := TrAt.keep (TupK.of (Same.tr s8 s9)) tu7
        have s10 := same_upd (H := upd H8 t1 (.tup [.str "view", .str (S z), .ref au])) (o := .tup [.str "read", .ref t1]) ht2
        refine ⟨.ref r, .ref t2, rfl, same (TrAt.keep (TupK.of (Same.tr s9 s10)) hr8) (TrAt.tup upd_same (.cons rfl (.cons (TrAt.tup (s10 _ _ g9) (.cons rfl (.cons rfl (.cons (TrAt.keep (TupK.of s10) tu9) .nil)))) .nil))), ?_⟩
        refine ⟨true, rfl, iteF ?_⟩
        have s510 := Same.tr s6 (Same.tr s7 (Same.tr s8 (Same.tr s9 s10)))
        have tu10 := TrAt.keep (TupK.of s10) tu9
        generalize upd (upd H8 t1 (.tup [.str "view", .str (S z), .ref au])) t2 (.tup [.str "read", .ref t1]) = H10 at s510 tu10
        have hI10 := s510 _ _ hI5
        refine ⟨_, rfl, I, rfl, ⟨_, SqL.of hI10⟩, fun D hD => ?_⟩
        refine lc_it walk_list (fun i H' => Same H10 H' ∧ ∃ acc, H' D = some (.lst acc) ∧ acc.length = ((l.take i).filter It.isS).length) ⟨same_upd hD, [], upd_same, rfl⟩ (fun i H' _ p => SqL.of (p.1 _ _ hI10)) ?_ ?_
        · rintro i x H2 H3 hi ⟨s2, acc, hD2, la⟩ ⟨rfl, hx⟩
          replace hx : us[i]? = some x := hx
          have hil : i < l.length := by omega
          obtain ⟨it, hit⟩ : ∃ it, l[i]? = some it := ⟨_, List.getElem?_eq_getElem hil⟩
          obtain ⟨u0, hu0, hia⟩ := hl5.getR hit
          rw [hx] at hu0
          obtain rfl := Option.some.inj hu0
          have etk : l.take (i + 1) = l.take i ++ [it] := by
            rw [List.take_add_one, hit]
            rfl
          have fl : ((l.take i).filter It.isS).length ≤ 120 := Nat.le_trans (List.length_filter_le _ _) (by rw [List.length_take]; omega)
          have big : 1000 ≤ sizeLine := by decide
          cases it with
          | neg =>
            obtain rfl : x = _ := hia
            refine ⟨rfl, _, rfl, _, "str", "str", true, rfl, .base (.str _), by decide +kernel, true, rfl, iteT ⟨_, rfl, acc, hD2, by omega, same_up s2 hD, _, upd_same, ?_⟩⟩
            rw [List.length_append, la, etk, List.filter_append, List.length_append]
            rfl
          | op o =>
            obtain rfl : x = _ := hia
            refine ⟨rfl, _, rfl, _, "str", "str", true, rfl, .base (.str _), by decide +kernel, true, rfl, iteT ⟨_, rfl, acc, hD2, by omega, same_up s2 hD, _, upd_same, ?_⟩⟩
            rw [List.length_append, la, etk, List.filter_append, List.length_append]
            rfl
          | num k0 =>
            obtain ⟨t, rfl, ht⟩ := hia
            refine ⟨rfl, _, rfl, _, "tuple", "str", false, rfl, .base (.tup (s2 _ _ (s510 _ _ ht))), by decide +kernel, false, rfl, iteF ⟨s2, acc, hD2, ?_⟩⟩
            rw [la, etk, List.filter_append, List.length_append]
            rfl
          | name z0 =>
            obtain ⟨t, rfl, ht⟩ := hia
            refine ⟨rfl, _, rfl, _, "tuple", "str", false, rfl, .base (.tup (s2 _ _ (s510 _ _ ht))), by decide +kernel, false, rfl, iteF ⟨s2, acc, hD2, ?_⟩⟩
            rw [la, etk, List.filter_append, List.length_append]
            rfl
        · rintro H11 ⟨s11, acc, hD2, la⟩
          rw [hlen2, List.take_length] at la
          refine ⟨D, acc, rfl, .inl (SqL.of hD2), _, _, rfl, rfl, _, rfl, ite2 (fun hc => qq _) (fun hc => ?_)⟩
          have h5 : (l.filter It.isS).length ≤ 5 := by
            have : ¬ ((5 : Int) < (acc.length : Int)) := fun h => hc (decide_eq_true h)
            omega
          have h11 := valid_short hv
          obtain ⟨x1, x2⟩ := ex_txt e hok
          have tu11 := TrAt.keep (TupK.of s11) tu10
          obtain ⟨L2, hT2, hLt2⟩ := par_toks lz hok
          obtain ⟨hL2, n2, m2, c2, hacc2, hst2, hbud2⟩ := read_prem hLt2 (.expr (up_or (up_and (.cmp1 (.cons1 (up_sum (up_prod (bt_G e hok)))))))) ((bt_pl e hok).2 0 (by omega)) (by omega)
          have pz : (parC z e).length ≤ 1000000 := by
            unfold parC
            simp only [List.length_append, List.length_cons, List.length_nil]
            omega
          have ev : ("view " : Str) = S [118, 105, 101, 119, 32] := by decide +kernel
          have eq1 : ("=" : Str) = S [61] := by decide +kernel
          refine ⟨_, rfl, _, _, rfl, rfl, ?_, _, _, rfl, rfl, ?_, _, rfl, au, e, rfl, tu11, by omega, hok, by omega, _, _, rfl, rfl, ?_, parC z e, L2, n2, m2, c2, S z, e.tr, false, ?_, pz, hT2, hL2, hacc2, hst2, hbud2, e.full, by omega, hb, fun _ H12 r2 s12 hr12 => ?_, fun z => (by cases z)⟩
          · rw [ev, S_len, S_len]
            show 5 + z.length ≤ _
            omega
          · rw [ev, eq1, S_app, S_len, S_len, List.length_append]
            show 5 + z.length + 1 ≤ _
            omega
          · rw [ev, eq1, S_app, S_app, S_len, S_len, List.length_append, List.length_append]
            show 5 + z.length + 1 + e.txt.length ≤ _
            omega
          · rw [ev, eq1, S_app, S_app, S_app]
            rfl
          refine ⟨_, rfl, _, rfl, by show 3 ≤ sizeLine; decide, fun t3 ht3 => ⟨by show 2 ≤ sizeLine; decide, fun t4 ht4 => ?_⟩⟩
          have tu12 := TrAt.keep (TupK.of s12) tu11
          have s13 := same_upd (o := .tup [.str "view", .str (S z), .ref au]) ht3
          have g13 : upd H12 t3 (.tup [.str "view", .str (S z), .ref au]) t3 = some (.tup [.str "view", .str (S z), .ref au]) := upd_same
          have tu13 : TrAt (upd H12 t3 (.tup [.str "view", .str (S z), .ref au])) e.tr (.ref au) := TrAt.keep (TupK.of s13) tu12
          have s14 := same_upd (H := upd H12 t3 (.tup [.str "view", .str (S z), .ref au])) (o := .tup [.str "read", .ref t3]) ht4
          refine ⟨.ref r2, .ref t4, rfl, same (TrAt.keep (TupK.of (Same.tr s13 s14)) hr12) (TrAt.tup upd_same (.cons rfl (.cons (TrAt.tup (s14 _ _ g13) (.cons rfl (.cons rfl (.cons (TrAt.keep (TupK.of s14) tu13) .nil)))) .nil))), qq _⟩
end
end Q23
namespace Q23
open PySem PySem.Spec PyProof.Rows L2 SX HL
theorem all_mk {l : PySem.W.OpenLaw} {w : World} {K : PySem.W.Frag} {h : Heap} {mg : Str → Option Value} {fa f1 f2 f3 f4 f5 f6 f7 f8 f9 f10 f11 f12 f13 f14 f15 f16 f17 f18 f19 f20 f21 f22 f23 f24 f25 f26 f27 f28 f29 f30 f31 f32 f33 f34 f35 f36 f37 f38 f39 f40 f41 f42 f43 : Addr} (X : K.In h) (G : h.Ns mainGlobals mg) (hfa : mg "law" = some (.ref fa))
    {od1 an1 od2 an2 od3 an3 od4 an4 od5 an5 od6 an6 od7 an7 od8 an8 od9 an9 od10 an10 od11 an11 od12 an12 od13 an13 od14 an14 od15 an15 od16 an16 od17 an17 od18 an18 od19 an19 od20 an20 od21 an21 od22 an22 od23 an23 od24 an24 od25 an25 od26 an26 od27 an27 od28 an28 od29 an29 od30 an30 od31 an31 od32 an32 od33 an33 od34 an34 od35 an35 od36 an36 od37 an37 od38 an38 od39 an39 od40 an40 od41 an41 od42 an42 od43 an43 : Option Addr} {sl1 sl2 sl3 sl4 sl5 sl6 sl7 sl8 sl9 sl10 sl11 sl12 sl13 sl14 sl15 sl16 sl17 sl18 sl19 sl20 sl21 sl22 sl23 sl24 sl25 sl26 sl27 sl28 sl29 sl30 sl31 sl32 sl33 sl34 sl35 sl36 sl37 sl38 sl39 sl40 sl41 sl42 sl43 : Array (Option Value)} {oc1 kV1 dc1 pm1 cd1 ct1 oc2 kV2 dc2 pm2 cd2 ct2 oc3 kV3 dc3 pm3 cd3 ct3 oc4 kV4 dc4 pm4 cd4 ct4 oc5 kV5 dc5 pm5 cd5 ct5 oc6 kV6 dc6 pm6 cd6 ct6 oc7 kV7 dc7 pm7 cd7 ct7 oc8 kV8 dc8 pm8 cd8 ct8 oc9 kV9 dc9 pm9 cd9 ct9 oc10 kV10 dc10 pm10 cd10 ct10 oc11 kV11 dc11 pm11 cd11 ct11 oc12 kV12 dc12 pm12 cd12 ct12 oc13 kV13 dc13 pm13 cd13 ct13 oc14 kV14 dc14 pm14 cd14 ct14 oc15 kV15 dc15 pm15 cd15 ct15 oc16 kV16 dc16 pm16 cd16 ct16 oc17 kV17 dc17 pm17 cd17 ct17 oc18 kV18 dc18 pm18 cd18 ct18 oc19 kV19 dc19 pm19 cd19 ct19 oc20 kV20 dc20 pm20 cd20 ct20 oc21 kV21 dc21 pm21 cd21 ct21 oc22 kV22 dc22 pm22 cd22 ct22 oc23 kV23 dc23 pm23 cd23 ct23 oc24 kV24 dc24 pm24 cd24 ct24 oc25 kV25 dc25 pm25 cd25 ct25 oc26 kV26 dc26 pm26 cd26 ct26 oc27 kV27 dc27 pm27 cd27 ct27 oc28 kV28 dc28 pm28 cd28 ct28 oc29 kV29 dc29 pm29 cd29 ct29 oc30 kV30 dc30 pm30 cd30 ct30 oc31 kV31 dc31 pm31 cd31 ct31 oc32 kV32 dc32 pm32 cd32 ct32 oc33 kV33 dc33 pm33 cd33 ct33 oc34 kV34 dc34 pm34 cd34 ct34 oc35 kV35 dc35 pm35 cd35 ct35 oc36 kV36 dc36 pm36 cd36 ct36 oc37 kV37 dc37 pm37 cd37 ct37 oc38 kV38 dc38 pm38 cd38 ct38 oc39 kV39 dc39 pm39 cd39 ct39 oc40 kV40 dc40 pm40 cd40 ct40 oc41 kV41 dc41 pm41 cd41 ct41 oc42 kV42 dc42 pm42 cd42 ct42 oc43 kV43 dc43 pm43 cd43 ct43 : Value}
    {tBLANKS tLOWER tUPPER tDIGITS tWORD_CHARACTERS tMOST_DIGITS tMOST_TOKENS tMOST_OPEN tDEEPEST tMOST_LEVELS tEND_OF_CHUNK : Tok}
    {aKEYWORDS : Addr} {odKEYWORDS : Option Addr} {nKEYWORDS : Nat} {slKEYWORDS : Array (Option Value)} {tkKEYWORDS0 tkKEYWORDS1 tkKEYWORDS2 tkKEYWORDS3 tkKEYWORDS4 tkKEYWORDS5 tkKEYWORDS6 tkKEYWORDS7 tkKEYWORDS8 tkKEYWORDS9 tkKEYWORDS10 tkKEYWORDS11 tkKEYWORDS12 tkKEYWORDS13 tkKEYWORDS14 tkKEYWORDS15 tkKEYWORDS16 tkKEYWORDS17 tkKEYWORDS18 tkKEYWORDS19 tkKEYWORDS20 tkKEYWORDS21 tkKEYWORDS22 tkKEYWORDS23 : Tok}
    {aLONGSIGNS : Addr} {odLONGSIGNS : Option Addr} {nLONGSIGNS : Nat} {slLONGSIGNS : Array (Option Value)} {tkLONGSIGNS0 tkLONGSIGNS1 tkLONGSIGNS2 tkLONGSIGNS3 : Tok}
    {aSHORTSIGNS : Addr} {odSHORTSIGNS : Option Addr} {nSHORTSIGNS : Nat} {slSHORTSIGNS : Array (Option Value)} {tkSHORTSIGNS0 tkSHORTSIGNS1 tkSHORTSIGNS2 tkSHORTSIGNS3 tkSHORTSIGNS4 tkSHORTSIGNS5 tkSHORTSIGNS6 tkSHORTSIGNS7 tkSHORTSIGNS8 tkSHORTSIGNS9 tkSHORTSIGNS10 tkSHORTSIGNS11 tkSHORTSIGNS12 tkSHORTSIGNS13 : Tok}
    {aOPENING : Addr} {odOPENING : Option Addr} {nOPENING : Nat} {slOPENING : Array (Option Value)} {tkOPENING0 tkOPENING1 tkOPENING2 : Tok}
    {aCLOSING : Addr} {odCLOSING : Option Addr} {nCLOSING : Nat} {slCLOSING : Array (Option Value)} {tkCLOSING0 tkCLOSING1 tkCLOSING2 : Tok}
    {aWITHVALUES : Addr} {odWITHVALUES : Option Addr} {nWITHVALUES : Nat} {slWITHVALUES : Array (Option Value)} {tkWITHVALUES0 tkWITHVALUES1 tkWITHVALUES2 tkWITHVALUES3 tkWITHVALUES4 : Tok}
    {aG : Addr}
    {aT : Addr}
    {aS : Addr}
    {aC : Addr}
    {f0 : Addr}
    {aQ : Addr}
    {nm q : Str} {N cda cc : Addr} {bs : List Value} {sn : List Str} {sub : List Value} {ab : Bool} {col : Option Bool} {dd : Option Addr} {m0 m1 m2 m3 m5 : Option Value} {ccl ccl2 : Value} {cdd cdd2 od0 an0 : Option Addr} {oc0 dc0 pm0 ct0 : Value} {vs : Array Value} {ccs ccs2 sl0 : Array (Option Value)} {file : Str} {tf : Tok}
    (a1 : PySem.W.nsIn K mainGlobals "popped" = some (some (.ref f1)))
    (l1 : K.lookup f1 = some ⟨oc1, od1, .func (PySem.W.fnOf "popped" "popped" (defArgs sPopped) (defBody sPopped) (defScope sPopped) .none kV1 dc1 pm1 an1 cd1 ct1), sl1⟩)
    (c1 : PySem.W.codeIn K cd1 "popped" = true)
    (k1 : PySem.W.keepIn K (.ref f1) = true)
    (a2 : PySem.W.nsIn K mainGlobals "begin_items" = some (some (.ref f2)))
    (l2 : K.lookup f2 = some ⟨oc2, od2, .func (PySem.W.fnOf "begin_items" "begin_items" (defArgs sBeginItems) (defBody sBeginItems) (defScope sBeginItems) .none kV2 dc2 pm2 an2 cd2 ct2), sl2⟩)
    (c2 : PySem.W.codeIn K cd2 "begin_items" = true)
    (k2 : PySem.W.keepIn K (.ref f2) = true)
    (a3 : PySem.W.nsIn K mainGlobals "add_item" = some (some (.ref f3)))
    (l3 : K.lookup f3 = some ⟨oc3, od3, .func (PySem.W.fnOf "add_item" "add_item" (defArgs sAddItem) (defBody sAddItem) (defScope sAddItem) .none kV3 dc3 pm3 an3 cd3 ct3), sl3⟩)
    (c3 : PySem.W.codeIn K cd3 "add_item" = true)
    (k3 : PySem.W.keepIn K (.ref f3) = true)
    (a4 : PySem.W.nsIn K mainGlobals "join_pair" = some (some (.ref f4)))
    (l4 : K.lookup f4 = some ⟨oc4, od4, .func (PySem.W.fnOf "join_pair" "join_pair" (defArgs sJoinPair) (defBody sJoinPair) (defScope sJoinPair) .none kV4 dc4 pm4 an4 cd4 ct4), sl4⟩)
    (c4 : PySem.W.codeIn K cd4 "join_pair" = true)
    (k4 : PySem.W.keepIn K (.ref f4) = true)
    (a5 : PySem.W.nsIn K mainGlobals "join_triple" = some (some (.ref f5)))
    (l5 : K.lookup f5 = some ⟨oc5, od5, .func (PySem.W.fnOf "join_triple" "join_triple" (defArgs sJoinTriple) (defBody sJoinTriple) (defScope sJoinTriple) .none kV5 dc5 pm5 an5 cd5 ct5), sl5⟩)
    (c5 : PySem.W.codeIn K cd5 "join_triple" = true)
    (k5 : PySem.W.keepIn K (.ref f5) = true)
    (a6 : PySem.W.nsIn K mainGlobals "build_binary" = some (some (.ref f6)))
    (l6 : K.lookup f6 = some ⟨oc6, od6, .func (PySem.W.fnOf "build_binary" "build_binary" (defArgs sBuildBinary) (defBody sBuildBinary) (defScope sBuildBinary) .none kV6 dc6 pm6 an6 cd6 ct6), sl6⟩)
    (c6 : PySem.W.codeIn K cd6 "build_binary" = true)
    (k6 : PySem.W.keepIn K (.ref f6) = true)
    (a7 : PySem.W.nsIn K mainGlobals "build_true" = some (some (.ref f7)))
    (l7 : K.lookup f7 = some ⟨oc7, od7, .func (PySem.W.fnOf "build_true" "build_true" (defArgs sBuildTrue) (defBody sBuildTrue) (defScope sBuildTrue) .none kV7 dc7 pm7 an7 cd7 ct7), sl7⟩)
    (c7 : PySem.W.codeIn K cd7 "build_true" = true)
    (k7 : PySem.W.keepIn K (.ref f7) = true)
    (a8 : PySem.W.nsIn K mainGlobals "build_false" = some (some (.ref f8)))
    (l8 : K.lookup f8 = some ⟨oc8, od8, .func (PySem.W.fnOf "build_false" "build_false" (defArgs sBuildFalse) (defBody sBuildFalse) (defScope sBuildFalse) .none kV8 dc8 pm8 an8 cd8 ct8), sl8⟩)
    (c8 : PySem.W.codeIn K cd8 "build_false" = true)
    (k8 : PySem.W.keepIn K (.ref f8) = true)
    (a9 : PySem.W.nsIn K mainGlobals "keep_nothing" = some (some (.ref f9)))
    (l9 : K.lookup f9 = some ⟨oc9, od9, .func (PySem.W.fnOf "keep_nothing" "keep_nothing" (defArgs sKeepNothing) (defBody sKeepNothing) (defScope sKeepNothing) .none kV9 dc9 pm9 an9 cd9 ct9), sl9⟩)
    (c9 : PySem.W.codeIn K cd9 "keep_nothing" = true)
    (k9 : PySem.W.keepIn K (.ref f9) = true)
    (a10 : PySem.W.nsIn K mainGlobals "begin_kind" = some (some (.ref f10)))
    (l10 : K.lookup f10 = some ⟨oc10, od10, .func (PySem.W.fnOf "begin_kind" "begin_kind" (defArgs sBeginKind) (defBody sBeginKind) (defScope sBeginKind) .none kV10 dc10 pm10 an10 cd10 ct10), sl10⟩)
    (c10 : PySem.W.codeIn K cd10 "begin_kind" = true)
    (k10 : PySem.W.keepIn K (.ref f10) = true)
    (a11 : PySem.W.nsIn K mainGlobals "raise_level" = some (some (.ref f11)))
    (l11 : K.lookup f11 = some ⟨oc11, od11, .func (PySem.W.fnOf "raise_level" "raise_level" (defArgs sRaiseLevel) (defBody sRaiseLevel) (defScope sRaiseLevel) .none kV11 dc11 pm11 an11 cd11 ct11), sl11⟩)
    (c11 : PySem.W.codeIn K cd11 "raise_level" = true)
    (k11 : PySem.W.keepIn K (.ref f11) = true)
    (a12 : PySem.W.nsIn K mainGlobals "build" = some (some (.ref f12)))
    (l12 : K.lookup f12 = some ⟨oc12, od12, .func (PySem.W.fnOf "build" "build" (defArgs sBuild) (defBody sBuild) (defScope sBuild) .none kV12 dc12 pm12 an12 cd12 ct12), sl12⟩)
    (c12 : PySem.W.codeIn K cd12 "build" = true)
    (k12 : PySem.W.keepIn K (.ref f12) = true)
    (a13 : PySem.W.nsIn K mainGlobals "production" = some (some (.ref f13)))
    (l13 : K.lookup f13 = some ⟨oc13, od13, .func (PySem.W.fnOf "production" "production" (defArgs sProduction) (defBody sProduction) (defScope sProduction) .none kV13 dc13 pm13 an13 cd13 ct13), sl13⟩)
    (c13 : PySem.W.codeIn K cd13 "production" = true)
    (k13 : PySem.W.keepIn K (.ref f13) = true)
    (a14 : PySem.W.nsIn K mainGlobals "tokenize" = some (some (.ref f14)))
    (l14 : K.lookup f14 = some ⟨oc14, od14, .func (PySem.W.fnOf "tokenize" "tokenize" (defArgs sTokenize) (defBody sTokenize) (defScope sTokenize) .none kV14 dc14 pm14 an14 cd14 ct14), sl14⟩)
    (c14 : PySem.W.codeIn K cd14 "tokenize" = true)
    (k14 : PySem.W.keepIn K (.ref f14) = true)
    (a15 : PySem.W.nsIn K mainGlobals "token_at" = some (some (.ref f15)))
    (l15 : K.lookup f15 = some ⟨oc15, od15, .func (PySem.W.fnOf "token_at" "token_at" (defArgs sTokenAt) (defBody sTokenAt) (defScope sTokenAt) .none kV15 dc15 pm15 an15 cd15 ct15), sl15⟩)
    (c15 : PySem.W.codeIn K cd15 "token_at" = true)
    (k15 : PySem.W.keepIn K (.ref f15) = true)
    (a16 : PySem.W.nsIn K mainGlobals "word_at" = some (some (.ref f16)))
    (l16 : K.lookup f16 = some ⟨oc16, od16, .func (PySem.W.fnOf "word_at" "word_at" (defArgs sWordAt) (defBody sWordAt) (defScope sWordAt) .none kV16 dc16 pm16 an16 cd16 ct16), sl16⟩)
    (c16 : PySem.W.codeIn K cd16 "word_at" = true)
    (k16 : PySem.W.keepIn K (.ref f16) = true)
    (a17 : PySem.W.nsIn K mainGlobals "number_at" = some (some (.ref f17)))
    (l17 : K.lookup f17 = some ⟨oc17, od17, .func (PySem.W.fnOf "number_at" "number_at" (defArgs sNumberAt) (defBody sNumberAt) (defScope sNumberAt) .none kV17 dc17 pm17 an17 cd17 ct17), sl17⟩)
    (c17 : PySem.W.codeIn K cd17 "number_at" = true)
    (k17 : PySem.W.keepIn K (.ref f17) = true)
    (a18 : PySem.W.nsIn K mainGlobals "text_at" = some (some (.ref f18)))
    (l18 : K.lookup f18 = some ⟨oc18, od18, .func (PySem.W.fnOf "text_at" "text_at" (defArgs sTextAt) (defBody sTextAt) (defScope sTextAt) .none kV18 dc18 pm18 an18 cd18 ct18), sl18⟩)
    (c18 : PySem.W.codeIn K cd18 "text_at" = true)
    (k18 : PySem.W.keepIn K (.ref f18) = true)
    (a19 : PySem.W.nsIn K mainGlobals "sign_at" = some (some (.ref f19)))
    (l19 : K.lookup f19 = some ⟨oc19, od19, .func (PySem.W.fnOf "sign_at" "sign_at" (defArgs sSignAt) (defBody sSignAt) (defScope sSignAt) .none kV19 dc19 pm19 an19 cd19 ct19), sl19⟩)
    (c19 : PySem.W.codeIn K cd19 "sign_at" = true)
    (k19 : PySem.W.keepIn K (.ref f19) = true)
    (a20 : PySem.W.nsIn K mainGlobals "end_of_run" = some (some (.ref f20)))
    (l20 : K.lookup f20 = some ⟨oc20, od20, .func (PySem.W.fnOf "end_of_run" "end_of_run" (defArgs sEndOfRun) (defBody sEndOfRun) (defScope sEndOfRun) .none kV20 dc20 pm20 an20 cd20 ct20), sl20⟩)
    (c20 : PySem.W.codeIn K cd20 "end_of_run" = true)
    (k20 : PySem.W.keepIn K (.ref f20) = true)
    (a21 : PySem.W.nsIn K mainGlobals "parts" = some (some (.ref f21)))
    (l21 : K.lookup f21 = some ⟨oc21, od21, .func (PySem.W.fnOf "parts" "parts" (defArgs sParts) (defBody sParts) (defScope sParts) .none kV21 dc21 pm21 an21 cd21 ct21), sl21⟩)
    (c21 : PySem.W.codeIn K cd21 "parts" = true)
    (k21 : PySem.W.keepIn K (.ref f21) = true)
    (a22 : PySem.W.nsIn K mainGlobals "expressions" = some (some (.ref f22)))
    (l22 : K.lookup f22 = some ⟨oc22, od22, .func (PySem.W.fnOf "expressions" "expressions" (defArgs sExpressions) (defBody sExpressions) (defScope sExpressions) .none kV22 dc22 pm22 an22 cd22 ct22), sl22⟩)
    (c22 : PySem.W.codeIn K cd22 "expressions" = true)
    (k22 : PySem.W.keepIn K (.ref f22) = true)
    (a23 : PySem.W.nsIn K mainGlobals "kinds" = some (some (.ref f23)))
    (l23 : K.lookup f23 = some ⟨oc23, od23, .func (PySem.W.fnOf "kinds" "kinds" (defArgs sKinds) (defBody sKinds) (defScope sKinds) .none kV23 dc23 pm23 an23 cd23 ct23), sl23⟩)
    (c23 : PySem.W.codeIn K cd23 "kinds" = true)
    (k23 : PySem.W.keepIn K (.ref f23) = true)
    (a24 : PySem.W.nsIn K mainGlobals "parse" = some (some (.ref f24)))
    (l24 : K.lookup f24 = some ⟨oc24, od24, .func (PySem.W.fnOf "parse" "parse" (defArgs sParse) (defBody sParse) (defScope sParse) .none kV24 dc24 pm24 an24 cd24 ct24), sl24⟩)
    (c24 : PySem.W.codeIn K cd24 "parse" = true)
    (k24 : PySem.W.keepIn K (.ref f24) = true)
    (a25 : PySem.W.nsIn K mainGlobals "word_of" = some (some (.ref f25)))
    (l25 : K.lookup f25 = some ⟨oc25, od25, .func (PySem.W.fnOf "word_of" "word_of" (defArgs sWordOf) (defBody sWordOf) (defScope sWordOf) .none kV25 dc25 pm25 an25 cd25 ct25), sl25⟩)
    (c25 : PySem.W.codeIn K cd25 "word_of" = true)
    (k25 : PySem.W.keepIn K (.ref f25) = true)
    (a26 : PySem.W.nsIn K mainGlobals "opened_by" = some (some (.ref f26)))
    (l26 : K.lookup f26 = some ⟨oc26, od26, .func (PySem.W.fnOf "opened_by" "opened_by" (defArgs sOpenedBy) (defBody sOpenedBy) (defScope sOpenedBy) .none kV26 dc26 pm26 an26 cd26 ct26), sl26⟩)
    (c26 : PySem.W.codeIn K cd26 "opened_by" = true)
    (k26 : PySem.W.keepIn K (.ref f26) = true)
    (a27 : PySem.W.nsIn K mainGlobals "takes" = some (some (.ref f27)))
    (l27 : K.lookup f27 = some ⟨oc27, od27, .func (PySem.W.fnOf "takes" "takes" (defArgs sTakes) (defBody sTakes) (defScope sTakes) .none kV27 dc27 pm27 an27 cd27 ct27), sl27⟩)
    (c27 : PySem.W.codeIn K cd27 "takes" = true)
    (k27 : PySem.W.keepIn K (.ref f27) = true)
    (a28 : PySem.W.nsIn K mainGlobals "settle" = some (some (.ref f28)))
    (l28 : K.lookup f28 = some ⟨oc28, od28, .func (PySem.W.fnOf "settle" "settle" (defArgs sSettle) (defBody sSettle) (defScope sSettle) .none kV28 dc28 pm28 an28 cd28 ct28), sl28⟩)
    (c28 : PySem.W.codeIn K cd28 "settle" = true)
    (k28 : PySem.W.keepIn K (.ref f28) = true)
    (a29 : PySem.W.nsIn K mainGlobals "goes_too_deep" = some (some (.ref f29)))
    (l29 : K.lookup f29 = some ⟨oc29, od29, .func (PySem.W.fnOf "goes_too_deep" "goes_too_deep" (defArgs sGoesTooDeep) (defBody sGoesTooDeep) (defScope sGoesTooDeep) .none kV29 dc29 pm29 an29 cd29 ct29), sl29⟩)
    (c29 : PySem.W.codeIn K cd29 "goes_too_deep" = true)
    (k29 : PySem.W.keepIn K (.ref f29) = true)
    (a30 : PySem.W.nsIn K mainGlobals "_law_next" = some (some (.ref f30)))
    (l30 : K.lookup f30 = some ⟨oc30, od30, .func (PySem.W.fnOf "_law_next" "_law_next" (defArgs sLawNext) (defBody sLawNext) (defScope sLawNext) .none kV30 dc30 pm30 an30 cd30 ct30), sl30⟩)
    (c30 : PySem.W.codeIn K cd30 "_law_next" = true)
    (k30 : PySem.W.keepIn K (.ref f30) = true)
    (a31 : PySem.W.nsIn K mainGlobals "_law_same" = some (some (.ref f31)))
    (l31 : K.lookup f31 = some ⟨oc31, od31, .func (PySem.W.fnOf "_law_same" "_law_same" (defArgs sLawSame) (defBody sLawSame) (defScope sLawSame) .none kV31 dc31 pm31 an31 cd31 ct31), sl31⟩)
    (c31 : PySem.W.codeIn K cd31 "_law_same" = true)
    (k31 : PySem.W.keepIn K (.ref f31) = true)
    (a32 : PySem.W.nsIn K mainGlobals "_law_keywords" = some (some (.ref f32)))
    (l32 : K.lookup f32 = some ⟨oc32, od32, .func (PySem.W.fnOf "_law_keywords" "_law_keywords" (defArgs sLawKeywords) (defBody sLawKeywords) (defScope sLawKeywords) .none kV32 dc32 pm32 an32 cd32 ct32), sl32⟩)
    (c32 : PySem.W.codeIn K cd32 "_law_keywords" = true)
    (k32 : PySem.W.keepIn K (.ref f32) = true)
    (a33 : PySem.W.nsIn K mainGlobals "_law_word" = some (some (.ref f33)))
    (l33 : K.lookup f33 = some ⟨oc33, od33, .func (PySem.W.fnOf "_law_word" "_law_word" (defArgs sLawWord) (defBody sLawWord) (defScope sLawWord) .none kV33 dc33 pm33 an33 cd33 ct33), sl33⟩)
    (c33 : PySem.W.codeIn K cd33 "_law_word" = true)
    (k33 : PySem.W.keepIn K (.ref f33) = true)
    (a34 : PySem.W.nsIn K mainGlobals "_law_name" = some (some (.ref f34)))
    (l34 : K.lookup f34 = some ⟨oc34, od34, .func (PySem.W.fnOf "_law_name" "_law_name" (defArgs sLawName) (defBody sLawName) (defScope sLawName) .none kV34 dc34 pm34 an34 cd34 ct34), sl34⟩)
    (c34 : PySem.W.codeIn K cd34 "_law_name" = true)
    (k34 : PySem.W.keepIn K (.ref f34) = true)
    (a35 : PySem.W.nsIn K mainGlobals "_law_operator" = some (some (.ref f35)))
    (l35 : K.lookup f35 = some ⟨oc35, od35, .func (PySem.W.fnOf "_law_operator" "_law_operator" (defArgs sLawOperator) (defBody sLawOperator) (defScope sLawOperator) .none kV35 dc35 pm35 an35 cd35 ct35), sl35⟩)
    (c35 : PySem.W.codeIn K cd35 "_law_operator" = true)
    (k35 : PySem.W.keepIn K (.ref f35) = true)
    (a36 : PySem.W.nsIn K mainGlobals "_law_flat" = some (some (.ref f36)))
    (l36 : K.lookup f36 = some ⟨oc36, od36, .func (PySem.W.fnOf "_law_flat" "_law_flat" (defArgs sLawFlat) (defBody sLawFlat) (defScope sLawFlat) .none kV36 dc36 pm36 an36 cd36 ct36), sl36⟩)
    (c36 : PySem.W.codeIn K cd36 "_law_flat" = true)
    (k36 : PySem.W.keepIn K (.ref f36) = true)
    (a37 : PySem.W.nsIn K mainGlobals "_law_last" = some (some (.ref f37)))
    (l37 : K.lookup f37 = some ⟨oc37, od37, .func (PySem.W.fnOf "_law_last" "_law_last" (defArgs sLawLast) (defBody sLawLast) (defScope sLawLast) .none kV37 dc37 pm37 an37 cd37 ct37), sl37⟩)
    (c37 : PySem.W.codeIn K cd37 "_law_last" = true)
    (k37 : PySem.W.keepIn K (.ref f37) = true)
    (a38 : PySem.W.nsIn K mainGlobals "_law_split" = some (some (.ref f38)))
    (l38 : K.lookup f38 = some ⟨oc38, od38, .func (PySem.W.fnOf "_law_split" "_law_split" (defArgs sLawSplit) (defBody sLawSplit) (defScope sLawSplit) .none kV38 dc38 pm38 an38 cd38 ct38), sl38⟩)
    (c38 : PySem.W.codeIn K cd38 "_law_split" = true)
    (k38 : PySem.W.keepIn K (.ref f38) = true)
    (a39 : PySem.W.nsIn K mainGlobals "_law_divided" = some (some (.ref f39)))
    (l39 : K.lookup f39 = some ⟨oc39, od39, .func (PySem.W.fnOf "_law_divided" "_law_divided" (defArgs sLawDivided) (defBody sLawDivided) (defScope sLawDivided) .none kV39 dc39 pm39 an39 cd39 ct39), sl39⟩)
    (c39 : PySem.W.codeIn K cd39 "_law_divided" = true)
    (k39 : PySem.W.keepIn K (.ref f39) = true)
    (a40 : PySem.W.nsIn K mainGlobals "_law_depth" = some (some (.ref f40)))
    (l40 : K.lookup f40 = some ⟨oc40, od40, .func (PySem.W.fnOf "_law_depth" "_law_depth" (defArgs sLawDepth) (defBody sLawDepth) (defScope sLawDepth) .none kV40 dc40 pm40 an40 cd40 ct40), sl40⟩)
    (c40 : PySem.W.codeIn K cd40 "_law_depth" = true)
    (k40 : PySem.W.keepIn K (.ref f40) = true)
    (a41 : PySem.W.nsIn K mainGlobals "_law_text" = some (some (.ref f41)))
    (l41 : K.lookup f41 = some ⟨oc41, od41, .func (PySem.W.fnOf "_law_text" "_law_text" (defArgs sLawText) (defBody sLawText) (defScope sLawText) .none kV41 dc41 pm41 an41 cd41 ct41), sl41⟩)
    (c41 : PySem.W.codeIn K cd41 "_law_text" = true)
    (k41 : PySem.W.keepIn K (.ref f41) = true)
    (a42 : PySem.W.nsIn K mainGlobals "_law_read" = some (some (.ref f42)))
    (l42 : K.lookup f42 = some ⟨oc42, od42, .func (PySem.W.fnOf "_law_read" "_law_read" (defArgs sLawRead) (defBody sLawRead) (defScope sLawRead) .none kV42 dc42 pm42 an42 cd42 ct42), sl42⟩)
    (c42 : PySem.W.codeIn K cd42 "_law_read" = true)
    (k42 : PySem.W.keepIn K (.ref f42) = true)
    (a43 : PySem.W.nsIn K mainGlobals "law" = some (some (.ref f43)))
    (l43 : K.lookup f43 = some ⟨oc43, od43, .func (PySem.W.fnOf "law" "law" (defArgs sLaw) (defBody sLaw) (defScope sLaw) .none kV43 dc43 pm43 an43 cd43 ct43), sl43⟩)
    (c43 : PySem.W.codeIn K cd43 "law" = true)
    (k43 : PySem.W.keepIn K (.ref f43) = true)
    (z_any : PySem.W.nsIn K mainGlobals "any" = some none)
    (z_bool : PySem.W.nsIn K mainGlobals "bool" = some none)
    (z_enumerate : PySem.W.nsIn K mainGlobals "enumerate" = some none)
    (z_int : PySem.W.nsIn K mainGlobals "int" = some none)
    (z_isinstance : PySem.W.nsIn K mainGlobals "isinstance" = some none)
    (z_len : PySem.W.nsIn K mainGlobals "len" = some none)
    (z_list : PySem.W.nsIn K mainGlobals "list" = some none)
    (z_max : PySem.W.nsIn K mainGlobals "max" = some none)
    (z_range : PySem.W.nsIn K mainGlobals "range" = some none)
    (z_str : PySem.W.nsIn K mainGlobals "str" = some none)
    (z_super : PySem.W.nsIn K mainGlobals "super" = some none)
    (z_tuple : PySem.W.nsIn K mainGlobals "tuple" = some none)
    (g_BLANKS : PySem.W.nsIn K mainGlobals "BLANKS" = some (some (.str " \n" tBLANKS)))
    (g_LOWER : PySem.W.nsIn K mainGlobals "LOWER" = some (some (.str "abcdefghijklmnopqrstuvwxyz" tLOWER)))
    (g_UPPER : PySem.W.nsIn K mainGlobals "UPPER" = some (some (.str "ABCDEFGHIJKLMNOPQRSTUVWXYZ" tUPPER)))
    (g_DIGITS : PySem.W.nsIn K mainGlobals "DIGITS" = some (some (.str "0123456789" tDIGITS)))
    (g_WORD_CHARACTERS : PySem.W.nsIn K mainGlobals "WORD_CHARACTERS" = some (some (.str "abcdefghijklmnopqrstuvwxyzABCDEFGHIJKLMNOPQRSTUVWXYZ0123456789_" tWORD_CHARACTERS)))
    (g_MOST_DIGITS : PySem.W.nsIn K mainGlobals "MOST_DIGITS" = some (some (.int 18 tMOST_DIGITS)))
    (g_MOST_TOKENS : PySem.W.nsIn K mainGlobals "MOST_TOKENS" = some (some (.int 200 tMOST_TOKENS)))
    (g_MOST_OPEN : PySem.W.nsIn K mainGlobals "MOST_OPEN" = some (some (.int 12 tMOST_OPEN)))
    (g_DEEPEST : PySem.W.nsIn K mainGlobals "DEEPEST" = some (some (.int 12 tDEEPEST)))
    (g_MOST_LEVELS : PySem.W.nsIn K mainGlobals "MOST_LEVELS" = some (some (.int 12 tMOST_LEVELS)))
    (g_END_OF_CHUNK : PySem.W.nsIn K mainGlobals "END_OF_CHUNK" = some (some (.str "END" tEND_OF_CHUNK)))
    (p_gKEYWORDS : PySem.W.nsIn K mainGlobals "KEYWORDS" = some (some (.ref aKEYWORDS)))
    (x_KEYWORDS : K.lookup aKEYWORDS = some ⟨.type "tuple", odKEYWORDS, .seq (List.toArray [.str "data" tkKEYWORDS0, .str "fun" tkKEYWORDS1, .str "cell" tkKEYWORDS2, .str "view" tkKEYWORDS3, .str "act" tkKEYWORDS4, .str "turn" tkKEYWORDS5, .str "then" tkKEYWORDS6, .str "true" tkKEYWORDS7, .str "false" tkKEYWORDS8, .str "not" tkKEYWORDS9, .str "and" tkKEYWORDS10, .str "or" tkKEYWORDS11, .str "if" tkKEYWORDS12, .str "else" tkKEYWORDS13, .str "let" tkKEYWORDS14, .str "in" tkKEYWORDS15, .str "case" tkKEYWORDS16, .str "of" tkKEYWORDS17, .str "end" tkKEYWORDS18, .str "num" tkKEYWORDS19, .str "text" tkKEYWORDS20, .str "bool" tkKEYWORDS21, .str "list" tkKEYWORDS22, .str "mod" tkKEYWORDS23]) nKEYWORDS, slKEYWORDS⟩)
    (p_gLONGSIGNS : PySem.W.nsIn K mainGlobals "LONG_SIGNS" = some (some (.ref aLONGSIGNS)))
    (x_LONGSIGNS : K.lookup aLONGSIGNS = some ⟨.type "tuple", odLONGSIGNS, .seq (List.toArray [.str "++" tkLONGSIGNS0, .str "::" tkLONGSIGNS1, .str "->" tkLONGSIGNS2, .str ":=" tkLONGSIGNS3]) nLONGSIGNS, slLONGSIGNS⟩)
    (p_gSHORTSIGNS : PySem.W.nsIn K mainGlobals "SHORT_SIGNS" = some (some (.ref aSHORTSIGNS)))
    (x_SHORTSIGNS : K.lookup aSHORTSIGNS = some ⟨.type "tuple", odSHORTSIGNS, .seq (List.toArray [.str "(" tkSHORTSIGNS0, .str ")" tkSHORTSIGNS1, .str "[" tkSHORTSIGNS2, .str "]" tkSHORTSIGNS3, .str "," tkSHORTSIGNS4, .str ";" tkSHORTSIGNS5, .str "|" tkSHORTSIGNS6, .str "=" tkSHORTSIGNS7, .str "<" tkSHORTSIGNS8, .str "+" tkSHORTSIGNS9, .str "-" tkSHORTSIGNS10, .str "*" tkSHORTSIGNS11, .str "/" tkSHORTSIGNS12, .str ":" tkSHORTSIGNS13]) nSHORTSIGNS, slSHORTSIGNS⟩)
    (p_gOPENING : PySem.W.nsIn K mainGlobals "OPENING" = some (some (.ref aOPENING)))
    (x_OPENING : K.lookup aOPENING = some ⟨.type "tuple", odOPENING, .seq (List.toArray [.str "(" tkOPENING0, .str "[" tkOPENING1, .str "case" tkOPENING2]) nOPENING, slOPENING⟩)
    (p_gCLOSING : PySem.W.nsIn K mainGlobals "CLOSING" = some (some (.ref aCLOSING)))
    (x_CLOSING : K.lookup aCLOSING = some ⟨.type "tuple", odCLOSING, .seq (List.toArray [.str ")" tkCLOSING0, .str "]" tkCLOSING1, .str "end" tkCLOSING2]) nCLOSING, slCLOSING⟩)
    (p_gWITHVALUES : PySem.W.nsIn K mainGlobals "WITH_VALUES" = some (some (.ref aWITHVALUES)))
    (x_WITHVALUES : K.lookup aWITHVALUES = some ⟨.type "tuple", odWITHVALUES, .seq (List.toArray [.str "TAKE" tkWITHVALUES0, .str "NAME" tkWITHVALUES1, .str "MAKER" tkWITHVALUES2, .str "NUMBER" tkWITHVALUES3, .str "TEXT" tkWITHVALUES4]) nWITHVALUES, slWITHVALUES⟩)
    (p_gaG : PySem.W.nsIn K mainGlobals "GRAMMAR" = some (some (.ref aG)))
    (p_G : GR.dictW (GR.rowsW K) K aG = some gram)
    (p_gaT : PySem.W.nsIn K mainGlobals "TREES" = some (some (.ref aT)))
    (p_T : GR.dictW GR.intW K aT = some trees)
    (p_gaS : PySem.W.nsIn K mainGlobals "STEPS" = some (some (.ref aS)))
    (p_sBeginItems : PySem.W.nsIn K aS "!none" = some (some (.ref f2)))
    (p_sAddItem : PySem.W.nsIn K aS "!item" = some (some (.ref f3)))
    (p_sJoinPair : PySem.W.nsIn K aS "!pair" = some (some (.ref f4)))
    (p_sJoinTriple : PySem.W.nsIn K aS "!triple" = some (some (.ref f5)))
    (p_sBuildBinary : PySem.W.nsIn K aS "!binary" = some (some (.ref f6)))
    (p_sBuildTrue : PySem.W.nsIn K aS "!true" = some (some (.ref f7)))
    (p_sBuildFalse : PySem.W.nsIn K aS "!false" = some (some (.ref f8)))
    (p_sKeepNothing : PySem.W.nsIn K aS "!nothing" = some (some (.ref f9)))
    (p_sBeginKind : PySem.W.nsIn K aS "!kind" = some (some (.ref f10)))
    (p_sRaiseLevel : PySem.W.nsIn K aS "!level" = some (some (.ref f11)))
    (aCe : PySem.W.nsIn K mainGlobals "RefusedChunk" = some (some (.ref aC)))
    (xC : K.lookup aC = some (excClassObj nm q aC N bs [.ref aQ, .type "ValueError", .type "Exception", .type "BaseException", .type "object"] true sn sub ab col dd m0 m1 m2 m3 m5 "ValueError.__new__"))
    (sa : PySem.W.findIn K (.ref aC) "__setattr__" = some (some (.builtin "object.__setattr__")))
    (ga : PySem.W.findIn K (.ref aC) "__getattribute__" = some (some (.builtin "BaseException.__getattribute__")))
    (gg : PySem.W.findIn K (.ref aC) "__getattr__" = some none)
    (np : PySem.W.findIn K (.ref aC) "position" = some none)
    (iC : PySem.W.findIn K (.ref aC) "__init__" = some (some (.ref f0)))
    (tC : PySem.W.typeIn K (.ref f0) = some (.type "function"))
    (kC : PySem.W.keepIn K (.ref aC) = true)
    (eC : PySem.W.subIn K (.ref aC) (.type "BaseException") = some true)
    (vC : PySem.W.subIn K (.ref aC) (.type "ValueError") = some true)
    (yC : PySem.W.typeIn K (.ref aC) = some (.type "type"))
    (hC : PySem.W.hasDictIn K aC = true)
    (isC : PySem.W.isClsIn K aC = true)
    (sC : PySem.W.subIn K (.ref aC) (.ref aC) = some true)
    (supC : PySem.W.ks_superIn K aC aC "__init__" = some (some (.builtin "ValueError.__init__")))
    (mroC : PySem.W.mroIn K aC (.ref aC) = some true)
    (anyC : PySem.W.nsIn K cStatics "thirdparty.any" = some none)
    (l0 : K.lookup f0 = some ⟨oc0, od0, .func (PySem.W.ksFn "__init__" "RefusedChunk.__init__" RC.rA RC.rB RC.rS .none .none dc0 pm0 an0 (.ref cda) ct0 cc), sl0⟩)
    (c0 : PySem.W.codeIn K (.ref cda) "RefusedChunk.__init__" = true)
    (lcd : K.lookup cda = some ⟨ccl, cdd, .fields vs, ccs⟩)
    (vs2 : vs[2]? = some (.str file tf))
    (fil : ((l.prog.main.file : Str) == file) = true)
    (lcc : K.lookup cc = some ⟨ccl2, cdd2, .cell (some (.ref aC)), ccs2⟩)
    (topS : (l.prog.main.scope.names.lookup ("super" : Str)).isSome = false)
    (aQe : PySem.W.nsIn K mainGlobals "QuillrunError" = some (some (.ref aQ)))
    (p_dG : He.dicW K aG = some (He.keysIn w.params (gram.map Prod.fst)))
    (p_dT : He.dicW K aT = some (He.keysIn w.params (trees.map Prod.fst)))
    (p_dS : He.dicW K aS = some (He.keysIn w.params steps))
    : ∃ fd : FuncData, (∀ (s : Shared) (v : Value), BindsTo s fd ⟨[v], []⟩ [("script", v)]) ∧ ∀ base : Heap, K.In base → base.Ns mainGlobals mg → FnOk l.prog w K mg base CX0 130 fa fd ["script"] (spLaw K) := by
  have e := hfa.symm.trans (PySem.W.mg_of X G a43)
  cases e
  have F1 := fun_mk (st := sPopped) l1 c1 k1
  have b1 := F1.binds (ps := ["values", "count"]) fun _ _ _ _ _ _ us hl => match us, hl with | [_, _], _ => rfl
  have F2 := fun_mk (st := sBeginItems) l2 c2 k2
  have b2 := F2.binds (ps := ["values"]) fun _ _ _ _ _ _ us hl => match us, hl with | [_], _ => rfl
  have F3 := fun_mk (st := sAddItem) l3 c3 k3
  have b3 := F3.binds (ps := ["values"]) fun _ _ _ _ _ _ us hl => match us, hl with | [_], _ => rfl
  have F4 := fun_mk (st := sJoinPair) l4 c4 k4
  have b4 := F4.binds (ps := ["values"]) fun _ _ _ _ _ _ us hl => match us, hl with | [_], _ => rfl
  have F5 := fun_mk (st := sJoinTriple) l5 c5 k5
  have b5 := F5.binds (ps := ["values"]) fun _ _ _ _ _ _ us hl => match us, hl with | [_], _ => rfl
  have F6 := fun_mk (st := sBuildBinary) l6 c6 k6
  have b6 := F6.binds (ps := ["values"]) fun _ _ _ _ _ _ us hl => match us, hl with | [_], _ => rfl
  have F7 := fun_mk (st := sBuildTrue) l7 c7 k7
  have b7 := F7.binds (ps := ["values"]) fun _ _ _ _ _ _ us hl => match us, hl with | [_], _ => rfl
  have F8 := fun_mk (st := sBuildFalse) l8 c8 k8
  have b8 := F8.binds (ps := ["values"]) fun _ _ _ _ _ _ us hl => match us, hl with | [_], _ => rfl
  have F9 := fun_mk (st := sKeepNothing) l9 c9 k9
  have b9 := F9.binds (ps := ["values"]) fun _ _ _ _ _ _ us hl => match us, hl with | [_], _ => rfl
  have F10 := fun_mk (st := sBeginKind) l10 c10 k10
  have b10 := F10.binds (ps := ["values"]) fun _ _ _ _ _ _ us hl => match us, hl with | [_], _ => rfl
  have F11 := fun_mk (st := sRaiseLevel) l11 c11 k11
  have b11 := F11.binds (ps := ["values"]) fun _ _ _ _ _ _ us hl => match us, hl with | [_], _ => rfl
  have F12 := fun_mk (st := sBuild) l12 c12 k12
  have b12 := F12.binds (ps := ["values", "word"]) fun _ _ _ _ _ _ us hl => match us, hl with | [_, _], _ => rfl
  have F13 := fun_mk (st := sProduction) l13 c13 k13
  have b13 := F13.binds (ps := ["symbol", "word"]) fun _ _ _ _ _ _ us hl => match us, hl with | [_, _], _ => rfl
  have F14 := fun_mk (st := sTokenize) l14 c14 k14
  have b14 := F14.binds (ps := ["chunk"]) fun _ _ _ _ _ _ us hl => match us, hl with | [_], _ => rfl
  have F15 := fun_mk (st := sTokenAt) l15 c15 k15
  have b15 := F15.binds (ps := ["chunk", "start"]) fun _ _ _ _ _ _ us hl => match us, hl with | [_, _], _ => rfl
  have F16 := fun_mk (st := sWordAt) l16 c16 k16
  have b16 := F16.binds (ps := ["chunk", "start"]) fun _ _ _ _ _ _ us hl => match us, hl with | [_, _], _ => rfl
  have F17 := fun_mk (st := sNumberAt) l17 c17 k17
  have b17 := F17.binds (ps := ["chunk", "start"]) fun _ _ _ _ _ _ us hl => match us, hl with | [_, _], _ => rfl
  have F18 := fun_mk (st := sTextAt) l18 c18 k18
  have b18 := F18.binds (ps := ["chunk", "start"]) fun _ _ _ _ _ _ us hl => match us, hl with | [_, _], _ => rfl
  have F19 := fun_mk (st := sSignAt) l19 c19 k19
  have b19 := F19.binds (ps := ["chunk", "start"]) fun _ _ _ _ _ _ us hl => match us, hl with | [_, _], _ => rfl
  have F20 := fun_mk (st := sEndOfRun) l20 c20 k20
  have b20 := F20.binds (ps := ["chunk", "start", "allowed"]) fun _ _ _ _ _ _ us hl => match us, hl with | [_, _, _], _ => rfl
  have F21 := fun_mk (st := sParts) l21 c21 k21
  have b21 := F21.binds (ps := ["e"]) fun _ _ _ _ _ _ us hl => match us, hl with | [_], _ => rfl
  have F22 := fun_mk (st := sExpressions) l22 c22 k22
  have b22 := F22.binds (ps := ["definition"]) fun _ _ _ _ _ _ us hl => match us, hl with | [_], _ => rfl
  have F23 := fun_mk (st := sKinds) l23 c23 k23
  have b23 := F23.binds (ps := ["definition"]) fun _ _ _ _ _ _ us hl => match us, hl with | [_], _ => rfl
  have F24 := fun_mk (st := sParse) l24 c24 k24
  have b24 := F24.binds (ps := ["chunk"]) fun _ _ _ _ _ _ us hl => match us, hl with | [_], _ => rfl
  have F25 := fun_mk (st := sWordOf) l25 c25 k25
  have b25 := F25.binds (ps := ["kind", "value"]) fun _ _ _ _ _ _ us hl => match us, hl with | [_, _], _ => rfl
  have F26 := fun_mk (st := sOpenedBy) l26 c26 k26
  have b26 := F26.binds (ps := ["word"]) fun _ _ _ _ _ _ us hl => match us, hl with | [_], _ => rfl
  have F27 := fun_mk (st := sTakes) l27 c27 k27
  have b27 := F27.binds (ps := ["pending", "values", "word", "value"]) fun _ _ _ _ _ _ us hl => match us, hl with | [_, _, _, _], _ => rfl
  have F28 := fun_mk (st := sSettle) l28 c28 k28
  have b28 := F28.binds (ps := ["pending", "values", "word"]) fun _ _ _ _ _ _ us hl => match us, hl with | [_, _, _], _ => rfl
  have F29 := fun_mk (st := sGoesTooDeep) l29 c29 k29
  have b29 := F29.binds (ps := ["definition"]) fun _ _ _ _ _ _ us hl => match us, hl with | [_], _ => rfl
  have F30 := fun_mk (st := sLawNext) l30 c30 k30
  have b30 := F30.binds (ps := ["state", "limit"]) fun _ _ _ _ _ _ us hl => match us, hl with | [_, _], _ => rfl
  have F31 := fun_mk (st := sLawSame) l31 c31 k31
  have b31 := F31.binds (ps := ["actual", "expected"]) fun _ _ _ _ _ _ us hl => match us, hl with | [_, _], _ => rfl
  have F32 := fun_mk (st := sLawKeywords) l32 c32 k32
  have b32 := F32.binds (ps := []) fun _ _ _ _ _ _ us hl => match us, hl with | [], _ => rfl
  have F33 := fun_mk (st := sLawWord) l33 c33 k33
  have b33 := F33.binds (ps := ["state", "first"]) fun _ _ _ _ _ _ us hl => match us, hl with | [_, _], _ => rfl
  have F34 := fun_mk (st := sLawName) l34 c34 k34
  have b34 := F34.binds (ps := ["state"]) fun _ _ _ _ _ _ us hl => match us, hl with | [_], _ => rfl
  have F35 := fun_mk (st := sLawOperator) l35 c35 k35
  have b35 := F35.binds (ps := ["state", "compared"]) fun _ _ _ _ _ _ us hl => match us, hl with | [_, _], _ => rfl
  have F36 := fun_mk (st := sLawFlat) l36 c36 k36
  have b36 := F36.binds (ps := ["state", "count"]) fun _ _ _ _ _ _ us hl => match us, hl with | [_, _], _ => rfl
  have F37 := fun_mk (st := sLawLast) l37 c37 k37
  have b37 := F37.binds (ps := ["items", "operators"]) fun _ _ _ _ _ _ us hl => match us, hl with | [_, _], _ => rfl
  have F38 := fun_mk (st := sLawSplit) l38 c38 k38
  have b38 := F38.binds (ps := ["items", "place"]) fun _ _ _ _ _ _ us hl => match us, hl with | [_, _], _ => rfl
  have F39 := fun_mk (st := sLawDivided) l39 c39 k39
  have b39 := F39.binds (ps := ["items"]) fun _ _ _ _ _ _ us hl => match us, hl with | [_], _ => rfl
  have F40 := fun_mk (st := sLawDepth) l40 c40 k40
  have b40 := F40.binds (ps := ["e"]) fun _ _ _ _ _ _ us hl => match us, hl with | [_], _ => rfl
  have F41 := fun_mk (st := sLawText) l41 c41 k41
  have b41 := F41.binds (ps := ["e"]) fun _ _ _ _ _ _ us hl => match us, hl with | [_], _ => rfl
  have F42 := fun_mk (st := sLawRead) l42 c42 k42
  have b42 := F42.binds (ps := ["chunk"]) fun _ _ _ _ _ _ us hl => match us, hl with | [_], _ => rfl
  have F43 := fun_mk (st := sLaw) l43 c43 k43
  have b43 := F43.binds (ps := ["script"]) fun _ _ _ _ _ _ us hl => match us, hl with | [_], _ => rfl
  let Z : Defs K mg :=
    { any := PySem.W.mg_none_of X G z_any,
      bool := PySem.W.mg_none_of X G z_bool,
      enumerate := PySem.W.mg_none_of X G z_enumerate,
      int := PySem.W.mg_none_of X G z_int,
      isinstance := PySem.W.mg_none_of X G z_isinstance,
      len := PySem.W.mg_none_of X G z_len,
      list := PySem.W.mg_none_of X G z_list,
      max := PySem.W.mg_none_of X G z_max,
      range := PySem.W.mg_none_of X G z_range,
      str := PySem.W.mg_none_of X G z_str,
      super := PySem.W.mg_none_of X G z_super,
      tuple := PySem.W.mg_none_of X G z_tuple,
      kBLANKS := ⟨_, PySem.W.mg_of X G g_BLANKS⟩,
      kLOWER := ⟨_, PySem.W.mg_of X G g_LOWER⟩,
      kUPPER := ⟨_, PySem.W.mg_of X G g_UPPER⟩,
      kDIGITS := ⟨_, PySem.W.mg_of X G g_DIGITS⟩,
      kWORD_CHARACTERS := ⟨_, PySem.W.mg_of X G g_WORD_CHARACTERS⟩,
      kMOST_DIGITS := ⟨_, PySem.W.mg_of X G g_MOST_DIGITS⟩,
      kMOST_TOKENS := ⟨_, PySem.W.mg_of X G g_MOST_TOKENS⟩,
      kMOST_OPEN := ⟨_, PySem.W.mg_of X G g_MOST_OPEN⟩,
      kDEEPEST := ⟨_, PySem.W.mg_of X G g_DEEPEST⟩,
      kMOST_LEVELS := ⟨_, PySem.W.mg_of X G g_MOST_LEVELS⟩,
      kEND_OF_CHUNK := ⟨_, PySem.W.mg_of X G g_END_OF_CHUNK⟩,
      fPopped := f1,
      fdPopped := _,
      DPopped := ⟨F1, b1, PySem.W.mg_of X G a1⟩,
      fBeginItems := f2,
      fdBeginItems := _,
      DBeginItems := ⟨F2, b2, PySem.W.mg_of X G a2⟩,
      fAddItem := f3,
      fdAddItem := _,
      DAddItem := ⟨F3, b3, PySem.W.mg_of X G a3⟩,
      fJoinPair := f4,
      fdJoinPair := _,
      DJoinPair := ⟨F4, b4, PySem.W.mg_of X G a4⟩,
      fJoinTriple := f5,
      fdJoinTriple := _,
      DJoinTriple := ⟨F5, b5, PySem.W.mg_of X G a5⟩,
      fBuildBinary := f6,
      fdBuildBinary := _,
      DBuildBinary := ⟨F6, b6, PySem.W.mg_of X G a6⟩,
      fBuildTrue := f7,
      fdBuildTrue := _,
      DBuildTrue := ⟨F7, b7, PySem.W.mg_of X G a7⟩,
      fBuildFalse := f8,
      fdBuildFalse := _,
      DBuildFalse := ⟨F8, b8, PySem.W.mg_of X G a8⟩,
      fKeepNothing := f9,
      fdKeepNothing := _,
      DKeepNothing := ⟨F9, b9, PySem.W.mg_of X G a9⟩,
      fBeginKind := f10,
      fdBeginKind := _,
      DBeginKind := ⟨F10, b10, PySem.W.mg_of X G a10⟩,
      fRaiseLevel := f11,
      fdRaiseLevel := _,
      DRaiseLevel := ⟨F11, b11, PySem.W.mg_of X G a11⟩,
      fBuild := f12,
      fdBuild := _,
      DBuild := ⟨F12, b12, PySem.W.mg_of X G a12⟩,
      fProduction := f13,
      fdProduction := _,
      DProduction := ⟨F13, b13, PySem.W.mg_of X G a13⟩,
      fTokenize := f14,
      fdTokenize := _,
      DTokenize := ⟨F14, b14, PySem.W.mg_of X G a14⟩,
      fTokenAt := f15,
      fdTokenAt := _,
      DTokenAt := ⟨F15, b15, PySem.W.mg_of X G a15⟩,
      fWordAt := f16,
      fdWordAt := _,
      DWordAt := ⟨F16, b16, PySem.W.mg_of X G a16⟩,
      fNumberAt := f17,
      fdNumberAt := _,
      DNumberAt := ⟨F17, b17, PySem.W.mg_of X G a17⟩,
      fTextAt := f18,
      fdTextAt := _,
      DTextAt := ⟨F18, b18, PySem.W.mg_of X G a18⟩,
      fSignAt := f19,
      fdSignAt := _,
      DSignAt := ⟨F19, b19, PySem.W.mg_of X G a19⟩,
      fEndOfRun := f20,
      fdEndOfRun := _,
      DEndOfRun := ⟨F20, b20, PySem.W.mg_of X G a20⟩,
      fParts := f21,
      fdParts := _,
      DParts := ⟨F21, b21, PySem.W.mg_of X G a21⟩,
      fExpressions := f22,
      fdExpressions := _,
      DExpressions := ⟨F22, b22, PySem.W.mg_of X G a22⟩,
      fKinds := f23,
      fdKinds := _,
      DKinds := ⟨F23, b23, PySem.W.mg_of X G a23⟩,
      fParse := f24,
      fdParse := _,
      DParse := ⟨F24, b24, PySem.W.mg_of X G a24⟩,
      fWordOf := f25,
      fdWordOf := _,
      DWordOf := ⟨F25, b25, PySem.W.mg_of X G a25⟩,
      fOpenedBy := f26,
      fdOpenedBy := _,
      DOpenedBy := ⟨F26, b26, PySem.W.mg_of X G a26⟩,
      fTakes := f27,
      fdTakes := _,
      DTakes := ⟨F27, b27, PySem.W.mg_of X G a27⟩,
      fSettle := f28,
      fdSettle := _,
      DSettle := ⟨F28, b28, PySem.W.mg_of X G a28⟩,
      fGoesTooDeep := f29,
      fdGoesTooDeep := _,
      DGoesTooDeep := ⟨F29, b29, PySem.W.mg_of X G a29⟩,
      fLawNext := f30,
      fdLawNext := _,
      DLawNext := ⟨F30, b30, PySem.W.mg_of X G a30⟩,
      fLawSame := f31,
      fdLawSame := _,
      DLawSame := ⟨F31, b31, PySem.W.mg_of X G a31⟩,
      fLawKeywords := f32,
      fdLawKeywords := _,
      DLawKeywords := ⟨F32, b32, PySem.W.mg_of X G a32⟩,
      fLawWord := f33,
      fdLawWord := _,
      DLawWord := ⟨F33, b33, PySem.W.mg_of X G a33⟩,
      fLawName := f34,
      fdLawName := _,
      DLawName := ⟨F34, b34, PySem.W.mg_of X G a34⟩,
      fLawOperator := f35,
      fdLawOperator := _,
      DLawOperator := ⟨F35, b35, PySem.W.mg_of X G a35⟩,
      fLawFlat := f36,
      fdLawFlat := _,
      DLawFlat := ⟨F36, b36, PySem.W.mg_of X G a36⟩,
      fLawLast := f37,
      fdLawLast := _,
      DLawLast := ⟨F37, b37, PySem.W.mg_of X G a37⟩,
      fLawSplit := f38,
      fdLawSplit := _,
      DLawSplit := ⟨F38, b38, PySem.W.mg_of X G a38⟩,
      fLawDivided := f39,
      fdLawDivided := _,
      DLawDivided := ⟨F39, b39, PySem.W.mg_of X G a39⟩,
      fLawDepth := f40,
      fdLawDepth := _,
      DLawDepth := ⟨F40, b40, PySem.W.mg_of X G a40⟩,
      fLawText := f41,
      fdLawText := _,
      DLawText := ⟨F41, b41, PySem.W.mg_of X G a41⟩,
      fLawRead := f42,
      fdLawRead := _,
      DLawRead := ⟨F42, b42, PySem.W.mg_of X G a42⟩,
      fLaw := fa,
      fdLaw := _,
      DLaw := ⟨F43, b43, PySem.W.mg_of X G a43⟩,
      aKEYWORDS := aKEYWORDS,
      gKEYWORDS := PySem.W.mg_of X G p_gKEYWORDS,
      sKEYWORDS := fun H => TG.sqt_tup x_KEYWORDS (by show 24 ≤ sizeLine; decide) (by repeat (first | exact .nil | refine .cons ⟨_, rfl⟩ ?_)) H,
      tKEYWORDS := fun H => .kTuple x_KEYWORDS rfl,
      aLONGSIGNS := aLONGSIGNS,
      gLONGSIGNS := PySem.W.mg_of X G p_gLONGSIGNS,
      sLONGSIGNS := fun H => TG.sqt_tup x_LONGSIGNS (by show 4 ≤ sizeLine; decide) (by repeat (first | exact .nil | refine .cons ⟨_, rfl⟩ ?_)) H,
      tLONGSIGNS := fun H => .kTuple x_LONGSIGNS rfl,
      aSHORTSIGNS := aSHORTSIGNS,
      gSHORTSIGNS := PySem.W.mg_of X G p_gSHORTSIGNS,
      sSHORTSIGNS := fun H => TG.sqt_tup x_SHORTSIGNS (by show 14 ≤ sizeLine; decide) (by repeat (first | exact .nil | refine .cons ⟨_, rfl⟩ ?_)) H,
      tSHORTSIGNS := fun H => .kTuple x_SHORTSIGNS rfl,
      aOPENING := aOPENING,
      gOPENING := PySem.W.mg_of X G p_gOPENING,
      sOPENING := fun H => TG.sqt_tup x_OPENING (by show 3 ≤ sizeLine; decide) (by repeat (first | exact .nil | refine .cons ⟨_, rfl⟩ ?_)) H,
      tOPENING := fun H => .kTuple x_OPENING rfl,
      aCLOSING := aCLOSING,
      gCLOSING := PySem.W.mg_of X G p_gCLOSING,
      sCLOSING := fun H => TG.sqt_tup x_CLOSING (by show 3 ≤ sizeLine; decide) (by repeat (first | exact .nil | refine .cons ⟨_, rfl⟩ ?_)) H,
      tCLOSING := fun H => .kTuple x_CLOSING rfl,
      aWITHVALUES := aWITHVALUES,
      gWITHVALUES := PySem.W.mg_of X G p_gWITHVALUES,
      sWITHVALUES := fun H => TG.sqt_tup x_WITHVALUES (by show 5 ≤ sizeLine; decide) (by repeat (first | exact .nil | refine .cons ⟨_, rfl⟩ ?_)) H,
      tWITHVALUES := fun H => .kTuple x_WITHVALUES rfl,
      aG := aG,
      gG := PySem.W.mg_of X G p_gaG,
      G := p_G,
      aT := aT,
      gT := PySem.W.mg_of X G p_gaT,
      Tr := p_T,
      aS := aS,
      gS := PySem.W.mg_of X G p_gaS,
      sBeginItems := p_sBeginItems,
      sAddItem := p_sAddItem,
      sJoinPair := p_sJoinPair,
      sJoinTriple := p_sJoinTriple,
      sBuildBinary := p_sBuildBinary,
      sBuildTrue := p_sBuildTrue,
      sBuildFalse := p_sBuildFalse,
      sKeepNothing := p_sKeepNothing,
      sBeginKind := p_sBeginKind,
      sRaiseLevel := p_sRaiseLevel,
      aC := aC,
      fI := f0,
      aQ := aQ }
  have R : RC.Facts l.prog K mg Z.aC Z.fI :=
    { gC := PySem.W.mg_of X G aCe, cls := ⟨nm, q, N, bs, _, sn, sub, ab, col, dd, m0, m1, m2, m3, m5, xC, by first | rfl | decide +kernel⟩, sa := sa, ga := ga, gg := gg, noN := np, iC := iC, tC := tC, kC := kC, exC := eC, veC := vC, tyC := yC, hdC := hC, te := exm_of eC isC yC sC, sup := supC, mro := mroC, any := anyC, noS := PySem.W.mg_none_of X G z_super,
      fn := ⟨_, _, _, _, _, _, _, _, _, _, _, _, _, _, _, _, _, _, l0, c0, lcd, vs2, fil, lcc⟩, top := topS }
  have RR : Rest l.prog w K mg Z := Rest.of R (He.dicW_ok p_dG) (He.dicW_ok p_dT) (He.dicW_ok p_dS)
  exact ⟨PySem.W.fnOf "law" "law" (defArgs sLaw) (defBody sLaw) (defScope sLaw) .none kV43 dc43 pm43 an43 cd43 ct43, fun s v => .of_eq rfl, fun base _ _ => ok_law Z RR⟩
end Q23
open PySem PySem.W PyProof.Rows
set_option maxHeartbeats 0 in
theorem PySem.Challenge.cw_quillrun_k23_operators_bind_holds : PySem.Challenge.rw_quillrun_k23_operators_bind.Holds := by
  w_on; o_law; k_head; (case hw => w_witness2)
  k_fill
  refine L2.walk_of (l := PySem.Challenge.rw_quillrun_k23_operators_bind) (n := 63) (k := 130) (x := "script") (CX := fun _ => L2.CX0) (sp := fun w => Q23.spLaw _) rfl (by decide) rfl ⟨rfl, by decide, by decide⟩ (fun w h Y => PySem.W.kIn_of Y) ?F (fun _ _ a ns hl _ hS => ⟨a, ns, rfl, hS, hl, fun _ => rfl⟩) (fun _ _ _ _ _ h => h)
  case F =>
    intro w mg fa h KX G hmg
    refine' Q23.all_mk KX G hmg ?a1 ?l1 ?c1 ?k1 ?a2 ?l2 ?c2 ?k2 ?a3 ?l3 ?c3 ?k3 ?a4 ?l4 ?c4 ?k4 ?a5 ?l5 ?c5 ?k5 ?a6 ?l6 ?c6 ?k6 ?a7 ?l7 ?c7 ?k7 ?a8 ?l8 ?c8 ?k8 ?a9 ?l9 ?c9 ?k9 ?a10 ?l10 ?c10 ?k10 ?a11 ?l11 ?c11 ?k11 ?a12 ?l12 ?c12 ?k12 ?a13 ?l13 ?c13 ?k13 ?a14 ?l14 ?c14 ?k14 ?a15 ?l15 ?c15 ?k15 ?a16 ?l16 ?c16 ?k16 ?a17 ?l17 ?c17 ?k17 ?a18 ?l18 ?c18 ?k18 ?a19 ?l19 ?c19 ?k19 ?a20 ?l20 ?c20 ?k20 ?a21 ?l21 ?c21 ?k21 ?a22 ?l22 ?c22 ?k22 ?a23 ?l23 ?c23 ?k23 ?a24 ?l24 ?c24 ?k24 ?a25 ?l25 ?c25 ?k25 ?a26 ?l26 ?c26 ?k26 ?a27 ?l27 ?c27 ?k27 ?a28 ?l28 ?c28 ?k28 ?a29 ?l29 ?c29 ?k29 ?a30 ?l30 ?c30 ?k30 ?a31 ?l31 ?c31 ?k31 ?a32 ?l32 ?c32 ?k32 ?a33 ?l33 ?c33 ?k33 ?a34 ?l34 ?c34 ?k34 ?a35 ?l35 ?c35 ?k35 ?a36 ?l36 ?c36 ?k36 ?a37 ?l37 ?c37 ?k37 ?a38 ?l38 ?c38 ?k38 ?a39 ?l39 ?c39 ?k39 ?a40 ?l40 ?c40 ?k40 ?a41 ?l41 ?c41 ?k41 ?a42 ?l42 ?c42 ?k42 ?a43 ?l43 ?c43 ?k43 ?z_any ?z_bool ?z_enumerate ?z_int ?z_isinstance ?z_len ?z_list ?z_max ?z_range ?z_str ?z_super ?z_tuple ?g_BLANKS ?g_LOWER ?g_UPPER ?g_DIGITS ?g_WORD_CHARACTERS ?g_MOST_DIGITS ?g_MOST_TOKENS ?g_MOST_OPEN ?g_DEEPEST ?g_MOST_LEVELS ?g_END_OF_CHUNK ?p_gKEYWORDS ?x_KEYWORDS ?p_gLONGSIGNS ?x_LONGSIGNS ?p_gSHORTSIGNS ?x_SHORTSIGNS ?p_gOPENING ?x_OPENING ?p_gCLOSING ?x_CLOSING ?p_gWITHVALUES ?x_WITHVALUES ?p_gaG ?p_G ?p_gaT ?p_T ?p_gaS ?p_sBeginItems ?p_sAddItem ?p_sJoinPair ?p_sJoinTriple ?p_sBuildBinary ?p_sBuildTrue ?p_sBuildFalse ?p_sKeepNothing ?p_sBeginKind ?p_sRaiseLevel ?aCe ?xC ?sa ?ga ?gg ?np ?iC ?tC ?kC ?eC ?vC ?yC ?hC ?isC ?sC ?supC ?mroC ?anyC ?l0 ?c0 ?lcd ?vs2 ?fil ?lcc ?topS ?aQe ?p_dG ?p_dT ?p_dS
    (case a1 => k_is)
    (case l1 => k_is)
    (case c1 => k_is)
    (case k1 => k_is)
    (case a2 => k_is)
    (case l2 => k_is)
    (case c2 => k_is)
    (case k2 => k_is)
    (case a3 => k_is)
    (case l3 => k_is)
    (case c3 => k_is)
    (case k3 => k_is)
    (case a4 => k_is)
    (case l4 => k_is)
    (case c4 => k_is)
    (case k4 => k_is)
    (case a5 => k_is)
    (case l5 => k_is)
    (case c5 => k_is)
    (case k5 => k_is)
    (case a6 => k_is)
    (case l6 => k_is)
    (case c6 => k_is)
    (case k6 => k_is)
    (case a7 => k_is)
    (case l7 => k_is)
    (case c7 => k_is)
    (case k7 => k_is)
    (case a8 => k_is)
    (case l8 => k_is)
    (case c8 => k_is)
    (case k8 => k_is)
    (case a9 => k_is)
    (case l9 => k_is)
    (case c9 => k_is)
    (case k9 => k_is)
    (case a10 => k_is)
    (case l10 => k_is)
    (case c10 => k_is)
    (case k10 => k_is)
    (case a11 => k_is)
    (case l11 => k_is)
    (case c11 => k_is)
    (case k11 => k_is)
    (case a12 => k_is)
    (case l12 => k_is)
    (case c12 => k_is)
    (case k12 => k_is)
    (case a13 => k_is)
    (case l13 => k_is)
    (case c13 => k_is)
    (case k13 => k_is)
    (case a14 => k_is)
    (case l14 => k_is)
    (case c14 => k_is)
    (case k14 => k_is)
    (case a15 => k_is)
    (case l15 => k_is)
    (case c15 => k_is)
    (case k15 => k_is)
    (case a16 => k_is)
    (case l16 => k_is)
    (case c16 => k_is)
    (case k16 => k_is)
    (case a17 => k_is)
    (case l17 => k_is)
    (case c17 => k_is)
    (case k17 => k_is)
    (case a18 => k_is)
    (case l18 => k_is)
    (case c18 => k_is)
    (case k18 => k_is)
    (case a19 => k_is)
    (case l19 => k_is)
    (case c19 => k_is)
    (case k19 => k_is)
    (case a20 => k_is)
    (case l20 => k_is)
    (case c20 => k_is)
    (case k20 => k_is)
    (case a21 => k_is)
    (case l21 => k_is)
    (case c21 => k_is)
    (case k21 => k_is)
    (case a22 => k_is)
    (case l22 => k_is)
    (case c22 => k_is)
    (case k22 => k_is)
    (case a23 => k_is)
    (case l23 => k_is)
    (case c23 => k_is)
    (case k23 => k_is)
    (case a24 => k_is)
    (case l24 => k_is)
    (case c24 => k_is)
    (case k24 => k_is)
    (case a25 => k_is)
    (case l25 => k_is)
    (case c25 => k_is)
    (case k25 => k_is)
    (case a26 => k_is)
    (case l26 => k_is)
    (case c26 => k_is)
    (case k26 => k_is)
    (case a27 => k_is)
    (case l27 => k_is)
    (case c27 => k_is)
    (case k27 => k_is)
    (case a28 => k_is)
    (case l28 => k_is)
    (case c28 => k_is)
    (case k28 => k_is)
    (case a29 => k_is)
    (case l29 => k_is)
    (case c29 => k_is)
    (case k29 => k_is)
    (case a30 => k_is)
    (case l30 => k_is)
    (case c30 => k_is)
    (case k30 => k_is)
    (case a31 => k_is)
    (case l31 => k_is)
    (case c31 => k_is)
    (case k31 => k_is)
    (case a32 => k_is)
    (case l32 => k_is)
    (case c32 => k_is)
    (case k32 => k_is)
    (case a33 => k_is)
    (case l33 => k_is)
    (case c33 => k_is)
    (case k33 => k_is)
    (case a34 => k_is)
    (case l34 => k_is)
    (case c34 => k_is)
    (case k34 => k_is)
    (case a35 => k_is)
    (case l35 => k_is)
    (case c35 => k_is)
    (case k35 => k_is)
    (case a36 => k_is)
    (case l36 => k_is)
    (case c36 => k_is)
    (case k36 => k_is)
    (case a37 => k_is)
    (case l37 => k_is)
    (case c37 => k_is)
    (case k37 => k_is)
    (case a38 => k_is)
    (case l38 => k_is)
    (case c38 => k_is)
    (case k38 => k_is)
    (case a39 => k_is)
    (case l39 => k_is)
    (case c39 => k_is)
    (case k39 => k_is)
    (case a40 => k_is)
    (case l40 => k_is)
    (case c40 => k_is)
    (case k40 => k_is)
    (case a41 => k_is)
    (case l41 => k_is)
    (case c41 => k_is)
    (case k41 => k_is)
    (case a42 => k_is)
    (case l42 => k_is)
    (case c42 => k_is)
    (case k42 => k_is)
    (case a43 => k_is)
    (case l43 => k_is)
    (case c43 => k_is)
    (case k43 => k_is)
    (case z_any => k_is)
    (case z_bool => k_is)
    (case z_enumerate => k_is)
    (case z_int => k_is)
    (case z_isinstance => k_is)
    (case z_len => k_is)
    (case z_list => k_is)
    (case z_max => k_is)
    (case z_range => k_is)
    (case z_str => k_is)
    (case z_super => k_is)
    (case z_tuple => k_is)
    (case g_BLANKS => k_is)
    (case g_LOWER => k_is)
    (case g_UPPER => k_is)
    (case g_DIGITS => k_is)
    (case g_WORD_CHARACTERS => k_is)
    (case g_MOST_DIGITS => k_is)
    (case g_MOST_TOKENS => k_is)
    (case g_MOST_OPEN => k_is)
    (case g_DEEPEST => k_is)
    (case g_MOST_LEVELS => k_is)
    (case g_END_OF_CHUNK => k_is)
    (case p_gKEYWORDS => k_is)
    (case x_KEYWORDS => k_is)
    (case p_gLONGSIGNS => k_is)
    (case x_LONGSIGNS => k_is)
    (case p_gSHORTSIGNS => k_is)
    (case x_SHORTSIGNS => k_is)
    (case p_gOPENING => k_is)
    (case x_OPENING => k_is)
    (case p_gCLOSING => k_is)
    (case x_CLOSING => k_is)
    (case p_gWITHVALUES => k_is)
    (case x_WITHVALUES => k_is)
    (case p_gaG => k_is)
    (case p_G => kernel_rfl)
    (case p_gaT => k_is)
    (case p_T => kernel_rfl)
    (case p_gaS => k_is)
    (case p_sBeginItems => k_is)
    (case p_sAddItem => k_is)
    (case p_sJoinPair => k_is)
    (case p_sJoinTriple => k_is)
    (case p_sBuildBinary => k_is)
    (case p_sBuildTrue => k_is)
    (case p_sBuildFalse => k_is)
    (case p_sKeepNothing => k_is)
    (case p_sBeginKind => k_is)
    (case p_sRaiseLevel => k_is)
    (case aCe => k_is)
    (case xC => k_is)
    (case sa => k_is)
    (case ga => k_is)
    (case gg => k_is)
    (case np => k_is)
    (case iC => k_is)
    (case tC => k_is)
    (case kC => k_is)
    (case eC => k_is)
    (case vC => k_is)
    (case yC => k_is)
    (case hC => k_is)
    (case isC => k_is)
    (case sC => k_is)
    (case supC => ks_is)
    (case mroC => k_is)
    (case anyC => k_is)
    (case l0 => k_is)
    (case c0 => k_is)
    (case lcd => k_is)
    (case vs2 => rfl)
    (case fil => first | rfl | decide +kernel)
    (case lcc => k_is)
    (case topS => first | rfl | decide +kernel)
    (case aQe => k_is)
    (case p_dG => rfl)
    (case p_dT => rfl)
    (case p_dS => rfl)
#print axioms PySem.Challenge.cw_quillrun_k23_operators_bind_holds
