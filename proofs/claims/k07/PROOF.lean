import PyProof.Rows.All
import Wide.All
import OpenK.AllK
import Wide.FinOn
import PyProof.Rows.All
import HandS.ForMost
import HandS.ForExc
import HandS.IsInst
import HandS.Codes
import HandS.Walk
import HandS.Star
import HandS.TryOnly
import HandS.ExcOwn
import HandS.Defaults
import HandS.Deep
import HandS.Comp
import HandS.DictComp
import PyProof.Draws
import HandS.Rev
import HandS.RevTup
import KE.KRevIter
import PyProof.EqAt
import PyProof.EqKinds
import PyProof.TupleCall
import PyProof.Rows.CallKwBuiltin
import PyProof.Rows.CallKw2
import KE.KLam
import KE.SortKeyHeap
import HandS.Base
import HandS.Call
import HandS.List
import HandS.Exc
import HandS.ExcValue
import HandS.OwnEq
import HandS.Lambda
import HandS.Words
import HandS.Dict
import HandS.Iter
import HandS.ListItems
import HandS.ClsMeth
import KE.KItemsList
import KE.KRevSl
import HandS.NoneIn
import HandS.More
import PyProof.P3Eq
import HandS.DictTup
import HandS.Conv
import HandS.SortOrd
import HandS.SortRule
import KE.KDictSum
import HandS.ExcIs
import HandS.Zip
import HandS.FStr
import HandS.StrMore
import HandS.SetKeys
import HandS.RaiseMore
import PyProof.AutoSeq1
import HandS.TupAny
import KE.GoesEnumKw
import KE.GoesMore
import HandS.SortKw
import KE.DataMinMax
import PyProof.DictMoreH
import HandS.EndTab
import KE.KNestM
import KE.RegKIsAll
import PySem.Challenge.RW_quillrun_k07_whole_packets_bring_deeds
set_option Elab.async false
set_option linter.all false
set_option maxRecDepth 100000
set_option maxHeartbeats 4000000
namespace HL
open PySem PySem.Spec PyProof.Rows L2 SX
/-! ## short words of my own, over the hand layer -/
theorem boot_isinstance : bootBuiltins "isinstance" = some (.builtin "isinstance") := by decide +kernel
theorem boot_bool : bootBuiltins "bool" = some (.type "bool") := by decide +kernel
theorem boot_int : bootBuiltins "int" = some (.type "int") := by decide +kernel
theorem boot_str : bootBuiltins "str" = some (.type "str") := by decide +kernel
theorem boot_tuple : bootBuiltins "tuple" = some (.type "tuple") := by decide +kernel
theorem boot_list : bootBuiltins "list" = some (.type "list") := by decide +kernel
theorem boot_dict : bootBuiltins "dict" = some (.type "dict") := by decide +kernel
/-- a def of the module: its body, its arguments, its name -/
structure DefN (K : PySem.W.Frag) (mg : Str → Option Value) (x : Str) (st : Stmt) (ps : List Str) (f : Addr) (fd : FuncData) : Prop where
  F : Fun K x x st f fd
  b : Binds K fd ps []
  g : mg x = some (.ref f)
theorem small (n : Nat) (h : n ≤ 1000000) : n ≤ sizeLine := Nat.le_trans h (by decide)
theorem same_upd {H : Hp} {p : Addr} {o : HO} (h : H p = none) : Same H (upd H p o) := fun b x e => by
  rw [upd_ne (ne_of_none e h)]
  exact e
theorem S_app (a b : List Nat) : (S a ++ S b : Str) = S (a ++ b) := S_cat a b
theorem sign_at {t : List Nat} {k : Nat} (h : k < t.length) : atI (S t).cps.toList (k : Int) = some (t.getD k 0) := by
  show atI t.toArray.toList (k : Int) = _
  refine atI_nat ?_
  simp [List.getD_eq_getElem?_getD, h]
theorem cutS_nat (t : List Nat) (a b : Nat) (h : a ≤ b) (h2 : b ≤ t.length) : cutS (S t) (some (a : Int)) (some (b : Int)) = S ((t.drop a).take (b - a)) := by
  unfold cutS
  rw [S_len, HT.sIx_nat, HT.sIx_nat]
  have e1 : min a t.length = a := by omega
  have e2 : min b t.length = b := by omega
  rw [e1, e2]
/-- ends beyond the end -/
theorem cutS_any (t : List Nat) (a b : Nat) : cutS (S t) (some (a : Int)) (some (b : Int)) = S ((t.drop a).take (b - a)) := by
  unfold cutS
  rw [S_len, HT.sIx_nat, HT.sIx_nat]
  congr 2
  show List.take _ (List.drop _ t) = _
  by_cases ha : a ≤ t.length
  · have e1 : min a t.length = a := by omega
    rw [e1]
    by_cases hb : b ≤ t.length
    · have e2 : min b t.length = b := by omega
      rw [e2]
    · have e2 : min b t.length = t.length := by omega
      rw [e2, List.take_of_length_le (by rw [List.length_drop]; omega), List.take_of_length_le (by rw [List.length_drop]; omega)]
  · have e1 : min a t.length = t.length := by omega
    rw [e1, List.drop_of_length_le (Nat.le_refl _), List.drop_of_length_le (show t.length ≤ a by omega)]
    simp
theorem joinL_nil : ∀ C : List (List Nat), TL.joinL [] C = C.flatten
  | [] => rfl
  | [c] => by simp [TL.joinL]
  | c :: d :: r => by
    show c ++ ([] ++ TL.joinL [] (d :: r)) = _
    rw [joinL_nil (d :: r)]
    simp
/-- a test whose answer is known -/
theorem iteNo {c A B : Prop} [Decidable c] (h : ¬ c) (hb : B) : if c then A else B := by
  rw [if_neg h]
  exact hb
theorem iteYes {c A B : Prop} [Decidable c] (h : c) (ha : A) : if c then A else B := by
  rw [if_pos h]
  exact ha
/-- a comprehension without a test -/
theorem lc_yes {te : TE} {σ : L2.St} {H : Hp} {R : VK} {B : Hp → Prop} (h : te σ H R) : tYes σ H (fun b H3 => if b = true then te σ H3 R else B H3) := by
  show (if true = true then te σ H R else B H)
  rw [if_pos rfl]
  exact h
/-- all but p is as it was -/
def But (H H' : Hp) (p : Addr) : Prop := ∀ b, b ≠ p → H' b = H b
theorem but_upd {H : Hp} {p : Addr} {o : HO} : But H (upd H p o) p := fun _ h => upd_ne h
theorem But.refl {H : Hp} {p : Addr} : But H H p := fun _ _ => rfl
theorem But.trans {H H1 H2 : Hp} {p : Addr} (a : But H H1 p) (b : But H1 H2 p) : But H H2 p := fun c h => (b c h).trans (a c h)
/-- all but p, and what is new, is as it was -/
def Kept (H H' : Hp) (p : Addr) : Prop := ∀ b o, b ≠ p → H b = some o → H' b = some o
theorem Kept.refl {H : Hp} {p : Addr} : Kept H H p := fun _ _ _ h => h
theorem Kept.trans {H H1 H2 : Hp} {p : Addr} (a : Kept H H1 p) (b : Kept H1 H2 p) : Kept H H2 p := fun c o n h => b c o n (a c o n h)
theorem But.kept {H H' : Hp} {p : Addr} (b : But H H' p) : Kept H H' p := fun c o n h => (b c n).trans h
theorem _root_.L2.Same.kept {H H' : Hp} (s : Same H H') (p : Addr) : Kept H H' p := fun c o _ h => s c o h
section
variable {X : Cx}
/-- a constant of the module: a text, a number -/
theorem pe_gstr {x z : Str} {pos : Pos} (hg : Gl X x) (hm : ∃ t, X.mg x = some (.str z t)) (hd : (x == ("__debug__" : Str)) = false := by decide) : PE X (.Name x pos) (tC (.str z)) := by
  obtain ⟨t, h⟩ := hm
  exact pe_glob hg h ⟨t, rfl⟩ hd
theorem pe_gint {x : Str} {i : Int} {pos : Pos} (hg : Gl X x) (hm : ∃ t, X.mg x = some (.int i t)) (hd : (x == ("__debug__" : Str)) = false := by decide) : PE X (.Name x pos) (tC (.int i)) := by
  obtain ⟨t, h⟩ := hm
  exact pe_glob hg h ⟨t, rfl⟩ hd
/-- within a comprehension -/
theorem ix_listK {K : PySem.W.Frag} (h : X.K = K) : IxR X (rIxL K) := by
  subst h
  exact ix_list
theorem ix_tupK {K : PySem.W.Frag} (h : X.K = K) : IxR X (rIxT K) := by
  subst h
  exact ix_tup
/-- o[i] of a list, for o[i] op= e -/
def rGetL (K : PySem.W.Frag) : V → V → Hp → VK → Prop := fun x y H Q => ∃ p xs i v, x = .ref p ∧ y = .int i ∧ SqL K H p xs ∧ 0 ≤ i ∧ atI xs i = some v ∧ Q v H
theorem pget_list : PGet X (rGetL X.K) := by
  intro pins s σ H x y v u Q I rx ry h
  obtain ⟨p, xs, i, z, rfl, rfl, hq, h0, he, q⟩ := h
  cases rx
  obtain ⟨t, rfl⟩ := ry
  obtain ⟨its, r, pl, hz⟩ := I.list hq
  obtain ⟨j, h1, h2, h3, h4, h5⟩ := atI_get he
  obtain ⟨w, ew, rw'⟩ := r.get h2
  have hl := r.length
  have hn := line63
  have hj : i.toNat = j := by
    rw [seqIndex_of h0 h5] at h1
    exact Option.some.inj h1
  exact wpAny_getItem_list pl.isList h0 (by omega) (by rw [hj]; simpa using ew) ⟨z, H, I, rw', q⟩
/-- isinstance(x, T), T a built-in class -/
def rIsB (K : PySem.W.Frag) : List V → Hp → VK → Prop := fun xs H Q => ∃ (x : V) (T n : String) (b : Bool), xs = [x, .ty n] ∧ TyX K H x (.type T) ∧ kitB T n = some b ∧ Q (.bl b) H
theorem call_isB : CallR X (.builtin "isinstance") (rIsB X.K) := by
  intro pins s σ H xs us Q I r h
  obtain ⟨x, T, n, b, rfl, ty, e, q⟩ := h
  exact call_isi pins s σ H _ us Q I r ⟨x, .ty n, .type T, .type n, b, rfl, .ty n, ty, kit_ty e, q⟩
/-- a text, n times -/
theorem rep_fold (z : Str) : ∀ n : Nat, ((List.replicate n z.cps).foldl (· ++ ·) (#[] : Array Nat)).toList = (List.replicate n z.cps.toList).flatten := by
  have h : ∀ (l : List (Array Nat)) (a : Array Nat), (l.foldl (· ++ ·) a).toList = a.toList ++ (l.map (·.toList)).flatten := by
    intro l
    induction l with
    | nil => intro a; simp
    | cons x l ih => intro a; rw [List.foldl_cons, ih]; simp
  intro n
  rw [h]
  simp
theorem op_mul_strR : OpR X (binaryOp .Mult) (fun x y H Q => ∃ (l : List Nat) (n : Nat), x = .str (S l) ∧ y = .int (n : Int) ∧ 2 ≤ n ∧ n ≤ 1000 ∧ 1 ≤ l.length ∧ l.length ≤ 1000 ∧ Q (.str (S (List.replicate n l).flatten)) H) := by
  intro pins s σ H x y v u Q I rx ry h
  obtain ⟨l, n, rfl, rfl, h2, h3, h4, h5, q⟩ := h
  obtain ⟨t, rfl⟩ := rx
  obtain ⟨t', rfl⟩ := ry
  have hl : (S l).length = l.length := S_len l
  have e1 : ((n : Int) == 1 || (S l).length == 0) = false := by
    rw [hl]
    have a1 : ((n : Int) == 1) = false := by simp; omega
    have a2 : (l.length == 0) = false := by simp; intro z; rw [z] at h4; simp at h4
    rw [a1, a2]; rfl
  have hsz : l.length * n ≤ 1000000 := Nat.le_trans (Nat.mul_le_mul h5 h3) (by decide)
  refine PySem.P.mul_str ?_ (fun _ _ => ?_) (fun _ _ => ?_) ?_
  · have b1 : decide ((n : Int) < -(2 ^ 63 : Int)) = false := decide_eq_false (by omega)
    have b2 : decide ((n : Int) ≥ 2 ^ 63) = false := decide_eq_false (by omega)
    rw [b1, b2]; rfl
  · rw [hl]
    have hp : (l.length : Int) * (n : Int) ≤ 1000000 := by
      have := Int.ofNat_le.mpr hsz
      rw [Int.natCast_mul] at this
      exact this
    have := Int.le_ediv_of_mul_le (show (0 : Int) < (n : Int) by omega) (show (l.length : Int) * (n : Int) ≤ 2 ^ 63 - 1 from Int.le_trans hp (by decide))
    omega
  · rw [hl]
    exact decide_eq_false (by rw [sizeLine_eq, Int.toNat_natCast]; omega)
  · rw [if_neg (by omega), if_neg (by rw [e1]; simp)]
    have ef : (⟨(List.replicate (n : Int).toNat (S l).cps).foldl (· ++ ·) #[]⟩ : Str) = S (List.replicate n l).flatten := by
      have : ((List.replicate (n : Int).toNat (S l).cps).foldl (· ++ ·) (#[] : Array Nat)) = ((List.replicate n l).flatten).toArray := by
        apply Array.ext'
        rw [rep_fold]
        simp
      rw [this]
    rw [ef]
    refine ⟨?_, .str _, H, I.tok _, ⟨_, rfl⟩, q⟩
    rw [S_len, sizeLine_eq]
    simp
    rw [Nat.mul_comm]
    omega
end
/-! ### data that are told the same: _law_same -/
/-- the type of a list or a tuple that is read -/
def IsSeq (K : PySem.W.Frag) (H : Hp) (t : String) (a : Addr) (xs : List V) : Prop := (t = "tuple" ∧ SqT K H a xs ∧ TyX K H (.ref a) (.type "tuple")) ∨ (t = "list" ∧ SqL K H a xs ∧ TyX K H (.ref a) (.type "list"))
theorem IsSeq.tup {K : PySem.W.Frag} {H : Hp} {a : Addr} {xs : List V} (h : H a = some (.tup xs)) : IsSeq K H "tuple" a xs := .inl ⟨rfl, SqT.of h, .base (.tup h)⟩
theorem IsSeq.lst {K : PySem.W.Frag} {H : Hp} {a : Addr} {xs : List V} (h : H a = some (.lst xs)) : IsSeq K H "list" a xs := .inr ⟨rfl, SqL.of h, .base (.lst h)⟩
/-- a number, a text, a truth, None -/
def Leaf : V → Prop
  | .int _ => True
  | .str _ => True
  | .bl _ => True
  | .non => True
  | _ => False
def SameD (K : PySem.W.Frag) (H : Hp) : Nat → V → V → Prop
  | 0, x, y => Leaf x ∧ x = y
  | n + 1, x, y => (Leaf x ∧ x = y) ∨ ∃ (t : String) (a b : Addr) (xs ys : List V), x = .ref a ∧ y = .ref b ∧ IsSeq K H t a xs ∧ IsSeq K H t b ys ∧ xs.length = ys.length ∧ ys.length ≤ 1000000 ∧
      ∀ (i : Nat) (u v : V), xs[i]? = some u → ys[i]? = some v → SameD K H n u v
theorem SameD.leaf {K : PySem.W.Frag} {H : Hp} {n : Nat} {x : V} (h : Leaf x) : SameD K H n x x := by
  cases n with
  | zero => exact ⟨h, rfl⟩
  | succ n => exact .inl ⟨h, rfl⟩
theorem SameD.seq {K : PySem.W.Frag} {H : Hp} {n : Nat} {t : String} {a b : Addr} {xs ys : List V} (h1 : IsSeq K H t a xs) (h2 : IsSeq K H t b ys) (hl : xs.length = ys.length) (hz : ys.length ≤ 1000000)
    (h : ∀ (i : Nat) (u v : V), xs[i]? = some u → ys[i]? = some v → SameD K H n u v) : SameD K H (n + 1) (.ref a) (.ref b) := .inr ⟨t, a, b, xs, ys, rfl, rfl, h1, h2, hl, hz, h⟩
/-- rows of leaves -/
theorem SameD.row {K : PySem.W.Frag} {H : Hp} {n : Nat} {a b : Addr} {xs : List V} (h1 : H a = some (.tup xs)) (h2 : H b = some (.tup xs)) (hz : xs.length ≤ 1000000) (h : ∀ x ∈ xs, Leaf x) : SameD K H (n + 1) (.ref a) (.ref b) :=
  .seq (.tup h1) (.tup h2) rfl hz fun i u v hu hv => by
    rw [hu] at hv
    cases hv
    exact .leaf (h u (List.mem_of_getElem? hu))
def spSame (K : PySem.W.Frag) (n : Nat) : Sp := fun vs H Q _ => ∃ x y : V, vs = [x, y] ∧ SameD K H n x y ∧ Q (.bl true) H
end HL
namespace HL
open PySem PySem.Spec PyProof.Rows L2 SX
/-- isinstance of two built-in classes -/
theorem kit_two {K : PySem.W.Frag} {T a b : String} {x y : Bool} (h1 : kitB T a = some x) (h2 : kitB T b = some y) : PySem.W.kitAny K (.type T) [.type a, .type b] = some (x || y) := by
  have e1 := kit_ty (K := K) h1
  have e2 := kit_ty (K := K) h2
  simp only [PySem.W.kitAny, e1, e2]
  cases x <;> cases y <;> rfl
theorem tyx_same {K : PySem.W.Frag} {H H' : Hp} {x : V} {t : Value} (s : Same H H') (h : TyX K H x t) : TyX K H' x t := by
  cases h with
  | base b =>
    cases b with
    | non => exact .base .non
    | bl y => exact .base (.bl y)
    | int i => exact .base (.int i)
    | str y => exact .base (.str y)
    | flt y => exact .base (.flt y)
    | lst e => exact .base (.lst (s _ _ e))
    | frz e => exact .base (.frz (s _ _ e))
    | tup e => exact .base (.tup (s _ _ e))
    | dK e => exact .base (.dK (s _ _ e))
    | dT e => exact .base (.dT (s _ _ e))
    | ins e h1 h2 h3 h4 h5 => exact .base (.ins (s _ _ e) h1 h2 h3 h4 h5)
  | byt y => exact .byt y
  | set e => exact .set (s _ _ e)
  | kList e c => exact .kList e c
  | kTuple e c => exact .kTuple e c
  | kDict e c => exact .kDict e c
  | fTuple e => exact .fTuple (s _ _ e)
  | fDict e => exact .fDict (s _ _ e)
theorem seqT_same {K : PySem.W.Frag} {H H' : Hp} {a : Addr} {xs : List V} (e : Same H H') (h : SqT K H a xs) : SqT K H' a xs := by
  rcases h with (h | ⟨o, h⟩) | h
  · exact .inl (.inl (e _ _ h))
  · exact .inl (.inr ⟨o, e _ _ h⟩)
  · exact .inr h
theorem isSeq_same {K : PySem.W.Frag} {H H' : Hp} {t : String} {a : Addr} {xs : List V} (s : Same H H') (h : IsSeq K H t a xs) : IsSeq K H' t a xs := by
  rcases h with ⟨e, h1, h2⟩ | ⟨e, h1, h2⟩
  · exact .inl ⟨e, seqT_same s h1, tyx_same s h2⟩
  · exact .inr ⟨e, s.seq h1, tyx_same s h2⟩
theorem sameD_same {K : PySem.W.Frag} {H H' : Hp} (s : Same H H') : ∀ {n : Nat} {x y : V}, SameD K H n x y → SameD K H' n x y
  | 0, x, y, h => h
  | n + 1, x, y, h => by
    rcases h with h | ⟨t, a, b, xs, ys, e1, e2, h1, h2, el, hz, hh⟩
    · exact .inl h
    · exact .inr ⟨t, a, b, xs, ys, e1, e2, isSeq_same s h1, isSeq_same s h2, el, hz, fun i u v hu hv => sameD_same s (hh i u v hu hv)⟩
/-- told the same; the heap may grow -/
def spSameG (K : PySem.W.Frag) (n : Nat) : Sp := fun vs H Q _ => ∃ x y : V, vs = [x, y] ∧ SameD K H n x y ∧ ∀ H', Same H H' → Q (.bl true) H'
end HL
namespace HL
open PySem PySem.Spec PyProof.Rows L2 SX
/-- a list or a tuple, also a locked one -/
def Seqo : HO → Prop
  | .lst _ => True
  | .tup _ => True
  | .frz _ (.lst _) => True
  | .frz _ (.tup _) => True
  | _ => False
def SeqKept (H H' : Hp) : Prop := ∀ a o, H a = some o → Seqo o → H' a = some o
theorem _root_.L2.Same.seqKept {H H' : Hp} (s : Same H H') : SeqKept H H' := fun a o h _ => s a o h
theorem SeqKept.seqT {K : PySem.W.Frag} {H H' : Hp} {a : Addr} {xs : List V} (e : SeqKept H H') (h : SqT K H a xs) : SqT K H' a xs := by
  rcases h with (h | ⟨o, h⟩) | h
  · exact .inl (.inl (e _ _ h True.intro))
  · exact .inl (.inr ⟨o, e _ _ h True.intro⟩)
  · exact .inr h
theorem SeqKept.seq {K : PySem.W.Frag} {H H' : Hp} {a : Addr} {xs : List V} (e : SeqKept H H') (h : SqL K H a xs) : SqL K H' a xs := by
  rcases h with (h | ⟨o, h⟩) | h
  · exact .inl (.inl (e _ _ h True.intro))
  · exact .inl (.inr ⟨o, e _ _ h True.intro⟩)
  · exact .inr h
theorem tyx_tup {K : PySem.W.Frag} {H H' : Hp} {x : V} {t : Value} (s : SeqKept H H') (ht : t = .type "tuple" ∨ t = .type "list") (h : TyX K H x t) : TyX K H' x t := by
  cases h with
  | base b =>
    cases b with
    | non => exact .base .non
    | bl y => exact .base (.bl y)
    | int i => exact .base (.int i)
    | str y => exact .base (.str y)
    | flt y => exact .base (.flt y)
    | lst e => exact .base (.lst (s _ _ e True.intro))
    | frz e => exact .base (.frz (s _ _ e True.intro))
    | tup e => exact .base (.tup (s _ _ e True.intro))
    | dK e => rcases ht with z | z <;> exact absurd (Value.type.inj z) (by decide)
    | dT e => rcases ht with z | z <;> exact absurd (Value.type.inj z) (by decide)
    | ins e h1 h2 h3 h4 h5 => rcases ht with z | z <;> cases z
  | byt y => exact .byt y
  | set e => rcases ht with z | z <;> exact absurd (Value.type.inj z) (by decide)
  | kList e c => exact .kList e c
  | kTuple e c => exact .kTuple e c
  | kDict e c => exact .kDict e c
  | fTuple e => exact .fTuple (s _ _ e True.intro)
  | fDict e => rcases ht with z | z <;> exact absurd (Value.type.inj z) (by decide)
theorem isSeq_kept {K : PySem.W.Frag} {H H' : Hp} {t : String} {a : Addr} {xs : List V} (s : SeqKept H H') (h : IsSeq K H t a xs) : IsSeq K H' t a xs := by
  rcases h with ⟨e, h1, h2⟩ | ⟨e, h1, h2⟩
  · exact .inl ⟨e, s.seqT h1, tyx_tup s (.inl rfl) h2⟩
  · exact .inr ⟨e, s.seq h1, tyx_tup s (.inr rfl) h2⟩
theorem sameD_kept {K : PySem.W.Frag} {H H' : Hp} (s : SeqKept H H') : ∀ {n : Nat} {x y : V}, SameD K H n x y → SameD K H' n x y
  | 0, x, y, h => h
  | n + 1, x, y, h => by
    rcases h with h | ⟨t, a, b, xs, ys, e1, e2, h1, h2, el, hz, hh⟩
    · exact .inl h
    · exact .inr ⟨t, a, b, xs, ys, e1, e2, isSeq_kept s h1, isSeq_kept s h2, el, hz, fun i u v hu hv => sameD_kept s (hh i u v hu hv)⟩
/-- a dict locked, and the way back -/
theorem seqKept_lock {H : Hp} {d : Addr} {kvs : List (Key × V)} {o : HO} (h : H d = some (.dK kvs)) : SeqKept H (upd H d o) := fun a x hx hs => by
  have ne : a ≠ d := fun e => by
    rw [e, h] at hx
    cases hx
    exact hs
  rw [upd_ne ne]
  exact hx
theorem unlock {H H' : Hp} {d : Addr} {u o : HO} (h : H d = some u) (s : Same (upd H d o) H') : Same H (upd H' d u) := fun a x hx => by
  by_cases e : a = d
  · subst e
    rw [upd_same, ← h, hx]
  · rw [upd_ne e]
    exact s a x (by rw [upd_ne e]; exact hx)
end HL
namespace HL
open PySem PySem.Spec PyProof.Rows L2 SX
/-! ### methods, classes -/
/-- a method of the class at C -/
structure DefM (K : PySem.W.Frag) (C : Addr) (x q : Str) (st : Stmt) (ps : List Str) (f : Addr) (fd : FuncData) : Prop where
  F : Fun K x q st f fd
  b : Binds K fd ps []
  m : Meth K C x f
/-- its __init__ -/
structure DefI (K : PySem.W.Frag) (q : Str) (st : Stmt) (ps : List Str) (f : Addr) (fd : FuncData) : Prop where
  F : Fun K "__init__" q st f fd
  b : Binds K fd ps []
structure ClsN (K : PySem.W.Frag) (mg : Str → Option Value) (x : Str) (C fI : Addr) : Prop where
  g : mg x = some (.ref C)
  cl : Cls K C
  make : Mk K C fI
/-- an own exception without an __init__, under ValueError -/
structure ExcN (K : PySem.W.Frag) (mg : Str → Option Value) (x : Str) (C : Addr) : Prop where
  g : mg x = some (.ref C)
  ex : PySem.W.excIn K C [.type "ValueError", .type "Exception", .type "BaseException", .type "object"] "ValueError.__new__" = true
  kp : PySem.W.keepIn K (.ref C) = true
  sub : PySem.W.subIn K (.ref C) (.type "BaseException") = some true
  ty : PySem.W.typeIn K (.ref C) = some (.type "type")
  te : PySem.W.exmOne K (.ref C) (.ref C) = some true
/-- its class is caught by its name -/
theorem exm_of {K : PySem.W.Frag} {S : Addr} (h1 : PySem.W.subIn K (.ref S) (.type "BaseException") = some true) (h2 : PySem.W.isClsIn K S = true) (h3 : PySem.W.typeIn K (.ref S) = some (.type "type")) (h4 : PySem.W.subIn K (.ref S) (.ref S) = some true) :
    PySem.W.exmOne K (.ref S) (.ref S) = some true := by
  have e1 : (PySem.W.subIn K (.ref S) (.type "BaseException") == some true) = true := by rw [h1] <;> rfl
  have e2 : ((PySem.W.clsIn K S).isSome && PySem.W.typeIn K (.ref S) == some (.type "type")) = true := by
    have h2' : (PySem.W.clsIn K S).isSome = true := h2
    rw [h2', h3] <;> rfl
  show (if (PySem.W.subIn K (.ref S) (.type "BaseException") == some true) = true then (if ((PySem.W.clsIn K S).isSome && PySem.W.typeIn K (.ref S) == some (.type "type")) = true then PySem.W.subIn K (.ref S) (.ref S) else none) else none) = some true
  rw [if_pos e1, if_pos e2]
  exact h4
/-! ### fields -/
theorem putF_nil (f : Str) (v : V) : putF f v [] = [(f, v)] := rfl
theorem putF_eq (f : Str) (v x : V) (r : List (Str × V)) : putF f v ((f, x) :: r) = (f, v) :: r := if_pos rfl
theorem putF_ne {f g : Str} (h : ¬ g = f) (v x : V) (r : List (Str × V)) : putF f v ((g, x) :: r) = (g, x) :: putF f v r := if_neg h
theorem lkF_eq (f : Str) (v : V) (r : List (Str × V)) : List.lookup f ((f, v) :: r) = some v := by
  have h : (f == f) = true := beq_iff_eq.mpr rfl
  simp only [List.lookup, h]
theorem lkF_ne {f g : Str} (h : ¬ g = f) (v : V) (r : List (Str × V)) : List.lookup g ((f, v) :: r) = List.lookup g r := by
  have h' : (g == f) = false := beq_eq_false_iff_ne.mpr h
  simp only [List.lookup, h']
/-! ### two lists, item by item -/
inductive All2 {α β : Type _} (R : α → β → Prop) : List α → List β → Prop
  | nil : All2 R [] []
  | cons {x : α} {y : β} {xs : List α} {ys : List β} : R x y → All2 R xs ys → All2 R (x :: xs) (y :: ys)
namespace All2
variable {α β γ : Type _} {R S : α → β → Prop}
theorem len {xs : List α} {ys : List β} (h : All2 R xs ys) : xs.length = ys.length := by
  induction h with
  | nil => rfl
  | cons _ _ ih => simp [ih]
theorem mono {xs : List α} {ys : List β} (h : All2 R xs ys) (f : ∀ x y, R x y → S x y) : All2 S xs ys := by
  induction h with
  | nil => exact .nil
  | cons a _ ih => exact .cons (f _ _ a) ih
theorem app {xs xs' : List α} {ys ys' : List β} (h : All2 R xs ys) (h' : All2 R xs' ys') : All2 R (xs ++ xs') (ys ++ ys') := by
  induction h with
  | nil => exact h'
  | cons a _ ih => exact .cons a ih
theorem one {x : α} {y : β} (h : R x y) : All2 R [x] [y] := .cons h .nil
theorem snoc {xs : List α} {ys : List β} {x : α} {y : β} (h : All2 R xs ys) (a : R x y) : All2 R (xs ++ [x]) (ys ++ [y]) := h.app (one a)
theorem take {xs : List α} {ys : List β} (h : All2 R xs ys) (n : Nat) : All2 R (xs.take n) (ys.take n) := by
  induction h generalizing n with
  | nil => simp; exact .nil
  | cons a _ ih =>
    cases n with
    | zero => exact .nil
    | succ n => exact .cons a (ih n)
theorem drop {xs : List α} {ys : List β} (h : All2 R xs ys) (n : Nat) : All2 R (xs.drop n) (ys.drop n) := by
  induction h generalizing n with
  | nil => simp; exact .nil
  | cons a hb ih =>
    cases n with
    | zero => exact .cons a hb
    | succ n => exact ih n
theorem get {xs : List α} {ys : List β} (h : All2 R xs ys) {i : Nat} {x : α} (e : xs[i]? = some x) : ∃ y, ys[i]? = some y ∧ R x y := by
  induction h generalizing i with
  | nil => simp at e
  | cons a _ ih =>
    cases i with
    | zero =>
      simp at e
      subst e
      exact ⟨_, rfl, a⟩
    | succ i => exact ih (by simpa using e)
theorem getR {xs : List α} {ys : List β} (h : All2 R xs ys) {i : Nat} {y : β} (e : ys[i]? = some y) : ∃ x, xs[i]? = some x ∧ R x y := by
  induction h generalizing i with
  | nil => simp at e
  | cons a _ ih =>
    cases i with
    | zero =>
      simp at e
      subst e
      exact ⟨_, rfl, a⟩
    | succ i => exact ih (by simpa using e)
theorem of_at {xs : List α} {ys : List β} (hl : xs.length = ys.length) (h : ∀ (i : Nat) (x : α) (y : β), xs[i]? = some x → ys[i]? = some y → R x y) : All2 R xs ys := by
  induction xs generalizing ys with
  | nil =>
    cases ys with
    | nil => exact .nil
    | cons _ _ => simp at hl
  | cons x xs ih =>
    cases ys with
    | nil => simp at hl
    | cons y ys => exact .cons (h 0 x y rfl rfl) (ih (by simpa using hl) fun i a b ha hb => h (i + 1) a b (by simpa using ha) (by simpa using hb))
end All2
/-- a row: at v stands a tuple of what f tells -/
def IsRow {α : Type _} (f : α → List V) (H : Hp) (v : V) (x : α) : Prop := ∃ t, v = .ref t ∧ H t = some (.tup (f x))
theorem IsRow.same {α : Type _} {f : α → List V} {H H' : Hp} {v : V} {x : α} (h : IsRow f H v x) (s : ∀ t o, H t = some (.tup o) → H' t = some (.tup o)) : IsRow f H' v x := by
  obtain ⟨t, e, ht⟩ := h
  exact ⟨t, e, s _ _ ht⟩
/-- slices with an end -/
theorem cut_to (xs : List V) (n : Nat) : cutV xs none (some (n : Int)) = xs.take n := by
  unfold cutV
  rw [HT.sIx_none, HT.sIx_nat, Nat.sub_zero, List.drop_zero]
  by_cases h : n ≤ xs.length
  · rw [Nat.min_eq_left h]
  · have h' : xs.length ≤ n := by omega
    rw [Nat.min_eq_right h', List.take_of_length_le (Nat.le_refl _), List.take_of_length_le h']
theorem cut_from (xs : List V) (n : Nat) : cutV xs (some (n : Int)) none = xs.drop n := by
  unfold cutV
  rw [HT.sIx_none, HT.sIx_nat]
  by_cases h : n ≤ xs.length
  · rw [Nat.min_eq_left h, List.take_of_length_le]
    rw [List.length_drop]
    exact Nat.le_refl _
  · have h' : xs.length ≤ n := by omega
    rw [Nat.min_eq_right h', Nat.sub_self, List.take_zero, List.drop_of_length_le h']
theorem cut_mid (xs : List V) (a b : Nat) : cutV xs (some (a : Int)) (some (b : Int)) = (xs.drop a).take (b - a) := by
  unfold cutV
  rw [HT.sIx_nat, HT.sIx_nat]
  by_cases ha : a ≤ xs.length
  · rw [Nat.min_eq_left ha]
    by_cases hb : b ≤ xs.length
    · rw [Nat.min_eq_left hb]
    · have hb' : xs.length ≤ b := by omega
      rw [Nat.min_eq_right hb', List.take_of_length_le (by rw [List.length_drop]; omega), List.take_of_length_le (by rw [List.length_drop]; omega)]
  · have ha' : xs.length ≤ a := by omega
    rw [Nat.min_eq_right ha', List.drop_of_length_le (Nat.le_refl _), List.drop_of_length_le ha']
    simp
/-- a natural number -/
def vi (n : Nat) : V := .int (n : Int)
theorem vi_inj {a b : Nat} (h : vi a = vi b) : a = b := by
  have := V.int.inj h
  omega
theorem map_vi (l : List Nat) : l.map vi = (l.map fun n : Nat => (n : Int)).map V.int := by
  rw [List.map_map]
  rfl
theorem get_vi {l : List Nat} {i : Nat} {x : V} (h : (l.map vi)[i]? = some x) : ∃ n, l[i]? = some n ∧ x = vi n := by
  rw [List.getElem?_map] at h
  cases e : l[i]? with
  | none => rw [e] at h; cases h
  | some n => rw [e] at h; exact ⟨n, rfl, (Option.some.inj h).symm⟩
theorem take_snoc {α : Type _} {l : List α} {i : Nat} {x : α} (h : l[i]? = some x) : l.take (i + 1) = l.take i ++ [x] := by
  rw [List.take_add_one, h]
  rfl
theorem same_list {K : PySem.W.Frag} {H : Hp} {n : Nat} {a b : Addr} {xs : List Nat} (h1 : H a = some (.lst (xs.map vi))) (h2 : H b = some (.lst (xs.map vi))) (hl : xs.length ≤ 1000000) : SameD K H (n + 1) (.ref a) (.ref b) :=
  .seq (.lst h1) (.lst h2) rfl (by rw [List.length_map]; omega) fun i u v hu hv => by
    rw [hu] at hv
    cases hv
    obtain ⟨k, _, rfl⟩ := get_vi hu
    exact .leaf True.intro
theorem Same.none {H H' : Hp} (s : Same H H') {b : Addr} (h : H' b = none) : H b = none := by
  cases e : H b with
  | none => rfl
  | some o => rw [s _ _ e] at h; cases h
theorem Same.tr {H H1 H2 : Hp} (a : Same H H1) (b : Same H1 H2) : Same H H2 := fun c o h => b c o (a c o h)
/-- lists of natural numbers as data -/
def di (n : Nat) : PyData := .int (n : Int)
theorem dp_vis {K : PySem.W.Frag} {H : Hp} : ∀ xs : List Nat, DpAll K H (xs.map vi) (xs.map di)
  | [] => .nil
  | n :: xs => .cons (.int (n : Int)) (dp_vis xs)
theorem dis_can : ∀ xs : List Nat, PyData.canLayAll0 (xs.map di) = true
  | [] => rfl
  | n :: xs => by
    show (true && PyData.canLayAll0 (xs.map di)) = true
    rw [dis_can xs]
    rfl
theorem dis_depth : ∀ xs : List Nat, PyData.depthAll (xs.map di) ≤ 1
  | [] => Nat.zero_le _
  | n :: xs => by
    have := dis_depth xs
    simp only [List.map_cons, PyData.depthAll, di, PyData.depth] at this ⊢
    omega
theorem shaped_ints (xs : List Nat) : SeqAt.shaped (.list (xs.map di)) = true := by
  have h1 := dis_can xs
  have h2 := dis_depth xs
  simp only [SeqAt.shaped, PyData.canLay0, PyData.depth, Bool.and_eq_true, decide_eq_true_eq]
  exact ⟨h1, decide_eq_true (by omega)⟩
theorem eqv_ints (xs ys : List Nat) : PyData.eqv (.list (xs.map di)) (.list (ys.map di)) = decide (xs = ys) := by
  have h : ∀ xs ys : List Nat, PyData.eqvAll (xs.map di) (ys.map di) = decide (xs = ys) := by
    intro xs
    induction xs with
    | nil =>
      intro ys
      cases ys with
      | nil => rfl
      | cons y ys => simp [PyData.eqvAll]
    | cons x xs ih =>
      intro ys
      cases ys with
      | nil => simp [PyData.eqvAll]
      | cons y ys =>
        show (PyData.eqv (di x) (di y) && PyData.eqvAll (xs.map di) (ys.map di)) = _
        rw [ih ys]
        by_cases e : x = y
        · subst e
          simp [PyData.eqv, di]
        · have h' : ¬ (x : Int) = (y : Int) := by omega
          simp [PyData.eqv, di, e, h']
  show PyData.eqvAll (xs.map di) (ys.map di) = _
  exact h xs ys
theorem dp_list {K : PySem.W.Frag} {H : Hp} {a : Addr} {xs : List Nat} (h : H a = some (.lst (xs.map vi))) : Dp K H (.ref a) (.list (xs.map di)) := .lst (SqL.of h) (dp_vis xs)
end HL
namespace HX
open PySem PySem.Spec PyProof.Rows L2 SX HL
section
variable {Y : Cx} {cx : CXT} {n : Nat} {g cl : Addr} {gd : FuncData} {qs : List Str} {pr : Sp} {Ex : L2.St → XK} {nm : Str} {p0 q0 r0 : Pos} {a0 o0 : Expr} {as : List Expr} {to_ : TE} {ar : TA}
/-- a method called where what it lets out is wanted by the slots -/
def tMethS (cl : Addr) (nm : Str) (pr : Sp) (Ex : L2.St → XK) (to_ : TE) (ar : TA) : TE := fun σ H Q => to_ σ H fun x H1 => ∃ a dx fs, x = .ref a ∧ H1 a = some (.ins cl dx fs) ∧ fs.lookup nm = none ∧
  ar σ H1 fun vs H2 => pr (x :: vs) H2 Q (Ex σ)
theorem pe_methS1 {pl : Sem Bool} (ho : PE Y o0 to_) (cc : Cls Y.K cl) (mm : Meth Y.K cl nm g) (G : FnOk Y.prog Y.w Y.K Y.mg Y.base cx n g gd qs pr) (room : Room n Y.A) (bb : Binds Y.K gd qs []) (hx : ∀ σ, PassesAt cx Y σ (Ex σ)) (ha : PA Y (a0 :: as) ar)
    (hst : starEach (a0 :: as) Y.env = (false, eval a0 Y.env) :: starEach as Y.env := by rfl) (hpl : (backTo p0 (starEach as Y.env)).any (·.1) = false := by rfl)
    (ht : eval (.Call (.Attribute o0 nm r0) (a0 :: as) [] p0) Y.env = (do
      let ob ← eval o0 Y.env
      standAt r0.atName
      let (fn, fst) ← holding [ob] (getMethod ob nm pl)
      callWith p0 fn fst (backTo p0 (starEach (a0 :: as) Y.env)) (backToKw p0 (keywordEach [] Y.env))) := by rfl) :
    PE Y (.Call (.Attribute o0 nm r0) (a0 :: as) [] p0) (tMethS cl nm pr Ex to_ ar) := by
  refine ⟨fun pins s σ H Q I0 h0 => PySem.W.methodCall_KW (pl := pl) (thn (ho.run pins s σ H _ I0 h0) fun u s1 ⟨x, H1, I1, rx, a, dx, fs, ex, ea, l, q⟩ => ?_) ht⟩
  subst ex
  obtain rfl : u = Value.ref a := rx
  refine getmeth_ok I1 ea cc mm l (PySem.W.callWith_K (first := [.ref a]) (h₀ := Y.base) I1.ok.mod.kin mm.kp (thn (ha.run p0 pins s1 σ H1 _ I1 q) fun us s2 ⟨vs, H2, I2, r, q2⟩ => ⟨I2.kIn, ?_⟩) hst hpl)
  exact run_fnS (us := .ref a :: us) (vs := .ref a :: vs) G room bb (hx σ) I2 (.cons rfl r) q2
theorem pe_methS0 {pl : Sem Bool} (ho : PE Y o0 to_) (cc : Cls Y.K cl) (mm : Meth Y.K cl nm g) (G : FnOk Y.prog Y.w Y.K Y.mg Y.base cx n g gd qs pr) (room : Room n Y.A) (bb : Binds Y.K gd qs []) (hx : ∀ σ, PassesAt cx Y σ (Ex σ))
    (ht : eval (.Call (.Attribute o0 nm r0) [] [] p0) Y.env = (do
      let ob ← eval o0 Y.env
      standAt r0.atName
      let (fn, fst) ← holding [ob] (getMethod ob nm pl)
      callWith p0 fn fst (backTo p0 (starEach [] Y.env)) (backToKw p0 (keywordEach [] Y.env))) := by rfl) :
    PE Y (.Call (.Attribute o0 nm r0) [] [] p0) (tMethS cl nm pr Ex to_ tNil) := by
  refine ⟨fun pins s σ H Q I0 h0 => PySem.W.methodCall_KW (pl := pl) (thn (ho.run pins s σ H _ I0 h0) fun u s1 ⟨x, H1, I1, rx, a, dx, fs, ex, ea, l, q⟩ => ?_) ht⟩
  subst ex
  obtain rfl : u = Value.ref a := rx
  exact getmeth_ok I1 ea cc mm l (PySem.W.callWith_K0 (first := [.ref a]) I1.kIn mm.kp (run_fnS (us := [.ref a]) (vs := [.ref a]) G room bb (hx σ) I1 (.cons rfl .nil) q))
theorem pe_callS0 (G : FnOk Y.prog Y.w Y.K Y.mg Y.base cx n g gd qs pr) (room : Room n Y.A) (hg : Gl Y nm) (hm : Y.mg nm = some (.ref g)) (hk : PySem.W.keepIn Y.K (.ref g) = true) (bb : Binds Y.K gd qs []) (hx : ∀ σ, PassesAt cx Y σ (Ex σ))
    (hdb : (nm == ("__debug__" : Str)) = false := by decide) : PE Y (.Call (.Name nm q0) [] [] p0) (tCallS pr Ex tNil) := by
  refine ⟨fun pins s σ H Q I0 h0 => wpAny_Call_Name_kw (ld_glob I0 hg hm ?_ hdb)⟩
  exact PySem.W.callWith_K0 I0.kIn hk (run_fnS (us := []) G room bb (hx σ) I0 .nil h0)
end
end HX
namespace HX
open PySem PySem.Spec PyProof.Rows L2 SX HL
theorem bd_full {K : PySem.W.Frag} {fd : FuncData} {ps : List Str} (h : ∃ ds, Vals [] ds ∧ Binds K fd ps ds) : Binds K fd ps [] := by
  obtain ⟨ds, v, b⟩ := h
  cases v
  exact b
/-- a method whose last parameters have defaults -/
structure DefMD (K : PySem.W.Frag) (C : Addr) (x q : Str) (st : Stmt) (ps : List Str) (dvs : List V) (f : Addr) (fd : FuncData) : Prop where
  F : FunD K x q (defArgs st) (defBody st) (defScope st) dvs [] f fd
  m : Meth K C x f
  bd : ∃ ds, Vals dvs ds ∧ Binds K fd ps ds
  b : Binds K fd ps []
end HX
namespace HX
open PySem PySem.Spec PyProof.Rows L2 SX HL
/-! ### rules within comprehensions: K is told -/
section
variable {X : Cx} {K : PySem.W.Frag}
theorem call_len_seqK (h : X.K = K) : CallR X (.builtin "len") (fun xs H Q => ∃ p ys, xs = [.ref p] ∧ (SqL K H p ys ∨ SqT K H p ys) ∧ Q (.int ys.length) H) := by
  subst h
  exact call_len_seq
theorem op_eqDK (h : X.K = K) (hu : X.A.units + 64 < cLine) : OpR X (compareOp .Eq) (rEqD K) := by
  subst h
  exact op_eqD hu
theorem op_neDK (h : X.K = K) (hu : X.A.units + 64 < cLine) : OpR X (compareOp .NotEq) (rNeD K) := by
  subst h
  exact op_neD hu
theorem sl_listK (h : X.K = K) : SlR X (rSlL K) := by
  subst h
  exact sl_list
theorem ix_seqK (h : X.K = K) : IxR X (rIx K) := by
  subst h
  exact ix_seq
theorem op_inDK (h : X.K = K) (hu : X.A.units + 65 < cLine) : OpR X (compareOp .In) (rInD K) := by
  subst h
  exact op_inD hu
theorem op_notInDK (h : X.K = K) (hu : X.A.units + 65 < cLine) : OpR X (compareOp .NotIn) (rNotInD K) := by
  subst h
  exact op_notInD hu
theorem call_list_ofK (h : X.K = K) : CallR X (.type "list") (fun xs H Q => ∃ p ys, xs = [.ref p] ∧ (SqL K H p ys ∨ SqT K H p ys) ∧ ∀ l, H l = none → Q (.ref l) (upd H l (.lst ys))) := by
  subst h
  exact call_list_of
theorem call_isBK (h : X.K = K) : CallR X (.builtin "isinstance") (rIsB K) := by
  subst h
  exact call_isB
end
end HX
namespace HE
open PySem PySem.Spec PyProof.Rows L2 SX HL
/-! ## enumerate of a text, of a dict's keys -/
section
variable {prog : Program} {w : World} {A : Around} {E : Value → Shared → Prop} {s : Shared}
theorem keys_item {it d : Addr} {i n ep : Nat} {od : Obj} {es : Array DictEntry} {en : DictEntry} {Q : Value → Shared → Prop} (hit : s.heap.IsKeyIter it d i n ep) (hod : s.heap.get? d = some od) (hdd : od.data = .dict es ep) (hn : es.size = n) (hx : es[i]? = some en)
    (q : ∀ h', h'.IsKeyIter it d (i + 1) n ep → Heap.SameBut it s.heap h' → Q en.key { s with heap := h' }) : wpAny (model prog w) A (Builtin.SmallTypes.nextOf (.ref it)) Q E s := by
  obtain ⟨o, ho, oc, hd⟩ := id hit
  unfold Builtin.SmallTypes.nextOf
  refine wpAny_bind (wpAny_callSpecial?_slot (name := Str.ofString "__next__") hit.typeIs F.slot_dict_keyiterator_next (wpAny_call_entry F.slot_dict_keyiterator_next hit.typeIs F.entry_dict_keyiterator_next ?_ (F.args_dict_keyiterator_next_1 _)))
  refine wpAny_bind (wpAny_pure (wpAny_bind (wpAny_bind ?_)))
  first | refine wpAny_bind (wpAny_typeNameOfWhole_keyiter hit.typeIs (wpAny_pure (wpAny_bind (wpAny_fieldsOf ho hd ?_)))) | refine wpAny_bind (wpAny_typeNameOf_keyiter hit.typeIs (wpAny_pure (wpAny_bind (wpAny_fieldsOf ho hd ?_))))
  have own : Builtin.Dict_items.ownsTuple "dict_keyiterator" = false := by decide
  simp only [own, Bool.false_eq_true, if_false]
  show wpAny _ A.in1 (if (Value.ref d == Value.none) = true then _ else _) _ _ s
  rw [if_neg (show ¬ (Value.ref d == Value.none) = true from Bool.false_ne_true)]; refine wpAny_bind (wpAny_pure (wpAny_bind (wpAny_dictEntries hod hdd ?_)))
  rw [if_neg (by rw [hn]; simp)]; refine wpAny_bind (wpAny_pure (wpAny_bind (wpAny_dictEpoch hod hdd ?_)))
  rw [if_neg (by simp)]; refine wpAny_pure ?_
  obtain ⟨lt, he⟩ := Array.getElem?_eq_some_iff.mp hx
  simp only [show ¬ ((i : Int) < 0) from by omega, if_false, Int.toNat_natCast, Array.getElem?_eq_getElem lt]; refine wpAny_bind ?_
  first | refine wpAny_bind (wpAny_typeNameOfWhole_keyiter hit.typeIs (wpAny_pure (wpAny_bind (wpAny_isOneOf_keyiter hit.typeIs ?_)))) | refine wpAny_bind (wpAny_typeNameOf_keyiter hit.typeIs (wpAny_pure (wpAny_bind (wpAny_isOneOf_keyiter hit.typeIs ?_))))
  show wpAny _ _ (setField (.ref it) 1 (rawInt ((i : Int) + 1)) >>= _) _ _ s
  refine wpAny_bind (wpAny_setField ho hd (by simp) ?_)
  have it2 : (s.heap.update it (Obj.mapFields (·.setIfInBounds 1 (rawInt ((i : Int) + 1))))).IsKeyIter it d (i + 1) n ep := ⟨_, Heap.get?_update_self _ ho (Obj.isFreed_of_fields (Obj.data_mapFields hd _)), (Obj.cls_mapFields ..).trans oc, by rw [Obj.data_mapFields hd]; simp [rawInt]⟩
  refine wpAny_bind (wpAny_holding (wpAny_bind (wpAny_isOneOf_keyiter (s := { s with heap := s.heap.update it (Obj.mapFields (·.setIfInBounds 1 (rawInt ((i : Int) + 1)))) }) it2.typeIs ?_)))
  show wpAny _ A.in1 (pure es[i].key) _ _ _
  rw [he]; exact wpAny_pure (wpAny_pure ⟨_, rfl, wpAny_pure (q _ it2 (Heap.SameBut.update ..))⟩)
theorem keys_end {it d : Addr} {i n ep : Nat} {od : Obj} {es : Array DictEntry} {Q : Value → Shared → Prop} (hh : A.handled = none) (hit : s.heap.IsKeyIter it d i n ep) (hod : s.heap.get? d = some od) (hdd : od.data = .dict es ep) (hn : es.size = n) (hge : n ≤ i)
    (q : ∀ h' x, Heap.ExtBut it s.heap h' → (∃ o, h'.get? x = some o ∧ o.cls = .type "StopIteration") → E (.ref x) { s with heap := h' }) : wpAny (model prog w) A (Builtin.SmallTypes.nextOf (.ref it)) Q E s := by
  obtain ⟨o, ho, oc, hd⟩ := id hit
  unfold Builtin.SmallTypes.nextOf
  refine wpAny_bind (wpAny_callSpecial?_slot (name := Str.ofString "__next__") hit.typeIs F.slot_dict_keyiterator_next (wpAny_call_entry F.slot_dict_keyiterator_next hit.typeIs F.entry_dict_keyiterator_next ?_ (F.args_dict_keyiterator_next_1 _)))
  refine wpAny_bind (wpAny_pure (wpAny_bind (wpAny_bind ?_)))
  first | refine wpAny_bind (wpAny_typeNameOfWhole_keyiter hit.typeIs (wpAny_pure (wpAny_bind (wpAny_fieldsOf ho hd ?_)))) | refine wpAny_bind (wpAny_typeNameOf_keyiter hit.typeIs (wpAny_pure (wpAny_bind (wpAny_fieldsOf ho hd ?_))))
  have own : Builtin.Dict_items.ownsTuple "dict_keyiterator" = false := by decide
  simp only [own, Bool.false_eq_true, if_false]
  show wpAny _ A.in1 (if (Value.ref d == Value.none) = true then _ else _) _ _ s
  rw [if_neg (show ¬ (Value.ref d == Value.none) = true from Bool.false_ne_true)]; refine wpAny_bind (wpAny_pure (wpAny_bind (wpAny_dictEntries hod hdd ?_)))
  rw [if_neg (by rw [hn]; simp)]; refine wpAny_bind (wpAny_pure (wpAny_bind (wpAny_dictEpoch hod hdd ?_)))
  rw [if_neg (by simp)]; refine wpAny_pure ?_
  have ge : es.size ≤ i := by rw [hn]; exact hge
  simp only [show ¬ ((i : Int) < 0) from by omega, if_false, Int.toNat_natCast, Array.getElem?_eq_none ge]; refine wpAny_bind ?_
  first | refine wpAny_bind (wpAny_typeNameOfWhole_keyiter hit.typeIs (wpAny_pure ?_)) | refine wpAny_bind (wpAny_typeNameOf_keyiter hit.typeIs (wpAny_pure ?_))
  show wpAny _ A.in1 (setField (.ref it) 0 .none >>= _) _ _ s
  refine wpAny_bind (wpAny_setField ho hd (by simp) ?_)
  show wpAny _ A.in1 (newExc (.type "StopIteration") [] >>= _) _ _ _
  refine wpAny_bind ?_
  simp only [newExc, newTuple]; refine wpAny_bind (wpAny_newObj_type ?_ (by size_fits))
  refine wpAny_bind (m := firstArgMember _ _) (wpAny_of_eq (a := Value.none) (by first | rfl | (simp only [firstArgMember]; rfl)) (wpAny_newObj_type ?_ (by size_fits)))
  simp only [raiseNew]; refine wpAny_bind (wpAny_handled ?_)
  first | rw [show A.in1.handled = none from hh] | rw [hh]
  refine wpAny_bind (wpAny_pure (wpAny_throw ?_))
  exact q _ _ (((Heap.SameBut.update ..).extBut.push _).push _) ⟨_, Heap.get?_push_size _ rfl, rfl⟩
theorem draws_keys (hh : A.handled = none) (it d : Addr) (hne : d ≠ it) {od : Obj} {es : Array DictEntry} {ep : Nat} (hdd : od.data = .dict es ep) :
    Draws prog w A it [it, d] es.size (fun i v => ∃ en, es[i]? = some en ∧ v = en.key) (fun i h => h.IsKeyIter it d i es.size ep ∧ h.get? d = some od) where
  live := fun _ _ st => let ⟨o, ho, _⟩ := st.1; ⟨o, ho⟩
  frame := fun _ _ _ st k => ⟨st.1.at fun o e => k it (by simp) o e, k d (by simp) _ st.2⟩
  item := fun i s Q E hi st q => by
    refine keys_item st.1 st.2 hdd rfl (en := es[i]) (Array.getElem?_eq_getElem hi) fun h' it' sb => ?_
    exact q _ h' s.toks ⟨_, Array.getElem?_eq_getElem hi, rfl⟩ ⟨it', (sb.2 d hne).trans st.2⟩ sb
  done := fun s Q E st q => keys_end hh st.1 st.2 hdd rfl (Nat.le_refl _) q
end
open AutoSeq1 (wpAny_loadPart')
theorem meets_keys (d : Addr) (o : Obj) (es : Array DictEntry) (ep : Nat) (hd : (d == sysModules) = false) (hc : o.ExactDict) (hdat : o.data = .dict es ep) :
    Meets (Builtin.«enumerate.__new__» ⟨[.type "enumerate", .ref d], []⟩) (fun _ R s => s.heap.get? d = some o ∧
      R (.ok (.ret (.ref (s.heap.push { cls := .type "dict_keyiterator", data := .fields #[.ref d, .int 0 0, .int es.size 0, .int ep 0] }).objs.size)))
        { s with heap := (s.heap.push { cls := .type "dict_keyiterator", data := .fields #[.ref d, .int 0 0, .int es.size 0, .int ep 0] }).push { cls := .type "enumerate", data := .fields #[.none, .bool false, .ref s.heap.objs.size, rawInt 0, .none, .none] } }) :=
  .of_wp fun prog w A R s h => by
    obtain ⟨hp, g, dr, tk, os⟩ := s
    obtain ⟨ho, h⟩ := h
    have hsub := sub_enumerate
    have ik : ∀ {A : Around} {E : Value → Shared → Prop} {Q : Value → Shared → Prop}, Q (.ref hp.objs.size) ⟨hp.push { cls := .type "dict_keyiterator", data := .fields #[.ref d, .int 0 0, .int es.size 0, .int ep 0] }, g, dr, tk, os⟩ → wpAny (model prog w) A (pyIter (.ref d)) Q E ⟨hp, g, dr, tk, os⟩ := fun q => iter_keys (s := ⟨hp, g, dr, tk, os⟩) hd ho hc hdat q
    wp_walk using wpAny_loadPart' ho
    refine wpAny_stack_any fun st => wpAny_pure ?_
    split
    · rename_i c _ _ _ _ _
      cases (c == Value.type "enumerate") <;> (wp_walk using wpAny_loadPart' ho, ik; exact ⟨_, rfl, h⟩)
    · wp_walk using wpAny_loadPart' ho, ik
      exact ⟨_, rfl, h⟩
theorem call_enum_keys {prog : Program} {w : World} {A : Around} {E : Value → Shared → Prop} {s : Shared} {d : Addr} {o : Obj} {es : Array DictEntry} {ep : Nat} {Q : Value → Shared → Prop} (hd : (d == sysModules) = false) (ho : s.heap.get? d = some o) (hc : o.ExactDict) (hdat : o.data = .dict es ep)
    (q : ∀ h', IsEnum h' (s.heap.objs.size + 1) s.heap.objs.size 0 .none → h'.IsKeyIter s.heap.objs.size d 0 es.size ep → (∀ b x, s.heap.get? b = some x → h'.get? b = some x) → Q (.ref (s.heap.objs.size + 1)) { s with heap := h' }) :
    wpAny (model prog w) A (call (.type "enumerate") [.ref d]) Q E s := by
  refine callType_new F.called_enumerate (by decide) (F.typeCall_enumerate_1 _) (F.newCall_enumerate_1 _) (fun obj => F.args_object_init_2 obj _) F.entry_enumerate_new (meets_keys d o es ep hd hc hdat) ⟨ho, ?_⟩
  have hz : (s.heap.push { cls := .type "dict_keyiterator", data := .fields #[.ref d, .int 0 0, .int es.size 0, .int ep 0] }).objs.size = s.heap.objs.size + 1 := Heap.size_push ..
  show _ ∧ _
  rw [hz]
  have he : IsEnum ((s.heap.push { cls := .type "dict_keyiterator", data := .fields #[.ref d, .int 0 0, .int es.size 0, .int ep 0] }).push { cls := .type "enumerate", data := .fields #[.none, .bool false, .ref s.heap.objs.size, rawInt 0, .none, .none] }) (s.heap.objs.size + 1) s.heap.objs.size 0 .none := by
    have := Heap.get?_push_size (s.heap.push { cls := .type "dict_keyiterator", data := .fields #[.ref d, .int 0 0, .int es.size 0, .int ep 0] }) (o := { cls := .type "enumerate", data := .fields #[.none, .bool false, .ref s.heap.objs.size, rawInt 0, .none, .none] }) rfl
    rwa [hz] at this
  exact ⟨⟨_, he, rfl⟩, q _ he ⟨_, Heap.get?_push_of_some _ (Heap.get?_push_size _ rfl), rfl, rfl⟩ fun b x e => Heap.get?_push_of_some _ (Heap.get?_push_of_some _ e)⟩
/-- (0, key), (1, key), ..: the locked dict at d -/
def Itek (d : Addr) (o : Obj) (kvs : List (Key × V)) : It :=
  ⟨fun i H => H d = some (.frz o (.dK kvs)) ∧ i < kvs.length, fun i H v H' => ∃ T k x, kvs[i]? = some (k, x) ∧ v = .ref T ∧ H T = none ∧ H' = upd H T (.tup [.int (i : Nat), kV k]), fun i H => H d = some (.frz o (.dK kvs)) ∧ kvs.length ≤ i⟩
theorem turn_enumK {P : Program} {w : World} {K : PySem.W.Frag} {elts : List Expr} {kk : Nat} {tpos : Pos} {d : Addr} {o : Obj} {kvs : List (Key × V)} {es : Array DictEntry} {ep : Nat} (e it : Addr) (hod : o.data = .dict es ep) :
    Turn P w K (.Tuple elts kk tpos) (Itek d o kvs) [e, it] e (fun i h => (∃ old, IsEnum h e it ((i : Nat) : Int) old) ∧ h.IsKeyIter it d i kvs.length ep ∧ e ≠ it ∧ i ≤ kvs.length) where
  mem := by simp
  obj := fun i h st b hb => by
    obtain ⟨⟨old, he⟩, ⟨o', ho, hc, hd⟩, _⟩ := st
    rcases (show b = e ∨ b = it by simpa using hb) with z | z
    · rw [z]; exact ⟨_, he, fun v q => nomatch q⟩
    · rw [z]; exact ⟨o', ho, fun v q => by rw [hd] at q; cases q⟩
  keep := fun i h h' st k => let ⟨⟨old, he⟩, hi, hne, hle⟩ := st; ⟨⟨old, k e (by simp) _ he⟩, hi.at fun o q => k it (by simp) o q, hne, hle⟩
  item := by
    intro X hP hw hK hc i pins s σ H E I hf st hg
    subst hP hw hK
    obtain ⟨⟨old, he⟩, hit, hne, hle⟩ := st
    obtain ⟨hd, hi⟩ := hg
    obtain ⟨hs, hgd, hx, es', ep', vs, hdt, hsz, kv, hm⟩ := I.frzK hd
    obtain ⟨rfl, rfl⟩ := dict_ep hod hdt
    have hel : e < s.heap.objs.size := Heap.lt_size he
    have hil : it < s.heap.objs.size := by obtain ⟨_, q, _⟩ := hit; exact Heap.lt_size q
    have nd : ∀ b, FpOk X pins H b → d ≠ b := fun b hb z => by rw [← z] at hb; have := hb.1; rw [hd] at this; cases this
    have ndi := nd it (hf it (by simp))
    have nde := nd e (hf e (by simp))
    obtain ⟨⟨k, v⟩, hkv⟩ : ∃ p, kvs[i]? = some p := ⟨kvs[i], List.getElem?_eq_getElem hi⟩
    have D := draws_keys (prog := X.prog) (w := X.w) (A := X.A.in1) (I.ok.hd hc) it d ndi hdt
    rw [← hsz] at hit hi
    refine wpAny_pyNext_enum_itemD D he ⟨hit, hgd⟩ hi hne (by simp [hne, nde.symm]) fun x h' tk hP ho st' hT hsz' hk => ?_
    obtain ⟨en, hen, rfl⟩ := hP
    refine ⟨_, rfl, wpAny_letOwnedTupleGo_enum (s := { s with heap := h', toks := tk + 1 }) ho fun h'' he' sb => ?_⟩
    have hT2 : h''.get? s.heap.objs.size = some { cls := .type "tuple", data := .seq #[.int i tk, en.key] } := (sb.2 _ (Nat.ne_of_gt hel)).trans hT
    have rk : RelV (kV k) en.key := by
      obtain ⟨u, hu, _⟩ := kv_get kv hkv
      obtain ⟨od, es2, hod2, hcd, hdd, hks, hp, hnn⟩ := id hm
      rw [hgd] at hod2
      cases hod2
      rw [hdt] at hdd
      cases hdd
      exact relV_key (hp.get? (by simpa using hen) hu).1
    have new : ObjOk X.prog X.w (upd H s.heap.objs.size (.tup [.int (i : Nat), kV k])) h'' s.heap.objs.size (.tup [.int (i : Nat), kV k]) :=
      ⟨by show 2 ≤ sizeLine; decide, [.int i tk, en.key], .cons ⟨_, rfl⟩ (.cons rk .nil), ⟨_, hT2, rfl, _, rfl⟩⟩
    have I1 : Inv X pins σ (upd H s.heap.objs.size (.tup [.int (i : Nat), kV k])) { s with heap := h'', toks := tk + 1 } :=
      I.turnedNew (ch := [e, it]) (fun b ob hb q => (sb.2 b (fun z => hb (by simp [z]))).trans (hk b ob (fun z => hb (by simp [z])) (fun z => hb (by simp [z])) q)) hf (Nat.le_refl _) new
    refine ⟨.ref s.heap.objs.size, _, I1, rfl, ⟨_, k, v, hkv, rfl, I.hok.fresh (Nat.le_refl _), rfl⟩, ⟨⟨en.key, ?_⟩, ?_, hne, by omega⟩, fun b hb => ?_⟩
    · have e1 : ((i + 1 : Nat) : Int) = (i : Int) + 1 := by omega
      rw [e1]; exact he'
    · rw [← hsz]
      exact st'.1.at fun o q => (sb.2 it (Ne.symm hne)).trans q
    · have hb' : b < s.heap.objs.size := by
        rcases (show b = e ∨ b = it by simpa using hb) with z | z
        · rw [z]; exact hel
        · rw [z]; exact hil
      rw [upd_ne (Nat.ne_of_lt hb')]
      exact (hf b hb).1
  done := by
    intro X hP hw hK hc i pins s σ H E I hf st hg
    subst hP hw hK
    obtain ⟨⟨old, he⟩, hit, hne, hle⟩ := st
    obtain ⟨hd, hi⟩ := hg
    obtain ⟨hs, hgd, hx, es', ep', vs, hdt, hsz, kv, hm⟩ := I.frzK hd
    obtain ⟨rfl, rfl⟩ := dict_ep hod hdt
    obtain ⟨f0, f1, f2, f3, f4, f5⟩ := hf it (by simp)
    have nd : d ≠ it := fun z => by rw [← z, hd] at f0; cases f0
    have nde : d ≠ e := fun z => by have := (hf e (by simp)).1; rw [← z, hd] at this; cases this
    have ei : i = es'.size := by omega
    have D := draws_keys (prog := X.prog) (w := X.w) (A := X.A.in1) (I.ok.hd hc) it d nd hdt
    rw [← hsz, ei] at hit
    rw [ei] at he
    exact wpAny_pyNext_enum_endD D he ⟨hit, hgd⟩ fun h' eb => ⟨rfl, I.turned (t' := s.toks) (fun b o hb q => eb b o hb q) f0 f1 f3 f4 f5⟩
  self := fun A i s Q E st h => let ⟨⟨_, he⟩, _⟩ := st; wpAny_pyIter_enum he h
def iEnumK (ta : TA) : TI := fun σ H R => ta σ H fun vs H1 => ∃ d o kvs, vs = [.ref d] ∧ H1 d = some (.frz o (.dK kvs)) ∧ R (Itek d o kvs) H1
/-- for i, k in enumerate(d), d locked -/
theorem pi_enumK {X : Cx} {e : Expr} {ta : TA} {p pos tpos : Pos} {elts : List Expr} {kk : Nat} (hg : Gl X "enumerate") (hm : X.mg "enumerate" = none) (ha : PA X [e] ta) (hs : starEach [e] X.env = [(false, eval e X.env)] := by rfl) :
    PI X (.Tuple elts kk tpos) (.Call (.Name "enumerate" p) [e] [] pos) (iEnumK ta) := by
  refine ⟨fun pins s σ H R I h => Call_ (ld_blt I hg hm boot_enumerate (PyProof.Rows.callWith_type1 (thn (ha.run pos pins s σ H _ I h) fun us s1 ⟨vs, H1, I1, r1, q1⟩ => ?_) hs rfl))⟩
  obtain ⟨d, o, kvs, ex, hd, q⟩ := q1
  subst ex
  cases r1 with
  | cons r rr =>
    cases rr
    cases r
    obtain ⟨hsm, hgd, hx, es, ep, vs, hdt, hsz, kv, hmm⟩ := I1.frzK hd
    refine call_enum_keys hsm hgd hx hdt fun h' he hit hk => wpAny_pyIter_enum he ?_
    have I2 : Inv X pins σ H1 { s1 with heap := h' } := I1.kept (t' := s1.toks) hk
    rw [hsz] at hit
    refine ⟨s1.heap.objs.size + 1, [s1.heap.objs.size + 1, s1.heap.objs.size], _, _, H1, rfl, I2, turn_enumK (s1.heap.objs.size + 1) s1.heap.objs.size hdt, ⟨⟨.none, he⟩, hit, Nat.succ_ne_self _, Nat.zero_le _⟩, fun b hb => ?_, q⟩
    have hle : s1.heap.objs.size ≤ b := by
      rcases (show b = s1.heap.objs.size + 1 ∨ b = s1.heap.objs.size by simpa using hb) with z | z
      · rw [z]; exact Nat.le_add_right _ _
      · rw [z]; exact Nat.le_refl _
    exact I1.fpOk hle (I1.hok.fresh hle)
/-- (0, sign), (1, sign), ..: a text -/
def Ites (z : Str) : It :=
  ⟨fun i _ => i < z.cps.size, fun i H v H' => ∃ T c, z.cps[i]? = some c ∧ v = .ref T ∧ H T = none ∧ H' = upd H T (.tup [.int (i : Nat), .str ⟨#[c]⟩]), fun i _ => z.cps.size ≤ i⟩
theorem draws_str {prog : Program} {w : World} {A : Around} (hh : A.handled = none) (it : Addr) (x : Str) (t : Tok) : Draws prog w A it [it] x.cps.size (fun i v => ∃ c u, x.cps[i]? = some c ∧ v = .str ⟨#[c]⟩ u) (fun i h => h.IsStrIter it (strIterType x) x t i) := by
  unfold strIterType
  split
  · exact Draws.strAscii hh it x t
  · exact Draws.strWide hh it x t
theorem turn_enumS {P : Program} {w : World} {K : PySem.W.Frag} {elts : List Expr} {kk : Nat} {tpos : Pos} {z : Str} {t : Tok} (e it : Addr) :
    Turn P w K (.Tuple elts kk tpos) (Ites z) [e, it] e (fun i h => (∃ old, IsEnum h e it ((i : Nat) : Int) old) ∧ h.IsStrIter it (strIterType z) z t i ∧ e ≠ it ∧ i ≤ z.cps.size) where
  mem := by simp
  obj := fun i h st b hb => by
    obtain ⟨⟨old, he⟩, ⟨o', ho, hc, hd⟩, _⟩ := st
    rcases (show b = e ∨ b = it by simpa using hb) with y | y
    · rw [y]; exact ⟨_, he, fun v q => nomatch q⟩
    · rw [y]; exact ⟨o', ho, fun v q => by rw [hd] at q; cases q⟩
  keep := fun i h h' st k => let ⟨⟨old, he⟩, ⟨o, ho, r⟩, hne, hle⟩ := st; ⟨⟨old, k e (by simp) _ he⟩, ⟨o, k it (by simp) o ho, r⟩, hne, hle⟩
  item := by
    intro X hP hw hK hc i pins s σ H E I hf st hi
    subst hP hw hK
    obtain ⟨⟨old, he⟩, hit, hne, hle⟩ := st
    have hel : e < s.heap.objs.size := Heap.lt_size he
    have hil : it < s.heap.objs.size := by obtain ⟨_, q, _⟩ := hit; exact Heap.lt_size q
    have D := draws_str (prog := X.prog) (w := X.w) (A := X.A.in1) (I.ok.hd hc) it z t
    refine wpAny_pyNext_enum_itemD D he hit hi hne (by simp [hne]) fun x h' tk hP ho st' hT hsz' hk => ?_
    obtain ⟨c, u, hcu, rfl⟩ := hP
    refine ⟨_, rfl, wpAny_letOwnedTupleGo_enum (s := { s with heap := h', toks := tk + 1 }) ho fun h'' he' sb => ?_⟩
    have hT2 : h''.get? s.heap.objs.size = some { cls := .type "tuple", data := .seq #[.int i tk, .str ⟨#[c]⟩ u] } := (sb.2 _ (Nat.ne_of_gt hel)).trans hT
    have new : ObjOk X.prog X.w (upd H s.heap.objs.size (.tup [.int (i : Nat), .str ⟨#[c]⟩])) h'' s.heap.objs.size (.tup [.int (i : Nat), .str ⟨#[c]⟩]) :=
      ⟨by show 2 ≤ sizeLine; decide, [.int i tk, .str ⟨#[c]⟩ u], .cons ⟨_, rfl⟩ (.cons ⟨_, rfl⟩ .nil), ⟨_, hT2, rfl, _, rfl⟩⟩
    have I1 : Inv X pins σ (upd H s.heap.objs.size (.tup [.int (i : Nat), .str ⟨#[c]⟩])) { s with heap := h'', toks := tk + 1 } :=
      I.turnedNew (ch := [e, it]) (fun b ob hb q => (sb.2 b (fun z => hb (by simp [z]))).trans (hk b ob (fun z => hb (by simp [z])) (fun z => hb (by simp [z])) q)) hf (Nat.le_refl _) new
    have hi' : i < z.cps.size := hi
    refine ⟨.ref s.heap.objs.size, _, I1, rfl, ⟨_, c, hcu, rfl, I.hok.fresh (Nat.le_refl _), rfl⟩, ⟨⟨.str ⟨#[c]⟩ u, ?_⟩, ?_, hne, by omega⟩, fun b hb => ?_⟩
    · have e1 : ((i + 1 : Nat) : Int) = (i : Int) + 1 := by omega
      rw [e1]; exact he'
    · obtain ⟨o, ho', r⟩ := st'
      exact ⟨o, (sb.2 it (Ne.symm hne)).trans ho', r⟩
    · have hb' : b < s.heap.objs.size := by
        rcases (show b = e ∨ b = it by simpa using hb) with y | y
        · rw [y]; exact hel
        · rw [y]; exact hil
      rw [upd_ne (Nat.ne_of_lt hb')]
      exact (hf b hb).1
  done := by
    intro X hP hw hK hc i pins s σ H E I hf st hi
    subst hP hw hK
    obtain ⟨⟨old, he⟩, hit, hne, hle⟩ := st
    obtain ⟨f0, f1, f2, f3, f4, f5⟩ := hf it (by simp)
    have hi' : z.cps.size ≤ i := hi
    have ei : i = z.cps.size := by omega
    have D := draws_str (prog := X.prog) (w := X.w) (A := X.A.in1) (I.ok.hd hc) it z t
    rw [ei] at hit he
    exact wpAny_pyNext_enum_endD D he hit fun h' eb => ⟨rfl, I.turned (t' := s.toks) (fun b o hb q => eb b o hb q) f0 f1 f3 f4 f5⟩
  self := fun A i s Q E st h => let ⟨⟨_, he⟩, _⟩ := st; wpAny_pyIter_enum he h
def iEnumS (ta : TA) : TI := fun σ H R => ta σ H fun vs H1 => ∃ z, vs = [.str z] ∧ R (Ites z) H1
/-- for i, c in enumerate(text) -/
theorem pi_enumS {X : Cx} {e : Expr} {ta : TA} {p pos tpos : Pos} {elts : List Expr} {kk : Nat} (hg : Gl X "enumerate") (hm : X.mg "enumerate" = none) (ha : PA X [e] ta) (hs : starEach [e] X.env = [(false, eval e X.env)] := by rfl) :
    PI X (.Tuple elts kk tpos) (.Call (.Name "enumerate" p) [e] [] pos) (iEnumS ta) := by
  refine ⟨fun pins s σ H R I h => Call_ (ld_blt I hg hm boot_enumerate (PyProof.Rows.callWith_type1 (thn (ha.run pos pins s σ H _ I h) fun us s1 ⟨vs, H1, I1, r1, q1⟩ => ?_) hs rfl))⟩
  obtain ⟨z, ex, q⟩ := q1
  subst ex
  cases r1 with
  | cons r rr =>
    cases rr
    obtain ⟨t, rfl⟩ := r
    refine call_enumerate_str fun h' he hit hsz hk => wpAny_pyIter_enum he ?_
    have I2 : Inv X pins σ H1 { s1 with heap := h' } := I1.kept (t' := s1.toks) hk
    refine ⟨s1.heap.objs.size + 1, [s1.heap.objs.size + 1, s1.heap.objs.size], _, _, H1, rfl, I2, turn_enumS (s1.heap.objs.size + 1) s1.heap.objs.size, ⟨⟨.none, he⟩, hit, Nat.succ_ne_self _, Nat.zero_le _⟩, fun b hb => ?_, q⟩
    have hle : s1.heap.objs.size ≤ b := by
      rcases (show b = s1.heap.objs.size + 1 ∨ b = s1.heap.objs.size by simpa using hb) with y | y
      · rw [y]; exact Nat.le_add_right _ _
      · rw [y]; exact Nat.le_refl _
    exact I1.fpOk hle (I1.hok.fresh hle)
/-! ## name = {k: v for ..} on one line, the name a local -/
section
variable {X : Cx}
theorem ps_setDc {i : Nat} {y : Str} {py : Pos} {kx vx tg iter : Expr} {ifs : List Expr} {scope : Scope} {own : List (Str × Nat)} {pos spos : Pos} {wi : TI} {g : TG} {tt : TT} {tk tv : TE} (hc : X.calm = true) (hN : X.N.Nodup) (hy : X.N[i]? = some y) (hyl : X.env.scope.names.lookup y = some .local)
    (hsw : swapsWith (.DictComp kx vx [⟨tg, iter, ifs, 0⟩] scope pos) (some (.Name y py)) spos.line X.env = pure true) (hi : PI X tg iter wi) (ok : BlkOk X.N X.env.scope scope own)
    (hg : ∀ (s : Shared) (H : Hp) (C : Addr) (cl : List (Str × Addr)) (fp : List Addr), PG (X.blk s H scope (compEnvC scope cl C X.env) fp) tg g) (ht : ∀ (s : Shared) (H : Hp) (C : Addr) (cl : List (Str × Addr)) (fp : List Addr), PTs (X.blk s H scope (compEnvC scope cl C X.env) fp) ifs tt)
    (hk : ∀ (s : Shared) (H : Hp) (C : Addr) (cl : List (Str × Addr)) (fp : List Addr), PE (X.blk s H scope (compEnvC scope cl C X.env) fp) kx tk)
    (he : ∀ (s : Shared) (H : Hp) (C : Addr) (cl : List (Str × Addr)) (fp : List Addr), PE (X.blk s H scope (compEnvC scope cl C X.env) fp) vx tv) (hs : ∀ x, foldedSetIterable iter X.env x = pure x := by intro _; rfl) :
    PS X (.Assign [.Name y py] (.DictComp kx vx [⟨tg, iter, ifs, 0⟩] scope pos) spos) (tAsg (tDc wi g tt tk tv (own.map (·.2))) (gName i)) := by
  refine ⟨fun pins s σ H D I h => ?_⟩
  rw [exec_Assign_Name_used _ _ _ _ hsw]
  refine wpAny_bind (wpAny_standAt (wpAny_bind ?_))
  show wpAny _ X.A (do let _ ← comprehension (.DictComp kx vx [⟨tg, iter, ifs, 0⟩] scope pos) scope X.env (firstIterPos [⟨tg, iter, ifs, 0⟩] pos) newDict false (eval iter X.env) (some (assign (.Name y py) X.env))) _ _ s
  have h : tDc wi g tt tk tv (own.map (·.2)) σ H (fun x H1 => gName i x σ H1 D.nx) := h
  refine wpAny_bind (thn (dc_core (Qf := fun _ s' => SP X pins D .next s') hc hN I hi ok hg ht hk he hs h fun L C s' m H' I' q hn f => ?_) fun _ s' hq => wpAny_pure (wpAny_pure hq))
  show wpAny _ _ (assign (.Name y py) X.env (.ref L)) _ _ _
  refine wpAny_assign_Name (store_ok2 (v := V.ref L) I' hN hy (.inl hyl) rfl (fun s2 I2 ⟨a, sb, ha⟩ => ?_) (.inr hyl))
  obtain ⟨f0, f1, f2, f3, f4, f5⟩ := f
  have haC : C ≠ a := by
    rcases ha with z | z
    · rw [z]; exact f1
    · exact fun e => f4 y a z e.symm
  refine ⟨m, hn.sameBut sb haC, fun h3 sb3 => ?_⟩
  exact ⟨_, H', I2.turned (t' := s2.toks) (fun b o hb e => (sb3.2 b hb).trans e) f0 f1 f3 f4 f5, q⟩
theorem swd_true {kx vx : Expr} {gs : List Comprehension} {scope : Scope} {pos py : Pos} {y : Str} {l : Nat} {env : Env} (hk : env.scope.kind = .function) (hy : env.scope.names.lookup y = some .local) (hl : (py.line == pos.line) = true)
    (ha : (scope.names.any fun (n, k) => n == y && (k == .local || k == .cell)) = false) : swapsWith (.DictComp kx vx gs scope pos) (some (.Name y py)) l env = pure true := by
  have ky : env.kindOf y = some .local := hy
  have hb : env.blockKind = .function := by unfold Env.blockKind; rw [hk]; rfl
  unfold swapsWith
  simp only [hb, ky, ha, Expr.pos, hl]
  rfl
end
section
theorem walk_enumK {d : Addr} {o : Obj} {kvs : List (Key × V)} : Walk (Itek d o kvs) kvs.length (fun H => H d = some (.frz o (.dK kvs))) (YPair (fun i => some (.int (i : Nat))) (fun i => kvs[i]?.map fun kv => kV kv.1)) := by
  refine ⟨fun _ _ hi q => ⟨q, hi⟩, fun _ q => ⟨q, Nat.le_refl _⟩, fun i H x H' _ _ y => ?_⟩
  obtain ⟨T, k, v, h1, h2, h3, h4⟩ := y
  exact ⟨T, .int (i : Nat), kV k, h2, h3, h4, rfl, by simp [h1]⟩
theorem walk_enumS {z : Str} : Walk (Ites z) z.cps.size (fun _ => True) (YPair (fun i => some (.int (i : Nat))) (fun i => z.cps[i]?.map fun c => V.str ⟨#[c]⟩)) := by
  refine ⟨fun _ _ hi _ => hi, fun _ _ => Nat.le_refl _, fun i H x H' _ _ y => ?_⟩
  obtain ⟨T, c, h1, h2, h3, h4⟩ := y
  exact ⟨T, .int (i : Nat), .str ⟨#[c]⟩, h2, h3, h4, rfl, by simp [h1]⟩
variable {J : It} {n : Nat} {G : Hp → Prop} {Y : Nat → Hp → V → Hp → Prop}
/-- a dict comprehension over it -/
theorem dc_it (w : Walk J n G Y) {g : TG} {tt : TT} {tk tv : TE} {vs : List Nat} {σ : L2.St} {H1 : Hp} {D : Addr} {Qd : Hp → Prop} (Pv : Nat → Hp → Prop) (h0 : Pv 0 (upd H1 D (.dK []))) (hG : ∀ i H, i ≤ n → Pv i H → G H)
    (hs : ∀ i x H H', i < n → Pv i H → Y i H x H' → g x (wipe σ vs) H' fun σ2 H2 => wipe σ2 vs = wipe σ vs ∧ tt σ2 H2 fun b H3 =>
      if b = true then tk σ2 H3 fun y H4 => tv σ2 H4 fun z H5 => ∃ kvs k, y = kV k ∧ H5 D = some (.dK kvs) ∧ kvs.length < sizeLine ∧ Pv (i + 1) (upd H5 D (.dK (putK kvs k z))) else Pv (i + 1) H3) (hd : ∀ H, Pv n H → Qd H) :
    ∃ W : Nat → Nat → Hp → Prop, (∃ m, W 0 m (upd H1 D (.dK []))) ∧ ∀ i m H, W i m H →
      (J.stop i H ∧ Qd H) ∨ (J.go i H ∧ ∃ Nx : Hp → Prop, (∀ H', Nx H' → ∃ m', m' < m ∧ W (i + 1) m' H') ∧ ∀ x H', J.yld i H x H' → g x (wipe σ vs) H' fun σ2 H2 => wipe σ2 vs = wipe σ vs ∧ tt σ2 H2 fun b H3 =>
        if b = true then tk σ2 H3 fun y H4 => tv σ2 H4 fun z H5 => ∃ kvs k, y = kV k ∧ H5 D = some (.dK kvs) ∧ kvs.length < sizeLine ∧ Nx (upd H5 D (.dK (putK kvs k z))) else Nx H3) := by
  refine ⟨fun i m H => m = n - i ∧ i ≤ n ∧ Pv i H, ⟨n, by simp, Nat.zero_le _, h0⟩, ?_⟩
  rintro i m H ⟨rfl, hi, p⟩
  have q := hG i H hi p
  by_cases hlt : i < n
  · exact .inr ⟨w.goes i H hlt q, Pv (i + 1), fun H' p' => ⟨n - (i + 1), by omega, rfl, hlt, p'⟩, fun x H' y => hs i x H H' hlt p (w.yields i H x H' hlt q y)⟩
  · have e : i = n := by omega
    subst e
    exact .inl ⟨w.stops H q, hd H p⟩
end
end HE
namespace HV
open PySem PySem.Spec PyProof.Rows L2 RT
section
variable {prog : Program} {w : World} {A : Around} {E : Value → Shared → Prop} {s : Shared}
/-- an item of reversed(tuple), asked by an iterator over it -/
theorem rt_item {it t : Addr} {i : Nat} {items : Array Value} {x : Value} {Q : Value → Shared → Prop} (hit : IsRt s.heap it t (i : Int)) (ht : IsTup s.heap t items) (hx : items[i]? = some x) (hsz : items.size ≤ sizeLine)
    (q : ∀ h', IsRt h' it t ((i : Int) - 1) → Heap.SameBut it s.heap h' → Q x { s with heap := h', toks := s.toks + 1 }) : wpAny (model prog w) A (Builtin.SmallTypes.nextOf (.ref it)) Q E s := by
  obtain ⟨o, ho, hc, hd⟩ := id hit
  have hi : i < items.size := (Array.getElem?_eq_some_iff.mp hx).1
  have hT : s.TypeIs (.ref t) "tuple" := IsTup.typeOf' ht
  rw [sizeLine_eq] at hsz
  unfold Builtin.SmallTypes.nextOf
  refine wpAny_bind (wpAny_callSpecial?_slot (name := Str.ofString "__next__") hit.typeIs slot_rt_next (wpAny_call_entry slot_rt_next hit.typeIs entry_rt_next ?_ (args_rt_next _)))
  unfold Builtin.«reversed.__next__»
  refine wpAny_bind (wpAny_of_eq (a := (Value.ref it, [])) rfl ?_)
  try dsimp only
  refine wpAny_bind (wpAny_field ho hd (x := .ref t) rfl (wpAny_bind (wpAny_field ho hd (x := rawInt (i : Int)) rfl ?_)))
  show wpAny _ _ (if (i : Int) < 0 then _ else _) _ _ s
  rw [if_neg (by omega)]
  refine wpAny_bind (wpAny_specialOf hT get_tuple ?_)
  try dsimp only
  try rw [if_neg (by decide)]
  refine wpAny_bind (wpAny_mkInt (wpAny_bind (wpAny_attempt ?_)))
  refine PyProof.Rows.getItem_tuple (s := { s with toks := s.toks + 1 }) ht (by omega) (by omega) (seqIndex_of (by omega) (by omega)) hx ?_
  try dsimp only
  refine wpAny_bind (wpAny_field (s := { s with toks := s.toks + 1 }) ho hd (x := rawInt (i : Int)) rfl ?_)
  refine wpAny_bind (wpAny_setField (s := { s with toks := s.toks + 1 }) ho hd (by simp) ?_)
  first
  | refine wpAny_pure ⟨x, rfl, wpAny_pure (q _ ?_ (Heap.SameBut.update ..))⟩
  | refine wpAny_bind (wpAny_pure (wpAny_pure ⟨x, rfl, wpAny_pure (q _ ?_ (Heap.SameBut.update ..))⟩))
  exact ⟨_, Heap.get?_update_self _ ho (Obj.isFreed_of_fields (Obj.data_mapFields hd _)), (Obj.cls_mapFields ..).trans hc, by rw [Obj.data_mapFields hd]; simp⟩
theorem rt_end {it t : Addr} {Q : Value → Shared → Prop} (hh : A.handled = none) (hit : IsRt s.heap it t (-1)) (q : ∀ h' x, Heap.ExtBut it s.heap h' → (∃ o, h'.get? x = some o ∧ o.cls = .type "StopIteration") → E (.ref x) { s with heap := h' }) :
    wpAny (model prog w) A (Builtin.SmallTypes.nextOf (.ref it)) Q E s := by
  obtain ⟨o, ho, hc, hd⟩ := id hit
  unfold Builtin.SmallTypes.nextOf
  refine wpAny_bind (wpAny_callSpecial?_slot (name := Str.ofString "__next__") hit.typeIs slot_rt_next (wpAny_call_entry slot_rt_next hit.typeIs entry_rt_next ?_ (args_rt_next _)))
  unfold Builtin.«reversed.__next__»
  refine wpAny_bind (wpAny_of_eq (a := (Value.ref it, [])) rfl ?_)
  try dsimp only
  refine wpAny_bind (wpAny_field ho hd (x := .ref t) rfl (wpAny_bind (wpAny_field ho hd (x := rawInt (-1)) rfl ?_)))
  show wpAny _ _ (if (-1 : Int) < 0 then _ else _) _ _ s
  rw [if_pos (by decide)]
  try dsimp only
  refine wpAny_bind (wpAny_rule (wpAny_bind ?_))
  wp_delta
  refine wpAny_bind (wpAny_setField ho hd (by simp) ?_)
  have ho2 := Heap.get?_update_self (Obj.mapFields (·.setIfInBounds 1 (rawInt (-1)))) ho (Obj.isFreed_of_fields (Obj.data_mapFields hd _))
  refine wpAny_setField (s := { s with heap := s.heap.update it (Obj.mapFields (·.setIfInBounds 1 (rawInt (-1)))) }) ho2 (Obj.data_mapFields hd _) (by simp) ?_
  try dsimp only
  first
  | show wpAny _ _ (newExc (.type "StopIteration") [] >>= _) _ _ _
  | (refine wpAny_bind ?_; show wpAny _ _ (newExc (.type "StopIteration") [] >>= _) _ _ _)
  | (refine wpAny_bind ?_; wp_delta; show wpAny _ _ (newExc (.type "StopIteration") [] >>= _) _ _ _)
  refine wpAny_bind ?_
  simp only [newExc, newTuple]; refine wpAny_bind (wpAny_newObj_type ?_ (by size_fits))
  refine wpAny_bind (m := firstArgMember _ _) (wpAny_of_eq (a := Value.none) (by first | rfl | (simp only [firstArgMember]; rfl)) (wpAny_newObj_type ?_ (by size_fits)))
  simp only [raiseNew]; refine wpAny_bind (wpAny_handled ?_)
  first | rw [show A.in1.handled = none from hh] | rw [hh]
  refine wpAny_bind (wpAny_pure (wpAny_throw ?_))
  refine q _ _ (((?_ : Heap.ExtBut it s.heap _).push _).push _) ⟨_, Heap.get?_push_size _ rfl, rfl⟩
  exact fun b ob hb e => (Heap.get?_update_other _ _ (Ne.symm hb)).trans ((Heap.get?_update_other _ _ (Ne.symm hb)).trans e)
theorem lri_item {it l : Addr} {i : Nat} {items : Array Value} {x : Value} {Q : Value → Shared → Prop} (hit : s.heap.IsRevIter it l (i : Int)) (hl : s.heap.IsList l items) (hx : items[i]? = some x)
    (q : ∀ h', h'.IsRevIter it l ((i : Int) - 1) → Heap.SameBut it s.heap h' → Q x { s with heap := h' }) : wpAny (model prog w) A (Builtin.SmallTypes.nextOf (.ref it)) Q E s := by
  obtain ⟨o, ho, hc, hd⟩ := id hit
  obtain ⟨ol, hol, _, nl, hdl⟩ := hl
  unfold Builtin.SmallTypes.nextOf
  refine wpAny_bind (wpAny_callSpecial?_slot (name := Str.ofString "__next__") hit.typeIs F.slot_lri_next (wpAny_call_entry F.slot_lri_next hit.typeIs F.entry_lri_next ?_ (F.args_lri_next_1 _)))
  unfold Builtin.«list_reverseiterator.__next__»
  refine wpAny_bind (wpAny_of_eq (a := (Value.ref it, [])) rfl ?_)
  try dsimp only
  refine wpAny_bind (wpAny_field ho hd (x := rawInt (i : Int)) rfl ?_)
  show wpAny _ _ (if (i : Int) < 0 then _ else _) _ _ s
  rw [if_neg (by omega)]
  show wpAny _ _ (field (.ref it) 0 >>= _) _ _ s
  refine wpAny_bind (wpAny_field ho hd (x := .ref l) rfl ?_)
  show wpAny _ _ (seqItems? (.ref l) >>= _) _ _ s
  refine wpAny_bind (wpAny_seqItems hol hdl ?_)
  simp only [Int.toNat_natCast, hx]
  refine wpAny_bind (wpAny_setField ho hd (by simp) ?_)
  first
  | refine wpAny_pure ⟨x, rfl, wpAny_pure (q _ ?_ (Heap.SameBut.update ..))⟩
  | refine wpAny_bind (wpAny_pure (wpAny_pure ⟨x, rfl, wpAny_pure (q _ ?_ (Heap.SameBut.update ..))⟩))
  exact ⟨_, Heap.get?_update_self _ ho (Obj.isFreed_of_fields (Obj.data_mapFields hd _)), (Obj.cls_mapFields ..).trans hc, by rw [Obj.data_mapFields hd]; simp⟩
theorem lri_end {it l : Addr} {Q : Value → Shared → Prop} (hh : A.handled = none) (hit : s.heap.IsRevIter it l (-1)) (q : ∀ h' x, Heap.ExtBut it s.heap h' → (∃ o, h'.get? x = some o ∧ o.cls = .type "StopIteration") → E (.ref x) { s with heap := h' }) :
    wpAny (model prog w) A (Builtin.SmallTypes.nextOf (.ref it)) Q E s := by
  obtain ⟨o, ho, hc, hd⟩ := id hit
  unfold Builtin.SmallTypes.nextOf
  refine wpAny_bind (wpAny_callSpecial?_slot (name := Str.ofString "__next__") hit.typeIs F.slot_lri_next (wpAny_call_entry F.slot_lri_next hit.typeIs F.entry_lri_next ?_ (F.args_lri_next_1 _)))
  unfold Builtin.«list_reverseiterator.__next__»
  refine wpAny_bind (wpAny_of_eq (a := (Value.ref it, [])) rfl ?_)
  try dsimp only
  refine wpAny_bind (wpAny_field ho hd (x := rawInt (-1)) rfl ?_)
  show wpAny _ _ (if (-1 : Int) < 0 then _ else _) _ _ s
  rw [if_pos (by decide)]
  refine wpAny_bind (wpAny_rule ?_)
  first
  | show wpAny _ _ (newExc (.type "StopIteration") [] >>= _) _ _ _
  | (refine wpAny_bind ?_; show wpAny _ _ (newExc (.type "StopIteration") [] >>= _) _ _ _)
  refine wpAny_bind ?_
  simp only [newExc, newTuple]; refine wpAny_bind (wpAny_newObj_type ?_ (by size_fits))
  refine wpAny_bind (m := firstArgMember _ _) (wpAny_of_eq (a := Value.none) (by first | rfl | (simp only [firstArgMember]; rfl)) (wpAny_newObj_type ?_ (by size_fits)))
  simp only [raiseNew]; refine wpAny_bind (wpAny_handled ?_)
  first | rw [show A.in1.handled = none from hh] | rw [hh]
  refine wpAny_bind (wpAny_pure (wpAny_throw ?_))
  exact q _ _ (((Heap.ExtBut.refl _ _).push _).push _) ⟨_, Heap.get?_push_size _ rfl, rfl⟩
/-- what reversed(tuple) gives, asked one by one -/
theorem draws_rt (hh : A.handled = none) (it t : Addr) (hne : t ≠ it) {items : Array Value} (hsz : items.size ≤ sizeLine) :
    Draws prog w A it [it, t] items.size (fun i v => items[items.size - 1 - i]? = some v) (fun i h => i ≤ items.size ∧ IsRt h it t ((items.size : Int) - 1 - (i : Nat)) ∧ IsTup h t items) where
  live := fun _ _ st => let ⟨o, ho, _⟩ := st.2.1; ⟨o, ho⟩
  frame := fun _ _ _ st k => ⟨st.1, st.2.1.at fun o e => k it (by simp) o e, let ⟨o, e, x⟩ := st.2.2; ⟨o, k t (by simp) o e, x⟩⟩
  item := fun i s Q E hi st q => by
    obtain ⟨_, hit, ht⟩ := st
    have e1 : (items.size : Int) - 1 - ((i : Nat) : Int) = ((items.size - 1 - i : Nat) : Int) := by omega
    rw [e1] at hit
    have hlt : items.size - 1 - i < items.size := by omega
    refine rt_item hit ht (Array.getElem?_eq_getElem hlt) hsz fun h' it' sb => ?_
    have e2 : ((items.size - 1 - i : Nat) : Int) - 1 = (items.size : Int) - 1 - ((i + 1 : Nat) : Int) := by omega
    rw [e2] at it'
    exact q _ h' (s.toks + 1) (Array.getElem?_eq_getElem hlt) ⟨hi, it', let ⟨o, e, x⟩ := ht; ⟨o, (sb.2 t hne).trans e, x⟩⟩ sb
  done := fun s Q E st q => by
    obtain ⟨_, hit, _⟩ := st
    have e1 : (items.size : Int) - 1 - ((items.size : Nat) : Int) = -1 := by omega
    rw [e1] at hit
    exact rt_end hh hit q
theorem draws_lri (hh : A.handled = none) (it l : Addr) (hne : l ≠ it) {items : Array Value} :
    Draws prog w A it [it, l] items.size (fun i v => items[items.size - 1 - i]? = some v) (fun i h => i ≤ items.size ∧ h.IsRevIter it l ((items.size : Int) - 1 - (i : Nat)) ∧ h.IsList l items) where
  live := fun _ _ st => let ⟨o, ho, _⟩ := st.2.1; ⟨o, ho⟩
  frame := fun _ _ _ st k => ⟨st.1, st.2.1.at fun o e => k it (by simp) o e, let ⟨o, e, x⟩ := st.2.2; ⟨o, k l (by simp) o e, x⟩⟩
  item := fun i s Q E hi st q => by
    obtain ⟨_, hit, ht⟩ := st
    have e1 : (items.size : Int) - 1 - ((i : Nat) : Int) = ((items.size - 1 - i : Nat) : Int) := by omega
    rw [e1] at hit
    have hlt : items.size - 1 - i < items.size := by omega
    refine lri_item hit ht (Array.getElem?_eq_getElem hlt) fun h' it' sb => ?_
    have e2 : ((items.size - 1 - i : Nat) : Int) - 1 = (items.size : Int) - 1 - ((i + 1 : Nat) : Int) := by omega
    rw [e2] at it'
    exact q _ h' s.toks (Array.getElem?_eq_getElem hlt) ⟨hi, it', let ⟨o, e, x⟩ := ht; ⟨o, (sb.2 l hne).trans e, x⟩⟩ sb
  done := fun s Q E st q => by
    obtain ⟨_, hit, _⟩ := st
    have e1 : (items.size : Int) - 1 - ((items.size : Nat) : Int) = -1 := by omega
    rw [e1] at hit
    exact lri_end hh hit q
end
open AutoSeq1 (wpAny_loadPart')
theorem meets_it (r : Addr) (o : Obj) (ik : ∀ (prog : Program) (w : World) (A : Around) (E : Value → Shared → Prop) (Q : Value → Shared → Prop) (s : Shared), s.heap.get? r = some o → Q (.ref r) s → wpAny (model prog w) A (pyIter (.ref r)) Q E s) :
    Meets (Builtin.«enumerate.__new__» ⟨[.type "enumerate", .ref r], []⟩) (fun _ R s => s.heap.get? r = some o ∧
      R (.ok (.ret (.ref s.heap.objs.size))) { s with heap := s.heap.push { cls := .type "enumerate", data := .fields #[.none, .bool false, .ref r, rawInt 0, .none, .none] } }) :=
  .of_wp fun prog w A R s h => by
    obtain ⟨hp, g, dr, tk, os⟩ := s
    obtain ⟨ho, h⟩ := h
    have hsub := sub_enumerate
    have ik2 : ∀ {A : Around} {E : Value → Shared → Prop} {Q : Value → Shared → Prop}, Q (.ref r) ⟨hp, g, dr, tk, os⟩ → wpAny (model prog w) A (pyIter (.ref r)) Q E ⟨hp, g, dr, tk, os⟩ := fun q => ik _ _ _ _ _ _ ho q
    wp_walk using wpAny_loadPart' ho
    refine wpAny_stack_any fun st => wpAny_pure ?_
    split
    · rename_i c _ _ _ _ _
      cases (c == Value.type "enumerate") <;> (wp_walk using wpAny_loadPart' ho, ik2; exact ⟨_, rfl, h⟩)
    · wp_walk using wpAny_loadPart' ho, ik2
      exact ⟨_, rfl, h⟩
theorem call_enum_it {prog : Program} {w : World} {A : Around} {E : Value → Shared → Prop} {s : Shared} {r : Addr} {o : Obj} {Q : Value → Shared → Prop} (ik : ∀ (prog : Program) (w : World) (A : Around) (E : Value → Shared → Prop) (Q : Value → Shared → Prop) (s : Shared), s.heap.get? r = some o → Q (.ref r) s → wpAny (model prog w) A (pyIter (.ref r)) Q E s) (ho : s.heap.get? r = some o)
    (q : ∀ h', IsEnum h' s.heap.objs.size r 0 .none → (∀ b x, s.heap.get? b = some x → h'.get? b = some x) → Q (.ref s.heap.objs.size) { s with heap := h' }) : wpAny (model prog w) A (call (.type "enumerate") [.ref r]) Q E s := by
  refine callType_new F.called_enumerate (by decide) (F.typeCall_enumerate_1 _) (F.newCall_enumerate_1 _) (fun obj => F.args_object_init_2 obj _) F.entry_enumerate_new (meets_it r o ik) ⟨ho, ?_⟩
  have he : IsEnum (s.heap.push { cls := .type "enumerate", data := .fields #[.none, .bool false, .ref r, rawInt 0, .none, .none] }) s.heap.objs.size r 0 .none := Heap.get?_push_size _ rfl
  exact ⟨⟨_, he, rfl⟩, q _ he fun b x e => Heap.get?_push_of_some _ e⟩
/-- (0, last), (1, the one before it), ..: reversed(tuple) of n items -/
def ItER (K : PySem.W.Frag) (a : Addr) (n : Nat) : It :=
  ⟨fun i H => i < n ∧ ∃ xs, SqT K H a xs ∧ xs.length = n, fun i H v H' => ∃ T x, v = .ref T ∧ H T = none ∧ H' = upd H T (.tup [.int (i : Nat), x]) ∧ ∀ xs, SqT K H a xs → xs[n - 1 - i]? = some x, fun i H => n ≤ i ∧ ∃ xs, SqT K H a xs ∧ xs.length = n⟩
theorem turn_er {P : Program} {w : World} {K : PySem.W.Frag} {elts : List Expr} {kk : Nat} {tpos : Pos} {a : Addr} {n : Nat} (e it : Addr) (hai : a ≠ it) (hae : a ≠ e) :
    Turn P w K (.Tuple elts kk tpos) (ItER K a n) [e, it] e (fun i h => (∃ old, IsEnum h e it ((i : Nat) : Int) old) ∧ IsRt h it a ((n : Int) - 1 - (i : Nat)) ∧ e ≠ it ∧ i ≤ n) where
  mem := by simp
  obj := fun i h st b hb => by
    obtain ⟨⟨old, he⟩, ⟨o', ho, hc, hd⟩, _⟩ := st
    rcases (show b = e ∨ b = it by simpa using hb) with z | z
    · rw [z]; exact ⟨_, he, fun v q => nomatch q⟩
    · rw [z]; exact ⟨o', ho, fun v q => by rw [hd] at q; cases q⟩
  keep := fun i h h' st k => let ⟨⟨old, he⟩, hi, hne, hle⟩ := st; ⟨⟨old, k e (by simp) _ he⟩, hi.at fun o q => k it (by simp) o q, hne, hle⟩
  item := by
    intro X hP hw hK hc i pins s σ H E I hf st hg
    subst hP hw hK
    obtain ⟨⟨old, he⟩, hit, hne, hle⟩ := st
    obtain ⟨hi, xs, hq, hxl⟩ := hg
    obtain ⟨its, rv, p, hz⟩ := I.tuple hq
    have hlen : its.toArray.size = n := by rw [List.size_toArray, ← rv.length, hxl]
    have hel : e < s.heap.objs.size := Heap.lt_size he
    have hil : it < s.heap.objs.size := by obtain ⟨_, q, _⟩ := hit; exact Heap.lt_size q
    have D := draws_rt (prog := X.prog) (w := X.w) (A := X.A.in1) (I.ok.hd hc) it a hai (items := its.toArray) (by rw [hlen, ← hxl]; exact hz)
    rw [← hlen] at hit
    refine wpAny_pyNext_enum_itemD D he ⟨by omega, hit, p⟩ (by omega) hne (by simp [hne, Ne.symm hae]) fun x h' tk hP ho st' hT hsz' hk => ?_
    refine ⟨_, rfl, wpAny_letOwnedTupleGo_enum (s := { s with heap := h', toks := tk + 1 }) ho fun h'' he' sb => ?_⟩
    have hT2 : h''.get? s.heap.objs.size = some { cls := .type "tuple", data := .seq #[.int i tk, x] } := (sb.2 _ (Nat.ne_of_gt hel)).trans hT
    have hP' : its[n - 1 - i]? = some x := by
      have h1 : its.toArray[its.toArray.size - 1 - i]? = some x := hP
      rw [hlen] at h1
      simpa using h1
    obtain ⟨v, hv, rk⟩ : ∃ v, xs[n - 1 - i]? = some v ∧ RelV v x := by
      have hlt : n - 1 - i < xs.length := by omega
      obtain ⟨u, hu, ru⟩ := rv.get (List.getElem?_eq_getElem hlt)
      rw [hP'] at hu
      cases hu
      exact ⟨_, List.getElem?_eq_getElem hlt, ru⟩
    have new : ObjOk X.prog X.w (upd H s.heap.objs.size (.tup [.int (i : Nat), v])) h'' s.heap.objs.size (.tup [.int (i : Nat), v]) :=
      ⟨by show 2 ≤ sizeLine; decide, [.int i tk, x], .cons ⟨_, rfl⟩ (.cons rk .nil), ⟨_, hT2, rfl, _, rfl⟩⟩
    have I1 : Inv X pins σ (upd H s.heap.objs.size (.tup [.int (i : Nat), v])) { s with heap := h'', toks := tk + 1 } :=
      I.turnedNew (ch := [e, it]) (fun b ob hb q => (sb.2 b (fun z => hb (by simp [z]))).trans (hk b ob (fun z => hb (by simp [z])) (fun z => hb (by simp [z])) q)) hf (Nat.le_refl _) new
    refine ⟨.ref s.heap.objs.size, _, I1, rfl, ⟨_, v, rfl, I.hok.fresh (Nat.le_refl _), rfl, fun ys hy => by rw [I.tuple_inj hy hq]; exact hv⟩, ⟨⟨x, ?_⟩, ?_, hne, by omega⟩, fun b hb => ?_⟩
    · have e1 : ((i + 1 : Nat) : Int) = (i : Int) + 1 := by omega
      rw [e1]; exact he'
    · rw [← hlen]
      exact st'.2.1.at fun o q => (sb.2 it (Ne.symm hne)).trans q
    · have hb' : b < s.heap.objs.size := by
        rcases (show b = e ∨ b = it by simpa using hb) with z | z
        · rw [z]; exact hel
        · rw [z]; exact hil
      rw [upd_ne (Nat.ne_of_lt hb')]
      exact (hf b hb).1
  done := by
    intro X hP hw hK hc i pins s σ H E I hf st hg
    subst hP hw hK
    obtain ⟨⟨old, he⟩, hit, hne, hle⟩ := st
    obtain ⟨hi, xs, hq, hxl⟩ := hg
    obtain ⟨its, rv, p, hz⟩ := I.tuple hq
    have hlen : its.toArray.size = n := by rw [List.size_toArray, ← rv.length, hxl]
    obtain ⟨f0, f1, f2, f3, f4, f5⟩ := hf it (by simp)
    have D := draws_rt (prog := X.prog) (w := X.w) (A := X.A.in1) (I.ok.hd hc) it a hai (items := its.toArray) (by rw [hlen, ← hxl]; exact hz)
    have ei : i = its.toArray.size := by omega
    rw [← hlen, ei] at hit
    rw [ei] at he
    exact wpAny_pyNext_enum_endD D he ⟨Nat.le_refl _, hit, p⟩ fun h' eb => ⟨rfl, I.turned (t' := s.toks) (fun b o hb q => eb b o hb q) f0 f1 f3 f4 f5⟩
  self := fun A i s Q E st h => let ⟨⟨_, he⟩, _⟩ := st; wpAny_pyIter_enum he h
/-- (0, last), (1, the one before it), ..: reversed(list) of n items -/
def ItEL (K : PySem.W.Frag) (a : Addr) (n : Nat) : It :=
  ⟨fun i H => i < n ∧ ∃ xs, SqL K H a xs ∧ xs.length = n, fun i H v H' => ∃ T x, v = .ref T ∧ H T = none ∧ H' = upd H T (.tup [.int (i : Nat), x]) ∧ ∀ xs, SqL K H a xs → xs[n - 1 - i]? = some x, fun i H => n ≤ i ∧ ∃ xs, SqL K H a xs ∧ xs.length = n⟩
theorem turn_el {P : Program} {w : World} {K : PySem.W.Frag} {elts : List Expr} {kk : Nat} {tpos : Pos} {a : Addr} {n : Nat} (e it : Addr) (hai : a ≠ it) (hae : a ≠ e) :
    Turn P w K (.Tuple elts kk tpos) (ItEL K a n) [e, it] e (fun i h => (∃ old, IsEnum h e it ((i : Nat) : Int) old) ∧ Heap.IsRevIter h it a ((n : Int) - 1 - (i : Nat)) ∧ e ≠ it ∧ i ≤ n) where
  mem := by simp
  obj := fun i h st b hb => by
    obtain ⟨⟨old, he⟩, ⟨o', ho, hc, hd⟩, _⟩ := st
    rcases (show b = e ∨ b = it by simpa using hb) with z | z
    · rw [z]; exact ⟨_, he, fun v q => nomatch q⟩
    · rw [z]; exact ⟨o', ho, fun v q => by rw [hd] at q; cases q⟩
  keep := fun i h h' st k => let ⟨⟨old, he⟩, hi, hne, hle⟩ := st; ⟨⟨old, k e (by simp) _ he⟩, hi.at fun o q => k it (by simp) o q, hne, hle⟩
  item := by
    intro X hP hw hK hc i pins s σ H E I hf st hg
    subst hP hw hK
    obtain ⟨⟨old, he⟩, hit, hne, hle⟩ := st
    obtain ⟨hi, xs, hq, hxl⟩ := hg
    obtain ⟨its, rv, p, hz⟩ := I.list hq
    have hlen : its.toArray.size = n := by rw [List.size_toArray, ← rv.length, hxl]
    have hel : e < s.heap.objs.size := Heap.lt_size he
    have hil : it < s.heap.objs.size := by obtain ⟨_, q, _⟩ := hit; exact Heap.lt_size q
    have D := draws_lri (prog := X.prog) (w := X.w) (A := X.A.in1) (I.ok.hd hc) it a hai (items := its.toArray)
    rw [← hlen] at hit
    refine wpAny_pyNext_enum_itemD D he ⟨by omega, hit, p.isList⟩ (by omega) hne (by simp [hne, Ne.symm hae]) fun x h' tk hP ho st' hT hsz' hk => ?_
    refine ⟨_, rfl, wpAny_letOwnedTupleGo_enum (s := { s with heap := h', toks := tk + 1 }) ho fun h'' he' sb => ?_⟩
    have hT2 : h''.get? s.heap.objs.size = some { cls := .type "tuple", data := .seq #[.int i tk, x] } := (sb.2 _ (Nat.ne_of_gt hel)).trans hT
    have hP' : its[n - 1 - i]? = some x := by
      have h1 : its.toArray[its.toArray.size - 1 - i]? = some x := hP
      rw [hlen] at h1
      simpa using h1
    obtain ⟨v, hv, rk⟩ : ∃ v, xs[n - 1 - i]? = some v ∧ RelV v x := by
      have hlt : n - 1 - i < xs.length := by omega
      obtain ⟨u, hu, ru⟩ := rv.get (List.getElem?_eq_getElem hlt)
      rw [hP'] at hu
      cases hu
      exact ⟨_, List.getElem?_eq_getElem hlt, ru⟩
    have new : ObjOk X.prog X.w (upd H s.heap.objs.size (.tup [.int (i : Nat), v])) h'' s.heap.objs.size (.tup [.int (i : Nat), v]) :=
      ⟨by show 2 ≤ sizeLine; decide, [.int i tk, x], .cons ⟨_, rfl⟩ (.cons rk .nil), ⟨_, hT2, rfl, _, rfl⟩⟩
    have I1 : Inv X pins σ (upd H s.heap.objs.size (.tup [.int (i : Nat), v])) { s with heap := h'', toks := tk + 1 } :=
      I.turnedNew (ch := [e, it]) (fun b ob hb q => (sb.2 b (fun z => hb (by simp [z]))).trans (hk b ob (fun z => hb (by simp [z])) (fun z => hb (by simp [z])) q)) hf (Nat.le_refl _) new
    refine ⟨.ref s.heap.objs.size, _, I1, rfl, ⟨_, v, rfl, I.hok.fresh (Nat.le_refl _), rfl, fun ys hy => by rw [I.list_inj hy hq]; exact hv⟩, ⟨⟨x, ?_⟩, ?_, hne, by omega⟩, fun b hb => ?_⟩
    · have e1 : ((i + 1 : Nat) : Int) = (i : Int) + 1 := by omega
      rw [e1]; exact he'
    · rw [← hlen]
      exact st'.2.1.at fun o q => (sb.2 it (Ne.symm hne)).trans q
    · have hb' : b < s.heap.objs.size := by
        rcases (show b = e ∨ b = it by simpa using hb) with z | z
        · rw [z]; exact hel
        · rw [z]; exact hil
      rw [upd_ne (Nat.ne_of_lt hb')]
      exact (hf b hb).1
  done := by
    intro X hP hw hK hc i pins s σ H E I hf st hg
    subst hP hw hK
    obtain ⟨⟨old, he⟩, hit, hne, hle⟩ := st
    obtain ⟨hi, xs, hq, hxl⟩ := hg
    obtain ⟨its, rv, p, hz⟩ := I.list hq
    have hlen : its.toArray.size = n := by rw [List.size_toArray, ← rv.length, hxl]
    obtain ⟨f0, f1, f2, f3, f4, f5⟩ := hf it (by simp)
    have D := draws_lri (prog := X.prog) (w := X.w) (A := X.A.in1) (I.ok.hd hc) it a hai (items := its.toArray)
    have ei : i = its.toArray.size := by omega
    rw [← hlen, ei] at hit
    rw [ei] at he
    exact wpAny_pyNext_enum_endD D he ⟨Nat.le_refl _, hit, p.isList⟩ fun h' eb => ⟨rfl, I.turned (t' := s.toks) (fun b o hb q => eb b o hb q) f0 f1 f3 f4 f5⟩
  self := fun A i s Q E st h => let ⟨⟨_, he⟩, _⟩ := st; wpAny_pyIter_enum he h
/-- enumerate(reversed(x)), x a tuple or a list -/
def iEnumR (K : PySem.W.Frag) (te : TE) : TI := fun σ H R => te σ H fun v H1 => ∃ (a : Addr) (xs : List V), v = .ref a ∧ ((SqL K H1 a xs ∧ R (ItEL K a xs.length) H1) ∨ (SqT K H1 a xs ∧ R (ItER K a xs.length) H1))
theorem pi_enumR {X : Cx} {e : Expr} {te : TE} {p pos p2 pos2 tpos : Pos} {elts : List Expr} {kk : Nat} (hg : Gl X "enumerate") (hm : X.mg "enumerate" = none) (hg2 : Gl X "reversed") (hm2 : X.mg "reversed" = none) (he : PE X e te)
    (hs2 : starEach [e] X.env = (false, eval e X.env) :: starEach [] X.env := by rfl) (hs : starEach [.Call (.Name "reversed" p2) [e] [] pos2] X.env = (false, eval (.Call (.Name "reversed" p2) [e] [] pos2) X.env) :: starEach [] X.env := by rfl) :
    PI X (.Tuple elts kk tpos) (.Call (.Name "enumerate" p) [.Call (.Name "reversed" p2) [e] [] pos2] [] pos) (iEnumR X.K te) := by
  refine ⟨fun pins s σ H R I h => ?_⟩
  refine Call_ (ld_blt I hg hm boot_enumerate (PyProof.Rows.callWith_type1 (args_cons (Call_ (ld_blt I hg2 hm2 PyProof.Rows.boot_reversed (PyProof.Rows.callWith_type1 (args_cons (thn (he.run pins s σ H _ I h) fun u s1 ⟨v, H1, I1, r1, q1⟩ => args_nil ?_) hs2) hs2 rfl))) hs) hs rfl))
  obtain ⟨a, xs, ev, q⟩ := q1
  subst ev
  obtain rfl : u = Value.ref a := r1
  rcases q with ⟨hq, q⟩ | ⟨hq, q⟩
  · obtain ⟨its, rv, p', hz⟩ := I1.list hq
    have hl := rv.length
    have e1 : ((its.toArray.size : Nat) : Int) - 1 = (xs.length : Int) - 1 - ((0 : Nat) : Int) := by simp only [List.size_toArray]; omega
    have hal : a < s1.heap.objs.size := by obtain ⟨o, ho, _⟩ := p'.isList; exact Heap.lt_size ho
    refine call_reversed_list p'.isList (args_nil (call_enum_it (o := revObj a ((its.toArray.size : Int) - 1)) (fun _ _ _ _ _ _ ho q => wpAny_pyIter_revIter ⟨_, ho, rfl, rfl⟩ q) (Heap.get?_push_size _ rfl) fun h' hen hk => wpAny_pyIter_enum hen ?_))
    have hsz : (s1.heap.push (revObj a ((its.toArray.size : Int) - 1))).objs.size = s1.heap.objs.size + 1 := Heap.size_push ..
    have I2 : Inv X pins σ H1 { s1 with heap := h' } := I1.kept (t' := s1.toks) fun b o q => hk b o (Heap.get?_push_of_some _ q)
    have hr := hk _ _ (Heap.get?_push_size (h := s1.heap) (o := revObj a ((its.toArray.size : Int) - 1)) rfl)
    rw [e1] at hr
    have hen' : IsEnum h' (s1.heap.objs.size + 1) s1.heap.objs.size 0 .none := by rw [← hsz]; exact hen
    show PIE X pins σ _ R (.ref (s1.heap.push (revObj a ((its.toArray.size : Int) - 1))).objs.size) _
    rw [hsz]
    refine ⟨s1.heap.objs.size + 1, [s1.heap.objs.size + 1, s1.heap.objs.size], _, _, H1, rfl, I2, turn_el (a := a) (n := xs.length) (s1.heap.objs.size + 1) s1.heap.objs.size (Nat.ne_of_lt hal) (Nat.ne_of_lt (Nat.lt_succ_of_lt hal)), ⟨⟨.none, hen'⟩, ⟨_, hr, rfl, rfl⟩, Nat.succ_ne_self _, Nat.zero_le _⟩, fun b hb => ?_, q⟩
    have hle : s1.heap.objs.size ≤ b := by
      rcases (show b = s1.heap.objs.size + 1 ∨ b = s1.heap.objs.size by simpa using hb) with z | z
      · rw [z]; exact Nat.le_add_right _ _
      · rw [z]; exact Nat.le_refl _
    exact I1.fpOk hle (I1.hok.fresh hle)
  · obtain ⟨its, rv, p', hz⟩ := I1.tuple hq
    have hl := rv.length
    have hn := line63
    have e1 : ((its.toArray.size : Nat) : Int) - 1 = (xs.length : Int) - 1 - ((0 : Nat) : Int) := by simp only [List.size_toArray]; omega
    have hal : a < s1.heap.objs.size := by obtain ⟨o, ho, _⟩ := p'; exact Heap.lt_size ho
    refine call_reversed_tup p' (fun A E Q k => len_tuple p' (by simp only [List.size_toArray] <;> omega) k) (args_nil (call_enum_it (o := rtObj a ((its.toArray.size : Int) - 1)) (fun _ _ _ _ _ _ ho q => iter_rt ⟨_, ho, rfl, rfl⟩ q) (Heap.get?_push_size _ rfl) fun h' hen hk => wpAny_pyIter_enum hen ?_))
    have hsz : (s1.heap.push (rtObj a ((its.toArray.size : Int) - 1))).objs.size = s1.heap.objs.size + 1 := Heap.size_push ..
    have I2 : Inv X pins σ H1 { s1 with heap := h', toks := s1.toks + 1 + 1 } := I1.kept (t' := s1.toks + 1 + 1) fun b o q => hk b o (Heap.get?_push_of_some _ q)
    have hr := hk _ _ (Heap.get?_push_size (h := s1.heap) (o := rtObj a ((its.toArray.size : Int) - 1)) rfl)
    rw [e1] at hr
    have hen' : IsEnum h' (s1.heap.objs.size + 1) s1.heap.objs.size 0 .none := by rw [← hsz]; exact hen
    show PIE X pins σ _ R (.ref (s1.heap.push (rtObj a ((its.toArray.size : Int) - 1))).objs.size) _
    rw [hsz]
    refine ⟨s1.heap.objs.size + 1, [s1.heap.objs.size + 1, s1.heap.objs.size], _, _, H1, rfl, I2, turn_er (a := a) (n := xs.length) (s1.heap.objs.size + 1) s1.heap.objs.size (Nat.ne_of_lt hal) (Nat.ne_of_lt (Nat.lt_succ_of_lt hal)), ⟨⟨.none, hen'⟩, ⟨_, hr, rfl, rfl⟩, Nat.succ_ne_self _, Nat.zero_le _⟩, fun b hb => ?_, q⟩
    have hle : s1.heap.objs.size ≤ b := by
      rcases (show b = s1.heap.objs.size + 1 ∨ b = s1.heap.objs.size by simpa using hb) with z | z
      · rw [z]; exact Nat.le_add_right _ _
      · rw [z]; exact Nat.le_refl _
    exact I1.fpOk hle (I1.hok.fresh hle)
theorem walk_er {K : PySem.W.Frag} {a : Addr} {xs : List V} : Walk (ItER K a xs.length) xs.length (fun H => SqT K H a xs) (YPair (fun i => some (.int (i : Nat))) (fun i => xs[xs.length - 1 - i]?)) := by
  refine ⟨fun i H hi q => ⟨hi, xs, q, rfl⟩, fun H q => ⟨Nat.le_refl _, xs, q, rfl⟩, fun i H v H' _ q y => ?_⟩
  obtain ⟨T, x, h1, h2, h3, h4⟩ := y
  exact ⟨T, .int (i : Nat), x, h1, h2, h3, rfl, h4 xs q⟩
theorem walk_el {K : PySem.W.Frag} {a : Addr} {xs : List V} : Walk (ItEL K a xs.length) xs.length (fun H => SqL K H a xs) (YPair (fun i => some (.int (i : Nat))) (fun i => xs[xs.length - 1 - i]?)) := by
  refine ⟨fun i H hi q => ⟨hi, xs, q, rfl⟩, fun H q => ⟨Nat.le_refl _, xs, q, rfl⟩, fun i H v H' _ q y => ?_⟩
  obtain ⟨T, x, h1, h2, h3, h4⟩ := y
  exact ⟨T, .int (i : Nat), x, h1, h2, h3, rfl, h4 xs q⟩
end HV
namespace HS
open PySem PySem.Spec PyProof.Rows L2 LamX
/-! ## sorted(xs, key=lambda x: body) -/
section
variable {K : PySem.W.Frag} {H H' : Hp}
mutual
theorem dp_ext (e : Ext H H') : ∀ (d : PyData) (v : V), Dp K H v d → Dp K H' v d
  | .none, _, h => by cases h; exact .non
  | .bool b, _, h => by cases h; exact .bl b
  | .int i, _, h => by cases h; exact .int i
  | .str x, _, h => by cases h; exact .str x
  | .list ds, _, h => by
    cases h with
    | lst h1 h2 => exact .lst (h1.ext e) (dpAll_ext e ds _ h2)
  | .tuple ds, _, h => by
    cases h with
    | tup h1 h2 => exact .tup (h1.ext e) (dpAll_ext e ds _ h2)
  | .dict _, _, h => by cases h
theorem dpAll_ext (e : Ext H H') : ∀ (ds : List PyData) (vs : List V), DpAll K H vs ds → DpAll K H' vs ds
  | [], _, h => by cases h; exact .nil
  | d :: ds, _, h => by
    cases h with
    | cons h1 h2 => exact .cons (dp_ext e d _ h1) (dpAll_ext e ds _ h2)
end
theorem dpAll_len : ∀ (ds : List PyData) (vs : List V), DpAll K H vs ds → vs.length = ds.length
  | [], _, h => by cases h; rfl
  | d :: ds, _, h => by
    cases h with
    | cons h1 h2 => rw [List.length_cons, List.length_cons, dpAll_len ds _ h2]
theorem DpAll.snoc : ∀ {vs : List V} {ds : List PyData} {v : V} {d : PyData}, DpAll K H vs ds → Dp K H v d → DpAll K H (vs ++ [v]) (ds ++ [d])
  | [], _, v, d, h, q => by cases h; exact .cons q .nil
  | _ :: _, _, v, d, h, q => by
    cases h with
    | cons h1 h2 => exact .cons h1 (DpAll.snoc h2 q)
end
section
variable {X : Cx} {pins : List (Addr × Obj)} {σ : L2.St} {H : Hp} {s : Shared}
theorem dp_each (I : Inv X pins σ H s) : ∀ {vs : List V} {ds : List PyData} {us : List Value}, DpAll X.K H vs ds → Vals vs us → PySem.W.EachIs (fun v d => ∃ as, Reads s.heap v d as) us ds
  | _, _, _, .nil, r => by cases r; exact .nil
  | _, _, _, .cons h1 h2, r => by
    cases r with
    | cons r1 r2 => exact .cons (Dp.reads I _ _ _ h1 r1) (dp_each I h2 r2)
end
/-- a lambda called with values -/
theorem lam_run {CX : CXT} {P : Program} {w : World} {K : PySem.W.Frag} {mg : Str → Option Value} {base : Heap} {k : Nat} {f c' : Addr} {q : Str} {params : Arguments} {body : Expr} {scope : Scope} {pm ctv : Value} {N ps : List Str} (S : FnScope N ps scope)
    {A : Around} {outer : List Env} {s : Shared} {H : Hp} {us : List Value} {vs : List V} {Q : VK} {E : XK} (hr : Room (k + 1) A) (e0 : Env0 P w K mg base A outer s H) (hf : s.heap.get? f = some (PySem.W.kla_obj "<lambda>" q params body scope [] pm c' ctv)) (hc : H c' = some (CodeO c' q))
    (hb : bindArgs (PySem.W.kla_fn "<lambda>" q params body scope [] pm (.ref c') ctv) ⟨us, []⟩ = pure (ps.zip us)) (r : Vals vs us) (hl : vs.length = ps.length)
    (hbody : Room k (A.deeper (envOfC q scope s.heap.objs.size f (.ref c'))) → ∃ t, PE (cxOf CX P w K mg base N q scope f (.ref c') A outer s H E) body t ∧ t (L2.start N vs) H Q) :
    codeAny (model P w) A (.call (.ref f) ⟨us, []⟩) (CR CX outer P w H s Q E) s := by
  have lim : s.heap.NoLimit := e0.mod.nolimit.keeps fun b o e => (e0.bs b o e).1
  have hkind : ∀ y ∈ ps.zip us, scope.names.lookup y.1 = some .local ∨ (scope.names.lookup y.1 = some .cell ∧ ((cellsFrom (s.heap.objs.size + 1) scope.names []).lookup y.1).isSome = true) := fun ⟨n, v⟩ hy => by
    rcases S.par n (List.of_mem_zip hy).1 with q | q
    · exact .inl q
    · exact .inr ⟨q, PySem.W.cellsFrom_some _ _ _ (.inl q)⟩
  obtain ⟨⟨oc, xs, t, hoc, hdc, hvc⟩, _, _⟩ := e0.hok c' _ hc
  refine PySem.W.kla_callFunE hr.depth hf rfl S.co S.gen rfl ⟨c', oc, xs, t, rfl, hoc, hdc, hvc⟩ ?_
  rw [hb]
  refine wpAny_pure (wpAny_newFunctionEnv_cells S.kind hkind fun env he s1 x => ?_)
  subst he
  refine ⟨lim.keeps x.toInCall.keep, ?_⟩
  obtain ⟨t, ht, hq⟩ := hbody (hr.deeper _)
  have I : Inv (cxOf CX P w K mg base N q scope f (.ref c') A outer s H E) [] (L2.start N vs) H s1 := inv_start S hr.hd e0 hl r x
  refine PySem.W.kla_codeExpr (wpAny_mono (ht.run [] s1 (L2.start N vs) H Q I hq) (fun v s' hs => ?_) fun e s' hs => hs)
  obtain ⟨v', H', J, rv, q'⟩ := hs
  exact ⟨v', H', J.os, J.bare, J.base, J.hok, rv, q'⟩
section
variable {X : Cx} {pins : List (Addr × Obj)} {σ : L2.St} {H : Hp} {s : Shared}
/-- an untracked record of ours, pinned, is written -/
theorem turnedPin {h' : Heap} {t' : Nat} {it : Addr} {o o' : Obj} (I : Inv X ((it, o) :: pins) σ H s) (hs : X.s_0.heap.objs.size ≤ it) (hc : ∀ x c, X.env.cells.lookup x = some c → c ≠ it) (hp : ∀ p ∈ X.pn ++ pins, p.1 ≠ it)
    (k : ∀ b u, b ≠ it → s.heap.get? b = some u → h'.get? b = some u) (ho : h'.get? it = some o') (hd : ∀ v, o'.data ≠ .cell v) : Inv X ((it, o') :: pins) σ H { s with heap := h', toks := t' } := by
  obtain ⟨e, n, nl, nf, _⟩ := I.pin (it, o) (List.mem_append_right _ List.mem_cons_self)
  have I1 : Inv X pins σ H s := I.pins_of fun r hr => I.pin r (List.mem_append_right _ (List.mem_cons_of_mem _ hr))
  have I2 : Inv X pins σ H { s with heap := h', toks := t' } := I1.turned (it := it) k n nl (.inr hs) hc hp
  refine I2.pins_of fun p hm => ?_
  rcases List.mem_cons.mp hm with z | z
  · rw [z]
    exact ⟨ho, n, nl, nf, hd⟩
  · exact I2.pin p (List.mem_append_right _ z)
/-- the list at a and the keys' list at kS end: a is tracked from now on -/
theorem laidEnd {h' : Heap} {t' : Nat} {a kS : Addr} {oa ok : Obj} {zs : List V} {out : List Value} {c : Nat} (I : Inv X ((kS, ok) :: (a, oa) :: pins) σ H s) (hka : kS ≠ a) (ha : X.s_0.heap.objs.size ≤ a) (hk : X.s_0.heap.objs.size ≤ kS)
    (hca : ∀ x c, X.env.cells.lookup x = some c → c ≠ a ∧ c ≠ kS) (hp : ∀ p ∈ X.pn ++ pins, p.1 ≠ a ∧ p.1 ≠ kS) (k : ∀ b u, b ≠ a → b ≠ kS → s.heap.get? b = some u → h'.get? b = some u)
    (ho : h'.get? a = some (seqObj "list" out.toArray c)) (r : Vals zs out) (hz : zs.length ≤ sizeLine) : Inv X pins σ (upd H a (.lst zs)) { s with heap := h', toks := t' } := by
  obtain ⟨ek, nk, kl, kf, _⟩ := I.pin (kS, ok) (List.mem_append_right _ List.mem_cons_self)
  obtain ⟨ea, na, al, af, _⟩ := I.pin (a, oa) (List.mem_append_right _ (List.mem_cons_of_mem _ List.mem_cons_self))
  have ek : s.heap.get? kS = some ok := ek
  have ea : s.heap.get? a = some oa := ea
  have nk : H kS = none := nk
  have na : H a = none := na
  have I1 : Inv X pins σ H s := I.pins_of fun r hr => I.pin r (List.mem_append_right _ (List.mem_cons_of_mem _ (List.mem_cons_of_mem _ hr)))
  have nit : ∀ b u, H b = some u → b ≠ a ∧ b ≠ kS := fun b u e => ⟨fun z => (by rw [z, na] at e; cases e), fun z => (by rw [z, nk] at e; cases e)⟩
  have kc : ∀ b o, b ∉ [a, kS] → s.heap.get? b = some o → h'.get? b = some o := fun b o hb e => k b o (fun z => hb (by simp [z])) (fun z => hb (by simp [z])) e
  refine I1.step (g' := s.gens) (d' := s.drawn) (ch := [a, kS]) (fun b hb => ?_) (fun b o _ _ hb e _ => kc b o hb e) (fun b o _ _ hb e _ => ⟨o.slots, kc b o hb e⟩) (fun b o hb e n => ?_) (fun b o hb e => ⟨o, kc b o hb e⟩) (fun b xs e => ?_) (fun b o u e => ?_) (fun b ps e => ⟨#[], ?_⟩) (fun m hm => ?_) (fun b u e => ?_) I1.bare
  · rcases List.mem_cons.mp hb with z | z
    · rw [z]
      exact ⟨.inr ha, al, fun x c e => (hca x c e).1, fun p hm => (hp p hm).1⟩
    · have z : b = kS := by simpa using z
      rw [z]
      exact ⟨.inr hk, kl, fun x c e => (hca x c e).2, fun p hm => (hp p hm).2⟩
  · rw [upd_ne (fun z => hb (by simp [z]))]
    exact n
  · rw [upd_ne (nit b _ e).1]
    exact e
  · rw [upd_ne (nit b _ e).1]
    exact e
  · rw [upd_ne (nit b _ e).1, e]
    simp
  · obtain ⟨o, es, ep, ho, r⟩ := hm
    exact ⟨o, es, ep, k _ o (Ne.symm al) (Ne.symm kl) ho, r⟩
  · by_cases hb : b = a
    · rw [hb, upd_same] at e
      cases e
      rw [hb]
      exact ⟨hz, out, c, r, ho⟩
    · rw [upd_ne hb] at e
      refine (I1.hok b u e).stay (fun d v hd q => ?_) (fun d q => by rw [upd_ne (nit d _ q).1]; exact q) fun d xs q => by rw [upd_ne (nit d _ q).1]; exact q
      rcases hd with z | z
      · rw [z] at q ⊢
        exact k b v (nit b u e).1 (nit b u e).2 q
      · exact k d v (nit d _ z).1 (nit d _ z).2 q
end
section
variable {X : Cx} {pins : List (Addr × Obj)} {σ : L2.St} {H : Hp} {s : Shared}
theorem SortsAt_data_of {prog : Program} {w : World} {A : Around} {s : Shared} {vs : List Value} {ds : List PyData} (e : PySem.W.EachIs (fun v d => ∃ as, Reads s.heap v d as) vs ds) (hal : PySem.W.AllAlike ds) (hk : PySem.W.Sortable ds) (hu : ∀ d, d ∈ ds → A.units + d.depth < cLine) :
    PySem.W.SortsAt prog w A s (PySem.W.dataKind s.heap ds) vs := PySem.W.SortsAt.data e hal hk hu
/-- the items in the order of their keys -/
noncomputable def byKey (xs : List V) (ds : List PyData) : List V := ((xs.zip ds).mergeSort (PySem.W.dataLe false Prod.snd)).map Prod.fst
theorem zip_each : ∀ {xs : List V} {its : List Value} (ds : List PyData), Vals xs its → ds.length = xs.length → PySem.W.EachIs (fun (u : Value) (b : V × PyData) => RelV b.1 u) its (xs.zip ds)
  | [], _, ds, h, _ => by cases h; exact .nil
  | x :: xs, _, [], h, e => by cases e
  | x :: xs, _, d :: ds, h, e => by
    cases h with
    | cons h1 h2 => exact .cons h1 (zip_each ds h2 (by simpa using e))
theorem each_vals : ∀ {bs : List (V × PyData)} {us : List Value}, PySem.W.EachIs (fun (u : Value) (b : V × PyData) => RelV b.1 u) us bs → Vals (bs.map Prod.fst) us
  | _, _, .nil => .nil
  | _, _, .cons h t => .cons h (each_vals t)
theorem zip_snd : ∀ (xs : List V) (ds : List PyData), ds.length = xs.length → (xs.zip ds).map Prod.snd = ds
  | [], ds, h => by
    cases ds with
    | nil => rfl
    | cons d ds => cases h
  | x :: xs, [], h => by cases h
  | x :: xs, d :: ds, h => by
    show d :: (xs.zip ds).map Prod.snd = d :: ds
    rw [zip_snd xs ds (by simpa using h)]
theorem vals_snoc {vs : List V} {us : List Value} {v : V} {u : Value} (r : Vals vs us) (q : RelV v u) : Vals (vs ++ [v]) (us ++ [u]) := by
  induction r with
  | nil => exact .cons q .nil
  | cons h _ ih => exact .cons h ih
/-- the sort by a key of the list at a, which is new since s0 -/
theorem sort_body {s0 : Shared} {H0 : Hp} {a f : Addr} {fo : Obj} {xs : List V} {its : List Value} {ds : List PyData} {P0 : Hp → Prop} {Q : VK} {E' : Value → Shared → Prop} (I0 : Inv X pins σ H0 s0) (h0a : s0.heap.objs.size ≤ a) (hf0 : ∃ o, s0.heap.get? f = some o) (I : Inv X pins σ H s) (rv : Vals xs its) (hz : xs.length ≤ sizeLine)
    (ho : s.heap.get? a = some (seqObj "list" its.toArray 0)) (hna : H a = none) (hf : s.heap.get? f = some fo) (hfn : H f = none) (hfr : f ≠ X.env.locals ∧ f ∉ X.fs) (hfc : ∀ v, fo.data ≠ .cell v)
    (hal : PySem.W.AllAlike ds) (hk : PySem.W.Sortable ds) (hlen : ds.length = xs.length) (hu : ∀ d, d ∈ ds → X.A.units + 2 + d.depth < cLine) (p0 : P0 H)
    (turn : ∀ (i : Nat) (v : V) (u : Value) (d : PyData) (s' : Shared) (H' : Hp), xs[i]? = some v → ds[i]? = some d → RelV v u → Env0 X.prog X.w X.K X.mg X.base X.A.in1.in1 X.stack s' H' → s'.heap.get? f = some fo → Ext H H' → P0 H' →
      wpAny (model X.prog X.w) X.A.in1.in1 (call (.ref f) [u]) (CE X.stack X.prog X.w H' s' (fun kv H'' => Dp X.K H'' kv d ∧ Ext H' H'' ∧ P0 H'')) (fun _ _ => False) s')
    (q : ∀ (H' : Hp), Ext H H' → P0 H' → H' a = none → Q (.ref a) (upd H' a (.lst (byKey xs ds)))) :
    wpAny (model X.prog X.w) X.A.in1.in1 (Builtin.«list.sort» ⟨[.ref a], [(Str.ofString "key", .ref f)]⟩) (fun f s' => f = .done (.ret .none) ∧ EP X pins σ Q (.ref a) s') E' s := by
  have hzi : its.length ≤ sizeLine := by rw [← rv.length]; exact hz
  have hil : its.length = xs.length := rv.length.symm
  rw [PyProof.Rows.ksk_t1]
  have ha : @LT.lt Nat _ a s.heap.objs.size := Heap.lt_size ho
  obtain ⟨e1, ho1⟩ : ∃ e1, (s.heap.update a (Obj.mapSeq fun _ => (#[] : Array Value))).get? a = some (seqObj "list" #[] e1) := ⟨_, get?_update_seq ho fun _ => #[]⟩
  unfold PyProof.Rows.ksk_tree
  refine wpAny_bind (listItems_at ho rfl ?_)
  refine wpAny_bind (listUpdate_at ho rfl ?_ (by rw [List.size_toArray]; exact hzi) (Nat.zero_le _))
  refine wpAny_bind (seqEpoch_at ho1 rfl ?_)
  refine wpAny_bind (wpAny_newTuple ?_ (by show its.length ≤ _; exact hzi))
  refine wpAny_bind (wpAny_newList ?_ (Nat.zero_le _))
  refine wpAny_holding ?_
  have hkS : (s.heap.update a (Obj.mapSeq fun _ => (#[] : Array Value))).objs.size = s.heap.objs.size := Heap.size_update _ _ _
  generalize hks : ((s.heap.update a (Obj.mapSeq fun _ => (#[] : Array Value))).push (seqObj "tuple" its.toArray 0)).objs.size = kS
  have hka : @LT.lt Nat _ a kS := by
    rw [← hks, size_push', hkS]
    omega
  have hsk0 : s.heap.objs.size < kS := by rw [← hks, size_push', hkS]; exact Nat.lt_succ_self _
  generalize hg : (((s.heap.update a (Obj.mapSeq fun _ => (#[] : Array Value))).push (seqObj "tuple" its.toArray 0)).push (seqObj "list" #[] 0)) = h₂
  have g1 : h₂.get? kS = some (seqObj "list" #[] 0) := by rw [← hg, ← hks]; exact Heap.get?_push_size _ rfl
  have g2 : h₂.get? a = some (seqObj "list" #[] e1) := by rw [← hg]; exact Heap.get?_push_of_some _ (Heap.get?_push_of_some _ ho1)
  have g3 : ∀ b o, b ≠ a → s.heap.get? b = some o → h₂.get? b = some o := fun b o hb e => by
    rw [← hg]
    refine Heap.get?_push_of_some _ (Heap.get?_push_of_some _ ?_)
    rw [Heap.get?_update_ne _ _ _ _ hb]
    exact e
  have hcl : ∀ x c, X.env.cells.lookup x = some c → @LT.lt Nat _ c s0.heap.objs.size := fun x c e => by
    obtain ⟨v, o, z, _⟩ := I0.cell x c e
    exact Heap.lt_size z
  have hpl : ∀ p ∈ X.pn ++ pins, @LT.lt Nat _ p.1 s0.heap.objs.size := fun p hp => Heap.lt_size (I0.pin p hp).1
  have hfl : @LT.lt Nat _ f s0.heap.objs.size := Heap.lt_size hf0.choose_spec
  have hsz : X.s_0.heap.objs.size ≤ s0.heap.objs.size := I0.sz
  have hll : @LT.lt Nat _ X.env.locals s0.heap.objs.size := I0.lt
  have hcS : ∀ x c, X.env.cells.lookup x = some c → c ≠ a ∧ c ≠ kS := fun x c e => by
    have := hcl x c e
    exact ⟨Nat.ne_of_lt (by omega), Nat.ne_of_lt (by omega)⟩
  have hpS : ∀ p ∈ X.pn ++ ((f, fo) :: pins), p.1 ≠ a ∧ p.1 ≠ kS := fun p hp => by
    have : @LT.lt Nat _ p.1 s0.heap.objs.size := by
      rcases List.mem_append.mp hp with z | z
      · exact hpl p (List.mem_append_left _ z)
      · rcases List.mem_cons.mp z with z | z
        · rw [z]
          exact hfl
        · exact hpl p (List.mem_append_right _ z)
    exact ⟨Nat.ne_of_lt (by omega), Nat.ne_of_lt (by omega)⟩
  have J0 : Inv X pins σ H { s with heap := h₂ } := I.turned (it := a) (t' := s.toks) g3 hna (Nat.ne_of_gt (by omega)) (.inr (by omega)) (fun x c e => (hcS x c e).1) (fun p hp => (hpS p (by
    rcases List.mem_append.mp hp with z | z
    · exact List.mem_append_left _ z
    · exact List.mem_append_right _ (List.mem_cons_of_mem _ z))).1)
  have J1 : Inv X ((kS, seqObj "list" #[] 0) :: (a, seqObj "list" #[] e1) :: (f, fo) :: pins) σ H { s with heap := h₂ } := by
    refine J0.pins_of fun p hp => ?_
    rcases List.mem_cons.mp hp with z | hp
    · rw [z]
      exact ⟨g1, I.hok.fresh (Nat.le_of_lt hsk0), Nat.ne_of_gt (by omega), I.nofs (Nat.le_of_lt hsk0), fun v z => by cases z⟩
    rcases List.mem_cons.mp hp with z | hp
    · rw [z]
      exact ⟨g2, hna, Nat.ne_of_gt (by omega), I0.nofs h0a, fun v z => by cases z⟩
    rcases List.mem_cons.mp hp with z | hp
    · rw [z]
      exact ⟨g3 _ _ (Nat.ne_of_lt (by omega)) hf, hfn, hfr.1, hfr.2, hfc⟩
    · exact J0.pin p (List.mem_append_right _ hp)
  unfold PyProof.Rows.ksk_rest
  refine wpAny_bind (wpAny_rule ?_)
  rw [List.forIn_toArray]
  refine wpAny_bind (ksk_fold (fun i s' => ∃ H' kA e kvs, Inv X ((kS, seqObj "list" kA e) :: (a, seqObj "list" #[] e1) :: (f, fo) :: pins) σ H' s' ∧ Ext H H' ∧ P0 H' ∧ Vals kvs kA.toList ∧ DpAll X.K H' kvs (ds.take i)) its 0 _
    ⟨H, #[], 0, [], J1, Ext.rfl', p0, .nil, by rw [List.take_zero]; exact .nil⟩ ?step ?done)
  case step =>
    rintro j u s' hx ⟨H', kA, e, kvs, J, eH, hp0, rk, hD⟩
    simp only [Nat.zero_add] at hD ⊢
    have hj : j < its.length := (List.getElem?_eq_some_iff.mp hx).1
    obtain ⟨d, hdj⟩ : ∃ d, ds[j]? = some d := ⟨_, List.getElem?_eq_getElem (by omega)⟩
    obtain ⟨v, hvj⟩ : ∃ v, xs[j]? = some v := ⟨_, List.getElem?_eq_getElem (by omega)⟩
    have ruv : RelV v u := by
      obtain ⟨u2, h1, h2⟩ := rv.get hvj
      rw [hx] at h1
      rw [Option.some.inj h1]
      exact h2
    have hfs : s'.heap.get? f = some fo := (J.pin (f, fo) (List.mem_append_right _ (List.mem_cons_of_mem _ (List.mem_cons_of_mem _ List.mem_cons_self)))).1
    refine wpAny_bind (wpAny_attempt (wpAny_mono (turn j v u d s' H' hvj hdj ruv J.env0.in1.in1 hfs eH hp0) (fun w s'' he => ?_) fun _ _ hF => hF.elim))
    obtain ⟨kv, H'', J2, rw_, hd2, e2, p2⟩ := J.after he
    try dsimp only
    have n1 : s''.heap.get? kS = some (seqObj "list" kA e) := (J2.pin _ (List.mem_append_right _ List.mem_cons_self)).1
    obtain ⟨c2, hc2⟩ : ∃ c2, (s''.heap.update kS (Obj.mapSeq (·.push w))).get? kS = some (seqObj "list" (kA.push w) c2) := ⟨_, get?_update_seq n1 (·.push w)⟩
    have hlk : kA.size ≤ its.length := by
      have h1 : kvs.length = kA.size := by rw [← Array.length_toList]; exact rk.length
      have h2 : kvs.length = (ds.take j).length := dpAll_len _ _ hD
      rw [List.length_take] at h2
      omega
    refine wpAny_bind (listUpdate_at n1 rfl ?_ (Nat.le_trans hlk hzi) (Nat.le_trans (Nat.le_of_eq (Array.size_push ..)) (Nat.succ_le_succ (Nat.le_trans hlk hzi))))
    have s1 := Heap.SameBut.update s''.heap kS (Obj.mapSeq (·.push w))
    have ek : ds.take (j + 1) = ds.take j ++ [d] := by rw [List.take_add_one, hdj]; simp
    refine wpAny_pure ⟨rfl, H'', kA.push w, c2, kvs ++ [kv], ?_, eH.trans e2, p2, by rw [Array.toList_push]; exact vals_snoc rk rw_, by rw [ek]; exact DpAll.snoc (dpAll_ext e2 _ _ hD) hd2⟩
    exact turnedPin (t' := s''.toks) J2 (by omega) (fun x c e => (hcS x c e).2) (fun p hp => by
      rcases List.mem_append.mp hp with z | z
      · exact (hpS p (List.mem_append_left _ z)).2
      · rcases List.mem_cons.mp z with z | z
        · rw [z]
          exact Nat.ne_of_lt hka
        · exact (hpS p (List.mem_append_right _ z)).2) (fun b o hb e => (s1.2 b hb).trans e) hc2 (fun v z => by cases z)
  case done =>
    rintro s' ⟨H', kA, e, kvs, J, eH, hp0, rk, hD⟩
    have e3 : ds.take (0 + its.length) = ds := List.take_of_length_le (by omega)
    rw [e3] at hD
    have n1 : s'.heap.get? kS = some (seqObj "list" kA e) := (J.pin _ (List.mem_append_right _ List.mem_cons_self)).1
    have n2 : s'.heap.get? a = some (seqObj "list" #[] e1) := (J.pin (a, seqObj "list" #[] e1) (List.mem_append_right _ (List.mem_cons_of_mem _ List.mem_cons_self))).1
    have m2 : H' a = none := (J.pin (a, seqObj "list" #[] e1) (List.mem_append_right _ (List.mem_cons_of_mem _ List.mem_cons_self))).2.1
    have hE := dp_each J hD rk
    have hsz2 : kA.size = its.length := by
      have h1 := rk.length
      have h2 := hE.length
      rw [Array.length_toList] at h1 h2
      omega
    try dsimp only
    refine wpAny_bind (listItems_at n1 rfl ?_)
    obtain ⟨G, G1, G2⟩ := restrict s'.heap fun b => decide (b ≠ kS)
    have gk : ∀ b o, b ≠ kS → s'.heap.get? b = some o → G.get? b = some o := fun b o hb e => by
      rw [G1 b (decide_eq_true hb)]
      exact e
    have ga : G.get? kS = none := G2 kS (decide_eq_false fun z => z rfl)
    have gs : PySem.W.KeepsBut a G s'.heap := fun b o _ e => by
      by_cases hb : b = kS
      · rw [hb, ga] at e
        cases e
      · rw [← G1 b (decide_eq_true hb)]
        exact e
    have hcs := SortsAt_data_of (A := X.A.in1.in1) (prog := X.prog) (w := X.w) hE hal hk (fun d hd => by have := hu d hd; show X.A.units + 1 + 1 + d.depth < _; omega)
    refine PySem.W.keyH_end (κ := PySem.W.dataKind s'.heap ds) (h₁ := G) (vs := its) gs ga n1 n2 (Nat.ne_of_gt hka) hcs hsz2 hzi fun h3 tk3 c k3 n3 => ⟨rfl, ?_⟩
    have hzip := zip_each ds rv hlen
    have ko : PySem.W.KeyedOut false ((xs.zip ds).map Prod.snd) its (PySem.W.sortVals (PySem.W.dataKind s'.heap ds) false kA.toList its) := by
      rw [zip_snd xs ds hlen]
      exact ⟨s'.heap, kA.toList, hal, rfl, hE⟩
    have hout := each_vals (PySem.W.keyedOut_each Prod.snd ko hzip)
    have hlz : (byKey xs ds).length ≤ sizeLine := by
      show (List.map _ _).length ≤ _
      rw [List.length_map, List.length_mergeSort, List.length_zip]
      omega
    exact ⟨.ref a, upd H' a (.lst (byKey xs ds)), laidEnd (X := X) (pins := pins) (t' := tk3) (J.pins_of fun p hp => J.pin p (List.mem_append_right _ (by
        rcases List.mem_cons.mp hp with z | hp
        · rw [z]
          exact List.mem_cons_self
        rcases List.mem_cons.mp hp with z | hp
        · rw [z]
          exact List.mem_cons_of_mem _ List.mem_cons_self
        · exact List.mem_cons_of_mem _ (List.mem_cons_of_mem _ (List.mem_cons_of_mem _ hp))))) (Nat.ne_of_gt hka) (by omega) (by omega) hcS (fun p hp => by
          rcases List.mem_append.mp hp with z | z
          · exact hpS p (List.mem_append_left _ z)
          · exact hpS p (List.mem_append_right _ (List.mem_cons_of_mem _ z))) (fun b u h1 h2 e => k3 b u h1 (gk b u h2 e)) n3 hout hlz, rfl, q H' eH hp0 m2⟩
/-- sorted(xs, key=f): f is an object of ours, each of its calls is told -/
theorem sorted_run {l f : Addr} {fo : Obj} {xs : List V} {ds : List PyData} {P0 : Hp → Prop} {Q : VK} (I : Inv X pins σ H s) (hs : SqL X.K H l xs) (hf : s.heap.get? f = some fo) (hfn : H f = none) (hfr : f ≠ X.env.locals ∧ f ∉ X.fs) (hfc : ∀ v, fo.data ≠ .cell v)
    (hal : PySem.W.AllAlike ds) (hk : PySem.W.Sortable ds) (hlen : ds.length = xs.length) (hu : ∀ d, d ∈ ds → X.A.units + 2 + d.depth < cLine) (p0 : P0 H)
    (turn : ∀ (i : Nat) (v : V) (u : Value) (d : PyData) (s' : Shared) (H' : Hp), xs[i]? = some v → ds[i]? = some d → RelV v u → Env0 X.prog X.w X.K X.mg X.base X.A.in1.in1 X.stack s' H' → s'.heap.get? f = some fo → Ext H H' → P0 H' →
      wpAny (model X.prog X.w) X.A.in1.in1 (call (.ref f) [u]) (CE X.stack X.prog X.w H' s' (fun kv H'' => Dp X.K H'' kv d ∧ Ext H' H'' ∧ P0 H'')) (fun _ _ => False) s')
    (q : ∀ (H' : Hp) (p : Addr), Ext H H' → P0 H' → H' p = none → Q (.ref p) (upd H' p (.lst (byKey xs ds)))) :
    wpAny (model X.prog X.w) X.A (call (.builtin "sorted") [.ref l] [(Str.ofString "key", .ref f)]) (EP X pins σ Q) X.xe s := by
  obtain ⟨its, rv, hl, hz⟩ := I.list hs
  have hzi : its.length ≤ sizeLine := by rw [← rv.length]; exact hz
  have hil : its.length = xs.length := rv.length.symm
  refine PySem.W.sorted_of_sort hl.isList hzi (PyProof.Rows.ksk_s1 _ _) (fun _ => PyProof.Rows.ksk_l1 _ _) fun E' => ?_
  have hfl : @LT.lt Nat _ f s.heap.objs.size := Heap.lt_size hf
  exact sort_body (s := { s with heap := PySem.W.copyHeap s.heap its }) I (Nat.le_succ _) ⟨_, hf⟩ (I.kept (t' := s.toks) fun b o e => PySem.W.copyHeap_old e) rv hz (PySem.W.copyHeap_at s.heap its) (I.hok.fresh (Nat.le_succ _)) (PySem.W.copyHeap_old hf) hfn hfr hfc hal hk hlen hu p0 turn fun H' e1 e2 e3 => q H' _ e1 e2 e3
end
theorem sqL_extN {K : PySem.W.Frag} {H H' : Hp} {a : Addr} {xs : List V} (h : SqL K H a xs) (e : ExtN H H') : SqL K H' a xs :=
  h.elim (fun h => .inl (h.elim (fun h => .inl (e _ _ h fun _ z => nomatch z)) fun ⟨o, h⟩ => .inr ⟨o, e _ _ h fun _ z => nomatch z⟩)) fun h => .inr h
def one (R : V → Hp → Prop) : List V → Hp → Prop := fun vs H => match vs with
  | [v] => R v H
  | _ => False
theorem rel_ref {a : Addr} {u : Value} (r : RelV (.ref a) u) : u = .ref a := r
/-- sorted(xs, key=lambda x: body): the reading -/
def tSortL (K : PySem.W.Frag) (T : List (Addr × Str)) (Nl : List Str) (tb : TE) (t : TE) : TE := fun σ H Q => t σ H fun v H1 => ∃ (l : Addr) (xs : List V) (ds : List PyData) (P0 : Hp → Prop), v = .ref l ∧ SqL K H1 l xs ∧ PySem.W.AllAlike ds ∧ PySem.W.Sortable ds ∧ ds.length = xs.length ∧ (∀ d, d ∈ ds → d.depth ≤ 50) ∧ Tabs T H1 ∧
  ∀ H2, ExtN H1 H2 → Tabs T H2 → P0 H2 ∧ (∀ (i : Nat) (v : V) (d : PyData) (H' : Hp), xs[i]? = some v → ds[i]? = some d → Ext H2 H' → P0 H' → tb (L2.start Nl [v]) H' fun kv H'' => Dp K H'' kv d ∧ Ext H' H'' ∧ P0 H'') ∧
    ∀ (H' : Hp) (p : Addr), Ext H2 H' → P0 H' → H' p = none → Q (.ref p) (upd H' p (.lst (byKey xs ds)))
section
variable {X : Cx}
theorem pe_sortLam {T : List (Addr × Str)} {c P : Addr} {k : Nat} {y : Str} {e body : Expr} {params : Arguments} {scope : Scope} {p kpos lpos pos : Pos} {Nl : List Str} {t tb : TE} (hg : Gl X "sorted") (hm : X.mg "sorted" = none) (hv : bootBuiltins "sorted" = some (.builtin "sorted")) (ha : PA X [e] (tCons t tNil))
    (hfs : ∀ b, b ∉ frs X.stack → b ≠ X.env.locals ∧ b ∉ X.fs) (TB : TabB X.base X.mg c P) (hcode : X.env.code = .ref c) (hmT : (P, X.env.qual ++ "<lambda>") ∈ T) (hu : ∀ p ∈ T, p.1 = P → p.2 = X.env.qual ++ "<lambda>") (hr : Room (k + 3) X.A) (S : FnScope Nl [y] scope)
    (hdef : defaultsOf params X.env = ([], [])) (hcl : cloFrom X.env.cells scope.names [] = []) (hbind : ∀ (q : Str) (pm cv ctv u : Value), bindArgs (PySem.W.kla_fn "<lambda>" q params body scope [] pm cv ctv) ⟨[u], []⟩ = pure ([y].zip [u]))
    (hbody : ∀ (A : Around) (outer : List Env) (s : Shared) (H : Hp) (f c' : Addr), Room k (A.deeper (envOfC (X.env.qual ++ "<lambda>") scope s.heap.objs.size f (.ref c'))) →
      PE (cxOf C8.CX0 X.prog X.w X.K X.mg X.base Nl (X.env.qual ++ "<lambda>") scope f (.ref c') A outer s H C8.E0) body tb)
    (he : backTo pos (starEach [e] X.env) = (false, eval e X.env) :: backTo pos (starEach [] X.env) := by rfl) (hpl : (backTo pos (starEach [e] X.env)).any (·.1) = false := by rfl) :
    PE X (.Call (.Name "sorted" p) [e] [⟨some (Str.ofString "key"), .Lambda params body scope lpos, kpos⟩] pos) (tSortL X.K T Nl tb t) := by
  refine ⟨fun pins s σ H Q I h => ?_⟩
  refine wpAny_Call_Name_kw (ld_blt I hg hm hv ?_ (by decide) (by decide))
  refine PyProof.Rows.callWith_kw (thn (ha.run pos pins s σ H (one _) I h) fun us s1 ⟨vs, H1, I1, r1, q1⟩ => ?_) he hpl
  match vs, r1, q1 with
  | [v], .cons r1 .nil, q1 =>
    obtain ⟨l, xs, ds, P0, rfl, hs, hal, hk, hlen, hdp, hT, q⟩ := q1
    obtain rfl := rel_ref r1
    show wpAny _ _ (evalAll [(do let v ← eval (.Lambda params body scope lpos) X.env; standAt pos; pure v)]) _ _ s1
    refine wpAny_evalAll_cons (wpAny_bind (lam_make2 I1 TB hcode hmT hu hT hdef (fun y hy e => ?_) fun f c' pm' ctv H2 s' I2 eN T1 hf hfn hfr hco => wpAny_bind (wpAny_standAt (wpAny_pure (wpAny_evalAll_nil ?_)))))
    · exact absurd e (S.nofree y hy)
    rw [hcl] at hf
    obtain ⟨p0, turn, q⟩ := q H2 eN T1
    show wpAny _ _ (call (.builtin "sorted") [.ref l] [(Str.ofString "key", .ref f)]) _ _ _
    refine sorted_run (P0 := P0) I2 (sqL_extN hs eN) hf hfn (hfs f hfr) (fun v z => by cases z) hal hk hlen (fun d hd => ?_) p0 (fun i v u d s2 H' hv hd ru e0 hf2 eH hp => ?_) q
    · have h1 := hr.un
      have h2 := hdp d hd
      omega
    · have hco2 : H' c' = some (CodeO c' (X.env.qual ++ "<lambda>")) := eH _ _ hco
      have rc := lam_run (Q := fun kv H'' => Dp X.K H'' kv d ∧ Ext H' H'' ∧ P0 H'') (E := C8.E0) (CX := C8.CX0) (us := [u]) (vs := [v]) (k := k) S hr.in1.in1 e0 hf2 hco2 (hbind _ _ _ _ _) (.cons ru .nil) rfl fun hr2 => ⟨tb, hbody _ _ _ _ _ _ hr2, turn i v d H' hv hd eH hp⟩
      refine wpAny_call (codeAny_mono rc fun r s3 hq => ?_)
      cases r with
      | error e => exact (show False from hq).elim
      | ok fl =>
        cases fl with
        | ret u => exact hq
        | next => exact False.elim hq
        | brk => exact False.elim hq
        | cont => exact False.elim hq
end
/-! ## sorted(d.items(), key=lambda x: body) -/
section
variable {X : Cx} {pins : List (Addr × Obj)} {σ : L2.St} {H : Hp} {s : Shared}
theorem pairs_laid {h' : Heap} {tk : Nat} {kvs : List (Key × V)} {vs : List (Key × Value)} {as : List Addr} (I : Inv X pins σ H s) (kv : KV kvs vs) (hk : ∀ b o, s.heap.get? b = some o → h'.get? b = some o) (hl : as.length = vs.length) (hG : PySem.W.KdxG (mixKind X.prog X.w) vs s.heap.objs.size h' as) :
    ∃ H' : Hp, Ext H H' ∧ (∀ t ∈ as, H t = none ∧ s.heap.objs.size < t) ∧ (∀ b, b ∉ as → H' b = H b) ∧ Paired (fun (t : Addr) (q : Key × V) => H' t = some (.tup [kV q.1, q.2])) as kvs ∧ Inv X pins σ H' { s with heap := h', toks := tk } := by
  have lk : kvs.length = vs.length := Paired.length kv
  have nd : as.Nodup := List.Pairwise.imp (fun {a b} (h : a < b) => Nat.ne_of_lt h) hG.rise
  have new : ∀ t ∈ as, H t = none := fun t ht => I.hok.fresh (Nat.le_of_lt (hG.above t ht))
  have atP := LiI.putT_at as kvs H (by omega) nd
  have off : ∀ b, b ∉ as → LiI.putT H as kvs b = H b := fun b h1 => LiI.putT_off as kvs _ h1
  have low : ∀ b o, s.heap.get? b = some o → b ∉ as := fun b o e z => absurd (Heap.lt_size e) (Nat.not_lt.mpr (Nat.le_of_lt (hG.above b z)))
  have kp : ∀ b u, H b = some u → (LiI.putT H as kvs) b = some u := fun b u e => by
    rw [off b (fun z => by rw [new b z] at e; cases e)]
    exact e
  refine ⟨LiI.putT H as kvs, kp, fun t ht => ⟨new t ht, hG.above t ht⟩, off, atP, ?_⟩
  refine I.call' (ch := []) rfl ⟨fun b o q _ _ _ => hk b o q, fun b o q _ _ _ => ⟨o.slots, hk b o q⟩, fun b o q n _ => ?_, fun b o q _ => ⟨o, hk b o q⟩, fun b xs q => kp b _ q, fun b o u q => kp b _ q, fun b ps q => ⟨#[], by rw [kp b _ q]; simp⟩⟩ (fun b u q => ?_) I.bare fun b z => by simp at z
  · rw [off b (low b o q)]
    exact n
  · by_cases hb : b ∈ as
    · obtain ⟨j, pk, e1, e2, e3⟩ := LiI.paired_ix atP hb
      rw [e3] at q
      cases q
      obtain ⟨key, k, x, f1, f2, f3⟩ := hG.pairs j b e1
      obtain ⟨qv, g1, g2, g3⟩ := LiI.paired_get kv e2
      rw [f1] at g1
      cases g1
      have rk : RelV (kV pk.1) key := by
        rw [g2]
        exact relV_key (show keyIs k key = true from f2)
      exact ⟨by show 2 ≤ sizeLine; decide, [key, x], .cons rk (.cons g3 .nil), ⟨_, f3, rfl, _, rfl⟩⟩
    · rw [off b hb] at q
      exact (I.hok b u q).stay (fun d v _ y => hk d v y) (fun d y => kp d _ y) fun d xs y => kp d _ y
/-- sorted(v, key=f), v the view of a dict's items -/
theorem sorted_runI {r d f : Addr} {fo : Obj} {kvs : List (Key × V)} {ds : List PyData} {P0 : List Addr → Hp → Prop} {Q : VK} (hc : X.calm = true) (I : Inv X pins σ H s) (hd : H d = some (.dK kvs)) (hr : s.heap.IsItemsView r d) (hf : s.heap.get? f = some fo) (hfn : H f = none) (hfr : f ≠ X.env.locals ∧ f ∉ X.fs) (hfc : ∀ v, fo.data ≠ .cell v)
    (hal : PySem.W.AllAlike ds) (hk : PySem.W.Sortable ds) (hlen : ds.length = kvs.length) (hu : ∀ d, d ∈ ds → X.A.units + 2 + d.depth < cLine)
    (h : ∀ (H2 : Hp) (ts : List Addr), Ext H H2 → (∀ t ∈ ts, H t = none) → Paired (fun (t : Addr) (q : Key × V) => H2 t = some (.tup [kV q.1, q.2])) ts kvs → P0 ts H2 ∧
      (∀ (i : Nat) (v : V) (u : Value) (d : PyData) (s' : Shared) (H' : Hp), (ts.map V.ref)[i]? = some v → ds[i]? = some d → RelV v u → Env0 X.prog X.w X.K X.mg X.base X.A.in1.in1 X.stack s' H' → s'.heap.get? f = some fo → Ext H2 H' → P0 ts H' →
        wpAny (model X.prog X.w) X.A.in1.in1 (call (.ref f) [u]) (CE X.stack X.prog X.w H' s' (fun kv H'' => Dp X.K H'' kv d ∧ Ext H' H'' ∧ P0 ts H'')) (fun _ _ => False) s') ∧
      ∀ (H' : Hp) (p : Addr), Ext H2 H' → P0 ts H' → H' p = none → Q (.ref p) (upd H' p (.lst (byKey (ts.map V.ref) ds)))) :
    wpAny (model X.prog X.w) X.A (call (.builtin "sorted") [.ref r] [(Str.ofString "key", .ref f)]) (EP X pins σ Q) X.xe s := by
  obtain ⟨hz, hs0, vs, kv, hdo⟩ := I.hok d _ hd
  obtain ⟨ep, hat⟩ := hdo.dictAt
  have lk : kvs.length = vs.length := Paired.length kv
  refine PyProof.Rows.call_function_entry_kw PyProof.Rows.kind_sorted PyProof.Rows.plain_sorted PyProof.Rows.entry_sorted (PyProof.Rows.ksk_s1 _ _) ?_
  unfold Builtin.«sorted»
  refine wpAny_bind (m := checkCount "sorted" 1 1 _) (wpAny_pure ?_)
  refine wpAny_bind (PySem.W.kdx_collect (knd := mixKind X.prog X.w) (kvs := vs) (ep := ep) (I.ok.hd hc) hr hat (by omega) fun h' tk as hkp hl hG => ?_)
  obtain ⟨H2, e2, hn2, hoff, hP, J⟩ := pairs_laid (tk := tk) I kv hkp hl hG
  have hla : (as.map Value.ref).length ≤ sizeLine := by rw [List.length_map]; omega
  refine wpAny_bind (wpAny_newList ?_ hla)
  obtain ⟨p0, turn, q⟩ := h H2 as e2 (fun t ht => (hn2 t ht).1) hP
  have hkk : ∀ b o, h'.get? b = some o → (h'.push (seqObj "list" (as.map Value.ref).toArray 0)).get? b = some o := fun b o e => Heap.get?_push_of_some _ e
  have hfn2 : H2 f = none := by
    rw [hoff f fun z => Nat.lt_irrefl _ (Nat.lt_trans (hn2 f z).2 (Heap.lt_size hf))]
    exact hfn
  refine wpAny_bind (wpAny_holding (wpAny_call_entry_kw slot_list_sort ⟨_, Heap.get?_push_size _ rfl, rfl⟩ entry_list_sort ?body (PyProof.Rows.ksk_l1 _ _)))
  case body =>
    refine wpAny_mono (sort_body (s := { s with heap := h'.push (seqObj "list" (as.map Value.ref).toArray 0), toks := tk }) (xs := as.map V.ref) (its := as.map Value.ref) (ds := ds) (Q := Q) (E' := fun _ _ => False) J (Nat.le_refl _) ⟨_, hkp _ _ hf⟩ (J.kept (t' := tk) hkk) (LiI.vals_refs as) (by rw [List.length_map]; omega) (Heap.get?_push_size _ rfl) (J.hok.fresh (Nat.le_refl _)) (hkk _ _ (hkp _ _ hf)) hfn2 hfr hfc hal hk (by rw [List.length_map]; omega) hu p0 turn fun H' a1 a2 a3 => q H' _ a1 a2 a3) (fun f s' hf => ?_) fun _ _ e => e.elim
    obtain ⟨rfl, hq⟩ := hf
    exact ⟨_, rfl, wpAny_pure ⟨_, rfl, hq⟩⟩
end
/-- sorted(e.items(), key=lambda x: body): the reading -/
def tSortI (K : PySem.W.Frag) (T : List (Addr × Str)) (Nl : List Str) (tb : TE) (te : TE) : TE := fun σ H Q => te σ H fun v H1 => ∃ (d : Addr) (kvs : List (Key × V)) (ds : List PyData) (P0 : List Addr → Hp → Prop), v = .ref d ∧ H1 d = some (.dK kvs) ∧ PySem.W.AllAlike ds ∧ PySem.W.Sortable ds ∧ ds.length = kvs.length ∧ (∀ d, d ∈ ds → d.depth ≤ 50) ∧ Tabs T H1 ∧
  ∀ (H2 : Hp) (ts : List Addr), ExtN H1 H2 → Tabs T H2 → Paired (fun (t : Addr) (q : Key × V) => H2 t = some (.tup [kV q.1, q.2])) ts kvs → P0 ts H2 ∧
    (∀ (i : Nat) (v : V) (d : PyData) (H' : Hp), (ts.map V.ref)[i]? = some v → ds[i]? = some d → Ext H2 H' → P0 ts H' → tb (L2.start Nl [v]) H' fun kv H'' => Dp K H'' kv d ∧ Ext H' H'' ∧ P0 ts H'') ∧
    ∀ (H' : Hp) (p : Addr), Ext H2 H' → P0 ts H' → H' p = none → Q (.ref p) (upd H' p (.lst (byKey (ts.map V.ref) ds)))
section
variable {X : Cx}
theorem pe_sortLamI {T : List (Addr × Str)} {c P : Addr} {k : Nat} {y : Str} {e body : Expr} {params : Arguments} {scope : Scope} {p apos cpos kpos lpos pos : Pos} {Nl : List Str} {te tb : TE} (hca : X.calm = true) (hg : Gl X "sorted") (hm : X.mg "sorted" = none) (hv : bootBuiltins "sorted" = some (.builtin "sorted")) (hE : PE X e te)
    (hfs : ∀ b, b ∉ frs X.stack → b ≠ X.env.locals ∧ b ∉ X.fs) (TB : TabB X.base X.mg c P) (hcode : X.env.code = .ref c) (hmT : (P, X.env.qual ++ "<lambda>") ∈ T) (hu : ∀ p ∈ T, p.1 = P → p.2 = X.env.qual ++ "<lambda>") (hr : Room (k + 3) X.A) (S : FnScope Nl [y] scope)
    (hdef : defaultsOf params X.env = ([], [])) (hcl : cloFrom X.env.cells scope.names [] = []) (hbind : ∀ (q : Str) (pm cv ctv u : Value), bindArgs (PySem.W.kla_fn "<lambda>" q params body scope [] pm cv ctv) ⟨[u], []⟩ = pure ([y].zip [u]))
    (hbody : ∀ (A : Around) (outer : List Env) (s : Shared) (H : Hp) (f c' : Addr), Room k (A.deeper (envOfC (X.env.qual ++ "<lambda>") scope s.heap.objs.size f (.ref c'))) →
      PE (cxOf C8.CX0 X.prog X.w X.K X.mg X.base Nl (X.env.qual ++ "<lambda>") scope f (.ref c') A outer s H C8.E0) body tb)
    (hbase : attributeBase e "items" X.env (eval e X.env) = eval e X.env := by rfl) (hline : (apos.endLine == cpos.line) = true := by rfl)
    (hs : starEach [.Call (.Attribute e "items" apos) [] [] cpos] X.env = (false, eval (.Call (.Attribute e "items" apos) [] [] cpos) X.env) :: starEach [] X.env := by rfl)
    (he : backTo pos (starEach [.Call (.Attribute e "items" apos) [] [] cpos] X.env) = (false, eval (.Call (.Attribute e "items" apos) [] [] cpos) X.env) :: backTo pos (starEach [] X.env) := by rfl) (hpl : (backTo pos (starEach [.Call (.Attribute e "items" apos) [] [] cpos] X.env)).any (·.1) = false := by rfl) :
    PE X (.Call (.Name "sorted" p) [.Call (.Attribute e "items" apos) [] [] cpos] [⟨some (Str.ofString "key"), .Lambda params body scope lpos, kpos⟩] pos) (tSortI X.K T Nl tb te) := by
  refine ⟨fun pins s σ H Q I h => ?_⟩
  refine wpAny_Call_Name_kw (ld_blt I hg hm hv ?_ (by decide) (by decide))
  refine PyProof.Rows.callWith_kw ?_ he hpl
  rw [he]
  refine Calls.spliced_cons ?_
  refine wpAny_Call_method (T := "dict") (id := "dict.items") hbase rfl hline F.plainAttrs_dict F.slot_dict_items F.type_dict_items (thn (hE.run pins s σ H _ I h) fun u s1 ⟨x, H1, I1, rx, q1⟩ => ?_)
  obtain ⟨d, kvs, ds, P0, rfl, hd, hal, hk, hlen, hdp, hT, q⟩ := q1
  obtain rfl : u = Value.ref d := rx
  obtain ⟨hz, hs0, vs, kv, hdo⟩ := I1.hok d _ hd
  have lk : kvs.length = vs.length := Paired.length kv
  have I2 : Inv X ((s1.heap.objs.size, { cls := .type "dict_items", data := .fields #[.ref d] }) :: pins) σ H1 { s1 with heap := s1.heap.push { cls := .type "dict_items", data := .fields #[.ref d] } } := ClX.pin_new (t' := s1.toks) I1 (fun b ob q => Heap.get?_push_of_some _ q) (Nat.le_refl _) (Heap.get?_push_size _ rfl) (fun v z => by cases z)
  refine ⟨hdo.typeIs, hdo.mapOf.noDict, ?_⟩
  show wpAny _ _ (callWith cpos (.builtin "dict.items") [.ref d] [] []) _ X.xe s1
  refine method_meetsIn F.slot_dict_items F.entry_dict_items rfl (PySem.evalArgs_none ⟨rfl, hdo.typeIs, F.args_dict_items_1 _, _, meets_dict_items (mixKind X.prog X.w) d hs0, ⟨vs, hdo⟩, ?_⟩)
  refine Calls.spliced_nil ?_
  show wpAny _ _ (evalAll [(do let v ← eval (.Lambda params body scope lpos) X.env; standAt pos; pure v)]) _ _ _
  refine wpAny_evalAll_cons (wpAny_bind (lam_make2 I2 TB hcode hmT hu hT hdef (fun y hy e => ?_) fun f c' pm' ctv H2 s' I3 eN T1 hf hfn hfr hco => wpAny_bind (wpAny_standAt (wpAny_pure (wpAny_evalAll_nil ?_)))))
  · exact absurd e (S.nofree y hy)
  rw [hcl] at hf
  show wpAny _ _ (call (.builtin "sorted") [.ref s1.heap.objs.size] [(Str.ofString "key", .ref f)]) _ _ _
  have hd2 : H2 d = some (.dK kvs) := eN _ _ hd fun ps z => nomatch z
  have hview : s'.heap.IsItemsView s1.heap.objs.size d := ⟨{ cls := .type "dict_items", data := .fields #[.ref d] }, ClX.pin_at I3, rfl, rfl⟩
  refine wpAny_mono (sorted_runI (P0 := P0) (Q := Q) hca I3 hd2 hview hf hfn (hfs f hfr) (fun v z => by cases z) hal hk hlen (fun d hd => ?_) fun H3 ts e3 hts hP => ?_) (fun v s2 h2 => ClX.unpinE h2) fun _ _ e => e
  · have h1 := hr.un
    have h2 := hdp d hd
    omega
  · have T3 : Tabs T H3 := T1.ext e3
    obtain ⟨p0, turn, q⟩ := q H3 ts (eN.trans (ExtN.of e3)) T3 hP
    refine ⟨p0, fun i v u d s2 H' hv hd ru e0 hf2 eH hp => ?_, q⟩
    have hco2 : H' c' = some (CodeO c' (X.env.qual ++ "<lambda>")) := eH _ _ (e3 _ _ hco)
    have rc := lam_run (Q := fun kv H'' => Dp X.K H'' kv d ∧ Ext H' H'' ∧ P0 ts H'') (E := C8.E0) (CX := C8.CX0) (us := [u]) (vs := [v]) (k := k) S hr.in1.in1 e0 hf2 hco2 (hbind _ _ _ _ _) (.cons ru .nil) rfl fun hr2 => ⟨tb, hbody _ _ _ _ _ _ hr2, turn i v d H' hv hd eH hp⟩
    refine wpAny_call (codeAny_mono rc fun r s3 hq => ?_)
    cases r with
    | error e => exact (show False from hq).elim
    | ok fl =>
      cases fl with
      | ret u => exact hq
      | next => exact False.elim hq
      | brk => exact False.elim hq
      | cont => exact False.elim hq
end
/-! ## a def whose code object is told -/
structure DefC (K : PySem.W.Frag) (mg : Str → Option Value) (x : Str) (st : Stmt) (ps : List Str) (f : Addr) (fd : FuncData) (c : Addr) : Prop where
  ex : ∃ (oc : Value) (od : Option Addr) (kV doc pm : Value) (an : Option Addr) (ct : Value) (osl : Array (Option Value)),
    fd = PySem.W.fnOf x x (defArgs st) (defBody st) (defScope st) .none kV doc pm an (.ref c) ct ∧ K.lookup f = some ⟨oc, od, .func fd, osl⟩ ∧ PySem.W.codeIn K (.ref c) x = true
  F : Fun K x x st f fd
  b : Binds K fd ps []
  g : mg x = some (.ref f)
section
variable {P : Program} {w : World} {K : PySem.W.Frag} {mg : Str → Option Value} {base : Heap}
theorem DefC.ok {x : Str} {st : Stmt} {f c : Addr} {fd : FuncData} {N ps : List Str} {k : Nat} {sp : Sp} (D : DefC K mg x st ps f fd c) (S : FnScope N ps (defScope st)) (len : ∀ vs H Q E, sp vs H Q E → vs.length = ps.length)
    (hbody : ∀ (A : Around) (outer : List Env) (s : Shared) (H : Hp) (vs : List V) (Q : VK) (E : XK), Room k (A.deeper (envOfC x (defScope st) s.heap.objs.size f (.ref c))) → sp vs H Q E →
      ∃ t, PSs (cxOf CX0 P w K mg base N x (defScope st) f (.ref c) A outer s H E).nox (defBody st) t ∧ t { nx := fun _ H' => Q .non H', rt := Q } (start N vs) H) : FnOk P w K mg base CX0 (k + 1) f fd ps sp := by
  obtain ⟨oc, od, kV, doc, pm, an, ct, osl, rfl, lk, hcd⟩ := D.ex
  refine fn_of lk hcd S len fun A outer s H vs Q E hr hsp => ?_
  obtain ⟨t, h, q⟩ := hbody A outer s H vs Q E hr hsp
  exact ⟨t, h.nox, q⟩
end
end HS
namespace DM
open PySem PySem.Spec PyProof.Rows L2 SX HL
/-! ## deeds: the mathematics -/
abbrev Mark := Nat × Nat
inductive Deed
  | back (n : Nat)
  | change (m : List Nat) (rem : List Mark) (beh : Option Mark) (num : Nat) (txt : List Nat)
deriving DecidableEq
/-- what a change inserts -/
abbrev Ent := Mark × Option Mark × Nat
def ins (r : Nat) : Nat → Option Mark → List Nat → List Ent
  | _, _, [] => []
  | n, b, c :: t => ((n, r), b, c) :: ins r (n + 1) (some (n, r)) t
theorem ins_len (r : Nat) : ∀ (t : List Nat) (n : Nat) (b : Option Mark), (ins r n b t).length = t.length
  | [], _, _ => rfl
  | c :: t, n, b => by
    show (ins r (n + 1) (some (n, r)) t).length + 1 = _
    rw [ins_len r t]
    rfl
theorem ins_get (r : Nat) : ∀ (t : List Nat) (n : Nat) (b : Option Mark) (k : Nat), k < t.length → (ins r n b t)[k]? = some ((n + k, r), (if k = 0 then b else some (n + k - 1, r)), t.getD k 0)
  | [], _, _, k, h => absurd h (Nat.not_lt_zero _)
  | c :: t, n, b, 0, _ => rfl
  | c :: t, n, b, k + 1, h => by
    show (ins r (n + 1) (some (n, r)) t)[k]? = _
    rw [ins_get r t (n + 1) (some (n, r)) k (by simpa using h)]
    have e1 : n + 1 + k = n + (k + 1) := by omega
    rw [e1, if_neg (Nat.succ_ne_zero k)]
    by_cases hk : k = 0
    · subst hk
      rw [if_pos rfl]
      rfl
    · rw [if_neg hk]
      rfl
/-! ### which deeds are in force -/
def takes : Deed → Bool → List Nat → List Nat
  | .back n, true, t => n :: t
  | _, _, t => t
/-- place, deeds from the last one, places that are taken back -/
def fw : Nat → List Deed → List Nat → List Bool
  | _, [], _ => []
  | p, d :: r, t => (!decide (p ∈ t)) :: fw (p - 1) r (takes d (!decide (p ∈ t)) t)
def tk : Nat → List Deed → List Nat → List Nat
  | _, [], t => t
  | p, d :: r, t => tk (p - 1) r (takes d (!decide (p ∈ t)) t)
theorem fw_len : ∀ (l : List Deed) (p : Nat) (t : List Nat), (fw p l t).length = l.length
  | [], _, _ => rfl
  | d :: l, p, t => by
    show (fw _ l _).length + 1 = _
    rw [fw_len l]
    rfl
theorem fw_snoc : ∀ (l : List Deed) (p : Nat) (t : List Nat) (d : Deed), fw p (l ++ [d]) t = fw p l t ++ [!decide (p - l.length ∈ tk p l t)] ∧ tk p (l ++ [d]) t = takes d (!decide (p - l.length ∈ tk p l t)) (tk p l t)
  | [], p, t, d => ⟨rfl, rfl⟩
  | x :: l, p, t, d => by
    obtain ⟨h1, h2⟩ := fw_snoc l (p - 1) (takes x (!decide (p ∈ t)) t) d
    have e : p - 1 - l.length = p - (x :: l).length := by rw [List.length_cons]; omega
    rw [e] at h1 h2
    refine ⟨?_, h2⟩
    show _ :: fw (p - 1) (l ++ [d]) _ = _ :: (fw (p - 1) l _ ++ _)
    rw [h1]
    rfl
def forces (row : List Deed) : List Bool := (fw row.length row.reverse []).reverse
theorem forces_len (row : List Deed) : (forces row).length = row.length := by
  unfold forces
  rw [List.length_reverse, fw_len, List.length_reverse]
/-- x is taken back by one of the deeds behind -/
theorem mem_tk : ∀ (l : List Deed) (p : Nat) (t : List Nat) (x : Nat), x ∈ tk p l t ↔ x ∈ t ∨ ∃ j : Nat, (fw p l t)[j]? = some true ∧ l[j]? = some (.back x)
  | [], p, t, x => by simp [tk, fw]
  | d :: l, p, t, x => by
    show x ∈ tk (p - 1) l (takes d (!decide (p ∈ t)) t) ↔ _
    rw [mem_tk l]
    constructor
    · rintro (h | ⟨j, h1, h2⟩)
      · cases hd : d with
        | change => rw [hd] at h; exact .inl h
        | back n =>
          rw [hd] at h
          cases hp : (!decide (p ∈ t)) with
          | false => rw [hp] at h; exact .inl h
          | true =>
            rw [hp] at h
            rcases List.mem_cons.mp h with e | h
            · exact .inr ⟨0, by show some (!decide (p ∈ t)) = _; rw [hp], by rw [e]; rfl⟩
            · exact .inl h
      · exact .inr ⟨j + 1, h1, h2⟩
    · rintro (h | ⟨j, h1, h2⟩)
      · refine .inl ?_
        cases d with
        | change => exact h
        | back n =>
          cases (!decide (p ∈ t)) with
          | false => exact h
          | true => exact List.mem_cons_of_mem _ h
      · cases j with
        | zero =>
          have e1 : (!decide (p ∈ t)) = true := Option.some.inj h1
          have e2 : d = .back x := Option.some.inj h2
          rw [e1, e2]
          exact .inl (List.mem_cons_self ..)
        | succ j => exact .inr ⟨j, h1, h2⟩
/-- after the first k deeds from the last -/
theorem fw_take (row : List Deed) (k : Nat) (hk : k ≤ row.length) : (fw row.length row.reverse []).take k = fw row.length (row.reverse.take k) [] := by
  have key : ∀ (a b : List Deed) (p : Nat) (t : List Nat), (fw p (a ++ b) t).take a.length = fw p a t := by
    intro a
    induction a with
    | nil => intros; rfl
    | cons x a ih =>
      intro b p t
      show (_ :: fw (p - 1) (a ++ b) _).take (a.length + 1) = _ :: fw (p - 1) a _
      rw [List.take_succ_cons, ih]
  have h := key (row.reverse.take k) (row.reverse.drop k) row.length []
  rw [List.take_append_drop, List.length_take, List.length_reverse, Nat.min_eq_left hk] at h
  exact h
theorem fw_step (row : List Deed) (k : Nat) (d : Deed) (hd : row.reverse[k]? = some d) :
    fw row.length (row.reverse.take (k + 1)) [] = fw row.length (row.reverse.take k) [] ++ [!decide (row.length - k ∈ tk row.length (row.reverse.take k) [])] ∧
    tk row.length (row.reverse.take (k + 1)) [] = takes d (!decide (row.length - k ∈ tk row.length (row.reverse.take k) [])) (tk row.length (row.reverse.take k) []) := by
  have hk : k < row.length := by
    have := (List.getElem?_eq_some_iff.mp hd).1
    rwa [List.length_reverse] at this
  have hl : (row.reverse.take k).length = k := by rw [List.length_take, List.length_reverse]; omega
  have h := fw_snoc (row.reverse.take k) row.length [] d
  rw [hl] at h
  rw [take_snoc hd]
  exact h
/-- the law of forces: a deed is in force exactly if no later one in force takes it back -/
theorem forces_iff (row : List Deed) (i : Nat) (hi : i < row.length) : ∃ b, (forces row)[i]? = some b ∧ (b = true ↔ ¬ ∃ j : Nat, i < j ∧ (forces row)[j]? = some true ∧ row[j]? = some (.back (i + 1))) := by
  have hfl := forces_len row
  have key : ∀ j : Nat, j < row.length → (forces row)[j]? = (fw row.length row.reverse [])[row.length - 1 - j]? := fun j hj => by
    unfold forces
    rw [List.getElem?_reverse (by rw [fw_len, List.length_reverse]; exact hj), fw_len, List.length_reverse]
  have keyd : ∀ j : Nat, j < row.length → row[j]? = row.reverse[row.length - 1 - j]? := fun j hj => by
    rw [List.getElem?_reverse (by omega)]
    have : row.length - 1 - (row.length - 1 - j) = j := by omega
    rw [this]
  rw [key i hi]
  have hd : row.reverse[row.length - 1 - i]? = some row[i] := by rw [← keyd i hi]; exact List.getElem?_eq_getElem hi
  obtain ⟨h1, _⟩ := fw_step row (row.length - 1 - i) row[i] hd
  have e1 : row.length - (row.length - 1 - i) = i + 1 := by omega
  rw [e1] at h1
  have h2 := fw_take row (row.length - 1 - i + 1) (by omega)
  have h3 : (fw row.length row.reverse [])[row.length - 1 - i]? = (fw row.length (row.reverse.take (row.length - 1 - i + 1)) [])[row.length - 1 - i]? := by
    rw [← h2, List.getElem?_take, if_pos (Nat.lt_succ_self _)]
  have hl : (fw row.length (row.reverse.take (row.length - 1 - i)) []).length = row.length - 1 - i := by rw [fw_len, List.length_take, List.length_reverse]; omega
  rw [h3, h1, List.getElem?_append_right (by omega), hl, Nat.sub_self]
  refine ⟨_, rfl, ?_⟩
  have hm := mem_tk (row.reverse.take (row.length - 1 - i)) row.length [] (i + 1)
  rw [Bool.not_eq_true', decide_eq_false_iff_not]
  refine not_congr (hm.trans ?_)
  constructor
  · rintro (h | ⟨j, hj1, hj2⟩)
    · cases h
    · have hjl : j < row.length - 1 - i := by
        have := (List.getElem?_eq_some_iff.mp hj1).1
        rwa [hl] at this
      refine ⟨row.length - 1 - j, by omega, ?_, ?_⟩
      · rw [key _ (by omega)]
        have : row.length - 1 - (row.length - 1 - j) = j := by omega
        rw [this]
        rw [← fw_take row _ (by omega), List.getElem?_take, if_pos hjl] at hj1
        exact hj1
      · rw [keyd _ (by omega)]
        have : row.length - 1 - (row.length - 1 - j) = j := by omega
        rw [this]
        rw [List.getElem?_take, if_pos hjl] at hj2
        exact hj2
  · rintro ⟨j, h0, hj1, hj2⟩
    have hj : j < row.length := by
      have := (List.getElem?_eq_some_iff.mp hj2).1
      exact this
    refine .inr ⟨row.length - 1 - j, ?_, ?_⟩
    · rw [← fw_take row _ (by omega), List.getElem?_take, if_pos (by omega), ← key j hj]
      exact hj1
    · rw [List.getElem?_take, if_pos (by omega), ← keyd j hj]
      exact hj2
end DM
namespace DM
open PySem PySem.Spec PyProof.Rows L2 SX HL
/-! ## rows of deeds -/
abbrev Rows := Nat → List Deed
def isCh (m : List Nat) : Deed → Bool
  | .change m' _ _ _ _ => decide (m' = m)
  | .back _ => false
def entD (r : Nat) : Deed → List Ent
  | .change _ _ b n t => ins r n b t
  | .back _ => []
def remD : Deed → List Mark
  | .change _ x _ _ _ => x
  | .back _ => []
/-- the marks that a deed names -/
def nam : Deed → List Mark
  | .change _ x b _ _ => x ++ b.toList
  | .back _ => []
def numD : Deed → Nat
  | .change _ _ _ n _ => n
  | .back _ => 0
def endD : Deed → Nat
  | .change _ _ _ n t => n + t.length
  | .back _ => 0
abbrev Chg := Nat × Deed × Bool
abbrev EntF := Mark × Option Mark × Nat × Bool
def chR (rows : Rows) (m : List Nat) (r : Nat) : List Chg := (((rows r).zip (forces (rows r))).filter fun df => isCh m df.1).map fun df => (r, df.1, df.2)
def changes (rows : Rows) (m : List Nat) : List Chg := (List.range 8).flatMap (chR rows m)
def entF (c : Chg) : List EntF := (entD c.1 c.2.1).map fun e => (e.1, e.2.1, e.2.2, c.2.2)
def found (rows : Rows) (m : List Nat) : List EntF := (changes rows m).flatMap entF
def removed (rows : Rows) (m : List Nat) : List Mark := (changes rows m).flatMap fun c => if c.2.2 then remD c.2.1 else []
def marks (rows : Rows) (m : List Nat) : List Mark := (found rows m).map (·.1)
theorem zip_fst {α β : Type _} : ∀ (l : List α) (k : List β), l.length = k.length → (l.zip k).map Prod.fst = l
  | [], [], _ => rfl
  | x :: l, y :: k, h => by
    show x :: (l.zip k).map Prod.fst = _
    rw [zip_fst l k (by simpa using h)]
theorem zip_forces (row : List Deed) : (row.zip (forces row)).map Prod.fst = row := zip_fst _ _ (forces_len row).symm
theorem mem_changes {rows : Rows} {m : List Nat} {c : Chg} (h : c ∈ changes rows m) : c.1 < 8 ∧ c.2.1 ∈ rows c.1 ∧ isCh m c.2.1 = true := by
  obtain ⟨r, hr, h⟩ := List.mem_flatMap.mp h
  obtain ⟨df, hdf, rfl⟩ := List.mem_map.mp h
  obtain ⟨h1, h2⟩ := List.mem_filter.mp hdf
  refine ⟨List.mem_range.mp hr, ?_, h2⟩
  have := List.mem_map_of_mem (f := Prod.fst) h1
  rwa [zip_forces] at this
theorem changes_has {rows : Rows} {m : List Nat} {r : Nat} {d : Deed} (hr : r < 8) (hd : d ∈ rows r) (hm : isCh m d = true) : ∃ f, (r, d, f) ∈ changes rows m := by
  rw [← zip_forces (rows r)] at hd
  obtain ⟨⟨d', f⟩, h1, h2⟩ := List.mem_map.mp hd
  cases h2
  exact ⟨f, List.mem_flatMap.mpr ⟨r, List.mem_range.mpr hr, List.mem_map.mpr ⟨(d', f), List.mem_filter.mpr ⟨h1, hm⟩, rfl⟩⟩⟩
theorem mem_marks {rows : Rows} {m : List Nat} {x : Mark} : x ∈ marks rows m ↔ ∃ r d, r < 8 ∧ d ∈ rows r ∧ isCh m d = true ∧ x ∈ (entD r d).map (·.1) := by
  constructor
  · intro h
    obtain ⟨e, he, rfl⟩ := List.mem_map.mp h
    obtain ⟨c, hc, he⟩ := List.mem_flatMap.mp he
    obtain ⟨e', he', rfl⟩ := List.mem_map.mp he
    obtain ⟨h1, h2, h3⟩ := mem_changes hc
    exact ⟨c.1, c.2.1, h1, h2, h3, List.mem_map.mpr ⟨e', he', rfl⟩⟩
  · rintro ⟨r, d, hr, hd, hm, hx⟩
    obtain ⟨f, hc⟩ := changes_has hr hd hm
    obtain ⟨e, he, rfl⟩ := List.mem_map.mp hx
    exact List.mem_map.mpr ⟨(e.1, e.2.1, e.2.2, f), List.mem_flatMap.mpr ⟨_, hc, List.mem_map.mpr ⟨e, he, rfl⟩⟩, rfl⟩
theorem marks_mono {rows rows' : Rows} (h : ∀ r, r < 8 → ∀ d ∈ rows r, d ∈ rows' r) {m : List Nat} {x : Mark} (hx : x ∈ marks rows m) : x ∈ marks rows' m := by
  obtain ⟨r, d, hr, hd, hm, hx⟩ := mem_marks.mp hx
  exact mem_marks.mpr ⟨r, d, hr, h r hr d hd, hm, hx⟩
theorem mem_entD {r : Nat} {d : Deed} {e : Ent} (h : e ∈ entD r d) : ∃ m x b n t k, d = .change m x b n t ∧ k < t.length ∧ e = ((n + k, r), (if k = 0 then b else some (n + k - 1, r)), t.getD k 0) := by
  cases d with
  | back => cases h
  | change m x b n t =>
    obtain ⟨k, hk, he⟩ := List.mem_iff_getElem.mp h
    have hk' : k < t.length := by
      have : (entD r (.change m x b n t)).length = t.length := ins_len r t n b
      omega
    have h2 := ins_get r t n b k hk'
    have h3 : (ins r n b t)[k]? = some e := by
      rw [← he]
      exact List.getElem?_eq_getElem hk
    rw [h3] at h2
    exact ⟨m, x, b, n, t, k, rfl, hk', Option.some.inj h2⟩
theorem entD_has {r : Nat} {m : List Nat} {x : List Mark} {b : Option Mark} {n k : Nat} {t : List Nat} (hk : k < t.length) : (n + k, r) ∈ (entD r (.change m x b n t)).map (·.1) := by
  have h := ins_get r t n b k hk
  exact List.mem_map.mpr ⟨_, List.mem_of_getElem? h, rfl⟩
/-! ### rows as deeds make them -/
def mlt (a b : Mark) : Prop := a.1 < b.1 ∨ (a.1 = b.1 ∧ a.2 < b.2)
structure Good (rows : Rows) : Prop where
  num : ∀ r, r < 8 → (rows r).Pairwise fun a b => (∃ m x c n t, b = .change m x c n t) → endD a ≤ numD b
  nam : ∀ r, r < 8 → ∀ m x b n t, Deed.change m x b n t ∈ rows r → ∀ y ∈ x ++ b.toList, y ∈ marks rows m ∧ y.1 < n
theorem mlt_irrefl {a : Mark} : ¬ mlt a a := by
  rintro (h | ⟨_, h⟩) <;> omega
theorem mlt_trans {a b c : Mark} (h : mlt a b) (k : mlt b c) : mlt a c := by
  unfold mlt at *
  omega
theorem mlt_total {a b : Mark} (h : a ≠ b) : mlt a b ∨ mlt b a := by
  have : ¬ (a.1 = b.1 ∧ a.2 = b.2) := fun ⟨h1, h2⟩ => h (Prod.ext h1 h2)
  unfold mlt
  omega
theorem marks_nodup {rows : Rows} (G : Good rows) (m : List Nat) : (marks rows m).Nodup := by
  unfold marks found changes
  rw [List.map_flatMap]
  refine List.pairwise_flatMap.mpr ⟨fun c hc => ?_, ?_⟩
  · -- one deed
    obtain ⟨r, _, hc⟩ := List.mem_flatMap.mp hc
    unfold entF
    rw [List.map_map]
    have e : ((fun x : EntF => x.1) ∘ fun e : Ent => (e.1, e.2.1, e.2.2, c.2.2)) = fun e : Ent => e.1 := rfl
    rw [e]
    cases hd : c.2.1 with
    | back => exact List.Pairwise.nil
    | change m' x b n t =>
      show ((ins c.1 n b t).map fun e => e.1).Nodup
      have key : ∀ (t : List Nat) (n : Nat) (b : Option Mark), ((ins c.1 n b t).map fun e => e.1).Nodup ∧ ∀ y ∈ (ins c.1 n b t).map (fun e => e.1), n ≤ y.1 := by
        intro t
        induction t with
        | nil => intro n b; exact ⟨List.Pairwise.nil, fun y h => by cases h⟩
        | cons z t ih =>
          intro n b
          obtain ⟨h1, h2⟩ := ih (n + 1) (some (n, c.1))
          refine ⟨List.nodup_cons.mpr ⟨fun h => ?_, h1⟩, fun y hy => ?_⟩
          · have := h2 _ h
            simp at this
            omega
          · rcases List.mem_cons.mp hy with e | h
            · rw [e]; exact Nat.le_refl _
            · have := h2 _ h
              omega
      exact (key t n b).1
  · refine List.pairwise_flatMap.mpr ⟨fun r hr => ?_, ?_⟩
    · unfold chR
      refine List.pairwise_map.mpr (List.Pairwise.filter _ ?_)
      have hp : ((rows r).zip (forces (rows r))).Pairwise fun a b => (∃ m x c n t, b.1 = .change m x c n t) → endD a.1 ≤ numD b.1 := by
        have := G.num r (List.mem_range.mp hr)
        rw [← zip_forces (rows r)] at this
        exact List.pairwise_map.mp this
      refine hp.imp fun {a b} hab => ?_
      rintro x hx y hy rfl
      obtain ⟨e1, he1, rfl⟩ := List.mem_map.mp hx
      obtain ⟨e2, he2, h2⟩ := List.mem_map.mp hy
      obtain ⟨f1, hf1, rfl⟩ := List.mem_map.mp he1
      obtain ⟨f2, hf2, rfl⟩ := List.mem_map.mp he2
      obtain ⟨m1, x1, b1, n1, t1, k1, d1, hk1, rfl⟩ := mem_entD hf1
      obtain ⟨m2, x2, b2, n2, t2, k2, d2, hk2, rfl⟩ := mem_entD hf2
      have := hab ⟨_, _, _, _, _, d2⟩
      have e1' : a.1 = .change m1 x1 b1 n1 t1 := d1
      have e2' : b.1 = .change m2 x2 b2 n2 t2 := d2
      rw [e1', e2'] at this
      have h3 : n2 + k2 = n1 + k1 := congrArg Prod.fst h2
      have h4 : n1 + t1.length ≤ n2 := this
      omega
    · refine List.Pairwise.imp (R := fun a b => a ≠ b) (fun {a b} hab => ?_) List.nodup_range
      rintro c hc c' hc' x hx y hy rfl
      obtain ⟨df, _, rfl⟩ := List.mem_map.mp hc
      obtain ⟨df', _, rfl⟩ := List.mem_map.mp hc'
      obtain ⟨e1, he1, rfl⟩ := List.mem_map.mp hx
      obtain ⟨e2, he2, h2⟩ := List.mem_map.mp hy
      obtain ⟨f1, hf1, rfl⟩ := List.mem_map.mp he1
      obtain ⟨f2, hf2, rfl⟩ := List.mem_map.mp he2
      obtain ⟨_, _, _, n1, _, k1, _, _, rfl⟩ := mem_entD hf1
      obtain ⟨_, _, _, n2, _, k2, _, _, rfl⟩ := mem_entD hf2
      have h3 : ((n2 + k2, b) : Mark) = (n1 + k1, a) := h2
      exact hab (congrArg Prod.snd h3).symm
/-- what stands behind a mark is a lesser mark of the module -/
theorem behind_ok {rows : Rows} (G : Good rows) {m : List Nat} {e : EntF} (he : e ∈ found rows m) {x : Mark} (hx : e.2.1 = some x) : x ∈ marks rows m ∧ mlt x e.1 := by
  obtain ⟨c, hc, he⟩ := List.mem_flatMap.mp he
  obtain ⟨f, hf, rfl⟩ := List.mem_map.mp he
  obtain ⟨h1, h2, h3⟩ := mem_changes hc
  obtain ⟨m1, x1, b1, n1, t1, k1, d1, hk1, rfl⟩ := mem_entD hf
  rw [d1] at h2 h3
  have hm : m1 = m := of_decide_eq_true h3
  subst hm
  by_cases hk : k1 = 0
  · subst hk
    have hb : b1 = some x := hx
    have := G.nam c.1 h1 m1 x1 b1 n1 t1 h2 x (by rw [hb]; simp)
    exact ⟨this.1, .inl (by show x.1 < n1 + 0; omega)⟩
  · have hb : (if k1 = 0 then b1 else some (n1 + k1 - 1, c.1)) = some x := hx
    rw [if_neg hk] at hb
    cases hb
    refine ⟨mem_marks.mpr ⟨c.1, _, h1, h2, by simp [isCh], ?_⟩, .inl (by show n1 + k1 - 1 < n1 + k1; omega)⟩
    have : n1 + k1 - 1 = n1 + (k1 - 1) := by omega
    rw [this]
    exact entD_has (by omega)
/-! ### the row of a module -/
abbrev Cel := Mark × Nat × Bool
def slot (b : Option Mark) (row : List Cel) : Nat := match b with
  | none => 0
  | some x => (row.map (·.1)).idxOf x + 1
def put (rm : List Mark) (row : List Cel) (e : EntF) : List Cel := row.insertIdx (slot e.2.1 row) (e.1, e.2.2.1, e.2.2.2 && !decide (e.1 ∈ rm))
def build (rm : List Mark) (es : List EntF) : List Cel := es.foldl (put rm) []
theorem build_snoc (rm : List Mark) (es : List EntF) (e : EntF) : build rm (es ++ [e]) = put rm (build rm es) e := by
  unfold build
  rw [List.foldl_append]
  rfl
/-- sorted, and what each one stands behind is ahead of it -/
structure Srt (rows : Rows) (m : List Nat) (es : List EntF) : Prop where
  perm : es.Perm (found rows m)
  lt : es.Pairwise fun a b => mlt a.1 b.1
theorem slot_le {b : Option Mark} {row : List Cel} (h : ∀ x, b = some x → x ∈ row.map (·.1)) : slot b row ≤ row.length := by
  cases b with
  | none => exact Nat.zero_le _
  | some x =>
    have := List.idxOf_lt_length_of_mem (h x rfl)
    rw [List.length_map] at this
    exact this
theorem put_perm {rm : List Mark} {row : List Cel} {e : EntF} (h : ∀ x, e.2.1 = some x → x ∈ row.map (·.1)) : ((put rm row e).map (·.1)).Perm (e.1 :: row.map (·.1)) := by
  unfold put
  have h1 := List.perm_insertIdx (e.1, e.2.2.1, e.2.2.2 && !decide (e.1 ∈ rm)) row (slot_le h)
  exact h1.map (·.1)
theorem build_perm {rows : Rows} {m : List Nat} {es : List EntF} (G : Good rows) (S : Srt rows m es) (rm : List Mark) : ∀ i, i ≤ es.length → ((build rm (es.take i)).map (·.1)).Perm ((es.take i).map (·.1)) ∧
    ∀ e, es[i]? = some e → ∀ x, e.2.1 = some x → x ∈ (build rm (es.take i)).map (·.1) := by
  have back : ∀ i, i ≤ es.length → ∀ e, es[i]? = some e → ∀ x, e.2.1 = some x → x ∈ (es.take i).map (·.1) := by
    intro i hi e he x hx
    have hef : e ∈ found rows m := S.perm.mem_iff.mp (List.mem_of_getElem? he)
    obtain ⟨hm, hlt⟩ := behind_ok G hef hx
    obtain ⟨e', he', rfl⟩ := List.mem_map.mp hm
    obtain ⟨j, hj⟩ := List.mem_iff_getElem?.mp (S.perm.mem_iff.mpr he')
    have hji : j < i := by
      rcases Nat.lt_trichotomy j i with h | h | h
      · exact h
      · subst h
        rw [he] at hj
        cases hj
        exact absurd hlt mlt_irrefl
      · have h1 := (List.getElem?_eq_some_iff.mp he)
        have h2 := (List.getElem?_eq_some_iff.mp hj)
        have := List.pairwise_iff_getElem.mp S.lt i j h1.1 h2.1 h
        rw [h1.2, h2.2] at this
        exact absurd (mlt_trans this hlt) mlt_irrefl
    refine List.mem_map.mpr ⟨e', ?_, rfl⟩
    refine List.mem_of_getElem? (i := j) ?_
    rw [List.getElem?_take, if_pos hji]
    exact hj
  intro i
  induction i with
  | zero => exact fun hi => ⟨List.Perm.refl _, fun e he x hx => by have := back 0 hi e he x hx; simp at this⟩
  | succ i ih =>
    intro hi
    obtain ⟨h1, h2⟩ := ih (by omega)
    have he : es[i]? = some es[i] := List.getElem?_eq_getElem (by omega)
    have hp : ((build rm (es.take (i + 1))).map (·.1)).Perm ((es.take (i + 1)).map (·.1)) := by
      rw [take_snoc he, build_snoc, List.map_append]
      refine (put_perm (h2 _ he)).trans ?_
      refine (List.Perm.cons _ h1).trans ?_
      exact (List.perm_append_singleton ..).symm
    exact ⟨hp, fun e he x hx => hp.mem_iff.mpr (back (i + 1) hi e he x hx)⟩
end DM
namespace DM
open PySem PySem.Spec PyProof.Rows L2 SX HL
/-! ## deeds in the heap -/
def TupK (H H' : Hp) : Prop := ∀ a o, H a = some (.tup o) → H' a = some (.tup o)
theorem TupK.refl {H : Hp} : TupK H H := fun _ _ h => h
theorem TupK.trans {H H1 H2 : Hp} (a : TupK H H1) (b : TupK H1 H2) : TupK H H2 := fun x o h => b x o (a x o h)
theorem Same.tk {H H' : Hp} (s : Same H H') : TupK H H' := fun a o h => s a _ h
/-- a store at something that is no tuple -/
theorem tk_upd {H : Hp} {a : Addr} {o : HO} (h : ∀ xs, ¬ H a = some (.tup xs)) : TupK H (upd H a o) := fun b xs e => by
  rw [upd_ne (fun z => h xs (by rw [← z]; exact e))]
  exact e
def MkAt (H : Hp) (x : V) (m : Mark) : Prop := IsRow (fun m : Mark => [vi m.1, vi m.2]) H x m
def OMk (H : Hp) (x : V) : Option Mark → Prop
  | none => x = .non
  | some m => MkAt H x m
def DeedAt (H : Hp) (x : V) : Deed → Prop
  | .back n => ∃ t, x = .ref t ∧ H t = some (.tup [.str "back", vi n])
  | .change m rem beh num txt => ∃ t tr us bx, x = .ref t ∧ H t = some (.tup [.str "change", .str (S m), .ref tr, bx, vi num, .str (S txt)]) ∧ H tr = some (.tup us) ∧ All2 (MkAt H) us rem ∧ OMk H bx beh
theorem MkAt.keep {H H' : Hp} {x : V} {m : Mark} (h : MkAt H x m) (k : TupK H H') : MkAt H' x m := IsRow.same h k
theorem OMk.keep {H H' : Hp} {x : V} {b : Option Mark} (h : OMk H x b) (k : TupK H H') : OMk H' x b := by
  cases b with
  | none => exact h
  | some m => exact MkAt.keep h k
theorem DeedAt.keep {H H' : Hp} {x : V} {d : Deed} (h : DeedAt H x d) (k : TupK H H') : DeedAt H' x d := by
  cases d with
  | back n =>
    obtain ⟨t, e, ht⟩ := h
    exact ⟨t, e, k _ _ ht⟩
  | change m rem beh num txt =>
    obtain ⟨t, tr, us, bx, e, ht, hr, hm, hb⟩ := h
    exact ⟨t, tr, us, bx, e, k _ _ ht, k _ _ hr, hm.mono fun v m h => h.keep k, hb.keep k⟩
theorem DeedAt.tup {H : Hp} {x : V} {d : Deed} (h : DeedAt H x d) : ∃ t xs, x = .ref t ∧ H t = some (.tup xs) := by
  cases d with
  | back n =>
    obtain ⟨t, e, ht⟩ := h
    exact ⟨t, _, e, ht⟩
  | change m rem beh num txt =>
    obtain ⟨t, tr, us, bx, e, ht, _⟩ := h
    exact ⟨t, _, e, ht⟩
/-! ### as data -/
def mD (m : Mark) : PyData := .tuple [di m.1, di m.2]
def oD : Option Mark → PyData
  | none => .none
  | some m => mD m
def pD : Deed → PyData
  | .back n => .tuple [.str "back", di n]
  | .change m rem beh num txt => .tuple [.str "change", .str (S m), .tuple (rem.map mD), oD beh, di num, .str (S txt)]
theorem MkAt.dp {K : PySem.W.Frag} {H : Hp} {x : V} {m : Mark} (h : MkAt H x m) : Dp K H x (mD m) := by
  obtain ⟨t, rfl, ht⟩ := h
  exact .tup (SqT.of ht) (.cons (.int _) (.cons (.int _) .nil))
theorem OMk.dp {K : PySem.W.Frag} {H : Hp} {x : V} {b : Option Mark} (h : OMk H x b) : Dp K H x (oD b) := by
  cases b with
  | none => obtain rfl : x = .non := h; exact .non
  | some m => exact MkAt.dp h
theorem dpAll_of {K : PySem.W.Frag} {H : Hp} {α : Type} {R : V → α → Prop} {f : α → PyData} (hf : ∀ x a, R x a → Dp K H x (f a)) : ∀ {xs : List V} {as : List α}, All2 R xs as → DpAll K H xs (as.map f)
  | _, _, .nil => .nil
  | _, _, .cons h t => .cons (hf _ _ h) (dpAll_of hf t)
theorem DeedAt.dp {K : PySem.W.Frag} {H : Hp} {x : V} {d : Deed} (h : DeedAt H x d) : Dp K H x (pD d) := by
  cases d with
  | back n =>
    obtain ⟨t, rfl, ht⟩ := h
    exact .tup (SqT.of ht) (.cons (.str _) (.cons (.int _) .nil))
  | change m rem beh num txt =>
    obtain ⟨t, tr, us, bx, rfl, ht, hr, hm, hb⟩ := h
    exact .tup (SqT.of ht) (.cons (.str _) (.cons (.str _) (.cons (.tup (SqT.of hr) (dpAll_of (fun x a h => MkAt.dp h) hm)) (.cons hb.dp (.cons (.int _) (.cons (.str _) .nil))))))
/-- codes of characters -/
def okC (l : List Nat) : Prop := ∀ c ∈ l, c < 1114112
structure DOk (d : Deed) : Prop where
  m : ∀ m x b n t, d = .change m x b n t → okC m ∧ okC t ∧ m.length ≤ 100 ∧ x.length ≤ 1000 ∧ t.length ≤ 100
theorem strOk_S {l : List Nat} (h : okC l) : PySem.PyData.strOk (S l) = true := by
  show (S l).cps.all _ = true
  rw [← Array.all_toList]
  exact List.all_eq_true.mpr fun c hc => decide_eq_true (h c hc)
theorem can_marks : ∀ l : List Mark, PyData.canLayAll0 (l.map mD) = true
  | [] => rfl
  | m :: l => by
    show (PyData.canLay0 (mD m) && PyData.canLayAll0 (l.map mD)) = true
    rw [can_marks l]
    rfl
theorem depth_marks : ∀ l : List Mark, PyData.depthAll (l.map mD) ≤ 2
  | [] => Nat.zero_le _
  | m :: l => by
    have h1 := depth_marks l
    have h2 : PyData.depth (mD m) ≤ 2 := by simp [mD, PyData.depth, PyData.depthAll, di]
    show max (PyData.depth (mD m)) (PyData.depthAll (l.map mD)) ≤ 2
    omega
theorem shaped_mark (m : Mark) : SeqAt.shaped (mD m) = true := by
  simp [SeqAt.shaped, mD, PyData.canLay0, PyData.canLayAll0, PyData.depth, PyData.depthAll, di]
theorem shaped_marks (l : List Mark) : SeqAt.shaped (.list (l.map mD)) = true := by
  have h1 := can_marks l
  have h2 := depth_marks l
  simp only [SeqAt.shaped, PyData.canLay0, PyData.depth, Bool.and_eq_true, decide_eq_true_eq]
  exact ⟨h1, decide_eq_true (by omega)⟩
theorem shaped_o (b : Option Mark) : PyData.canLay0 (oD b) = true ∧ PyData.depth (oD b) ≤ 1 := by
  cases b with
  | none => exact ⟨rfl, Nat.zero_le _⟩
  | some m => exact ⟨by simp [oD, mD, PyData.canLay0, PyData.canLayAll0, di], by simp [oD, mD, PyData.depth, PyData.depthAll, di]⟩
theorem shaped_deed {d : Deed} (h : DOk d) : SeqAt.shaped (pD d) = true := by
  cases d with
  | back n =>
    have : PySem.PyData.strOk ("back" : Str) = true := by decide +kernel
    simp [SeqAt.shaped, pD, PyData.canLay0, PyData.canLayAll0, PyData.depth, PyData.depthAll, di, this]
  | change m x b n t =>
    obtain ⟨h1, h2, _⟩ := h.m _ _ _ _ _ rfl
    have e1 := strOk_S h1
    have e2 := strOk_S h2
    have e3 : PySem.PyData.strOk ("change" : Str) = true := by decide +kernel
    have e4 := can_marks x
    have e5 := depth_marks x
    obtain ⟨e6, e7⟩ := shaped_o b
    simp only [SeqAt.shaped, pD, PyData.canLay0, PyData.canLayAll0, PyData.depth, PyData.depthAll, di, e1, e2, e3, e4, e6, Bool.and_self, Bool.and_eq_true, decide_eq_true_eq]
    refine ⟨by simp, ?_⟩
    omega
theorem eqv_mark (a b : Mark) : PyData.eqv (mD a) (mD b) = decide (a = b) := by
  obtain ⟨a1, a2⟩ := a
  obtain ⟨b1, b2⟩ := b
  rw [Bool.eq_iff_iff, decide_eq_true_iff]
  simp [mD, di, PyData.eqv, PyData.eqvAll]
  omega
theorem eqv_back (d : Deed) (p : Nat) : PyData.eqv (pD d) (pD (.back p)) = decide (d = .back p) := by
  cases d with
  | back n =>
    rw [Bool.eq_iff_iff, decide_eq_true_iff]
    simp [pD, di, PyData.eqv, PyData.eqvAll]
    omega
  | change m x b n t => simp [pD, PyData.eqv, PyData.eqvAll]
/-! ### told the same -/
theorem MkAt.same {K : PySem.W.Frag} {H : Hp} {n : Nat} {x y : V} {m : Mark} (h : MkAt H x m) (h' : MkAt H y m) : SameD K H (n + 1) x y := by
  obtain ⟨t, rfl, ht⟩ := h
  obtain ⟨u, rfl, hu⟩ := h'
  exact .row ht hu (by show 2 ≤ 1000000; decide) fun x hx => by
    simp at hx
    rcases hx with e | e <;> rw [e] <;> exact True.intro
theorem OMk.same {K : PySem.W.Frag} {H : Hp} {n : Nat} {x y : V} {b : Option Mark} (h : OMk H x b) (h' : OMk H y b) : SameD K H (n + 1) x y := by
  cases b with
  | none =>
    obtain rfl : x = .non := h
    obtain rfl : y = .non := h'
    exact .leaf True.intro
  | some m => exact MkAt.same h h'
theorem all_same {K : PySem.W.Frag} {H : Hp} {α : Type} {R : V → α → Prop} {n : Nat} (hR : ∀ x y a, R x a → R y a → SameD K H n x y) {xs ys : List V} {as : List α} (h1 : All2 R xs as) (h2 : All2 R ys as) (i : Nat) (u v : V) (hu : xs[i]? = some u) (hv : ys[i]? = some v) : SameD K H n u v := by
  obtain ⟨a, ha, h⟩ := h1.get hu
  obtain ⟨b, hb, h'⟩ := h2.get hv
  rw [ha] at hb
  cases hb
  exact hR _ _ _ h h'
theorem DeedAt.same {K : PySem.W.Frag} {H : Hp} {n : Nat} {x y : V} {d : Deed} (hd : DOk d) (h : DeedAt H x d) (h' : DeedAt H y d) : SameD K H (n + 3) x y := by
  cases d with
  | back n =>
    obtain ⟨t, rfl, ht⟩ := h
    obtain ⟨u, rfl, hu⟩ := h'
    exact .row ht hu (by show 2 ≤ 1000000; decide) fun x hx => by
      simp at hx
      rcases hx with e | e <;> rw [e] <;> exact True.intro
  | change m rem beh num txt =>
    obtain ⟨t, tr, us, bx, rfl, ht, hr, hm, hb⟩ := h
    obtain ⟨t', tr', us', bx', rfl, ht', hr', hm', hb'⟩ := h'
    obtain ⟨_, _, _, hx, _⟩ := hd.m _ _ _ _ _ rfl
    refine .seq (.tup ht) (.tup ht') rfl (by show 6 ≤ 1000000; decide) fun i u v hu hv => ?_
    match i, hu, hv with
    | 0, hu, hv => cases hu; cases hv; exact .leaf True.intro
    | 1, hu, hv => cases hu; cases hv; exact .leaf True.intro
    | 2, hu, hv =>
      cases hu
      cases hv
      exact .seq (.tup hr) (.tup hr') (by rw [hm.len, hm'.len]) (by rw [hm'.len]; omega) (all_same (R := MkAt H) (fun x y a h k => MkAt.same h k) hm hm')
    | 3, hu, hv => cases hu; cases hv; exact OMk.same hb hb'
    | 4, hu, hv => cases hu; cases hv; exact .leaf True.intro
    | 5, hu, hv => cases hu; cases hv; exact .leaf True.intro
    | i + 6, hu, _ => cases hu
/-! ### rows -/
structure RowsAt (H : Hp) (A : Addr) (rs : List Addr) (rows : Rows) : Prop where
  h : H A = some (.lst (rs.map V.ref))
  n : rs.length = 8
  r : ∀ (i : Nat) (a : Addr), rs[i]? = some a → ∃ us, H a = some (.lst us) ∧ All2 (DeedAt H) us (rows i)
theorem RowsAt.keep {H H' : Hp} {A : Addr} {rs : List Addr} {rows : Rows} (R : RowsAt H A rs rows) (s : Same H H') : RowsAt H' A rs rows :=
  ⟨s _ _ R.h, R.n, fun i a h => by obtain ⟨us, h1, h2⟩ := R.r i a h; exact ⟨us, s _ _ h1, h2.mono fun v d h => h.keep (Same.tk s)⟩⟩
theorem RowsAt.get {H : Hp} {A : Addr} {rs : List Addr} {rows : Rows} (R : RowsAt H A rs rows) {i : Nat} (hi : i < 8) : ∃ a us, rs[i]? = some a ∧ (rs.map V.ref)[i]? = some (.ref a) ∧ H a = some (.lst us) ∧ All2 (DeedAt H) us (rows i) := by
  have hl : i < rs.length := by rw [R.n]; exact hi
  have e := List.getElem?_eq_getElem hl
  obtain ⟨us, h1, h2⟩ := R.r i _ e
  exact ⟨rs[i], us, e, by rw [List.getElem?_map, e]; rfl, h1, h2⟩
/-- few deeds, of few characters -/
def Few (rows : Rows) : Prop := ∀ r, r < 8 → (rows r).length ≤ 100 ∧ ∀ d ∈ rows r, DOk d
theorem flat_len {α β : Type} {f : α → List β} {k : Nat} : ∀ {l : List α}, (∀ a ∈ l, (f a).length ≤ k) → (l.flatMap f).length ≤ l.length * k
  | [], _ => by simp
  | a :: l, h => by
    have h1 := h a (List.mem_cons_self ..)
    have h2 := flat_len (l := l) fun x hx => h x (List.mem_cons_of_mem _ hx)
    rw [List.flatMap_cons, List.length_append, List.length_cons, Nat.add_mul]
    omega
theorem changes_len {rows : Rows} (h : Few rows) (m : List Nat) : (changes rows m).length ≤ 800 := by
  have := flat_len (l := List.range 8) (f := chR rows m) (k := 100) fun r hr => by
    unfold chR
    rw [List.length_map]
    refine Nat.le_trans (List.length_filter_le ..) ?_
    rw [List.length_zip, forces_len, Nat.min_self]
    exact (h r (List.mem_range.mp hr)).1
  rw [List.length_range] at this
  exact this
theorem entF_len {rows : Rows} (h : Few rows) {m : List Nat} {c : Chg} (hc : c ∈ changes rows m) : (entF c).length ≤ 100 := by
  obtain ⟨h1, h2, h3⟩ := mem_changes hc
  unfold entF
  rw [List.length_map]
  cases hd : c.2.1 with
  | back => exact Nat.zero_le _
  | change m x b n t =>
    have := ((h c.1 h1).2 _ h2).m _ _ _ _ _ hd
    show (ins c.1 n b t).length ≤ 100
    rw [ins_len]
    exact this.2.2.2.2
theorem found_len {rows : Rows} (h : Few rows) (m : List Nat) : (found rows m).length ≤ 80000 := by
  have := flat_len (l := changes rows m) (f := entF) (k := 100) fun c hc => entF_len h hc
  have h2 := changes_len h m
  exact Nat.le_trans this (Nat.mul_le_mul_right 100 h2)
theorem removed_len {rows : Rows} (h : Few rows) (m : List Nat) : (removed rows m).length ≤ 800000 := by
  have := flat_len (l := changes rows m) (f := fun c : Chg => if c.2.2 then remD c.2.1 else []) (k := 1000) fun c hc => by
    obtain ⟨h1, h2, h3⟩ := mem_changes hc
    split
    · cases hd : c.2.1 with
      | back => exact Nat.zero_le _
      | change m x b n t => exact (((h c.1 h1).2 _ h2).m _ _ _ _ _ hd).2.2.2.1
    · exact Nat.zero_le _
  have h2 := changes_len h m
  exact Nat.le_trans this (Nat.mul_le_mul_right 1000 h2)
end DM
namespace HR
open PySem PySem.Spec PyProof.Rows L2 SX HL
section
variable {X : Cx} {e : Expr} {te ts : TE} {p2 pos p3 p4 : Pos} {kk : Nat}
theorem vals_reverse {xs : List V} {us : List Value} (r : Vals xs us) : Vals xs.reverse us.reverse := by
  induction r with
  | nil => exact .nil
  | @cons x u xs us h r ih =>
    rw [List.reverse_cons, List.reverse_cons]
    exact ih.append (.cons h .nil)
/-- xs[::-1] of a list -/
def tRevL (K : PySem.W.Frag) (te ts : TE) : TE := fun σ H Q => te σ H fun x H1 => ts σ H1 fun y H2 => y = .int (-1) ∧ ∃ a xs, x = .ref a ∧ SqL K H2 a xs ∧ ∀ p, H2 p = none → Q (.ref p) (upd H2 p (.lst xs.reverse))
theorem pe_revL (he : PE X e te) (hst : PE X (.UnaryOp .USub (.Constant (.int 1) kk p4) p3) ts) : PE X (.Subscript e (.Slice none none (some (.UnaryOp .USub (.Constant (.int 1) kk p4) p3)) p2) pos) (tRevL X.K te ts) := by
  refine ⟨fun pins s σ H Q I0 h0 => Subscript_ (thn (he.run pins s σ H _ I0 h0) fun v s1 ⟨x, H1, I1, r1, q1⟩ => wpAny_Slice ?_)⟩
  rw [evalPart_none]
  refine wpAny_pure ?_
  refine wpAny_pure ?_
  rw [evalPart_some]
  refine thn (hst.run pins s1 σ H1 _ I1 q1) fun w s2 ⟨y, H2, I2, r2, q2⟩ => ?_
  obtain ⟨rfl, a, xs, rfl, hx, q⟩ := q2
  obtain ⟨t, rfl⟩ := r2
  obtain rfl : v = Value.ref a := r1
  have I4 : Inv X pins σ H2 { s2 with heap := s2.heap.push { cls := .type "slice", data := .fields #[.none, .none, .int (-1) t] } } := I2.kept (t' := s2.toks) fun b ob g => Heap.get?_push_of_some _ g
  obtain ⟨its, r, pl, hz⟩ := I4.list hx
  have hlen := r.length
  refine tail_any (ops := [.ref a, .ref s2.heap.objs.size]) pl.isList.typeIs slot_list_getitem.lookup ?_ (by with_unfolding_all rfl)
  refine wpAny_getItem_list_slice (lo := none) (hi := none) (st := some (-1)) pl.isList (Heap.IsSliceOf.new ..) .none .none (.int (-1) t) (by decide) ?_ (by rw [List.size_toArray]; omega)
  rw [PySem.W.krv_pick]
  refine ⟨.ref _, _, I4.laid (t' := s2.toks) (o := .lst xs.reverse) (fun b ob g => Heap.get?_push_of_some _ g) (Nat.le_refl _) ?_, rfl, q _ (I4.hok.fresh (Nat.le_refl _))⟩
  exact ⟨by rw [List.length_reverse]; omega, _, 0, vals_reverse r, Heap.get?_push_size _ rfl⟩
end
end HR
/-! ## a dict whose keys are None and tuples -/
namespace ND
open PySem PySem.Spec PyProof.Rows L2
abbrev NKey := Option (List Key)
abbrev NX := List (NKey × Value × Value)
section
variable (P : Program) (w : World)
def nHash : NKey → Int
  | none => reduceHash 0xFCA86420
  | some ks => tupleKeyHash (mixKind P w) ks
def nDraws : NKey → Nat
  | none => 1
  | some ks => ks.length + 1
def NIs (h : Heap) : NKey → Value → Prop
  | none, v => v = .none
  | some ks, v => ∃ b, v = .ref b ∧ (tupleKind (mixKind P w)).is h ks b
def nEnt (x : NKey × Value × Value) : DictEntry := ⟨nHash P w x.1, x.2.1, x.2.2⟩
def NRaw (h : Heap) (d : Addr) (xs : NX) : Prop := ∃ o es ep, h.get? d = some o ∧ o.ExactDict ∧ o.data = .dict es ep ∧ es.toList = xs.map (nEnt P w) ∧ (xs.map (·.1)).Nodup
end
/-- where the key stands -/
def nAt (xs : NX) (k : NKey) : Option (Value × Value) := (xs.find? fun x => decide (x.1 = k)).map (·.2)
def nPut (xs : NX) (k : NKey) (key v : Value) : NX := if (nAt xs k).isSome then xs.map (fun x => if x.1 = k then (x.1, x.2.1, v) else x) else xs ++ [(k, key, v)]
section
variable {P : Program} {w : World} {A : Around} {E : Value → Shared → Prop} {s : Shared}
theorem nIs_inj {h : Heap} {a b : NKey} {v : Value} (ha : NIs P w h a v) (hb : NIs P w h b v) : a = b := by
  cases a with
  | none =>
    obtain rfl : v = .none := ha
    cases b with
    | none => rfl
    | some ks => obtain ⟨_, e, _⟩ := hb; cases e
  | some ks =>
    obtain ⟨x, rfl, hx⟩ := ha
    cases b with
    | none => cases (show Value.ref x = .none from hb)
    | some js =>
      obtain ⟨y, e, hy⟩ := hb
      cases e
      rw [(tupleKind (mixKind P w)).inj hx hy]
theorem n_hash {k : NKey} {v : Value} {Q : Int → Shared → Prop} (hu : A.units + 1 < cLine) (hk : NIs P w s.heap k v) (h : Q (nHash P w k) { s with toks := s.toks + nDraws k }) : wpAny (model P w) A (PySem.pyHash v) Q E s := by
  cases k with
  | none =>
    obtain rfl : v = .none := hk
    exact (noneKind P w).pyHash (k := none) (v := .none) rfl h
  | some ks =>
    obtain ⟨b, rfl, hb⟩ := hk
    exact (tupleKind (mixKind P w)).pyHash (show A.units < cLine by omega) hb h
theorem n_eq {a b : NKey} {u v : Value} {Q : Bool → Shared → Prop} (hu : A.units + 1 < cLine) (ha : NIs P w s.heap a u) (hb : NIs P w s.heap b v) (h : Q (decide (a = b)) s) : wpAny (model P w) A (PySem.eqBool u v) Q E s := by
  cases a with
  | none =>
    obtain rfl : u = .none := ha
    cases b with
    | none =>
      obtain rfl : v = .none := hb
      rw [decide_eq_true rfl] at h
      exact SeqAt.EqAt.same _ _ _ _ _ h
    | some js =>
      obtain ⟨y, rfl, hy⟩ := hb
      rw [decide_eq_false (fun z => nomatch z)] at h
      obtain ⟨o, items, n, ho, hc, hd, hi⟩ := hy
      exact SeqAt.EqAt.none_tuple ⟨o, ho, hc, n, hd⟩ (by omega) _ _ _ _ h
  | some ks =>
    obtain ⟨x, rfl, hx⟩ := ha
    cases b with
    | none =>
      obtain rfl : v = .none := hb
      rw [decide_eq_false (fun z => nomatch z)] at h
      obtain ⟨o, items, n, ho, hc, hd, hi⟩ := hx
      exact SeqAt.EqAt.tuple_none ⟨o, ho, hc, n, hd⟩ (by omega) _ _ _ _ h
    | some js =>
      obtain ⟨y, rfl, hy⟩ := hb
      have e : decide ((some ks : NKey) = some js) = decide (ks = js) := by
        rw [Bool.eq_iff_iff, decide_eq_true_iff, decide_eq_true_iff]
        exact ⟨Option.some.inj, congrArg some⟩
      rw [e] at h
      exact (tupleKind (mixKind P w)).eqBool (show A.units < cLine by omega) hx hy h
theorem n_quiet {k : NKey} {v : Value} {Q : Bool → Shared → Prop} (hk : NIs P w s.heap k v) (h : Q true s) : wpAny (model P w) A (eqIsQuiet 8 v) Q E s := by
  cases k with
  | none =>
    obtain rfl : v = .none := hk
    exact wpAny_pure h
  | some ks =>
    obtain ⟨b, rfl, hb⟩ := hk
    exact (tupleKind (mixKind P w)).quiet hb h
theorem n_mayTell {k : NKey} {v : Value} {stored : List Value} {Q : Bool → Shared → Prop} (hk : NIs P w s.heap k v) (hst : ∀ u ∈ stored, ∃ k', NIs P w s.heap k' u) (h : Q false s) :
    wpAny (model P w) A (tableMayTell v stored) Q E s := by
  unfold tableMayTell
  split
  · exact wpAny_pure h
  · refine wpAny_bind (n_quiet hk ?_)
    simp only [Bool.not_true, Bool.false_eq_true, if_false]
    refine wpAny_bind (wpAny_forIn_list _ (fun rest r s' => s' = s ∧ r = (none, ()) ∧ ∀ u ∈ rest, ∃ k', NIs P w s.heap k' u) _ ?_ ?_ _ _ ⟨rfl, rfl, hst⟩)
    · rintro x rest r s' ⟨rfl, rfl, hr⟩
      obtain ⟨k', hb⟩ := hr x List.mem_cons_self
      refine wpAny_bind (n_quiet hb ?_)
      simp only [Bool.not_true, Bool.false_eq_true, if_false]
      exact wpAny_pure ⟨rfl, rfl, fun u hu => hr u (List.mem_cons_of_mem _ hu)⟩
    · rintro r s' ⟨rfl, rfl, _⟩
      exact wpAny_pure h
theorem n_uniq {xs : NX} (hn : (xs.map (·.1)).Nodup) {i j : Nat} {k : NKey} {p q : Value × Value} (hi : xs[i]? = some (k, p)) (hj : xs[j]? = some (k, q)) : i = j := by
  have a : (xs.map (·.1))[i]? = some k := by rw [List.getElem?_map, hi]; rfl
  have b : (xs.map (·.1))[j]? = some k := by rw [List.getElem?_map, hj]; rfl
  exact (List.getElem?_inj (List.getElem?_eq_some_iff.mp a).1 hn).mp (a.trans b.symm)
theorem n_at {xs : NX} (hn : (xs.map (·.1)).Nodup) {i : Nat} {k : NKey} {p : Value × Value} (hx : xs[i]? = some (k, p)) : nAt xs k = some p := by
  unfold nAt
  cases e : xs.find? fun x => decide (x.1 = k) with
  | none =>
    have := List.find?_eq_none.mp e _ (List.mem_of_getElem? hx)
    simp at this
  | some y =>
    have h1 := List.find?_some e
    obtain ⟨j, hj⟩ := List.mem_iff_getElem?.mp (List.mem_of_find?_eq_some e)
    have hk : y.1 = k := by simpa using h1
    have hj' : xs[j]? = some (k, y.2) := by rw [hj, ← hk]
    have := n_uniq hn hx hj'
    subst this
    rw [hx] at hj'
    cases hj'
    rfl
theorem n_no {xs : NX} {k : NKey} (h : ∀ (j : Nat) (p : Value × Value), xs[j]? ≠ some (k, p)) : nAt xs k = none := by
  unfold nAt
  cases e : xs.find? fun x => decide (x.1 = k) with
  | none => rfl
  | some y =>
    have h1 := List.find?_some e
    obtain ⟨j, hj⟩ := List.mem_iff_getElem?.mp (List.mem_of_find?_eq_some e)
    have hk : y.1 = k := by simpa using h1
    exact absurd (show xs[j]? = some (k, y.2) by rw [hj, ← hk]) (h j y.2)
/-- the search: what is known behind the places below i -/
def Seen (xs : NX) (k : NKey) (i : Nat) : Option Nat → Prop
  | none => ∀ j p, j < i → xs[j]? ≠ some (k, p)
  | some j => j < i ∧ ∃ p, xs[j]? = some (k, p)
theorem n_find {d : Addr} {o : Obj} {es : Array DictEntry} {ep : Nat} {xs : NX} {k : NKey} {key : Value} {Q : Option Nat → Shared → Prop} (hu : A.units + 1 < cLine) (hkey : NIs P w s.heap k key)
    (ho : s.heap.get? d = some o) (hd : o.data = .dict es ep) (he : es.toList = xs.map (nEnt P w)) (his : ∀ x ∈ xs, NIs P w s.heap x.1 x.2.1) (hn : (xs.map (·.1)).Nodup)
    (h : ∀ r, Seen xs k xs.length r → Q r s) : wpAny (model P w) A (dictFind d key (nHash P w k)) Q E s := by
  have hsz : es.size = xs.length := by rw [← Array.length_toList, he, List.length_map]
  have hat : ∀ j : Nat, es[j]? = (xs[j]?).map (nEnt P w) := fun j => by rw [← Array.getElem?_toList, he, List.getElem?_map]
  have hhas : ∀ (j : Nat) (p : Value × Value), xs[j]? = some (k, p) → ((es[j]?.map (·.hash)) == some (nHash P w k)) = true := fun j p hj => by
    rw [hat j, hj]
    simp [nEnt]
  have hof : ∀ e ∈ es, ∃ x ∈ xs, e = nEnt P w x := fun e hin => by
    have : e ∈ xs.map (nEnt P w) := he ▸ Array.mem_toList_iff.mpr hin
    obtain ⟨x, hx, r⟩ := List.mem_map.mp this
    exact ⟨x, hx, r.symm⟩
  have hst : ∀ v ∈ (placesWithHash es.size (fun i => es[i]?.map (·.hash)) (nHash P w k)).filterMap (fun i => es[i]?.map (·.key)), ∃ k', NIs P w s.heap k' v := fun v hv => by
    obtain ⟨i, _, hi⟩ := List.mem_filterMap.mp hv
    cases q : es[i]? with
    | none => rw [q] at hi; cases hi
    | some e =>
      rw [q] at hi
      obtain rfl : e.key = v := by simpa using hi
      obtain ⟨x, hx, rfl⟩ := hof e (Array.mem_of_getElem? q)
      exact ⟨x.1, his x hx⟩
  -- one place of the walk
  have one : ∀ {x i : Nat} {hit : Option Nat}, x < es.size → i ≤ x → (∀ j, i ≤ j → j < x → ((es[j]?.map (·.hash)) == some (nHash P w k)) = false) → Seen xs k i hit → Seen xs k x hit := by
    intro x i hit hx hix hskip hS
    cases hit with
    | none =>
      intro j p hjx hj
      rcases Nat.lt_or_ge j i with c | c
      · exact hS j p c hj
      · have := hskip j c hjx
        rw [hhas j p hj] at this
        cases this
    | some j =>
      obtain ⟨h1, h2⟩ := hS
      exact ⟨by omega, h2⟩
  have next : ∀ {x : Nat} {hit : Option Nat} {k' : NKey} {p : Value × Value}, xs[x]? = some (k', p) → ¬ k' = k → Seen xs k x hit → Seen xs k (x + 1) hit := by
    intro x hit k' p hkv hne hS
    cases hit with
    | none =>
      intro j q hjx hj
      rcases Nat.lt_or_ge j x with c | c
      · exact hS j q c hj
      · have ej : j = x := by omega
        subst ej
        rw [hkv] at hj
        cases hj
        exact hne rfl
    | some j =>
      obtain ⟨h1, h2⟩ := hS
      exact ⟨by omega, h2⟩
  have last : ∀ {i : Nat} {hit : Option Nat}, i ≤ es.size → (∀ j, i ≤ j → j < es.size → ((es[j]?.map (·.hash)) == some (nHash P w k)) = false) → Seen xs k i hit → Seen xs k xs.length hit := by
    intro i hit hi hskip hS
    cases hit with
    | none =>
      intro j p hjx hj
      rcases Nat.lt_or_ge j i with c | c
      · exact hS j p c hj
      · have := hskip j c (by omega)
        rw [hhas j p hj] at this
        cases this
    | some j =>
      obtain ⟨h1, h2⟩ := hS
      exact ⟨by omega, h2⟩
  have drop : ∀ {x : Nat} {rest : List Nat} {i : Nat}, x :: rest = (List.range' i (es.size - i)).filter (fun i => (es[i]?.map (·.hash)) == some (nHash P w k)) →
      i ≤ x ∧ x < es.size ∧ (∀ j, i ≤ j → j < x → ((es[j]?.map (·.hash)) == some (nHash P w k)) = false) ∧ rest = (List.range' (x + 1) (es.size - (x + 1))).filter (fun i => (es[i]?.map (·.hash)) == some (nHash P w k)) := by
    intro x rest i hr
    obtain ⟨h1, h2, h3, h4, h5⟩ := filter_range'_cons _ _ _ _ _ hr.symm
    refine ⟨h1, by omega, h4, ?_⟩
    rw [h5]
    congr 2
    omega
  have done : ∀ {i : Nat}, ([] : List Nat) = (List.range' i (es.size - i)).filter (fun i => (es[i]?.map (·.hash)) == some (nHash P w k)) → ∀ j, i ≤ j → j < es.size → ((es[j]?.map (·.hash)) == some (nHash P w k)) = false := by
    intro i hr j h1 h2
    have := List.filter_eq_nil_iff.mp hr.symm j (List.mem_range'_1.mpr ⟨h1, by omega⟩)
    simpa using this
  have h0 : placesWithHash es.size (fun i => es[i]?.map (·.hash)) (nHash P w k) = (List.range' 0 (es.size - 0)).filter (fun i => (es[i]?.map (·.hash)) == some (nHash P w k)) := by
    rw [placesWithHash, List.range_eq_range', Nat.sub_zero]
  have s0 : Seen xs k 0 none := fun j p hj => absurd hj (Nat.not_lt_zero _)
  -- the plain walk
  have plain : wpAny (model P w) A (dictWalkPlain d key (nHash P w k) es (placesWithHash es.size (fun i => es[i]?.map (·.hash)) (nHash P w k))) Q E s := by
    unfold dictWalkPlain
    refine wpAny_bind (wpAny_forIn_list _ (fun rest b s' => s' = s ∧ b = (none, ()) ∧ ∃ i, rest = (List.range' i (es.size - i)).filter (fun i => (es[i]?.map (·.hash)) == some (nHash P w k)) ∧ i ≤ es.size ∧ Seen xs k i none) _ ?_ ?_ _ _ ⟨rfl, rfl, 0, h0, Nat.zero_le _, s0⟩)
    · rintro x rest b s' ⟨rfl, rfl, i, hr, hi, hS⟩
      obtain ⟨hix, hlt, hskip, hrest⟩ := drop hr
      have hSx := one hlt hix hskip hS
      obtain ⟨⟨k', kb, kv⟩, hkv⟩ : ∃ y, xs[x]? = some y := ⟨xs[x]'(by omega), List.getElem?_eq_getElem _⟩
      have hib : NIs P w s'.heap k' kb := his _ (List.mem_of_getElem? hkv)
      have hex : es[x]? = some ⟨nHash P w k', kb, kv⟩ := by rw [hat x, hkv]; rfl
      simp only [hex]
      by_cases hh : (nHash P w k' == nHash P w k) = true
      · rw [if_pos hh]
        refine wpAny_bind (wpAny_dictEpoch ho hd (wpAny_bind (n_eq hu hib hkey (wpAny_bind (wpAny_dictEpoch ho hd ?_)))))
        show wpAny _ _ (if (ep != ep) = true then _ else _) _ E _
        rw [if_neg (by simp)]
        by_cases hkk : k' = k
        · rw [decide_eq_true hkk]
          subst hkk
          exact wpAny_bind (wpAny_rule (wpAny_pure (wpAny_pure (h (some x) ⟨by omega, _, hkv⟩))))
        · rw [decide_eq_false hkk]
          exact wpAny_bind (wpAny_rule (wpAny_pure ⟨rfl, rfl, x + 1, hrest, hlt, next hkv hkk hSx⟩))
      · rw [if_neg hh]
        refine wpAny_pure ⟨rfl, rfl, x + 1, hrest, hlt, next hkv (fun z => ?_) hSx⟩
        rw [z] at hh
        simp at hh
    · rintro b s' ⟨rfl, rfl, i, hr, hi, hS⟩
      exact wpAny_pure (h none (last hi (done hr) hS))
  -- the other walk
  have hany : ∀ b, key = .ref b → ¬ (es.any fun e => e.key == Value.ref b && e.hash != nHash P w k) = true := by
    rintro b rfl
    rw [← Array.any_toList, List.any_eq_true]
    rintro ⟨e, hin, hc⟩
    obtain ⟨x, hx, rfl⟩ := hof e (Array.mem_toList_iff.mp hin)
    simp only [nEnt, Bool.and_eq_true, beq_iff_eq, bne_iff_ne, ne_eq] at hc
    obtain ⟨h1, h2⟩ := hc
    have h3 := his x hx
    rw [h1] at h3
    exact h2 (by rw [nIs_inj h3 hkey])
  have walk : ∀ (tells : Bool), tells = false → wpAny (model P w) A (do
      if tells && ((placesWithHash es.size (fun i => es[i]?.map (·.hash)) (nHash P w k)).filterMap fun i => es[i]?.map (·.key)).length ≥ 2 then unsupported "dict.find:order-among-keys-of-one-hash"
      let mut hit : Option Nat := none
      for i in placesWithHash es.size (fun i => es[i]?.map (·.hash)) (nHash P w k) do
        if let some e := es[i]? then
          if e.hash == nHash P w k then
            let before ← dictEpoch d (keyPart key)
            let same ← eqBool e.key key
            if (← dictEpoch d (keyPart key)) != before then unsupported "dict.changed-during-lookup"
            if same then
              if hit.isSome then unsupported "dict.find:order-among-keys-of-one-hash"
              rule "dict.find.hit"
              if ((placesWithHash es.size (fun i => es[i]?.map (·.hash)) (nHash P w k)).filterMap fun i => es[i]?.map (·.key)).length < 2 then return some i
              hit := some i
            else
              rule "dict.find.same-hash-other-key"
              if tells && !(0 ≤ nHash P w k && nHash P w k < 32) then unsupported "dict.find:asked-again-or-not-hangs-on-the-table"
      return hit) Q E s := by
    rintro tells rfl
    rw [if_neg (by simp)]
    refine wpAny_bind (wpAny_forIn_list _ (fun rest b s' => s' = s ∧ ∃ i hit, b = (none, hit) ∧ rest = (List.range' i (es.size - i)).filter (fun i => (es[i]?.map (·.hash)) == some (nHash P w k)) ∧ i ≤ es.size ∧ Seen xs k i hit) _ ?_ ?_ _ _
      ⟨rfl, 0, none, rfl, h0, Nat.zero_le _, s0⟩)
    · rintro x rest b s' ⟨rfl, i, hit, rfl, hr, hi, hS⟩
      obtain ⟨hix, hlt, hskip, hrest⟩ := drop hr
      have hSx := one hlt hix hskip hS
      obtain ⟨⟨k', kb, kv⟩, hkv⟩ : ∃ y, xs[x]? = some y := ⟨xs[x]'(by omega), List.getElem?_eq_getElem _⟩
      have hib : NIs P w s'.heap k' kb := his _ (List.mem_of_getElem? hkv)
      have hex : es[x]? = some ⟨nHash P w k', kb, kv⟩ := by rw [hat x, hkv]; rfl
      simp only [hex]
      by_cases hh : (nHash P w k' == nHash P w k) = true
      · rw [if_pos hh]
        refine wpAny_bind (wpAny_dictEpoch ho hd (wpAny_bind (n_eq hu hib hkey (wpAny_bind (wpAny_dictEpoch ho hd ?_)))))
        show wpAny _ _ (if (ep != ep) = true then _ else _) _ E _
        rw [if_neg (by simp)]
        by_cases hkk : k' = k
        · rw [decide_eq_true hkk]
          subst hkk
          cases hit with
          | none =>
            first | rw [if_pos rfl] | skip
            simp only [Option.isSome_none, Bool.false_eq_true, if_false]
            first | refine wpAny_bind (wpAny_pure ?_) | skip
            refine wpAny_bind (wpAny_rule ?_)
            split
            · exact wpAny_pure (wpAny_pure (h (some x) ⟨by omega, _, hkv⟩))
            · exact wpAny_pure ⟨rfl, x + 1, some x, rfl, hrest, hlt, Nat.lt_succ_self x, _, hkv⟩
          | some j =>
            obtain ⟨h1, p, h2⟩ := hSx
            exact absurd (n_uniq hn h2 hkv) (by omega)
        · rw [decide_eq_false hkk]
          simp only [Bool.false_eq_true, if_false]
          refine wpAny_bind (wpAny_rule ?_)
          first | rw [if_neg (by simp)] | skip
          first
            | exact wpAny_pure ⟨rfl, x + 1, hit, rfl, hrest, hlt, next hkv hkk hSx⟩
            | exact wpAny_bind (wpAny_pure (wpAny_pure ⟨rfl, x + 1, hit, rfl, hrest, hlt, next hkv hkk hSx⟩))
      · rw [if_neg hh]
        refine wpAny_pure ⟨rfl, x + 1, hit, rfl, hrest, hlt, next hkv (fun z => ?_) hSx⟩
        rw [z] at hh
        simp at hh
    · rintro b s' ⟨rfl, i, hit, rfl, hr, hi, hS⟩
      exact wpAny_pure (h hit (last hi (done hr) hS))
  unfold dictFind
  try with_reducible refine wpAny_holding ?_
  refine wpAny_bind (wpAny_dictEntries ho hd ?_)
  dsimp only
  cases k with
  | none =>
    obtain rfl : key = .none := hkey
    by_cases hp : ((Value.none :: (placesWithHash es.size (fun i => es[i]?.map (·.hash)) (nHash P w none)).filterMap (fun i => es[i]?.map (·.key))).all carriedByValue) = true
    · rw [if_pos hp]
      first | exact plain | exact wpAny_bind (wpAny_mono plain (fun _ _ q => wpAny_pure q) fun _ _ e => e)
    · rw [if_neg hp]
      by_cases hone : (((placesWithHash es.size (fun i => es[i]?.map (·.hash)) (nHash P w none)).filterMap (fun i => es[i]?.map (·.key))) == [Value.none]) = true
      · rw [if_pos hone]
        exact wpAny_bind (wpAny_pure (walk false rfl))
      · rw [if_neg hone]
        exact wpAny_bind (n_mayTell (k := none) (show NIs P w s.heap none .none from rfl) hst (walk false rfl))
  | some ks =>
    obtain ⟨b, rfl, hb⟩ := id hkey
    rw [if_neg (show ¬ ((Value.ref b :: (placesWithHash es.size (fun i => es[i]?.map (·.hash)) (nHash P w (some ks))).filterMap (fun i => es[i]?.map (·.key))).all carriedByValue) = true by simp [carriedByValue])]
    rw [if_neg (hany b rfl)]
    by_cases hone : (((placesWithHash es.size (fun i => es[i]?.map (·.hash)) (nHash P w (some ks))).filterMap (fun i => es[i]?.map (·.key))) == [Value.ref b]) = true
    · rw [if_pos hone]
      exact wpAny_bind (wpAny_pure (walk false rfl))
    · rw [if_neg hone]
      exact wpAny_bind (n_mayTell hkey hst (walk false rfl))
theorem n_len_put (xs : NX) (k : NKey) (key v : Value) : (nPut xs k key v).length ≤ xs.length + 1 := by
  unfold nPut
  split
  · rw [List.length_map]; omega
  · rw [List.length_append]; exact Nat.le_refl _
theorem n_get {d : Addr} {xs : NX} {k : NKey} {key : Value} {Q : Option Value → Shared → Prop} (hu : A.units + 1 < cLine) (hkey : NIs P w s.heap k key) (hm : NRaw P w s.heap d xs) (his : ∀ x ∈ xs, NIs P w s.heap x.1 x.2.1)
    (h : Q ((nAt xs k).map (·.2)) { s with toks := s.toks + nDraws k }) : wpAny (model P w) A (dictGet d key) Q E s := by
  obtain ⟨o, es, ep, ho, _, hd, he, hn⟩ := hm
  unfold dictGet
  try with_reducible refine wpAny_holding ?_
  refine wpAny_bind (n_hash hu hkey (wpAny_bind (n_find (s := { s with toks := s.toks + nDraws k }) hu hkey ho hd he his hn ?_)))
  rintro (_ | j) hS
  · rw [n_no fun j p hj => hS j p (List.getElem?_eq_some_iff.mp hj).1 hj] at h
    exact wpAny_pure h
  · obtain ⟨_, p, hj⟩ := hS
    rw [n_at hn hj] at h
    refine wpAny_bind (wpAny_dictEntries (s := { s with toks := s.toks + nDraws k }) ho hd ?_)
    have e : es[j]? = some (nEnt P w (k, p)) := by rw [← Array.getElem?_toList, he, List.getElem?_map, hj]; rfl
    rw [e]
    exact wpAny_pure h
theorem NRaw.typeIs {d : Addr} {xs : NX} (hm : NRaw P w s.heap d xs) : s.TypeIs (.ref d) "dict" := let ⟨o, _, _, ho, hc, _⟩ := hm; ⟨o, ho, hc.1⟩
theorem n_set {d : Addr} {xs : NX} {k : NKey} {key v : Value} {Q : Unit → Shared → Prop} (hu : A.units + 1 < cLine) (hkey : NIs P w s.heap k key) (hm : NRaw P w s.heap d xs) (his : ∀ x ∈ xs, NIs P w s.heap x.1 x.2.1) (hl : xs.length ≤ sizeLine)
    (h : ∀ h', NRaw P w h' d (nPut xs k key v) → Heap.SameBut d s.heap h' → Q () { s with heap := h', toks := s.toks + nDraws k }) : wpAny (model P w) A (dictSet d key v) Q E s := by
  obtain ⟨o, es, ep, ho, hc, hd, he, hn⟩ := hm
  have hsz : es.size = xs.length := by rw [← Array.length_toList, he, List.length_map]
  unfold dictSet
  try with_reducible refine wpAny_holding ?_
  refine wpAny_bind (n_hash hu hkey ?_)
  unfold dictSetHashed
  try with_reducible refine wpAny_holding ?_
  refine wpAny_bind (n_find (s := { s with toks := s.toks + nDraws k }) hu hkey ho hd he his hn ?_)
  rintro (_ | j) hS
  · have hno : nAt xs k = none := n_no fun j p hj => hS j p (List.getElem?_eq_some_iff.mp hj).1 hj
    have hput : nPut xs k key v = xs ++ [(k, key, v)] := by unfold nPut; rw [hno]; exact if_neg (by decide)
    refine wpAny_bind (wpAny_rule (wpAny_updateDictKeys (hz := by rw [hsz]; exact hl) (s := { s with toks := s.toks + nDraws k }) ho hd (h _ ⟨_, _, ep + 1, Heap.get?_update_self _ ho (Obj.isFreed_of_dict (Obj.data_mapDictKeys hd _)),
      hc.mapDictKeys _, Obj.data_mapDictKeys hd _, ?_, ?_⟩ (Heap.SameBut.update ..))))
    · rw [hput]
      simp [he, nEnt]
    · rw [hput, List.map_append, List.nodup_append]
      refine ⟨hn, by simp, fun x hx y hy e => ?_⟩
      simp only [List.map_cons, List.map_nil, List.mem_singleton] at hy
      subst hy
      subst e
      obtain ⟨z, hz, rfl⟩ := List.mem_map.mp hx
      obtain ⟨j, hj⟩ := List.mem_iff_getElem?.mp hz
      exact hS j z.2 (List.getElem?_eq_some_iff.mp hj).1 hj
  · obtain ⟨_, p, hj⟩ := hS
    have hput : nPut xs k key v = xs.map (fun x => if x.1 = k then (x.1, x.2.1, v) else x) := by unfold nPut; rw [n_at hn hj]; exact if_pos rfl
    refine wpAny_bind (wpAny_rule (wpAny_bind (wpAny_updateDict (s := { s with toks := s.toks + nDraws k }) ho hd (wpAny_point (h _ ⟨_, _, ep, Heap.get?_update_self _ ho (Obj.isFreed_of_dict (Obj.data_mapDict hd _)),
      hc.mapDict _, Obj.data_mapDict hd _, ?_, ?_⟩ (Heap.SameBut.update ..))))))
    · rw [hput]
      have key' : ∀ {xs : NX} {j : Nat} {p : Value × Value}, (xs.map (·.1)).Nodup → xs[j]? = some (k, p) → (xs.map (nEnt P w)).modify j (fun e : DictEntry => { e with val := v }) = (xs.map (fun x => if x.1 = k then (x.1, x.2.1, v) else x)).map (nEnt P w) := by
        intro xs
        induction xs with
        | nil => intro j p _ hj; simp at hj
        | cons x rest ih =>
          intro j p hn hj
          rw [List.map_cons, List.nodup_cons] at hn
          cases j with
          | zero =>
            obtain rfl : x = (k, p) := by simpa using hj
            have hr : rest.map (fun x => if x.1 = k then (x.1, x.2.1, v) else x) = rest := by
              refine (List.map_congr_left fun y hy => ?_).trans (List.map_id _)
              exact if_neg fun e => hn.1 (List.mem_map.mpr ⟨y, hy, e⟩)
            rw [List.map_cons, List.map_cons, hr, if_pos rfl, List.map_cons]
            rfl
          | succ j =>
            have hj' : rest[j]? = some (k, p) := by simpa using hj
            have hne : ¬ x.1 = k := fun e => hn.1 (e ▸ List.mem_map.mpr ⟨(k, p), List.mem_of_getElem? hj', rfl⟩)
            rw [List.map_cons, List.map_cons, if_neg hne, List.map_cons]
            show _ :: (rest.map (nEnt P w)).modify j _ = _
            rw [ih hn.2 hj']
      have := key' hn hj
      rw [← he] at this
      obtain ⟨l⟩ := es
      simpa using this
    · rw [hput]
      have : (xs.map fun x => if x.1 = k then (x.1, x.2.1, v) else x).map (·.1) = xs.map (·.1) := by
        rw [List.map_map]
        refine List.map_congr_left fun x _ => ?_
        show (if x.1 = k then (x.1, x.2.1, v) else x).1 = x.1
        split <;> rfl
      rw [this]
      exact hn
end
end ND
/-! ## a dict whose keys are None and tuples, in the heap -/
namespace ND
open PySem PySem.Spec PyProof.Rows L2
def nv : Option Addr → Value
  | none => .none
  | some a => .ref a
def nV : Option Addr → V
  | none => .non
  | some a => .ref a
theorem nv_rel (o : Option Addr) : RelV (nV o) (nv o) := by cases o <;> rfl
theorem nv_of {o : Option Addr} {u : Value} (h : RelV (nV o) u) : u = nv o := by cases o <;> exact h
/-- key, where its tuple stands, what it holds -/
abbrev NY := List (NKey × Option Addr × Option Addr)
def nX (ys : NY) : NX := ys.map fun y => (y.1, nv y.2.1, nv y.2.2)
def nHO (P : Program) (w : World) (d : Addr) (ys : NY) : HO := .ext fun h => (d == sysModules) = false ∧ ys.length ≤ sizeLine ∧ NRaw P w h d (nX ys)
/-- a key in the heap -/
def NK (H : Hp) : NKey → Option Addr → Prop
  | none, o => o = none
  | some ks, o => ∃ b, o = some b ∧ H b = some (.tup (ks.map kV))
def NKs (H : Hp) (ys : NY) : Prop := ∀ y ∈ ys, NK H y.1 y.2.1
def yAt (ys : NY) (k : NKey) : Option (Option Addr) := (ys.find? fun y => decide (y.1 = k)).map (·.2.2)
def yPut (ys : NY) (k : NKey) (a v : Option Addr) : NY := if (yAt ys k).isSome then ys.map (fun y => if y.1 = k then (y.1, y.2.1, v) else y) else ys ++ [(k, a, v)]
theorem yAt_put (ys : NY) (k j : NKey) (a v : Option Addr) : yAt (yPut ys k a v) j = if j = k then some v else yAt ys j := by
  unfold yPut
  have hat : ∀ (ys : NY) (y : NKey × Option Addr × Option Addr) (j : NKey), yAt (y :: ys) j = if y.1 = j then some y.2.2 else yAt ys j := by
    intro ys y j
    unfold yAt
    rw [List.find?_cons]
    by_cases e : y.1 = j
    · simp [e]
    · simp [e]
  by_cases h : (yAt ys k).isSome = true
  · rw [if_pos h]
    have key : ∀ ys : NY, yAt (ys.map fun y => if y.1 = k then (y.1, y.2.1, v) else y) j = if j = k then (yAt ys k).map (fun _ => v) else yAt ys j := by
      intro ys
      induction ys with
      | nil => split <;> rfl
      | cons y ys ih =>
        rw [List.map_cons, hat, hat, hat, ih]
        by_cases e : y.1 = k
        · rw [if_pos e]
          by_cases q : j = k
          · subst q
            rw [if_pos e, if_pos rfl, if_pos e]
            rfl
          · rw [if_neg (fun z => q (z.symm.trans e)), if_neg q, if_neg q, if_neg (fun z => q (z.symm.trans e))]
        · rw [if_neg e]
          by_cases q : j = k
          · subst q
            rw [if_neg e, if_pos rfl, if_pos rfl, if_neg e]
          · rw [if_neg q, if_neg q]
    rw [key]
    obtain ⟨x, hx⟩ := Option.isSome_iff_exists.mp h
    rw [hx]
    rfl
  · rw [if_neg h]
    have hn : yAt ys k = none := by cases q : yAt ys k with | none => rfl | some _ => rw [q] at h; exact absurd rfl h
    clear h
    induction ys with
    | nil =>
      show yAt [(k, a, v)] j = _
      rw [hat]
      by_cases q : j = k
      · rw [if_pos q.symm, if_pos q]
      · rw [if_neg (fun z => q z.symm), if_neg q]
    | cons y ys ih =>
      rw [hat] at hn
      by_cases e : y.1 = k
      · rw [if_pos e] at hn; cases hn
      · rw [if_neg e] at hn
        rw [List.cons_append, hat, hat, ih hn]
        by_cases q : y.1 = j
        · rw [if_pos q, if_neg (fun z => e (q.trans z)), if_pos q]
        · rw [if_neg q, if_neg q]
theorem yPut_len (ys : NY) (k : NKey) (a v : Option Addr) : (yPut ys k a v).length ≤ ys.length + 1 := by
  unfold yPut
  split
  · rw [List.length_map]; omega
  · rw [List.length_append]; exact Nat.le_refl _
theorem nAt_x (ys : NY) (k : NKey) : (nAt (nX ys) k).map (·.2) = (yAt ys k).map nv := by
  unfold nAt yAt nX
  rw [List.find?_map]
  simp only [Option.map_map]
  rfl
theorem nPut_x (ys : NY) (k : NKey) (a v : Option Addr) : nPut (nX ys) k (nv a) (nv v) = nX (yPut ys k a v) := by
  have h : (nAt (nX ys) k).isSome = (yAt ys k).isSome := by
    have := congrArg Option.isSome (nAt_x ys k)
    simpa using this
  unfold nPut yPut
  rw [h]
  split
  · unfold nX
    rw [List.map_map, List.map_map]
    refine List.map_congr_left fun y _ => ?_
    show (if y.1 = k then _ else _) = _
    by_cases e : y.1 = k
    · rw [if_pos e]
      show _ = (fun y : NKey × Option Addr × Option Addr => (y.1, nv y.2.1, nv y.2.2)) (if y.1 = k then (y.1, y.2.1, v) else y)
      rw [if_pos e]
    · rw [if_neg e]
      show _ = (fun y : NKey × Option Addr × Option Addr => (y.1, nv y.2.1, nv y.2.2)) (if y.1 = k then (y.1, y.2.1, v) else y)
      rw [if_neg e]
  · unfold nX
    rw [List.map_append]
    rfl
theorem NKs.put {H : Hp} {ys : NY} {k : NKey} {a v : Option Addr} (h : NKs H ys) (hk : NK H k a) : NKs H (yPut ys k a v) := by
  unfold yPut
  split
  · intro y hy
    obtain ⟨z, hz, e⟩ := List.mem_map.mp hy
    split at e
    · rw [← e]; exact h z hz
    · rw [← e]; exact h z hz
  · intro y hy
    rcases List.mem_append.mp hy with hy | hy
    · exact h y hy
    · rw [List.mem_singleton.mp hy]; exact hk
theorem NK.keep {H H' : Hp} (ht : ∀ b xs, H b = some (.tup xs) → H' b = some (.tup xs)) : ∀ {k : NKey} {a : Option Addr}, NK H k a → NK H' k a
  | none, _, h => h
  | some _, _, ⟨b, e, h⟩ => ⟨b, e, ht _ _ h⟩
theorem NKs.keep {H H' : Hp} {ys : NY} (h : NKs H ys) (ht : ∀ b xs, H b = some (.tup xs) → H' b = some (.tup xs)) : NKs H' ys := fun y hy => (h y hy).keep ht
section
variable {X : Cx} {pins : List (Addr × Obj)} {σ : L2.St} {H : Hp} {s : Shared} {d : Addr} {A : Around} {E : Value → Shared → Prop} {ys : NY} {k : NKey} {a : Option Addr}
theorem nis_of (I : Inv X pins σ H s) (h : NK H k a) : NIs X.prog X.w s.heap k (nv a) := by
  cases k with
  | none =>
    obtain rfl : a = none := h
    rfl
  | some ks =>
    obtain ⟨b, rfl, hb⟩ := h
    exact ⟨b, rfl, key_of I.hok hb⟩
theorem niss_of (I : Inv X pins σ H s) (h : NKs H ys) : ∀ x ∈ nX ys, NIs X.prog X.w s.heap x.1 x.2.1 := fun x hx => by
  obtain ⟨y, hy, rfl⟩ := List.mem_map.mp hx
  exact nis_of I (h y hy)
theorem n_ok (I : Inv X pins σ H s) (hd : H d = some (nHO X.prog X.w d ys)) : (d == sysModules) = false ∧ ys.length ≤ sizeLine ∧ NRaw X.prog X.w s.heap d (nX ys) := by
  obtain ⟨q, _, _⟩ := (show ObjOk X.prog X.w H s.heap d (nHO X.prog X.w d ys) from I.hok d _ hd)
  exact q
theorem n_new {P : Program} {w : World} {H' : Hp} {h' : Heap} {ys : NY} (hd : (d == sysModules) = false) (hl : ys.length ≤ sizeLine) (hr : NRaw P w h' d (nX ys)) : ObjOk P w H' h' d (nHO P w d ys) := by
  refine ⟨⟨hd, hl, hr⟩, ?_, ?_⟩
  · obtain ⟨o, _, _, ho, _⟩ := hr
    exact ⟨o, ho⟩
  · rintro h1 h2 ⟨q1, q2, o, es, ep, ho, r⟩ k
    exact ⟨q1, q2, o, es, ep, k _ ho, r⟩
theorem n_getItem {v : Option Addr} {Q : Value → Shared → Prop} (hu : A.units + 2 < cLine) (I : Inv X pins σ H s) (hd : H d = some (nHO X.prog X.w d ys)) (hks : NKs H ys) (hk : NK H k a) (hv : yAt ys k = some v)
    (h : ∀ s', Inv X pins σ H s' → Q (nv v) s') : wpAny (model X.prog X.w) A (getItem (.ref d) (nv a)) Q E s := by
  obtain ⟨h1, h2, h3⟩ := n_ok I hd
  unfold getItem
  try with_reducible refine wpAny_holding ?_
  refine wpAny_bind (wpAny_sequenceKey h3.typeIs (by decide) ?_)
  refine wpAny_bind (wpAny_callSpecial?_slot (name := Str.ofString "__getitem__") h3.typeIs PySem.F.slot_dict_getitem
    (wpAny_call_entry PySem.F.slot_dict_getitem h3.typeIs PySem.F.entry_dict_getitem ?_ (PySem.F.args_dict_getitem_2 _ _)))
  show wpAny _ _ (dictGet d (nv a) >>= _) _ _ s
  refine wpAny_bind (n_get (show A.in1.units + 1 < cLine from by show A.units + 1 + 1 < cLine; omega) (nis_of I hk) h3 (niss_of I hks) ?_)
  rw [nAt_x, hv]
  exact wpAny_pure ⟨_, rfl, wpAny_pure (h _ (I.tok _))⟩
theorem n_in {Q : Value → Shared → Prop} (hu : A.units + 2 < cLine) (I : Inv X pins σ H s) (hd : H d = some (nHO X.prog X.w d ys)) (hks : NKs H ys) (hk : NK H k a)
    (h : ∀ s', Inv X pins σ H s' → Q (.bool (yAt ys k).isSome) s') : wpAny (model X.prog X.w) A (compareOp .In (nv a) (.ref d)) Q E s := by
  obtain ⟨h1, h2, h3⟩ := n_ok I hd
  show wpAny _ _ (do return .bool (← contains (.ref d) (nv a))) Q E s
  refine wpAny_bind ?_
  unfold contains
  try with_reducible refine wpAny_holding ?_
  refine wpAny_bind (wpAny_specialOf h3.typeIs PySem.F.slot_dict_contains.lookup ?_)
  show wpAny _ _ (if (some (Value.builtin "dict.__contains__") == some Value.none) = true then _ else _) _ E s
  rw [if_neg (by rw [beq_builtin_none]; exact Bool.false_ne_true)]
  refine wpAny_bind (wpAny_callSpecialUnlessNone?_slot (name := Str.ofString "__contains__") h3.typeIs PySem.F.slot_dict_contains
    (wpAny_call_entry PySem.F.slot_dict_contains h3.typeIs PySem.F.entry_dict_contains ?_ (PySem.F.args_dict_contains_2 _ _)))
  show wpAny _ _ (dictGet d (nv a) >>= _) _ _ s
  refine wpAny_bind (n_get (show A.in1.units + 1 < cLine from by show A.units + 1 + 1 < cLine; omega) (nis_of I hk) h3 (niss_of I hks) ?_)
  rw [nAt_x]
  cases hf : yAt ys k with
  | some p =>
    rw [hf] at h
    show wpAny _ _ (ret (.bool true)) _ _ _
    exact wpAny_pure ⟨_, rfl, wpAny_truthy_bool (wpAny_pure (h _ (I.tok _)))⟩
  | none =>
    rw [hf] at h
    show wpAny _ _ (Builtin.Dict.pendingKey? d (nv a) >>= _) _ _ _
    exact wpAny_bind (wpAny_pendingKey_other h1 (wpAny_pure ⟨_, rfl, wpAny_truthy_bool (wpAny_pure (h _ (I.tok _)))⟩))
theorem n_setItem {v : Option Addr} {Q : Unit → Shared → Prop} (hu : A.units + 2 < cLine) (I : Inv X pins σ H s) (hd : H d = some (nHO X.prog X.w d ys)) (hks : NKs H ys) (hk : NK H k a) (hl : ys.length < sizeLine)
    (h : ∀ s', Inv X pins σ (upd H d (nHO X.prog X.w d (yPut ys k a v))) s' → Q () s') : wpAny (model X.prog X.w) A (setItem (.ref d) (nv a) (nv v)) Q E s := by
  obtain ⟨h1, h2, h3⟩ := n_ok I hd
  unfold setItem
  try with_reducible refine wpAny_holding ?_
  refine wpAny_bind (wpAny_sequenceKey h3.typeIs (by decide) ?_)
  refine wpAny_bind (wpAny_callSpecial?_slot (name := Str.ofString "__setitem__") h3.typeIs PySem.F.slot_dict_setitem
    (wpAny_call_entry PySem.F.slot_dict_setitem h3.typeIs PySem.F.entry_dict_setitem ?_ (PySem.F.args_dict_setitem_3 _ _ _)))
  show wpAny _ _ (Builtin.Dict.notOrdered "__setitem__" ⟨[.ref d, nv a, nv v], []⟩ >>= _) _ _ s
  refine wpAny_bind (wpAny_notOrdered_dict h3.typeIs ?_)
  show wpAny _ _ (dictSet d (nv a) (nv v) >>= _) _ _ s
  refine wpAny_bind (n_set (show A.in1.units + 1 < cLine from by show A.units + 1 + 1 < cLine; omega) (nis_of I hk) h3 (niss_of I hks) (by unfold nX; rw [List.length_map]; exact h2) fun h' hm hs => wpAny_pure ⟨.none, rfl, wpAny_pure (h _ ?_)⟩)
  rw [nPut_x] at hm
  have he : ∃ q, h'.get? d = some q := let ⟨q, _, _, hq, _⟩ := hm; ⟨q, hq⟩
  have hz := yPut_len ys k a v
  exact d_write (a := d) I (by rw [hd]; exact True.intro) hs he (n_new h1 (by omega) hm)
end
/-! ### readings and rules -/
def tNGet (P : Program) (w : World) (td ty : TE) : TE := fun σ H Q => td σ H fun x H1 => ty σ H1 fun y H2 => ∃ d ys k a v, x = .ref d ∧ y = nV a ∧ H2 d = some (nHO P w d ys) ∧ NKs H2 ys ∧ NK H2 k a ∧ yAt ys k = some v ∧ Q (nV v) H2
def tNIn (P : Program) (w : World) (ty td : TE) : TE := fun σ H Q => ty σ H fun y H1 => td σ H1 fun x H2 => ∃ d ys k a, x = .ref d ∧ y = nV a ∧ H2 d = some (nHO P w d ys) ∧ NKs H2 ys ∧ NK H2 k a ∧ Q (.bl (yAt ys k).isSome) H2
def sNPut (P : Program) (w : World) (td ty tv : TE) : TS := fun D σ H => tv σ H fun v H1 => td σ H1 fun x H2 => ty σ H2 fun y H3 => ∃ d ys k a z, v = nV z ∧ x = .ref d ∧ y = nV a ∧ H3 d = some (nHO P w d ys) ∧ NKs H3 ys ∧ NK H3 k a ∧ ys.length < sizeLine ∧ D.nx σ (upd H3 d (nHO P w d (yPut ys k a z)))
def tNNew (P : Program) (w : World) : TE := fun σ H Q => ∀ p, H p = none → Q (.ref p) (upd H p (nHO P w p [(none, none, none)]))
section
variable {X : Cx} {o i e value : Expr} {pos pos' tpos : Pos} {td ty tv : TE}
theorem n_typeIs {pins : List (Addr × Obj)} {σ : L2.St} {H : Hp} {s : Shared} {d : Addr} {ys : NY} (I : Inv X pins σ H s) (hd : H d = some (nHO X.prog X.w d ys)) : s.TypeIs (.ref d) "dict" := (n_ok I hd).2.2.typeIs
theorem pe_nget {P : Program} {w : World} (hP : X.prog = P) (hW : X.w = w) (hu : X.A.units + 2 < cLine) (ho : PE X o td) (hi : PE X i ty) (hs : NoSl i) : PE X (.Subscript o i pos) (tNGet P w td ty) := by
  subst hP hW
  refine ⟨fun pins s σ H Q I h => ?_⟩
  refine subD_of PySem.F.slot_dict_getitem.lookup hs (thn (ho.run pins s σ H _ I h) fun u s1 ⟨x, H1, I1, rx, q1⟩ => thn (hi.run pins s1 σ H1 _ I1 q1) fun iv s2 ⟨y, H2, I2, ry, d, ys, k, a, v, ex, ey, hd, hks, hk, hv, q2⟩ => ?_)
  subst ex ey
  obtain rfl : u = Value.ref d := rx
  obtain rfl := nv_of ry
  exact ⟨n_typeIs I2 hd, n_getItem hu I2 hd hks hk hv fun s3 I3 => ⟨nV v, H2, I3, nv_rel v, q2⟩⟩
theorem pc_nin {P : Program} {w : World} (hP : X.prog = P) (hW : X.w = w) (hu : X.A.units + 2 < cLine) (hi : PE X i ty) (ho : PE X o td) : PC X .In i o (tNIn P w ty td) := by
  subst hP hW
  refine ⟨fun pins s σ H Q I h => ?_⟩
  refine thn (hi.run pins s σ H _ I h) fun iv s1 ⟨y, H1, I1, ry, q1⟩ => thn (ho.run pins s1 σ H1 _ I1 q1) fun u s2 ⟨x, H2, I2, rx, d, ys, k, a, ex, ey, hd, hks, hk, q2⟩ => ?_
  subst ex ey
  obtain rfl : u = Value.ref d := rx
  obtain rfl := nv_of ry
  exact n_in hu I2 hd hks hk fun s3 I3 => ⟨.bl _, H2, I3, rfl, q2⟩
theorem ps_nput {P : Program} {w : World} (hP : X.prog = P) (hW : X.w = w) (hu : X.A.units + 2 < cLine) (ho : PE X o td) (hi : PE X i ty) (hv : PE X value tv) (hs : swapsWith value (some (.Subscript o i pos')) pos.line X.env = pure false) :
    PS X (.Assign [.Subscript o i pos'] value pos) (sNPut P w td ty tv) := by
  subst hP hW
  refine ⟨fun pins s σ H D I h => ?_⟩
  refine wpAny_Assign_Subscript (thn (hv.run pins s σ H _ I h) fun r s1 ⟨v, H1, I1, rv, q1⟩ => thn (ho.run pins s1 σ H1 _ I1 q1) fun u s2 ⟨x, H2, I2, rx, q2⟩ => thn (hi.run pins s2 σ H2 _ I2 q2) fun iv s3 ⟨y, H3, I3, ry, d, ys, k, a, z, ev, ex, ey, hd, hks, hk, hl, q3⟩ => ?_) hs
  subst ev ex ey
  obtain rfl : u = Value.ref d := rx
  obtain rfl := nv_of ry
  obtain rfl := nv_of rv
  exact n_setItem hu I3 hd hks hk hl fun s4 I4 => ⟨σ, _, I4, q3⟩
/-- {None: None} -/
theorem pe_nnew {P : Program} {w : World} (hP : X.prog = P) (hW : X.w = w) {k1 v1 : Expr} {pos : Pos} (hp : PPs X pos [some k1] [v1] [(tC .non, tC .non)]) : PE X (.Dict [some k1] [v1] pos) (tNNew P w) := by
  subst hP hW
  refine ⟨fun pins s σ H Q I q => ?_⟩
  have hn := I.hok.fresh (Nat.le_refl s.heap.objs.size)
  have I1 := I.laid (a := s.heap.objs.size) (o := .dK []) (h' := s.heap.push { cls := .type "dict", data := .dict #[] }) (t' := s.toks) (fun _ _ q => Heap.get?_push_of_some _ q) (Nat.le_refl _) (dk_empty s.heap I.big)
  refine wpAny_Dict_walk (knd := noneKind X.prog X.w) rfl rfl (fun z => by cases z) (show 1 ≤ 15 by decide) (thn (hp.run pins _ σ _ (fun ps H2 => ps = [(.non, .non)] ∧ H2 = upd H s.heap.objs.size (.dK [])) I1 ⟨rfl, rfl⟩) fun ws s2 ⟨ps, H2, I2, rel, e1, e2⟩ => ?_)
  subst e1 e2
  obtain ⟨u, v, rfl, ru, rv⟩ : ∃ u v, ws = [(u, v)] ∧ RelV .non u ∧ RelV .non v := by
    cases rel with
    | cons h t =>
      cases t
      exact ⟨_, _, rfl, h.1, h.2⟩
  obtain rfl : u = .none := ru
  obtain rfl : v = .none := rv
  obtain ⟨z, hd, vs0, r0, dd⟩ := dk_of I2.hok upd_same
  cases r0
  have he : (s2.heap).DictOf (noneKind X.prog X.w) s.heap.objs.size [] := by
    obtain ⟨o, es, ep, ho, hx, hdt, hk, hpp, hnn⟩ := dd
    refine ⟨o, es, ep, ho, hx, hdt, ?_, ?_, List.nodup_nil⟩
    · intro e he
      obtain ⟨k, h1, h2⟩ := hk e he
      exact ⟨some k, h1, h2⟩
    · generalize es.toList = l at hpp ⊢
      cases hpp
      exact .nil
  refine ⟨[(none, .none)], ⟨rfl, rfl, True.intro⟩, he, fun h' dd' hs => ⟨.ref s.heap.objs.size, _, ?_, rfl, q _ hn⟩⟩
  have he' : ∃ q, h'.get? s.heap.objs.size = some q := let ⟨q, _, _, hq, _⟩ := dd'; ⟨q, hq⟩
  have e3 : upd H s.heap.objs.size (nHO X.prog X.w s.heap.objs.size [(none, none, none)]) = upd (upd H s.heap.objs.size (.dK [])) s.heap.objs.size (nHO X.prog X.w s.heap.objs.size [(none, none, none)]) := upd_upd.symm
  rw [e3]
  refine d_write I2 (by rw [upd_same]; exact True.intro) hs he' (n_new hd (show 1 ≤ sizeLine by decide) ?_)
  obtain ⟨o, es, ep, ho, hx, hdt, hk, hpp, hnn⟩ := dd'
  refine ⟨o, es, ep, ho, hx, hdt, ?_, List.pairwise_singleton ..⟩
  have hkk : ∀ e ∈ es.toList, ∃ k, (noneKind X.prog X.w).is k e.key = true ∧ e.hash = (noneKind X.prog X.w).hash k := fun e h => hk e (Array.mem_toList_iff.mp h)
  clear ho hx hdt hk
  have hm : merged ([] : List (Option Key × Value)) [(none, .none)] = [(none, .none)] := rfl
  rw [hm] at hpp
  generalize es.toList = l at hpp hkk
  cases hpp with
  | @cons e kv es' kvs h1 h2 t =>
    cases t
    obtain ⟨k, h3, h4⟩ := hkk e (List.mem_singleton.mpr rfl)
    have ek : e.key = .none := nk_none h1
    obtain ⟨eh, ekey, ev⟩ := e
    simp only at ek h2 h3 h4
    subst ek h2
    obtain rfl : k = none := by
      cases k with
      | none => rfl
      | some k => exact absurd h3 (keyIs_none k)
    subst h4
    rfl
end
theorem hu2 {k : Nat} {A : Around} (hr : Room k A) : A.units + 2 < cLine := by
  have := hr.un
  omega
end ND
namespace DM
open PySem PySem.Spec PyProof.Rows L2 SX HL
/-! ## the row of a module: sorting, putting -/
theorem zip_k {α : Type} (key : α → PyData) : ∀ (es : List α) (us : List V), (es.zip us).map (fun z => (z.2, key z.1)) = us.zip (es.map key)
  | [], us => by cases us <;> rfl
  | k :: ks, [] => rfl
  | k :: ks, t :: ts => congrArg (_ :: ·) (zip_k key ks ts)
theorem byKey_rows {α : Type} (es : List α) (us : List V) (key : α → PyData) : ∃ zs : List (α × V), zs.Perm (es.zip us) ∧ HS.byKey us (es.map key) = zs.map (fun z => z.2) ∧
    zs.Pairwise fun a b => PySem.W.dataLe false (Prod.snd (α := V)) (a.2, key a.1) (b.2, key b.1) = true := by
  refine ⟨(es.zip us).mergeSort (PySem.W.sortLe (PyProof.Rows.listOrd PyProof.Rows.itemOrd) false fun z : α × V => PySem.W.keyToks (key z.1)), List.mergeSort_perm _ _, ?_, ?_⟩
  · unfold HS.byKey
    rw [← zip_k, ← PySem.W.sort_maps (r := PySem.W.sortLe (PyProof.Rows.listOrd PyProof.Rows.itemOrd) false fun z : α × V => PySem.W.keyToks (key z.1)) (fun z : α × V => (z.2, key z.1)) (fun _ _ _ _ => rfl), List.map_map]
    rfl
  · exact PySem.W.sort_pairwise (PySem.W.sortLe_total _ _ _) _
theorem mD_alike (a b : Mark) : PySem.W.alike (mD a) (mD b) = true := by
  simp [mD, di, PySem.W.alike, PySem.W.alikeAll]
theorem mD_le {a b : Mark} {x y : V} (h : PySem.W.dataLe false (Prod.snd (α := V)) (x, mD a) (y, mD b) = true) : a = b ∨ mlt a b := by
  unfold PySem.W.dataLe PySem.W.sortLe at h
  simp [mD, di, PySem.W.keyToks, PySem.W.keyToksAll] at h
  rw [PyProof.Rows.lex_cons, PyProof.Rows.lex_cons, PyProof.Rows.lex_cons, PyProof.Rows.lex_cons] at h
  have e1 : itemOrd.blt (Sum.inl (1 : Int)) (Sum.inl (1 : Int)) = false := by decide
  have e2 : ∀ a b : Int, itemOrd.blt (Sum.inl a) (Sum.inl b) = decide (a < b) := fun _ _ => rfl
  rw [e1, e2, e2, e2, e2] at h
  simp only [Bool.not_false, Bool.true_and, Bool.false_or, Bool.or_eq_false_iff, Bool.and_eq_false_iff, Bool.not_eq_false', decide_eq_true_eq, decide_eq_false_iff_not] at h
  obtain ⟨a1, a2⟩ := a
  obtain ⟨b1, b2⟩ := b
  unfold mlt
  simp only at h ⊢
  by_cases q : a1 = b1 ∧ a2 = b2
  · exact .inl (Prod.ext q.1 q.2)
  · refine .inr ?_
    omega
theorem srt_of {rows : Rows} {m : List Nat} (G : Good rows) {us : List V} {zs : List (EntF × V)} (hl : us.length = (found rows m).length) (hp : zs.Perm ((found rows m).zip us))
    (ho : zs.Pairwise fun a b => PySem.W.dataLe false (Prod.snd (α := V)) (a.2, mD a.1.1) (b.2, mD b.1.1) = true) : Srt rows m (zs.map (·.1)) := by
  have h1 : (zs.map (·.1)).Perm (found rows m) := by
    have := hp.map (·.1)
    rwa [List.map_fst_zip (by omega)] at this
  refine ⟨h1, ?_⟩
  have h2 : ((zs.map (·.1)).map (fun e : EntF => e.1)).Nodup := (h1.map (fun e : EntF => e.1)).nodup_iff.mpr (marks_nodup G m)
  rw [List.map_map] at h2
  have h3 : zs.Pairwise fun a b => a.1.1 ≠ b.1.1 := List.pairwise_map.mp h2
  rw [List.pairwise_map]
  exact (List.Pairwise.and ho h3).imp fun {a b} h => (mD_le h.1).resolve_left h.2
theorem all2_zip {α β : Type} {R : α → β → Prop} : ∀ {xs : List α} {ys : List β}, All2 R xs ys → ∀ z ∈ ys.zip xs, R z.2 z.1
  | _, _, .nil, z, h => by cases h
  | _, _, .cons h t, z, hz => by
    rcases List.mem_cons.mp hz with e | hz
    · rw [e]; exact h
    · exact all2_zip t z hz
theorem all2_of_zip {α β : Type} {R : α → β → Prop} : ∀ {zs : List (β × α)}, (∀ z ∈ zs, R z.2 z.1) → All2 R (zs.map (·.2)) (zs.map (·.1))
  | [], _ => .nil
  | z :: zs, h => .cons (h z (List.mem_cons_self ..)) (all2_of_zip fun y hy => h y (List.mem_cons_of_mem _ hy))
theorem insertIdx_eq {α : Type} (x : α) : ∀ (i : Nat) (l : List α), i ≤ l.length → l.insertIdx i x = l.take i ++ [x] ++ l.drop i
  | 0, l, _ => rfl
  | i + 1, [], h => absurd h (Nat.not_succ_le_zero _)
  | i + 1, a :: l, h => by
    show a :: l.insertIdx i x = a :: (l.take i ++ [x] ++ l.drop i)
    rw [insertIdx_eq x i l (Nat.le_of_succ_le_succ h)]
theorem all2_ins {α β : Type} {R : α → β → Prop} {x : α} {y : β} (h : R x y) : ∀ {xs : List α} {ys : List β}, All2 R xs ys → ∀ i, All2 R (xs.take i ++ [x] ++ xs.drop i) (ys.take i ++ [y] ++ ys.drop i)
  | _, _, .nil, i => by
    rw [List.take_nil, List.drop_nil, List.take_nil, List.drop_nil]
    exact .cons h .nil
  | _, _, .cons h1 t, 0 => .cons h (.cons h1 t)
  | _, _, .cons h1 t, i + 1 => .cons h1 (all2_ins h t i)
theorem all2_app {α β : Type} {R : α → β → Prop} : ∀ {xs : List α} {ys : List β} {xs' : List α} {ys' : List β}, All2 R xs ys → All2 R xs' ys' → All2 R (xs ++ xs') (ys ++ ys')
  | _, _, _, _, .nil, h => h
  | _, _, _, _, .cons h1 t, h => .cons h1 (all2_app t h)
theorem idx_none {l : List Mark} {x y : Mark} {m : Nat} (h : m < l.idxOf x) (hy : l[m]? = some y) : y ≠ x := fun e => by
  subst e
  obtain ⟨h1, h2⟩ := List.getElem?_eq_some_iff.mp hy
  have := List.not_of_lt_findIdx (p := fun x : Mark => x == y) (xs := l) h
  rw [h2] at this
  simp at this
def EntFP (H : Hp) (x : V) (e : EntF) : Prop := ∃ t xm xb, x = .ref t ∧ H t = some (.tup [xm, xb, .str (S [e.2.2.1]), .bl e.2.2.2]) ∧ MkAt H xm e.1 ∧ OMk H xb e.2.1
def CelP (H : Hp) (x : V) (c : Cel) : Prop := ∃ t xm, x = .ref t ∧ H t = some (.tup [xm, .str (S [c.2.1]), .bl c.2.2]) ∧ MkAt H xm c.1
theorem EntFP.keep {H H' : Hp} {x : V} {c : EntF} (h : EntFP H x c) (k : TupK H H') : EntFP H' x c := by
  obtain ⟨t, xm, xb, e, ht, h1, h2⟩ := h
  exact ⟨t, xm, xb, e, k _ _ ht, h1.keep k, h2.keep k⟩
theorem CelP.keep {H H' : Hp} {x : V} {c : Cel} (h : CelP H x c) (k : TupK H H') : CelP H' x c := by
  obtain ⟨t, xm, e, ht, h1⟩ := h
  exact ⟨t, xm, e, k _ _ ht, h1.keep k⟩
theorem extN_tk {H H' : Hp} (e : LamX.ExtN H H') : TupK H H' := fun a o h => e a _ h fun ps z => nomatch z
theorem RowsAt.keepN {H H' : Hp} {A : Addr} {rs : List Addr} {rows : Rows} (R : RowsAt H A rs rows) (s : LamX.ExtN H H') : RowsAt H' A rs rows :=
  ⟨s _ _ R.h (fun ps z => nomatch z), R.n, fun i a h => by obtain ⟨us, h1, h2⟩ := R.r i a h; exact ⟨us, s _ _ h1 (fun ps z => nomatch z), h2.mono fun v d h => h.keep (extN_tk s)⟩⟩
/-- as before but for the list at l -/
def ButL (l : Addr) (H H' : Hp) : Prop := ∀ a o, H a = some o → a ≠ l → H' a = some o
theorem ButL.refl {l : Addr} {H : Hp} : ButL l H H := fun _ _ h _ => h
theorem ButL.trans {l : Addr} {H H1 H2 : Hp} (a : ButL l H H1) (b : ButL l H1 H2) : ButL l H H2 := fun x o h n => b x o (a x o h n) n
theorem Same.but {l : Addr} {H H' : Hp} (s : Same H H') : ButL l H H' := fun a o h _ => s a o h
theorem ButL.upd {l : Addr} {H : Hp} {o : HO} : ButL l H (upd H l o) := fun a _ h n => by rw [upd_ne n]; exact h
theorem ButL.tk {l : Addr} {H H' : Hp} {xs : List V} (h : H l = some (.lst xs)) (b : ButL l H H') : TupK H H' := fun a o e => b a _ e fun z => by rw [z, h] at e; cases e
theorem ButL.same {l : Addr} {H H1 H2 : Hp} (h : H l = none) (s : Same H H1) (b : ButL l H1 H2) : Same H H2 := fun a o e => b a _ (s a o e) (ne_of_none e h)
theorem flat_take {α β : Type} {f : α → List β} {l : List α} {i : Nat} {c : α} (h : l[i]? = some c) : (l.take (i + 1)).flatMap f = (l.take i).flatMap f ++ f c := by
  rw [take_snoc h, List.flatMap_append, List.flatMap_singleton]
def remF (c : Chg) : List Mark := if c.2.2 then remD c.2.1 else []
theorem removed_eq (rows : Rows) (m : List Nat) : removed rows m = (changes rows m).flatMap remF := rfl
def toF (f : Bool) (e : Ent) : EntF := (e.1, e.2.1, e.2.2, f)
theorem entF_eq (c : Chg) : entF c = (entD c.1 c.2.1).map (toF c.2.2) := rfl
theorem pre_len {α β : Type} (f : α → List β) (l : List α) (i : Nat) : ((l.take i).flatMap f).length ≤ (l.flatMap f).length := by
  have : l.flatMap f = (l.take i).flatMap f ++ (l.drop i).flatMap f := by rw [← List.flatMap_append, List.take_append_drop]
  rw [this, List.length_append]
  omega
theorem tabs_but {T : List (Addr × Str)} {l : Addr} {H H' : Hp} {xs : List V} (h : LamX.Tabs T H) (hl : H l = some (.lst xs)) (b : ButL l H H') : LamX.Tabs T H' := fun p hp => by
  obtain ⟨ps, h1, h2, h3⟩ := h p hp
  refine ⟨ps, b _ _ h1 (fun e => by rw [e, hl] at h1; cases h1), h2, fun pos cv hc => ?_⟩
  obtain ⟨c, e, hc⟩ := h3 pos cv hc
  refine ⟨c, e, b _ _ hc (fun z => by rw [z, hl] at hc; cases hc)⟩
theorem any_eqv (rm : List Mark) (x : Mark) : ((rm.map mD).any fun z => PyData.eqv z (mD x)) = decide (x ∈ rm) := by
  rw [Bool.eq_iff_iff, decide_eq_true_iff, List.any_eq_true]
  constructor
  · rintro ⟨z, hz, e⟩
    obtain ⟨y, hy, rfl⟩ := List.mem_map.mp hz
    rw [eqv_mark, decide_eq_true_iff] at e
    rw [← e]
    exact hy
  · intro h
    exact ⟨mD x, List.mem_map.mpr ⟨x, h, rfl⟩, by rw [eqv_mark]; exact decide_eq_true rfl⟩
theorem put_step {H H' : Hp} {us : List V} {es : List EntF} {rm : List Mark} {i : Nat} {e : EntF} {t : Addr} {xm : V} {bb : Bool} (he : es[i]? = some e) (hu : All2 (CelP H) us (build rm (es.take i))) (k : TupK H H')
    (hs : ∀ x, e.2.1 = some x → x ∈ (build rm (es.take i)).map (·.1)) (hb : bb = (e.2.2.2 && !decide (e.1 ∈ rm))) (ht : H' t = some (.tup [xm, .str (S [e.2.2.1]), .bl bb])) (hm : MkAt H' xm e.1) :
    All2 (CelP H') (us.take (slot e.2.1 (build rm (es.take i))) ++ [.ref t] ++ us.drop (slot e.2.1 (build rm (es.take i)))) (build rm (es.take (i + 1))) := by
  rw [take_snoc he, build_snoc]
  unfold put
  rw [insertIdx_eq _ _ _ (slot_le hs)]
  subst hb
  exact all2_ins ⟨t, xm, rfl, ht, hm⟩ (hu.mono fun v e h => h.keep k) _
theorem all2_take {α β : Type} {R : α → β → Prop} : ∀ {xs : List α} {ys : List β}, All2 R xs ys → ∀ i, All2 R (xs.take i) (ys.take i)
  | _, _, .nil, i => by
    rw [List.take_nil, List.take_nil]
    exact .nil
  | _, _, .cons h1 t, 0 => .nil
  | _, _, .cons h1 t, i + 1 => .cons h1 (all2_take t i)
theorem all2_some {H : Hp} : ∀ {us : List V} {x : List Mark}, All2 (MkAt H) us x → All2 (OMk H) us (x.map some)
  | _, _, .nil => .nil
  | _, _, .cons h t => .cons h (all2_some t)
structure Fits (W : Rows) (r : Nat) (d : Deed) : Prop where
  ok : DOk d
  num : ∀ m x b n t, d = .change m x b n t → ∀ e ∈ W r, endD e ≤ n
  nam : ∀ m x b n t, d = .change m x b n t → ∀ y ∈ x ++ b.toList, y ∈ marks W m ∧ y.1 < n
theorem hu65 {k : Nat} {A : Around} (hr : Room k A) : A.units + 65 < cLine := by
  have := hr.un
  omega
theorem build_len (rm : List Mark) {rows : Rows} {m : List Nat} {es : List EntF} (G : Good rows) (S : Srt rows m es) {i : Nat} (hi : i ≤ es.length) : (build rm (es.take i)).length = i := by
  have := (build_perm G S rm i hi).1.length_eq
  rw [List.length_map, List.length_map, List.length_take] at this
  omega
end DM
namespace DM
open PySem PySem.Spec PyProof.Rows L2 SX HL
/-! ## what replicas have seen -/
def view (R : Rows) (c : Nat → Nat) : Rows := fun r => (R r).take (c r)
def Num (l : List Deed) : Prop := l.Pairwise fun a b => (∃ m x c n t, b = .change m x c n t) → endD a ≤ numD b
structure Inv (R : Rows) (M : Nat) (cnt : Nat → Nat → Nat) (k : Nat) : Prop where
  len : ∀ r, (R r).length ≤ k
  dok : ∀ r, ∀ d ∈ R r, DOk d
  num : ∀ r, Num (R r)
  le : ∀ p, p < M → ∀ j, cnt p j ≤ (R j).length
  own : ∀ p, p < M → cnt p p = (R p).length
  nam : ∀ p, p < M → ∀ r, r < 8 → ∀ m x b n t, Deed.change m x b n t ∈ view R (cnt p) r → ∀ y ∈ x ++ b.toList, y ∈ marks (view R (cnt p)) m ∧ y.1 < n
theorem Inv.good {R : Rows} {M k p : Nat} {cnt : Nat → Nat → Nat} (I : Inv R M cnt k) (hp : p < M) : Good (view R (cnt p)) :=
  ⟨fun r _ => (I.num r).sublist (List.take_sublist _ _), I.nam p hp⟩
theorem Inv.few {R : Rows} {M k : Nat} {cnt : Nat → Nat → Nat} (I : Inv R M cnt k) (hk : k ≤ 100) : Few R := fun r _ => ⟨Nat.le_trans (I.len r) hk, I.dok r⟩
theorem Few.view {R : Rows} (h : Few R) (c : Nat → Nat) : Few (view R c) := fun r hr => ⟨(by show ((R r).take (c r)).length ≤ 100; rw [List.length_take]; exact Nat.le_trans (Nat.min_le_right ..) (h r hr).1), fun d hd => (h r hr).2 d (List.mem_of_mem_take hd)⟩
theorem mem_take_max {l : List Deed} {a b : Nat} {d : Deed} (h : d ∈ l.take (max a b)) : d ∈ l.take a ∨ d ∈ l.take b := by
  rcases Nat.le_total a b with e | e
  · rw [Nat.max_eq_right e] at h; exact .inr h
  · rw [Nat.max_eq_left e] at h; exact .inl h
theorem mem_take_mono {l : List Deed} {a b : Nat} {d : Deed} (h : d ∈ l.take a) (e : a ≤ b) : d ∈ l.take b := by
  obtain ⟨i, hi⟩ := List.mem_iff_getElem?.mp h
  rw [List.getElem?_take] at hi
  split at hi
  · exact List.mem_of_getElem? (i := i) (by rw [List.getElem?_take, if_pos (by omega)]; exact hi)
  · cases hi
theorem Inv.merge {R : Rows} {M k p q : Nat} {cnt : Nat → Nat → Nat} (I : Inv R M cnt k) (hp : p < M) (hq : q < M) : Inv R M (fun p' j => if p' = p then max (cnt p j) (cnt q j) else cnt p' j) k := by
  refine ⟨I.len, I.dok, I.num, fun p' h j => ?_, fun p' h => ?_, fun p' h => ?_⟩
  · have h1 := I.le p hp j
    have h2 := I.le q hq j
    have h3 := I.le p' h j
    show (if p' = p then _ else _) ≤ _
    split <;> omega
  · show (if p' = p then _ else _) = _
    split
    · rename_i e
      subst e
      have h1 := I.own p' hp
      have h2 := I.le q hq p'
      omega
    · exact I.own p' h
  · by_cases e : p' = p
    · subst e
      have ee : view R (fun j => if p' = p' then max (cnt p' j) (cnt q j) else cnt p' j) = view R (fun j => max (cnt p' j) (cnt q j)) := by
        unfold view
        funext r
        simp
      show ∀ r, r < 8 → ∀ m x b n t, Deed.change m x b n t ∈ view R (fun j => if p' = p' then max (cnt p' j) (cnt q j) else cnt p' j) r → ∀ y ∈ x ++ b.toList, y ∈ marks (view R (fun j => if p' = p' then max (cnt p' j) (cnt q j) else cnt p' j)) m ∧ y.1 < n
      rw [ee]
      intro r hr m x b n t hd y hy
      rcases mem_take_max hd with hd | hd
      · obtain ⟨h1, h2⟩ := I.nam p' hp r hr m x b n t hd y hy
        exact ⟨marks_mono (fun r _ d hd => mem_take_mono hd (Nat.le_max_left _ _)) h1, h2⟩
      · obtain ⟨h1, h2⟩ := I.nam q hq r hr m x b n t hd y hy
        exact ⟨marks_mono (fun r _ d hd => mem_take_mono hd (Nat.le_max_right _ _)) h1, h2⟩
    · have ee : (fun j => if p' = p then max (cnt p j) (cnt q j) else cnt p' j) = cnt p' := by
        funext j
        rw [if_neg e]
      show ∀ r, r < 8 → ∀ m x b n t, Deed.change m x b n t ∈ view R (fun j => if p' = p then max (cnt p j) (cnt q j) else cnt p' j) r → ∀ y ∈ x ++ b.toList, y ∈ marks (view R (fun j => if p' = p then max (cnt p j) (cnt q j) else cnt p' j)) m ∧ y.1 < n
      rw [ee]
      exact I.nam p' h
def addR (R : Rows) (p : Nat) (δ : Deed) : Rows := fun r => if r = p then R p ++ [δ] else R r
def addC (R : Rows) (p : Nat) (cnt : Nat → Nat → Nat) : Nat → Nat → Nat := fun p' j => if p' = p ∧ j = p then (R p).length + 1 else cnt p' j
theorem Inv.add {R : Rows} {M k p : Nat} {cnt : Nat → Nat → Nat} {δ : Deed} (I : Inv R M cnt k) (hp : p < M) (hp8 : p < 8) (F : Fits (view R (cnt p)) p δ) : Inv (addR R p δ) M (addC R p cnt) (k + 1) := by
  have hown : view R (cnt p) p = R p := by
    unfold view
    rw [I.own p hp, List.take_length]
  have vself : view (addR R p δ) (addC R p cnt p) = addR (view R (cnt p)) p δ := by
    funext r
    unfold view addR addC
    by_cases e : r = p
    · subst e
      rw [if_pos rfl, if_pos ⟨rfl, rfl⟩, if_pos rfl]
      show _ = (R r).take (cnt r r) ++ [δ]
      rw [I.own r hp, List.take_length, List.take_of_length_le (by rw [List.length_append]; exact Nat.le_refl _)]
    · rw [if_neg e, if_neg (fun z => e z.2), if_neg e]
  have vother : ∀ p', p' < M → p' ≠ p → view (addR R p δ) (addC R p cnt p') = view R (cnt p') := fun p' h e => by
    funext r
    unfold view addR addC
    rw [if_neg (fun z => e z.1)]
    by_cases e2 : r = p
    · subst e2
      rw [if_pos rfl, List.take_append_of_le_length (I.le p' h r)]
    · rw [if_neg e2]
  refine ⟨fun r => ?_, fun r d hd => ?_, fun r => ?_, fun p' h j => ?_, fun p' h => ?_, fun p' h => ?_⟩
  · unfold addR
    have h1 := I.len r
    have h2 := I.len p
    split
    · rw [List.length_append]; exact Nat.succ_le_succ h2
    · omega
  · unfold addR at hd
    split at hd
    · rcases List.mem_append.mp hd with hd | hd
      · exact I.dok p d hd
      · rw [List.mem_singleton.mp hd]; exact F.ok
    · exact I.dok r d hd
  · unfold addR
    split
    · refine List.pairwise_append.mpr ⟨I.num p, List.pairwise_singleton .., fun a ha b hb => ?_⟩
      rw [List.mem_singleton.mp hb]
      rintro ⟨m, x, c, n, t, rfl⟩
      exact F.num _ _ _ _ _ rfl a (by rw [hown]; exact ha)
    · exact I.num r
  · unfold addR addC
    have h3 := I.le p' h j
    split
    · rename_i e
      rw [if_pos e.2, List.length_append]
      exact Nat.le_refl _
    · split
      · rename_i e
        subst e
        rw [List.length_append]
        exact Nat.le_succ_of_le h3
      · exact h3
  · unfold addR addC
    by_cases e : p' = p
    · subst e
      rw [if_pos ⟨rfl, rfl⟩, if_pos rfl, List.length_append]
      rfl
    · rw [if_neg (fun z => e z.1), if_neg e]
      exact I.own p' h
  · by_cases e : p' = p
    · subst e
      rw [vself]
      intro r hr m x b n t hd y hy
      have up : ∀ {m : List Nat} {y : Mark}, y ∈ marks (view R (cnt p')) m → y ∈ marks (addR (view R (cnt p')) p' δ) m := fun h => marks_mono (fun r _ d hd => by
        unfold addR
        split
        · rename_i e; subst e; exact List.mem_append_left _ hd
        · exact hd) h
      unfold addR at hd
      split at hd
      · rcases List.mem_append.mp hd with hd | hd
        · obtain ⟨h1, h2⟩ := I.nam p' hp p' hp8 m x b n t hd y hy
          exact ⟨up h1, h2⟩
        · obtain ⟨h1, h2⟩ := F.nam _ _ _ _ _ (List.mem_singleton.mp hd).symm y hy
          exact ⟨up h1, h2⟩
      · obtain ⟨h1, h2⟩ := I.nam p' hp r hr m x b n t hd y hy
        exact ⟨up h1, h2⟩
    · rw [vother p' h e]
      exact I.nam p' h
theorem Inv.start (M : Nat) : Inv (fun _ => []) M (fun _ _ => 0) 0 := by
  refine ⟨fun _ => Nat.le_refl _, fun _ _ h => (by cases h), fun _ => List.Pairwise.nil, fun _ _ _ => Nat.le_refl _, fun _ _ => rfl, fun _ _ _ _ _ _ _ _ _ h => ?_⟩
  unfold view at h
  rw [List.take_nil] at h
  cases h
/-- all rows together: who writes has seen all that he wrote -/
theorem Inv.goodR {R : Rows} {M k : Nat} {cnt : Nat → Nat → Nat} (I : Inv R M cnt k) (hM : M ≤ 8) (emp : ∀ r, M ≤ r → R r = []) : Good R :=
  ⟨fun r _ => I.num r, fun r hr m x b n t hd y hy => by
    by_cases h : r < M
    · have hv : Deed.change m x b n t ∈ view R (cnt r) r := by
        unfold view
        rw [I.own r h, List.take_length]
        exact hd
      obtain ⟨h1, h2⟩ := I.nam r h r hr m x b n t hv y hy
      exact ⟨marks_mono (fun q _ d hd => List.mem_of_mem_take hd) h1, h2⟩
    · rw [emp r (by omega)] at hd
      cases hd⟩
end DM
namespace DM
open PySem PySem.Spec PyProof.Rows L2 SX HL
/-! ## an object of the class in the heap -/
theorem f12 : ¬ (("rows" : Str) = "_marks") := by decide +kernel
theorem f13 : ¬ (("rows" : Str) = "_ends") := by decide +kernel
theorem f23 : ¬ (("_marks" : Str) = "_ends") := by decide +kernel
def dflds (A mk en : Addr) : List (Str × V) := [("rows", .ref A), ("_marks", .ref mk), ("_ends", .ref en)]
theorem dflds_rows (A mk en : Addr) : (dflds A mk en).lookup ("rows" : Str) = some (.ref A) := lkF_eq _ _ _
theorem dflds_marks (A mk en : Addr) : (dflds A mk en).lookup ("_marks" : Str) = some (.ref mk) := by
  unfold dflds
  rw [lkF_ne (fun e => f12 e.symm), lkF_eq]
theorem dflds_ends (A mk en : Addr) : (dflds A mk en).lookup ("_ends" : Str) = some (.ref en) := by
  unfold dflds
  rw [lkF_ne (fun e => f13 e.symm), lkF_ne (fun e => f23 e.symm), lkF_eq]
theorem dflds_no (A mk en : Addr) {m : Str} (h1 : ¬ m = "rows") (h2 : ¬ m = "_marks") (h3 : ¬ m = "_ends") : (dflds A mk en).lookup m = none := by
  unfold dflds
  rw [lkF_ne h1, lkF_ne h2, lkF_ne h3]
  rfl
structure DSt (cD : Addr) (H : Hp) (p dx A mk en : Addr) (rs : List Addr) (kvs : List (Key × V)) (es : List Nat) (R : Rows) (k : Nat) (N : Addr → Prop) : Prop where
  hp : H p = some (.ins cD dx (dflds A mk en))
  hr : RowsAt H A rs R
  nd : rs.Nodup
  nA : ∀ a ∈ rs, a ≠ A ∧ a ≠ en
  ne : A ≠ en
  hm : H mk = some (.dK kvs)
  km : kvs.length ≤ k
  mv : ∀ kv ∈ kvs, ∃ b ps, kv.2 = .ref b ∧ H b = some (.dT ps) ∧ ps.length ≤ 100 * k ∧ N b
  he : H en = some (.lst (es.map vi))
  le : es.length = 8
  Np : N p
  NA : N A
  Nm : N mk
  Ne : N en
  Nr : ∀ a ∈ rs, N a
  nt : ∀ z, N z → ∃ o, H z = some o ∧ ∀ xs, o ≠ .tup xs
  len : ∀ r, (R r).length ≤ k
section
variable {cD : Addr} {H H' : Hp} {p dx A mk en : Addr} {rs : List Addr} {kvs : List (Key × V)} {es : List Nat} {R : Rows} {k : Nat} {N : Addr → Prop}
/-- what N does not hold stays: so tuples stay -/
theorem DSt.tk (S : DSt cD H p dx A mk en rs kvs es R k N) (f : ∀ z o, H z = some o → ¬ N z → H' z = some o) : TupK H H' := fun a xs h => f a _ h fun n => by
  obtain ⟨o, h1, h2⟩ := S.nt a n
  rw [h] at h1
  cases h1
  exact h2 _ rfl
theorem DSt.stay (S : DSt cD H p dx A mk en rs kvs es R k N) (f : ∀ z o, H z = some o → N z → H' z = some o) (t : TupK H H') : DSt cD H' p dx A mk en rs kvs es R k N := by
  refine ⟨f _ _ S.hp S.Np, ⟨f _ _ S.hr.h S.NA, S.hr.n, fun i a h => ?_⟩, S.nd, S.nA, S.ne, f _ _ S.hm S.Nm, S.km, fun kv hkv => ?_, f _ _ S.he S.Ne, S.le, S.Np, S.NA, S.Nm, S.Ne, S.Nr, fun z hz => ?_, S.len⟩
  · obtain ⟨us, h1, h2⟩ := S.hr.r i a h
    exact ⟨us, f _ _ h1 (S.Nr a (List.mem_of_getElem? h)), h2.mono fun v d h => h.keep t⟩
  · obtain ⟨b, ps, h1, h2, h3, h4⟩ := S.mv kv hkv
    exact ⟨b, ps, h1, f _ _ h2 h4, h3, h4⟩
  · obtain ⟨o, h1, h2⟩ := S.nt z hz
    exact ⟨o, f _ _ h1 hz, h2⟩
theorem DSt.same (S : DSt cD H p dx A mk en rs kvs es R k N) (s : Same H H') : DSt cD H' p dx A mk en rs kvs es R k N := S.stay (fun z o h _ => s z o h) (Same.tk s)
theorem DSt.row (S : DSt cD H p dx A mk en rs kvs es R k N) {r : Nat} {ra : Addr} {us : List V} {x : V} {δ : Deed} (hra : rs[r]? = some ra) (hu : H ra = some (.lst us)) (hx : DeedAt H x δ) :
    DSt cD (upd H ra (.lst (us ++ [x]))) p dx A mk en rs kvs es (addR R r δ) (k + 1) N := by
  have hm := List.mem_of_getElem? hra
  obtain ⟨n1, n2⟩ := S.nA ra hm
  have t : TupK H (upd H ra (.lst (us ++ [x]))) := tk_upd fun xs e => by rw [hu] at e; cases e
  have f : ∀ z o, H z = some o → z ≠ ra → (upd H ra (.lst (us ++ [x]))) z = some o := fun z o h n => by rw [upd_ne n]; exact h
  refine ⟨f _ _ S.hp (fun e => by rw [← e, S.hp] at hu; cases hu), ⟨f _ _ S.hr.h fun e => n1 e.symm, S.hr.n, fun i a h => ?_⟩, S.nd, S.nA, S.ne, f _ _ S.hm (fun e => by rw [← e, S.hm] at hu; cases hu), Nat.le_succ_of_le S.km, fun kv hkv => ?_, f _ _ S.he fun e => n2 e.symm, S.le, S.Np, S.NA, S.Nm, S.Ne, S.Nr, fun z hz => ?_, fun q => ?_⟩
  · obtain ⟨us', h1, h2⟩ := S.hr.r i a h
    unfold addR
    by_cases e : i = r
    · subst e
      rw [hra] at h
      cases h
      rw [hu] at h1
      cases h1
      rw [if_pos rfl]
      exact ⟨_, upd_same, (h2.mono fun v d h => h.keep t).snoc (hx.keep t)⟩
    · rw [if_neg e]
      have : a ≠ ra := fun z => e (by
        subst z
        exact (List.getElem?_inj (List.getElem?_eq_some_iff.mp h).1 S.nd).mp (h.trans hra.symm))
      exact ⟨us', f _ _ h1 this, h2.mono fun v d h => h.keep t⟩
  · obtain ⟨b, ps, h1, h2, h3, h4⟩ := S.mv kv hkv
    exact ⟨b, ps, h1, f _ _ h2 (fun e => by rw [← e, h2] at hu; cases hu), by omega, h4⟩
  · obtain ⟨o, h1, h2⟩ := S.nt z hz
    by_cases e : z = ra
    · subst e
      exact ⟨_, upd_same, fun xs z => by cases z⟩
    · exact ⟨o, f _ _ h1 e, h2⟩
  · unfold addR
    have h1 := S.len q
    have h2 := S.len r
    split
    · rw [List.length_append]; exact Nat.succ_le_succ h2
    · omega
theorem DSt.dict (S : DSt cD H p dx A mk en rs kvs es R k N) {b : Addr} {ps ps' : List (List Key × V)} (hb : H b = some (.dT ps)) (f : ∀ z o, H z = some o → z ≠ b → H' z = some o) (hb' : H' b = some (.dT ps')) (hl : ps'.length ≤ 100 * k) :
    DSt cD H' p dx A mk en rs kvs es R k N := by
  have t : TupK H H' := fun z o h => f z _ h fun e => by rw [e, hb] at h; cases h
  refine ⟨f _ _ S.hp (fun e => by rw [← e, S.hp] at hb; cases hb), ⟨f _ _ S.hr.h (fun e => by rw [← e, S.hr.h] at hb; cases hb), S.hr.n, fun i a h => ?_⟩, S.nd, S.nA, S.ne, f _ _ S.hm (fun e => by rw [← e, S.hm] at hb; cases hb), S.km, fun kv hkv => ?_, f _ _ S.he (fun e => by rw [← e, S.he] at hb; cases hb), S.le, S.Np, S.NA, S.Nm, S.Ne, S.Nr, fun z hz => ?_, S.len⟩
  · obtain ⟨us', h1, h2⟩ := S.hr.r i a h
    exact ⟨us', f _ _ h1 (fun e => by rw [← e, h1] at hb; cases hb), h2.mono fun v d h => h.keep t⟩
  · obtain ⟨b', qs, h1, h2, h3, h4⟩ := S.mv kv hkv
    by_cases e : b' = b
    · subst e
      exact ⟨b', ps', h1, hb', hl, h4⟩
    · exact ⟨b', qs, h1, f _ _ h2 e, h3, h4⟩
  · obtain ⟨o, h1, h2⟩ := S.nt z hz
    by_cases e : z = b
    · subst e
      exact ⟨_, hb', fun xs z => by cases z⟩
    · exact ⟨o, f _ _ h1 e, h2⟩
theorem mem_putK {kvs : List (Key × V)} {key : Key} {v : V} {kv : Key × V} (h : kv ∈ putK kvs key v) : kv.2 = v ∨ kv ∈ kvs := by
  unfold putK at h
  split at h
  · obtain ⟨q, hq, e⟩ := List.mem_map.mp h
    split at e
    · rw [← e]; exact .inl rfl
    · rw [← e]; exact .inr hq
  · rcases List.mem_append.mp h with h | h
    · exact .inr h
    · rw [List.mem_singleton.mp h]; exact .inl rfl
theorem putK_len {α : Type} [DecidableEq α] {kvs : List (α × V)} {key : α} {v : V} : (putK kvs key v).length ≤ kvs.length + 1 := by
  unfold putK
  split
  · rw [List.length_map]; exact Nat.le_succ _
  · rw [List.length_append]; exact Nat.le_refl _
theorem DSt.key (S : DSt cD H p dx A mk en rs kvs es R k N) {b : Addr} {key : Key} (hb : H b = none) (hk : kvs.length + 1 ≤ k) :
    DSt cD (upd (upd H b (.dT [])) mk (.dK (putK kvs key (.ref b)))) p dx A mk en rs (putK kvs key (.ref b)) es R k (fun z => N z ∨ z = b) := by
  have f : ∀ z o, H z = some o → z ≠ mk → (upd (upd H b (.dT [])) mk (.dK (putK kvs key (.ref b)))) z = some o := fun z o h n => by
    rw [upd_ne n, upd_ne (ne_of_none h hb)]
    exact h
  have hbm : b ≠ mk := fun e => by rw [e, S.hm] at hb; cases hb
  have gb : (upd (upd H b (.dT [])) mk (.dK (putK kvs key (.ref b)))) b = some (.dT []) := by rw [upd_ne hbm]; exact upd_same
  have t : TupK H (upd (upd H b (.dT [])) mk (.dK (putK kvs key (.ref b)))) := fun z o h => f z _ h fun e => by rw [e, S.hm] at h; cases h
  have hm := S.hm
  refine ⟨f _ _ S.hp (fun e => by rw [← e, S.hp] at hm; cases hm), ⟨f _ _ S.hr.h (fun e => by rw [← e, S.hr.h] at hm; cases hm), S.hr.n, fun i a h => ?_⟩, S.nd, S.nA, S.ne, upd_same, Nat.le_trans putK_len hk, fun kv hkv => ?_, f _ _ S.he (fun e => by rw [← e, S.he] at hm; cases hm), S.le, .inl S.Np, .inl S.NA, .inl S.Nm, .inl S.Ne, fun a h => .inl (S.Nr a h), fun z hz => ?_, S.len⟩
  · obtain ⟨us', h1, h2⟩ := S.hr.r i a h
    exact ⟨us', f _ _ h1 (fun e => by rw [← e, h1] at hm; cases hm), h2.mono fun v d h => h.keep t⟩
  · rcases mem_putK hkv with e | hkv
    · exact ⟨b, [], e, gb, Nat.zero_le _, .inr rfl⟩
    · obtain ⟨b', qs, h1, h2, h3, h4⟩ := S.mv kv hkv
      exact ⟨b', qs, h1, f _ _ h2 (fun e => by rw [← e, h2] at hm; cases hm), h3, .inl h4⟩
  · rcases hz with hz | hz
    · obtain ⟨o, h1, h2⟩ := S.nt z hz
      by_cases e : z = mk
      · subst e
        exact ⟨_, upd_same, fun xs z => by cases z⟩
      · exact ⟨o, f _ _ h1 e, h2⟩
    · rw [hz]
      exact ⟨_, gb, fun xs z => by cases z⟩
theorem DSt.ends (S : DSt cD H p dx A mk en rs kvs es R k N) {es' : List Nat} (hl : es'.length = 8) : DSt cD (upd H en (.lst (es'.map vi))) p dx A mk en rs kvs es' R k N := by
  have f : ∀ z o, H z = some o → z ≠ en → (upd H en (.lst (es'.map vi))) z = some o := fun z o h n => by rw [upd_ne n]; exact h
  have he := S.he
  have t : TupK H (upd H en (.lst (es'.map vi))) := fun z o h => f z _ h fun e => by rw [e, S.he] at h; cases h
  refine ⟨f _ _ S.hp (fun e => by rw [← e, S.hp] at he; cases he), ⟨f _ _ S.hr.h S.ne, S.hr.n, fun i a h => ?_⟩, S.nd, S.nA, S.ne, f _ _ S.hm (fun e => by rw [← e, S.hm] at he; cases he), S.km, fun kv hkv => ?_, upd_same, hl, S.Np, S.NA, S.Nm, S.Ne, S.Nr, fun z hz => ?_, S.len⟩
  · obtain ⟨us', h1, h2⟩ := S.hr.r i a h
    exact ⟨us', f _ _ h1 (S.nA a (List.mem_of_getElem? h)).2, h2.mono fun v d h => h.keep t⟩
  · obtain ⟨b', qs, h1, h2, h3, h4⟩ := S.mv kv hkv
    exact ⟨b', qs, h1, f _ _ h2 (fun e => by rw [← e, h2] at he; cases he), h3, h4⟩
  · obtain ⟨o, h1, h2⟩ := S.nt z hz
    by_cases e : z = en
    · subst e
      exact ⟨_, upd_same, fun xs z => by cases z⟩
    · exact ⟨o, f _ _ h1 e, h2⟩
end
end DM
namespace DM
open PySem PySem.Spec PyProof.Rows L2 SX HL
/-! ## what an object's dicts of marks and its ends hold -/
theorem marks_add {R : Rows} {r : Nat} {δ : Deed} (hr : r < 8) (m : List Nat) (x : Mark) : x ∈ marks (addR R r δ) m ↔ x ∈ marks R m ∨ (isCh m δ = true ∧ x ∈ (entD r δ).map (·.1)) := by
  rw [mem_marks, mem_marks]
  constructor
  · rintro ⟨q, d, hq, hd, hm, hx⟩
    unfold addR at hd
    split at hd
    · rename_i e
      subst e
      rcases List.mem_append.mp hd with h | h
      · exact .inl ⟨q, d, hq, h, hm, hx⟩
      · rw [List.mem_singleton.mp h] at hm hx
        exact .inr ⟨hm, hx⟩
    · exact .inl ⟨q, d, hq, hd, hm, hx⟩
  · rintro (⟨q, d, hq, hd, hm, hx⟩ | ⟨hm, hx⟩)
    · refine ⟨q, d, hq, ?_, hm, hx⟩
      unfold addR
      split
      · rename_i e
        subst e
        exact List.mem_append_left _ hd
      · exact hd
    · refine ⟨r, δ, hr, ?_, hm, hx⟩
      unfold addR
      rw [if_pos rfl]
      exact List.mem_append_right _ (List.mem_singleton.mpr rfl)
def kM (x : Mark) : List Key := [.inl (x.1 : Int), .inl (x.2 : Int)]
theorem kM_inj {x y : Mark} (h : kM x = kM y) : x = y := by
  unfold kM at h
  have h1 := List.cons.inj h
  have h2 := Sum.inl.inj h1.1
  have h3 := Sum.inl.inj (List.cons.inj h1.2).1
  exact Prod.ext (by omega) (by omega)
structure DEx (H : Hp) (kvs : List (Key × V)) (es : List Nat) (R : Rows) : Prop where
  key : ∀ m v, valV kvs (.inr (S m)) = some v → ∃ b ps, v = .ref b ∧ H b = some (.dT ps) ∧ ∀ x : Mark, ((valV ps (kM x)).isSome = true ↔ x ∈ marks R m)
  non : ∀ m, valV kvs (.inr (S m)) = none → ∀ x, x ∉ marks R m
  inj : ∀ m1 m2 v, valV kvs (.inr (S m1)) = some v → valV kvs (.inr (S m2)) = some v → m1 = m2
  ends : ∀ r, r < 8 → ∃ v, es[r]? = some v ∧ ∀ n, v ≤ n ↔ ∀ e ∈ R r, endD e ≤ n
theorem DEx.stay {H H' : Hp} {kvs : List (Key × V)} {es : List Nat} {R : Rows} (E : DEx H kvs es R) (f : ∀ b ps, H b = some (.dT ps) → H' b = some (.dT ps)) : DEx H' kvs es R :=
  ⟨fun m v h => by obtain ⟨b, ps, h1, h2, h3⟩ := E.key m v h; exact ⟨b, ps, h1, f _ _ h2, h3⟩, E.non, E.inj, E.ends⟩
theorem DEx.start (H : Hp) : DEx H [] (List.replicate 8 0) (fun _ => []) := by
  refine ⟨fun m v h => (by cases h), fun m _ x h => ?_, fun m1 m2 v h => (by cases h), fun r hr => ⟨0, by rw [List.getElem?_replicate, if_pos hr], fun n => ⟨fun _ e h => (by cases h), fun _ => Nat.zero_le _⟩⟩⟩
  obtain ⟨_, d, _, hd, _⟩ := mem_marks.mp h
  cases hd
theorem DEx.back {H : Hp} {kvs : List (Key × V)} {es : List Nat} {R : Rows} (E : DEx H kvs es R) {r q : Nat} (hr : r < 8) : DEx H kvs es (addR R r (.back q)) := by
  have hm : ∀ m x, x ∈ marks (addR R r (.back q)) m ↔ x ∈ marks R m := fun m x => by
    rw [marks_add hr]
    exact ⟨fun h => h.elim id (fun h => by cases h.1), .inl⟩
  refine ⟨fun m v h => ?_, fun m h x => by rw [hm]; exact E.non m h x, E.inj, fun r' hr' => ?_⟩
  · obtain ⟨b, ps, h1, h2, h3⟩ := E.key m v h
    exact ⟨b, ps, h1, h2, fun x => by rw [hm]; exact h3 x⟩
  · obtain ⟨v, h1, h2⟩ := E.ends r' hr'
    refine ⟨v, h1, fun n => ?_⟩
    rw [h2]
    unfold addR
    split
    · rename_i e
      subst e
      refine ⟨fun h e he => ?_, fun h e he => h e (List.mem_append_left _ he)⟩
      rcases List.mem_append.mp he with h' | h'
      · exact h e h'
      · rw [List.mem_singleton.mp h']
        exact Nat.zero_le _
    · exact Iff.rfl
/-- a dict for a module that had none -/
theorem DEx.newKey {H H' : Hp} {kvs : List (Key × V)} {es : List Nat} {R : Rows} (E : DEx H kvs es R) {m : List Nat} {b : Addr} (hn : valV kvs (.inr (S m)) = none) (hb : H b = none) (hb' : H' b = some (.dT [])) (f : ∀ b ps, H b = some (.dT ps) → H' b = some (.dT ps)) :
    DEx H' (putK kvs (.inr (S m)) (.ref b)) es R ∧ valV (putK kvs (.inr (S m)) (.ref b)) (.inr (S m)) = some (.ref b) := by
  have hp : ∀ m', valV (putK kvs (.inr (S m)) (.ref b)) (.inr (S m')) = if m' = m then some (.ref b) else valV kvs (.inr (S m')) := fun m' => by
    rw [valV_put]
    by_cases e : m' = m
    · subst e
      simp
    · rw [if_neg e]
      have : ¬ (Sum.inr (S m) : Key) = .inr (S m') := fun z => e (S_inj (Sum.inr.inj z)).symm
      have h2 : ¬ (Sum.inr (S m') : Key) = .inr (S m) := fun z => e (S_inj (Sum.inr.inj z))
      first | rw [if_neg this] | rw [if_neg h2]
  have old : ∀ m' v, valV kvs (.inr (S m')) = some v → v ≠ .ref b := fun m' v h e => by
    obtain ⟨b', ps, h1, h2, _⟩ := E.key m' v h
    rw [h1] at e
    cases e
    rw [hb] at h2
    cases h2
  refine ⟨⟨fun m' v h => ?_, fun m' h => ?_, fun m1 m2 v h1 h2 => ?_, E.ends⟩, by rw [hp, if_pos rfl]⟩
  · rw [hp] at h
    split at h
    · rename_i e
      subst e
      cases h
      refine ⟨b, [], rfl, hb', fun x => ⟨fun h => (by cases h), fun h => absurd h (E.non _ hn x)⟩⟩
    · obtain ⟨b', ps, h1, h2, h3⟩ := E.key m' v h
      exact ⟨b', ps, h1, f _ _ h2, h3⟩
  · rw [hp] at h
    split at h
    · cases h
    · exact E.non m' h
  · rw [hp] at h1 h2
    split at h1
    · rename_i e1
      split at h2
      · rename_i e2
        rw [e1, e2]
      · cases h1
        exact absurd rfl (old _ _ h2)
    · split at h2
      · cases h2
        exact absurd rfl (old _ _ h1)
      · exact E.inj _ _ _ h1 h2
/-- a change added -/
theorem DEx.change {H H' : Hp} {kvs : List (Key × V)} {es : List Nat} {R : Rows} (E : DEx H kvs es R) {r e0 : Nat} (hr : r < 8) {m : List Nat} {rem : List Mark} {b : Option Mark} {n : Nat} {t : List Nat} {bm : Addr} {ps ps' : List (List Key × V)}
    (hk : valV kvs (.inr (S m)) = some (.ref bm)) (hb : H bm = some (.dT ps)) (hb' : H' bm = some (.dT ps')) (f : ∀ b ps, H b = some (.dT ps) → b ≠ bm → H' b = some (.dT ps))
    (hp : ∀ x : Mark, (valV ps' (kM x)).isSome = true ↔ (valV ps (kM x)).isSome = true ∨ x ∈ (ins r n b t).map (·.1)) (he : es[r]? = some e0) :
    DEx H' kvs (es.set r (max e0 (n + t.length))) (addR R r (.change m rem b n t)) := by
  refine ⟨fun m' v h => ?_, fun m' h x hx => ?_, E.inj, fun r' hr' => ?_⟩
  · obtain ⟨b', qs, h1, h2, h3⟩ := E.key m' v h
    by_cases e : m' = m
    · subst e
      rw [hk] at h
      cases h
      cases h1
      rw [hb] at h2
      cases h2
      refine ⟨bm, ps', rfl, hb', fun x => ?_⟩
      rw [hp, h3, marks_add hr]
      have : isCh m' (.change m' rem b n t) = true := by simp [isCh]
      exact or_congr Iff.rfl ⟨fun h => ⟨this, h⟩, fun h => h.2⟩
    · have hbb : b' ≠ bm := fun z => e (E.inj m' m v h (by rw [hk, h1, z]))
      refine ⟨b', qs, h1, f _ _ h2 hbb, fun x => ?_⟩
      rw [h3, marks_add hr]
      have : isCh m' (.change m rem b n t) = false := by simp [isCh]; exact fun z => e z.symm
      rw [this]
      exact ⟨.inl, fun h => h.elim id fun h => (by cases h.1)⟩
  · have e : ¬ m' = m := fun z => by rw [z, hk] at h; cases h
    rw [marks_add hr] at hx
    have : isCh m' (.change m rem b n t) = false := by simp [isCh]; exact fun z => e z.symm
    rw [this] at hx
    rcases hx with hx | hx
    · exact E.non m' h x hx
    · cases hx.1
  · obtain ⟨v, h1, h2⟩ := E.ends r' hr'
    have hlt := (List.getElem?_eq_some_iff.mp h1).1
    by_cases e : r' = r
    · subst e
      rw [he] at h1
      cases h1
      refine ⟨_, by rw [List.getElem?_set, if_pos rfl, if_pos hlt], fun k => ?_⟩
      unfold addR
      rw [if_pos rfl]
      have : max e0 (n + t.length) ≤ k ↔ e0 ≤ k ∧ n + t.length ≤ k := by omega
      rw [this, h2]
      constructor
      · rintro ⟨h3, h4⟩ d hd
        rcases List.mem_append.mp hd with h | h
        · exact h3 d h
        · rw [List.mem_singleton.mp h]
          exact h4
      · intro h
        exact ⟨fun d hd => h d (List.mem_append_left _ hd), h _ (List.mem_append_right _ (List.mem_singleton.mpr rfl))⟩
    · refine ⟨v, by rw [List.getElem?_set, if_neg (fun z => e z.symm)]; exact h1, fun k => ?_⟩
      unfold addR
      rw [if_neg e]
      exact h2 k
end DM
namespace DM
open PySem PySem.Spec PyProof.Rows L2 SX HL
/-! ## sorted(d), the keys of d pairs of numbers -/
/-- the pair that stands at a tracked tuple -/
def kOf (H : Hp) : Value → Int × Int
  | .ref a => match H a with
    | some (.tup [.int i, .int j]) => (i, j)
    | _ => (0, 0)
  | _ => (0, 0)
theorem kOf_mark {H : Hp} {a : Addr} {m : Mark} (h : MkAt H (.ref a) m) : kOf H (.ref a) = ((m.1 : Int), (m.2 : Int)) := by
  obtain ⟨t, e, ht⟩ := h
  cases e
  unfold kOf
  simp only [ht, vi]
theorem mem_keys {H : Hp} : ∀ {kvs : List (List Key × V)} {bs : List Addr} {ms : List Mark}, IsKeys H kvs bs → kvs.map (·.1) = ms.map kM → All2 (fun v m => MkAt H v m) (bs.map V.ref) ms
  | [], _, ms, h, e => by
    cases h
    cases ms with
    | nil => exact .nil
    | cons _ _ => cases e
  | p :: kvs, _, ms, h, e => by
    cases h with
    | cons h1 t =>
      cases ms with
      | nil => cases e
      | cons m ms =>
        rw [List.map_cons, List.map_cons] at e
        injection e with e1 e2
        refine .cons ⟨_, rfl, ?_⟩ (mem_keys t e2)
        rw [h1, e1]
        rfl
/-- a sorted list of refs, back to marks -/
theorem marks_back {H : Hp} {vs : List Value} {ms : List Mark} (h : All2 (fun v m => ∃ a, v = Value.ref a ∧ MkAt H (.ref a) m) vs ms) {out : List Value} (hp : out.Perm vs) (hs : SrtO.Srtd (fun v u => SrtO.lexB (kOf H v) (kOf H u)) out) :
    ∃ (bs : List Addr) (ms' : List Mark), out = bs.map Value.ref ∧ ms'.Perm ms ∧ ms'.Pairwise (fun a b => ¬ mlt b a) ∧ All2 (MkAt H) (bs.map V.ref) ms' := by
  have hz : ∃ zs : List (Mark × Value), zs.map (·.2) = out ∧ (zs.map (·.1)).Perm ms ∧ ∀ z ∈ zs, ∃ a, z.2 = Value.ref a ∧ MkAt H (.ref a) z.1 := by
    have hl := h.len
    have hall : ∀ z ∈ ms.zip vs, ∃ a, z.2 = Value.ref a ∧ MkAt H (.ref a) z.1 := all2_zip h
    clear hs
    have h2 : (ms.zip vs).map (·.2) = vs := List.map_snd_zip (by omega)
    have h1 : (ms.zip vs).map (·.1) = ms := List.map_fst_zip (by omega)
    generalize ms.zip vs = ws at hall h1 h2
    subst h2
    rw [← h1]
    clear h h1 hl
    generalize hv : ws.map (·.2) = vs at hp
    induction hp generalizing ws with
    | nil =>
      have : ws = [] := List.map_eq_nil_iff.mp hv
      subst this
      exact ⟨[], rfl, .refl _, fun z h => by cases h⟩
    | cons x _ ih =>
      cases ws with
      | nil => cases hv
      | cons z ws =>
        rw [List.map_cons] at hv
        injection hv with e1 e2
        obtain ⟨zs, q1, q2, q3⟩ := ih ws (fun y hy => hall y (List.mem_cons_of_mem _ hy)) e2
        refine ⟨z :: zs, by rw [List.map_cons, q1, e1], q2.cons _, fun y hy => ?_⟩
        rcases List.mem_cons.mp hy with e | hy
        · rw [e]; exact hall z (List.mem_cons_self ..)
        · exact q3 y hy
    | swap x y l =>
      match ws, hv with
      | z1 :: z2 :: ws, hv =>
        simp only [List.map_cons] at hv
        injection hv with e1 e2
        injection e2 with e2 e3
        refine ⟨z2 :: z1 :: ws, by simp [e1, e2, e3], .swap .., fun y hy => hall y ?_⟩
        simp only [List.mem_cons] at hy ⊢
        rcases hy with h | h | h
        · exact .inr (.inl h)
        · exact .inl h
        · exact .inr (.inr h)
    | trans _ _ ih1 ih2 =>
      obtain ⟨zs, q1, q2, q3⟩ := ih2 ws hall hv
      obtain ⟨zs', r1, r2, r3⟩ := ih1 zs q3 q1
      exact ⟨zs', r1, r2.trans q2, r3⟩
  obtain ⟨zs, q1, q2, q3⟩ := hz
  have hb : ∀ z ∈ zs, ∃ a, z.2 = Value.ref a := fun z h => let ⟨a, e, _⟩ := q3 z h; ⟨a, e⟩
  have back : ∀ zs : List (Mark × Value), (∀ z ∈ zs, ∃ a, z.2 = Value.ref a ∧ MkAt H (.ref a) z.1) → ∃ bs : List Addr, zs.map (·.2) = bs.map Value.ref ∧ All2 (MkAt H) (bs.map V.ref) (zs.map (·.1)) := by
    intro zs
    induction zs with
    | nil => exact fun _ => ⟨[], rfl, .nil⟩
    | cons z zs ih =>
      intro h
      obtain ⟨a, e, hm⟩ := h z (List.mem_cons_self ..)
      obtain ⟨bs, h1, h2⟩ := ih fun y hy => h y (List.mem_cons_of_mem _ hy)
      exact ⟨a :: bs, by rw [List.map_cons, List.map_cons, h1, e], .cons hm h2⟩
  obtain ⟨bs, h1, h2⟩ := back zs q3
  refine ⟨bs, zs.map (·.1), by rw [← q1, h1], q2, ?_, h2⟩
  rw [← q1] at hs
  have hs' : zs.Pairwise fun a b => SrtO.lexB (kOf H b.2) (kOf H a.2) = false := List.pairwise_map.mp hs
  rw [List.pairwise_map]
  refine hs'.imp_of_mem fun {a b} ha hb' h hlt => ?_
  obtain ⟨x, ex, mx⟩ := q3 a ha
  obtain ⟨y, ey, my⟩ := q3 b hb'
  rw [ex, ey, kOf_mark mx, kOf_mark my] at h
  refine SrtO.lexB_no.mp h ?_
  unfold mlt at hlt
  simp only
  omega
theorem refs_all2 {H : Hp} : ∀ {bs : List Addr} {ms : List Mark}, All2 (MkAt H) (bs.map V.ref) ms → All2 (fun v m => ∃ a, v = Value.ref a ∧ MkAt H (.ref a) m) (bs.map Value.ref) ms
  | [], _, h => by cases h; exact .nil
  | b :: bs, _, h => by
    cases h with
    | cons h1 t => exact .cons ⟨b, rfl, h1⟩ (refs_all2 t)
section
variable {X : Cx}
theorem call_sortedT (hc : X.calm = true) : CallR X (.builtin "sorted") (fun xs H Q => ∃ (d : Addr) (kvs : List (List Key × V)) (ms : List Mark), xs = [V.ref d] ∧ Rd H d (.dT kvs) ∧ kvs.map (·.1) = ms.map kM ∧
    ∀ (p : Addr) (bs : List Addr) (ms' : List Mark), H p = none → ms'.Perm ms → ms'.Pairwise (fun a b => ¬ mlt b a) → All2 (MkAt H) (bs.map V.ref) ms' → Q (.ref p) (upd H p (.lst (bs.map V.ref)))) := by
  intro pins s σ H xs us Q I r h
  obtain ⟨d, kvs, ms, rfl, hd, hms, q⟩ := h
  obtain ⟨u, rfl, rx⟩ := r.one
  cases rx
  obtain ⟨z, hs, ks, pr, o, es, ep, ho, hx, hdt, he, hn⟩ := (show ObjOk X.prog X.w H s.heap d (.dT kvs) from hd.ok I.hok)
  have l1 : es.size = ks.length := size_of_entries he
  have l2 : kvs.length = ks.length := Paired.length pr
  refine Calls.call_function_entry PyProof.Rows.kind_sorted PyProof.Rows.plain_sorted PyProof.Rows.entry_sorted (PyProof.Rows.args_sorted1 _) ?_
  unfold Builtin.«sorted»
  refine wpAny_bind (m := checkCount "sorted" 1 1 _) (wpAny_pure ?_)
  refine wpAny_bind (PySem.W.kdu_collect (A := X.A.in1) (kdl_raw hs hx hdt) (I.ok.hd hc) ho (by omega) fun h' tk acc hk it => ?_)
  have hl : acc.toList.length = ks.length := by rw [Array.length_toList, it.1]; exact l1
  have ea : acc.toList = (ks.map fun x => x.2.1).map Value.ref := by
    apply List.ext_getElem?
    intro j
    rw [List.map_map, List.getElem?_map]
    cases hj : acc.toList[j]? with
    | none =>
      have h1 := List.getElem?_eq_none_iff.mp hj
      rw [List.getElem?_eq_none (by omega)]
      all_goals rfl
    | some v =>
      obtain ⟨en, hen, hv⟩ := it.2 j v (by rw [← Array.getElem?_toList]; exact hj)
      have qe := entry_at he j
      rw [hen] at qe
      cases hb : ks[j]? with
      | none => rw [hb] at qe; cases qe
      | some b =>
        rw [hb] at qe
        have e2 : en = entryOfKey (tupleKind (mixKind X.prog X.w)) b := Option.some.inj qe
        rw [hv, e2]
        all_goals rfl
  have hmk : All2 (MkAt H) ((ks.map fun x => x.2.1).map V.ref) ms := mem_keys (isKeys_of pr) hms
  generalize hbs0 : (ks.map fun x => x.2.1) = bs0 at ea hmk
  have hbl : bs0.length = ks.length := by rw [← hbs0, List.length_map]
  have hvm : All2 (fun v m => ∃ a, v = Value.ref a ∧ MkAt H (.ref a) m) acc.toList ms := by
    rw [ea]
    exact refs_all2 hmk
  have I1 : L2.Inv X pins σ H { s with heap := h', toks := tk } := I.kept hk
  refine wpAny_bind (wpAny_newList ?_ (by rw [hl]; omega))
  have hoL : (h'.push (seqObj "list" acc.toList.toArray 0)).get? h'.objs.size = some (seqObj "list" acc.toList.toArray 0) := Heap.get?_push_size _ rfl
  show wpAny _ _ _ _ _ { s with heap := h'.push (seqObj "list" acc.toList.toArray 0), toks := tk }
  refine wpAny_bind (wpAny_holding (wpAny_call_entry PyProof.Rows.slot_list_sort ⟨_, hoL, rfl⟩ PyProof.Rows.entry_list_sort
    (SrtO.list_sort_ord (s := { s with heap := h'.push (seqObj "list" acc.toList.toArray 0), toks := tk }) (SrtO.swo_lex (kOf H)) hoL (by rw [hl]; omega) (fun h2 => ?_) fun out hso hsb => ⟨_, rfl, ?_⟩)
    (PyProof.Rows.args_list_sort _)))
  · refine SrtO.pairs_sortableO (by omega) (fun v hv => ?_) fun o e => ?_
    · obtain ⟨j, hj⟩ := List.mem_iff_getElem?.mp hv
      obtain ⟨m, _, a, rfl, hm⟩ := hvm.get hj
      rw [kOf_mark hm]
      obtain ⟨t, et, ht⟩ := hm
      cases et
      obtain ⟨_, its2, r2, ob, hob, hcb, n, hdb⟩ := I.hok _ _ ht
      obtain ⟨u1, u2, rfl, ri, rj⟩ := vals2 r2
      obtain ⟨t1, rfl⟩ := ri
      obtain ⟨t2, rfl⟩ := rj
      exact ⟨a, ob, t1, t2, n, rfl, Heap.get?_push_of_some _ (hk _ _ hob), hcb, hdb⟩
    · rw [hoL] at e
      cases e
      intro c
      exact absurd (Value.type.inj c) (by decide)
  · obtain ⟨bs, ms', e1, e2, e3, e4⟩ := marks_back hvm hsb.perm hso
    obtain ⟨e', he'⟩ := PyProof.Rows.sortedHeap_at (vs := acc.toList) (out := out.toArray) hoL
    have hlen : (bs.map V.ref).length ≤ sizeLine := by
      have := hsb.perm.length_eq
      rw [e1, List.length_map] at this
      rw [List.length_map]
      omega
    refine wpAny_pure ⟨_, rfl, .ref h'.objs.size, upd H h'.objs.size (.lst (bs.map V.ref)), I1.laid (t' := tk) (fun b u e => ?_) (Nat.le_refl _)
      (show ObjOk X.prog X.w _ _ _ (.lst (bs.map V.ref)) from ⟨hlen, out, e', by rw [e1]; exact vals_refs _, he'⟩), rfl, q _ bs ms' (I1.hok.fresh (Nat.le_refl _)) e2 e3 e4⟩
    have hb : b < h'.objs.size := Heap.lt_size e
    rw [PyProof.Rows.sortedHeap_old (Nat.ne_of_lt hb) (by rw [size_push']; exact Nat.lt_succ_of_lt hb)]
    exact Heap.get?_push_of_some _ e
end
end DM
namespace XI
open PySem PySem.Spec PyProof.Rows L2
/-- isinstance(e, c), e what the suite holds, of whichever class -/
def rIsX (K : PySem.W.Frag) (cls : Value) (d : Option Addr) (a : Addr) : List V → Hp → VK → Prop := fun xs H Q => ∃ (D : Addr) (c : V) (cv : Value) (b : Bool), cls = .ref D ∧ d = none ∧ ExcC K D ∧ xs = [.ref a, c] ∧ (∀ u, RelV c u → u = cv) ∧ PySem.W.kitOne K (.ref D) cv = some b ∧ Q (.bl b) H
theorem call_isX {K : PySem.W.Frag} {X : Cx} {a : Addr} {oe : Obj} {pn : List (Addr × Obj)} {cls : Value} {d : Option Addr} (hK : X.K = K) (hz : Zc cls d oe) (hf : ∃ vs, oe.data = .fields vs) : CallR (X.suite a ((a, oe) :: pn)) (.builtin "isinstance") (rIsX K cls d a) := by
  subst hK
  intro pins s σ H xs us Q I r h
  obtain ⟨D, c, cv, b, rfl, rfl, C, rfl, hcv, e, q⟩ := h
  exact call_isE C hz hf pins s σ H _ us Q I r ⟨c, cv, b, rfl, hcv, e, q⟩
end XI
namespace XI
open PySem PySem.Spec PyProof.Rows L2
/-- a class is caught by the name of one above it -/
theorem exm_of2 {K : PySem.W.Frag} {S C : Addr} (h1 : PySem.W.subIn K (.ref C) (.type "BaseException") = some true) (h2 : PySem.W.isClsIn K C = true) (h3 : PySem.W.typeIn K (.ref C) = some (.type "type")) (h4 : PySem.W.subIn K (.ref S) (.ref C) = some true) :
    PySem.W.exmOne K (.ref S) (.ref C) = some true := by
  have e1 : (PySem.W.subIn K (.ref C) (.type "BaseException") == some true) = true := by rw [h1] <;> rfl
  have e2 : ((PySem.W.clsIn K C).isSome && PySem.W.typeIn K (.ref C) == some (.type "type")) = true := by
    have h2' : (PySem.W.clsIn K C).isSome = true := h2
    rw [h2', h3] <;> rfl
  show (if (PySem.W.subIn K (.ref C) (.type "BaseException") == some true) = true then (if ((PySem.W.clsIn K C).isSome && PySem.W.typeIn K (.ref C) == some (.type "type")) = true then PySem.W.subIn K (.ref S) (.ref C) else none) else none) = some true
  rw [if_pos e1, if_pos e2]
  exact h4
end XI
namespace KX
open PySem PySem.Spec PyProof.Rows L2 SX HL
/-! ### more rules within comprehensions: K is told -/
section
variable {X : Cx} {K : PySem.W.Frag}
theorem pa_starK {e : Expr} {es : List Expr} {te : TE} {t : TA} {p : Pos} (h : X.K = K) (he : PE X e te) (hr : PA X es t) (hs : starEach (.Starred e p :: es) X.env = (true, eval e X.env) :: starEach es X.env := by rfl) : PA X (.Starred e p :: es) (StX.tStar K te t) := by
  subst h
  exact StX.pa_star he hr hs
theorem call_tuple_ofK (h : X.K = K) : CallR X (.type "tuple") (fun xs H Q => ∃ p ys, xs = [.ref p] ∧ ((SqL K H p ys ∧ ∀ l, H l = none → Q (.ref l) (upd H l (.tup ys))) ∨ (SqT K H p ys ∧ Q (.ref p) H))) := by
  subst h
  exact call_tuple_of
theorem pe_fldK {e : Expr} {ta : TE} {f : Str} {pos : Pos} (h : X.K = K) (he : PE X e ta) (hb : attributeBase e f X.env (eval e X.env) = eval e X.env) : PE X (.Attribute e f pos) (tFld K ta f) := by
  subst h
  exact pe_fld he hb
theorem op_catTK (h : X.K = K) : OpR X (binaryOp .Add) (rCatT K) := by
  subst h
  exact op_catT
end
end KX
namespace HC
open PySem PySem.Spec PyProof.Rows L2
section
variable {J : It} {n : Nat} {G : Hp → Prop} {Y : Nat → Hp → V → Hp → Prop}
/-- any walk, any body: for the two clauses of a comprehension -/
theorem wk_it (w : Walk J n G Y) {B : V → Hp → (Hp → Prop) → Prop} {H0 : Hp} {Qd : Hp → Prop} (Pv : Nat → Hp → Prop) (h0 : Pv 0 H0) (hG : ∀ i H, i ≤ n → Pv i H → G H)
    (hs : ∀ i x H H', i < n → Pv i H → Y i H x H' → B x H' (Pv (i + 1))) (hd : ∀ H, Pv n H → Qd H) :
    ∃ W : Nat → Nat → Hp → Prop, (∃ m, W 0 m H0) ∧ ∀ i m H, W i m H →
      (J.stop i H ∧ Qd H) ∨ (J.go i H ∧ ∃ Nx : Hp → Prop, (∀ H', Nx H' → ∃ m', m' < m ∧ W (i + 1) m' H') ∧ ∀ x H', J.yld i H x H' → B x H' Nx) := by
  refine ⟨fun i m H => m = n - i ∧ i ≤ n ∧ Pv i H, ⟨n, by simp, Nat.zero_le _, h0⟩, ?_⟩
  rintro i m H ⟨rfl, hi, p⟩
  have q := hG i H hi p
  by_cases hlt : i < n
  · exact .inr ⟨w.goes i H hlt q, Pv (i + 1), fun H' p' => ⟨n - (i + 1), by omega, rfl, hlt, p'⟩, fun x H' y => hs i x H H' hlt p (w.yields i H x H' hlt q y)⟩
  · obtain rfl : i = n := by omega
    exact .inl ⟨w.stops H q, hd H p⟩
end
theorem yes {f : Bool → Hp → Prop} {σ : L2.St} {H : Hp} (h : f true H) : tYes σ H f := h
theorem pi_zipK {K : PySem.W.Frag} {X : Cx} {e e2 : Expr} {ta : TA} {p pos tpos : Pos} {elts : List Expr} {kk : Nat} (hK : X.K = K) (hg : Gl X "zip") (hm : X.mg "zip" = none) (ha : PA X [e, e2] ta)
    (hs : starEach [e, e2] X.env = (false, eval e X.env) :: starEach [e2] X.env := by rfl) (hpl : (backTo pos (starEach [e2] X.env)).any (·.1) = false := by rfl) :
    PI X (.Tuple elts kk tpos) (.Call (.Name "zip" p) [e, e2] [] pos) (iZip K ta) := by
  subst hK
  exact pi_zip hg hm ha hs hpl
theorem pi_listK {K : PySem.W.Frag} {X : Cx} {e tg : Expr} {t : TE} (hK : X.K = K) (h : PI X tg e (iList X.K t)) : PI X tg e (iList K t) := by
  subst hK
  exact h
theorem op_ltTK {K : PySem.W.Frag} {X : Cx} (hK : X.K = K) (hu : X.A.units < cLine) : OpR X (compareOp .Lt) (rLtT K) := by
  subst hK
  exact op_ltT hu
end HC
namespace Q07
open PySem PySem.Spec PyProof.Rows L2 SX HL
def topS (i : Nat) : Stmt := PySem.Challenge.pw_quillrun_k07_whole_packets_bring_deeds.main.body.getD i (.Pass ⟨0, 0, 0, 0⟩)
abbrev sWall : Stmt := topS 0
theorem scWall : FnScope ["k"] ["k"] (defScope sWall) := ⟨rfl, rfl, rfl, by decide +kernel, rfl, by decide +kernel, by decide +kernel⟩
abbrev sForces : Stmt := topS 4
theorem scForces : FnScope ["deeds", "taken_back", "found", "place", "stands", "deed"] ["deeds"] (defScope sForces) := ⟨rfl, rfl, rfl, by decide +kernel, rfl, by decide +kernel, by decide +kernel⟩
abbrev sInserted : Stmt := topS 5
theorem scInserted : FnScope ["replica", "deed", "_", "behind", "number", "text", "found", "offset", "character", "mark"] ["replica", "deed"] (defScope sInserted) := ⟨rfl, rfl, rfl, by decide +kernel, rfl, by decide +kernel, by decide +kernel⟩
abbrev sInOrder : Stmt := topS 6
theorem scInOrder : FnScope ["behinds", "following", "mark", "behind", "found"] ["behinds"] (defScope sInOrder) := ⟨rfl, rfl, rfl, by decide +kernel, rfl, by decide +kernel, by decide +kernel⟩
abbrev sDeedsInit : Stmt := inClass (topS 7) 0
theorem scDeedsInit : FnScope ["self", "_"] ["self"] (defScope sDeedsInit) := ⟨rfl, rfl, rfl, by decide +kernel, rfl, by decide +kernel, by decide +kernel⟩
abbrev sDeedsCounts : Stmt := inClass (topS 7) 1
theorem scDeedsCounts : FnScope ["self", "deeds"] ["self"] (defScope sDeedsCounts) := ⟨rfl, rfl, rfl, by decide +kernel, rfl, by decide +kernel, by decide +kernel⟩
abbrev sDeedsAdd : Stmt := inClass (topS 7) 2
theorem scDeedsAdd : FnScope ["self", "replica", "deed", "_", "module", "number", "text", "marks", "mark"] ["self", "replica", "deed"] (defScope sDeedsAdd) := ⟨rfl, rfl, rfl, by decide +kernel, rfl, by decide +kernel, by decide +kernel⟩
abbrev sDeedsCopy : Stmt := inClass (topS 7) 3
theorem scDeedsCopy : FnScope ["self", "copied", "replica", "deeds", "deed"] ["self"] (defScope sDeedsCopy) := ⟨rfl, rfl, rfl, by decide +kernel, rfl, by decide +kernel, by decide +kernel⟩
abbrev sDeedsRow : Stmt := inClass (topS 7) 6
theorem scDeedsRow : FnScope ["self", "module", "characters", "behinds", "hidden", "replica", "deed", "stands", "mark", "character", "behind"] ["self", "module"] (defScope sDeedsRow) := ⟨rfl, rfl, rfl, by decide +kernel, rfl, by decide +kernel, by decide +kernel⟩
abbrev sDeedsText : Stmt := inClass (topS 7) 7
theorem scDeedsText : FnScope ["self", "module", "_", "character", "seen"] ["self", "module"] (defScope sDeedsText) := ⟨rfl, rfl, rfl, by decide +kernel, rfl, by decide +kernel, by decide +kernel⟩
abbrev sDeedsFits : Stmt := inClass (topS 7) 9
theorem scDeedsFits : FnScope ["self", "replica", "deed", "_", "module", "removed", "behind", "number", "named", "marks", "mark"] ["self", "replica", "deed"] (defScope sDeedsFits) := ⟨rfl, rfl, rfl, by decide +kernel, rfl, by decide +kernel, by decide +kernel⟩
abbrev sDeedsChanges : Stmt := inClass (topS 7) 10
theorem scDeedsChanges : FnScope ["self", "module", "replica", "deeds", "deed", "stands"] ["self", "module"] (defScope sDeedsChanges) := ⟨rfl, rfl, rfl, by decide +kernel, rfl, by decide +kernel, by decide +kernel⟩
abbrev sLacking : Stmt := topS 9
theorem scLacking : FnScope ["deeds", "counts", "replica", "own", "place", "deed"] ["deeds", "counts"] (defScope sLacking) := ⟨rfl, rfl, rfl, by decide +kernel, rfl, by decide +kernel, by decide +kernel⟩
abbrev sReceived : Stmt := topS 10
theorem scReceived : FnScope ["deeds", "packet", "offers", "index", "replica", "place", "_", "known", "taken", "deed"] ["deeds", "packet"] (defScope sReceived) := ⟨rfl, rfl, rfl, by decide +kernel, rfl, by decide +kernel, by decide +kernel⟩
abbrev sFirstFitting : Stmt := topS 11
theorem scFirstFitting : FnScope ["known", "packet", "offers", "fitting", "replica", "count", "index"] ["known", "packet", "offers"] (defScope sFirstFitting) := ⟨rfl, rfl, rfl, by decide +kernel, rfl, by decide +kernel, by decide +kernel⟩
abbrev sLawMix : Stmt := topS 13
theorem scLawMix : FnScope ["cell", "k", "value"] ["cell", "k"] (defScope sLawMix) := ⟨rfl, rfl, rfl, by decide +kernel, rfl, by decide +kernel, by decide +kernel⟩
abbrev sLawDraws : Stmt := topS 14
theorem scLawDraws : FnScope ["script", "draws", "k", "cell", "place"] ["script"] (defScope sLawDraws) := ⟨rfl, rfl, rfl, by decide +kernel, rfl, by decide +kernel, by decide +kernel⟩
abbrev sLawAt : Stmt := topS 15
theorem scLawAt : FnScope ["draws", "index"] ["draws", "index"] (defScope sLawAt) := ⟨rfl, rfl, rfl, by decide +kernel, rfl, by decide +kernel, by decide +kernel⟩
abbrev sLawIsInteger : Stmt := topS 16
theorem scLawIsInteger : FnScope ["actual"] ["actual"] (defScope sLawIsInteger) := ⟨rfl, rfl, rfl, by decide +kernel, rfl, by decide +kernel, by decide +kernel⟩
abbrev sLawSame : Stmt := topS 17
theorem scLawSame : FnScope ["actual", "expected", "k"] ["actual", "expected"] (defScope sLawSame) := ⟨rfl, rfl, rfl, by decide +kernel, rfl, by decide +kernel, by decide +kernel⟩
abbrev sLawInserted : Stmt := topS 18
theorem scLawInserted : FnScope ["replica", "deed", "found", "behind", "k"] ["replica", "deed"] (defScope sLawInserted) := ⟨rfl, rfl, rfl, by decide +kernel, rfl, by decide +kernel, by decide +kernel⟩
abbrev sLawForces : Stmt := topS 19
theorem scLawForces : FnScope ["row", "forces_v", "k", "place", "takers", "j"] ["row"] (defScope sLawForces) := ⟨rfl, rfl, rfl, by decide +kernel, rfl, by decide +kernel, by decide +kernel⟩
abbrev sLawChanges : Stmt := topS 20
theorem scLawChanges : FnScope ["rows", "module", "found", "replica", "forces_v", "k"] ["rows", "module"] (defScope sLawChanges) := ⟨rfl, rfl, rfl, by decide +kernel, rfl, by decide +kernel, by decide +kernel⟩
abbrev sLawRow : Stmt := topS 21
theorem scLawRow : FnScope ["rows", "module", "removed", "found", "replica", "deed", "force", "mark", "behind", "char", "row", "at", "each"] ["rows", "module"] (defScope sLawRow) := ⟨rfl, rfl, rfl, by decide +kernel, rfl, by decide +kernel, by decide +kernel⟩
abbrev sLawLast : Stmt := topS 22
theorem scLawLast : FnScope ["rows", "last", "row", "deed"] ["rows"] (defScope sLawLast) := ⟨rfl, rfl, rfl, by decide +kernel, rfl, by decide +kernel, by decide +kernel⟩
abbrev sLawModules : Stmt := topS 23
theorem scLawModules : FnScope [] [] (defScope sLawModules) := ⟨rfl, rfl, rfl, by decide +kernel, rfl, by decide +kernel, by decide +kernel⟩
abbrev sLawLetters : Stmt := topS 24
theorem scLawLetters : FnScope ["draws", "index", "chars", "text", "k"] ["draws", "index"] (defScope sLawLetters) := ⟨rfl, rfl, rfl, by decide +kernel, rfl, by decide +kernel, by decide +kernel⟩
abbrev sLawDeed : Stmt := topS 25
theorem scLawDeed : FnScope ["draws", "index", "rows", "replica", "own", "module", "marks", "removed", "k", "behind", "number", "mark", "deed", "each"] ["draws", "index", "rows", "replica"] (defScope sLawDeed) := ⟨rfl, rfl, rfl, by decide +kernel, rfl, by decide +kernel, by decide +kernel⟩
abbrev sLawVisible : Stmt := topS 26
theorem scLawVisible : FnScope ["rows", "counts", "k"] ["rows", "counts"] (defScope sLawVisible) := ⟨rfl, rfl, rfl, by decide +kernel, rfl, by decide +kernel, by decide +kernel⟩
abbrev sLawTriples : Stmt := topS 27
theorem scLawTriples : FnScope ["draws", "start", "steps", "most", "rows", "counts", "k", "triples", "base", "replica", "other", "deed", "j"] ["draws", "start", "steps", "most"] (defScope sLawTriples) := ⟨rfl, rfl, rfl, by decide +kernel, rfl, by decide +kernel, by decide +kernel⟩
abbrev sLawFits : Stmt := topS 28
theorem scLawFits : FnScope ["rows", "replica", "deed", "earlier", "marks", "other", "change", "force", "mark", "each"] ["rows", "replica", "deed"] (defScope sLawFits) := ⟨rfl, rfl, rfl, by decide +kernel, rfl, by decide +kernel, by decide +kernel⟩
abbrev sLawFirst : Stmt := topS 29
theorem scLawFirst : FnScope ["rows", "packet", "k", "replica", "place", "deed"] ["rows", "packet"] (defScope sLawFirst) := ⟨rfl, rfl, rfl, by decide +kernel, rfl, by decide +kernel, by decide +kernel⟩
abbrev sLawReceived : Stmt := topS 30
theorem scLawReceived : FnScope ["rows", "packet", "grown", "taken", "at", "k", "row"] ["rows", "packet"] (defScope sLawReceived) := ⟨rfl, rfl, rfl, by decide +kernel, rfl, by decide +kernel, by decide +kernel⟩
abbrev sLawLacking : Stmt := topS 31
theorem scLawLacking : FnScope ["rows", "counts", "packet", "replica", "place"] ["rows", "counts"] (defScope sLawLacking) := ⟨rfl, rfl, rfl, by decide +kernel, rfl, by decide +kernel, by decide +kernel⟩
abbrev sLawTurned : Stmt := topS 32
theorem scLawTurned : FnScope ["draws", "base", "packet", "turned", "k", "pick", "replica", "place", "deed"] ["draws", "base", "packet"] (defScope sLawTurned) := ⟨rfl, rfl, rfl, by decide +kernel, rfl, by decide +kernel, by decide +kernel⟩
abbrev sLawPasses : Stmt := topS 33
theorem scLawPasses : FnScope ["rows", "deeds", "packet", "passed", "expected", "told"] ["rows", "deeds", "packet"] (defScope sLawPasses) := ⟨rfl, rfl, rfl, by decide +kernel, rfl, by decide +kernel, by decide +kernel⟩
abbrev sLawStart : Stmt := topS 34
theorem scLawStart : FnScope ["draws", "triples", "objects", "k", "some", "deeds", "replica", "deed", "j", "each"] ["draws", "triples"] (defScope sLawStart) := ⟨rfl, rfl, rfl, by decide +kernel, rfl, by decide +kernel, by decide +kernel⟩
abbrev sLaw : Stmt := topS 35
theorem scLaw : FnScope ["script", "draws", "triples", "objects", "k", "giver", "taker", "due", "packet", "grown", "turn", "deeds", "module"] ["script"] (defScope sLaw) := ⟨rfl, rfl, rfl, by decide +kernel, rfl, by decide +kernel, by decide +kernel⟩
/-- what the top has written -/
structure Defs (K : PySem.W.Frag) (mg : Str → Option Value) where
  all : mg "all" = none
  bool : mg "bool" = none
  enumerate : mg "enumerate" = none
  int : mg "int" = none
  isinstance : mg "isinstance" = none
  len : mg "len" = none
  list : mg "list" = none
  max : mg "max" = none
  min : mg "min" = none
  range : mg "range" = none
  sorted : mg "sorted" = none
  str : mg "str" = none
  tuple : mg "tuple" = none
  zip : mg "zip" = none
  kREPLICAS : ∃ t, mg "REPLICAS" = some (.int 8 t)
  kLONGEST_MODULE : ∃ t, mg "LONGEST_MODULE" = some (.int 40 t)
  fForces : Addr
  fdForces : FuncData
  DForces : DefN K mg "forces" sForces ["deeds"] fForces fdForces
  fInserted : Addr
  fdInserted : FuncData
  DInserted : DefN K mg "inserted" sInserted ["replica", "deed"] fInserted fdInserted
  fInOrder : Addr
  fdInOrder : FuncData
  DInOrder : DefN K mg "in_order" sInOrder ["behinds"] fInOrder fdInOrder
  fLacking : Addr
  fdLacking : FuncData
  DLacking : DefN K mg "lacking" sLacking ["deeds", "counts"] fLacking fdLacking
  fReceived : Addr
  fdReceived : FuncData
  DReceived : DefN K mg "received" sReceived ["deeds", "packet"] fReceived fdReceived
  fFirstFitting : Addr
  fdFirstFitting : FuncData
  DFirstFitting : DefN K mg "first_fitting" sFirstFitting ["known", "packet", "offers"] fFirstFitting fdFirstFitting
  fLawMix : Addr
  fdLawMix : FuncData
  DLawMix : DefN K mg "_law_mix" sLawMix ["cell", "k"] fLawMix fdLawMix
  fLawDraws : Addr
  fdLawDraws : FuncData
  DLawDraws : DefN K mg "_law_draws" sLawDraws ["script"] fLawDraws fdLawDraws
  fLawAt : Addr
  fdLawAt : FuncData
  DLawAt : DefN K mg "_law_at" sLawAt ["draws", "index"] fLawAt fdLawAt
  fLawIsInteger : Addr
  fdLawIsInteger : FuncData
  DLawIsInteger : DefN K mg "_law_is_integer" sLawIsInteger ["actual"] fLawIsInteger fdLawIsInteger
  fLawSame : Addr
  fdLawSame : FuncData
  DLawSame : DefN K mg "_law_same" sLawSame ["actual", "expected"] fLawSame fdLawSame
  fLawInserted : Addr
  fdLawInserted : FuncData
  DLawInserted : DefN K mg "_law_inserted" sLawInserted ["replica", "deed"] fLawInserted fdLawInserted
  fLawForces : Addr
  fdLawForces : FuncData
  DLawForces : DefN K mg "_law_forces" sLawForces ["row"] fLawForces fdLawForces
  fLawChanges : Addr
  fdLawChanges : FuncData
  DLawChanges : DefN K mg "_law_changes" sLawChanges ["rows", "module"] fLawChanges fdLawChanges
  fLawRow : Addr
  fdLawRow : FuncData
  cO : Addr
  DLawRow : HS.DefC K mg "_law_row" sLawRow ["rows", "module"] fLawRow fdLawRow cO
  DLawRowN : DefN K mg "_law_row" sLawRow ["rows", "module"] fLawRow fdLawRow
  fLawLast : Addr
  fdLawLast : FuncData
  DLawLast : DefN K mg "_law_last" sLawLast ["rows"] fLawLast fdLawLast
  fLawModules : Addr
  fdLawModules : FuncData
  DLawModules : DefN K mg "_law_modules" sLawModules [] fLawModules fdLawModules
  fLawLetters : Addr
  fdLawLetters : FuncData
  DLawLetters : DefN K mg "_law_letters" sLawLetters ["draws", "index"] fLawLetters fdLawLetters
  fLawDeed : Addr
  fdLawDeed : FuncData
  DLawDeed : DefN K mg "_law_deed" sLawDeed ["draws", "index", "rows", "replica"] fLawDeed fdLawDeed
  fLawVisible : Addr
  fdLawVisible : FuncData
  DLawVisible : DefN K mg "_law_visible" sLawVisible ["rows", "counts"] fLawVisible fdLawVisible
  fLawTriples : Addr
  fdLawTriples : FuncData
  DLawTriples : DefN K mg "_law_triples" sLawTriples ["draws", "start", "steps", "most"] fLawTriples fdLawTriples
  fLawFits : Addr
  fdLawFits : FuncData
  DLawFits : DefN K mg "_law_fits" sLawFits ["rows", "replica", "deed"] fLawFits fdLawFits
  fLawFirst : Addr
  fdLawFirst : FuncData
  DLawFirst : DefN K mg "_law_first" sLawFirst ["rows", "packet"] fLawFirst fdLawFirst
  fLawReceived : Addr
  fdLawReceived : FuncData
  DLawReceived : DefN K mg "_law_received" sLawReceived ["rows", "packet"] fLawReceived fdLawReceived
  fLawLacking : Addr
  fdLawLacking : FuncData
  DLawLacking : DefN K mg "_law_lacking" sLawLacking ["rows", "counts"] fLawLacking fdLawLacking
  fLawTurned : Addr
  fdLawTurned : FuncData
  DLawTurned : DefN K mg "_law_turned" sLawTurned ["draws", "base", "packet"] fLawTurned fdLawTurned
  fLawPasses : Addr
  fdLawPasses : FuncData
  DLawPasses : DefN K mg "_law_passes" sLawPasses ["rows", "deeds", "packet"] fLawPasses fdLawPasses
  fLawStart : Addr
  fdLawStart : FuncData
  DLawStart : DefN K mg "_law_start" sLawStart ["draws", "triples"] fLawStart fdLawStart
  fLaw : Addr
  fdLaw : FuncData
  DLaw : DefN K mg "law" sLaw ["script"] fLaw fdLaw
  cDeeds : Addr
  fDeedsInit : Addr
  fdDeedsInit : FuncData
  DDeedsInit : DefI K "Deeds.__init__" sDeedsInit ["self"] fDeedsInit fdDeedsInit
  CDeeds : ClsN K mg "Deeds" cDeeds fDeedsInit
  fDeedsCounts : Addr
  fdDeedsCounts : FuncData
  DDeedsCounts : DefM K cDeeds "counts" "Deeds.counts" sDeedsCounts ["self"] fDeedsCounts fdDeedsCounts
  fDeedsAdd : Addr
  fdDeedsAdd : FuncData
  DDeedsAdd : DefM K cDeeds "add" "Deeds.add" sDeedsAdd ["self", "replica", "deed"] fDeedsAdd fdDeedsAdd
  fDeedsCopy : Addr
  fdDeedsCopy : FuncData
  DDeedsCopy : DefM K cDeeds "copy" "Deeds.copy" sDeedsCopy ["self"] fDeedsCopy fdDeedsCopy
  fDeedsRow : Addr
  fdDeedsRow : FuncData
  DDeedsRow : DefM K cDeeds "row" "Deeds.row" sDeedsRow ["self", "module"] fDeedsRow fdDeedsRow
  fDeedsText : Addr
  fdDeedsText : FuncData
  DDeedsText : DefM K cDeeds "text" "Deeds.text" sDeedsText ["self", "module"] fDeedsText fdDeedsText
  fDeedsFits : Addr
  fdDeedsFits : FuncData
  DDeedsFits : DefM K cDeeds "fits" "Deeds.fits" sDeedsFits ["self", "replica", "deed"] fDeedsFits fdDeedsFits
  fDeedsChanges : Addr
  fdDeedsChanges : FuncData
  DDeedsChanges : DefM K cDeeds "_changes" "Deeds._changes" sDeedsChanges ["self", "module"] fDeedsChanges fdDeedsChanges
  nDeeds_rows : NoAttr K cDeeds "rows"
  nDeeds_marks : NoAttr K cDeeds "_marks"
  nDeeds_ends : NoAttr K cDeeds "_ends"
end Q07
namespace Q07
open PySem PySem.Spec PyProof.Rows L2 SX HL
section
variable {P : Program} {w : World} {K : PySem.W.Frag} {mg : Str → Option Value} {base : Heap}
/-! ### _law_mix -/
def spMix : Sp := fun vs H Q _ => ∃ (c k : Int), vs = [.int c, .int k] ∧ ∀ v, 0 ≤ v → v < 9973 → Q (.int v) H
theorem ok_mix {k : Nat} (Z : Defs K mg) : FnOk P w K mg base CX0 (k + 1) Z.fLawMix Z.fdLawMix ["cell", "k"] spMix := by
  refine Z.DLawMix.F.ok scLawMix (fun vs H Q E h => ?_) (fun cdv A outer s H vs Q E hr h => ?_)
  · obtain ⟨c, k, rfl, _⟩ := h
    rfl
  · obtain ⟨c, k, rfl, qq⟩ := h
    refine ⟨_, (pss_cons (ps_set (i := 2) scLawMix.nd rfl (.inl rfl) (pe_op op_mod (pe_callTy call_int1 (by rfl) Z.int HL.boot_int (pa_cons (pe_op op_add (pe_op op_add (pe_op op_mul (pe_callTy call_int1 (by rfl) Z.int HL.boot_int (pa_cons (pv 0) pa_nil)) pe_int) (pe_op op_mul (pv 1) pe_int)) pe_int) pa_nil)) pe_int))
        (pss_cons (ps_set (i := 2) scLawMix.nd rfl (.inl rfl) (pe_op op_mod (pe_callTy call_int1 (by rfl) Z.int HL.boot_int (pa_cons (pe_op op_add (pe_op op_add (pe_op op_mul (pv 2) (pv 2)) (pe_op op_mul (pv 1) pe_int)) pe_int) pa_nil)) pe_int))
        (pss_one (ps_ret (pe_op op_mod (pe_op op_fdiv (pv 2) pe_int) pe_int))))), ?_⟩
    refine ⟨_, rfl, .inl ⟨c, rfl, _, _, rfl, rfl, .inr ⟨by decide, by decide⟩, _, rfl, _, _, rfl, rfl, .inr ⟨by decide, by decide⟩, _, _, rfl, rfl, _, _, rfl, rfl, .inl ⟨_, rfl, _, _, rfl, rfl, (by show (0 : Int) < 2147483647; decide), ?_⟩⟩⟩
    have v0 := Int.emod_nonneg (c * 48271 + k * 69621 + 12345) (show (2147483647 : Int) ≠ 0 by decide)
    have v1 := Int.emod_lt_of_pos (c * 48271 + k * 69621 + 12345) (show (0 : Int) < 2147483647 by decide)
    revert v0 v1
    dsimp only
    generalize (c * 48271 + k * 69621 + 12345) % 2147483647 = v
    intro v0 v1
    refine ⟨_, rfl, _, rfl, v, v, rfl, rfl, .inl ⟨by omega, by omega⟩, _, rfl, _, _, rfl, rfl, .inr ⟨by decide, by decide⟩, _, _, rfl, rfl, _, _, rfl, rfl, .inl ⟨_, rfl, _, _, rfl, rfl, (by show (0 : Int) < 2147483399; decide), ?_⟩⟩
    refine ⟨_, rfl, _, _, rfl, rfl, ⟨by decide, by decide⟩, _, _, rfl, rfl, (by show (0 : Int) < 9973; decide), qq _ (Int.emod_nonneg _ (by decide)) (Int.emod_lt_of_pos _ (by decide))⟩
end
end Q07
namespace Q07
open PySem PySem.Spec PyProof.Rows L2 SX HL
section
variable {P : Program} {w : World} {K : PySem.W.Frag} {mg : Str → Option Value} {base : Heap}
/-! ### _law_draws -/
def Draws (ds : List Int) : Prop := ∀ x ∈ ds, 0 ≤ x ∧ x < 9973
def spDraws (K : PySem.W.Frag) : Sp := fun vs H Q _ => ∃ (a : Addr) (ns : List Int), vs = [.ref a] ∧ SqL K H a (ns.map V.int) ∧ ns.length ≤ 63 ∧
  ∀ d H' ds, H d = none → Same H H' → H' d = some (.lst (ds.map V.int)) → ds.length ≤ 4000 → Draws ds → Q (.ref d) H'
theorem ok_draws {k : Nat} (Z : Defs K mg) : FnOk P w K mg base CX0 (k + 2) Z.fLawDraws Z.fdLawDraws ["script"] (spDraws K) := by
  have GLawMix : FnOk P w K mg base CX0 (k + 1) Z.fLawMix Z.fdLawMix ["cell", "k"] spMix := ok_mix Z
  refine Z.DLawDraws.F.ok scLawDraws (fun vs H Q E h => ?_) (fun cdv A outer s H vs Q E hr h => ?_)
  · obtain ⟨a, ns, rfl, _⟩ := h
    rfl
  · obtain ⟨a, ns, rfl, hS, hl, qq⟩ := h
    refine ⟨_, (pss_cons (ps_set (i := 1) scLawDraws.nd rfl (.inl rfl) (pe_lst pa_nil))
        (pss_cons (ps_for PassesOwn.never rfl (pi_range1 (by rfl) Z.range (pa_cons (pe_callB (call_min2 rfl) (by rfl) Z.min (by decide +kernel) (pa_cons pe_int (pa_cons (pe_callB call_len_seq (by rfl) Z.len PySem.boot_len (pa_cons (pv 0) pa_nil)) pa_nil))) pa_nil)) (pg_name (i := 2) scLawDraws.nd rfl (.inl rfl)) (pss_cons (ps_set (i := 3) scLawDraws.nd rfl (.inl rfl) (pe_callTy call_int1 (by rfl) Z.int HL.boot_int (pa_cons (pe_ix ix_list (pv 0) (pv 2) (fun _ _ => rfl)) pa_nil)))
        (pss_one (ps_if (pt_cmpR op_lt (pv 3) (pe_op op_pow pe_int pe_int) (nomark _)) (pss_one (ps_expr (pe_bm PySem.F.plainAttrs_list PySem.F.slot_list_append PySem.F.type_list_append mt_append (pv 1) (pa_cons (pe_call GLawMix (hr.mono (by omega)) (by rfl) Z.DLawMix.g Z.DLawMix.F.kp Z.DLawMix.b .nil pass0 (pa_cons (pv 3) (pa_cons (pv 2) pa_nil))) pa_nil)))) (pss_one (ps_for PassesOwn.never rfl (pi_range1 (by rfl) Z.range (pa_cons pe_int pa_nil)) (pg_name (i := 4) scLawDraws.nd rfl (.inl rfl)) (pss_one (ps_if (pt_cmpR op_gt (pv 3) pe_int (nomark _)) (pss_cons (ps_expr (pe_bm PySem.F.plainAttrs_list PySem.F.slot_list_append PySem.F.type_list_append mt_append (pv 1) (pa_cons (pe_op op_mod (pe_callTy call_int1 (by rfl) Z.int HL.boot_int (pa_cons (pv 3) pa_nil)) pe_int) pa_nil)))
        (pss_one (ps_set (i := 3) scLawDraws.nd rfl (.inl rfl) (pe_op op_fdiv (pv 3) pe_int)))) pss_nil))))))))
        (pss_one (ps_ret (pv 1))))), ?_⟩
    refine ⟨Nat.zero_le _, fun D0 hD => ⟨_, rfl, a, _, rfl, .inl ((same_upd hD).seq hS), 63, _, rfl, _, rfl, ?_⟩⟩
    have hlen : (ns.map V.int).length = ns.length := List.length_map _
    rw [hlen]
    have nn : (if (ns.length : Int) < 63 then (ns.length : Int) else 63) = (ns.length : Int) := by
      split <;> omega
    rw [nn]
    refine ⟨by omega, by omega, ?_⟩
    have ap : ∀ {H' : Hp} {ds : List Int} {v : Int}, Same H H' → Same H (upd H' D0 (.lst (ds.map V.int ++ [.int v]))) := fun s b o hb => by
      rw [upd_ne (ne_of_none hb hD)]
      exact s b o hb
    refine for_range (lo := 0) (n := ns.length) (fun i σ H' => ∃ (ds : List Int) (y2 y3 y4 : Option V), σ = [some (.ref a), some (.ref D0), y2, y3, y4] ∧ Same H H' ∧ H' D0 = some (.lst (ds.map V.int)) ∧ ds.length ≤ 60 * i ∧ Draws ds)
      ⟨[], none, none, none, rfl, same_upd hD, upd_same, Nat.zero_le _, fun _ h => nomatch h⟩ ?_ ?_
    · rintro i σ H' hi ⟨ds, y2, y3, y4, rfl, sm, hd, hdl, hdr⟩
      have hg : atI (ns.map V.int) ((0 : Int) + (i : Int)) = some (.int (ns.getD i 0)) := by
        rw [Int.zero_add]
        refine atI_nat ?_
        simp [hi]
      generalize ns.getD i 0 = x at hg
      refine ⟨_, rfl, _, rfl, a, _, _, _, rfl, rfl, sm.seq hS, hg, .inl ⟨x, rfl, ?_⟩⟩
      refine ⟨_, rfl, 10, 18, rfl, rfl, ⟨by decide, by decide, by decide⟩, _, _, rfl, rfl, _, rfl, ite2 (fun _ => ?_) (fun e => ?_)⟩
      · refine ⟨_, rfl, .inl ⟨rfl, _, SqL.of hd⟩, _, rfl, _, rfl, x, _, rfl, fun v v0 v1 => ⟨D0, _, _, rfl, rfl, hd, ?_, ?_⟩⟩
        · rw [List.length_map]
          exact Nat.lt_of_le_of_lt (show ds.length ≤ 4000 by omega) (by decide)
        · refine ⟨ds ++ [v], _, _, _, rfl, ap sm, by rw [upd_same]; simp, by simp; omega, fun y hy => ?_⟩
          rcases List.mem_append.mp hy with hy | hy
          · exact hdr y hy
          · rw [List.mem_singleton.mp hy]
            exact ⟨v0, v1⟩
      · refine ⟨60, rfl, by decide, by decide, ?_⟩
        refine for_range (lo := 0) (n := 60) (fun j σ H' => ∃ (ds2 : List Int) (x : Int) (y4 : Option V), σ = [some (.ref a), some (.ref D0), some (.int (0 + (i : Int))), some (.int x), y4] ∧ Same H H' ∧ H' D0 = some (.lst (ds2.map V.int)) ∧ ds2.length ≤ 60 * i + j ∧ Draws ds2)
          ⟨ds, x, y4, rfl, sm, hd, hdl, hdr⟩ ?_ ?_
        · rintro j σ H2 hj ⟨ds2, x, y4, rfl, sm2, hd2, hdl2, hdr2⟩
          refine ⟨_, rfl, x, 0, rfl, rfl, _, rfl, ite2 (fun e => ?_) (fun e => ?_)⟩
          · refine ⟨_, rfl, .inl ⟨rfl, _, SqL.of hd2⟩, _, rfl, .inl ⟨x, rfl, x, 9973, rfl, rfl, (by show (0 : Int) < 9973; decide), D0, _, _, rfl, rfl, hd2, ?_, ?_⟩⟩
            · rw [List.length_map]
              exact Nat.lt_of_le_of_lt (show ds2.length ≤ 4000 by omega) (by decide)
            · refine ⟨_, rfl, x, 9973, rfl, rfl, ⟨by decide, by decide⟩, ds2 ++ [x % 9973], x / 9973, _, rfl, ap sm2, by rw [upd_same]; simp, by simp; omega, fun y hy => ?_⟩
              rcases List.mem_append.mp hy with hy | hy
              · exact hdr2 y hy
              · rw [List.mem_singleton.mp hy]
                exact ⟨Int.emod_nonneg _ (by decide), Int.emod_lt_of_pos _ (by decide)⟩
          · exact ⟨ds2, x, _, rfl, sm2, hd2, by omega, hdr2⟩
        · rintro σ H2 ⟨ds2, x, y4, rfl, sm2, hd2, hdl2, hdr2⟩
          exact ⟨ds2, _, _, _, rfl, sm2, hd2, by omega, hdr2⟩
    · rintro σ H' ⟨ds, y2, y3, y4, rfl, sm, hd, hdl, hdr⟩
      exact ⟨_, rfl, qq D0 H' ds hD sm hd (by omega) hdr⟩
/-! ### _law_at -/
def spAt : Sp := fun vs H Q _ => ∃ (d : Addr) (ds : List Int) (i : Int), vs = [.ref d, .int i] ∧ H d = some (.lst (ds.map V.int)) ∧ Draws ds ∧ 0 ≤ i ∧ ∀ v, 0 ≤ v → v < 9973 → Q (.int v) H
theorem ok_at {k : Nat} (Z : Defs K mg) : FnOk P w K mg base CX0 (k + 2) Z.fLawAt Z.fdLawAt ["draws", "index"] spAt := by
  have GLawMix : FnOk P w K mg base CX0 (k + 1) Z.fLawMix Z.fdLawMix ["cell", "k"] spMix := ok_mix Z
  refine Z.DLawAt.F.ok scLawAt (fun vs H Q E h => ?_) (fun cdv A outer s H vs Q E hr h => ?_)
  · obtain ⟨a, ns, i, rfl, _⟩ := h
    rfl
  · obtain ⟨d, ds, i, rfl, hd, hD, i0, qq⟩ := h
    refine ⟨_, (pss_cons (ps_if (pt_cmpR op_lt (pv 1) (pe_callB call_len_seq (by rfl) Z.len PySem.boot_len (pa_cons (pv 0) pa_nil)) (nomark _)) (pss_one (ps_ret (pe_ix ix_list (pv 0) (pv 1) (fun _ _ => rfl)))) pss_nil)
        (pss_cons (ps_if (pt_cmpR op_eq (pe_callB call_len_seq (by rfl) Z.len PySem.boot_len (pa_cons (pv 0) pa_nil)) pe_int (nomark _)) (pss_one (ps_ret (pe_call GLawMix (hr.mono (by omega)) (by rfl) Z.DLawMix.g Z.DLawMix.F.kp Z.DLawMix.b .nil pass0 (pa_cons (pv 1) (pa_cons pe_int pa_nil))))) pss_nil)
        (pss_one (ps_ret (pe_call GLawMix (hr.mono (by omega)) (by rfl) Z.DLawMix.g Z.DLawMix.F.kp Z.DLawMix.b .nil pass0 (pa_cons (pe_op op_add (pe_ix ix_list (pv 0) (pe_op op_mod (pe_callTy call_int1 (by rfl) Z.int HL.boot_int (pa_cons (pv 1) pa_nil)) (pe_callB call_len_seq (by rfl) Z.len PySem.boot_len (pa_cons (pv 0) pa_nil))) (fun _ _ => rfl)) (pe_op op_mul (pv 1) pe_int)) (pa_cons (pv 1) pa_nil))))))), ?_⟩
    have hlen : (ds.map V.int).length = ds.length := List.length_map _
    refine ⟨_, rfl, _, rfl, d, _, rfl, .inl (SqL.of hd), _, _, rfl, rfl, _, rfl, ite2 (fun e => ?_) (fun e => ?_)⟩
    · have e2 : i < ((ds.map V.int).length : Int) := of_decide_eq_true e
      rw [hlen] at e2
      have hi : i.toNat < ds.length := by omega
      have hg : atI (ds.map V.int) i = some (.int ds[i.toNat]) := by
        have h0 := atI_nat (xs := ds.map V.int) (j := i.toNat) (v := .int ds[i.toNat]) (by simp [hi])
        have : ((i.toNat : Nat) : Int) = i := by omega
        rwa [this] at h0
      have hb := hD _ (List.getElem_mem hi)
      exact ⟨_, rfl, _, rfl, d, _, i, _, rfl, rfl, SqL.of hd, hg, qq _ hb.1 hb.2⟩
    · refine ⟨_, rfl, d, _, rfl, .inl (SqL.of hd), rfl, _, rfl, ite2 (fun e2 => ?_) (fun e2 => ?_)⟩
      · exact ⟨_, rfl, i, 77, rfl, qq⟩
      · have hp : 0 < ds.length := by
          rcases Nat.eq_zero_or_pos ds.length with z | z
          · exact absurd (decide_eq_true (by rw [hlen, z]; rfl)) e2
          · exact z
        have m0 := Int.emod_nonneg i (show (ds.length : Int) ≠ 0 by omega)
        have m1 := Int.emod_lt_of_pos i (show (0 : Int) < (ds.length : Int) by omega)
        have hi : (i % (ds.length : Int)).toNat < ds.length := by omega
        have hg : atI (ds.map V.int) (i % (ds.length : Int)) = some (.int ds[(i % (ds.length : Int)).toNat]) := by
          have h0 := atI_nat (xs := ds.map V.int) (j := (i % (ds.length : Int)).toNat) (v := .int ds[(i % (ds.length : Int)).toNat]) (by simp [hi])
          have : (((i % (ds.length : Int)).toNat : Nat) : Int) = i % (ds.length : Int) := by omega
          rwa [this] at h0
        generalize ds[(i % (ds.length : Int)).toNat] = x at hg
        refine ⟨_, rfl, _, rfl, .inl ⟨i, rfl, _, rfl, d, _, rfl, .inl (SqL.of hd), ?_⟩⟩
        rw [hlen]
        refine ⟨_, _, rfl, rfl, (by show (0 : Int) < (ds.length : Int); omega), d, _, _, _, rfl, rfl, SqL.of hd, hg, _, rfl, i, 131, rfl, rfl, .inr ⟨by decide, by decide⟩, _, _, rfl, rfl, _, rfl, _, _, rfl, qq⟩
end
end Q07
namespace Q07
open PySem PySem.Spec PyProof.Rows L2 SX HL
section
variable {P : Program} {w : World} {K : PySem.W.Frag} {mg : Str → Option Value} {base : Heap}
/-! ### _law_is_integer -/
def spIsInt : Sp := fun vs H Q _ => ∃ i : Int, vs = [.int i] ∧ Q (.bl true) H
theorem ok_isint {k : Nat} (Z : Defs K mg) : FnOk P w K mg base CX0 (k + 1) Z.fLawIsInteger Z.fdLawIsInteger ["actual"] spIsInt := by
  refine Z.DLawIsInteger.F.ok scLawIsInteger (fun vs H Q E h => ?_) (fun cdv A outer s H vs Q E hr h => ?_)
  · obtain ⟨i, rfl, _⟩ := h
    rfl
  · obtain ⟨i, rfl, q⟩ := h
    refine ⟨_, (pss_one (ps_ret (pe_and (pe_callB call_isB (by rfl) Z.isinstance HL.boot_isinstance (pa_cons (pv 0) (pa_cons (pe_bltn (v := .ty "int") (by rfl) Z.int HL.boot_int rfl) pa_nil))) (pe_one (pe_not (pe_callB call_isB (by rfl) Z.isinstance HL.boot_isinstance (pa_cons (pv 0) (pa_cons (pe_bltn (v := .ty "bool") (by rfl) Z.bool HL.boot_bool rfl) pa_nil)))))))), ?_⟩
    refine ⟨_, rfl, _, "int", "int", true, rfl, .base (.int i), by decide +kernel, true, rfl, iteT ?_⟩
    exact ⟨_, rfl, _, "int", "bool", false, rfl, .base (.int i), by decide +kernel, false, rfl, q⟩
/-! ### _law_same -/
def spLess (K : PySem.W.Frag) : Nat → Sp
  | 0 => fun _ _ _ _ => False
  | n + 1 => spSameG K n
theorem same_step {n : Nat} (Z : Defs K mg)
    (GLawSame : FnOk P w K mg base CX0 (n + 1) Z.fLawSame Z.fdLawSame ["actual", "expected"] (spLess K n)) : FnOk P w K mg base CX0 (n + 2) Z.fLawSame Z.fdLawSame ["actual", "expected"] (spSameG K n) := by
  have GLawIsInteger : FnOk P w K mg base CX0 1 Z.fLawIsInteger Z.fdLawIsInteger ["actual"] spIsInt := ok_isint (k := 0) Z
  refine Z.DLawSame.F.ok scLawSame (fun vs H Q E h => ?_) (fun cdv A outer s H vs Q E hr h => ?_)
  · obtain ⟨x, y, rfl, _⟩ := h
    rfl
  · obtain ⟨x, y, rfl, hs, q⟩ := h
    refine ⟨_, (pss_cons (ps_if (pt_val (pe_callB call_isiT (by rfl) Z.isinstance HL.boot_isinstance (pa_cons (pv 1) (pa_cons (pe_tup (pa_cons (pe_bltn (v := .ty "list") (by rfl) Z.list HL.boot_list rfl) (pa_cons (pe_bltn (v := .ty "tuple") (by rfl) Z.tuple HL.boot_tuple rfl) pa_nil))) pa_nil)))) (pss_cons (ps_if (PW.pt (pw_or (pt_cmpR op_ne (pe_callB call_isB (by rfl) Z.isinstance HL.boot_isinstance (pa_cons (pv 1) (pa_cons (pe_bltn (v := .ty "list") (by rfl) Z.list HL.boot_list rfl) pa_nil))) (pe_callB call_isB (by rfl) Z.isinstance HL.boot_isinstance (pa_cons (pv 0) (pa_cons (pe_bltn (v := .ty "list") (by rfl) Z.list HL.boot_list rfl) pa_nil))) (nomark _)) (pw_or1 (pt_cmpR op_ne (pe_callB call_isB (by rfl) Z.isinstance HL.boot_isinstance (pa_cons (pv 1) (pa_cons (pe_bltn (v := .ty "tuple") (by rfl) Z.tuple HL.boot_tuple rfl) pa_nil))) (pe_callB call_isB (by rfl) Z.isinstance HL.boot_isinstance (pa_cons (pv 0) (pa_cons (pe_bltn (v := .ty "tuple") (by rfl) Z.tuple HL.boot_tuple rfl) pa_nil))) (nomark _))))) (pss_one (ps_ret pe_bl)) pss_nil)
        (pss_cons (ps_if (pt_cmpR op_ne (pe_callB call_len_seq (by rfl) Z.len PySem.boot_len (pa_cons (pv 0) pa_nil)) (pe_callB call_len_seq (by rfl) Z.len PySem.boot_len (pa_cons (pv 1) pa_nil)) (nomark _)) (pss_one (ps_ret pe_bl)) pss_nil)
        (pss_cons (ps_for PassesOwn.never rfl (pi_range1 (by rfl) Z.range (pa_cons (pe_callB call_len_seq (by rfl) Z.len PySem.boot_len (pa_cons (pv 1) pa_nil)) pa_nil)) (pg_name (i := 2) scLawSame.nd rfl (.inl rfl)) (pss_one (ps_if (pt_not (pt_val (pe_call GLawSame (hr.mono (by omega)) (by rfl) Z.DLawSame.g Z.DLawSame.F.kp Z.DLawSame.b .nil pass0 (pa_cons (pe_ix ix_seq (pv 0) (pv 2) (fun _ _ => rfl)) (pa_cons (pe_ix ix_seq (pv 1) (pv 2) (fun _ _ => rfl)) pa_nil))))) (pss_one (ps_ret pe_bl)) pss_nil)))
        (pss_one (ps_ret pe_bl))))) pss_nil)
        (pss_cons (ps_if (pt_cmp (pc_isN (pv 1))) (pss_one (ps_ret (pe_cmp (pc_isN (pv 0)) rfl))) pss_nil)
        (pss_cons (ps_if (pt_val (pe_callB call_isB (by rfl) Z.isinstance HL.boot_isinstance (pa_cons (pv 1) (pa_cons (pe_bltn (v := .ty "bool") (by rfl) Z.bool HL.boot_bool rfl) pa_nil)))) (pss_one (ps_ret (pe_and (pe_callB call_isB (by rfl) Z.isinstance HL.boot_isinstance (pa_cons (pv 0) (pa_cons (pe_bltn (v := .ty "bool") (by rfl) Z.bool HL.boot_bool rfl) pa_nil))) (pe_one (pe_cmpR op_eq (pv 0) (pv 1) (nomark _)))))) pss_nil)
        (pss_cons (ps_if (pt_val (pe_callB call_isB (by rfl) Z.isinstance HL.boot_isinstance (pa_cons (pv 1) (pa_cons (pe_bltn (v := .ty "int") (by rfl) Z.int HL.boot_int rfl) pa_nil)))) (pss_one (ps_ret (pe_and (pe_call GLawIsInteger (hr.mono (by omega)) (by rfl) Z.DLawIsInteger.g Z.DLawIsInteger.F.kp Z.DLawIsInteger.b .nil pass0 (pa_cons (pv 0) pa_nil)) (pe_one (pe_cmpR op_eq (pv 0) (pv 1) (nomark _)))))) pss_nil)
        (pss_one (ps_ret (pe_and (pe_callB call_isB (by rfl) Z.isinstance HL.boot_isinstance (pa_cons (pv 0) (pa_cons (pe_bltn (v := .ty "str") (by rfl) Z.str HL.boot_str rfl) pa_nil))) (pe_one (pe_cmpR op_eq (pv 0) (pv 1) (nomark _)))))))))), ?_⟩
    have t2 : 2 ≤ sizeLine := by decide
    have hs : (Leaf x ∧ x = y) ∨ ∃ (m : Nat) (t : String) (a b : Addr) (xs ys : List V), n = m + 1 ∧ x = .ref a ∧ y = .ref b ∧ IsSeq K H t a xs ∧ IsSeq K H t b ys ∧ xs.length = ys.length ∧ ys.length ≤ 1000000 ∧
        ∀ (i : Nat) (u v : V), xs[i]? = some u → ys[i]? = some v → SameD K H m u v := by
      cases n with
      | zero => exact .inl hs
      | succ m =>
        rcases hs with h | ⟨t, a, b, xs, ys, h⟩
        · exact .inl h
        · exact .inr ⟨m, t, a, b, xs, ys, rfl, h⟩
    rcases hs with ⟨lf, rfl⟩ | ⟨m, t, a, b, xs, ys, rfl, rfl, rfl, h1, h2, el, hz, hh⟩
    · cases x with
      | int i =>
        refine ⟨_, rfl, t2, fun p hp => ⟨_, p, _, .type "int", _, _, rfl, upd_same, .cons (.ty _) (.cons (.ty _) .nil), .base (.int i), kit_two (by decide +kernel : kitB "int" "list" = some false) (by decide +kernel : kitB "int" "tuple" = some false), _, rfl, iteF ?_⟩⟩
        refine ⟨_, rfl, _, rfl, iteF ?_⟩
        refine ⟨_, rfl, _, "int", "bool", false, rfl, .base (.int i), by decide +kernel, false, rfl, iteF ?_⟩
        refine ⟨_, rfl, _, "int", "int", true, rfl, .base (.int i), by decide +kernel, true, rfl, iteT ?_⟩
        refine ⟨_, rfl, i, rfl, true, rfl, iteT ⟨_, rfl, _, rfl, rfl, ?_⟩⟩
        rw [decide_eq_true rfl]
        exact q _ (same_upd hp)
      | str z =>
        refine ⟨_, rfl, t2, fun p hp => ⟨_, p, _, .type "str", _, _, rfl, upd_same, .cons (.ty _) (.cons (.ty _) .nil), .base (.str z), kit_two (by decide +kernel : kitB "str" "list" = some false) (by decide +kernel : kitB "str" "tuple" = some false), _, rfl, iteF ?_⟩⟩
        refine ⟨_, rfl, _, rfl, iteF ?_⟩
        refine ⟨_, rfl, _, "str", "bool", false, rfl, .base (.str z), by decide +kernel, false, rfl, iteF ?_⟩
        refine ⟨_, rfl, _, "str", "int", false, rfl, .base (.str z), by decide +kernel, false, rfl, iteF ?_⟩
        refine ⟨_, rfl, _, "str", "str", true, rfl, .base (.str z), by decide +kernel, true, rfl, iteT ?_⟩
        refine ⟨_, rfl, _, rfl, rfl, ?_⟩
        rw [decide_eq_true rfl]
        exact q _ (same_upd hp)
      | bl b =>
        refine ⟨_, rfl, t2, fun p hp => ⟨_, p, _, .type "bool", _, _, rfl, upd_same, .cons (.ty _) (.cons (.ty _) .nil), .base (.bl b), kit_two (by decide +kernel : kitB "bool" "list" = some false) (by decide +kernel : kitB "bool" "tuple" = some false), _, rfl, iteF ?_⟩⟩
        refine ⟨_, rfl, _, rfl, iteF ?_⟩
        refine ⟨_, rfl, _, "bool", "bool", true, rfl, .base (.bl b), by decide +kernel, true, rfl, iteT ?_⟩
        refine ⟨_, rfl, _, "bool", "bool", true, rfl, .base (.bl b), by decide +kernel, true, rfl, iteT ?_⟩
        refine ⟨_, rfl, _, rfl, rfl, ?_⟩
        rw [decide_eq_true rfl]
        exact q _ (same_upd hp)
      | non =>
        refine ⟨_, rfl, t2, fun p hp => ⟨_, p, _, .type "NoneType", _, _, rfl, upd_same, .cons (.ty _) (.cons (.ty _) .nil), .base .non, kit_two (by decide +kernel : kitB "NoneType" "list" = some false) (by decide +kernel : kitB "NoneType" "tuple" = some false), _, rfl, iteF ?_⟩⟩
        refine ⟨_, rfl, _, rfl, iteT ?_⟩
        exact ⟨_, rfl, q _ (same_upd hp)⟩
      | _ => exact (show False from lf).elim
    · have rest : ∀ (i : Nat) (u v : V), xs[i]? = some u → ys[i]? = some v → atI xs ((0 : Int) + (i : Int)) = some u ∧ atI ys ((0 : Int) + (i : Int)) = some v := fun i u v hu hv => by
        rw [Int.zero_add]
        exact ⟨atI_nat hu, atI_nat hv⟩
      have turn : ∀ i : Nat, i < (ys.length : Int).toNat → ∃ u v, xs[i]? = some u ∧ ys[i]? = some v := fun i hi => by
        have i1 : i < ys.length := by omega
        have i2 : i < xs.length := by omega
        exact ⟨_, _, List.getElem?_eq_getElem i2, List.getElem?_eq_getElem i1⟩
      rcases h1 with ⟨rfl, s1, t1⟩ | ⟨rfl, s1, t1⟩
      · rcases h2 with ⟨_, s2, t2'⟩ | ⟨z, _⟩
        · refine ⟨_, rfl, t2, fun p hp => ⟨_, p, _, .type "tuple", _, _, rfl, upd_same, .cons (.ty _) (.cons (.ty _) .nil), tyx_same (same_upd hp) t2', kit_two (by decide +kernel : kitB "tuple" "list" = some false) (by decide +kernel : kitB "tuple" "tuple" = some true), _, rfl, iteT ?_⟩⟩
          have s10 := s1
          have s20 := s2
          have s1 := seqT_same (same_upd (o := .tup [.ty "list", .ty "tuple"]) hp) s1
          have s2 := seqT_same (same_upd (o := .tup [.ty "list", .ty "tuple"]) hp) s2
          refine ⟨_, rfl, _, "tuple", "list", false, rfl, tyx_same (same_upd hp) t2', by decide +kernel, _, rfl, _, "tuple", "list", false, rfl, tyx_same (same_upd hp) t1, by decide +kernel, rfl, _, rfl, iteNS rfl ?_⟩
          refine ⟨_, rfl, _, "tuple", "tuple", true, rfl, tyx_same (same_upd hp) t2', by decide +kernel, _, rfl, _, "tuple", "tuple", true, rfl, tyx_same (same_upd hp) t1, by decide +kernel, rfl, _, rfl, iteNS rfl ?_⟩
          refine ⟨_, rfl, a, xs, rfl, .inr s1, _, rfl, b, ys, rfl, .inr s2, rfl, _, rfl, iteNS (by rw [el]) ?_⟩
          refine ⟨_, rfl, b, ys, rfl, .inr s2, _, rfl, by omega, by omega, ?_⟩
          refine for_range (lo := 0) (n := (ys.length : Int).toNat) (fun i σ H' => Same H H' ∧ ∃ y, σ = [some (.ref a), some (.ref b), y]) ⟨same_upd hp, none, rfl⟩ ?_ ?_
          · rintro i σ H' hi ⟨sm, y, rfl⟩
            obtain ⟨u, v, hu, hv⟩ := turn i hi
            obtain ⟨r1, r2⟩ := rest i u v hu hv
            exact ⟨_, rfl, _, rfl, .inr (.inl ⟨a, xs, _, u, rfl, rfl, seqT_same sm s10, r1, _, rfl, _, rfl, .inr (.inl ⟨b, ys, _, v, rfl, rfl, seqT_same sm s20, r2, u, v, rfl, sameD_same sm (hh i u v hu hv), fun H2 s2 => ⟨true, rfl, iteF ⟨sm.trans s2, _, rfl⟩⟩⟩)⟩)⟩
          · rintro σ H' ⟨sm, y, rfl⟩
            exact q _ sm
        · exact absurd z (by decide)
      · rcases h2 with ⟨z, _⟩ | ⟨_, s2, t2'⟩
        · exact absurd z (by decide)
        · refine ⟨_, rfl, t2, fun p hp => ⟨_, p, _, .type "list", _, _, rfl, upd_same, .cons (.ty _) (.cons (.ty _) .nil), tyx_same (same_upd hp) t2', kit_two (by decide +kernel : kitB "list" "list" = some true) (by decide +kernel : kitB "list" "tuple" = some false), _, rfl, iteT ?_⟩⟩
          have s10 := s1
          have s20 := s2
          have s1 := (same_upd (o := .tup [.ty "list", .ty "tuple"]) hp).seq s1
          have s2 := (same_upd (o := .tup [.ty "list", .ty "tuple"]) hp).seq s2
          refine ⟨_, rfl, _, "list", "list", true, rfl, tyx_same (same_upd hp) t2', by decide +kernel, _, rfl, _, "list", "list", true, rfl, tyx_same (same_upd hp) t1, by decide +kernel, rfl, _, rfl, iteNS rfl ?_⟩
          refine ⟨_, rfl, _, "list", "tuple", false, rfl, tyx_same (same_upd hp) t2', by decide +kernel, _, rfl, _, "list", "tuple", false, rfl, tyx_same (same_upd hp) t1, by decide +kernel, rfl, _, rfl, iteNS rfl ?_⟩
          refine ⟨_, rfl, a, xs, rfl, .inl s1, _, rfl, b, ys, rfl, .inl s2, rfl, _, rfl, iteNS (by rw [el]) ?_⟩
          refine ⟨_, rfl, b, ys, rfl, .inl s2, _, rfl, by omega, by omega, ?_⟩
          refine for_range (lo := 0) (n := (ys.length : Int).toNat) (fun i σ H' => Same H H' ∧ ∃ y, σ = [some (.ref a), some (.ref b), y]) ⟨same_upd hp, none, rfl⟩ ?_ ?_
          · rintro i σ H' hi ⟨sm, y, rfl⟩
            obtain ⟨u, v, hu, hv⟩ := turn i hi
            obtain ⟨r1, r2⟩ := rest i u v hu hv
            exact ⟨_, rfl, _, rfl, .inl ⟨a, xs, _, u, rfl, rfl, sm.seq s10, r1, _, rfl, _, rfl, .inl ⟨b, ys, _, v, rfl, rfl, sm.seq s20, r2, u, v, rfl, sameD_same sm (hh i u v hu hv), fun H2 s2 => ⟨true, rfl, iteF ⟨sm.trans s2, _, rfl⟩⟩⟩⟩⟩
          · rintro σ H' ⟨sm, y, rfl⟩
            exact q _ sm
theorem ok_same (Z : Defs K mg) : ∀ n, FnOk P w K mg base CX0 (n + 2) Z.fLawSame Z.fdLawSame ["actual", "expected"] (spSameG K n)
  | 0 => same_step Z (Z.DLawSame.F.ok scLawSame (fun vs H Q E h => (show False from h).elim) (fun cdv A outer s H vs Q E hr h => (show False from h).elim))
  | n + 1 => same_step Z (ok_same Z n)
end
end Q07
namespace Q07
open PySem PySem.Spec PyProof.Rows L2 SX HL DM
/-- what the law tells of a character that was inserted -/
def EntL (H : Hp) (x : V) (e : Ent) : Prop := ∃ t a bx, x = .ref t ∧ H t = some (.tup [a, bx, .str (S [e.2.2])]) ∧ MkAt H a e.1 ∧ OMk H bx e.2.1
theorem EntL.keep {H H' : Hp} {x : V} {e : Ent} (h : EntL H x e) (k : TupK H H') : EntL H' x e := by
  obtain ⟨t, a, bx, e1, ht, hm, hb⟩ := h
  exact ⟨t, a, bx, e1, k _ _ ht, hm.keep k, hb.keep k⟩
/-- .. and what the program tells -/
def EntP (H : Hp) (x : V) (e : Ent) : Prop := ∃ t a bx, x = .ref t ∧ H t = some (.tup [a, .str (S [e.2.2]), bx]) ∧ MkAt H a e.1 ∧ OMk H bx e.2.1
theorem EntP.keep {H H' : Hp} {x : V} {e : Ent} (h : EntP H x e) (k : TupK H H') : EntP H' x e := by
  obtain ⟨t, a, bx, e1, ht, hm, hb⟩ := h
  exact ⟨t, a, bx, e1, k _ _ ht, hm.keep k, hb.keep k⟩
section
variable {P : Program} {w : World} {K : PySem.W.Frag} {mg : Str → Option Value} {base : Heap}
def spIns (R : Hp → V → Ent → Prop) : Sp := fun vs H Q _ => ∃ (r : Nat) (dx : V) (m : List Nat) (rem : List Mark) (b : Option Mark) (n : Nat) (t : List Nat), vs = [vi r, dx] ∧ DeedAt H dx (.change m rem b n t) ∧ t.length ≤ 100 ∧
  ∀ H' l us, Same H H' → H l = none → H' l = some (.lst us) → All2 (R H') us (ins r n b t) → Q (.ref l) H'
theorem ok_linserted {k : Nat} (Z : Defs K mg) : FnOk P w K mg base CX0 (k + 1) Z.fLawInserted Z.fdLawInserted ["replica", "deed"] (spIns EntL) := by
  refine Z.DLawInserted.F.ok scLawInserted (fun vs H Q E h => ?_) (fun cdv A outer s H vs Q E hr h => ?_)
  · obtain ⟨r, dx, m, rem, b, n, t, rfl, _⟩ := h
    rfl
  · obtain ⟨r, dx, m, rem, b, n, t, rfl, hd, htl, qq⟩ := h
    refine ⟨_, (pss_cons (ps_set (i := 2) scLawInserted.nd rfl (.inl rfl) (pe_lst pa_nil))
        (pss_cons (ps_set (i := 3) scLawInserted.nd rfl (.inl rfl) (pe_ix ix_tup (pv 1) pe_int (fun _ _ => rfl)))
        (pss_cons (ps_for PassesOwn.never rfl (pi_range1 (by rfl) Z.range (pa_cons (pe_callB call_len_str (by rfl) Z.len PySem.boot_len (pa_cons (pe_ix ix_tup (pv 1) pe_int (fun _ _ => rfl)) pa_nil)) pa_nil)) (pg_name (i := 4) scLawInserted.nd rfl (.inl rfl)) (pss_cons (ps_expr (pe_bm PySem.F.plainAttrs_list PySem.F.slot_list_append PySem.F.type_list_append mt_append (pv 2) (pa_cons (pe_tup (pa_cons (pe_tup (pa_cons (pe_op op_add (pe_ix ix_tup (pv 1) pe_int (fun _ _ => rfl)) (pv 4)) (pa_cons (pv 0) pa_nil))) (pa_cons (pv 3) (pa_cons (pe_ix ix_str (pe_ix ix_tup (pv 1) pe_int (fun _ _ => rfl)) (pv 4) (fun _ _ => rfl)) pa_nil)))) pa_nil)))
        (pss_one (ps_set (i := 3) scLawInserted.nd rfl (.inl rfl) (pe_tup (pa_cons (pe_op op_add (pe_ix ix_tup (pv 1) pe_int (fun _ _ => rfl)) (pv 4)) (pa_cons (pv 0) pa_nil)))))))
        (pss_one (ps_ret (pv 2)))))), ?_⟩
    obtain ⟨td, tr, um, bx, rfl, htd, htr, hm, hb⟩ := hd
    have hn : H td = some (.tup [.str "change", .str (S m), .ref tr, bx, vi n, .str (S t)]) := htd
    refine ⟨Nat.zero_le _, fun l hl0 => ?_⟩
    have s0 : Same H (upd H l (.lst [])) := same_upd hl0
    refine ⟨_, rfl, td, _, 3, bx, rfl, rfl, SqT.of (s0 _ _ htd), rfl, ?_⟩
    have hsz : (S t).length ≤ sizeLine := by rw [S_len]; exact small _ (by omega)
    refine ⟨_, rfl, td, _, 5, _, rfl, rfl, SqT.of (s0 _ _ htd), rfl, _, rfl, hsz, (t.length : Int), by rw [S_len], by omega, by omega, ?_⟩
    refine for_range (lo := 0) (n := (t.length : Int).toNat) (fun i σ H' => ∃ (us : List V) (b' : V) (y4 : Option V), σ = [some (vi r), some (.ref td), some (.ref l), some b', y4] ∧ Same H H' ∧ H' l = some (.lst us) ∧ All2 (EntL H') us ((ins r n b t).take i) ∧ OMk H' b' (if i = 0 then b else some (n + i - 1, r)))
      ⟨[], bx, none, rfl, s0, upd_same, .nil, hb.keep (Same.tk s0)⟩ ?_ ?_
    · rintro i σ H1 hi ⟨us, b', y4, rfl, s1, hl1, hus, hb'⟩
      have hit : i < t.length := by omega
      have hg := ins_get r t n b i hit
      have hul : us.length ≤ 100 := by
        rw [hus.len, List.length_take, ins_len]
        omega
      refine ⟨_, rfl, .inl ⟨rfl, _, SqL.of hl1⟩, ?_⟩
      refine ⟨_, rfl, td, _, 4, _, rfl, rfl, SqT.of (s1 _ _ htd), rfl, _, rfl, _, _, rfl, rfl, _, rfl, (by show 2 ≤ sizeLine; decide), fun m1 hm1 => ?_⟩
      have e1 : (n : Int) + (0 + (i : Int)) = ((n + i : Nat) : Int) := by omega
      have g2 : upd H1 m1 (.tup [.int ((n : Int) + (0 + (i : Int))), vi r]) m1 = some (.tup [vi (n + i), vi r]) := by rw [upd_same, e1]; rfl
      have s2 : Same H1 (upd H1 m1 (.tup [.int ((n : Int) + (0 + (i : Int))), vi r])) := same_upd hm1
      generalize upd H1 m1 (.tup [.int ((n : Int) + (0 + (i : Int))), vi r]) = H2 at g2 s2
      have hgc : atI (S t).cps.toList (0 + (i : Int)) = some (t.getD i 0) := by
        rw [Int.zero_add]
        exact sign_at hit
      refine ⟨_, rfl, _, rfl, td, _, 5, _, rfl, rfl, SqT.of (s2 _ _ (s1 _ _ htd)), rfl, _, rfl, _, _, t.getD i 0, rfl, rfl, hsz, hgc, (by show 3 ≤ sizeLine; decide), fun t1 ht1 => ?_⟩
      have s3 : Same H2 (upd H2 t1 (.tup [.ref m1, b', .str (S [t.getD i 0])])) := same_upd ht1
      have g3 : upd H2 t1 (.tup [.ref m1, b', .str (S [t.getD i 0])]) t1 = some (.tup [.ref m1, b', .str (S [t.getD i 0])]) := upd_same
      generalize upd H2 t1 (.tup [.ref m1, b', .str (S [t.getD i 0])]) = H3 at g3 s3
      have l3 := s3 _ _ (s2 _ _ hl1)
      refine ⟨l, _, _, rfl, rfl, l3, Nat.lt_of_le_of_lt hul (by decide), ?_⟩
      have k4 : TupK H3 (upd H3 l (.lst (us ++ [.ref t1]))) := tk_upd fun xs e => by rw [l3] at e; cases e
      have k04 : TupK H1 (upd H3 l (.lst (us ++ [.ref t1]))) := (Same.tk (Same.tr s2 s3)).trans k4
      have sH4 : Same H (upd H3 l (.lst (us ++ [.ref t1]))) := fun z o hz => by
        rw [upd_ne (ne_of_none hz hl0)]
        exact s3 _ _ (s2 _ _ (s1 _ _ hz))
      have ent : EntL (upd H3 l (.lst (us ++ [.ref t1]))) (.ref t1) ((n + i, r), (if i = 0 then b else some (n + i - 1, r)), t.getD i 0) :=
        ⟨t1, .ref m1, b', rfl, k4 _ _ g3, ⟨m1, rfl, k4 _ _ (s3 _ _ g2)⟩, hb'.keep k04⟩
      have hus4 : All2 (EntL (upd H3 l (.lst (us ++ [.ref t1])))) (us ++ [.ref t1]) ((ins r n b t).take (i + 1)) := by
        rw [take_snoc hg]
        exact (hus.mono fun v e h => h.keep k04).snoc ent
      have l4 : upd H3 l (.lst (us ++ [.ref t1])) l = some (.lst (us ++ [.ref t1])) := upd_same
      generalize upd H3 l (.lst (us ++ [.ref t1])) = H4 at k4 k04 sH4 ent hus4 l4
      refine ⟨_, rfl, td, _, 4, _, rfl, rfl, SqT.of (sH4 _ _ htd), rfl, _, rfl, _, _, rfl, rfl, _, rfl, (by show 2 ≤ sizeLine; decide), fun m2 hm2 => ?_⟩
      have s5 : Same H4 (upd H4 m2 (.tup [.int ((n : Int) + (0 + (i : Int))), vi r])) := same_upd hm2
      refine ⟨_, _, _, rfl, Same.tr sH4 s5, s5 _ _ l4, hus4.mono fun v e h => h.keep (Same.tk s5), ?_⟩
      rw [if_neg (Nat.succ_ne_zero i)]
      have e2 : n + (i + 1) - 1 = n + i := by omega
      rw [e2]
      exact ⟨m2, rfl, by rw [upd_same]; exact congrArg (fun z => some (HO.tup [V.int z, vi r])) e1⟩
    · rintro σ H1 ⟨us, b', y4, rfl, s1, hl1, hus, hb'⟩
      have e : (t.length : Int).toNat = (ins r n b t).length := by rw [ins_len]; omega
      rw [e, List.take_of_length_le (Nat.le_refl _)] at hus
      exact ⟨_, rfl, qq H1 l us s1 hl0 hl1 hus⟩
/-! ### which deeds are in force -/
def spForces : Sp := fun vs H Q _ => ∃ (a : Addr) (us : List V) (row : List Deed), vs = [.ref a] ∧ H a = some (.lst us) ∧ All2 (DeedAt H) us row ∧ row.length ≤ 100 ∧ (∀ d ∈ row, DOk d) ∧
  ∀ H' l, Same H H' → H l = none → H' l = some (.lst ((forces row).map V.bl)) → Q (.ref l) H'
theorem fw_at {row : List Deed} {k : Nat} (hk : k ≤ row.length) {j : Nat} {b : Bool} (h : (fw row.length (row.reverse.take k) [])[j]? = some b) : j < k := by
  have := (List.getElem?_eq_some_iff.mp h).1
  rw [fw_len, List.length_take, List.length_reverse] at this
  omega
theorem ok_lforces {k : Nat} (Z : Defs K mg) : FnOk P w K mg base CX0 (k + 1) Z.fLawForces Z.fdLawForces ["row"] spForces := by
  refine Z.DLawForces.F.ok scLawForces (fun vs H Q E h => ?_) (fun cdv A outer s H vs Q E hr h => ?_)
  · obtain ⟨a, us, row, rfl, _⟩ := h
    rfl
  · obtain ⟨a, us, row, rfl, ha, hus, hl, hok, qq⟩ := h
    refine ⟨_, (pss_cons (ps_set (i := 1) scLawForces.nd rfl (.inr rfl) (pe_lst pa_nil))
        (pss_cons (ps_for PassesOwn.never rfl (pi_range1 (by rfl) Z.range (pa_cons (pe_callB call_len_seq (by rfl) Z.len PySem.boot_len (pa_cons (pv 0) pa_nil)) pa_nil)) (pg_name (i := 2) scLawForces.nd rfl (.inl rfl)) (pss_cons (ps_set (i := 3) scLawForces.nd rfl (.inr rfl) (pe_op op_sub (pe_callB call_len_seq (by rfl) Z.len PySem.boot_len (pa_cons (pv 0) pa_nil)) (pv 2)))
        (pss_cons (ps_setLc (i := 4) (own := [("j", 5)]) (g := (gName 5)) (by rfl) scLawForces.nd rfl rfl (sw_true rfl rfl rfl (by decide +kernel)) (pi_range1 (by rfl) Z.range (pa_cons (pe_callB (HX.call_len_seqK (K := K) rfl) (by rfl) Z.len PySem.boot_len (pa_cons (pv 1) pa_nil)) pa_nil)) (blkOk_by (own := [("j", 5)]) (N := ["row", "forces_v", "k", "place", "takers", "j"]) (sc := defScope sLawForces) (by decide +kernel)) (fun _ _ _ _ _ => (pg_name (i := 5) scLawForces.nd rfl (Or.inl rfl))) (fun _ _ _ _ _ => (pts_one (PW.pt (pw_and (pt_val (pe_ix (HL.ix_listK (K := K) rfl) (pv 1) (pv 5) (fun _ _ => rfl))) (pw_and1 (pt_cmpR (HX.op_eqDK (K := K) rfl hr.units) (pe_ix (HL.ix_listK (K := K) rfl) (pv 0) (pe_op op_sub (pe_op op_sub (pe_callB (HX.call_len_seqK (K := K) rfl) (by rfl) Z.len PySem.boot_len (pa_cons (pv 0) pa_nil)) pe_int) (pv 5)) (fun _ _ => rfl)) (pe_tup (pa_cons pe_str (pa_cons (pv 3) pa_nil))) (nomark _))))))) (fun _ _ _ _ _ => (pv 5)))
        (pss_one (ps_expr (pe_bm PySem.F.plainAttrs_list PySem.F.slot_list_append PySem.F.type_list_append mt_append (pv 1) (pa_cons (pe_cmpR op_eq (pe_callB call_len_seq (by rfl) Z.len PySem.boot_len (pa_cons (pv 4) pa_nil)) pe_int (nomark _)) pa_nil)))))))
        (pss_one (ps_ret (pe_lc (own := [("k", 2)]) (g := (gName 2)) (by rfl) scLawForces.nd (pi_range1 (by rfl) Z.range (pa_cons (pe_callB (HX.call_len_seqK (K := K) rfl) (by rfl) Z.len PySem.boot_len (pa_cons (pv 0) pa_nil)) pa_nil)) (blkOk_by (own := [("k", 2)]) (N := ["row", "forces_v", "k", "place", "takers", "j"]) (sc := defScope sLawForces) (by decide +kernel)) (fun _ _ _ _ _ => (pg_name (i := 2) scLawForces.nd rfl (Or.inl rfl))) (fun _ _ _ _ _ => pts_nil) (fun _ _ _ _ _ => (pe_ix (HL.ix_listK (K := K) rfl) (pv 1) (pe_op op_sub (pe_op op_sub (pe_callB (HX.call_len_seqK (K := K) rfl) (by rfl) Z.len PySem.boot_len (pa_cons (pv 0) pa_nil)) pe_int) (pv 2)) (fun _ _ => rfl)))))))), ?_⟩
    have hul := hus.len
    refine ⟨Nat.zero_le _, fun l hl0 => ?_⟩
    refine ⟨_, rfl, a, _, rfl, .inl (SqL.of (same_upd hl0 _ _ ha)), _, rfl, by omega, by omega, ?_⟩
    refine for_range (lo := 0) (n := (us.length : Int).toNat) (fun i σ H' => ∃ (y2 y3 y4 : Option V), σ = [some (.ref a), some (.ref l), y2, y3, y4, none] ∧ Same H H' ∧ H' l = some (.lst ((fw row.length (row.reverse.take i) []).map V.bl)))
      ⟨none, none, none, rfl, same_upd hl0, upd_same⟩ ?_ ?_
    · rintro i σ H1 hi ⟨y2, y3, y4, rfl, s1, h1⟩
      have hin : i < row.length := by omega
      have hfl : (fw row.length (row.reverse.take i) []).length = i := by rw [fw_len, List.length_take, List.length_reverse]; omega
      refine ⟨_, rfl, a, _, rfl, .inl (SqL.of (s1 _ _ ha)), _, rfl, _, _, rfl, rfl, ?_⟩
      have eP : (us.length : Int) - (0 + (i : Int)) = ((row.length - i : Nat) : Int) := by omega
      have vP : V.int ((us.length : Int) - (0 + (i : Int))) = vi (row.length - i) := congrArg V.int eP
      refine ⟨_, rfl, l, _, rfl, .inl (SqL.of h1), _, rfl, by omega, by rw [List.length_map, hfl]; omega, fun D hD => ?_⟩
      rw [List.length_map, hfl]
      refine lc_range (lo := 0) (n := (i : Int).toNat) (fun j H' => Same H1 H' ∧ H' D = some (.lst (((List.range j).filter fun z => (fw row.length (row.reverse.take i) []).getD z false && decide (row.reverse[z]? = some (.back (row.length - i)))).map vi))) ⟨same_upd hD, upd_same⟩ ?_ ?_
      · rintro j H2 hj ⟨s2, hD2⟩
        have hji : j < i := by omega
        obtain ⟨b, hb⟩ : ∃ b, (fw row.length (row.reverse.take i) [])[j]? = some b := ⟨_, List.getElem?_eq_getElem (by omega)⟩
        obtain ⟨d, hd⟩ : ∃ d, row.reverse[j]? = some d := ⟨_, List.getElem?_eq_getElem (by rw [List.length_reverse]; omega)⟩
        have hdr : row[row.length - 1 - j]? = some d := by
          rw [List.getElem?_reverse (by omega)] at hd
          exact hd
        obtain ⟨x, hx, hdx⟩ := hus.getR hdr
        have hdm : d ∈ row := List.mem_of_getElem? hdr
        have gb : atI ((fw row.length (row.reverse.take i) []).map V.bl) (0 + (j : Int)) = some (.bl b) := by
          rw [Int.zero_add]
          exact atI_nat (by rw [List.getElem?_map, hb]; rfl)
        have hgd : (fw row.length (row.reverse.take i) []).getD j false = b := by rw [List.getD_eq_getElem?_getD, hb]; rfl
        have e0 : (0 : Int) + (j : Int) = (j : Int) := Int.zero_add _
        have hrs : (List.range (j + 1)).filter (fun z => (fw row.length (row.reverse.take i) []).getD z false && decide (row.reverse[z]? = some (.back (row.length - i)))) =
            ((List.range j).filter fun z => (fw row.length (row.reverse.take i) []).getD z false && decide (row.reverse[z]? = some (.back (row.length - i)))) ++ (if (b && decide (d = .back (row.length - i))) = true then [j] else []) := by
          rw [List.range_succ, List.filter_append]
          congr 1
          rw [List.filter_cons, hgd, hd]
          simp
        refine ⟨rfl, _, rfl, _, rfl, l, _, _, _, rfl, rfl, SqL.of (s2 _ _ h1), gb, b, rfl, ?_⟩
        cases b with
        | false =>
          refine iteF ⟨s2, ?_⟩
          rw [hrs]
          simp
          exact hD2
        | true =>
          have gx : atI us ((us.length : Int) - 1 - (0 + (j : Int))) = some x := by
            have e2 : (us.length : Int) - 1 - (0 + (j : Int)) = ((row.length - 1 - j : Nat) : Int) := by omega
            rw [e2]
            exact atI_nat hx
          refine iteT ⟨_, rfl, _, rfl, a, _, rfl, .inl (SqL.of (s2 _ _ (s1 _ _ ha))), _, _, rfl, rfl, _, rfl, _, _, rfl, rfl, a, _, _, x, rfl, rfl, SqL.of (s2 _ _ (s1 _ _ ha)), gx, _, rfl, (by show 2 ≤ sizeLine; decide), fun t ht => ?_⟩
          have s3 : Same H2 (upd H2 t (.tup [.str "back", .int ((us.length : Int) - (0 + (i : Int)))])) := same_upd ht
          have g3 : DeedAt (upd H2 t (.tup [.str "back", .int ((us.length : Int) - (0 + (i : Int)))])) (.ref t) (.back (row.length - i)) := ⟨t, rfl, by rw [upd_same]; exact congrArg (fun z => some (HO.tup [.str "back", z])) vP⟩
          have d3 := hdx.keep (Same.tk (Same.tr s1 (Same.tr s2 s3)))
          generalize upd H2 t (.tup [.str "back", .int ((us.length : Int) - (0 + (i : Int)))]) = H3 at s3 g3 d3
          refine ⟨_, _, d3.dp, g3.dp, shaped_deed (hok d hdm), shaped_deed ⟨fun _ _ _ _ _ h => (by cases h)⟩, _, congrArg V.bl (eqv_back d _), ?_⟩
          have hD3 := s3 _ _ hD2
          have s13 := Same.tr s2 s3
          by_cases c : d = .back (row.length - i)
          · rw [decide_eq_true c]
            refine iteT ⟨_, rfl, _, hD3, ?_, fun z o hz => by rw [upd_ne (ne_of_none hz hD)]; exact s13 _ _ hz, ?_⟩
            · rw [List.length_map]
              refine Nat.lt_of_le_of_lt (List.length_filter_le ..) ?_
              rw [List.length_range]
              exact Nat.lt_of_le_of_lt (show j ≤ 100 by omega) (by decide)
            · rw [upd_same, hrs, List.map_append]
              simp only [Bool.true_and, decide_eq_true c, if_pos, List.map_cons, List.map_nil]
              exact congrArg (fun z => some (HO.lst (_ ++ [V.int z]))) e0
          · rw [decide_eq_false c]
            refine iteF ⟨s13, ?_⟩
            rw [hrs]
            simp [c]
            exact hD3
      · rintro H2 ⟨s2, hD2⟩
        have hki : (i : Int).toNat = i := by omega
        rw [hki] at hD2
        obtain ⟨d, hd⟩ : ∃ d, row.reverse[i]? = some d := ⟨_, List.getElem?_eq_getElem (by rw [List.length_reverse]; omega)⟩
        obtain ⟨hs1, _⟩ := fw_step row i d hd
        have htk := mem_tk (row.reverse.take i) row.length [] (row.length - i)
        have hlen0 : ((List.range i).filter fun z => (fw row.length (row.reverse.take i) []).getD z false && decide (row.reverse[z]? = some (.back (row.length - i)))).length = 0 ↔ ¬ (row.length - i) ∈ tk row.length (row.reverse.take i) [] := by
          rw [List.length_eq_zero_iff, List.filter_eq_nil_iff, htk]
          constructor
          · rintro h (h' | ⟨j, hj1, hj2⟩)
            · cases h'
            · have hji := fw_at (show i ≤ row.length by omega) hj1
              refine h j (List.mem_range.mpr hji) ?_
              rw [List.getElem?_take, if_pos hji] at hj2
              rw [List.getD_eq_getElem?_getD, hj1, hj2]
              simp
          · intro h j hj hP
            have hji := List.mem_range.mp hj
            rw [Bool.and_eq_true, decide_eq_true_eq] at hP
            refine h (.inr ⟨j, ?_, by rw [List.getElem?_take, if_pos hji]; exact hP.2⟩)
            have h5 := hP.1
            rw [List.getD_eq_getElem?_getD] at h5
            cases h6 : (fw row.length (row.reverse.take i) [])[j]? with
            | none => rw [h6] at h5; cases h5
            | some b => rw [h6] at h5; exact congrArg some h5
        refine ⟨_, rfl, .inl ⟨rfl, _, SqL.of (s2 _ _ h1)⟩, _, rfl, D, _, rfl, .inl (SqL.of hD2), rfl, l, _, _, rfl, rfl, s2 _ _ h1, ?_, ?_⟩
        · rw [List.length_map, hfl]
          exact Nat.lt_of_le_of_lt (show i ≤ 100 by omega) (by decide)
        · rw [List.length_map]
          refine ⟨_, _, _, rfl, fun z o hz => by rw [upd_ne (ne_of_none hz hl0)]; exact s2 _ _ (s1 _ _ hz), ?_⟩
          rw [upd_same, hs1, List.map_append]
          have hb : decide (V.int (((((List.range i).filter fun z => (fw row.length (row.reverse.take i) []).getD z false && decide (row.reverse[z]? = some (.back (row.length - i)))).length : Nat) : Int)) = V.int 0) = !decide ((row.length - i) ∈ tk row.length (row.reverse.take i) []) := by
            rw [← decide_not]
            refine decide_eq_decide.mpr (Iff.trans ?_ hlen0)
            constructor
            · intro h
              have := V.int.inj h
              omega
            · intro h
              rw [h]
              rfl
          exact congrArg (fun z => some (HO.lst (((fw row.length (row.reverse.take i) []).map V.bl) ++ [V.bl z]))) hb
    · rintro σ H1 ⟨y2, y3, y4, rfl, s1, h1⟩
      have e1 : (us.length : Int).toNat = row.length := by omega
      have hfw : fw row.length (row.reverse.take row.length) [] = fw row.length row.reverse [] := by
        rw [List.take_of_length_le (by rw [List.length_reverse]; exact Nat.le_refl _)]
      rw [e1, hfw] at h1
      have hfl : (fw row.length row.reverse []).length = row.length := by rw [fw_len, List.length_reverse]
      refine ⟨_, rfl, a, _, rfl, .inl (SqL.of (s1 _ _ ha)), _, rfl, by omega, by omega, fun D hD => ?_⟩
      refine lc_range (lo := 0) (n := (us.length : Int).toNat) (fun j H' => Same H1 H' ∧ H' D = some (.lst (((forces row).take j).map V.bl))) ⟨same_upd hD, upd_same⟩ ?_ ?_
      · rintro j H2 hj ⟨s2, hD2⟩
        obtain ⟨b, hb⟩ : ∃ b, (forces row)[j]? = some b := ⟨_, List.getElem?_eq_getElem (by rw [forces_len]; omega)⟩
        have hbr : (fw row.length row.reverse [])[row.length - 1 - j]? = some b := by
          rw [← hb]
          unfold forces
          rw [List.getElem?_reverse (by rw [hfl]; omega), hfl]
        have gx : atI ((fw row.length row.reverse []).map V.bl) ((us.length : Int) - 1 - (0 + (j : Int))) = some (.bl b) := by
          have e2 : (us.length : Int) - 1 - (0 + (j : Int)) = ((row.length - 1 - j : Nat) : Int) := by omega
          rw [e2]
          exact atI_nat (by rw [List.getElem?_map, hbr]; rfl)
        refine ⟨rfl, lc_yes ⟨_, rfl, _, rfl, a, _, rfl, .inl (SqL.of (s2 _ _ (s1 _ _ ha))), _, _, rfl, rfl, _, rfl, _, _, rfl, rfl, l, _, _, _, rfl, rfl, SqL.of (s2 _ _ h1), gx, _, hD2, ?_, fun z o hz => by rw [upd_ne (ne_of_none hz hD)]; exact s2 _ _ hz, ?_⟩⟩
        · rw [List.length_map, List.length_take]
          exact Nat.lt_of_le_of_lt (show _ ≤ 100 by omega) (by decide)
        · rw [upd_same, take_snoc hb, List.map_append]
          rfl
      · rintro H2 ⟨s2, hD2⟩
        rw [List.take_of_length_le (by rw [forces_len]; omega)] at hD2
        exact qq H2 D (Same.tr s1 s2) (Same.none s1 hD) hD2
end
end Q07
namespace Q07
open PySem PySem.Spec PyProof.Rows L2 SX HL DM
section
variable {P : Program} {w : World} {K : PySem.W.Frag} {mg : Str → Option Value} {base : Heap}
/-! ### forces of the program -/
def keysOf (ks : List Nat) : List (Key × V) := ks.map fun n : Nat => ((Sum.inl (n : Int) : Key), V.bl true)
theorem keys_in (ks : List Nat) (p : Nat) : (valV (keysOf ks) (.inl (p : Int))).isSome = decide (p ∈ ks) := by
  induction ks with
  | nil => rfl
  | cons k ks ih =>
    by_cases e : k = p
    · subst e
      have : valV (keysOf (k :: ks)) (.inl (k : Int)) = some (.bl true) := valV_pos rfl
      rw [this]
      simp
    · have h : ¬ ((Sum.inl (k : Int) : Key) = .inl (p : Int)) := fun z => e (by have := Sum.inl.inj z; omega)
      have : valV (keysOf (k :: ks)) (.inl (p : Int)) = valV (keysOf ks) (.inl (p : Int)) := valV_neg h
      rw [this, ih]
      have e' : ¬ p = k := fun z => e z.symm
      simp [e']
theorem keys_put (ks : List Nat) (n : Nat) : ∃ ks', putK (keysOf ks) (.inl (n : Int)) (.bl true) = keysOf ks' ∧ (∀ x, x ∈ ks' ↔ x = n ∨ x ∈ ks) ∧ ks'.length ≤ ks.length + 1 := by
  unfold putK
  by_cases h : ((keysOf ks).any fun kv => decide (kv.1 = Sum.inl (n : Int))) = true
  · rw [if_pos h]
    refine ⟨ks, ?_, fun x => ⟨.inr, ?_⟩, Nat.le_succ _⟩
    · unfold keysOf
      rw [List.map_map]
      refine List.map_congr_left fun k _ => ?_
      show (if (Sum.inl (k : Int) : Key) = .inl (n : Int) then _ else _) = _
      split <;> rfl
    · rintro (e | e)
      · obtain ⟨kv, hkv, hk⟩ := List.any_eq_true.mp h
        obtain ⟨m, hm, rfl⟩ := List.mem_map.mp hkv
        have := Sum.inl.inj (of_decide_eq_true hk)
        have : m = n := by omega
        rw [e, ← this]
        exact hm
      · exact e
  · rw [if_neg h]
    refine ⟨ks ++ [n], by unfold keysOf; rw [List.map_append]; rfl, fun x => ?_, by rw [List.length_append]; exact Nat.le_refl _⟩
    rw [List.mem_append, List.mem_singleton]
    exact Or.comm
theorem ok_forces {k : Nat} (Z : Defs K mg) : FnOk P w K mg base CX0 (k + 1) Z.fForces Z.fdForces ["deeds"] spForces := by
  refine Z.DForces.F.ok scForces (fun vs H Q E h => ?_) (fun cdv A outer s H vs Q E hr h => ?_)
  · obtain ⟨a, us, row, rfl, _⟩ := h
    rfl
  · obtain ⟨a, us, row, rfl, ha, hus, hl, hok, qq⟩ := h
    refine ⟨_, (pss_cons (ps_set (i := 1) scForces.nd rfl (.inl rfl) pe_dnewK)
        (pss_cons (ps_set (i := 2) scForces.nd rfl (.inl rfl) (pe_lst pa_nil))
        (pss_cons (ps_for PassesOwn.never rfl (pi_range3 (by rfl) Z.range (pa_cons (pe_callB call_len_seq (by rfl) Z.len PySem.boot_len (pa_cons (pv 0) pa_nil)) (pa_cons pe_int (pa_cons (pe_un un_neg pe_int) pa_nil)))) (pg_name (i := 3) scForces.nd rfl (.inl rfl)) (pss_cons (ps_set (i := 4) scForces.nd rfl (.inl rfl) (pe_cmp (pc_dnotin (hu_of hr) (pv 3) (pv 1)) rfl))
        (pss_cons (ps_expr (pe_bm PySem.F.plainAttrs_list PySem.F.slot_list_append PySem.F.type_list_append mt_append (pv 2) (pa_cons (pv 4) pa_nil)))
        (pss_cons (ps_set (i := 5) scForces.nd rfl (.inl rfl) (pe_ix ix_list (pv 0) (pe_op op_sub (pv 3) pe_int) (fun _ _ => rfl)))
        (pss_one (ps_if (PW.pt (pw_and (pt_val (pv 4)) (pw_and1 (pt_cmpR op_eq (pe_ix ix_tup (pv 5) pe_int (fun _ _ => rfl)) pe_str (nomark _))))) (pss_one (ps_dput (hu_of hr) (pv 1) (pe_ix ix_tup (pv 5) pe_int (fun _ _ => rfl)) pe_bl rfl)) pss_nil))))))
        (pss_one (ps_ret (HR.pe_revL (pv 2) (pe_un un_neg pe_int))))))), ?_⟩
    have hul := hus.len
    refine fun T hT => ⟨Nat.zero_le _, fun l hl0 => ?_⟩
    have aT := same_upd (o := .dK []) hT _ _ ha
    have a1 := same_upd (o := .lst []) hl0 _ _ aT
    have nTl : T ≠ l := ne_of_none upd_same hl0
    have hlH : H l = none := by
      cases e : H l with
      | none => rfl
      | some o => rw [same_upd hT _ _ e] at hl0; cases hl0
    refine ⟨_, rfl, a, _, rfl, .inl (SqL.of a1), 1, rfl, (us.length : Int), 0, -1, us.length, rfl, ?_, ?_⟩
    · have := RgC.neg (i := (us.length : Int)) (j := 0) (by omega) (by omega) (by decide) (by decide)
      have e : ((us.length : Int) - 0).toNat = us.length := by omega
      rwa [e] at this
    refine for_rangeC (lo := (us.length : Int)) (c := -1) (n := us.length) (fun i σ H' => ∃ (ks : List Nat) (y3 y4 y5 : Option V), σ = [some (.ref a), some (.ref T), some (.ref l), y3, y4, y5] ∧ Same H H' ∧ H' l = some (.lst ((fw row.length (row.reverse.take i) []).map V.bl)) ∧ H' T = some (.dK (keysOf ks)) ∧ ks.length ≤ i ∧
        ∀ x, x ∈ ks ↔ x ∈ tk row.length (row.reverse.take i) [])
      ⟨[], none, none, none, rfl, Same.tr (same_upd hT) (same_upd hl0), upd_same, by rw [upd_ne nTl]; exact upd_same, Nat.le_refl _, fun x => Iff.rfl⟩ ?_ ?_
    · rintro i σ H1 hi ⟨ks, y3, y4, y5, rfl, s1, h1, hT1, hks, hmem⟩
      have hin : i < row.length := by omega
      have hfl : (fw row.length (row.reverse.take i) []).length = i := by rw [fw_len, List.length_take, List.length_reverse]; omega
      obtain ⟨d, hd⟩ : ∃ d, row.reverse[i]? = some d := ⟨_, List.getElem?_eq_getElem (by rw [List.length_reverse]; omega)⟩
      have hdr : row[row.length - 1 - i]? = some d := by
        rw [List.getElem?_reverse (by omega)] at hd
        exact hd
      obtain ⟨x, hx, hdx⟩ := hus.getR hdr
      have hdm : d ∈ row := List.mem_of_getElem? hdr
      obtain ⟨hs1, hs2⟩ := fw_step row i d hd
      have eP : (us.length : Int) + (i : Int) * -1 = ((row.length - i : Nat) : Int) := by omega
      have vP : V.int ((us.length : Int) + (i : Int) * -1) = vi (row.length - i) := congrArg V.int eP
      have hin' := keys_in ks (row.length - i)
      have hb : decide ((row.length - i) ∈ ks) = decide ((row.length - i) ∈ tk row.length (row.reverse.take i) []) := decide_eq_decide.mpr (hmem _)
      rw [hb] at hin'
      generalize hB : decide ((row.length - i) ∈ tk row.length (row.reverse.take i) []) = B at hin' hs1 hs2
      refine ⟨_, rfl, _, rfl, T, valV (keysOf ks) (.inl ((row.length - i : Nat) : Int)), rfl, ?_, ?_⟩
      · have := DGet.k (k := Sum.inl ((row.length - i : Nat) : Int)) hT1
        rw [vP]
        exact this
      rw [hin']
      refine ⟨_, rfl, .inl ⟨rfl, _, SqL.of h1⟩, _, rfl, l, _, _, rfl, rfl, h1, ?_, ?_⟩
      · rw [List.length_map, hfl]
        exact Nat.lt_of_le_of_lt (show i ≤ 100 by omega) (by decide)
      have s2 : Same H (upd H1 l (.lst ((fw row.length (row.reverse.take i) []).map V.bl ++ [.bl (!B)]))) := fun z o hz => by rw [upd_ne (ne_of_none hz hlH)]; exact s1 _ _ hz
      have g2 : upd H1 l (.lst ((fw row.length (row.reverse.take i) []).map V.bl ++ [.bl (!B)])) l = some (.lst ((fw row.length (row.reverse.take (i + 1)) []).map V.bl)) := by
        rw [upd_same, hs1, List.map_append]
        rfl
      have gT : upd H1 l (.lst ((fw row.length (row.reverse.take i) []).map V.bl ++ [.bl (!B)])) T = some (.dK (keysOf ks)) := by rw [upd_ne nTl]; exact hT1
      generalize upd H1 l (.lst ((fw row.length (row.reverse.take i) []).map V.bl ++ [.bl (!B)])) = H2 at s2 g2 gT
      have gx : atI us ((us.length : Int) + (i : Int) * -1 - 1) = some x := by
        have e2 : (us.length : Int) + (i : Int) * -1 - 1 = ((row.length - 1 - i : Nat) : Int) := by omega
        rw [e2]
        exact atI_nat hx
      refine ⟨_, rfl, _, rfl, _, _, rfl, rfl, a, _, _, x, rfl, rfl, SqL.of (s2 _ _ ha), gx, ?_⟩
      have d2 := hdx.keep (Same.tk s2)
      have fin0 : (∀ n, d = .back n → B = true) → ∃ (ks : List Nat) (y3 y4 y5 : Option V), [some (V.ref a), some (.ref T), some (.ref l), some (V.int ((us.length : Int) + (i : Int) * -1)), some (V.bl (!B)), some x] = [some (.ref a), some (.ref T), some (.ref l), y3, y4, y5] ∧ Same H H2 ∧ H2 l = some (.lst ((fw row.length (row.reverse.take (i + 1)) []).map V.bl)) ∧ H2 T = some (.dK (keysOf ks)) ∧ ks.length ≤ i + 1 ∧
          ∀ x, x ∈ ks ↔ x ∈ tk row.length (row.reverse.take (i + 1)) [] := fun hno => by
        refine ⟨ks, _, _, _, rfl, s2, g2, gT, by omega, fun z => ?_⟩
        rw [hmem, hs2]
        cases d with
        | change => exact Iff.rfl
        | back n =>
          rw [hno n rfl]
          exact Iff.rfl
      refine ⟨_, rfl, !B, rfl, ?_⟩
      cases B with
      | true => exact iteF (fin0 fun _ _ => rfl)
      | false =>
        cases d with
        | change m rem b n t =>
          obtain ⟨td, tr, um, bx, rfl, htd, _⟩ := d2
          exact iteT ⟨_, rfl, td, _, 0, _, rfl, rfl, SqT.of htd, rfl, rfl, _, rfl, iteF (fin0 fun _ h => by cases h)⟩
        | back n =>
          obtain ⟨td, rfl, htd⟩ := d2
          obtain ⟨ks', e1, e2, e3⟩ := keys_put ks n
          refine iteT ⟨_, rfl, td, _, 0, _, rfl, rfl, SqT.of htd, rfl, rfl, _, rfl, iteT ?_⟩
          refine ⟨_, rfl, _, rfl, td, _, 1, _, rfl, rfl, SqT.of htd, rfl, T, _, rfl, DPut.k (k := Sum.inl (n : Int)) gT ?_, ?_⟩
          · unfold keysOf
            rw [List.length_map]
            exact Nat.lt_of_le_of_lt (show ks.length ≤ 100 by omega) (by decide)
          rw [e1]
          refine ⟨ks', _, _, _, rfl, fun z o hz => by rw [upd_ne (ne_of_none hz hT)]; exact s2 _ _ hz, by rw [upd_ne nTl.symm]; exact g2, upd_same, by omega, fun z => ?_⟩
          rw [e2, hs2, hmem]
          exact List.mem_cons.symm
    · rintro σ H1 ⟨ks, y3, y4, y5, rfl, s1, h1, hT1, hks, hmem⟩
      have hfw : fw row.length (row.reverse.take us.length) [] = fw row.length row.reverse [] := by
        rw [List.take_of_length_le (by rw [List.length_reverse]; omega)]
      rw [hfw] at h1
      refine ⟨_, rfl, 1, rfl, rfl, l, _, rfl, SqL.of h1, fun p hp => ?_⟩
      have e : (((fw row.length row.reverse []).map V.bl).reverse) = (forces row).map V.bl := by
        unfold forces
        rw [List.map_reverse]
      rw [e]
      exact qq _ p (Same.tr s1 (same_upd hp)) (Same.none s1 hp) upd_same
end
end Q07
namespace Q07
open PySem PySem.Spec PyProof.Rows L2 SX HL DM
section
variable {P : Program} {w : World} {K : PySem.W.Frag} {mg : Str → Option Value} {base : Heap}
/-! ### inserted of the program -/
theorem ok_inserted {k : Nat} (Z : Defs K mg) : FnOk P w K mg base CX0 (k + 1) Z.fInserted Z.fdInserted ["replica", "deed"] (spIns EntP) := by
  refine Z.DInserted.F.ok scInserted (fun vs H Q E h => ?_) (fun cdv A outer s H vs Q E hr h => ?_)
  · obtain ⟨r, dx, m, rem, b, n, t, rfl, _⟩ := h
    rfl
  · obtain ⟨r, dx, m, rem, b, n, t, rfl, hd, htl, qq⟩ := h
    refine ⟨_, (pss_cons (ps_asg (pv 1) (pg_tup rfl (pgs_cons (pg_name (i := 2) scInserted.nd rfl (.inl rfl)) (pgs_cons (pg_name (i := 2) scInserted.nd rfl (.inl rfl)) (pgs_cons (pg_name (i := 2) scInserted.nd rfl (.inl rfl)) (pgs_cons (pg_name (i := 3) scInserted.nd rfl (.inl rfl)) (pgs_cons (pg_name (i := 4) scInserted.nd rfl (.inl rfl)) (pgs_cons (pg_name (i := 5) scInserted.nd rfl (.inl rfl)) pgs_nil))))))))
        (pss_cons (ps_set (i := 6) scInserted.nd rfl (.inl rfl) (pe_lst pa_nil))
        (pss_cons (ps_for PassesOwn.never rfl (HE.pi_enumS (by rfl) Z.enumerate (pa_cons (pv 5) pa_nil)) (pg_tup rfl (pgs_cons (pg_name (i := 7) scInserted.nd rfl (.inl rfl)) (pgs_cons (pg_name (i := 8) scInserted.nd rfl (.inl rfl)) pgs_nil))) (pss_cons (ps_set (i := 9) scInserted.nd rfl (.inl rfl) (pe_tup (pa_cons (pe_op op_add (pv 4) (pv 7)) (pa_cons (pv 0) pa_nil))))
        (pss_cons (ps_expr (pe_bm PySem.F.plainAttrs_list PySem.F.slot_list_append PySem.F.type_list_append mt_append (pv 6) (pa_cons (pe_tup (pa_cons (pv 9) (pa_cons (pv 8) (pa_cons (pv 3) pa_nil)))) pa_nil)))
        (pss_one (ps_set (i := 3) scInserted.nd rfl (.inl rfl) (pv 9))))))
        (pss_one (ps_ret (pv 6)))))), ?_⟩
    obtain ⟨td, tr, um, bx, rfl, htd, htr, hm, hb⟩ := hd
    refine ⟨_, rfl, td, _, rfl, SqT.of htd, rfl, _, _, rfl, _, _, rfl, _, _, rfl, _, _, rfl, _, _, rfl, _, _, rfl, rfl, ?_⟩
    refine ⟨Nat.zero_le _, fun l hl0 => ?_⟩
    have s0 : Same H (upd H l (.lst [])) := same_upd hl0
    have hsz : (S t).cps.size = t.length := by simp [S]
    refine ⟨_, rfl, S t, rfl, ?_⟩
    refine for_it HE.walk_enumS (fun i σ H' => ∃ (us : List V) (b' : V) (y7 y8 y9 : Option V), σ = [some (vi r), some (.ref td), some (.ref tr), some b', some (vi n), some (.str (S t)), some (.ref l), y7, y8, y9] ∧ Same H H' ∧ H' l = some (.lst us) ∧ All2 (EntP H') us ((ins r n b t).take i) ∧ OMk H' b' (if i = 0 then b else some (n + i - 1, r)))
      ⟨[], bx, none, none, none, rfl, s0, upd_same, .nil, hb.keep (Same.tk s0)⟩ (fun _ _ _ _ _ => True.intro) ?_ ?_
    · rintro i x σ H1 H1' hi ⟨us, b', y7, y8, y9, rfl, s1, hl1, hus, hb'⟩ ⟨T, x1, x2, rfl, hT, rfl, e1, e2⟩
      obtain rfl : V.int (i : Nat) = x1 := Option.some.inj e1
      have hit : i < t.length := by omega
      have hg := ins_get r t n b i hit
      have hgc : (S t).cps[i]? = some (t.getD i 0) := by
        show t.toArray[i]? = _
        rw [List.getElem?_toArray, List.getD_eq_getElem?_getD, List.getElem?_eq_getElem hit]
        rfl
      have e2 : (S t).cps[i]?.map (fun c => V.str ⟨#[c]⟩) = some x2 := e2
      rw [hgc] at e2
      obtain rfl : V.str (S [t.getD i 0]) = x2 := Option.some.inj e2
      have sT : Same H1 (upd H1 T (.tup [.int (i : Nat), .str (S [t.getD i 0])])) := same_upd hT
      have gT : upd H1 T (.tup [.int (i : Nat), .str (S [t.getD i 0])]) T = some (.tup [.int (i : Nat), .str (S [t.getD i 0])]) := upd_same
      have s1T := Same.tr s1 sT
      have hl2 := sT _ _ hl1
      have hus2 := hus.mono fun v e h => h.keep (Same.tk sT)
      have hb2 := hb'.keep (Same.tk sT)
      generalize upd H1 T (.tup [.int (i : Nat), .str (S [t.getD i 0])]) = H2 at gT s1T hl2 hus2 hb2
      have hul : us.length ≤ 100 := by
        rw [hus.len, List.length_take, ins_len]
        omega
      refine ⟨T, _, rfl, SqT.of gT, rfl, _, _, rfl, _, _, rfl, rfl, ?_⟩
      refine ⟨_, rfl, _, rfl, _, _, rfl, rfl, _, rfl, (by show 2 ≤ sizeLine; decide), fun m1 hm1 => ?_⟩
      have g2 : upd H2 m1 (.tup [.int ((n : Int) + ((i : Nat) : Int)), vi r]) m1 = some (.tup [vi (n + i), vi r]) := by rw [upd_same]; rfl
      have s2 : Same H2 (upd H2 m1 (.tup [.int ((n : Int) + ((i : Nat) : Int)), vi r])) := same_upd hm1
      have l3 := s2 _ _ hl2
      generalize upd H2 m1 (.tup [.int ((n : Int) + ((i : Nat) : Int)), vi r]) = H3 at g2 s2 l3
      refine ⟨_, rfl, .inl ⟨rfl, _, SqL.of l3⟩, _, rfl, _, rfl, _, rfl, (by show 3 ≤ sizeLine; decide), fun t1 ht1 => ?_⟩
      have s3 : Same H3 (upd H3 t1 (.tup [.ref m1, .str (S [t.getD i 0]), b'])) := same_upd ht1
      have g3 : upd H3 t1 (.tup [.ref m1, .str (S [t.getD i 0]), b']) t1 = some (.tup [.ref m1, .str (S [t.getD i 0]), b']) := upd_same
      generalize upd H3 t1 (.tup [.ref m1, .str (S [t.getD i 0]), b']) = H4 at g3 s3
      have l4 := s3 _ _ l3
      refine ⟨l, _, _, rfl, rfl, l4, Nat.lt_of_le_of_lt hul (by decide), ?_⟩
      have k4 : TupK H4 (upd H4 l (.lst (us ++ [.ref t1]))) := tk_upd fun xs e => by rw [l4] at e; cases e
      have k24 : TupK H2 (upd H4 l (.lst (us ++ [.ref t1]))) := (Same.tk (Same.tr s2 s3)).trans k4
      have sH4 : Same H (upd H4 l (.lst (us ++ [.ref t1]))) := fun z o hz => by
        rw [upd_ne (ne_of_none hz hl0)]
        exact s3 _ _ (s2 _ _ (s1T _ _ hz))
      refine ⟨_, rfl, us ++ [.ref t1], .ref m1, _, _, _, rfl, sH4, upd_same, ?_, ?_⟩
      · rw [take_snoc hg]
        exact (hus2.mono fun v e h => h.keep k24).snoc ⟨t1, .ref m1, b', rfl, k4 _ _ g3, ⟨m1, rfl, k4 _ _ (s3 _ _ g2)⟩, hb2.keep k24⟩
      · rw [if_neg (Nat.succ_ne_zero i)]
        have e2 : n + (i + 1) - 1 = n + i := by omega
        rw [e2]
        exact ⟨m1, rfl, k4 _ _ (s3 _ _ g2)⟩
    · rintro σ H1 ⟨us, b', y7, y8, y9, rfl, s1, hl1, hus, hb'⟩
      have e : (S t).cps.size = (ins r n b t).length := by rw [ins_len, hsz]
      rw [e, List.take_of_length_le (Nat.le_refl _)] at hus
      exact ⟨_, rfl, qq H1 l us s1 hl0 hl1 hus⟩
/-! ### the changes of a module -/
def ChgAt (H : Hp) (x : V) (c : Chg) : Prop := ∃ t dx, x = .ref t ∧ H t = some (.tup [vi c.1, dx, .bl c.2.2]) ∧ DeedAt H dx c.2.1
theorem ChgAt.keep {H H' : Hp} {x : V} {c : Chg} (h : ChgAt H x c) (k : TupK H H') : ChgAt H' x c := by
  obtain ⟨t, dx, e, ht, hd⟩ := h
  exact ⟨t, dx, e, k _ _ ht, hd.keep k⟩
def spChanges : Sp := fun vs H Q _ => ∃ (A : Addr) (rs : List Addr) (rows : Rows) (m : List Nat), vs = [.ref A, .str (S m)] ∧ RowsAt H A rs rows ∧ Few rows ∧
  ∀ H' l us, Same H H' → H l = none → H' l = some (.lst us) → All2 (ChgAt H') us (changes rows m) → Q (.ref l) H'
theorem str_eq (a b : List Nat) : decide (V.str (S a) = V.str (S b)) = decide (a = b) := by
  refine decide_eq_decide.mpr ⟨fun h => S_inj (V.str.inj h), fun h => by rw [h]⟩
theorem ok_lchanges {k : Nat} (Z : Defs K mg) : FnOk P w K mg base CX0 (k + 2) Z.fLawChanges Z.fdLawChanges ["rows", "module"] spChanges := by
  have GLawForces : FnOk P w K mg base CX0 (k + 1) Z.fLawForces Z.fdLawForces ["row"] spForces := ok_lforces Z
  refine Z.DLawChanges.F.ok scLawChanges (fun vs H Q E h => ?_) (fun cdv A outer s H vs Q E hr h => ?_)
  · obtain ⟨A, rs, rows, m, rfl, _⟩ := h
    rfl
  · obtain ⟨A0, rs, rows, m, rfl, R, hF, qq⟩ := h
    refine ⟨_, (pss_cons (ps_set (i := 2) scLawChanges.nd rfl (.inl rfl) (pe_lst pa_nil))
        (pss_cons (ps_for PassesOwn.never rfl (pi_range1 (by rfl) Z.range (pa_cons pe_int pa_nil)) (pg_name (i := 3) scLawChanges.nd rfl (.inl rfl)) (pss_cons (ps_set (i := 4) scLawChanges.nd rfl (.inl rfl) (pe_call GLawForces (hr.mono (by omega)) (by rfl) Z.DLawForces.g Z.DLawForces.F.kp Z.DLawForces.b .nil pass0 (pa_cons (pe_ix ix_list (pv 0) (pv 3) (fun _ _ => rfl)) pa_nil)))
        (pss_one (ps_for PassesOwn.never rfl (pi_range1 (by rfl) Z.range (pa_cons (pe_callB call_len_seq (by rfl) Z.len PySem.boot_len (pa_cons (pe_ix ix_list (pv 0) (pv 3) (fun _ _ => rfl)) pa_nil)) pa_nil)) (pg_name (i := 5) scLawChanges.nd rfl (.inl rfl)) (pss_one (ps_if (PW.pt (pw_and (pt_cmpR op_eq (pe_ix ix_tup (pe_ix ix_list (pe_ix ix_list (pv 0) (pv 3) (fun _ _ => rfl)) (pv 5) (fun _ _ => rfl)) pe_int (fun _ _ => rfl)) pe_str (nomark _)) (pw_and1 (pt_cmpR op_eq (pe_ix ix_tup (pe_ix ix_list (pe_ix ix_list (pv 0) (pv 3) (fun _ _ => rfl)) (pv 5) (fun _ _ => rfl)) pe_int (fun _ _ => rfl)) (pv 1) (nomark _))))) (pss_one (ps_expr (pe_bm PySem.F.plainAttrs_list PySem.F.slot_list_append PySem.F.type_list_append mt_append (pv 2) (pa_cons (pe_tup (pa_cons (pv 3) (pa_cons (pe_ix ix_list (pe_ix ix_list (pv 0) (pv 3) (fun _ _ => rfl)) (pv 5) (fun _ _ => rfl)) (pa_cons (pe_ix ix_list (pv 4) (pv 5) (fun _ _ => rfl)) pa_nil)))) pa_nil)))) pss_nil))))))
        (pss_one (ps_ret (pv 2))))), ?_⟩
    refine ⟨Nat.zero_le _, fun l hl0 => ⟨8, rfl, by decide, by decide, ?_⟩⟩
    refine for_range (lo := 0) (n := 8) (fun r σ H' => ∃ (us : List V) (y3 y4 y5 : Option V), σ = [some (.ref A0), some (.str (S m)), some (.ref l), y3, y4, y5] ∧ Same H H' ∧ H' l = some (.lst us) ∧ All2 (ChgAt H') us ((List.range r).flatMap (chR rows m)))
      ⟨[], none, none, none, rfl, same_upd hl0, upd_same, .nil⟩ ?_ ?_
    · rintro r σ H1 hr8 ⟨us, y3, y4, y5, rfl, s1, hl1, hus⟩
      obtain ⟨ra, ur, hra, hrv, hru, hrd⟩ := R.get hr8
      obtain ⟨hF1, hF2⟩ := hF r hr8
      have gR : atI (rs.map V.ref) (0 + (r : Int)) = some (.ref ra) := by rw [Int.zero_add]; exact atI_nat hrv
      have hur := hrd.len
      have r1 := s1 _ _ hru
      refine ⟨_, rfl, _, rfl, A0, _, _, _, rfl, rfl, SqL.of (s1 _ _ R.h), gR, ra, ur, rows r, rfl, r1, hrd.mono fun v d h => h.keep (Same.tk s1), hF1, hF2, fun H2 fl s2 hfl0 hfl => ?_⟩
      have s12 := Same.tr s1 s2
      refine ⟨_, rfl, _, rfl, A0, _, _, _, rfl, rfl, SqL.of (s12 _ _ R.h), gR, ra, _, rfl, .inl (SqL.of (s12 _ _ hru)), _, rfl, by omega, by omega, ?_⟩
      refine for_range (lo := 0) (n := (ur.length : Int).toNat) (fun i σ H' => ∃ (us : List V) (y5 : Option V), σ = [some (.ref A0), some (.str (S m)), some (.ref l), some (.int (0 + (r : Int))), some (.ref fl), y5] ∧ Same H H' ∧ H' l = some (.lst us) ∧ H' fl = some (.lst ((forces (rows r)).map V.bl)) ∧ fl ≠ l ∧
          All2 (ChgAt H') us ((List.range r).flatMap (chR rows m) ++ ((((rows r).zip (forces (rows r))).take i).filter fun df => isCh m df.1).map fun df => (r, df.1, df.2)))
        ⟨us, _, rfl, s12, s2 _ _ hl1, hfl, (fun e => by rw [e, hl1] at hfl0; cases hfl0), by simpa using hus.mono fun v c h => h.keep (Same.tk s2)⟩ ?_ ?_
      · clear hus hl1 hfl0 hfl s12 s2 r1 s1
        rintro i σ H3 hi ⟨us, y5, rfl, s3, hl3, hfl, nfl, hus⟩
        have hi' : i < (rows r).length := by omega
        obtain ⟨d, hd⟩ : ∃ d, (rows r)[i]? = some d := ⟨_, List.getElem?_eq_getElem hi'⟩
        obtain ⟨b, hb⟩ : ∃ b, (forces (rows r))[i]? = some b := ⟨_, List.getElem?_eq_getElem (by rw [forces_len]; exact hi')⟩
        obtain ⟨x, hx, hdx⟩ := hrd.getR hd
        have hz : ((rows r).zip (forces (rows r)))[i]? = some (d, b) := by rw [List.getElem?_zip_eq_some]; exact ⟨hd, hb⟩
        have d3 := hdx.keep (Same.tk s3)
        have gx : atI ur (0 + (i : Int)) = some x := by rw [Int.zero_add]; exact atI_nat hx
        have gb : atI ((forces (rows r)).map V.bl) (0 + (i : Int)) = some (.bl b) := by rw [Int.zero_add]; exact atI_nat (by rw [List.getElem?_map, hb]; rfl)
        have hno : isCh m d = false → ∃ (us : List V) (y5 : Option V), [some (V.ref A0), some (.str (S m)), some (.ref l), some (V.int (0 + (r : Int))), some (.ref fl), some (V.int (0 + (i : Int)))] = [some (.ref A0), some (.str (S m)), some (.ref l), some (.int (0 + (r : Int))), some (.ref fl), y5] ∧ Same H H3 ∧ H3 l = some (.lst us) ∧ H3 fl = some (.lst ((forces (rows r)).map V.bl)) ∧ fl ≠ l ∧
            All2 (ChgAt H3) us ((List.range r).flatMap (chR rows m) ++ ((((rows r).zip (forces (rows r))).take (i + 1)).filter fun df => isCh m df.1).map fun df => (r, df.1, df.2)) := fun hm => by
          refine ⟨us, _, rfl, s3, hl3, hfl, nfl, ?_⟩
          rw [take_snoc hz, List.filter_append]
          have : ([(d, b)].filter fun df : Deed × Bool => isCh m df.1) = [] := by simp [hm]
          rw [this, List.append_nil]
          exact hus
        refine ⟨_, rfl, _, rfl, A0, _, _, _, rfl, rfl, SqL.of (s3 _ _ R.h), gR, _, rfl, ra, _, _, _, rfl, rfl, SqL.of (s3 _ _ hru), gx, ?_⟩
        cases d with
        | back n =>
          obtain ⟨td, rfl, htd⟩ := d3
          exact ⟨td, _, 0, _, rfl, rfl, SqT.of htd, rfl, rfl, _, rfl, iteF (hno rfl)⟩
        | change m' rem b' n t =>
          have d3' := d3
          obtain ⟨td, tr, um, bx, rfl, htd, _⟩ := d3
          refine ⟨td, _, 0, _, rfl, rfl, SqT.of htd, rfl, rfl, _, rfl, iteT ?_⟩
          refine ⟨_, rfl, _, rfl, A0, _, _, _, rfl, rfl, SqL.of (s3 _ _ R.h), gR, _, rfl, ra, _, _, _, rfl, rfl, SqL.of (s3 _ _ hru), gx, td, _, 1, _, rfl, rfl, SqT.of htd, rfl, _, rfl, rfl, decide (m' = m), congrArg V.bl (str_eq m' m), ?_⟩
          by_cases c : m' = m
          · rw [decide_eq_true c]
            have hul : us.length ≤ 900 := by
              rw [hus.len, List.length_append, List.length_map]
              have h1 := List.length_filter_le (fun df : Deed × Bool => isCh m df.1) (((rows r).zip (forces (rows r))).take i)
              rw [List.length_take] at h1
              have h2 := flat_len (l := List.range r) (f := chR rows m) (k := 100) fun r' hr' => by
                unfold chR
                rw [List.length_map]
                refine Nat.le_trans (List.length_filter_le ..) ?_
                rw [List.length_zip, forces_len, Nat.min_self]
                exact (hF r' (by have := List.mem_range.mp hr'; omega)).1
              rw [List.length_range] at h2
              omega
            refine iteT ⟨_, rfl, .inl ⟨rfl, _, SqL.of hl3⟩, _, rfl, _, rfl, _, rfl, A0, _, _, _, rfl, rfl, SqL.of (s3 _ _ R.h), gR, _, rfl, ra, _, _, _, rfl, rfl, SqL.of (s3 _ _ hru), gx, _, rfl, _, rfl, fl, _, _, _, rfl, rfl, SqL.of hfl, gb, (by show 3 ≤ sizeLine; decide), fun t1 ht1 => ?_⟩
            have e0 : (0 : Int) + (r : Int) = (r : Int) := Int.zero_add _
            have s4 : Same H3 (upd H3 t1 (.tup [.int (0 + (r : Int)), .ref td, .bl b])) := same_upd ht1
            have g4 : upd H3 t1 (.tup [.int (0 + (r : Int)), .ref td, .bl b]) t1 = some (.tup [vi r, .ref td, .bl b]) := by rw [upd_same]; exact congrArg (fun z => some (HO.tup [V.int z, .ref td, .bl b])) e0
            generalize upd H3 t1 (.tup [.int (0 + (r : Int)), .ref td, .bl b]) = H4 at s4 g4
            have l4 := s4 _ _ hl3
            refine ⟨l, _, _, rfl, rfl, l4, Nat.lt_of_le_of_lt hul (by decide), ?_⟩
            have k5 : TupK H4 (upd H4 l (.lst (us ++ [.ref t1]))) := tk_upd fun xs e => by rw [l4] at e; cases e
            have k35 := (Same.tk s4).trans k5
            refine ⟨us ++ [.ref t1], _, rfl, fun z o hz => by rw [upd_ne (ne_of_none hz hl0)]; exact s4 _ _ (s3 _ _ hz), upd_same, by rw [upd_ne nfl]; exact s4 _ _ hfl, nfl, ?_⟩
            rw [take_snoc hz, List.filter_append]
            have : ([(Deed.change m' rem b' n t, b)].filter fun df : Deed × Bool => isCh m df.1) = [(Deed.change m' rem b' n t, b)] := by simp [isCh, c]
            rw [this, List.map_append, ← List.append_assoc]
            exact (hus.mono fun v c h => h.keep k35).snoc ⟨t1, .ref td, rfl, k5 _ _ g4, d3'.keep k35⟩
          · rw [decide_eq_false c]
            exact iteF (hno (by simp [isCh, c]))
      · rintro σ H3 ⟨us, y5, rfl, s3, hl3, hfl, nfl, hus⟩
        refine ⟨us, _, _, _, rfl, s3, hl3, ?_⟩
        have e : (ur.length : Int).toNat = ((rows r).zip (forces (rows r))).length := by rw [List.length_zip, forces_len, Nat.min_self]; omega
        rw [e, List.take_of_length_le (Nat.le_refl _)] at hus
        rw [List.range_succ, List.flatMap_append, List.flatMap_singleton]
        exact hus
    · rintro σ H1 ⟨us, y3, y4, y5, rfl, s1, hl1, hus⟩
      exact ⟨_, rfl, qq H1 l us s1 hl0 hl1 hus⟩
end
end Q07
namespace Q07
open PySem PySem.Spec PyProof.Rows L2 SX HL DM
section
variable {P : Program} {w : World} {K : PySem.W.Frag} {mg : Str → Option Value} {base : Heap}
/-! ### the row of a module -/
def TC (Pc : Addr) : Hp → Prop := LamX.Tabs [(Pc, "_law_row.<locals>.<lambda>")]
theorem tc_keep {Pc : Addr} {H H' : Hp} (h : TC Pc H) (s : Same H H') : TC Pc H' := LamX.Tabs.ext h s
def spRow (T : Hp → Prop) : Sp := fun vs H Q _ => ∃ (A : Addr) (rs : List Addr) (rows : Rows) (m : List Nat), vs = [.ref A, .str (S m)] ∧ RowsAt H A rs rows ∧ Few rows ∧ Good rows ∧ T H ∧
  ∀ H' l us es, LamX.ExtN H H' → T H' → H' l = some (.lst us) → Srt rows m es → All2 (CelP H') us (build (removed rows m) es) → Q (.ref l) H'
theorem ok_lrow {k : Nat} {Pc : Addr} (Z : Defs K mg) (TBc : LamX.TabB base mg Z.cO Pc) : FnOk P w K mg base CX0 (k + 4) Z.fLawRow Z.fdLawRow ["rows", "module"] (spRow (TC Pc)) := by
  have GLawChanges : FnOk P w K mg base CX0 (k + 2) Z.fLawChanges Z.fdLawChanges ["rows", "module"] spChanges := ok_lchanges Z
  have GLawInserted : FnOk P w K mg base CX0 (k + 1) Z.fLawInserted Z.fdLawInserted ["replica", "deed"] (spIns EntL) := ok_linserted Z
  refine Z.DLawRow.ok scLawRow (fun vs H Q E h => ?_) (fun A outer s H vs Q E hr h => ?_)
  · obtain ⟨A, rs, rows, m, rfl, _⟩ := h
    rfl
  · obtain ⟨A0, rs, rows, m, rfl, R, hF, hG, hT, qq⟩ := h
    refine ⟨_, (pss_cons (ps_set (i := 2) scLawRow.nd rfl (.inl rfl) (pe_lst pa_nil))
        (pss_cons (ps_set (i := 3) scLawRow.nd rfl (.inl rfl) (pe_lst pa_nil))
        (pss_cons (ps_for PassesOwn.never rfl (pi_list (pe_call GLawChanges (hr.mono (by omega)) (by rfl) Z.DLawChanges.g Z.DLawChanges.F.kp Z.DLawChanges.b .nil pass0 (pa_cons (pv 0) (pa_cons (pv 1) pa_nil)))) (pg_tup rfl (pgs_cons (pg_name (i := 4) scLawRow.nd rfl (.inl rfl)) (pgs_cons (pg_name (i := 5) scLawRow.nd rfl (.inl rfl)) (pgs_cons (pg_name (i := 6) scLawRow.nd rfl (.inl rfl)) pgs_nil)))) (pss_cons (ps_for PassesOwn.never rfl (pi_list (pe_call GLawInserted (hr.mono (by omega)) (by rfl) Z.DLawInserted.g Z.DLawInserted.F.kp Z.DLawInserted.b .nil pass0 (pa_cons (pv 4) (pa_cons (pv 5) pa_nil)))) (pg_tup rfl (pgs_cons (pg_name (i := 7) scLawRow.nd rfl (.inl rfl)) (pgs_cons (pg_name (i := 8) scLawRow.nd rfl (.inl rfl)) (pgs_cons (pg_name (i := 9) scLawRow.nd rfl (.inl rfl)) pgs_nil)))) (pss_one (ps_expr (pe_bm PySem.F.plainAttrs_list PySem.F.slot_list_append PySem.F.type_list_append mt_append (pv 3) (pa_cons (pe_tup (pa_cons (pv 7) (pa_cons (pv 8) (pa_cons (pv 9) (pa_cons (pv 6) pa_nil))))) pa_nil)))))
        (pss_one (ps_if (pt_val (pv 6)) (pss_one (ps_set (i := 2) scLawRow.nd rfl (.inl rfl) (pe_op op_cat (pv 2) (pe_callTy call_list_of (by rfl) Z.list HL.boot_list (pa_cons (pe_ix ix_tup (pv 5) pe_int (fun _ _ => rfl)) pa_nil))))) pss_nil))))
        (pss_cons (ps_set (i := 10) scLawRow.nd rfl (.inl rfl) (pe_lst pa_nil))
        (pss_cons (ps_for PassesOwn.never rfl (pi_list (HS.pe_sortLam (k := 0) (y := "each") (Nl := ["each"]) (T := [(Pc, "_law_row.<locals>.<lambda>")]) (by rfl) Z.sorted PyProof.Rows.boot_sorted (pa_cons (pv 3) pa_nil) (fun b hb => ⟨fun z => hb (by rw [z]; exact List.mem_cons_self ..), fun z => hb (List.mem_cons_of_mem _ z)⟩) TBc rfl (List.mem_singleton.mpr rfl) (fun p hp _ => by rw [List.mem_singleton.mp hp]; rfl) (hr.mono (by omega)) ⟨rfl, rfl, rfl, by decide +kernel, rfl, by decide +kernel, by decide +kernel⟩ rfl rfl (fun _ _ _ _ _ => rfl) (fun A outer s H f c' hr => (pe_ix (HL.ix_tupK (K := K) rfl) (pv 0) pe_int (fun _ _ => rfl))))) (pg_tup rfl (pgs_cons (pg_name (i := 7) scLawRow.nd rfl (.inl rfl)) (pgs_cons (pg_name (i := 8) scLawRow.nd rfl (.inl rfl)) (pgs_cons (pg_name (i := 9) scLawRow.nd rfl (.inl rfl)) (pgs_cons (pg_name (i := 6) scLawRow.nd rfl (.inl rfl)) pgs_nil))))) (pss_cons (ps_set (i := 11) scLawRow.nd rfl (.inl rfl) pe_int)
        (C8.pss_cut (ps_if (pt_cmp (pc_notN (pv 8))) (pss_one (ps_set (i := 11) scLawRow.nd rfl (.inl rfl) (pe_op op_add (pe_bm PySem.F.plainAttrs_list PySem.F.slot_list_index PySem.F.type_list_index (mt_indexD (DM.hu65 hr)) (pe_lc (own := [("each", 12)]) (g := (gName 12)) (by rfl) scLawRow.nd (pi_list (pv 10)) (blkOk_by (own := [("each", 12)]) (N := ["rows", "module", "removed", "found", "replica", "deed", "force", "mark", "behind", "char", "row", "at", "each"]) (sc := defScope sLawRow) (by decide +kernel)) (fun _ _ _ _ _ => (pg_name (i := 12) scLawRow.nd rfl (Or.inl rfl))) (fun _ _ _ _ _ => pts_nil) (fun _ _ _ _ _ => (pe_ix (HL.ix_tupK (K := K) rfl) (pv 12) pe_int (fun _ _ => rfl)))) (pa_cons (pv 8) pa_nil)) pe_int))) pss_nil)
        (pss_one (ps_expr (pe_bm PySem.F.plainAttrs_list PySem.F.slot_list_insert PySem.F.type_list_insert mt_insert (pv 10) (pa_cons (pv 11) (pa_cons (pe_tup (pa_cons (pv 7) (pa_cons (pv 9) (pa_cons (pe_and (pv 6) (pe_one (pe_cmpR (HX.op_notInDK (K := K) rfl (DM.hu65 hr)) (pv 7) (pv 2) rfl))) pa_nil)))) pa_nil))))))))
        (pss_one (ps_ret (pv 10)))))))), ?_⟩
    refine ⟨Nat.zero_le _, fun rl hrl0 => ⟨Nat.zero_le _, fun fl hfl0 => ?_⟩⟩
    have s2 : Same H (upd (upd H rl (.lst [])) fl (.lst [])) := Same.tr (same_upd hrl0) (same_upd hfl0)
    have hrl2 : upd (upd H rl (.lst [])) fl (.lst []) rl = some (.lst []) := same_upd hfl0 _ _ upd_same
    have hfl2 : upd (upd H rl (.lst [])) fl (.lst []) fl = some (.lst []) := upd_same
    have hflH : H fl = none := by
      cases e : H fl with
      | none => rfl
      | some o => rw [same_upd hrl0 _ _ e] at hfl0; cases hfl0
    have hrl0' : upd H rl (.lst []) rl = some (.lst []) := upd_same
    generalize upd (upd H rl (.lst [])) fl (.lst []) = H2 at s2 hrl2 hfl2
    refine ⟨_, rfl, _, rfl, A0, rs, rows, m, rfl, R.keep s2, hF, fun H3 cl cus s23 hcl2 hcl hcu => ?_⟩
    refine ⟨cl, rfl, ⟨_, SqL.of hcl⟩, ?_⟩
    have hclf : cl ≠ fl := fun e => by rw [e, hfl2] at hcl2; cases hcl2
    refine for_it walk_list (fun i σ H' => ∃ (ra : Addr) (rus fus : List V) (y4 y5 y6 y7 y8 y9 : Option V), σ = [some (.ref A0), some (.str (S m)), some (.ref ra), some (.ref fl), y4, y5, y6, y7, y8, y9, none, none, none] ∧ ButL fl H3 H' ∧ ra ≠ fl ∧ H' ra = some (.lst rus) ∧ All2 (MkAt H') rus (((changes rows m).take i).flatMap remF) ∧ H' fl = some (.lst fus) ∧ All2 (EntFP H') fus (((changes rows m).take i).flatMap entF))
      ⟨rl, [], [], none, none, none, none, none, none, rfl, ButL.refl, (fun e => by rw [← e, hrl0'] at hfl0; cases hfl0), s23 _ _ hrl2, .nil, s23 _ _ hfl2, .nil⟩ (fun i σ H' _ ⟨_, _, _, _, _, _, _, _, _, _, b, _⟩ => SqL.of (b _ _ hcl hclf)) ?_ ?_
    · rintro i x σ H4' H4 hi ⟨ra, rus, fus, y4, y5, y6, y7, y8, y9, rfl, b4, hrf, hra, hrus, hfl4, hfus⟩ ⟨rfl, hx⟩
      obtain ⟨c, hc, hcx⟩ := hcu.get hx
      obtain ⟨hc8, hcd, hcm⟩ := mem_changes (List.mem_of_getElem? hc)
      obtain ⟨r, d, f⟩ := c
      have hdok := (hF r hc8).2 d hcd
      cases d with
      | back n => cases hcm
      | change m' rem b n t =>
        obtain ⟨_, _, _, hxl, htl⟩ := hdok.m _ _ _ _ _ rfl
        have kk := b4.tk (s23 _ _ hfl2)
        obtain ⟨tc, dx, rfl, htc, hdx⟩ := hcx.keep kk
        refine ⟨tc, _, rfl, SqT.of htc, rfl, _, _, rfl, _, _, rfl, _, _, rfl, rfl, ?_⟩
        refine ⟨_, rfl, _, rfl, r, dx, m', rem, b, n, t, rfl, hdx, htl, fun H5 il ius s45 hil4 hil hius => ?_⟩
        have hilf : il ≠ fl := fun e => by rw [e, hfl4] at hil4; cases hil4
        refine ⟨il, rfl, ⟨_, SqL.of hil⟩, ?_⟩
        refine for_it walk_list (fun j σ H' => ∃ (fus : List V) (y7 y8 y9 : Option V), σ = [some (.ref A0), some (.str (S m)), some (.ref ra), some (.ref fl), some (vi r), some dx, some (.bl f), y7, y8, y9, none, none, none] ∧ ButL fl H5 H' ∧ H' fl = some (.lst fus) ∧ All2 (EntFP H') fus (((changes rows m).take i).flatMap entF ++ ((ins r n b t).take j).map (toF f)))
          ⟨fus, y7, y8, y9, rfl, ButL.refl, s45 _ _ hfl4, by simpa using hfus.mono fun v e h => h.keep (Same.tk s45)⟩ (fun j σ H' _ ⟨_, _, _, _, _, b, _⟩ => SqL.of (b _ _ hil hilf)) ?_ ?_
        · rintro j x σ H6' H6 hj ⟨fus, y7, y8, y9, rfl, b6, hfl6, hfus⟩ ⟨rfl, hx⟩
          obtain ⟨e, he, hex⟩ := hius.get hx
          have k6 := b6.tk (s45 _ _ hfl4)
          obtain ⟨te, a, bx, rfl, hte, hma, hmb⟩ := hex.keep k6
          refine ⟨te, _, rfl, SqT.of hte, rfl, _, _, rfl, _, _, rfl, _, _, rfl, rfl, ?_⟩
          refine ⟨_, rfl, .inl ⟨rfl, _, SqL.of hfl6⟩, _, rfl, _, rfl, _, rfl, _, rfl, (by show 4 ≤ sizeLine; decide), fun t1 ht1 => ?_⟩
          have s7 : Same H6 (upd H6 t1 (.tup [a, bx, .str (S [e.2.2]), .bl f])) := same_upd ht1
          have g7 : upd H6 t1 (.tup [a, bx, .str (S [e.2.2]), .bl f]) t1 = some (.tup [a, bx, .str (S [e.2.2]), .bl f]) := upd_same
          generalize upd H6 t1 (.tup [a, bx, .str (S [e.2.2]), .bl f]) = H7 at s7 g7
          have hfl7 := s7 _ _ hfl6
          refine ⟨fl, _, _, rfl, rfl, hfl7, ?_, ?_⟩
          · have h1 := hfus.len
            have h2 := pre_len entF (changes rows m) i
            have h3 := found_len hF m
            unfold found at h3
            rw [List.length_append, List.length_map, List.length_take, ins_len] at h1
            have : 801000 ≤ sizeLine := by decide
            omega
          · have b8 : ButL fl H7 (upd H7 fl (.lst (fus ++ [.ref t1]))) := ButL.upd
            have k8 := b8.tk hfl7
            have k68 := (Same.tk s7).trans k8
            refine ⟨fus ++ [.ref t1], _, _, _, rfl, (b6.trans (Same.but s7)).trans b8, upd_same, ?_⟩
            rw [take_snoc he, List.map_append, ← List.append_assoc]
            exact (hfus.mono fun v e h => h.keep k68).snoc ⟨t1, a, bx, rfl, k8 _ _ g7, hma.keep k68, hmb.keep k68⟩
        · rintro σ H6 ⟨fus, y7, y8, y9, rfl, b6, hfl6, hfus⟩
          have hil : ius.length = (ins r n b t).length := hius.len
          rw [hil, List.take_length] at hfus
          have k6 := b6.tk (s45 _ _ hfl4)
          have hra6 := b6 _ _ (s45 _ _ hra) hrf
          have hrus6 := hrus.mono fun v e h => (h.keep (Same.tk s45)).keep k6
          have e1 : ((changes rows m).take (i + 1)).flatMap entF = ((changes rows m).take i).flatMap entF ++ (ins r n b t).map (toF f) := flat_take hc
          have e2 : ((changes rows m).take (i + 1)).flatMap remF = ((changes rows m).take i).flatMap remF ++ remF (r, .change m' rem b n t, f) := flat_take hc
          cases f with
          | false =>
            refine ⟨_, rfl, _, rfl, iteF ?_⟩
            have e3 : remF (r, .change m' rem b n t, false) = [] := rfl
            rw [e3, List.append_nil] at e2
            refine ⟨ra, rus, fus, _, _, _, _, _, _, rfl, (b4.trans (Same.but s45)).trans b6, hrf, hra6, by rw [e2]; exact hrus6, hfl6, by rw [e1]; exact hfus⟩
          | true =>
            obtain ⟨td, tr, um, bx, rfl, htd, htr, hm, hb⟩ := (hdx.keep (Same.tk s45)).keep k6
            refine ⟨_, rfl, _, rfl, iteT ?_⟩
            refine ⟨_, rfl, _, rfl, td, _, 2, .ref tr, rfl, rfl, SqT.of htd, rfl, tr, um, rfl, .inr (SqT.of htr), fun nl hnl => ?_⟩
            have s7 : Same H6 (upd H6 nl (.lst um)) := same_upd hnl
            have g7 : upd H6 nl (.lst um) nl = some (.lst um) := upd_same
            generalize upd H6 nl (.lst um) = H7 at s7 g7
            refine ⟨ra, nl, rus, um, rfl, rfl, s7 _ _ hra6, g7, ?_, fun p hp => ?_⟩
            · have h1 := hrus.len
              have h2 := pre_len remF (changes rows m) i
              have h3 := removed_len hF m
              rw [removed_eq] at h3
              have h4 := hm.len
              have h5 := pre_len remF (changes rows m) (i + 1)
              have e3 : remF (r, .change m' rem b n t, true) = rem := rfl
              rw [e2, e3, List.length_append] at h5
              have : 801000 ≤ sizeLine := by decide
              omega
            · have s8 : Same H7 (upd H7 p (.lst (rus ++ um))) := same_upd hp
              have k68 := Same.tk (Same.tr s7 s8)
              have e3 : remF (r, .change m' rem b n t, true) = rem := rfl
              rw [e3] at e2
              refine ⟨p, rus ++ um, fus, _, _, _, _, _, _, rfl, ((b4.trans (Same.but s45)).trans b6).trans (Same.but (Same.tr s7 s8)), (fun e => by rw [e, s7 _ _ hfl6] at hp; cases hp), upd_same, by rw [e2]; exact all2_app (hrus6.mono fun v e h => h.keep k68) (hm.mono fun v e h => h.keep k68), s8 _ _ (s7 _ _ hfl6), by rw [e1]; exact hfus.mono fun v e h => h.keep k68⟩
    · rintro σ H4 ⟨ra, rus, fus, y4, y5, y6, y7, y8, y9, rfl, b4, hrf, hra, hrus, hfl4, hfus⟩
      have hcl := hcu.len
      rw [hcl, List.take_length] at hrus hfus
      have kk := b4.tk (s23 _ _ hfl2)
      have s04 : Same H H4 := b4.same hflH (Same.tr s2 s23)
      have e1 : (changes rows m).flatMap entF = found rows m := rfl
      rw [e1] at hfus
      rw [← removed_eq] at hrus
      clear b4 kk hcu hcl hcl2
      refine ⟨Nat.zero_le _, fun l hl0 => ?_⟩
      have s5 : Same H4 (upd H4 l (.lst [])) := same_upd hl0
      have hl5 : upd H4 l (.lst []) l = some (.lst []) := upd_same
      have hlH : H l = none := by
        cases e : H l with
        | none => rfl
        | some o => rw [s04 _ _ e] at hl0; cases hl0
      generalize upd H4 l (.lst []) = H5 at s5 hl5
      have hfl5 := s5 _ _ hfl4
      have hra5 := s5 _ _ hra
      have hfus5 := hfus.mono fun v e h => h.keep (Same.tk s5)
      have hrus5 := hrus.mono fun v e h => h.keep (Same.tk s5)
      refine ⟨_, rfl, fl, fus, (found rows m).map (fun e => mD e.1), fun _ => True, rfl, SqL.of hfl5, fun a ha b hb => ?_, .inl fun a ha => ?_, by rw [List.length_map]; exact hfus.len.symm, fun a ha => ?_, tc_keep (tc_keep hT s04) s5, fun H6 eN T6 => ⟨True.intro, fun i v dk H' hv hdk eH _ => ?_, fun H7 p eH _ hp => ?_⟩⟩
      · obtain ⟨x, _, rfl⟩ := List.mem_map.mp ha
        obtain ⟨y, _, rfl⟩ := List.mem_map.mp hb
        exact mD_alike ..
      · obtain ⟨x, _, rfl⟩ := List.mem_map.mp ha
        exact ⟨_, _, rfl⟩
      · obtain ⟨x, _, rfl⟩ := List.mem_map.mp ha
        simp [mD, di, PyData.depth, PyData.depthAll]
      · obtain ⟨e, he, hx⟩ := hfus5.get hv
        rw [List.getElem?_map, he] at hdk
        cases hdk
        obtain ⟨t, xm, xb, rfl, ht, hm, _⟩ := hx.keep ((extN_tk eN).trans fun a o h => eH _ _ h)
        exact ⟨_, rfl, t, _, 0, xm, rfl, rfl, SqT.of ht, rfl, MkAt.dp hm, fun _ _ h => h, True.intro⟩
      · obtain ⟨zs, zp, ze, zo⟩ := byKey_rows (found rows m) fus (fun e => mD e.1)
        rw [ze]
        have hS := srt_of hG hfus.len zp zo
        have k7 : TupK H5 H7 := (extN_tk eN).trans fun a o h => eH _ _ h
        have hall : All2 (EntFP H7) (zs.map (·.2)) (zs.map (·.1)) := all2_of_zip fun z hz => all2_zip (hfus5.mono fun v e h => h.keep k7) z (zp.mem_iff.mp hz)
        have s8 : Same H7 (upd H7 p (.lst (zs.map fun z => z.2))) := same_upd hp
        have g8 : upd H7 p (.lst (zs.map fun z => z.2)) p = some (.lst (zs.map fun z => z.2)) := upd_same
        have hl7 := eH _ _ (eN _ _ hl5 fun ps z => nomatch z)
        have hra7 := eH _ _ (eN _ _ hra5 fun ps z => nomatch z)
        have eN7 : LamX.ExtN H H7 := fun a o h hn => eH _ _ (eN _ _ (s5 _ _ (s04 _ _ h)) hn)
        have T7 : TC Pc H7 := LamX.Tabs.ext T6 eH
        have hrus7 := hrus5.mono fun v e h => h.keep k7
        have npl : p ≠ l := fun e => by rw [e, hl7] at hp; cases hp
        have nral : ra ≠ l := fun e => by rw [e, hl0] at hra; cases hra
        generalize upd H7 p (.lst (zs.map fun z => z.2)) = H8 at s8 g8
        have hl8 := s8 _ _ hl7
        have hra8 := s8 _ _ hra7
        generalize hes : zs.map (fun z => z.1) = es at hS hall
        generalize zs.map (fun z => z.2) = vs at hall g8
        have hesl : es.length ≤ 80000 := by
          rw [hS.perm.length_eq]
          exact found_len hF m
        refine ⟨p, rfl, ⟨_, SqL.of g8⟩, ?_⟩
        refine for_it walk_list (fun i σ H' => ∃ (us : List V) (y4 y5 y6 y7 y8 y9 y11 : Option V), σ = [some (.ref A0), some (.str (S m)), some (.ref ra), some (.ref fl), y4, y5, y6, y7, y8, y9, some (.ref l), y11, none] ∧ ButL l H8 H' ∧ H' l = some (.lst us) ∧ All2 (CelP H') us (build (removed rows m) (es.take i)))
          ⟨[], _, _, _, _, _, _, none, rfl, ButL.refl, hl8, .nil⟩ (fun i σ H' _ ⟨_, _, _, _, _, _, _, _, _, b, _⟩ => SqL.of (b _ _ g8 npl)) ?_ ?_
        · rintro i x σ H9' H9 hi ⟨us, y4, y5, y6, y7, y8, y9, y11, rfl, b9, hl9, hus⟩ ⟨rfl, hx⟩
          obtain ⟨e, he, hex⟩ := hall.get hx
          have k89 := b9.tk hl8
          obtain ⟨te, xm, xb, rfl, hte, hxm, hxb⟩ := (hex.keep (Same.tk s8)).keep k89
          have hbl := build_len (removed rows m) hG hS (i := i) (by rw [← hall.len]; omega)
          have hbp := (build_perm hG hS (removed rows m) i (by rw [← hall.len]; omega)).2 e he
          refine ⟨te, _, rfl, SqT.of hte, rfl, _, _, rfl, _, _, rfl, _, _, rfl, _, _, rfl, rfl, ?_⟩
          have hrus9 := (hrus7.mono fun v e h => h.keep (Same.tk s8)).mono fun v e h => h.keep k89
          have hul : us.length ≤ 80000 := by
            rw [hus.len, hbl]
            have := hall.len
            omega
          have hsl : slot e.2.1 (build (removed rows m) (es.take i)) ≤ 80000 := by
            have := slot_le hbp
            have := hus.len
            omega
          have hsz : 801000 ≤ sizeLine := by decide
          refine ⟨fun σ' H' => σ' = [some (.ref A0), some (.str (S m)), some (.ref ra), some (.ref fl), y4, y5, some (.bl e.2.2.2), some xm, some xb, some (.str (S [e.2.2.1])), some (.ref l), some (.int (slot e.2.1 (build (removed rows m) (es.take i)) : Nat)), none] ∧ Same H9 H', ?_, ?_⟩
          · cases hb : e.2.1 with
            | none =>
              rw [hb] at hxb
              obtain rfl : xb = .non := hxb
              exact ⟨_, rfl, _, rfl, iteF ⟨rfl, fun _ _ h => h⟩⟩
            | some xb' =>
              rw [hb] at hxb
              obtain ⟨tb, rfl, htb⟩ : MkAt H9 xb xb' := hxb
              refine ⟨_, rfl, _, rfl, iteT ?_⟩
              refine ⟨_, rfl, l, rfl, ⟨_, SqL.of hl9⟩, fun D hD => ?_⟩
              have hDl : l ≠ D := fun z => by rw [z, hD] at hl9; cases hl9
              refine lc_list (K := K) (xs := us) (fun j H' => Same H9 H' ∧ ∃ acc, H' D = some (.lst acc) ∧ All2 (MkAt H') acc (((build (removed rows m) (es.take i)).take j).map (·.1)))
                ⟨same_upd hD, [], upd_same, .nil⟩ (fun j H' _ q => SqL.of (q.1 _ _ hl9)) ?_ ?_
              · rintro j x H' hx ⟨s', acc, hD', hacc⟩
                obtain ⟨c, hc, hcx⟩ := hus.get hx
                obtain ⟨tc, xc, rfl, htc, hxc⟩ := hcx.keep (Same.tk s')
                have hal : acc.length ≤ 80000 := by
                  have := hacc.len
                  have h2 := hus.len
                  rw [List.length_map, List.length_take] at this
                  omega
                refine ⟨rfl, lc_yes ⟨_, rfl, tc, _, 0, xc, rfl, rfl, SqT.of htc, rfl, acc, hD', by omega, ?_, acc ++ [xc], upd_same, ?_⟩⟩
                · exact fun z o hz => by rw [upd_ne (ne_of_none hz hD)]; exact s' _ _ hz
                · have kD : TupK H' (upd H' D (.lst (acc ++ [xc]))) := tk_upd fun xs e => by rw [hD'] at e; cases e
                  rw [take_snoc hc, List.map_append]
                  exact (hacc.mono fun v e h => h.keep kD).snoc (hxc.keep kD)
              · rintro H' ⟨s', acc, hD', hacc⟩
                have hx := hbp xb' hb
                have hlt := List.idxOf_lt_length_of_mem hx
                rw [hus.len, List.take_length] at hacc
                have hgj : (((build (removed rows m) (es.take i)).map (·.1)).map mD)[((build (removed rows m) (es.take i)).map (·.1)).idxOf xb']? = some (mD xb') := by
                  rw [List.getElem?_map, List.getElem?_eq_getElem hlt, List.getElem_idxOf hlt]
                  rfl
                refine ⟨.inl ⟨rfl, _, SqL.of hD'⟩, _, rfl, D, .ref tb, mD xb', ((build (removed rows m) (es.take i)).map (·.1)).map mD, ((build (removed rows m) (es.take i)).map (·.1)).idxOf xb', mD xb', rfl, rfl, .lst (SqL.of hD') (dpAll_of (fun x a h => MkAt.dp h) hacc), MkAt.dp ⟨tb, rfl, s' _ _ htb⟩, shaped_marks _, shaped_mark _, hgj, by rw [eqv_mark]; exact decide_eq_true rfl, fun k z hk hz => ?_, ?_⟩
                · rw [List.getElem?_map] at hz
                  cases hy : ((build (removed rows m) (es.take i)).map (·.1))[k]? with
                  | none => rw [hy] at hz; cases hz
                  | some y =>
                    rw [hy] at hz
                    cases hz
                    rw [eqv_mark]
                    exact decide_eq_false (idx_none hk hy)
                · exact ⟨_, 1, rfl, rfl, rfl, s'⟩
          · rintro σ H10 ⟨rfl, s10⟩
            have hl10 := s10 _ _ hl9
            have hrus10 := hrus9.mono fun v e h => h.keep (Same.tk s10)
            refine ⟨_, rfl, .inl ⟨rfl, _, SqL.of hl10⟩, _, rfl, _, rfl, _, rfl, _, rfl, e.2.2.2, rfl, ?_⟩
            cases hf : e.2.2.2 with
            | false =>
              refine iteF ⟨(by show 3 ≤ sizeLine; decide), fun t1 ht1 => ?_⟩
              have s11 : Same H10 (upd H10 t1 (.tup [xm, .str (S [e.2.2.1]), .bl false])) := same_upd ht1
              have g11 : upd H10 t1 (.tup [xm, .str (S [e.2.2.1]), .bl false]) t1 = some (.tup [xm, .str (S [e.2.2.1]), .bl false]) := upd_same
              generalize upd H10 t1 (.tup [xm, .str (S [e.2.2.1]), .bl false]) = H11 at s11 g11
              have hl11 := s11 _ _ hl10
              have b12 : ButL l H11 (upd H11 l (.lst (us.take (slot e.2.1 (build (removed rows m) (es.take i))) ++ [.ref t1] ++ us.drop (slot e.2.1 (build (removed rows m) (es.take i)))))) := ButL.upd
              have k12 := b12.tk hl11
              refine ⟨l, us, _, _, rfl, rfl, hl11, by omega, by omega, by omega, us.take (slot e.2.1 (build (removed rows m) (es.take i))) ++ [.ref t1] ++ us.drop (slot e.2.1 (build (removed rows m) (es.take i))), _, _, _, _, _, _, _, rfl, (b9.trans (Same.but (Same.tr s10 s11))).trans b12, upd_same, ?_⟩
              exact put_step he hus (((Same.tk s10).trans (Same.tk s11)).trans k12) hbp (by rw [hf]; rfl) (k12 _ _ g11) ((hxm.keep (Same.tk (Same.tr s10 s11))).keep k12)
            | true =>
              refine iteT ⟨_, rfl, _, rfl, mD e.1, (removed rows m).map mD, MkAt.dp (hxm.keep (Same.tk s10)), .lst (SqL.of (s10 _ _ (b9 _ _ hra8 nral))) (dpAll_of (fun x a h => MkAt.dp h) hrus10), shaped_mark _, shaped_marks _, ?_⟩
              rw [any_eqv]
              refine ⟨(by show 3 ≤ sizeLine; decide), fun t1 ht1 => ?_⟩
              have s11 : Same H10 (upd H10 t1 (.tup [xm, .str (S [e.2.2.1]), .bl (!decide (e.1 ∈ removed rows m))])) := same_upd ht1
              have g11 : upd H10 t1 (.tup [xm, .str (S [e.2.2.1]), .bl (!decide (e.1 ∈ removed rows m))]) t1 = some (.tup [xm, .str (S [e.2.2.1]), .bl (!decide (e.1 ∈ removed rows m))]) := upd_same
              generalize upd H10 t1 (.tup [xm, .str (S [e.2.2.1]), .bl (!decide (e.1 ∈ removed rows m))]) = H11 at s11 g11
              have hl11 := s11 _ _ hl10
              have b12 : ButL l H11 (upd H11 l (.lst (us.take (slot e.2.1 (build (removed rows m) (es.take i))) ++ [.ref t1] ++ us.drop (slot e.2.1 (build (removed rows m) (es.take i)))))) := ButL.upd
              have k12 := b12.tk hl11
              refine ⟨l, us, _, _, rfl, rfl, hl11, by omega, by omega, by omega, us.take (slot e.2.1 (build (removed rows m) (es.take i))) ++ [.ref t1] ++ us.drop (slot e.2.1 (build (removed rows m) (es.take i))), _, _, _, _, _, _, _, rfl, (b9.trans (Same.but (Same.tr s10 s11))).trans b12, upd_same, ?_⟩
              exact put_step he hus (((Same.tk s10).trans (Same.tk s11)).trans k12) hbp (by rw [hf]; rfl) (k12 _ _ g11) ((hxm.keep (Same.tk (Same.tr s10 s11))).keep k12)
        · rintro σ H9 ⟨us, y4, y5, y6, y7, y8, y9, y11, rfl, b9, hl9, hus⟩
          rw [hall.len, List.take_length] at hus
          have k89 := b9.tk hl8
          refine ⟨_, rfl, qq H9 l us es (fun a o h hn => b9 _ _ (s8 _ _ (eN7 _ _ h hn)) (ne_of_none h hlH)) (tabs_but (LamX.Tabs.ext T7 s8) hl8 b9) hl9 hS hus⟩
end
end Q07
namespace Q07
open PySem PySem.Spec PyProof.Rows L2 SX HL DM
section
variable {P : Program} {w : World} {K : PySem.W.Frag} {mg : Str → Option Value} {base : Heap}
/-! ### _law_last -/
/-- the greatest end of the changes -/
def LastIs (R : Rows) (n : Nat) : Prop := ∀ k, n ≤ k ↔ ∀ r, r < 8 → ∀ d ∈ R r, endD d ≤ k
def spLast : Sp := fun vs H Q _ => ∃ (A : Addr) (rs : List Addr) (rows : Rows), vs = [.ref A] ∧ RowsAt H A rs rows ∧ Few rows ∧ ∀ n : Nat, LastIs rows n → Q (vi n) H
theorem ok_llast {k : Nat} (Z : Defs K mg) : FnOk P w K mg base CX0 (k + 1) Z.fLawLast Z.fdLawLast ["rows"] spLast := by
  refine Z.DLawLast.F.ok scLawLast (fun vs H Q E h => ?_) (fun cdv A outer s H vs Q E hr h => ?_)
  · obtain ⟨A, rs, rows, rfl, _⟩ := h
    rfl
  · obtain ⟨A0, rs, rows, rfl, R, hF, qq⟩ := h
    refine ⟨_, (pss_cons (ps_set (i := 1) scLawLast.nd rfl (.inl rfl) pe_int)
        (pss_cons (ps_for PassesOwn.never rfl (pi_list (pv 0)) (pg_name (i := 2) scLawLast.nd rfl (.inl rfl)) (pss_one (ps_for PassesOwn.never rfl (pi_list (pv 2)) (pg_name (i := 3) scLawLast.nd rfl (.inl rfl)) (pss_one (ps_if (pt_cmpR op_eq (pe_ix ix_tup (pv 3) pe_int (fun _ _ => rfl)) pe_str (nomark _)) (pss_one (ps_set (i := 1) scLawLast.nd rfl (.inl rfl) (pe_callB (call_max2 rfl) (by rfl) Z.max (by decide +kernel) (pa_cons (pv 1) (pa_cons (pe_op op_add (pe_ix ix_tup (pv 3) pe_int (fun _ _ => rfl)) (pe_callB call_len_str (by rfl) Z.len PySem.boot_len (pa_cons (pe_ix ix_tup (pv 3) pe_int (fun _ _ => rfl)) pa_nil))) pa_nil))))) pss_nil)))))
        (pss_one (ps_ret (pv 1))))), ?_⟩
    refine ⟨_, rfl, A0, rfl, ⟨_, SqL.of R.h⟩, ?_⟩
    refine for_it walk_list (fun i σ H' => H' = H ∧ ∃ (n : Nat) (y2 y3 : Option V), σ = [some (.ref A0), some (vi n), y2, y3] ∧ ∀ k, n ≤ k ↔ ∀ r, r < i → ∀ d ∈ rows r, endD d ≤ k) ⟨rfl, 0, none, none, rfl, fun k => ⟨fun _ r hr => absurd hr (Nat.not_lt_zero _), fun _ => Nat.zero_le _⟩⟩ (fun i σ H' _ ⟨e, _⟩ => by rw [e]; exact SqL.of R.h) ?_ ?_
    · rintro i x σ H1' H1 hi ⟨rfl, n, y2, y3, rfl, hn⟩ ⟨rfl, hx⟩
      obtain ⟨ra, hra, rfl⟩ : ∃ ra, rs[i]? = some ra ∧ x = .ref ra := by
        rw [List.getElem?_map] at hx
        cases e : rs[i]? with
        | none => rw [e] at hx; cases hx
        | some t => rw [e] at hx; cases hx; exact ⟨t, rfl, rfl⟩
      obtain ⟨us, hus, hds⟩ := R.r i ra hra
      refine ⟨_, rfl, ra, rfl, ⟨_, SqL.of hus⟩, ?_⟩
      refine for_it walk_list (fun j σ H' => H' = H1 ∧ ∃ (n : Nat) (y3 : Option V), σ = [some (.ref A0), some (vi n), some (.ref ra), y3] ∧ ∀ k, n ≤ k ↔ (∀ r, r < i → ∀ d ∈ rows r, endD d ≤ k) ∧ ∀ d ∈ (rows i).take j, endD d ≤ k) ⟨rfl, n, y3, rfl, fun k => by rw [hn k]; exact ⟨fun h => ⟨h, fun d hd => by simp at hd⟩, fun h => h.1⟩⟩ (fun i σ H' _ ⟨e, _⟩ => by rw [e]; exact SqL.of hus) ?_ ?_
      · rintro j x σ H2' H2 hj ⟨rfl, n, y3, rfl, hn⟩ ⟨rfl, hx⟩
        obtain ⟨d, hd, hdx⟩ := hds.get hx
        have step : ∀ k, (∀ d ∈ (rows i).take (j + 1), endD d ≤ k) ↔ (∀ d ∈ (rows i).take j, endD d ≤ k) ∧ endD d ≤ k := fun k => by
          rw [take_snoc hd]
          constructor
          · exact fun h => ⟨fun d' hd' => h d' (List.mem_append_left _ hd'), h d (List.mem_append_right _ (List.mem_singleton.mpr rfl))⟩
          · rintro ⟨h1, h2⟩ d' hd'
            rcases List.mem_append.mp hd' with q | q
            · exact h1 d' q
            · rw [List.mem_singleton.mp q]; exact h2
        cases d with
        | back q =>
          obtain ⟨td, rfl, htd⟩ := hdx
          exact ⟨_, rfl, td, _, 0, _, rfl, rfl, SqT.of htd, rfl, rfl, _, rfl, iteF ⟨rfl, _, _, rfl, fun k => by rw [hn, step]; exact ⟨fun h => ⟨h.1, h.2, Nat.zero_le _⟩, fun h => ⟨h.1, h.2.1⟩⟩⟩⟩
        | change m' rem b n' t =>
          obtain ⟨td, tr, um, bx, rfl, htd, _⟩ := hdx
          have hl : (S t).length = t.length := S_len t
          refine ⟨_, rfl, td, _, 0, _, rfl, rfl, SqT.of htd, rfl, rfl, _, rfl, iteT ?_⟩
          refine ⟨_, rfl, _, rfl, td, _, 4, _, rfl, rfl, SqT.of htd, rfl, _, rfl, td, _, 5, _, rfl, rfl, SqT.of htd, rfl, S t, rfl, ?_⟩
          have hi8 : i < 8 := by have := (List.getElem?_eq_some_iff.mp hra).1; rw [R.n] at this; exact this
          have htl := (((hF i hi8).2 _ (List.mem_of_getElem? hd)).m _ _ _ _ _ rfl).2.2.2.2
          have em : (if ((n' : Int) + ((S t).length : Int)) > (n : Int) then ((n' : Int) + ((S t).length : Int)) else (n : Int)) = ((max n (n' + t.length) : Nat) : Int) := by
            rw [hl]
            split <;> omega
          refine ⟨by rw [hl]; exact Nat.le_trans htl (by decide), _, _, rfl, rfl, _, _, rfl, rfl, max n (n' + t.length), _, congrArg (fun z => [some (V.ref A0), some (V.int z), some (V.ref ra), some (V.ref td)]) em, fun k => ?_⟩
          rw [step, Nat.max_le, hn]
          exact ⟨fun h => ⟨h.1.1, h.1.2, h.2⟩, fun h => ⟨⟨h.1, h.2.1⟩, h.2.2⟩⟩
      · rintro σ H2 ⟨rfl, n, y3, rfl, hn⟩
        refine ⟨rfl, n, _, _, rfl, fun k => ?_⟩
        rw [hds.len, List.take_length] at hn
        rw [hn]
        constructor
        · rintro ⟨h1, h2⟩ r hr
          rcases Nat.lt_succ_iff_lt_or_eq.mp hr with q | q
          · exact h1 r q
          · rw [q]; exact h2
        · exact fun h => ⟨fun r hr => h r (Nat.lt_succ_of_lt hr), h i (Nat.lt_succ_self _)⟩
    · rintro σ H1 ⟨rfl, n, y2, y3, rfl, hn⟩
      rw [List.length_map, R.n] at hn
      exact ⟨_, rfl, qq n hn⟩
/-! ### _law_modules -/
def mods : List (List Nat) := [[109, 97, 105, 110], [97], [97, 32, 98, 39, 91, 93], (List.replicate 40 [122]).flatten]
def spMods : Sp := fun vs H Q _ => vs = [] ∧ ∀ H' l, Same H H' → H l = none → H' l = some (.lst (mods.map fun m => .str (S m))) → Q (.ref l) H'
theorem ok_lmodules {k : Nat} (Z : Defs K mg) : FnOk P w K mg base CX0 (k + 1) Z.fLawModules Z.fdLawModules [] spMods := by
  refine Z.DLawModules.F.ok scLawModules (fun vs H Q E h => ?_) (fun cdv A outer s H vs Q E hr h => ?_)
  · obtain ⟨rfl, _⟩ := h
    rfl
  · obtain ⟨rfl, qq⟩ := h
    refine ⟨_, (pss_one (ps_ret (pe_lst (pa_cons pe_str (pa_cons pe_str (pa_cons pe_str (pa_cons (pe_op op_mul_strR pe_str pe_int) pa_nil))))))), ?_⟩
    refine ⟨[122], 40, rfl, rfl, by decide, by decide, by decide, by decide, ?_⟩
    refine ⟨by show 4 ≤ sizeLine; decide, fun l hl => ?_⟩
    exact qq _ l (same_upd hl) hl upd_same
/-! ### _law_letters -/
def chz : Str := " !\"#$&'()*+,-./0123456789:;<=>?@ABCDEFGHIJKLMNOPQRSTUVWXYZ[\\]^_`abcdefghijklmnopqrstuvwxyz{|}~\n"
theorem chz_len : chz.cps.toList.length = 95 := by decide +kernel
theorem chz_ok : okC chz.cps.toList := by
  have : chz.cps.toList.all (fun c => decide (c < 1114112)) = true := by decide +kernel
  exact fun c hc => of_decide_eq_true (List.all_eq_true.mp this c hc)
def spLetters : Sp := fun vs H Q _ => ∃ (d : Addr) (ds : List Int) (i : Int), vs = [.ref d, .int i] ∧ H d = some (.lst (ds.map V.int)) ∧ Draws ds ∧ 0 ≤ i ∧ ∀ t : List Nat, okC t → t.length ≤ 4 → Q (.str (S t)) H
theorem ok_lletters {k : Nat} (Z : Defs K mg) : FnOk P w K mg base CX0 (k + 3) Z.fLawLetters Z.fdLawLetters ["draws", "index"] spLetters := by
  have GLawAt : FnOk P w K mg base CX0 (k + 2) Z.fLawAt Z.fdLawAt ["draws", "index"] spAt := ok_at Z
  refine Z.DLawLetters.F.ok scLawLetters (fun vs H Q E h => ?_) (fun cdv A outer s H vs Q E hr h => ?_)
  · obtain ⟨d, ds, i, rfl, _⟩ := h
    rfl
  · obtain ⟨d, ds, i, rfl, hd, hD, i0, qq⟩ := h
    refine ⟨_, (pss_cons (ps_set (i := 2) scLawLetters.nd rfl (.inl rfl) pe_str)
        (pss_cons (ps_set (i := 3) scLawLetters.nd rfl (.inl rfl) pe_str)
        (pss_cons (ps_for PassesOwn.never rfl (pi_range1 (by rfl) Z.range (pa_cons (pe_op op_mod (pe_call GLawAt (hr.mono (by omega)) (by rfl) Z.DLawAt.g Z.DLawAt.F.kp Z.DLawAt.b .nil pass0 (pa_cons (pv 0) (pa_cons (pv 1) pa_nil))) pe_int) pa_nil)) (pg_name (i := 4) scLawLetters.nd rfl (.inl rfl)) (pss_one (ps_set (i := 3) scLawLetters.nd rfl (.inl rfl) (pe_op op_add_str (pv 3) (pe_ix ix_str (pv 2) (pe_op op_mod (pe_op op_add (pe_call GLawAt (hr.mono (by omega)) (by rfl) Z.DLawAt.g Z.DLawAt.F.kp Z.DLawAt.b .nil pass0 (pa_cons (pv 0) (pa_cons (pe_op op_add (pv 1) pe_int) pa_nil))) (pe_op op_mul pe_int (pv 4))) pe_int) (fun _ _ => rfl))))))
        (pss_one (ps_ret (pv 3)))))), ?_⟩
    refine ⟨_, rfl, _, rfl, d, ds, i, rfl, hd, hD, i0, fun v v0 v1 => ⟨v, 5, rfl, rfl, (by show (0 : Int) < 5; decide), v % 5, rfl, by omega, by omega, ?_⟩⟩
    refine for_range (lo := 0) (n := (v % 5).toNat) (fun j σ H' => H' = H ∧ ∃ (t : List Nat) (y4 : Option V), σ = [some (.ref d), some (.int i), some (.str chz), some (.str (S t)), y4] ∧ okC t ∧ t.length = j) ⟨rfl, [], none, congrArg (fun z => [some (V.ref d), some (V.int i), some (V.str chz), some (V.str z), none]) (by decide +kernel), (fun c h => by cases h), rfl⟩ ?_ ?_
    · rintro j σ H1 hj ⟨rfl, t, y4, rfl, ht, htl⟩
      refine ⟨_, rfl, _, rfl, _, rfl, _, rfl, i, 1, rfl, rfl, d, ds, i + 1, rfl, hd, hD, by omega, fun v' v0' v1' => ?_⟩
      have h95 := chz_len
      have hlt : ((v' + 37 * (0 + (j : Int))) % 95).toNat < chz.cps.toList.length := by omega
      have hg : atI chz.cps.toList ((v' + 37 * (0 + (j : Int))) % 95) = some (chz.cps.toList[((v' + 37 * (0 + (j : Int))) % 95).toNat]) := by
        have e : ((v' + 37 * (0 + (j : Int))) % 95) = ((((v' + 37 * (0 + (j : Int))) % 95).toNat : Nat) : Int) := by omega
        have h1 : chz.cps.toList[((v' + 37 * (0 + (j : Int))) % 95).toNat]? = some (chz.cps.toList[((v' + 37 * (0 + (j : Int))) % 95).toNat]) := List.getElem?_eq_getElem hlt
        have h2 := atI_nat h1
        rw [← e] at h2
        exact h2
      have hok := chz_ok _ (List.getElem_mem hlt)
      generalize chz.cps.toList[((v' + 37 * (0 + (j : Int))) % 95).toNat] = c at hg hok
      have hmul : CMul 37 (0 + (j : Int)) := by unfold CMul; omega
      have hsz : (S t).length + (⟨#[c]⟩ : Str).length ≤ sizeLine := by
        rw [S_len]
        exact Nat.le_trans (show t.length + 1 ≤ 100 by omega) (by decide)
      have hcat : S t ++ (⟨#[c]⟩ : Str) = S (t ++ [c]) := S_cat t [c]
      refine ⟨_, rfl, 37, _, rfl, rfl, hmul, _, _, rfl, rfl, _, 95, rfl, rfl, (by show (0 : Int) < 95; decide), chz, _, c, rfl, rfl, by decide +kernel, hg, S t, _, rfl, rfl, hsz, rfl, t ++ [c], some (.int (0 + (j : Int))), ?_, ?_, ?_⟩
      · exact congrArg (fun z => [some (V.ref d), some (V.int i), some (V.str chz), some (V.str z), some (.int (0 + (j : Int)))]) hcat
      · intro x hx
        rcases List.mem_append.mp hx with h | h
        · exact ht x h
        · rw [List.mem_singleton.mp h]; exact hok
      · rw [List.length_append, htl]; rfl
    · rintro σ H1 ⟨rfl, t, y4, rfl, ht, htl⟩
      exact ⟨_, rfl, qq t ht (by omega)⟩
/-! ### _law_visible -/
def spVis : Sp := fun vs H Q _ => ∃ (A cA : Addr) (rs : List Addr) (rows : Rows) (cn : Nat → Nat), vs = [.ref A, .ref cA] ∧ RowsAt H A rs rows ∧ Few rows ∧ H cA = some (.lst ((List.range 8).map fun j => vi (cn j))) ∧
  ∀ H' l rs', Same H H' → RowsAt H' l rs' (fun r => (rows r).take (cn r)) → Q (.ref l) H'
theorem ok_lvisible {k : Nat} (Z : Defs K mg) : FnOk P w K mg base CX0 (k + 1) Z.fLawVisible Z.fdLawVisible ["rows", "counts"] spVis := by
  refine Z.DLawVisible.F.ok scLawVisible (fun vs H Q E h => ?_) (fun cdv A outer s H vs Q E hr h => ?_)
  · obtain ⟨A, cA, rs, rows, cn, rfl, _⟩ := h
    rfl
  · obtain ⟨A0, cA, rs, rows, cn, rfl, R, hF, hc, qq⟩ := h
    refine ⟨_, (pss_one (ps_ret (pe_lc (own := [("k", 2)]) (g := (gName 2)) (by rfl) scLawVisible.nd (pi_range1 (by rfl) Z.range (pa_cons pe_int pa_nil)) (blkOk_by (own := [("k", 2)]) (N := ["rows", "counts", "k"]) (sc := defScope sLawVisible) (by decide +kernel)) (fun _ _ _ _ _ => (pg_name (i := 2) scLawVisible.nd rfl (Or.inl rfl))) (fun _ _ _ _ _ => pts_nil) (fun _ _ _ _ _ => (pe_slice (HX.sl_listK (K := K) rfl) (pe_ix (HL.ix_listK (K := K) rfl) (pv 0) (pv 2) (fun _ _ => rfl)) po_none (po_some (pe_ix (HL.ix_listK (K := K) rfl) (pv 1) (pv 2) (fun _ _ => rfl)))))))), ?_⟩
    refine ⟨8, rfl, by decide, by decide, fun D hD => ?_⟩
    refine lc_range (lo := 0) (n := 8) (fun i H' => Same H H' ∧ ∃ rs' : List Addr, H' D = some (.lst (rs'.map V.ref)) ∧ rs'.length = i ∧ ∀ (j : Nat) (a : Addr), rs'[j]? = some a → a ≠ D ∧ ∃ us, H' a = some (.lst us) ∧ All2 (DeedAt H') us ((rows j).take (cn j))) ⟨same_upd hD, [], upd_same, rfl, fun j a h => by cases h⟩ ?_ ?_
    · rintro i H1 hi ⟨s1, rs', hD1, hl1, hr1⟩
      obtain ⟨ra, ur, hra, hrv, hru, hrd⟩ := R.get hi
      have e0 : (0 : Int) + (i : Int) = (i : Int) := Int.zero_add _
      have gR : atI (rs.map V.ref) (0 + (i : Int)) = some (.ref ra) := by rw [e0]; exact atI_nat hrv
      have gC : atI ((List.range 8).map fun j => vi (cn j)) (0 + (i : Int)) = some (vi (cn i)) := by
        rw [e0]
        exact atI_nat (by rw [List.getElem?_map, List.getElem?_range hi]; rfl)
      refine ⟨rfl, lc_yes ⟨_, rfl, _, rfl, A0, _, _, _, rfl, rfl, SqL.of (s1 _ _ R.h), gR, _, rfl, _, rfl, cA, _, _, _, rfl, rfl, SqL.of (s1 _ _ hc), gC, (cn i : Int), rfl, ra, ur, rfl, SqL.of (s1 _ _ hru), fun p hp => ?_⟩⟩
      rw [cut_to]
      have s2 : Same H1 (upd H1 p (.lst (ur.take (cn i)))) := same_upd hp
      have g2 : upd H1 p (.lst (ur.take (cn i))) p = some (.lst (ur.take (cn i))) := upd_same
      have npD : p ≠ D := fun e => by rw [e, hD1] at hp; cases hp
      generalize upd H1 p (.lst (ur.take (cn i))) = H2 at s2 g2
      have hD2 := s2 _ _ hD1
      have k3 : TupK H2 (upd H2 D (.lst (rs'.map V.ref ++ [.ref p]))) := tk_upd fun xs e => by rw [hD2] at e; cases e
      have k13 := (Same.tk s2).trans k3
      refine ⟨_, hD2, by rw [List.length_map, hl1]; exact Nat.lt_of_lt_of_le hi (by decide), fun z o hz => by rw [upd_ne (ne_of_none hz hD)]; exact s2 _ _ (s1 _ _ hz), rs' ++ [p], by rw [upd_same, List.map_append]; rfl, by rw [List.length_append, hl1]; rfl, fun j a ha => ?_⟩
      by_cases hj : j < i
      · rw [List.getElem?_append_left (by omega)] at ha
        obtain ⟨h1, us, h2, h3⟩ := hr1 j a ha
        exact ⟨h1, us, by rw [upd_ne h1]; exact s2 _ _ h2, h3.mono fun v e h => h.keep k13⟩
      · have hlt := (List.getElem?_eq_some_iff.mp ha).1
        rw [List.length_append, hl1] at hlt
        have hji : j = i := by
          have : [p].length = 1 := rfl
          omega
        subst hji
        rw [List.getElem?_append_right (by omega), hl1, Nat.sub_self] at ha
        obtain rfl : p = a := Option.some.inj ha
        refine ⟨npD, _, by rw [upd_ne npD]; exact g2, ?_⟩
        exact all2_take ((hrd.mono fun v e h => h.keep (Same.tk s1)).mono fun v e h => h.keep k13) _
    · rintro H1 ⟨s1, rs', hD1, hl1, hr1⟩
      exact qq H1 D rs' s1 ⟨hD1, hl1, fun i a h => (hr1 i a h).2⟩
end
end Q07
namespace Q07
open PySem PySem.Spec PyProof.Rows L2 SX HL DM
section
variable {P : Program} {w : World} {K : PySem.W.Frag} {mg : Str → Option Value} {base : Heap}
/-! ### _law_deed -/
theorem mods_ok : ∀ m ∈ mods, okC m ∧ m.length ≤ 100 := by
  have : mods.all (fun m => m.all (fun c => decide (c < 1114112)) && decide (m.length ≤ 100)) = true := by decide +kernel
  intro m hm
  have h := List.all_eq_true.mp this m hm
  rw [Bool.and_eq_true] at h
  exact ⟨fun c hc => of_decide_eq_true (List.all_eq_true.mp h.1 c hc), of_decide_eq_true h.2⟩
theorem pick_mark {H : Hp} {mk : List V} {mks : List Mark} {u : Int} (h : All2 (MkAt H) mk mks) (u0 : 0 ≤ u) (hp : (0 : Int) < ((mk.length : Nat) : Int)) : ∃ z c, atI mk (u % ((mk.length : Nat) : Int)) = some z ∧ MkAt H z c ∧ c ∈ mks := by
  have h1 := Int.emod_nonneg u (show ((mk.length : Nat) : Int) ≠ 0 by omega)
  have h2 := Int.emod_lt_of_pos u hp
  obtain ⟨q, hq⟩ := Int.eq_ofNat_of_zero_le h1
  rw [hq] at h2 ⊢
  have h3 : q < mk.length := by omega
  have h4 := List.getElem?_eq_getElem h3
  obtain ⟨c, hc, hx⟩ := h.get h4
  exact ⟨_, c, atI_nat h4, hx, List.mem_of_getElem? hc⟩
/-- all ends of the rows' deeds stand at most at B -/
def EndsBy (W : Rows) (B : Nat) : Prop := ∀ r, r < 8 → ∀ d ∈ W r, endD d ≤ B
theorem mark_by {W : Rows} {m : List Nat} {y : Mark} (h : y ∈ marks W m) {B : Nat} (hB : EndsBy W B) : y.1 + 1 ≤ B := by
  obtain ⟨r, d, hr, hd, _, hx⟩ := mem_marks.mp h
  obtain ⟨e, he, rfl⟩ := List.mem_map.mp hx
  obtain ⟨m', x, b, n, t, k, rfl, hk, rfl⟩ := mem_entD he
  have := hB r hr _ hd
  have h2 : n + t.length ≤ B := this
  show n + k + 1 ≤ B
  omega
def spDeed (T : Hp → Prop) : Sp := fun vs H Q _ => ∃ (d A : Addr) (ds : List Int) (i : Int) (rs : List Addr) (W : Rows) (r : Nat), vs = [.ref d, .int i, .ref A, vi r] ∧ H d = some (.lst (ds.map V.int)) ∧ Draws ds ∧ 0 ≤ i ∧ RowsAt H A rs W ∧ Few W ∧ DM.Good W ∧ r < 8 ∧ T H ∧
  ∀ H' dx δ, LamX.ExtN H H' → T H' → DeedAt H' dx δ → Fits W r δ → (∀ m x b n t, δ = .change m x b n t → x.length ≤ 4 ∧ t.length ≤ 4 ∧ ∀ B, EndsBy W B → n ≤ B + 6) → (∀ n, δ = .back n → 1 ≤ n ∧ n ≤ (W r).length) → Q dx H'
theorem extN_of {H H' : Hp} (s : Same H H') : LamX.ExtN H H' := fun a o h _ => s a o h
theorem extN_tr {H H1 H2 : Hp} (a : LamX.ExtN H H1) (b : LamX.ExtN H1 H2) : LamX.ExtN H H2 := fun x o h n => b x o (a x o h n) n
theorem ok_ldeed {k : Nat} {Pc : Addr} (Z : Defs K mg) (TBc : LamX.TabB base mg Z.cO Pc) : FnOk P w K mg base CX0 (k + 5) Z.fLawDeed Z.fdLawDeed ["draws", "index", "rows", "replica"] (spDeed (TC Pc)) := by
  have GLawAt : FnOk P w K mg base CX0 (k + 2) Z.fLawAt Z.fdLawAt ["draws", "index"] spAt := ok_at Z
  have GLawModules : FnOk P w K mg base CX0 (k + 1) Z.fLawModules Z.fdLawModules [] spMods := ok_lmodules Z
  have GLawRow : FnOk P w K mg base CX0 (k + 4) Z.fLawRow Z.fdLawRow ["rows", "module"] (spRow (TC Pc)) := ok_lrow Z TBc
  have GLawLast : FnOk P w K mg base CX0 (k + 1) Z.fLawLast Z.fdLawLast ["rows"] spLast := ok_llast Z
  have GLawLetters : FnOk P w K mg base CX0 (k + 3) Z.fLawLetters Z.fdLawLetters ["draws", "index"] spLetters := ok_lletters Z
  refine Z.DLawDeed.F.ok scLawDeed (fun vs H Q E h => ?_) (fun cdv A outer s H vs Q E hr h => ?_)
  · obtain ⟨d, A, ds, i, rs, W, r, rfl, _⟩ := h
    rfl
  · obtain ⟨d, A0, ds, i, rs, W, r, rfl, hd, hD, i0, R, hF, hG, hr8, hT, qq⟩ := h
    refine ⟨_, (pss_cons (ps_set (i := 4) scLawDeed.nd rfl (.inl rfl) (pe_ix ix_list (pv 2) (pv 3) (fun _ _ => rfl)))
        (C8.pss_cut (ps_if (PW.pt (pw_and (pt_cmpR op_eq (pe_op op_mod (pe_call GLawAt (hr.mono (by omega)) (by rfl) Z.DLawAt.g Z.DLawAt.F.kp Z.DLawAt.b .nil pass0 (pa_cons (pv 0) (pa_cons (pv 1) pa_nil))) pe_int) pe_int (nomark _)) (pw_and1 (pt_cmpR op_gt (pe_callB call_len_seq (by rfl) Z.len PySem.boot_len (pa_cons (pv 4) pa_nil)) pe_int (nomark _))))) (pss_one (ps_ret (pe_tup (pa_cons pe_str (pa_cons (pe_op op_add pe_int (pe_op op_mod (pe_call GLawAt (hr.mono (by omega)) (by rfl) Z.DLawAt.g Z.DLawAt.F.kp Z.DLawAt.b .nil pass0 (pa_cons (pv 0) (pa_cons (pe_op op_add (pv 1) pe_int) pa_nil))) (pe_callB call_len_seq (by rfl) Z.len PySem.boot_len (pa_cons (pv 4) pa_nil)))) pa_nil))))) pss_nil)
        (pss_cons (ps_set (i := 5) scLawDeed.nd rfl (.inl rfl) (pe_ix ix_list (pe_call0 GLawModules (hr.mono (by omega)) (by rfl) Z.DLawModules.g Z.DLawModules.F.kp Z.DLawModules.b .nil pass0) (pe_op op_fdiv (pe_op op_mod (pe_call GLawAt (hr.mono (by omega)) (by rfl) Z.DLawAt.g Z.DLawAt.F.kp Z.DLawAt.b .nil pass0 (pa_cons (pv 0) (pa_cons (pe_op op_add (pv 1) pe_int) pa_nil))) pe_int) pe_int) (fun _ _ => rfl)))
        (pss_cons (ps_setLc (i := 6) (own := [("each", 13)]) (g := (gName 13)) (by rfl) scLawDeed.nd rfl rfl (sw_true rfl rfl rfl (by decide +kernel)) (pi_list (pe_call GLawRow (hr.mono (by omega)) (by rfl) Z.DLawRow.g Z.DLawRow.F.kp Z.DLawRow.b .nil pass0 (pa_cons (pv 2) (pa_cons (pv 5) pa_nil)))) (blkOk_by (own := [("each", 13)]) (N := ["draws", "index", "rows", "replica", "own", "module", "marks", "removed", "k", "behind", "number", "mark", "deed", "each"]) (sc := defScope sLawDeed) (by decide +kernel)) (fun _ _ _ _ _ => (pg_name (i := 13) scLawDeed.nd rfl (Or.inl rfl))) (fun _ _ _ _ _ => pts_nil) (fun _ _ _ _ _ => (pe_ix (HL.ix_tupK (K := K) rfl) (pv 13) pe_int (fun _ _ => rfl))))
        (pss_cons (ps_set (i := 7) scLawDeed.nd rfl (.inl rfl) (pe_lst pa_nil))
        (pss_cons (ps_for PassesOwn.never rfl (pi_range1 (by rfl) Z.range (pa_cons (pe_op op_mod (pe_call GLawAt (hr.mono (by omega)) (by rfl) Z.DLawAt.g Z.DLawAt.F.kp Z.DLawAt.b .nil pass0 (pa_cons (pv 0) (pa_cons (pe_op op_add (pv 1) pe_int) pa_nil))) pe_int) pa_nil)) (pg_name (i := 8) scLawDeed.nd rfl (.inl rfl)) (pss_one (ps_if (pt_cmpR op_gt (pe_callB call_len_seq (by rfl) Z.len PySem.boot_len (pa_cons (pv 6) pa_nil)) pe_int (nomark _)) (pss_one (ps_expr (pe_bm PySem.F.plainAttrs_list PySem.F.slot_list_append PySem.F.type_list_append mt_append (pv 7) (pa_cons (pe_ix ix_list (pv 6) (pe_op op_mod (pe_call GLawAt (hr.mono (by omega)) (by rfl) Z.DLawAt.g Z.DLawAt.F.kp Z.DLawAt.b .nil pass0 (pa_cons (pv 0) (pa_cons (pe_op op_add (pe_op op_add (pv 1) pe_int) (pv 8)) pa_nil))) (pe_callB call_len_seq (by rfl) Z.len PySem.boot_len (pa_cons (pv 6) pa_nil))) (fun _ _ => rfl)) pa_nil)))) pss_nil)))
        (pss_cons (ps_set (i := 9) scLawDeed.nd rfl (.inl rfl) pe_non)
        (C8.pss_cut (ps_if (PW.pt (pw_and (pt_cmpR op_gt (pe_callB call_len_seq (by rfl) Z.len PySem.boot_len (pa_cons (pv 6) pa_nil)) pe_int (nomark _)) (pw_and1 (pt_cmpR op_ne (pe_op op_mod (pe_call GLawAt (hr.mono (by omega)) (by rfl) Z.DLawAt.g Z.DLawAt.F.kp Z.DLawAt.b .nil pass0 (pa_cons (pv 0) (pa_cons (pe_op op_add (pv 1) pe_int) pa_nil))) pe_int) pe_int (nomark _))))) (pss_one (ps_set (i := 9) scLawDeed.nd rfl (.inl rfl) (pe_ix ix_list (pv 6) (pe_op op_mod (pe_op op_fdiv (pe_call GLawAt (hr.mono (by omega)) (by rfl) Z.DLawAt.g Z.DLawAt.F.kp Z.DLawAt.b .nil pass0 (pa_cons (pv 0) (pa_cons (pe_op op_add (pv 1) pe_int) pa_nil))) pe_int) (pe_callB call_len_seq (by rfl) Z.len PySem.boot_len (pa_cons (pv 6) pa_nil))) (fun _ _ => rfl)))) pss_nil)
        (pss_cons (ps_set (i := 10) scLawDeed.nd rfl (.inl rfl) pe_int)
        (pss_cons (ps_for PassesOwn.never rfl (pi_list (pe_op op_cat (pv 7) (pe_lst (pa_cons (pv 9) pa_nil)))) (pg_name (i := 11) scLawDeed.nd rfl (.inl rfl)) (pss_one (ps_if (pt_cmp (pc_notN (pv 11))) (pss_one (ps_set (i := 10) scLawDeed.nd rfl (.inl rfl) (pe_callB (call_max2 rfl) (by rfl) Z.max (by decide +kernel) (pa_cons (pv 10) (pa_cons (pe_op op_add (pe_ix ix_tup (pv 11) pe_int (fun _ _ => rfl)) pe_int) pa_nil))))) pss_nil)))
        (pss_cons (ps_for PassesOwn.never rfl (pi_list (pv 4)) (pg_name (i := 12) scLawDeed.nd rfl (.inl rfl)) (pss_one (ps_if (pt_cmpR op_eq (pe_ix ix_tup (pv 12) pe_int (fun _ _ => rfl)) pe_str (nomark _)) (pss_one (ps_set (i := 10) scLawDeed.nd rfl (.inl rfl) (pe_callB (call_max2 rfl) (by rfl) Z.max (by decide +kernel) (pa_cons (pv 10) (pa_cons (pe_op op_add (pe_ix ix_tup (pv 12) pe_int (fun _ _ => rfl)) (pe_callB call_len_str (by rfl) Z.len PySem.boot_len (pa_cons (pe_ix ix_tup (pv 12) pe_int (fun _ _ => rfl)) pa_nil))) pa_nil))))) pss_nil)))
        (pss_cons (ps_set (i := 10) scLawDeed.nd rfl (.inl rfl) (pe_op op_add (pv 10) (pe_ix ix_list (pe_lst (pa_cons pe_int (pa_cons pe_int (pa_cons pe_int (pa_cons pe_int pa_nil))))) (pe_op op_mod (pe_call GLawAt (hr.mono (by omega)) (by rfl) Z.DLawAt.g Z.DLawAt.F.kp Z.DLawAt.b .nil pass0 (pa_cons (pv 0) (pa_cons (pe_op op_add (pv 1) pe_int) pa_nil))) pe_int) (fun _ _ => rfl))))
        (C8.pss_cut (ps_if (pt_cmpR op_eq (pe_op op_mod (pe_op op_fdiv (pe_call GLawAt (hr.mono (by omega)) (by rfl) Z.DLawAt.g Z.DLawAt.F.kp Z.DLawAt.b .nil pass0 (pa_cons (pv 0) (pa_cons (pe_op op_add (pv 1) pe_int) pa_nil))) pe_int) pe_int) pe_int (nomark _)) (pss_one (ps_set (i := 10) scLawDeed.nd rfl (.inl rfl) (pe_callB (call_max2 rfl) (by rfl) Z.max (by decide +kernel) (pa_cons (pv 10) (pa_cons (pe_op op_add (pe_call GLawLast (hr.mono (by omega)) (by rfl) Z.DLawLast.g Z.DLawLast.F.kp Z.DLawLast.b .nil pass0 (pa_cons (pv 2) pa_nil)) pe_int) pa_nil))))) pss_nil)
        (pss_one (ps_ret (pe_tup (pa_cons pe_str (pa_cons (pv 5) (pa_cons (pe_callTy call_tuple_of (by rfl) Z.tuple HL.boot_tuple (pa_cons (pv 7) pa_nil)) (pa_cons (pv 9) (pa_cons (pv 10) (pa_cons (pe_call GLawLetters (hr.mono (by omega)) (by rfl) Z.DLawLetters.g Z.DLawLetters.F.kp Z.DLawLetters.b .nil pass0 (pa_cons (pv 0) (pa_cons (pe_op op_add (pv 1) pe_int) pa_nil))) pa_nil)))))))))))))))))))))), ?_⟩
    obtain ⟨ra, ur, hra, hrv, hru, hrd⟩ := R.get hr8
    have gR : atI (rs.map V.ref) (r : Int) = some (.ref ra) := atI_nat hrv
    have hurl := hrd.len
    refine ⟨_, rfl, _, rfl, A0, _, _, _, rfl, rfl, SqL.of R.h, gR, ?_⟩
    refine ⟨fun σ' H' => σ' = [some (.ref d), some (.int i), some (.ref A0), some (vi r), some (.ref ra), none, none, none, none, none, none, none, none, none] ∧ H = H', ?_, ?_⟩
    · refine ⟨_, rfl, _, rfl, d, ds, i, rfl, hd, hD, i0, fun v v0 v1 => ⟨v, 4, rfl, rfl, (by show (0 : Int) < 4; decide), rfl, _, rfl, ite2 (fun e => ?_) (fun e => ?_)⟩⟩
      · refine ⟨_, rfl, ra, ur, rfl, .inl (SqL.of hru), _, _, rfl, rfl, _, rfl, ite2 (fun e2 => ?_) (fun e2 => ?_)⟩
        · have h2 : (0 : Int) < ((ur.length : Nat) : Int) := of_decide_eq_true e2
          refine ⟨_, rfl, _, rfl, i, 1, rfl, rfl, d, ds, i + 1, rfl, hd, hD, by omega, fun u u0 u1 => ⟨_, rfl, ra, ur, rfl, .inl (SqL.of hru), u, _, rfl, rfl, h2, 1, _, rfl, rfl, (by show 2 ≤ sizeLine; decide), fun t ht => ?_⟩⟩
          obtain ⟨n, hn⟩ : ∃ n : Nat, (1 : Int) + u % (ur.length : Nat) = (n : Int) := ⟨(1 + u % (ur.length : Nat)).toNat, by have := Int.emod_nonneg u (show ((ur.length : Nat) : Int) ≠ 0 by omega); omega⟩
          have s1 : Same H (upd H t (.tup [.str "back", .int (1 + u % (ur.length : Nat))])) := same_upd ht
          exact qq _ _ (.back n) (extN_of s1) (tc_keep hT s1) ⟨t, rfl, upd_same.trans (congrArg (fun z => some (HO.tup [V.str "back", V.int z])) hn)⟩ ⟨⟨fun _ _ _ _ _ z => (by cases z)⟩, fun _ _ _ _ _ z => (by cases z), fun _ _ _ _ _ z => (by cases z)⟩ (fun _ _ _ _ _ z => (by cases z)) fun n' z => (by cases z; have q0 := Int.emod_nonneg u (show ((ur.length : Nat) : Int) ≠ 0 by omega); have q1 := Int.emod_lt_of_pos u h2; omega)
        · exact ⟨rfl, rfl⟩
      · exact ⟨rfl, rfl⟩
    · rintro σ H1 ⟨rfl, rfl⟩
      refine ⟨rfl, fun H1 ml s1 hml0 hml => ?_⟩
      refine ⟨_, rfl, _, rfl, i, 1, rfl, rfl, d, ds, i + 1, rfl, s1 _ _ hd, hD, by omega, fun v v0 v1 => ⟨v, 16, rfl, rfl, (by show (0 : Int) < 16; decide), _, 5, rfl, rfl, ⟨by decide, by decide⟩, ?_⟩⟩
      obtain ⟨p, hp⟩ : ∃ p : Nat, v % 16 / 5 = (p : Int) := ⟨(v % 16 / 5).toNat, by omega⟩
      have hp4 : p < mods.length := by show p < 4; omega
      obtain ⟨m, hm⟩ : ∃ m, mods[p]? = some m := ⟨_, List.getElem?_eq_getElem hp4⟩
      have gm : atI (mods.map fun m => V.str (S m)) (v % 16 / 5) = some (.str (S m)) := by
        rw [hp]
        exact atI_nat (by rw [List.getElem?_map, hm]; rfl)
      have hmok : okC m ∧ m.length ≤ 100 := mods_ok _ (List.mem_of_getElem? hm)
      have R1 := R.keep s1
      refine ⟨ml, _, _, _, rfl, rfl, SqL.of hml, gm, ?_⟩
      refine ⟨_, rfl, _, rfl, A0, rs, W, m, rfl, R1, hF, hG, tc_keep hT s1, fun H2 l cus es eN2 T2 hl hS hcs => ?_⟩
      have hd1 := s1 _ _ hd
      have eNH : LamX.ExtN H H2 := extN_tr (extN_of s1) eN2
      have hd2 := eNH _ _ hd fun ps z => nomatch z
      have R2 := R.keepN eNH
      have hru2 := eNH _ _ hru fun ps z => nomatch z
      have hrd2 := hrd.mono fun v e h => h.keep (extN_tk eNH)
      clear R1 eN2 hd1 hml hml0 s1 hru hrd
      refine ⟨l, rfl, ⟨_, SqL.of hl⟩, fun D hDn => ?_⟩
      have hbl2 := build_perm hG hS (removed W m) es.length (Nat.le_refl _)
      rw [List.take_length] at hbl2
      have hmk : ∀ y ∈ (build (removed W m) es).map (·.1), y ∈ marks W m := fun y hy => (hS.perm.map (·.1)).mem_iff.mp (hbl2.1.mem_iff.mp hy)
      have hcl : (build (removed W m) es).length ≤ 80000 := by
        have h1 := hbl2.1.length_eq
        rw [List.length_map, List.length_map, hS.perm.length_eq] at h1
        rw [h1]
        exact found_len hF m
      have hsz : 801000 ≤ sizeLine := by decide
      refine lc_list (K := K) (xs := cus) (fun j H' => Same H2 H' ∧ ∃ acc, H' D = some (.lst acc) ∧ All2 (MkAt H') acc (((build (removed W m) es).take j).map (·.1)))
        ⟨same_upd hDn, [], upd_same, .nil⟩ (fun j H' _ q => SqL.of (q.1 _ _ hl)) ?_ ?_
      · rintro j x H' hx ⟨s', acc, hD', hacc⟩
        obtain ⟨c, hc, hcx⟩ := hcs.get hx
        obtain ⟨tc, xc, rfl, htc, hxc⟩ := hcx.keep (Same.tk s')
        have hal : acc.length ≤ 80000 := by
          have := hacc.len
          rw [List.length_map, List.length_take] at this
          omega
        refine ⟨rfl, lc_yes ⟨_, rfl, tc, _, 0, xc, rfl, rfl, SqT.of htc, rfl, acc, hD', by omega, ?_, acc ++ [xc], upd_same, ?_⟩⟩
        · exact fun z o hz => by rw [upd_ne (ne_of_none hz hDn)]; exact s' _ _ hz
        · have kD : TupK H' (upd H' D (.lst (acc ++ [xc]))) := tk_upd fun xs e => by rw [hD'] at e; cases e
          rw [take_snoc hc, List.map_append]
          exact (hacc.mono fun v e h => h.keep kD).snoc (hxc.keep kD)
      · rintro H3 ⟨s23, mk, hD3, hmks⟩
        rw [hcs.len, List.take_length] at hmks
        generalize (build (removed W m) es).map (·.1) = mks at hmk hmks
        have hmkl := hmks.len
        have eN3 : LamX.ExtN H H3 := extN_tr eNH (extN_of s23)
        have T3 := tc_keep T2 s23
        have hd3 := s23 _ _ hd2
        have R3 := R2.keep s23
        have hru3 := s23 _ _ hru2
        have hrd3 := hrd2.mono fun v e h => h.keep (Same.tk s23)
        clear hbl2 hcl hl hcs hS s23 hd2 R2 hru2 hrd2 hDn T2 eNH es cus
        refine ⟨Nat.zero_le _, fun rl hrl0 => ?_⟩
        have s4 : Same H3 (upd H3 rl (.lst [])) := same_upd hrl0
        have hrl4 : upd H3 rl (.lst []) rl = some (.lst []) := upd_same
        generalize upd H3 rl (.lst []) = H4 at s4 hrl4
        have nDr : D ≠ rl := fun e => by rw [e, hrl0] at hD3; cases hD3
        have ndr : d ≠ rl := fun e => by rw [e, hrl0] at hd3; cases hd3
        refine ⟨_, rfl, _, rfl, i, 2, rfl, rfl, d, ds, i + 2, rfl, s4 _ _ hd3, hD, by omega, fun v v0 v1 => ⟨v, 4, rfl, rfl, (by show (0 : Int) < 4; decide), v % 4, rfl, by omega, by omega, ?_⟩⟩
        refine for_range (lo := 0) (n := (v % 4).toNat) (fun j σ H' => ∃ (rus : List V) (x : List Mark) (y8 : Option V), σ = [some (.ref d), some (.int i), some (.ref A0), some (vi r), some (.ref ra), some (.str (S m)), some (.ref D), some (.ref rl), y8, none, none, none, none, none] ∧ ButL rl H4 H' ∧ H' rl = some (.lst rus) ∧ All2 (MkAt H') rus x ∧ (∀ y ∈ x, y ∈ mks) ∧ x.length ≤ j)
          ⟨[], [], none, rfl, ButL.refl, hrl4, .nil, (fun y h => by cases h), Nat.zero_le _⟩ ?_ ?_
        · rintro j σ H5 hj ⟨rus, x, y8, rfl, b5, hrl5, hrus, hx, hxl⟩
          have hD5 := b5 _ _ (s4 _ _ hD3) nDr
          have hd5 := b5 _ _ (s4 _ _ hd3) ndr
          have hmk5 := hmks.mono fun v e h => (h.keep (Same.tk s4)).keep (b5.tk hrl4)
          refine ⟨_, rfl, D, mk, rfl, .inl (SqL.of hD5), _, 0, rfl, rfl, _, rfl, ite2 (fun e => ?_) (fun e => ?_)⟩
          · have hpos : (0 : Int) < ((mk.length : Nat) : Int) := of_decide_eq_true e
            refine ⟨_, rfl, .inl ⟨rfl, _, SqL.of hrl5⟩, _, rfl, _, rfl, _, rfl, i, 3, rfl, rfl, _, rfl, _, _, rfl, rfl, d, ds, _, rfl, hd5, hD, by omega, fun u u0 u1 => ?_⟩
            obtain ⟨z, c, hz, hcx, hcm⟩ := pick_mark hmk5 u0 hpos
            refine ⟨_, rfl, D, mk, rfl, .inl (SqL.of hD5), u, _, rfl, rfl, hpos, D, mk, _, z, rfl, rfl, SqL.of hD5, hz, rl, _, _, rfl, rfl, hrl5, ?_, ?_⟩
            · rw [hrus.len]
              exact Nat.lt_of_le_of_lt (show x.length ≤ 4 by omega) (by decide)
            · have b6 : ButL rl H5 (upd H5 rl (.lst (rus ++ [z]))) := ButL.upd
              have k6 := b6.tk hrl5
              refine ⟨rus ++ [z], x ++ [c], _, rfl, b5.trans b6, upd_same, (hrus.mono fun v e h => h.keep k6).snoc (hcx.keep k6), fun y hy => ?_, by rw [List.length_append]; exact Nat.succ_le_succ hxl⟩
              rcases List.mem_append.mp hy with h | h
              · exact hx y h
              · rw [List.mem_singleton.mp h]; exact hcm
          · exact ⟨rus, x, _, rfl, b5, hrl5, hrus, hx, Nat.le_succ_of_le hxl⟩
        · rintro σ H5 ⟨rus, x, y8, rfl, b5, hrl5, hrus, hx, hxl⟩
          have s35 : Same H3 H5 := b5.same hrl0 s4
          have eN5 := extN_tr eN3 (extN_of s35)
          have T5 := tc_keep T3 s35
          have hD5 := s35 _ _ hD3
          have hd5 := s35 _ _ hd3
          have hmk5 := hmks.mono fun v e h => h.keep (Same.tk s35)
          have R5 := R3.keep s35
          have hru5 := s35 _ _ hru3
          have hrd5 := hrd3.mono fun v e h => h.keep (Same.tk s35)
          have hxl4 : x.length ≤ 4 := by omega
          clear b5 s35 s4 hrl4 eN3 T3 hd3 R3 hru3 hrd3 hmks hD3 hrl0 hxl nDr ndr
          refine ⟨fun σ' H' => ∃ (bx : V) (b : Option Mark), σ' = [some (.ref d), some (.int i), some (.ref A0), some (vi r), some (.ref ra), some (.str (S m)), some (.ref D), some (.ref rl), y8, some bx, none, none, none, none] ∧ H5 = H' ∧ OMk H5 bx b ∧ ∀ y, b = some y → y ∈ mks, ?_, ?_⟩
          · refine ⟨_, rfl, D, mk, rfl, .inl (SqL.of hD5), _, 0, rfl, rfl, _, rfl, ite2 (fun e => ?_) (fun e => ?_)⟩
            · have hpos : (0 : Int) < ((mk.length : Nat) : Int) := of_decide_eq_true e
              refine ⟨_, rfl, _, rfl, i, 7, rfl, rfl, d, ds, _, rfl, hd5, hD, by omega, fun u u0 u1 => ⟨u, 5, rfl, rfl, (by show (0 : Int) < 5; decide), rfl, _, rfl, ite2 (fun e => ?_) (fun e => ?_)⟩⟩
              · refine ⟨_, rfl, _, rfl, _, rfl, i, 7, rfl, rfl, d, ds, _, rfl, hd5, hD, by omega, fun u u0 u1 => ⟨u, 5, rfl, rfl, ⟨by decide, by decide⟩, ?_⟩⟩
                obtain ⟨z, c, hz, hcx, hcm⟩ := pick_mark hmk5 (show 0 ≤ u / 5 by omega) hpos
                exact ⟨_, rfl, D, mk, rfl, .inl (SqL.of hD5), _, _, rfl, rfl, hpos, D, mk, _, z, rfl, rfl, SqL.of hD5, hz, z, some c, rfl, rfl, hcx, fun y e => by cases e; exact hcm⟩
              · exact ⟨.non, none, rfl, rfl, rfl, fun y e => by cases e⟩
            · exact ⟨.non, none, rfl, rfl, rfl, fun y e => by cases e⟩
          · rintro σ H6 ⟨bx, b, rfl, rfl, hbx, hbm⟩
            have hrl6 := hrl5
            refine ⟨_, rfl, _, rfl, (by show 1 ≤ sizeLine; decide), fun bl hbl => ?_⟩
            have s7 : Same H5 (upd H5 bl (.lst [bx])) := same_upd hbl
            have hbl7 : upd H5 bl (.lst [bx]) bl = some (.lst [bx]) := upd_same
            generalize upd H5 bl (.lst [bx]) = H7 at s7 hbl7
            refine ⟨rl, bl, rus, [bx], rfl, rfl, s7 _ _ hrl5, hbl7, ?_, fun pl hpl => ?_⟩
            · rw [hrus.len]
              exact Nat.le_trans (show x.length + 1 ≤ 5 by omega) (by decide)
            have s8 : Same H7 (upd H7 pl (.lst (rus ++ [bx]))) := same_upd hpl
            have hpl8 : upd H7 pl (.lst (rus ++ [bx])) pl = some (.lst (rus ++ [bx])) := upd_same
            generalize upd H7 pl (.lst (rus ++ [bx])) = H8 at s8 hpl8
            have s68 := Same.tr s7 s8
            have hob : All2 (OMk H8) (rus ++ [bx]) (x.map some ++ [b]) := all2_app (all2_some (hrus.mono fun v e h => h.keep (Same.tk s68))) (.cons (hbx.keep (Same.tk s68)) .nil)
            have eN8 := extN_tr eN5 (extN_of s68)
            have T8 := tc_keep T5 s68
            have hd8 := s68 _ _ hd5
            have R8 := R5.keep s68
            have hru8 := s68 _ _ hru5
            have hrd8 := hrd5.mono fun v e h => h.keep (Same.tk s68)
            have hrl8 := s68 _ _ hrl5
            have hrus8 := hrus.mono fun v e h => h.keep (Same.tk s68)
            have hbx8 := hbx.keep (Same.tk s68)
            clear s68 s7 s8 hbl hbl7 hpl hrl5 hrus hbx hrl6 eN5 T5 hd5 R5 hru5 hrd5 hmk5 hD5
            refine ⟨pl, rfl, ⟨_, SqL.of hpl8⟩, ?_⟩
            refine for_it walk_list (fun j σ H' => ∃ (n : Nat) (y11 : Option V), σ = [some (.ref d), some (.int i), some (.ref A0), some (vi r), some (.ref ra), some (.str (S m)), some (.ref D), some (.ref rl), y8, some bx, some (vi n), y11, none, none] ∧ H8 = H' ∧ (∀ B, EndsBy W B → n ≤ B + 1) ∧ ∀ (q : Nat) (y : Mark), q < j → (x.map some ++ [b])[q]? = some (some y) → y.1 < n)
              ⟨1, none, rfl, rfl, fun B _ => Nat.le_add_left _ _, fun q y hq => absurd hq (Nat.not_lt_zero _)⟩ (fun j σ H' _ ⟨_, _, _, e, _⟩ => by rw [← e]; exact SqL.of hpl8) ?_ ?_
            · rintro j z σ H9' H9 hj ⟨n, y11, rfl, rfl, hub, hn⟩ ⟨rfl, hz⟩
              obtain ⟨o, ho, hzo⟩ := hob.get hz
              cases o with
              | none =>
                obtain rfl : z = .non := hzo
                refine ⟨_, rfl, _, rfl, iteF ⟨n, _, rfl, rfl, hub, fun q y hq hy => ?_⟩⟩
                by_cases e : q = j
                · subst e; rw [ho] at hy; cases hy
                · exact hn q y (by omega) hy
              | some c =>
                obtain ⟨t, rfl, ht⟩ : MkAt _ z c := hzo
                have em : (if ((c.1 : Int) + 1) > (n : Int) then ((c.1 : Int) + 1) else (n : Int)) = ((max n (c.1 + 1) : Nat) : Int) := by split <;> omega
                refine ⟨_, rfl, _, rfl, iteT ⟨_, rfl, _, rfl, t, _, 0, _, rfl, rfl, SqT.of ht, rfl, _, 1, rfl, rfl, _, _, rfl, max n (c.1 + 1), some (.ref t), ?_, rfl, fun B hB => ?_, fun q y hq hy => ?_⟩⟩
                · exact congrArg (fun z => [some (V.ref d), some (V.int i), some (V.ref A0), some (vi r), some (V.ref ra), some (V.str (S m)), some (V.ref D), some (V.ref rl), y8, some bx, some (V.int z), some (V.ref t), none, none]) em
                · have h1 := hub B hB
                  have hcm : c ∈ mks := by
                    have hm2 := List.mem_of_getElem? ho
                    rcases List.mem_append.mp hm2 with h | h
                    · obtain ⟨y, hy, e⟩ := List.mem_map.mp h
                      cases e
                      exact hx _ hy
                    · exact hbm c (List.mem_singleton.mp h).symm
                  have h2 := mark_by (hmk c hcm) hB
                  omega
                · by_cases e : q = j
                  · subst e
                    rw [ho] at hy
                    cases hy
                    omega
                  · have := hn q y (by omega) hy
                    omega
            · rintro σ H9 ⟨n, y11, rfl, rfl, hub, hn⟩
              have hn1 : ∀ y ∈ x ++ b.toList, y.1 < n := fun y hy => by
                have hm : some y ∈ x.map some ++ [b] := by
                  rcases List.mem_append.mp hy with h | h
                  · exact List.mem_append_left _ (List.mem_map.mpr ⟨y, h, rfl⟩)
                  · cases b with
                    | none => cases h
                    | some c =>
                      rw [List.mem_singleton.mp (show y ∈ [c] from h)]
                      exact List.mem_append_right _ (List.mem_singleton.mpr rfl)
                obtain ⟨q, hq⟩ := List.mem_iff_getElem?.mp hm
                exact hn q y (by rw [hob.len]; exact (List.getElem?_eq_some_iff.mp hq).1) hq
              clear hn hob
              refine ⟨_, rfl, ra, rfl, ⟨_, SqL.of hru8⟩, ?_⟩
              refine for_it walk_list (fun j σ H' => ∃ (n' : Nat) (y12 : Option V), σ = [some (.ref d), some (.int i), some (.ref A0), some (vi r), some (.ref ra), some (.str (S m)), some (.ref D), some (.ref rl), y8, some bx, some (vi n'), y11, y12, none] ∧ H8 = H' ∧ n ≤ n' ∧ (∀ B, EndsBy W B → n' ≤ B + 1) ∧ ∀ (q : Nat) (e : Deed), q < j → (W r)[q]? = some e → endD e ≤ n')
                ⟨n, none, rfl, rfl, Nat.le_refl _, hub, fun q y hq => absurd hq (Nat.not_lt_zero _)⟩ (fun j σ H' _ ⟨_, _, _, e, _⟩ => by rw [← e]; exact SqL.of hru8) ?_ ?_
              · rintro j z σ H9' H9 hj ⟨n', y12, rfl, rfl, hnn, hub', hn⟩ ⟨rfl, hz⟩
                obtain ⟨e, he, hze⟩ := hrd8.get hz
                cases e with
                | back q' =>
                  obtain ⟨t, rfl, ht⟩ := hze
                  refine ⟨_, rfl, t, _, 0, _, rfl, rfl, SqT.of ht, rfl, rfl, _, rfl, iteF ⟨n', _, rfl, rfl, hnn, hub', fun q y hq hy => ?_⟩⟩
                  by_cases e : q = j
                  · subst e; rw [he] at hy; cases hy; exact Nat.zero_le _
                  · exact hn q y (by omega) hy
                | change m' rem b' n2 t' =>
                  obtain ⟨td, tr, um, bx', rfl, htd, _⟩ := hze
                  have hl : (S t').length = t'.length := S_len t'
                  have htl := (((hF r hr8).2 _ (List.mem_of_getElem? he)).m _ _ _ _ _ rfl).2.2.2.2
                  have em : (if ((n2 : Int) + ((S t').length : Int)) > (n' : Int) then ((n2 : Int) + ((S t').length : Int)) else (n' : Int)) = ((max n' (n2 + t'.length) : Nat) : Int) := by
                    rw [hl]
                    split <;> omega
                  refine ⟨_, rfl, td, _, 0, _, rfl, rfl, SqT.of htd, rfl, rfl, _, rfl, iteT ?_⟩
                  refine ⟨_, rfl, _, rfl, td, _, 4, _, rfl, rfl, SqT.of htd, rfl, _, rfl, td, _, 5, _, rfl, rfl, SqT.of htd, rfl, S t', rfl, ?_⟩
                  refine ⟨by rw [hl]; exact Nat.le_trans htl (by decide), _, _, rfl, rfl, _, _, rfl, max n' (n2 + t'.length), some (.ref td), ?_, rfl, by omega, fun B hB => ?_, fun q y hq hy => ?_⟩
                  · exact congrArg (fun z => [some (V.ref d), some (V.int i), some (V.ref A0), some (vi r), some (V.ref ra), some (V.str (S m)), some (V.ref D), some (V.ref rl), y8, some bx, some (V.int z), y11, some (V.ref td), none]) em
                  · have h1 := hub' B hB
                    have h2 : n2 + t'.length ≤ B := hB r hr8 _ (List.mem_of_getElem? he)
                    omega
                  · by_cases e : q = j
                    · subst e; rw [he] at hy; cases hy
                      show n2 + t'.length ≤ _
                      omega
                    · have := hn q y (by omega) hy
                      omega
              · rintro σ H9 ⟨n', y12, rfl, rfl, hnn, hub', hn⟩
                have hn2 : ∀ e ∈ W r, endD e ≤ n' := fun e he => by
                  obtain ⟨q, hq⟩ := List.mem_iff_getElem?.mp he
                  exact hn q e (by rw [hurl]; exact (List.getElem?_eq_some_iff.mp hq).1) hq
                clear hn
                refine ⟨_, rfl, (by show 4 ≤ sizeLine; decide), fun ll hll => ?_⟩
                have s9 : Same H8 (upd H8 ll (.lst [.int 0, .int 0, .int 1, .int 5])) := same_upd hll
                have g9 : upd H8 ll (.lst [.int 0, .int 0, .int 1, .int 5]) ll = some (.lst [.int 0, .int 0, .int 1, .int 5]) := upd_same
                generalize upd H8 ll (.lst [.int 0, .int 0, .int 1, .int 5]) = H9 at s9 g9
                have hd9 := s9 _ _ hd8
                refine ⟨_, rfl, _, rfl, i, 8, rfl, rfl, d, ds, _, rfl, hd9, hD, by omega, fun u u0 u1 => ⟨u, 4, rfl, rfl, (by show (0 : Int) < 4; decide), ?_⟩⟩
                obtain ⟨c, hc, hc5⟩ : ∃ c : Nat, atI [V.int 0, V.int 0, V.int 1, V.int 5] (u % 4) = some (vi c) ∧ c ≤ 5 := by
                  have : u % 4 = 0 ∨ u % 4 = 1 ∨ u % 4 = 2 ∨ u % 4 = 3 := by omega
                  rcases this with e | e | e | e <;> rw [e]
                  · exact ⟨0, rfl, by decide⟩
                  · exact ⟨0, rfl, by decide⟩
                  · exact ⟨1, rfl, by decide⟩
                  · exact ⟨5, rfl, by decide⟩
                refine ⟨ll, _, _, _, rfl, rfl, SqL.of g9, hc, _, _, rfl, rfl, ?_⟩
                refine ⟨fun σ' H' => ∃ (N : Nat), σ' = [some (.ref d), some (.int i), some (.ref A0), some (vi r), some (.ref ra), some (.str (S m)), some (.ref D), some (.ref rl), y8, some bx, some (vi N), y11, y12, none] ∧ H9 = H' ∧ n' ≤ N ∧ ∀ B, EndsBy W B → N ≤ B + 6, ?_, ?_⟩
                · refine ⟨_, rfl, _, rfl, i, 8, rfl, rfl, d, ds, _, rfl, hd9, hD, by omega, fun u u0 u1 => ⟨u, 4, rfl, rfl, ⟨by decide, by decide⟩, _, 2, rfl, rfl, (by show (0 : Int) < 2; decide), rfl, _, rfl, ite2 (fun e => ?_) (fun e => ?_)⟩⟩
                  · refine ⟨_, rfl, _, rfl, A0, rs, W, rfl, R8.keep s9, hF, fun q hq => ?_⟩
                    have em : (if ((q : Int) + 1) > ((n' : Int) + (c : Int)) then ((q : Int) + 1) else ((n' : Int) + (c : Int))) = ((max (n' + c) (q + 1) : Nat) : Int) := by split <;> omega
                    refine ⟨_, 1, rfl, rfl, _, _, rfl, max (n' + c) (q + 1), ?_, rfl, by omega, fun B hB => ?_⟩
                    · exact congrArg (fun z => [some (V.ref d), some (V.int i), some (V.ref A0), some (vi r), some (V.ref ra), some (V.str (S m)), some (V.ref D), some (V.ref rl), y8, some bx, some (V.int z), y11, y12, none]) em
                    · have h1 := hub' B hB
                      have h2 : q ≤ B := (hq B).mpr hB
                      omega
                  · exact ⟨n' + c, rfl, rfl, by omega, fun B hB => by have h1 := hub' B hB; omega⟩
                · rintro σ H10 ⟨N, rfl, rfl, hN, hNB⟩
                  refine ⟨_, rfl, _, rfl, rl, rus, rfl, .inl ⟨SqL.of (s9 _ _ hrl8), fun tr htr => ?_⟩⟩
                  have s10 : Same H9 (upd H9 tr (.tup rus)) := same_upd htr
                  have g10 : upd H9 tr (.tup rus) tr = some (.tup rus) := upd_same
                  generalize upd H9 tr (.tup rus) = H10 at s10 g10
                  refine ⟨_, rfl, _, rfl, _, rfl, _, rfl, i, 9, rfl, rfl, d, ds, _, rfl, s10 _ _ hd9, hD, by omega, fun t ht htl => ⟨(by show 6 ≤ sizeLine; decide), fun tt htt => ?_⟩⟩
                  have s11 : Same H10 (upd H10 tt (.tup [.str "change", .str (S m), .ref tr, bx, vi N, .str (S t)])) := same_upd htt
                  have s811 := Same.tr s9 (Same.tr s10 s11)
                  refine qq _ _ (.change m x b N t) (extN_tr eN8 (extN_of s811)) (tc_keep T8 s811) ⟨tt, tr, rus, bx, rfl, upd_same, s11 _ _ g10, hrus8.mono fun v e h => h.keep (Same.tk s811), hbx8.keep (Same.tk s811)⟩ ⟨⟨fun _ _ _ _ _ z => ?_⟩, fun _ _ _ _ _ z e he => ?_, fun _ _ _ _ _ z y hy => ?_⟩ (fun _ _ _ _ _ z => by cases z; exact ⟨hxl4, htl, hNB⟩) fun n' z => (by cases z)
                  · cases z
                    exact ⟨hmok.1, ht, hmok.2, by omega, by omega⟩
                  · cases z
                    exact Nat.le_trans (hn2 e he) hN
                  · cases z
                    refine ⟨hmk y ?_, by have := hn1 y hy; omega⟩
                    rcases List.mem_append.mp hy with h | h
                    · exact hx y h
                    · cases b with
                      | none => cases h
                      | some c' =>
                        rw [List.mem_singleton.mp (show y ∈ [c'] from h)]
                        exact hbm c' rfl
end
end Q07
namespace DM
open PySem PySem.Spec PyProof.Rows L2 SX HL
/-! ## the row as a chain: what follows what -/
def slotM (b : Option Mark) (L : List Mark) : Nat := match b with
  | none => 0
  | some x => L.idxOf x + 1
def mput (L : List Mark) (e : EntF) : List Mark := L.insertIdx (slotM e.2.1 L) e.1
def order (es : List EntF) : List Mark := es.foldl mput []
theorem order_snoc (es : List EntF) (e : EntF) : order (es ++ [e]) = mput (order es) e := by
  unfold order
  rw [List.foldl_append]
  rfl
theorem map_insertIdx {α β : Type} (f : α → β) : ∀ (i : Nat) (l : List α) (x : α), (l.insertIdx i x).map f = (l.map f).insertIdx i (f x)
  | 0, l, x => rfl
  | i + 1, [], x => rfl
  | i + 1, a :: l, x => by
    show f a :: (l.insertIdx i x).map f = f a :: (l.map f).insertIdx i (f x)
    rw [map_insertIdx f i l x]
theorem build_order (rm : List Mark) (es : List EntF) : (build rm es).map (·.1) = order es := by
  have h : ∀ (es : List EntF) (row : List Cel), (es.foldl (put rm) row).map (·.1) = es.foldl mput (row.map (·.1)) := by
    intro es
    induction es with
    | nil => intro row; rfl
    | cons e es ih =>
      intro row
      show ((es.foldl (put rm) (put rm row e)).map (·.1)) = es.foldl mput (mput (row.map (·.1)) e)
      rw [ih]
      congr 1
      unfold put mput
      rw [map_insertIdx]
      congr 1
  exact h es []
/-- behind none stands the first, behind each one the next -/
def nxt (L : List Mark) : Option Mark → Option (Option Mark)
  | none => some L[0]?
  | some x => if x ∈ L then some L[L.idxOf x + 1]? else none
theorem nxt_at {L : List Mark} (nd : L.Nodup) {i : Nat} {x : Mark} (h : L[i]? = some x) : nxt L (some x) = some L[i + 1]? := by
  have hm := List.mem_of_getElem? h
  have : L.idxOf x = i := by
    obtain ⟨h1, h2⟩ := List.getElem?_eq_some_iff.mp h
    rw [← h2]
    exact nd.idxOf_getElem i h1
  show (if x ∈ L then _ else _) = _
  rw [if_pos hm, this]
theorem nxt_ins {L : List Mark} (nd : L.Nodup) {b : Option Mark} {x : Mark} (hx : x ∉ L) (hb : ∀ y, b = some y → y ∈ L) (j : Option Mark) :
    nxt (L.insertIdx (slotM b L) x) j = if j = b then some (some x) else if j = some x then nxt L b else nxt L j := by
  -- where b stands
  have hk : slotM b L ≤ L.length := by
    cases b with
    | none => exact Nat.zero_le _
    | some y => exact List.idxOf_lt_length_of_mem (hb y rfl)
  have hlen : (L.insertIdx (slotM b L) x).length = L.length + 1 := List.length_insertIdx_of_le_length hk _
  have nd' : (L.insertIdx (slotM b L) x).Nodup := by
    rw [(List.perm_insertIdx x L hk).nodup_iff]
    exact List.nodup_cons.mpr ⟨hx, nd⟩
  have mem' : ∀ y, y ∈ L.insertIdx (slotM b L) x ↔ y = x ∨ y ∈ L := fun y => by
    rw [(List.perm_insertIdx x L hk).mem_iff]
    exact List.mem_cons
  have hnb : nxt L b = some L[slotM b L]? := by
    cases b with
    | none => rfl
    | some y =>
      show (if y ∈ L then _ else _) = _
      rw [if_pos (hb y rfl)]
      rfl
  have at_self : (L.insertIdx (slotM b L) x)[slotM b L]? = some x := by
    rw [List.getElem?_insertIdx]
    simp [hk]
  have at_lt : ∀ i, i < slotM b L → (L.insertIdx (slotM b L) x)[i]? = L[i]? := fun i hi => by
    rw [List.getElem?_insertIdx]
    simp [hi]
  have at_gt : ∀ i, slotM b L ≤ i → (L.insertIdx (slotM b L) x)[i + 1]? = L[i]? := fun i hi => by
    rw [List.getElem?_insertIdx]
    have h1 : ¬ i + 1 < slotM b L := by omega
    have h2 : ¬ i + 1 = slotM b L := by omega
    simp [h1, h2]
  have hbn : b ≠ some x := fun e => hx (hb x e)
  by_cases e1 : j = b
  · rw [if_pos e1]
    subst e1
    cases j with
    | none =>
      show some _ = _
      have : slotM none L = 0 := rfl
      rw [this] at at_self ⊢
      rw [at_self]
    | some y =>
      have hy := hb y rfl
      have hi : L[L.idxOf y]? = some y := by
        rw [List.getElem?_eq_getElem (List.idxOf_lt_length_of_mem hy), List.getElem_idxOf]
      have h1 : (L.insertIdx (slotM (some y) L) x)[L.idxOf y]? = some y := by
        rw [at_lt _ (Nat.lt_succ_self _), hi]
      rw [nxt_at nd' h1]
      have : slotM (some y) L = L.idxOf y + 1 := rfl
      rw [this] at at_self ⊢
      rw [at_self]
  · rw [if_neg e1]
    by_cases e2 : j = some x
    · rw [if_pos e2, hnb, e2, nxt_at nd' at_self, at_gt _ (Nat.le_refl _)]
    · rw [if_neg e2]
      cases j with
      | none =>
        show some _ = some _
        cases b with
        | none => exact absurd rfl e1
        | some y => rw [at_lt 0 (Nat.succ_pos _)]
      | some z =>
        have hzx : z ≠ x := fun e => e2 (by rw [e])
        by_cases hz : z ∈ L
        · have hi : L[L.idxOf z]? = some z := by
            rw [List.getElem?_eq_getElem (List.idxOf_lt_length_of_mem hz), List.getElem_idxOf]
          rw [nxt_at nd hi]
          by_cases hlt : L.idxOf z < slotM b L
          · have h1 : (L.insertIdx (slotM b L) x)[L.idxOf z]? = some z := by rw [at_lt _ hlt, hi]
            rw [nxt_at nd' h1]
            -- the next one stands before the slot too, as z is not b
            have h2 : L.idxOf z + 1 < slotM b L := by
              cases b with
              | none => exact absurd hlt (Nat.not_lt_zero _)
              | some y =>
                have hy := hb y rfl
                have hne : L.idxOf z ≠ L.idxOf y := fun e => e1 (by
                  have a1 := List.getElem?_eq_getElem (List.idxOf_lt_length_of_mem hy)
                  rw [List.getElem_idxOf] at a1
                  rw [← e, hi] at a1
                  exact a1)
                have : L.idxOf z < L.idxOf y + 1 := hlt
                show L.idxOf z + 1 < L.idxOf y + 1
                omega
            rw [at_lt _ h2]
          · have h1 : (L.insertIdx (slotM b L) x)[L.idxOf z + 1]? = some z := by rw [at_gt _ (by omega), hi]
            rw [nxt_at nd' h1, at_gt _ (by omega)]
        · have h1 : z ∉ L.insertIdx (slotM b L) x := fun h => (mem' z).mp h |>.elim hzx hz
          show (if z ∈ _ then _ else _) = (if z ∈ L then _ else _)
          rw [if_neg h1, if_neg hz]
/-- a list with these images -/
theorem perm_lift {α β : Type} (f : α → β) : ∀ {m : List β} {l : List α}, m.Perm (l.map f) → ∃ l' : List α, l'.map f = m ∧ l'.Perm l := by
  have key : ∀ {m k : List β}, m.Perm k → ∀ l : List α, l.map f = k → ∃ l' : List α, l'.map f = m ∧ l'.Perm l := by
    intro m k h
    induction h with
    | nil =>
      intro l e
      rw [List.map_eq_nil_iff.mp e]
      exact ⟨[], rfl, .refl _⟩
    | cons x _ ih =>
      intro l e
      cases l with
      | nil => cases e
      | cons a l =>
        rw [List.map_cons] at e
        injection e with e1 e2
        obtain ⟨l', h1, h2⟩ := ih l e2
        exact ⟨a :: l', by rw [List.map_cons, h1, e1], h2.cons _⟩
    | swap x y l =>
      intro k e
      match k, e with
      | a :: b :: k, e =>
        simp only [List.map_cons] at e
        injection e with e1 e2
        injection e2 with e2 e3
        exact ⟨b :: a :: k, by simp [e1, e2, e3], .swap ..⟩
    | trans _ _ ih1 ih2 =>
      intro l e
      obtain ⟨l', h1, h2⟩ := ih2 l e
      obtain ⟨l'', h3, h4⟩ := ih1 l' h1
      exact ⟨l'', h3, h4.trans h2⟩
  exact fun {m l} h => key h l rfl
theorem mlt_antisymm {a b : Mark} (h : mlt a b) (k : mlt b a) : False := mlt_irrefl (mlt_trans h k)
/-- sorted marks of a module: its entries, sorted -/
theorem srt_lift {rows : Rows} (G : Good rows) {m : List Nat} {ms : List Mark} (hp : ms.Perm (marks rows m)) (hs : ms.Pairwise fun a b => ¬ mlt b a) : ∃ es, es.map (·.1) = ms ∧ Srt rows m es := by
  obtain ⟨es, h1, h2⟩ := perm_lift (fun e : EntF => e.1) hp
  refine ⟨es, h1, h2, ?_⟩
  have nd : ms.Nodup := hp.nodup_iff.mpr (marks_nodup G m)
  rw [← h1] at nd hs
  have n1 : es.Pairwise fun a b => a.1 ≠ b.1 := List.pairwise_map.mp nd
  have s1 : es.Pairwise fun a b => ¬ mlt b.1 a.1 := List.pairwise_map.mp hs
  exact (n1.and s1).imp fun {a b} h => (mlt_total h.1).resolve_right h.2
/-- there is only one -/
theorem srt_uniq {rows : Rows} {m : List Nat} {es fs : List EntF} (E : Srt rows m es) (F : Srt rows m fs) : es = fs := by
  have key : ∀ (es fs : List EntF), es.Perm fs → (es.Pairwise fun a b => mlt a.1 b.1) → (fs.Pairwise fun a b => mlt a.1 b.1) → es = fs := by
    intro es
    induction es with
    | nil => intro fs h _ _; exact (List.Perm.nil_eq h)
    | cons e es ih =>
      intro fs h h1 h2
      cases fs with
      | nil => exact absurd h.length_eq (by simp)
      | cons f fs =>
        have hef : e = f := by
          rcases List.mem_cons.mp (h.mem_iff.mp (List.mem_cons_self ..)) with q | q
          · exact q
          · rcases List.mem_cons.mp (h.mem_iff.mpr (List.mem_cons_self (a := f) ..)) with q' | q'
            · exact q'.symm
            · exact (mlt_antisymm ((List.pairwise_cons.mp h1).1 f q') ((List.pairwise_cons.mp h2).1 e q)).elim
        subst hef
        rw [ih fs h.cons_inv (List.pairwise_cons.mp h1).2 (List.pairwise_cons.mp h2).2]
  exact key _ _ (E.perm.trans F.perm.symm) E.lt F.lt
/-- each cell is an entry's -/
theorem build_mem (rm : List Mark) (es : List EntF) : ∀ c ∈ build rm es, ∃ e ∈ es, c = (e.1, e.2.2.1, e.2.2.2 && !decide (e.1 ∈ rm)) := by
  have h : ∀ (es : List EntF) (row : List Cel), ∀ c ∈ es.foldl (put rm) row, c ∈ row ∨ ∃ e ∈ es, c = (e.1, e.2.2.1, e.2.2.2 && !decide (e.1 ∈ rm)) := by
    intro es
    induction es with
    | nil => exact fun row c h => .inl h
    | cons e es ih =>
      intro row c hc
      rcases ih (put rm row e) c hc with h | ⟨e', h1, h2⟩
      · unfold put at h
        by_cases hk : slot e.2.1 row ≤ row.length
        · rcases (List.mem_insertIdx hk).mp h with h | h
          · exact .inr ⟨e, List.mem_cons_self .., h⟩
          · exact .inl h
        · rw [List.insertIdx_of_length_lt (by omega)] at h
          exact .inl h
      · exact .inr ⟨e', List.mem_cons_of_mem _ h1, h2⟩
  exact fun c hc => (h es [] c hc).resolve_left (fun h => by cases h)
theorem order_facts {rows : Rows} {m : List Nat} {es : List EntF} (G : Good rows) (S : Srt rows m es) (i : Nat) (hi : i ≤ es.length) :
    (order (es.take i)).Nodup ∧ (order (es.take i)).length = i ∧ ∀ e, es[i]? = some e → e.1 ∉ order (es.take i) ∧ ∀ y, e.2.1 = some y → y ∈ order (es.take i) := by
  obtain ⟨h1, h2⟩ := build_perm G S [] i hi
  rw [build_order] at h1 h2
  have nd : (es.map (·.1)).Nodup := (S.perm.map (fun e : EntF => e.1)).nodup_iff.mpr (marks_nodup G m)
  have ndi : ((es.take i).map (·.1)).Nodup := by
    rw [List.map_take]
    exact nd.sublist (List.take_sublist ..)
  refine ⟨h1.nodup_iff.mpr ndi, by rw [h1.length_eq, List.length_map, List.length_take]; omega, fun e he => ⟨fun hm => ?_, h2 e he⟩⟩
  have hm' := h1.mem_iff.mp hm
  rw [List.map_take] at hm'
  obtain ⟨j, hj⟩ := List.mem_iff_getElem?.mp hm'
  rw [List.getElem?_take] at hj
  split at hj
  · rename_i hji
    have he' : (es.map (·.1))[i]? = some e.1 := by rw [List.getElem?_map, he]; rfl
    have := (List.getElem?_inj (List.getElem?_eq_some_iff.mp hj).1 nd).mp (hj.trans he'.symm)
    omega
  · cases hj
end DM
namespace DM
open PySem PySem.Spec PyProof.Rows L2 SX HL
/-! ## nothing moves a character; only greater ones stand between -/
abbrev Pr := Mark × Option Mark
def pr (e : EntF) : Pr := (e.1, e.2.1)
def pput (L : List Mark) (p : Pr) : List Mark := L.insertIdx (slotM p.2 L) p.1
def ordP (ps : List Pr) : List Mark := ps.foldl pput []
theorem ordP_snoc (ps : List Pr) (p : Pr) : ordP (ps ++ [p]) = pput (ordP ps) p := by
  unfold ordP
  rw [List.foldl_append]
  rfl
theorem order_ordP (es : List EntF) : order es = ordP (es.map pr) := by
  unfold order ordP
  rw [List.foldl_map]
  rfl
/-- all that a chain of insertions wants -/
structure Chn (ps : List Pr) : Prop where
  f : ∀ i p, i ≤ ps.length → ps[i]? = some p → p.1 ∉ ordP (ps.take i) ∧ ∀ y, p.2 = some y → y ∈ ordP (ps.take i)
  nd : ∀ i, i ≤ ps.length → (ordP (ps.take i)).Nodup
theorem chn_of {R : Rows} {m : List Nat} {es : List EntF} (G : Good R) (S : Srt R m es) : Chn (es.map pr) := by
  have h : ∀ i, i ≤ es.length → ordP ((es.map pr).take i) = order (es.take i) := fun i _ => by rw [order_ordP, List.map_take]
  refine ⟨fun i p hi hp => ?_, fun i hi => ?_⟩
  · rw [List.length_map] at hi
    rw [List.getElem?_map] at hp
    cases q : es[i]? with
    | none => rw [q] at hp; cases hp
    | some e =>
      rw [q] at hp
      cases hp
      rw [h i hi]
      exact (order_facts G S i hi).2.2 e q
  · rw [List.length_map] at hi
    rw [h i hi]
    exact (order_facts G S i hi).1
theorem slotM_le {b : Option Mark} {L : List Mark} (h : ∀ y, b = some y → y ∈ L) : slotM b L ≤ L.length := by
  cases b with
  | none => exact Nat.zero_le _
  | some y => exact List.idxOf_lt_length_of_mem (h y rfl)
theorem mem_pput {L : List Mark} {p : Pr} (h : ∀ y, p.2 = some y → y ∈ L) (z : Mark) : z ∈ pput L p ↔ z = p.1 ∨ z ∈ L := by
  unfold pput
  rw [(List.perm_insertIdx p.1 L (slotM_le h)).mem_iff]
  exact List.mem_cons
theorem insIdx_eq {α : Type} (x : α) : ∀ (i : Nat) (l : List α), i ≤ l.length → l.insertIdx i x = l.take i ++ x :: l.drop i
  | 0, l, _ => rfl
  | i + 1, [], h => absurd h (Nat.not_succ_le_zero _)
  | i + 1, a :: l, h => by
    show a :: l.insertIdx i x = a :: (l.take i ++ x :: l.drop i)
    rw [insIdx_eq x i l (Nat.le_of_succ_le_succ h)]
/-- the slot among those that are kept -/
theorem slot_filter {S : Mark → Bool} {b : Option Mark} {L : List Mark} (h : ∀ y, b = some y → y ∈ L ∧ S y = true) :
    (L.take (slotM b L)).filter S = (L.filter S).take (slotM b (L.filter S)) ∧ (L.drop (slotM b L)).filter S = (L.filter S).drop (slotM b (L.filter S)) := by
  cases b with
  | none => exact ⟨rfl, rfl⟩
  | some y =>
    obtain ⟨hy, hS⟩ := h y rfl
    clear h
    show (L.take (L.idxOf y + 1)).filter S = (L.filter S).take ((L.filter S).idxOf y + 1) ∧ (L.drop (L.idxOf y + 1)).filter S = (L.filter S).drop ((L.filter S).idxOf y + 1)
    induction L with
    | nil => cases hy
    | cons a L ih =>
      by_cases e : a = y
      · subst e
        simp [List.idxOf_cons, hS]
      · have hy' : y ∈ L := (List.mem_cons.mp hy).resolve_left (fun z => e z.symm)
        obtain ⟨h1, h2⟩ := ih hy'
        have e1 : (a :: L).idxOf y = L.idxOf y + 1 := by
          rw [List.idxOf_cons]
          have : (a == y) = false := beq_eq_false_iff_ne.mpr e
          rw [this]
          rfl
        rw [e1]
        cases ha : S a with
        | true =>
          have e2 : (a :: L).filter S = a :: L.filter S := by rw [List.filter_cons, if_pos ha]
          have e3 : (a :: L.filter S).idxOf y = (L.filter S).idxOf y + 1 := by
            rw [List.idxOf_cons]
            have : (a == y) = false := beq_eq_false_iff_ne.mpr e
            rw [this]
            rfl
          rw [e2, e3, List.take_succ_cons, List.drop_succ_cons, List.take_succ_cons, List.drop_succ_cons, List.filter_cons, if_pos ha, h1]
          exact ⟨rfl, h2⟩
        | false =>
          have hf : ¬ S a = true := by rw [ha]; exact Bool.false_ne_true
          have e2 : (a :: L).filter S = L.filter S := by rw [List.filter_cons, if_neg hf]
          rw [e2, List.take_succ_cons, List.drop_succ_cons, List.filter_cons, if_neg hf]
          exact ⟨h1, h2⟩
/-- the characters of some changes, among those of more: in the same order -/
theorem ordP_filter {ps : List Pr} (C : Chn ps) (S : Mark → Bool) (hS : ∀ p ∈ ps, S p.1 = true → ∀ y, p.2 = some y → S y = true) : (ordP ps).filter S = ordP (ps.filter fun p => S p.1) := by
  have key : ∀ i, i ≤ ps.length → (ordP (ps.take i)).filter S = ordP ((ps.take i).filter fun p => S p.1) := by
    intro i
    induction i with
    | zero => exact fun _ => rfl
    | succ i ih =>
      intro hi
      have hp : ps[i]? = some ps[i] := List.getElem?_eq_getElem (by omega)
      generalize ps[i] = p at hp
      obtain ⟨c1, c2⟩ := C.f i p (by omega) hp
      rw [take_snoc hp, ordP_snoc, List.filter_append]
      have ih' := ih (by omega)
      unfold pput
      rw [insIdx_eq _ _ _ (slotM_le c2), List.filter_append]
      cases hx : S p.1 with
      | true =>
        have hb : ∀ y, p.2 = some y → y ∈ ordP (ps.take i) ∧ S y = true := fun y hy => ⟨c2 y hy, hS p (List.mem_of_getElem? hp) hx y hy⟩
        obtain ⟨s1, s2⟩ := slot_filter hb
        have e1 : ([p].filter fun p => S p.1) = [p] := by rw [List.filter_cons, if_pos hx]; rfl
        have hmem : ∀ y, p.2 = some y → y ∈ (ordP (ps.take i)).filter S := fun y hy => List.mem_filter.mpr (hb y hy)
        rw [e1, ordP_snoc, ← ih', List.filter_cons, if_pos hx, s1, s2]
        unfold pput
        rw [insIdx_eq _ _ _ (slotM_le hmem)]
      | false =>
        have hf : ¬ S p.1 = true := by rw [hx]; exact Bool.false_ne_true
        have e1 : ([p].filter fun p => S p.1) = [] := by rw [List.filter_cons, if_neg hf]; rfl
        rw [e1, List.append_nil, ← ih', List.filter_cons, if_neg hf, ← List.filter_append, List.take_append_drop]
  have := key ps.length (Nat.le_refl _)
  rwa [List.take_length] at this
/-! ### between a character and the one behind which it was inserted -/
def Btw (L : List Mark) (p : Pr) : Prop := slotM p.2 L ≤ L.idxOf p.1 ∧ ∀ (j : Nat) (o : Mark), slotM p.2 L ≤ j → j < L.idxOf p.1 → L[j]? = some o → ¬ mlt o p.1
theorem idx_at {L : List Mark} (nd : L.Nodup) {i : Nat} {x : Mark} (h : L[i]? = some x) : L.idxOf x = i := by
  obtain ⟨h1, h2⟩ := List.getElem?_eq_some_iff.mp h
  rw [← h2]
  exact nd.idxOf_getElem i h1
theorem at_idx {L : List Mark} {x : Mark} (h : x ∈ L) : L[L.idxOf x]? = some x := by
  rw [List.getElem?_eq_getElem (List.idxOf_lt_length_of_mem h), List.getElem_idxOf]
theorem btw_all {ps : List Pr} (C : Chn ps) (lt : ps.Pairwise fun a b => mlt a.1 b.1) : ∀ p ∈ ps, Btw (ordP ps) p := by
  have mem : ∀ i, i ≤ ps.length → ∀ p ∈ ps.take i, p.1 ∈ ordP (ps.take i) ∧ ∀ y, p.2 = some y → y ∈ ordP (ps.take i) := by
    intro i
    induction i with
    | zero => intro _ p h; simp at h
    | succ i ih =>
      intro hi p h
      have hq : ps[i]? = some ps[i] := List.getElem?_eq_getElem (by omega)
      generalize ps[i] = q at hq
      obtain ⟨c1, c2⟩ := C.f i q (by omega) hq
      rw [take_snoc hq] at h ⊢
      rw [ordP_snoc]
      rcases List.mem_append.mp h with h | h
      · obtain ⟨m1, m2⟩ := ih (by omega) p h
        exact ⟨(mem_pput c2 _).mpr (.inr m1), fun y hy => (mem_pput c2 _).mpr (.inr (m2 y hy))⟩
      · rw [List.mem_singleton.mp h]
        exact ⟨(mem_pput c2 _).mpr (.inl rfl), fun y hy => (mem_pput c2 _).mpr (.inr (c2 y hy))⟩
  have key : ∀ i, i ≤ ps.length → ∀ p ∈ ps.take i, Btw (ordP (ps.take i)) p := by
    intro i
    induction i with
    | zero => intro _ p h; simp at h
    | succ i ih =>
      intro hi p h
      have hq : ps[i]? = some ps[i] := List.getElem?_eq_getElem (by omega)
      have hlt : ∀ p ∈ ps.take i, mlt p.1 ps[i].1 := fun p hp => by
        obtain ⟨j, hj⟩ := List.mem_iff_getElem?.mp hp
        rw [List.getElem?_take] at hj
        split at hj
        · rename_i hji
          obtain ⟨h1, h2⟩ := List.getElem?_eq_some_iff.mp hj
          have := List.pairwise_iff_getElem.mp lt j i h1 (by omega) hji
          rwa [h2] at this
        · cases hj
      generalize ps[i] = q at hq hlt
      obtain ⟨c1, c2⟩ := C.f i q (by omega) hq
      have nd := C.nd i (by omega)
      have nd' := C.nd (i + 1) hi
      have hk := slotM_le c2
      rw [take_snoc hq, ordP_snoc] at nd'
      rw [take_snoc hq] at h ⊢
      rw [ordP_snoc]
      have mi := mem i (by omega)
      have ih' := ih (by omega)
      generalize ordP (ps.take i) = L at *
      have at_self : (pput L q)[slotM q.2 L]? = some q.1 := by
        unfold pput
        rw [List.getElem?_insertIdx]
        simp [hk]
      have at_lt : ∀ j, j < slotM q.2 L → (pput L q)[j]? = L[j]? := fun j hj => by
        unfold pput
        rw [List.getElem?_insertIdx]
        simp [hj]
      have at_gt : ∀ j, slotM q.2 L ≤ j → (pput L q)[j + 1]? = L[j]? := fun j hj => by
        unfold pput
        rw [List.getElem?_insertIdx]
        have h1 : ¬ j + 1 < slotM q.2 L := by omega
        have h2 : ¬ j + 1 = slotM q.2 L := by omega
        simp [h1, h2]
      have ix : ∀ z ∈ L, (pput L q).idxOf z = if L.idxOf z < slotM q.2 L then L.idxOf z else L.idxOf z + 1 := fun z hz => by
        have hz' := at_idx hz
        split
        · rename_i hlt
          exact idx_at nd' (by rw [at_lt _ hlt]; exact hz')
        · rename_i hge
          exact idx_at nd' (by rw [at_gt _ (by omega)]; exact hz')
      have sx : ∀ b : Option Mark, (∀ y, b = some y → y ∈ L) → slotM b (pput L q) = match b with | none => 0 | some y => (if L.idxOf y < slotM q.2 L then L.idxOf y else L.idxOf y + 1) + 1 := fun b hb => by
        cases b with
        | none => rfl
        | some y =>
          show (pput L q).idxOf y + 1 = _
          rw [ix y (hb y rfl)]
      rcases List.mem_append.mp h with h | h
      · obtain ⟨m1, m2⟩ := mi p h
        obtain ⟨b1, b2⟩ := ih' p h
        have e1 := ix p.1 m1
        have e2 := sx p.2 m2
        have hsl : slotM p.2 (pput L q) ≤ (pput L q).idxOf p.1 ∧ ∀ j, slotM p.2 (pput L q) ≤ j → j < (pput L q).idxOf p.1 → j = slotM q.2 L ∨ ∃ j', slotM p.2 L ≤ j' ∧ j' < L.idxOf p.1 ∧ (pput L q)[j]? = L[j']? := by
          rw [e1, e2]
          cases hb : p.2 with
          | none =>
            refine ⟨Nat.zero_le _, fun j h1 h2 => ?_⟩
            rcases Nat.lt_trichotomy j (slotM q.2 L) with c | c | c
            · refine .inr ⟨j, Nat.zero_le _, ?_, at_lt j c⟩
              split at h2 <;> omega
            · exact .inl c
            · refine .inr ⟨j - 1, Nat.zero_le _, ?_, ?_⟩
              · split at h2 <;> omega
              · have := at_gt (j - 1) (by omega)
                rwa [show j - 1 + 1 = j by omega] at this
          | some y =>
            have hs : slotM p.2 L = L.idxOf y + 1 := by rw [hb]; rfl
            rw [hs] at b1
            show (if L.idxOf y < slotM q.2 L then L.idxOf y else L.idxOf y + 1) + 1 ≤ (if L.idxOf p.1 < slotM q.2 L then L.idxOf p.1 else L.idxOf p.1 + 1) ∧ _
            refine ⟨?_, fun j h1 h2 => ?_⟩
            · split <;> split <;> omega
            · have h1' : (if L.idxOf y < slotM q.2 L then L.idxOf y else L.idxOf y + 1) + 1 ≤ j := h1
              have hs2 : slotM (some y) L = L.idxOf y + 1 := rfl
              rw [hs2]
              rcases Nat.lt_trichotomy j (slotM q.2 L) with c | c | c
              · refine .inr ⟨j, ?_, ?_, at_lt j c⟩
                · split at h1' <;> omega
                · split at h2 <;> omega
              · exact .inl c
              · refine .inr ⟨j - 1, ?_, ?_, ?_⟩
                · split at h1' <;> omega
                · split at h2 <;> omega
                · have := at_gt (j - 1) (by omega)
                  rwa [show j - 1 + 1 = j by omega] at this
        refine ⟨hsl.1, fun j o h1 h2 ho => ?_⟩
        rcases hsl.2 j h1 h2 with rfl | ⟨j', h3, h4, h5⟩
        · rw [at_self] at ho
          cases ho
          exact fun z => mlt_antisymm z (hlt p h)
        · rw [h5] at ho
          exact b2 j' o h3 h4 ho
      · rw [List.mem_singleton.mp h]
        have e1 : (pput L q).idxOf q.1 = slotM q.2 L := idx_at nd' at_self
        have e2 : slotM q.2 (pput L q) = slotM q.2 L := by
          rw [sx q.2 c2]
          cases hb : q.2 with
          | none => rfl
          | some y =>
            have : slotM (some y) L = L.idxOf y + 1 := rfl
            rw [this]
            show (if L.idxOf y < L.idxOf y + 1 then L.idxOf y else L.idxOf y + 1) + 1 = L.idxOf y + 1
            rw [if_pos (Nat.lt_succ_self _)]
        refine ⟨by rw [e1, e2]; exact Nat.le_refl _, fun j o h1 h2 _ => ?_⟩
        rw [e1] at h2
        rw [e2] at h1
        omega
  have := key ps.length (Nat.le_refl _)
  rwa [List.take_length] at this
end DM
namespace DM
open PySem PySem.Spec PyProof.Rows L2 SX HL
/-! ## an edit makes of the text what a splice makes -/
def vis (cs : List Cel) : List Cel := cs.filter fun c => c.2.2
def tx (cs : List Cel) : List Nat := (cs.filter fun c => c.2.2).map fun c => c.2.1
theorem forces_change (row : List Deed) (m : List Nat) (x : List Mark) (b : Option Mark) (n : Nat) (t : List Nat) : forces (row ++ [.change m x b n t]) = forces row ++ [true] := by
  unfold forces
  rw [List.length_append, List.length_singleton, List.reverse_append]
  show ((!decide (row.length + 1 ∈ ([] : List Nat))) :: fw row.length row.reverse (takes (.change m x b n t) _ [])).reverse = _
  rw [List.reverse_cons]
  rfl
theorem chR_same {R : Rows} {r q : Nat} {δ : Deed} (m : List Nat) (h : q ≠ r) : chR (addR R r δ) m q = chR R m q := by
  unfold chR addR
  rw [if_neg h]
theorem chR_add {R : Rows} {r : Nat} (m m' : List Nat) (x : List Mark) (b : Option Mark) (n : Nat) (t : List Nat) :
    chR (addR R r (.change m' x b n t)) m r = chR R m r ++ (if m' = m then [(r, .change m' x b n t, true)] else []) := by
  unfold chR addR
  rw [if_pos rfl, forces_change, List.zip_append (forces_len (R r)).symm, List.filter_append, List.map_append]
  congr 1
  by_cases e : m' = m
  · rw [if_pos e]
    simp [isCh, e]
  · rw [if_neg e]
    simp [isCh, e]
theorem flat_more {α β : Type} [DecidableEq α] {f g : α → List β} {a : α} {X : List β} (hg : g a = f a ++ X) (ho : ∀ x, x ≠ a → g x = f x) : ∀ {l : List α}, l.Nodup → a ∈ l → (l.flatMap g).Perm (l.flatMap f ++ X)
  | [], _, h => by cases h
  | y :: l, nd, h => by
    rw [List.flatMap_cons, List.flatMap_cons]
    obtain ⟨n1, n2⟩ := List.nodup_cons.mp nd
    by_cases e : y = a
    · subst e
      have hl : l.flatMap g = l.flatMap f := by
        have : ∀ l : List α, y ∉ l → l.flatMap g = l.flatMap f := by
          intro l
          induction l with
          | nil => intro _; rfl
          | cons z l ih =>
            intro hz
            rw [List.flatMap_cons, List.flatMap_cons, ho z (fun e => hz (by rw [e]; exact List.mem_cons_self ..)), ih fun q => hz (List.mem_cons_of_mem _ q)]
        exact this l n1
      rw [hg, hl, List.append_assoc, List.append_assoc]
      exact List.Perm.append_left _ List.perm_append_comm
    · have := flat_more hg ho n2 ((List.mem_cons.mp h).resolve_left fun z => e z.symm)
      rw [ho y e, List.append_assoc]
      exact this.append_left _
theorem changes_add {R : Rows} {r : Nat} (hr : r < 8) (m : List Nat) (x : List Mark) (b : Option Mark) (n : Nat) (t : List Nat) : (changes (addR R r (.change m x b n t)) m).Perm (changes R m ++ [(r, .change m x b n t, true)]) := by
  refine flat_more (a := r) ?_ (fun q hq => chR_same m hq) List.nodup_range (List.mem_range.mpr hr)
  rw [chR_add, if_pos rfl]
theorem changes_other {R : Rows} {r : Nat} {m m' : List Nat} (h : m' ≠ m) (x : List Mark) (b : Option Mark) (n : Nat) (t : List Nat) : changes (addR R r (.change m' x b n t)) m = changes R m := by
  have : chR (addR R r (.change m' x b n t)) m = chR R m := by
    funext q
    by_cases e : q = r
    · subst e
      rw [chR_add, if_neg h, List.append_nil]
    · exact chR_same m e
  unfold changes
  rw [this]
theorem found_add {R : Rows} {r : Nat} (hr : r < 8) (m : List Nat) (x : List Mark) (b : Option Mark) (n : Nat) (t : List Nat) : (found (addR R r (.change m x b n t)) m).Perm (found R m ++ (ins r n b t).map (toF true)) := by
  have := (changes_add (R := R) hr m x b n t).flatMap_right entF
  rw [List.flatMap_append, List.flatMap_singleton] at this
  exact this
theorem removed_add {R : Rows} {r : Nat} (hr : r < 8) (m : List Nat) (x : List Mark) (b : Option Mark) (n : Nat) (t : List Nat) (y : Mark) : y ∈ removed (addR R r (.change m x b n t)) m ↔ y ∈ removed R m ∨ y ∈ x := by
  have := (changes_add (R := R) hr m x b n t).flatMap_right remF
  rw [List.flatMap_append, List.flatMap_singleton] at this
  rw [removed_eq, removed_eq, this.mem_iff, List.mem_append]
  exact Iff.rfl
/-- all numbers that stand in the rows are below n -/
def Below (R : Rows) (n : Nat) : Prop := ∀ r, r < 8 → ∀ d ∈ R r, endD d ≤ n
theorem Below.mark {R : Rows} {n : Nat} (B : Below R n) {m : List Nat} {x : Mark} (h : x ∈ marks R m) : x.1 < n := by
  obtain ⟨r, d, hr, hd, hm, hx⟩ := mem_marks.mp h
  obtain ⟨e, he, rfl⟩ := List.mem_map.mp hx
  obtain ⟨m', x', b, n', t, k, rfl, hk, rfl⟩ := mem_entD he
  have := B r hr _ hd
  have e : endD (.change m' x' b n' t) = n' + t.length := rfl
  rw [e] at this
  show n' + k < n
  omega
theorem good_add {R : Rows} (G : Good R) {r n : Nat} (hr : r < 8) (B : Below R n) (m : List Nat) (x : List Mark) (b : Option Mark) (t : List Nat) (hn : ∀ y ∈ x ++ b.toList, y ∈ marks R m) : Good (addR R r (.change m x b n t)) := by
  have up : ∀ q, q < 8 → ∀ d ∈ R q, d ∈ addR R r (.change m x b n t) q := fun q _ d hd => by
    unfold addR
    split
    · rename_i e; subst e; exact List.mem_append_left _ hd
    · exact hd
  refine ⟨fun q hq => ?_, fun q hq m' x' b' n' t' hd y hy => ?_⟩
  · unfold addR
    split
    · refine List.pairwise_append.mpr ⟨G.num r hr, List.pairwise_singleton .., fun a ha c hc => ?_⟩
      rw [List.mem_singleton.mp hc]
      exact fun _ => B r hr a ha
    · exact G.num q hq
  · have old : Deed.change m' x' b' n' t' ∈ R q → y ∈ marks (addR R r (.change m x b n t)) m' ∧ y.1 < n' := fun h => by
      have := G.nam q hq _ _ _ _ _ h y hy
      exact ⟨marks_mono up this.1, this.2⟩
    unfold addR at hd
    split at hd
    · rename_i e
      subst e
      rcases List.mem_append.mp hd with h | h
      · exact old h
      · have e := List.mem_singleton.mp h
        cases e
        exact ⟨marks_mono up (hn y hy), B.mark (hn y hy)⟩
    · exact old hd
theorem ins_mark {r : Nat} {n : Nat} {b : Option Mark} {t : List Nat} {e : Ent} (h : e ∈ ins r n b t) : n ≤ e.1.1 ∧ e.1.2 = r := by
  obtain ⟨i, hi⟩ := List.mem_iff_getElem?.mp h
  have hl := (List.getElem?_eq_some_iff.mp hi).1
  rw [ins_len] at hl
  rw [ins_get r t n b i hl] at hi
  cases hi
  exact ⟨Nat.le_add_right _ _, rfl⟩
theorem ins_pairwise (r : Nat) : ∀ (t : List Nat) (n : Nat) (b : Option Mark), (ins r n b t).Pairwise fun a c => mlt a.1 c.1
  | [], _, _ => List.Pairwise.nil
  | z :: t, n, b => by
    refine List.pairwise_cons.mpr ⟨fun c hc => ?_, ins_pairwise r t _ _⟩
    have := (ins_mark hc).1
    exact .inl (by show n < c.1.1; omega)
/-- the sorted entries behind the edit -/
theorem srt_add {R : Rows} {m : List Nat} {es : List EntF} (S : Srt R m es) {r n : Nat} (hr : r < 8) (B : Below R n) (x : List Mark) (b : Option Mark) (t : List Nat) : Srt (addR R r (.change m x b n t)) m (es ++ (ins r n b t).map (toF true)) := by
  refine ⟨(S.perm.append_right _).trans (found_add hr m x b n t).symm, ?_⟩
  refine List.pairwise_append.mpr ⟨S.lt, List.pairwise_map.mpr (ins_pairwise r t n b), fun a ha c hc => ?_⟩
  obtain ⟨c', hc', rfl⟩ := List.mem_map.mp hc
  have h1 := B.mark (m := m) (List.mem_map_of_mem (f := fun e : EntF => e.1) (S.perm.mem_iff.mp ha))
  have h2 := (ins_mark hc').1
  exact .inl (by show a.1.1 < c'.1.1; omega)
/-! ### the row behind the edit -/
def hid (x : List Mark) (c : Cel) : Cel := (c.1, c.2.1, c.2.2 && !decide (c.1 ∈ x))
theorem build_hid {rm rm' x : List Mark} (h : ∀ y, y ∈ rm' ↔ y ∈ rm ∨ y ∈ x) (es : List EntF) : build rm' es = (build rm es).map (hid x) := by
  have key : ∀ (es : List EntF) (row : List Cel), es.foldl (put rm') (row.map (hid x)) = (es.foldl (put rm) row).map (hid x) := by
    intro es
    induction es with
    | nil => intro row; rfl
    | cons e es ih =>
      intro row
      show es.foldl (put rm') (put rm' (row.map (hid x)) e) = (es.foldl (put rm) (put rm row e)).map (hid x)
      rw [← ih]
      congr 1
      unfold put
      rw [map_insertIdx]
      have e1 : slot e.2.1 (row.map (hid x)) = slot e.2.1 row := by
        unfold slot
        split
        · rfl
        · rw [List.map_map]; rfl
      have e2 : (e.1, e.2.2.1, e.2.2.2 && !decide (e.1 ∈ rm')) = hid x (e.1, e.2.2.1, e.2.2.2 && !decide (e.1 ∈ rm)) := by
        unfold hid
        have : decide (e.1 ∈ rm') = (decide (e.1 ∈ rm) || decide (e.1 ∈ x)) := by
          rw [Bool.eq_iff_iff, Bool.or_eq_true, decide_eq_true_iff, decide_eq_true_iff, decide_eq_true_iff]
          exact h e.1
        rw [this, Bool.not_or, Bool.and_assoc]
      rw [e1, e2]
  exact key es []
def newC (r : Nat) : Nat → List Nat → List Cel
  | _, [] => []
  | n, c :: t => ((n, r), c, true) :: newC r (n + 1) t
theorem newC_tx (r : Nat) : ∀ (t : List Nat) (n : Nat), tx (newC r n t) = t
  | [], _ => rfl
  | c :: t, n => by
    have := newC_tx r t (n + 1)
    unfold tx at this ⊢
    show ((((n, r), c, true) :: newC r (n + 1) t).filter fun c => c.2.2).map _ = _
    rw [List.filter_cons, if_pos rfl, List.map_cons, this]
theorem idxOf_app {α : Type} [BEq α] [LawfulBEq α] {a : α} : ∀ {l k : List α}, a ∉ l → (l ++ a :: k).idxOf a = l.length
  | [], k, _ => by simp
  | y :: l, k, h => by
    have hy : ¬ y = a := fun e => h (by rw [e]; exact List.mem_cons_self ..)
    have hb : (y == a) = false := beq_eq_false_iff_ne.mpr hy
    rw [List.cons_append, List.idxOf_cons, hb]
    show (l ++ a :: k).idxOf a + 1 = l.length + 1
    rw [idxOf_app fun q => h (List.mem_cons_of_mem _ q)]
theorem build_new {rm : List Mark} (r : Nat) : ∀ (t : List Nat) (n : Nat) (b : Option Mark) (row : List Cel), (∀ y, b = some y → y ∈ row.map (·.1)) → (∀ k, ((n + k, r) : Mark) ∉ row.map (·.1)) → (∀ k, ((n + k, r) : Mark) ∉ rm) →
    ((ins r n b t).map (toF true)).foldl (put rm) row = row.take (slot b row) ++ newC r n t ++ row.drop (slot b row)
  | [], n, b, row, _, _, _ => by
    show row = row.take _ ++ [] ++ row.drop _
    rw [List.append_nil, List.take_append_drop]
  | c :: t, n, b, row, hb, hn, hr => by
    have hk := slot_le hb
    have hr0 : ((n, r) : Mark) ∉ rm := hr 0
    have e1 : put rm row (toF true ((n, r), b, c)) = row.take (slot b row) ++ ((n, r), c, true) :: row.drop (slot b row) := by
      show row.insertIdx (slot b row) ((n, r), c, true && !decide (((n, r) : Mark) ∈ rm)) = _
      rw [insIdx_eq _ _ _ hk, decide_eq_false hr0]
      rfl
    show ((ins r (n + 1) (some (n, r)) t).map (toF true)).foldl (put rm) (put rm row (toF true ((n, r), b, c))) = _
    rw [e1]
    have n0 : ((n, r) : Mark) ∉ row.map (·.1) := hn 0
    have e2 : slot (some (n, r)) (row.take (slot b row) ++ ((n, r), c, true) :: row.drop (slot b row)) = slot b row + 1 := by
      show ((row.take (slot b row) ++ ((n, r), c, true) :: row.drop (slot b row)).map (·.1)).idxOf (n, r) + 1 = _
      rw [List.map_append, List.map_cons, idxOf_app, List.length_map, List.length_take, Nat.min_eq_left hk]
      intro h
      rw [List.map_take] at h
      exact n0 (List.mem_of_mem_take h)
    have mem : ∀ y, y ∈ (row.take (slot b row) ++ ((n, r), c, true) :: row.drop (slot b row)).map (·.1) → y = (n, r) ∨ y ∈ row.map (·.1) := fun y h => by
      rw [List.map_append, List.map_cons, List.mem_append, List.mem_cons, List.map_take, List.map_drop] at h
      rcases h with h | h | h
      · exact .inr (List.mem_of_mem_take h)
      · exact .inl h
      · exact .inr (List.mem_of_mem_drop h)
    rw [build_new r t (n + 1) (some (n, r)) _ (fun y hy => ?_) (fun k h => ?_) (fun k => ?_), e2]
    · have hl : (row.take (slot b row) ++ [((n, r), c, true)]).length = slot b row + 1 := by rw [List.length_append, List.length_take, Nat.min_eq_left hk]; rfl
      have ea : row.take (slot b row) ++ ((n, r), c, true) :: row.drop (slot b row) = (row.take (slot b row) ++ [((n, r), c, true)]) ++ row.drop (slot b row) := by
        rw [List.append_assoc]; rfl
      rw [ea, ← hl, List.take_left, List.drop_left]
      show row.take (slot b row) ++ [((n, r), c, true)] ++ newC r (n + 1) t ++ row.drop (slot b row) = row.take (slot b row) ++ (((n, r), c, true) :: newC r (n + 1) t) ++ row.drop (slot b row)
      simp
    · cases hy
      rw [List.map_append, List.map_cons]
      exact List.mem_append_right _ (List.mem_cons_self ..)
    · rcases mem _ h with e | e
      · have := congrArg Prod.fst e
        have h2 : n + 1 + k = n := this
        omega
      · exact hn (1 + k) (by rw [← Nat.add_assoc]; exact e)
    · have := hr (1 + k)
      rwa [← Nat.add_assoc] at this
theorem filter_at {α : Type} (p : α → Bool) {l : List α} {i j : Nat} {c : α} (nd : l.Nodup) (hj : l[j]? = some c) (hi : (l.filter p)[i]? = some c) : (l.take (j + 1)).filter p = (l.filter p).take (i + 1) ∧ (l.drop (j + 1)).filter p = (l.filter p).drop (i + 1) := by
  have hp : p c = true := (List.mem_filter.mp (List.mem_of_getElem? hi)).2
  have e : l.filter p = (l.take (j + 1)).filter p ++ (l.drop (j + 1)).filter p := by rw [← List.filter_append, List.take_append_drop]
  have hl : (l.take (j + 1)).filter p = (l.take j).filter p ++ [c] := by
    rw [take_snoc hj, List.filter_append]
    congr 1
    rw [List.filter_cons, if_pos hp]
    rfl
  have h1 : (l.filter p)[((l.take j).filter p).length]? = some c := by
    rw [e, hl, List.append_assoc, List.getElem?_append_right (Nat.le_refl _), Nat.sub_self]
    rfl
  have h2 : ((l.take j).filter p).length = i := (List.getElem?_inj (List.getElem?_eq_some_iff.mp h1).1 (nd.filter p)).mp (h1.trans hi.symm)
  have h3 : ((l.take (j + 1)).filter p).length = i + 1 := by rw [hl, List.length_append, h2]; rfl
  refine ⟨?_, ?_⟩
  · conv => rhs; rw [e]
    rw [← h3, List.take_left]
  · conv => rhs; rw [e]
    rw [← h3, List.drop_left]
/-- the marks of what is seen, the mark ahead of the place i -/
def visM (cs : List Cel) : List Mark := (vis cs).map fun c => c.1
def behM (cs : List Cel) (i : Nat) : Option Mark := if i = 0 then none else (visM cs)[i - 1]?
theorem slot_vis {cs : List Cel} (nd : (cs.map fun c => c.1).Nodup) {i : Nat} (hi : i ≤ (vis cs).length) : (cs.take (slot (behM cs i) cs)).filter (fun c => c.2.2) = (vis cs).take i ∧ (cs.drop (slot (behM cs i) cs)).filter (fun c => c.2.2) = (vis cs).drop i := by
  by_cases h0 : i = 0
  · subst h0
    exact ⟨rfl, rfl⟩
  · obtain ⟨c, hc⟩ : ∃ c, (vis cs)[i - 1]? = some c := ⟨_, List.getElem?_eq_getElem (by omega)⟩
    have hb : behM cs i = some c.1 := by
      unfold behM visM
      rw [if_neg h0, List.getElem?_map, hc]
      rfl
    have hm : c ∈ cs := (List.mem_filter.mp (List.mem_of_getElem? hc)).1
    obtain ⟨j, hj⟩ := List.mem_iff_getElem?.mp hm
    have hs : slot (behM cs i) cs = j + 1 := by
      rw [hb]
      show (cs.map (·.1)).idxOf c.1 + 1 = j + 1
      rw [idx_at nd (by rw [List.getElem?_map, hj]; rfl)]
    have ndc : cs.Nodup := (List.pairwise_map.mp nd).imp fun {a b} h e => h (by rw [e])
    obtain ⟨h1, h2⟩ := filter_at (fun c => c.2.2) ndc hj hc
    rw [hs]
    have e1 : i - 1 + 1 = i := by omega
    rw [e1] at h1 h2
    exact ⟨h1, h2⟩
theorem behM_mem {cs : List Cel} {i : Nat} {y : Mark} (h : behM cs i = some y) : y ∈ cs.map (·.1) := by
  unfold behM visM at h
  split at h
  · cases h
  · have := List.mem_of_getElem? h
    obtain ⟨c, hc, rfl⟩ := List.mem_map.mp this
    exact List.mem_map_of_mem (List.mem_filter.mp hc).1
theorem filter_hid (x : List Mark) (cs : List Cel) : ((cs.map (hid x)).filter fun c => c.2.2).map (fun c => c.2.1) = (((cs.filter fun c => c.2.2).filter fun c => !decide (c.1 ∈ x))).map fun c => c.2.1 := by
  induction cs with
  | nil => rfl
  | cons c cs ih =>
    rw [List.map_cons, List.filter_cons, List.filter_cons]
    show (if (c.2.2 && !decide (c.1 ∈ x)) = true then _ else _ : List Cel).map _ = _
    cases h1 : c.2.2 with
    | false =>
      rw [Bool.false_and, if_neg Bool.false_ne_true, if_neg Bool.false_ne_true]
      exact ih
    | true =>
      rw [if_pos rfl, List.filter_cons, Bool.true_and]
      cases h2 : (!decide (c.1 ∈ x)) with
      | false => rw [if_neg Bool.false_ne_true, if_neg Bool.false_ne_true]; exact ih
      | true =>
        rw [if_pos rfl, if_pos rfl, List.map_cons, List.map_cons, ih]
        rfl
theorem filter_cut {l : List Cel} (nd : (l.map fun c => c.1).Nodup) (i c : Nat) : (l.take i).filter (fun z => !decide (z.1 ∈ ((l.drop i).take c).map fun c => c.1)) = l.take i ∧ (l.drop i).filter (fun z => !decide (z.1 ∈ ((l.drop i).take c).map fun c => c.1)) = l.drop (i + c) := by
  have e : l = l.take i ++ (l.drop i).take c ++ (l.drop i).drop c := by rw [List.append_assoc, List.take_append_drop, List.take_append_drop]
  have ed : l.drop i = (l.drop i).take c ++ l.drop (i + c) := by rw [← List.drop_drop, List.take_append_drop]
  have nd' := nd
  rw [e, List.map_append, List.map_append, List.nodup_append] at nd'
  obtain ⟨n12, _, n3⟩ := nd'
  rw [List.nodup_append] at n12
  have all : ∀ k : List Cel, (∀ z ∈ k, z.1 ∉ ((l.drop i).take c).map fun c => c.1) → k.filter (fun z => !decide (z.1 ∈ ((l.drop i).take c).map fun c => c.1)) = k := fun k h => List.filter_eq_self.mpr fun z hz => by rw [decide_eq_false (h z hz)]; rfl
  refine ⟨all _ fun z hz hm => n12.2.2 z.1 (List.mem_map_of_mem hz) z.1 hm rfl, ?_⟩
  conv => lhs; arg 2; rw [ed]
  rw [List.filter_append, all (l.drop (i + c)) fun z hz hm => n3 z.1 (List.mem_append_right _ hm) z.1 (by rw [List.drop_drop]; exact List.mem_map_of_mem hz) rfl]
  have : ((l.drop i).take c).filter (fun z => !decide (z.1 ∈ ((l.drop i).take c).map fun c => c.1)) = [] := List.filter_eq_nil_iff.mpr fun z hz => by
    rw [decide_eq_true (List.mem_map_of_mem hz)]
    exact Bool.false_ne_true
  rw [this]
  rfl
/-- the text behind the edit -/
theorem edit_text {R : Rows} (G : Good R) {m : List Nat} {es : List EntF} (S : Srt R m es) {r n : Nat} (hr : r < 8) (B : Below R n) {i c : Nat} (hi : i + c ≤ (vis (build (removed R m) es)).length) (t : List Nat) {es' : List EntF}
    (S' : Srt (addR R r (.change m (((visM (build (removed R m) es)).drop i).take c) (behM (build (removed R m) es) i) n t)) m es') :
    tx (build (removed (addR R r (.change m (((visM (build (removed R m) es)).drop i).take c) (behM (build (removed R m) es) i) n t)) m) es') = (tx (build (removed R m) es)).take i ++ t ++ (tx (build (removed R m) es)).drop (i + c) := by
  have hes : es' = es ++ (ins r n (behM (build (removed R m) es) i) t).map (toF true) := srt_uniq S' (srt_add S hr B _ _ _)
  subst hes
  have ho : (build (removed R m) es).map (·.1) = order es := build_order _ _
  have nd : ((build (removed R m) es).map fun c => c.1).Nodup := by
    have := (order_facts G S es.length (Nat.le_refl _)).1
    rw [List.take_length] at this
    rw [ho]
    exact this
  have hmk : ∀ y ∈ (build (removed R m) es).map (·.1), y.1 < n := fun y hy => by
    have h := (build_perm G S (removed R m) es.length (Nat.le_refl _)).1
    rw [List.take_length] at h
    exact B.mark (m := m) ((S.perm.map (fun e : EntF => e.1)).mem_iff.mp (h.mem_iff.mp hy))
  have hx : ((visM (build (removed R m) es)).drop i).take c = (((vis (build (removed R m) es)).drop i).take c).map fun c => c.1 := by
    unfold visM
    rw [← List.map_drop, ← List.map_take]
  have hrmem : ∀ y ∈ removed R m, y.1 < n := fun y hy => by
    rw [removed_eq] at hy
    obtain ⟨cg, hcg, hy⟩ := List.mem_flatMap.mp hy
    obtain ⟨h1, h2, h3⟩ := mem_changes hcg
    obtain ⟨q, δ, f⟩ := cg
    cases δ with
    | back => cases h3
    | change m' x' b' n' t' =>
      cases f with
      | false => cases hy
      | true =>
        have := G.nam q h1 _ _ _ _ _ h2 y (List.mem_append_left _ hy)
        exact B.mark this.1
  have hri := removed_add (R := R) hr m (((visM (build (removed R m) es)).drop i).take c) (behM (build (removed R m) es) i) n t
  have hxm : ∀ y ∈ ((visM (build (removed R m) es)).drop i).take c, y.1 < n := fun y hy => by
    have h1 : y ∈ visM (build (removed R m) es) := List.mem_of_mem_drop (List.mem_of_mem_take hy)
    obtain ⟨z, hz, rfl⟩ := List.mem_map.mp h1
    exact hmk _ (List.mem_map_of_mem (List.mem_filter.mp hz).1)
  have hbm : ∀ y, behM (build (removed R m) es) i = some y → y ∈ (build (removed R m) es).map (·.1) := fun y hy => behM_mem hy
  generalize removed (addR R r (.change m (((visM (build (removed R m) es)).drop i).take c) (behM (build (removed R m) es) i) n t)) m = rm' at *
  have hb : build rm' (es ++ (ins r n (behM (build (removed R m) es) i) t).map (toF true)) = ((ins r n (behM (build (removed R m) es) i) t).map (toF true)).foldl (put rm') (build rm' es) := by
    unfold build
    rw [List.foldl_append]
  rw [hb, build_hid hri]
  generalize build (removed R m) es = cs at *
  have em : (cs.map (hid (((visM cs).drop i).take c))).map (fun c => c.1) = cs.map fun c => c.1 := by
    rw [List.map_map]
    rfl
  have es : slot (behM cs i) (cs.map (hid (((visM cs).drop i).take c))) = slot (behM cs i) cs := by
    unfold slot
    split
    · rfl
    · rw [List.map_map]; rfl
  rw [build_new r t n (behM cs i) _ (fun y hy => by rw [em]; exact hbm y hy) (fun k h => ?_) (fun k h => ?_), es]
  · obtain ⟨v1, v2⟩ := slot_vis nd (show i ≤ (vis cs).length by omega)
    have ndv : ((vis cs).map fun c => c.1).Nodup := nd.sublist ((List.filter_sublist).map _)
    obtain ⟨c1, c2⟩ := filter_cut ndv i c
    have apart : ∀ a b : List Cel, tx (a ++ b) = tx a ++ tx b := fun a b => by
      unfold tx
      rw [List.filter_append, List.map_append]
    rw [apart, apart, newC_tx]
    congr 1
    · congr 1
      unfold tx
      rw [← List.map_take, filter_hid, v1, hx, c1]
      unfold vis
      rw [List.map_take]
    · unfold tx
      rw [← List.map_drop, filter_hid, v2, hx, c2]
      unfold vis
      rw [List.map_drop]
  · rw [em] at h
    have := hmk _ h
    have h2 : n + k < n := this
    omega
  · rcases (hri _).mp h with h | h
    · have := hrmem _ h
      have h2 : n + k < n := this
      omega
    · have := hxm _ h
      have h2 : n + k < n := this
      omega
end DM
namespace DM
def txtD : Deed → List Nat
  | .change _ _ _ _ t => t
  | .back _ => []
end DM
namespace DM
open PySem PySem.Spec PyProof.Rows L2 SX HL
/-! ## deeds that take back, and again -/
def BackOk (R : Rows) : Prop := ∀ r, r < 8 → ∀ i n, (R r)[i]? = some (.back n) → 1 ≤ n ∧ n ≤ i
theorem BackOk.congr {R R' : Rows} (h : BackOk R) (e : ∀ r, r < 8 → R' r = R r) : BackOk R' := fun r hr i n hi => h r hr i n (by rw [← e r hr]; exact hi)
theorem BackOk.start : BackOk (fun _ => []) := fun r _ i n h => by cases h
theorem BackOk.add {R : Rows} {r : Nat} {δ : Deed} (h : BackOk R) (hb : ∀ n, δ = .back n → 1 ≤ n ∧ n ≤ (R r).length) : BackOk (addR R r δ) := fun q hq i n e => by
  unfold addR at e
  split at e
  · rename_i e0
    subst e0
    by_cases hi : i < (R q).length
    · rw [List.getElem?_append_left hi] at e
      exact h q hq i n e
    · have hlt := (List.getElem?_eq_some_iff.mp e).1
      rw [List.length_append, List.length_singleton] at hlt
      have : i = (R q).length := by omega
      subst this
      rw [List.getElem?_append_right (Nat.le_refl _), Nat.sub_self] at e
      exact hb n (Option.some.inj e)
  · exact h q hq i n e
def isC : Deed → Bool
  | .change _ _ _ _ _ => true
  | .back _ => false
def atC (row : List Deed) (i : Nat) : Bool := (row[i]?.map isC).getD false
theorem atC_eq {row : List Deed} {i : Nat} {d : Deed} (h : row[i]? = some d) : atC row i = isC d := by
  unfold atC
  rw [h]
  rfl
/-- the place of the last change in force among the first k deeds -/
def backTo (row : List Deed) : Nat → Option Nat
  | 0 => none
  | k + 1 => if (forces row)[k]? = some true ∧ atC row k = true then some (k + 1) else backTo row k
/-- the place of the last deed that took a change back since the last change, among the first k deeds -/
def againTo (row : List Deed) : Nat → Option Nat
  | 0 => none
  | k + 1 => match row[k]? with
    | some (.back n) => if (forces row)[k]? = some true ∧ atC row (n - 1) = true then some (k + 1) else againTo row k
    | _ => none
theorem backTo_some {row : List Deed} : ∀ {k p : Nat}, backTo row k = some p → 1 ≤ p ∧ p ≤ k ∧ (forces row)[p - 1]? = some true ∧ atC row (p - 1) = true
  | 0, p, h => by cases h
  | k + 1, p, h => by
    unfold backTo at h
    split at h
    · rename_i c
      cases h
      exact ⟨Nat.succ_le_succ (Nat.zero_le _), Nat.le_refl _, c.1, c.2⟩
    · obtain ⟨h1, h2, h3⟩ := backTo_some h
      exact ⟨h1, Nat.le_succ_of_le h2, h3⟩
theorem againTo_some {row : List Deed} : ∀ {k p : Nat}, againTo row k = some p → 1 ≤ p ∧ p ≤ k
  | 0, p, h => by cases h
  | k + 1, p, h => by
    unfold againTo at h
    split at h
    · split at h
      · cases h
        exact ⟨Nat.succ_le_succ (Nat.zero_le _), Nat.le_refl _⟩
      · obtain ⟨h1, h2⟩ := againTo_some h
        exact ⟨h1, Nat.le_succ_of_le h2⟩
    · cases h
theorem fw_irr : ∀ (l : List Deed) (p : Nat) (t t' : List Nat), l.length ≤ p → (∀ x, x ≤ p → (x ∈ t ↔ x ∈ t')) → fw p l t = fw p l t'
  | [], _, _, _, _, _ => rfl
  | d :: l, p, t, t', hl, h => by
    have e : decide (p ∈ t) = decide (p ∈ t') := decide_eq_decide.mpr (h p (Nat.le_refl _))
    show (!decide (p ∈ t)) :: fw (p - 1) l (takes d (!decide (p ∈ t)) t) = (!decide (p ∈ t')) :: fw (p - 1) l (takes d (!decide (p ∈ t')) t')
    rw [e]
    congr 1
    refine fw_irr l _ _ _ (by rw [List.length_cons] at hl; omega) fun x hx => ?_
    have h0 := h x (by omega)
    cases d with
    | change => exact h0
    | back n =>
      cases decide (p ∈ t') with
      | true => exact h0
      | false =>
        show x ∈ n :: t ↔ x ∈ n :: t'
        rw [List.mem_cons, List.mem_cons, h0]
theorem forces_last (row : List Deed) (δ : Deed) : (forces (row ++ [δ]))[row.length]? = some true := by
  unfold forces
  rw [List.length_append, List.length_singleton, List.reverse_append]
  show ((!decide (row.length + 1 ∈ ([] : List Nat))) :: fw row.length row.reverse (takes δ _ [])).reverse[row.length]? = _
  rw [List.reverse_cons, List.getElem?_append_right (by rw [List.length_reverse, fw_len, List.length_reverse]; exact Nat.le_refl _), List.length_reverse, fw_len, List.length_reverse, Nat.sub_self]
  rfl
/-- a deed taken back, and again -/
theorem forces_two (row : List Deed) (p : Nat) : forces (row ++ [.back p] ++ [.back (row.length + 1)]) = forces row ++ [false] ++ [true] := by
  unfold forces
  have e1 : (row ++ [Deed.back p] ++ [Deed.back (row.length + 1)]).length = row.length + 2 := by simp
  have e2 : (row ++ [Deed.back p] ++ [Deed.back (row.length + 1)]).reverse = .back (row.length + 1) :: .back p :: row.reverse := by simp
  rw [e1, e2]
  show ((!decide (row.length + 2 ∈ ([] : List Nat))) :: (!decide (row.length + 1 ∈ [row.length + 1])) :: fw row.length row.reverse (takes (.back p) (!decide (row.length + 1 ∈ [row.length + 1])) [row.length + 1])).reverse = _
  have e3 : decide (row.length + 1 ∈ [row.length + 1]) = true := decide_eq_true (List.mem_singleton.mpr rfl)
  rw [e3]
  have e4 : fw row.length row.reverse (takes (.back p) (!true) [row.length + 1]) = fw row.length row.reverse [] := by
    refine fw_irr _ _ _ _ (by rw [List.length_reverse]; exact Nat.le_refl _) fun x hx => ?_
    show x ∈ [row.length + 1] ↔ x ∈ []
    rw [List.mem_singleton]
    constructor
    · intro h; omega
    · intro h; cases h
  rw [e4]
  simp
theorem backTo_again {row : List Deed} {p : Nat} (h : backTo row row.length = some p) : againTo (row ++ [.back p]) (row.length + 1) = some (row.length + 1) := by
  obtain ⟨h1, h2, h3, h4⟩ := backTo_some h
  unfold againTo
  rw [List.getElem?_append_right (Nat.le_refl _), Nat.sub_self]
  show (if (forces (row ++ [.back p]))[row.length]? = some true ∧ atC (row ++ [.back p]) (p - 1) = true then _ else _) = _
  have : atC (row ++ [.back p]) (p - 1) = atC row (p - 1) := by
    unfold atC
    rw [List.getElem?_append_left (by omega)]
  rw [if_pos ⟨forces_last row _, by rw [this]; exact h4⟩]
theorem chR_two {R : Rows} {r : Nat} (p : Nat) (m : List Nat) : chR (addR (addR R r (.back p)) r (.back ((R r).length + 1))) m = chR R m := by
  funext q
  unfold chR
  by_cases e : q = r
  · subst e
    have e2 : addR (addR R q (.back p)) q (.back ((R q).length + 1)) q = R q ++ [.back p] ++ [.back ((R q).length + 1)] := by
      unfold addR
      rw [if_pos rfl, if_pos rfl]
    rw [e2, forces_two, List.zip_append (by rw [List.length_append, List.length_append, forces_len]; rfl), List.zip_append (forces_len (R q)).symm, List.filter_append, List.filter_append, List.map_append, List.map_append]
    have z1 : List.filter (fun df : Deed × Bool => isCh m df.1) (List.zip [Deed.back p] [false]) = [] := rfl
    have z2 : List.filter (fun df : Deed × Bool => isCh m df.1) (List.zip [Deed.back ((R q).length + 1)] [true]) = [] := rfl
    rw [z1, z2]
    simp
  · have e2 : addR (addR R r (.back p)) r (.back ((R r).length + 1)) q = R q := by
      unfold addR
      rw [if_neg e, if_neg e]
    rw [e2]
theorem changes_two {R : Rows} {r : Nat} (p : Nat) (m : List Nat) : changes (addR (addR R r (.back p)) r (.back ((R r).length + 1))) m = changes R m := by
  unfold changes
  rw [chR_two]
theorem good_back {R : Rows} (G : Good R) (r n : Nat) : Good (addR R r (.back n)) := by
  have up : ∀ q, q < 8 → ∀ d ∈ R q, d ∈ addR R r (.back n) q := fun q _ d hd => by
    unfold addR
    split
    · rename_i e; subst e; exact List.mem_append_left _ hd
    · exact hd
  refine ⟨fun q hq => ?_, fun q hq m' x' b' n' t' hd y hy => ?_⟩
  · unfold addR
    split
    · rename_i e
      subst e
      refine List.pairwise_append.mpr ⟨G.num q hq, List.pairwise_singleton .., fun a ha c hc => ?_⟩
      rw [List.mem_singleton.mp hc]
      rintro ⟨_, _, _, _, _, e⟩
      cases e
    · exact G.num q hq
  · have old : Deed.change m' x' b' n' t' ∈ R q → y ∈ marks (addR R r (.back n)) m' ∧ y.1 < n' := fun h => by
      have := G.nam q hq _ _ _ _ _ h y hy
      exact ⟨marks_mono up this.1, this.2⟩
    unfold addR at hd
    split at hd
    · rename_i e
      subst e
      rcases List.mem_append.mp hd with h | h
      · exact old h
      · have e := List.mem_singleton.mp h
        cases e
    · exact old hd
end DM
namespace Q07
open PySem PySem.Spec PyProof.Rows L2 SX HL DM
section
variable {P : Program} {w : World} {K : PySem.W.Frag} {mg : Str → Option Value} {base : Heap}
/-! ### _law_triples -/
abbrev Trip := Nat × Nat × Deed
def TripAt (H : Hp) (x : V) (t : Trip) : Prop := ∃ a dx, x = .ref a ∧ H a = some (.tup [vi t.1, vi t.2.1, dx]) ∧ DeedAt H dx t.2.2
theorem TripAt.keep {H H' : Hp} {x : V} {t : Trip} (h : TripAt H x t) (k : TupK H H') : TripAt H' x t := by
  obtain ⟨a, dx, e, ha, hd⟩ := h
  exact ⟨a, dx, e, k _ _ ha, hd.keep k⟩
def TripOk (ts : List Trip) : Prop := ts.length ≤ 30 ∧ ∀ t ∈ ts, t.1 < 8 ∧ DOk t.2.2
def rowsOf (ts : List Trip) : Rows := fun r => (ts.filter fun t => decide (t.1 = r)).map fun t => t.2.2
theorem rowsOf_snoc {ts : List Trip} {t : Trip} : rowsOf (ts ++ [t]) = addR (rowsOf ts) t.1 t.2.2 := by
  funext r
  unfold rowsOf addR
  by_cases e : r = t.1
  · subst e
    simp
  · have e' : ¬ t.1 = r := fun z => e z.symm
    simp [e, e']
theorem rowsOf_len (ts : List Trip) (r : Nat) : (rowsOf ts r).length ≤ ts.length := by
  unfold rowsOf
  rw [List.length_map]
  exact List.length_filter_le ..
/-- small texts, few marks, small numbers -/
def Small (n : Nat) (t : Trip) : Prop := (txtD t.2.2).length ≤ 4 ∧ (remD t.2.2).length ≤ 4 ∧ endD t.2.2 ≤ 10 * n
def paint (C : Addr → Nat) (a : Addr) (v : Nat) : Addr → Nat := fun x => if x = a then v else C x
theorem paint_eq {C : Addr → Nat} {a : Addr} {v : Nat} : paint C a v a = v := if_pos rfl
theorem paint_ne {C : Addr → Nat} {a x : Addr} {v : Nat} (h : x ≠ a) : paint C a v x = C x := if_neg h
/-- addresses told apart by colours: 0 the draws, 1 the rows, 2 the counts, 3 the triples, 10 .. the rows' lists, 20 .. the counts' lists -/
structure TSt (T : Hp → Prop) (H : Hp) (d A cA l : Addr) (ds : List Int) (M k : Nat) (R : Rows) (cnt : Nat → Nat → Nat) (ts : List Trip) (rs cs : List Addr) (C : Addr → Nat) : Prop where
  t : T H
  hd : H d = some (.lst (ds.map V.int))
  hA : H A = some (.lst (rs.map V.ref))
  hc : H cA = some (.lst (cs.map V.ref))
  hl : ∃ us, H l = some (.lst us) ∧ All2 (TripAt H) us ts
  nr : rs.length = 8
  nc : cs.length = M
  r : ∀ (i : Nat) (a : Addr), rs[i]? = some a → C a = 10 + i ∧ ∃ us, H a = some (.lst us) ∧ All2 (DeedAt H) us (R i)
  c : ∀ (i : Nat) (a : Addr), cs[i]? = some a → C a = 20 + i ∧ H a = some (.lst ((List.range 8).map fun j => vi (cnt i j)))
  kd : C d = 0
  kA : C A = 1
  kc : C cA = 2
  kl : C l = 3
  inv : Inv R M cnt k
  tk : ts.length = k
  tok : ∀ t ∈ ts, t.1 < 8 ∧ DOk t.2.2
  req : R = rowsOf ts
  emp : ∀ r, M ≤ r → R r = []
  m8 : M ≤ 8
  pre : ∀ n, DM.Good (rowsOf (ts.take n))
  t4 : ∀ t ∈ ts, Small ts.length t ∧ 1 ≤ t.2.1 ∧ (R t.1)[t.2.1 - 1]? = some t.2.2
  bk : BackOk R
theorem TSt.rows {T : Hp → Prop} {H : Hp} {d A cA l : Addr} {ds : List Int} {M k : Nat} {R : Rows} {cnt : Nat → Nat → Nat} {ts : List Trip} {rs cs : List Addr} {C : Addr → Nat} (S : TSt T H d A cA l ds M k R cnt ts rs cs C) : RowsAt H A rs R := ⟨S.hA, S.nr, fun i a h => (S.r i a h).2⟩
theorem TSt.keep {T : Hp → Prop} {H H' : Hp} {d A cA l : Addr} {ds : List Int} {M k : Nat} {R : Rows} {cnt : Nat → Nat → Nat} {ts : List Trip} {rs cs : List Addr} {C : Addr → Nat} (S : TSt T H d A cA l ds M k R cnt ts rs cs C) (e : LamX.ExtN H H') (t : T H') : TSt T H' d A cA l ds M k R cnt ts rs cs C := by
  have kk := extN_tk e
  obtain ⟨us, h1, h2⟩ := S.hl
  exact ⟨t, e _ _ S.hd (fun ps z => nomatch z), e _ _ S.hA (fun ps z => nomatch z), e _ _ S.hc (fun ps z => nomatch z), ⟨us, e _ _ h1 (fun ps z => nomatch z), h2.mono fun v x h => h.keep kk⟩, S.nr, S.nc,
    fun i a h => by obtain ⟨h1, us, h2, h3⟩ := S.r i a h; exact ⟨h1, us, e _ _ h2 (fun ps z => nomatch z), h3.mono fun v x h => h.keep kk⟩,
    fun i a h => by obtain ⟨h1, h2⟩ := S.c i a h; exact ⟨h1, e _ _ h2 (fun ps z => nomatch z)⟩, S.kd, S.kA, S.kc, S.kl, S.inv, S.tk, S.tok, S.req, S.emp, S.m8, S.pre, S.t4, S.bk⟩
theorem ixN_nat {n j : Nat} (h : j < n) : ixN n (j : Int) = some j := by
  unfold ixN
  rw [if_pos (by omega), if_pos (by omega)]
  rfl
theorem set_cnt {f : Nat → Nat} {p v : Nat} (hp : p < 8) : ((List.range 8).map fun j => vi (f j)).set p (vi v) = (List.range 8).map fun j => vi (if j = p then v else f j) := by
  apply List.ext_getElem?
  intro i
  rw [List.getElem?_set]
  by_cases e : p = i
  · subst e
    rw [if_pos rfl, List.length_map, List.length_range, if_pos hp, List.getElem?_map, List.getElem?_range hp]
    show some (vi v) = some (vi (if p = p then v else f p))
    rw [if_pos rfl]
  · rw [if_neg e, List.getElem?_map, List.getElem?_map]
    cases hi : (List.range 8)[i]? with
    | none => rfl
    | some j =>
      have hj : j = i := by
        obtain ⟨h1, h2⟩ := List.getElem?_eq_some_iff.mp hi
        rw [List.getElem_range] at h2
        exact h2.symm
      subst hj
      show some (vi (f j)) = some (vi (if j = p then v else f j))
      rw [if_neg (fun z => e z.symm)]
section
variable {T : Hp → Prop} {H : Hp} {d A cA l : Addr} {ds : List Int} {M k : Nat} {R : Rows} {cnt : Nat → Nat → Nat} {ts : List Trip} {rs cs : List Addr} {C : Addr → Nat}
theorem TSt.setC (S : TSt T H d A cA l ds M k R cnt ts rs cs C) {H1 : Hp} {x : Addr} {p : Nat} {c' : Nat → Nat} (hx : H x = none) (s : Same H H1) (hx1 : H1 x = some (.lst ((List.range 8).map fun j => vi (c' j)))) (hp : p < M)
    (I : Inv R M (fun p' j => if p' = p then c' j else cnt p' j) k) (t : T (upd H1 cA (.lst ((cs.map V.ref).set p (.ref x))))) :
    TSt T (upd H1 cA (.lst ((cs.map V.ref).set p (.ref x)))) d A cA l ds M k R (fun p' j => if p' = p then c' j else cnt p' j) ts rs (cs.set p x) (paint C x (20 + p)) := by
  have old : ∀ z o, H z = some o → z ≠ x := fun z o h => ne_of_none h hx
  have nc : ∀ z, C z ≠ 2 → z ≠ cA := fun z h e => h (by rw [e]; exact S.kc)
  have hc1 := s _ _ S.hc
  have up : ∀ z o, H z = some o → C z ≠ 2 → (upd H1 cA (.lst ((cs.map V.ref).set p (.ref x)))) z = some o := fun z o h n => by rw [upd_ne (nc z n)]; exact s _ _ h
  have kk : TupK H (upd H1 cA (.lst ((cs.map V.ref).set p (.ref x)))) := (Same.tk s).trans (tk_upd fun xs e => by rw [hc1] at e; cases e)
  obtain ⟨us, hl1, hl2⟩ := S.hl
  refine ⟨t, up _ _ S.hd (by rw [S.kd]; decide), up _ _ S.hA (by rw [S.kA]; decide), ?_, ⟨us, up _ _ hl1 (by rw [S.kl]; decide), hl2.mono fun v x h => h.keep kk⟩, S.nr, by rw [List.length_set]; exact S.nc, fun i a h => ?_, fun i a h => ?_, ?_, ?_, ?_, ?_, I, S.tk, S.tok, S.req, S.emp, S.m8, S.pre, S.t4, S.bk⟩
  · rw [upd_same, List.map_set]
  · obtain ⟨h1, us', h2, h3⟩ := S.r i a h
    exact ⟨by rw [paint_ne (old _ _ h2)]; exact h1, us', up _ _ h2 (by rw [h1]; omega), h3.mono fun v x h => h.keep kk⟩
  · rw [List.getElem?_set] at h
    split at h
    · rename_i e
      subst e
      rw [if_pos (by rw [S.nc]; exact hp)] at h
      obtain rfl : x = a := Option.some.inj h
      refine ⟨paint_eq, ?_⟩
      have hxc : x ≠ cA := fun e => by rw [e] at hx; rw [S.hc] at hx; cases hx
      rw [upd_ne hxc, hx1]
      simp
    · rename_i e
      obtain ⟨h1, h2⟩ := S.c i a h
      refine ⟨by rw [paint_ne (old _ _ h2)]; exact h1, ?_⟩
      rw [up _ _ h2 (by rw [h1]; omega)]
      have e' : ¬ i = p := fun z => e z.symm
      simp [e']
  · rw [paint_ne (old _ _ S.hd)]; exact S.kd
  · rw [paint_ne (old _ _ S.hA)]; exact S.kA
  · rw [paint_ne (old _ _ S.hc)]; exact S.kc
  · rw [paint_ne (old _ _ hl1)]; exact S.kl
theorem TSt.add (S : TSt T H d A cA l ds M k R cnt ts rs cs C) {H' : Hp} {p n : Nat} {ra ca t : Addr} {us tl : List V} {dx : V} {δ : Deed} (hp : p < M) (hp8 : p < 8) (F : Fits (view R (cnt p)) p δ) (hd4 : Small (ts.length + 1) (p, n, δ)) (hnp : n = (R p).length + 1) (hbk : ∀ n, δ = .back n → 1 ≤ n ∧ n ≤ (R p).length) (hra : rs[p]? = some ra) (hca : cs[p]? = some ca) (hu : H ra = some (.lst us)) (hl : H l = some (.lst tl)) (hdx : DeedAt H dx δ)
    (f : ∀ z o, H z = some o → z ≠ ra → z ≠ ca → z ≠ l → H' z = some o) (g1 : H' ra = some (.lst (us ++ [dx]))) (g2 : H' ca = some (.lst ((List.range 8).map fun j => vi (if j = p then (R p).length + 1 else cnt p j)))) (g3 : H' l = some (.lst (tl ++ [.ref t]))) (g4 : H' t = some (.tup [vi p, vi n, dx])) (tt : T H') :
    TSt T H' d A cA l ds M (k + 1) (addR R p δ) (addC R p cnt) (ts ++ [(p, n, δ)]) rs cs C := by
  obtain ⟨c1, us1, h1, h2⟩ := S.r p ra hra
  obtain ⟨c2, h3⟩ := S.c p ca hca
  rw [hu] at h1
  cases h1
  have up : ∀ z o, H z = some o → C z ≠ 10 + p → C z ≠ 20 + p → C z ≠ 3 → H' z = some o := fun z o h n1 n2 n3 => f z o h (fun e => n1 (by rw [e]; exact c1)) (fun e => n2 (by rw [e]; exact c2)) (fun e => n3 (by rw [e]; exact S.kl))
  have kk : TupK H H' := fun z o h => f z _ h (fun e => by rw [e, hu] at h; cases h) (fun e => by rw [e, h3] at h; cases h) (fun e => by rw [e, hl] at h; cases h)
  obtain ⟨tl1, hl1, hl2⟩ := S.hl
  rw [hl] at hl1
  cases hl1
  refine ⟨tt, up _ _ S.hd (by rw [S.kd]; omega) (by rw [S.kd]; omega) (by rw [S.kd]; omega), up _ _ S.hA (by rw [S.kA]; omega) (by rw [S.kA]; omega) (by rw [S.kA]; omega), up _ _ S.hc (by rw [S.kc]; omega) (by rw [S.kc]; omega) (by rw [S.kc]; omega), ⟨_, g3, (hl2.mono fun v x h => h.keep kk).snoc ⟨t, dx, rfl, g4, hdx.keep kk⟩⟩, S.nr, S.nc, fun i a h => ?_, fun i a h => ?_, S.kd, S.kA, S.kc, S.kl, S.inv.add hp hp8 F, by rw [List.length_append, S.tk]; rfl, fun t ht => ?_, by rw [rowsOf_snoc, ← S.req], fun r hr => ?_, S.m8, fun j => ?_, fun t ht => ?_, S.bk.add hbk⟩
  · obtain ⟨h4, us4, h5, h6⟩ := S.r i a h
    refine ⟨h4, ?_⟩
    unfold addR
    by_cases e : i = p
    · subst e
      rw [hra] at h
      cases h
      rw [if_pos rfl]
      exact ⟨_, g1, (h2.mono fun v x h => h.keep kk).snoc (hdx.keep kk)⟩
    · rw [if_neg e]
      have hi8 : i < 8 := by have := (List.getElem?_eq_some_iff.mp h).1; rw [S.nr] at this; exact this
      exact ⟨us4, up _ _ h5 (by rw [h4]; omega) (by rw [h4]; omega) (by rw [h4]; omega), h6.mono fun v x h => h.keep kk⟩
  · obtain ⟨h4, h5⟩ := S.c i a h
    refine ⟨h4, ?_⟩
    by_cases e : i = p
    · subst e
      rw [hca] at h
      cases h
      rw [g2]
      simp [addC]
    · rw [up _ _ h5 (by rw [h4]; omega) (by rw [h4]; omega) (by rw [h4]; omega)]
      simp [addC, e]
  · rcases List.mem_append.mp ht with h | h
    · exact S.tok t h
    · rw [List.mem_singleton.mp h]
      exact ⟨hp8, F.ok⟩
  · unfold addR
    rw [if_neg (by have := S.m8; omega)]
    exact S.emp r hr
  · by_cases hj : j ≤ ts.length
    · rw [List.take_append_of_le_length hj]
      exact S.pre j
    · rw [List.take_of_length_le (by rw [List.length_append, List.length_singleton]; omega), rowsOf_snoc, ← S.req]
      refine (S.inv.add hp hp8 F).goodR S.m8 fun r hr => ?_
      unfold addR
      rw [if_neg (by omega)]
      exact S.emp r hr
  · have hlt : (ts ++ [(p, n, δ)]).length = ts.length + 1 := by rw [List.length_append]; rfl
    rw [hlt]
    rcases List.mem_append.mp ht with h | h
    · obtain ⟨⟨a1, a2, a3⟩, a4, a5⟩ := S.t4 t h
      refine ⟨⟨a1, a2, by omega⟩, a4, ?_⟩
      unfold addR
      by_cases e : t.1 = p
      · rw [if_pos e, ← e, List.getElem?_append_left (List.getElem?_eq_some_iff.mp a5).1]
        exact a5
      · rw [if_neg e]
        exact a5
    · rw [List.mem_singleton.mp h]
      refine ⟨hd4, by show 1 ≤ n; omega, ?_⟩
      show (addR R p δ p)[n - 1]? = some δ
      unfold addR
      rw [if_pos rfl, hnp, Nat.add_sub_cancel, List.getElem?_append_right (Nat.le_refl _), Nat.sub_self]
      rfl
end
def spTriples (T : Hp → Prop) : Sp := fun vs H Q _ => ∃ (d : Addr) (ds : List Int) (st : Int) (n M : Nat), vs = [.ref d, .int st, vi n, vi M] ∧ H d = some (.lst (ds.map V.int)) ∧ Draws ds ∧ 0 ≤ st ∧ n ≤ 30 ∧ 1 ≤ M ∧ M ≤ 8 ∧ T H ∧
  ∀ H' l us ts, H' d = some (.lst (ds.map V.int)) → H' l = some (.lst us) → All2 (TripAt H') us ts → TripOk ts → (∀ j, DM.Good (rowsOf (ts.take j))) → (∀ t ∈ ts, Small ts.length t ∧ 1 ≤ t.2.1 ∧ (rowsOf ts t.1)[t.2.1 - 1]? = some t.2.2) → ts.length = n → BackOk (rowsOf ts) → T H' → Q (.ref l) H'
theorem ok_ltriples {k : Nat} {Pc : Addr} (Z : Defs K mg) (TBc : LamX.TabB base mg Z.cO Pc) : FnOk P w K mg base CX0 (k + 6) Z.fLawTriples Z.fdLawTriples ["draws", "start", "steps", "most"] (spTriples (TC Pc)) := by
  have GLawAt : FnOk P w K mg base CX0 (k + 2) Z.fLawAt Z.fdLawAt ["draws", "index"] spAt := ok_at Z
  have GLawVisible : FnOk P w K mg base CX0 (k + 1) Z.fLawVisible Z.fdLawVisible ["rows", "counts"] spVis := ok_lvisible Z
  have GLawDeed : FnOk P w K mg base CX0 (k + 5) Z.fLawDeed Z.fdLawDeed ["draws", "index", "rows", "replica"] (spDeed (TC Pc)) := ok_ldeed Z TBc
  refine Z.DLawTriples.F.ok scLawTriples (fun vs H Q E h => ?_) (fun cdv A outer s H vs Q E hr h => ?_)
  · obtain ⟨d, ds, st, n, M, rfl, _⟩ := h
    rfl
  · obtain ⟨d, ds, st, n, M, rfl, hd, hD, st0, hn, hM1, hM8, hT, qq⟩ := h
    refine ⟨_, (pss_cons (ps_setLc (i := 4) (own := [("k", 6)]) (g := (gName 6)) (by rfl) scLawTriples.nd rfl rfl (sw_true rfl rfl rfl (by decide +kernel)) (pi_range1 (by rfl) Z.range (pa_cons pe_int pa_nil)) (blkOk_by (own := [("k", 6)]) (N := ["draws", "start", "steps", "most", "rows", "counts", "k", "triples", "base", "replica", "other", "deed", "j"]) (sc := defScope sLawTriples) (by decide +kernel)) (fun _ _ _ _ _ => (pg_name (i := 6) scLawTriples.nd rfl (Or.inl rfl))) (fun _ _ _ _ _ => pts_nil) (fun _ _ _ _ _ => (pe_lst pa_nil)))
        (pss_cons (ps_set (i := 5) scLawTriples.nd rfl (.inr rfl) (pe_lst pa_nil))
        (pss_cons (ps_for PassesOwn.never rfl (pi_range1 (by rfl) Z.range (pa_cons (pv 3) pa_nil)) (pg_name (i := 6) scLawTriples.nd rfl (.inl rfl)) (pss_one (ps_expr (pe_bm PySem.F.plainAttrs_list PySem.F.slot_list_append PySem.F.type_list_append mt_append (pv 5) (pa_cons (pe_lc (own := [("j", 12)]) (g := (gName 12)) (by rfl) scLawTriples.nd (pi_range1 (by rfl) Z.range (pa_cons pe_int pa_nil)) (blkOk_by (own := [("j", 12)]) (N := ["draws", "start", "steps", "most", "rows", "counts", "k", "triples", "base", "replica", "other", "deed", "j"]) (sc := defScope sLawTriples) (by decide +kernel)) (fun _ _ _ _ _ => (pg_name (i := 12) scLawTriples.nd rfl (Or.inl rfl))) (fun _ _ _ _ _ => pts_nil) (fun _ _ _ _ _ => pe_int)) pa_nil)))))
        (pss_cons (ps_set (i := 7) scLawTriples.nd rfl (.inl rfl) (pe_lst pa_nil))
        (pss_cons (ps_for PassesOwn.never rfl (pi_range1 (by rfl) Z.range (pa_cons (pv 2) pa_nil)) (pg_name (i := 6) scLawTriples.nd rfl (.inl rfl)) (pss_cons (ps_set (i := 8) scLawTriples.nd rfl (.inl rfl) (pe_op op_add (pv 1) (pe_op op_mul pe_int (pv 6))))
        (pss_cons (ps_set (i := 9) scLawTriples.nd rfl (.inr rfl) (pe_op op_mod (pe_call GLawAt (hr.mono (by omega)) (by rfl) Z.DLawAt.g Z.DLawAt.F.kp Z.DLawAt.b .nil pass0 (pa_cons (pv 0) (pa_cons (pv 8) pa_nil))) (pv 3)))
        (pss_cons (ps_set (i := 10) scLawTriples.nd rfl (.inr rfl) (pe_op op_mod (pe_call GLawAt (hr.mono (by omega)) (by rfl) Z.DLawAt.g Z.DLawAt.F.kp Z.DLawAt.b .nil pass0 (pa_cons (pv 0) (pa_cons (pe_op op_add (pv 8) pe_int) pa_nil))) (pe_op op_add (pv 3) pe_int)))
        (C8.pss_cut (ps_if (pt_cmpR op_lt (pv 10) (pv 3) (nomark _)) (pss_one (ps_asg (pe_lc (own := [("j", 12)]) (g := (gName 12)) (by rfl) scLawTriples.nd (pi_range1 (by rfl) Z.range (pa_cons pe_int pa_nil)) (blkOk_by (own := [("j", 12)]) (N := ["draws", "start", "steps", "most", "rows", "counts", "k", "triples", "base", "replica", "other", "deed", "j"]) (sc := defScope sLawTriples) (by decide +kernel)) (fun _ _ _ _ _ => (pg_name (i := 12) scLawTriples.nd rfl (Or.inl rfl))) (fun _ _ _ _ _ => pts_nil) (fun _ _ _ _ _ => (pe_callB (call_max2 rfl) (by rfl) Z.max (by decide +kernel) (pa_cons (pe_ix (HL.ix_listK (K := K) rfl) (pe_ix (HL.ix_listK (K := K) rfl) (pv 5) (pv 9) (fun _ _ => rfl)) (pv 12) (fun _ _ => rfl)) (pa_cons (pe_ix (HL.ix_listK (K := K) rfl) (pe_ix (HL.ix_listK (K := K) rfl) (pv 5) (pv 10) (fun _ _ => rfl)) (pv 12) (fun _ _ => rfl)) pa_nil))))) (pg_sub (pv 5) (pv 9) set_list))) pss_nil)
        (pss_cons (ps_set (i := 11) scLawTriples.nd rfl (.inl rfl) (pe_call GLawDeed (hr.mono (by omega)) (by rfl) Z.DLawDeed.g Z.DLawDeed.F.kp Z.DLawDeed.b .nil pass0 (pa_cons (pv 0) (pa_cons (pe_op op_add (pv 8) pe_int) (pa_cons (pe_call GLawVisible (hr.mono (by omega)) (by rfl) Z.DLawVisible.g Z.DLawVisible.F.kp Z.DLawVisible.b .nil pass0 (pa_cons (pv 4) (pa_cons (pe_ix ix_list (pv 5) (pv 9) (fun _ _ => rfl)) pa_nil))) (pa_cons (pv 9) pa_nil))))))
        (pss_cons (ps_expr (pe_bm PySem.F.plainAttrs_list PySem.F.slot_list_append PySem.F.type_list_append mt_append (pe_ix ix_list (pv 4) (pv 9) (fun _ _ => rfl)) (pa_cons (pv 11) pa_nil)))
        (pss_cons (ps_asg (pe_callB call_len_seq (by rfl) Z.len PySem.boot_len (pa_cons (pe_ix ix_list (pv 4) (pv 9) (fun _ _ => rfl)) pa_nil)) (pg_sub (pe_ix ix_list (pv 5) (pv 9) (fun _ _ => rfl)) (pv 9) set_list))
        (pss_one (ps_expr (pe_bm PySem.F.plainAttrs_list PySem.F.slot_list_append PySem.F.type_list_append mt_append (pv 7) (pa_cons (pe_tup (pa_cons (pv 9) (pa_cons (pe_callB call_len_seq (by rfl) Z.len PySem.boot_len (pa_cons (pe_ix ix_list (pv 4) (pv 9) (fun _ _ => rfl)) pa_nil)) (pa_cons (pv 11) pa_nil)))) pa_nil))))))))))))
        (pss_one (ps_ret (pv 7)))))))), ?_⟩
    refine ⟨8, rfl, by decide, by decide, fun A0 hA0 => ?_⟩
    have ndA : d ≠ A0 := fun e => by rw [e, hA0] at hd; cases hd
    refine lc_range (lo := 0) (n := 8) (fun i H' => Same H H' ∧ ∃ (rs : List Addr) (C : Addr → Nat), H' A0 = some (.lst (rs.map V.ref)) ∧ rs.length = i ∧ (∀ (j : Nat) (a : Addr), rs[j]? = some a → C a = 10 + j ∧ H' a = some (.lst []) ∧ H a = none) ∧ C d = 0 ∧ C A0 = 1)
      ⟨same_upd hA0, [], paint (fun _ => 1) d 0, upd_same, rfl, fun j a h => (by cases h), paint_eq, paint_ne fun e => ndA e.symm⟩ ?_ ?_
    · rintro i H1 hi ⟨s1, rs, C, hA1, hrl, hr1, hCd, hCA⟩
      refine ⟨rfl, lc_yes ⟨Nat.zero_le _, fun a ha => ?_⟩⟩
      have naA : a ≠ A0 := fun e => by rw [e, hA1] at ha; cases ha
      have nad : a ≠ d := fun e => by rw [e, s1 _ _ hd] at ha; cases ha
      have haH : H a = none := by
        cases e : H a with
        | none => rfl
        | some o => rw [s1 _ _ e] at ha; cases ha
      refine ⟨_, by rw [upd_ne (fun e => naA e.symm)]; exact hA1, by rw [List.length_map, hrl]; exact Nat.lt_of_lt_of_le hi (by decide), fun z o hz => by rw [upd_ne (ne_of_none hz hA0), upd_ne (ne_of_none hz haH)]; exact s1 _ _ hz, rs ++ [a], paint C a (10 + i), by rw [upd_same, List.map_append]; rfl, by rw [List.length_append, hrl]; rfl, fun j b hb => ?_, by rw [paint_ne (fun e => nad e.symm)]; exact hCd, by rw [paint_ne (fun e => naA e.symm)]; exact hCA⟩
      by_cases hj : j < i
      · rw [List.getElem?_append_left (by omega)] at hb
        obtain ⟨h1, h2, h3⟩ := hr1 j b hb
        have hba : b ≠ a := fun e => by rw [e, ha] at h2; cases h2
        have hbA : b ≠ A0 := fun e => by rw [e, hCA] at h1; omega
        exact ⟨by rw [paint_ne hba]; exact h1, by rw [upd_ne hbA, upd_ne hba]; exact h2, h3⟩
      · have hlt := (List.getElem?_eq_some_iff.mp hb).1
        rw [List.length_append, hrl] at hlt
        have hji : j = i := by
          have : [a].length = 1 := rfl
          omega
        subst hji
        rw [List.getElem?_append_right (by omega), hrl, Nat.sub_self] at hb
        obtain rfl : a = b := Option.some.inj hb
        exact ⟨paint_eq, by rw [upd_ne naA, upd_same], haH⟩
    · rintro H1 ⟨s1, rs, C, hA1, hrl, hr1, hCd, hCA⟩
      refine ⟨Nat.zero_le _, fun cA hcA => ?_⟩
      have hd1 := s1 _ _ hd
      have s2 : Same H1 (upd H1 cA (.lst [])) := same_upd hcA
      refine ⟨_, rfl, (M : Int), rfl, by omega, by omega, ?_⟩
      refine for_range (lo := 0) (n := (M : Int).toNat) (fun i σ H' => ∃ (y6 : Option V) (cs : List Addr) (C : Addr → Nat), σ = [some (.ref d), some (.int st), some (vi n), some (vi M), some (.ref A0), some (.ref cA), y6, none, none, none, none, none, none] ∧ Same H1 H' ∧ H' cA = some (.lst (cs.map V.ref)) ∧ cs.length = i ∧ (∀ (j : Nat) (a : Addr), rs[j]? = some a → C a = 10 + j) ∧ (∀ (j : Nat) (a : Addr), cs[j]? = some a → C a = 20 + j ∧ H' a = some (.lst ((List.range 8).map fun _ => vi 0)) ∧ H1 a = none) ∧ C d = 0 ∧ C A0 = 1 ∧ C cA = 2)
        ⟨none, [], paint C cA 2, rfl, s2, upd_same, rfl, fun j a h => ?_, fun j a h => (by cases h), ?_, ?_, paint_eq⟩ ?_ ?_
      · rw [paint_ne (fun e => by have := (hr1 j a h).2.1; rw [e, hcA] at this; cases this)]
        exact (hr1 j a h).1
      · rw [paint_ne (fun e => by rw [e, hcA] at hd1; cases hd1)]
        exact hCd
      · rw [paint_ne (fun e => by rw [e, hcA] at hA1; cases hA1)]
        exact hCA
      · rintro i σ H2 hi ⟨y6, cs, C, rfl, s12, hc2, hcl, hr2, hcs, hCd, hCA, hCc⟩
        refine ⟨_, rfl, .inl ⟨rfl, _, SqL.of hc2⟩, 8, rfl, by decide, by decide, fun D hD => ?_⟩
        have hDc : D ≠ cA := fun e => by rw [e, hc2] at hD; cases hD
        have hD1 : H1 D = none := by
          cases e : H1 D with
          | none => rfl
          | some o => rw [s12 _ _ e] at hD; cases hD
        refine lc_range (lo := 0) (n := 8) (fun j H' => Same H2 H' ∧ H' D = some (.lst ((List.range j).map fun _ => vi 0))) ⟨same_upd hD, upd_same⟩ ?_ ?_
        · rintro j H3 hj ⟨s3, hD3⟩
          refine ⟨rfl, lc_yes ⟨_, hD3, by rw [List.length_map, List.length_range]; exact Nat.lt_of_lt_of_le hj (by decide), fun z o hz => by rw [upd_ne (ne_of_none hz hD)]; exact s3 _ _ hz, ?_⟩⟩
          rw [upd_same, List.range_succ, List.map_append]
          rfl
        · rintro H3 ⟨s3, hD3⟩
          refine ⟨cA, _, _, rfl, rfl, s3 _ _ hc2, by rw [List.length_map, hcl]; exact Nat.lt_of_lt_of_le (show i < 8 by omega) (by decide), ?_⟩
          have old : ∀ z o, H1 z = some o → z ≠ D := fun z o h => ne_of_none h hD1
          refine ⟨_, cs ++ [D], paint C D (20 + i), rfl, fun z o hz => by rw [upd_ne (ne_of_none hz hcA)]; exact s3 _ _ (s12 _ _ hz), by rw [upd_same, List.map_append]; rfl, by rw [List.length_append, hcl]; rfl, fun j a h => ?_, fun j a h => ?_, ?_, ?_, ?_⟩
          · rw [paint_ne (old _ _ (hr1 j a h).2.1)]
            exact hr2 j a h
          · by_cases hj : j < i
            · rw [List.getElem?_append_left (by omega)] at h
              obtain ⟨h1, h2, h3⟩ := hcs j a h
              have haD : a ≠ D := fun e => by rw [e, hD] at h2; cases h2
              have hac : a ≠ cA := fun e => by rw [e, hCc] at h1; omega
              exact ⟨by rw [paint_ne haD]; exact h1, by rw [upd_ne hac]; exact s3 _ _ h2, h3⟩
            · have hlt := (List.getElem?_eq_some_iff.mp h).1
              rw [List.length_append, hcl] at hlt
              have hji : j = i := by
                have : [D].length = 1 := rfl
                omega
              subst hji
              rw [List.getElem?_append_right (by omega), hcl, Nat.sub_self] at h
              obtain rfl : D = a := Option.some.inj h
              exact ⟨paint_eq, by rw [upd_ne hDc]; exact hD3, hD1⟩
          · rw [paint_ne (old _ _ hd1)]
            exact hCd
          · rw [paint_ne (old _ _ hA1)]
            exact hCA
          · rw [paint_ne (fun e => hDc e.symm)]
            exact hCc
      · rintro σ H2 ⟨y6, cs, C, rfl, s12, hc2, hcl, hr2, hcs, hCd, hCA, hCc⟩
        refine ⟨Nat.zero_le _, fun l hl => ?_⟩
        have s23 : Same H2 (upd H2 l (.lst [])) := same_upd hl
        have hl3 : upd H2 l (.lst []) l = some (.lst []) := upd_same
        have old : ∀ z o, H2 z = some o → z ≠ l := fun z o h => ne_of_none h hl
        have s13 := Same.tr s12 s23
        have S0 : TSt (TC Pc) (upd H2 l (.lst [])) d A0 cA l ds M 0 (fun _ => []) (fun _ _ => 0) [] rs cs (paint C l 3) :=
          ⟨tc_keep (tc_keep hT s1) s13, s13 _ _ hd1, s13 _ _ hA1, s23 _ _ hc2, ⟨[], hl3, .nil⟩, hrl, by rw [hcl]; rfl,
            fun i a h => ⟨by rw [paint_ne (old _ _ (s12 _ _ (hr1 i a h).2.1))]; exact hr2 i a h, [], s13 _ _ (hr1 i a h).2.1, .nil⟩,
            fun i a h => ⟨by rw [paint_ne (old _ _ (hcs i a h).2.1)]; exact (hcs i a h).1, s23 _ _ (hcs i a h).2.1⟩,
            by rw [paint_ne (old _ _ (s12 _ _ hd1))]; exact hCd, by rw [paint_ne (old _ _ (s12 _ _ hA1))]; exact hCA, by rw [paint_ne (old _ _ hc2)]; exact hCc, paint_eq, Inv.start M, rfl, (fun t h => by cases h), rfl, fun _ _ => rfl, hM8, fun _ => by rw [List.take_nil]; exact (Inv.start M).goodR hM8 fun _ _ => rfl, (fun t h => by cases h), BackOk.start⟩
        generalize upd H2 l (.lst []) = H3 at S0
        generalize paint C l 3 = C3 at S0
        clear s13 s23 hl3 old hcs hr2 hCd hCA hCc hc2 hcl s12 s2 hd1 hcA hr1 hA1 s1 hrl hd hl ndA
        refine ⟨_, rfl, (n : Int), rfl, by omega, by omega, ?_⟩
        refine for_range (lo := 0) (n := (n : Int).toNat) (fun q σ H' => ∃ (y6 y8 y9 y10 y11 : Option V) (R : Rows) (cnt : Nat → Nat → Nat) (ts : List Trip) (cs : List Addr) (C : Addr → Nat), σ = [some (.ref d), some (.int st), some (vi n), some (vi M), some (.ref A0), some (.ref cA), y6, some (.ref l), y8, y9, y10, y11, none] ∧ TSt (TC Pc) H' d A0 cA l ds M q R cnt ts rs cs C)
          ⟨_, none, none, none, none, _, _, _, cs, C3, rfl, S0⟩ ?_ ?_
        · rintro q σ H4 hq ⟨y6, y8, y9, y10, y11, R, cnt, ts, cs, C, rfl, S⟩
          have hbase : (0 : Int) ≤ st + 16 * (0 + (q : Int)) := by omega
          refine ⟨_, rfl, _, rfl, 16, _, rfl, rfl, (by unfold CMul; omega), _, _, rfl, rfl, ?_⟩
          refine ⟨_, rfl, _, rfl, d, ds, _, rfl, S.hd, hD, hbase, fun v v0 v1 => ⟨_, rfl, v, _, rfl, rfl, (by show (0 : Int) < (M : Int); omega), ?_⟩⟩
          obtain ⟨p, hpv⟩ : ∃ p : Nat, v % (M : Int) = (p : Int) := ⟨(v % (M : Int)).toNat, by have := Int.emod_nonneg v (show (M : Int) ≠ 0 by omega); omega⟩
          have hp : p < M := by have := Int.emod_lt_of_pos v (show (0 : Int) < (M : Int) by omega); omega
          have hp8 : p < 8 := by omega
          refine ⟨_, rfl, _, rfl, _, _, rfl, rfl, d, ds, _, rfl, S.hd, hD, by omega, fun u u0 u1 => ⟨_, rfl, _, 1, rfl, rfl, u, _, rfl, rfl, (by show (0 : Int) < (M : Int) + 1; omega), ?_⟩⟩
          obtain ⟨o, hov⟩ : ∃ o : Nat, u % ((M : Int) + 1) = (o : Int) := ⟨(u % ((M : Int) + 1)).toNat, by have := Int.emod_nonneg u (show (M : Int) + 1 ≠ 0 by omega); omega⟩
          refine ⟨fun σ' H' => ∃ (y10 : Option V) (cnt : Nat → Nat → Nat) (cs : List Addr) (C : Addr → Nat), σ' = [some (.ref d), some (.int st), some (vi n), some (vi M), some (.ref A0), some (.ref cA), some (.int (0 + (q : Int))), some (.ref l), some (.int (st + 16 * (0 + (q : Int)))), some (vi p), y10, y11, none] ∧ TSt (TC Pc) H' d A0 cA l ds M q R cnt ts rs cs C, ?_, ?_⟩
          · have eσ : ∀ y10 : Option V, [some (V.ref d), some (V.int st), some (vi n), some (vi M), some (V.ref A0), some (V.ref cA), some (V.int (0 + (q : Int))), some (V.ref l), some (V.int (st + 16 * (0 + (q : Int)))), some (V.int (v % (M : Int))), y10, y11, none] = [some (V.ref d), some (V.int st), some (vi n), some (vi M), some (V.ref A0), some (V.ref cA), some (V.int (0 + (q : Int))), some (V.ref l), some (V.int (st + 16 * (0 + (q : Int)))), some (vi p), y10, y11, none] := fun y10 => by rw [hpv]; rfl
            refine ⟨_, rfl, _, rfl, _, _, rfl, rfl, _, rfl, ite2 (fun e => ?_) (fun e => ?_)⟩
            · have ho : o < M := by have : u % ((M : Int) + 1) < (M : Int) := of_decide_eq_true e; omega
              obtain ⟨cp, hcp⟩ : ∃ cp, cs[p]? = some cp := ⟨_, List.getElem?_eq_getElem (by rw [S.nc]; exact hp)⟩
              obtain ⟨co, hco⟩ : ∃ co, cs[o]? = some co := ⟨_, List.getElem?_eq_getElem (by rw [S.nc]; exact ho)⟩
              have gp : atI (cs.map V.ref) (v % (M : Int)) = some (.ref cp) := by rw [hpv]; exact atI_nat (by rw [List.getElem?_map, hcp]; rfl)
              have go : atI (cs.map V.ref) (u % ((M : Int) + 1)) = some (.ref co) := by rw [hov]; exact atI_nat (by rw [List.getElem?_map, hco]; rfl)
              refine ⟨8, rfl, by decide, by decide, fun D hDn => ?_⟩
              refine lc_range (lo := 0) (n := 8) (fun j H' => Same H4 H' ∧ H' D = some (.lst ((List.range j).map fun j => vi (max (cnt p j) (cnt o j))))) ⟨same_upd hDn, upd_same⟩ ?_ ?_
              · rintro j H5 hj ⟨s5, hD5⟩
                have gc : ∀ f : Nat → Nat, atI ((List.range 8).map fun j => vi (f j)) (0 + (j : Int)) = some (vi (f j)) := fun f => by
                  rw [Int.zero_add]
                  exact atI_nat (by rw [List.getElem?_map, List.getElem?_range hj]; rfl)
                have em : (if ((cnt o j : Nat) : Int) > ((cnt p j : Nat) : Int) then ((cnt o j : Nat) : Int) else ((cnt p j : Nat) : Int)) = ((max (cnt p j) (cnt o j) : Nat) : Int) := by split <;> omega
                refine ⟨rfl, lc_yes ⟨_, rfl, _, rfl, cA, _, _, _, rfl, rfl, SqL.of (s5 _ _ S.hc), gp, _, rfl, cp, _, _, _, rfl, rfl, SqL.of (s5 _ _ (S.c p cp hcp).2), gc _, _, rfl, _, rfl, cA, _, _, _, rfl, rfl, SqL.of (s5 _ _ S.hc), go, _, rfl, co, _, _, _, rfl, rfl, SqL.of (s5 _ _ (S.c o co hco).2), gc _, _, _, rfl, _, hD5, by rw [List.length_map, List.length_range]; exact Nat.lt_of_lt_of_le hj (by decide), fun z o hz => by rw [upd_ne (ne_of_none hz hDn)]; exact s5 _ _ hz, ?_⟩⟩
                rw [upd_same, List.range_succ, List.map_append]
                exact congrArg (fun z => some (HO.lst (((List.range j).map fun j => vi (max (cnt p j) (cnt o j))) ++ [V.int z]))) em
              · rintro H5 ⟨s5, hD5⟩
                refine ⟨_, rfl, _, rfl, cA, _, _, p, rfl, rfl, s5 _ _ S.hc, by rw [hpv]; exact ixN_nat (by rw [List.length_map, S.nc]; exact hp), ?_⟩
                exact ⟨_, _, _, _, eσ _, S.setC hDn s5 hD5 hp (S.inv.merge hp ho) (tabs_but (tc_keep S.t s5) (s5 _ _ S.hc) ButL.upd)⟩
            · exact ⟨_, _, _, _, eσ _, S⟩
          · clear S cs C cnt u0 u1 hov hpv v0 v1 y10
            rintro σ H5 ⟨y10, cnt, cs, C, rfl, S⟩
            obtain ⟨cp, hcp⟩ : ∃ cp, cs[p]? = some cp := ⟨_, List.getElem?_eq_getElem (by rw [S.nc]; exact hp)⟩
            obtain ⟨ra, hra⟩ : ∃ ra, rs[p]? = some ra := ⟨_, List.getElem?_eq_getElem (by rw [S.nr]; exact hp8)⟩
            have gp : atI (cs.map V.ref) (p : Int) = some (.ref cp) := atI_nat (by rw [List.getElem?_map, hcp]; rfl)
            have gr : atI (rs.map V.ref) (p : Int) = some (.ref ra) := atI_nat (by rw [List.getElem?_map, hra]; rfl)
            have hq30 : q ≤ 100 := by omega
            refine ⟨_, rfl, _, rfl, _, 2, rfl, rfl, _, rfl, _, rfl, _, rfl, cA, _, _, _, rfl, rfl, SqL.of S.hc, gp, A0, cp, rs, R, cnt p, rfl, S.rows, S.inv.few hq30, (S.c p cp hcp).2, fun H6 vl rs' s6 RV => ?_⟩
            refine ⟨_, rfl, d, vl, ds, _, rs', view R (cnt p), p, rfl, s6 _ _ S.hd, hD, by omega, RV, (S.inv.few hq30).view _, S.inv.good hp, hp8, tc_keep S.t s6, fun H7 dx δ e7 t7 hdx hfit hx4 hbk => ?_⟩
            have S7 := (S.keep (extN_of s6) (tc_keep S.t s6)).keep e7 t7
            clear S RV e7 s6
            obtain ⟨cr, us, hu, hus⟩ := S7.r p ra hra
            obtain ⟨cc, hcc⟩ := S7.c p cp hcp
            obtain ⟨tl, hl7, htl⟩ := S7.hl
            have hul := hus.len
            have hRl := S7.inv.len p
            have n1 : ra ≠ cp := fun e => by rw [e, cc] at cr; omega
            have n2 : ra ≠ l := fun e => by rw [e, S7.kl] at cr; omega
            have n3 : cp ≠ l := fun e => by rw [e, S7.kl] at cc; omega
            have nA1 : A0 ≠ ra := fun e => by have := S7.kA; rw [e, cr] at this; omega
            have nA2 : A0 ≠ cp := fun e => by have := S7.kA; rw [e, cc] at this; omega
            have nc1 : cA ≠ ra := fun e => by have := S7.kc; rw [e, cr] at this; omega
            refine ⟨_, rfl, _, rfl, A0, _, _, _, rfl, rfl, SqL.of S7.hA, gr, .inl ⟨rfl, _, SqL.of hu⟩, _, rfl, ra, _, _, rfl, rfl, hu, by rw [hul]; exact Nat.lt_of_le_of_lt (show _ ≤ 100 by omega) (by decide), ?_⟩
            have b8 : ∀ z o, H7 z = some o → z ≠ ra → (upd H7 ra (.lst (us ++ [dx]))) z = some o := fun z o h n => by rw [upd_ne n]; exact h
            have g8 : upd H7 ra (.lst (us ++ [dx])) ra = some (.lst (us ++ [dx])) := upd_same
            generalize upd H7 ra (.lst (us ++ [dx])) = H8 at b8 g8
            refine ⟨_, rfl, _, rfl, A0, _, _, _, rfl, rfl, SqL.of (b8 _ _ S7.hA nA1), gr, ra, _, rfl, .inl (SqL.of g8), _, rfl, _, rfl, cA, _, _, _, rfl, rfl, SqL.of (b8 _ _ S7.hc nc1), gp, _, rfl, cp, _, _, p, rfl, rfl, b8 _ _ hcc (fun e => n1 e.symm), ixN_nat (by rw [List.length_map, List.length_range]; exact hp8), ?_⟩
            have hlen : (us ++ [dx]).length = (R p).length + 1 := by rw [List.length_append, hul]; rfl
            have e9 : ((List.range 8).map fun j => vi (cnt p j)).set p (V.int ((us ++ [dx]).length : Nat)) = (List.range 8).map fun j => vi (if j = p then (R p).length + 1 else cnt p j) := by rw [hlen]; exact set_cnt hp8
            rw [e9]
            have b9 : ∀ z o, H8 z = some o → z ≠ cp → (upd H8 cp (.lst ((List.range 8).map fun j => vi (if j = p then (R p).length + 1 else cnt p j)))) z = some o := fun z o h n => by rw [upd_ne n]; exact h
            have g9 : upd H8 cp (.lst ((List.range 8).map fun j => vi (if j = p then (R p).length + 1 else cnt p j))) cp = some (.lst ((List.range 8).map fun j => vi (if j = p then (R p).length + 1 else cnt p j))) := upd_same
            generalize upd H8 cp (.lst ((List.range 8).map fun j => vi (if j = p then (R p).length + 1 else cnt p j))) = H9 at b9 g9
            have hl9 := b9 _ _ (b8 _ _ hl7 (fun e => n2 e.symm)) (fun e => n3 e.symm)
            have hr9 := b9 _ _ g8 n1
            refine ⟨_, rfl, .inl ⟨rfl, _, SqL.of hl9⟩, _, rfl, _, rfl, _, rfl, A0, _, _, _, rfl, rfl, SqL.of (b9 _ _ (b8 _ _ S7.hA nA1) nA2), gr, ra, _, rfl, .inl (SqL.of hr9), _, rfl, (by show 3 ≤ sizeLine; decide), fun t ht => ?_⟩
            have s10 : Same H9 (upd H9 t (.tup [vi p, .int ((us ++ [dx]).length : Nat), dx])) := same_upd ht
            have g10 : upd H9 t (.tup [vi p, .int ((us ++ [dx]).length : Nat), dx]) t = some (.tup [vi p, .int ((us ++ [dx]).length : Nat), dx]) := upd_same
            generalize upd H9 t (.tup [vi p, .int ((us ++ [dx]).length : Nat), dx]) = H10 at s10 g10
            have hl10 := s10 _ _ hl9
            have ntl : t ≠ l := fun e => by rw [e, hl10] at g10; cases g10
            refine ⟨l, _, _, rfl, rfl, hl10, by rw [htl.len, S7.tk]; exact Nat.lt_of_le_of_lt hq30 (by decide), ?_⟩
            have hsm : Small (ts.length + 1) (p, (us ++ [dx]).length, δ) := by
              cases δ with
              | back => exact ⟨Nat.zero_le _, Nat.zero_le _, Nat.zero_le _⟩
              | change m x b n t =>
                obtain ⟨b1, b2, b3⟩ := hx4 _ _ _ _ _ rfl
                have hB : EndsBy (view R (cnt p)) (10 * ts.length) := fun r hr d hd => by
                  have hd2 : d ∈ R r := List.mem_of_mem_take hd
                  rw [S7.req] at hd2
                  unfold rowsOf at hd2
                  obtain ⟨t', ht', rfl⟩ := List.mem_map.mp hd2
                  exact (S7.t4 t' (List.mem_filter.mp ht').1).1.2.2
                have b4 := b3 _ hB
                exact ⟨b2, b1, by show n + t.length ≤ _; omega⟩
            refine ⟨_, _, _, _, _, _, _, _, _, _, rfl, S7.add (n := (us ++ [dx]).length) hp hp8 hfit hsm hlen (fun n hn => ⟨(hbk n hn).1, Nat.le_trans (hbk n hn).2 (by unfold view; rw [List.length_take]; exact Nat.min_le_right ..)⟩) hra hcp hu hl7 hdx (fun z o h m1 m2 m3 => ?_) ?_ ?_ upd_same ?_ ?_⟩
            · rw [upd_ne m3]
              exact s10 _ _ (b9 _ _ (b8 _ _ h m1) m2)
            · rw [upd_ne n2]
              exact s10 _ _ hr9
            · rw [upd_ne n3]
              exact s10 _ _ g9
            · rw [upd_ne ntl]
              exact g10
            · exact tabs_but (tc_keep (tabs_but (tabs_but t7 hu b8) (b8 _ _ hcc (fun e => n1 e.symm)) b9) s10) hl10 ButL.upd
        · rintro σ H4 ⟨y6, y8, y9, y10, y11, R, cnt, ts, cs, C, rfl, S⟩
          obtain ⟨us, h1, h2⟩ := S.hl
          exact ⟨_, rfl, qq H4 l us ts S.hd h1 h2 ⟨by rw [S.tk]; omega, S.tok⟩ S.pre (by rw [← S.req]; exact S.t4) (by rw [S.tk]; omega) (by rw [← S.req]; exact S.bk) S.t⟩
end
end Q07
namespace DM
open PySem PySem.Spec PyProof.Rows L2 SX HL
/-! ## which modules an object's dict of marks has -/
def Named (R : Rows) (m : List Nat) : Prop := ∃ r, r < 8 ∧ ∃ d ∈ R r, isCh m d = true
theorem named_add {R : Rows} {r : Nat} {δ : Deed} (hr : r < 8) (m : List Nat) : Named (addR R r δ) m ↔ Named R m ∨ isCh m δ = true := by
  unfold Named addR
  constructor
  · rintro ⟨q, hq, d, hd, hm⟩
    split at hd
    · rename_i e
      subst e
      rcases List.mem_append.mp hd with h | h
      · exact .inl ⟨q, hq, d, h, hm⟩
      · rw [List.mem_singleton.mp h] at hm
        exact .inr hm
    · exact .inl ⟨q, hq, d, hd, hm⟩
  · rintro (⟨q, hq, d, hd, hm⟩ | hm)
    · refine ⟨q, hq, d, ?_, hm⟩
      split
      · rename_i e
        subst e
        exact List.mem_append_left _ hd
      · exact hd
    · refine ⟨r, hr, δ, ?_, hm⟩
      rw [if_pos rfl]
      exact List.mem_append_right _ (List.mem_singleton.mpr rfl)
structure DMo (kvs : List (Key × V)) (R : Rows) : Prop where
  nd : (kvs.map (·.1)).Nodup
  form : ∀ kv ∈ kvs, ∃ m, kv.1 = .inr (S m)
  named : ∀ m, (valV kvs (.inr (S m))).isSome = true ↔ Named R m
theorem DMo.start : DMo [] (fun _ => []) := ⟨List.Pairwise.nil, fun kv h => (by cases h), fun m => ⟨fun h => (by cases h), fun ⟨_, _, _, h, _⟩ => (by cases h)⟩⟩
theorem DMo.back {kvs : List (Key × V)} {R : Rows} (M : DMo kvs R) {r q : Nat} (hr : r < 8) : DMo kvs (addR R r (.back q)) := by
  refine ⟨M.nd, M.form, fun m => ?_⟩
  rw [named_add hr, M.named]
  exact ⟨.inl, fun h => h.elim id fun h => (by cases h)⟩
theorem isCh_change {m m' : List Nat} {rem : List Mark} {b : Option Mark} {n : Nat} {t : List Nat} : isCh m (.change m' rem b n t) = true ↔ m' = m := by
  unfold isCh
  exact decide_eq_true_iff
theorem DMo.old {kvs : List (Key × V)} {R : Rows} (M : DMo kvs R) {r : Nat} (hr : r < 8) {m : List Nat} {v : V} {rem : List Mark} {b : Option Mark} {n : Nat} {t : List Nat} (hv : valV kvs (.inr (S m)) = some v) : DMo kvs (addR R r (.change m rem b n t)) := by
  refine ⟨M.nd, M.form, fun m' => ?_⟩
  rw [named_add hr, isCh_change, ← M.named]
  refine ⟨.inl, fun h => h.elim id fun e => ?_⟩
  rw [← e, hv]
  rfl
theorem putK_any {kvs : List (Key × V)} {k : Key} {v : V} (h : valV kvs k = none) : putK kvs k v = kvs ++ [(k, v)] := putK_new v h
theorem valV_none {kvs : List (Key × V)} {k : Key} (h : valV kvs k = none) : k ∉ kvs.map (·.1) := fun hm => by
  obtain ⟨kv, hkv, e⟩ := List.mem_map.mp hm
  have := valV_any k kvs
  rw [h] at this
  have h2 := List.any_eq_false.mp this kv hkv
  rw [e] at h2
  simp at h2
theorem DMo.key {kvs : List (Key × V)} {R : Rows} (M : DMo kvs R) {r : Nat} (hr : r < 8) {m : List Nat} {v : V} {rem : List Mark} {b : Option Mark} {n : Nat} {t : List Nat} (hn : valV kvs (.inr (S m)) = none) : DMo (putK kvs (.inr (S m)) v) (addR R r (.change m rem b n t)) := by
  refine ⟨?_, fun kv hkv => ?_, fun m' => ?_⟩
  · rw [putK_any hn, List.map_append, List.nodup_append]
    refine ⟨M.nd, by simp, fun x hx y hy e => ?_⟩
    simp only [List.map_cons, List.map_nil, List.mem_singleton] at hy
    subst hy
    subst e
    exact valV_none hn hx
  · rw [putK_any hn] at hkv
    rcases List.mem_append.mp hkv with h | h
    · exact M.form kv h
    · rw [List.mem_singleton.mp h]
      exact ⟨m, rfl⟩
  · rw [named_add hr, isCh_change, ← M.named, valV_put]
    by_cases e : m = m'
    · subst e
      rw [if_pos rfl]
      exact ⟨fun _ => .inr rfl, fun _ => rfl⟩
    · have : ¬ (Sum.inr (S m') : Key) = .inr (S m) := fun z => e (S_inj (Sum.inr.inj z)).symm
      rw [if_neg this]
      exact ⟨.inl, fun h => h.elim id fun z => absurd z e⟩
/-- its keys are texts -/
theorem DMo.keys : ∀ {kvs : List (Key × V)}, (∀ kv ∈ kvs, ∃ m, kv.1 = .inr (S m)) → ∃ ms : List (List Nat), kvs.map (·.1) = (ms.map S).map Sum.inr
  | [], _ => ⟨[], rfl⟩
  | kv :: kvs, h => by
    obtain ⟨m, hm⟩ := h kv (List.mem_cons_self ..)
    obtain ⟨ms, e⟩ := DMo.keys fun x hx => h x (List.mem_cons_of_mem _ hx)
    exact ⟨m :: ms, by rw [List.map_cons, e, hm]; rfl⟩
end DM
namespace Q07
open PySem PySem.Spec PyProof.Rows L2 SX HL DM
section
variable {P : Program} {w : World} {K : PySem.W.Frag} {mg : Str → Option Value} {base : Heap}
/-! ### the class -/
/-- an object with these rows; N holds what it may change -/
def DeAt (cD : Addr) (H : Hp) (p : Addr) (R : Rows) (k : Nat) (N : Addr → Prop) : Prop := ∃ dx A mk en rs kvs es, DSt cD H p dx A mk en rs kvs es R k N ∧ DEx H kvs es R ∧ DMo kvs R
def spInit (cD : Addr) : Sp := fun vs H Q _ => ∃ (p dx : Addr), vs = [.ref p] ∧ H p = some (.ins cD dx []) ∧
  ∀ H' N, (∀ z o, H z = some o → z ≠ p → H' z = some o) → DeAt cD H' p (fun _ => []) 0 N → (∀ z, N z → z = p ∨ H z = none) → Q .non H'
theorem ok_init {k : Nat} (Z : Defs K mg) : FnOk P w K mg base CX0 (k + 1) Z.fDeedsInit Z.fdDeedsInit ["self"] (spInit Z.cDeeds) := by
  refine Z.DDeedsInit.F.ok scDeedsInit (fun vs H Q E h => ?_) (fun cdv A outer s H vs Q E hr h => ?_)
  · obtain ⟨p, dx, rfl, _⟩ := h
    rfl
  · obtain ⟨p, dx, rfl, hp, qq⟩ := h
    refine ⟨_, (pss_cons (ps_fld (pv 0) (pe_lc (own := [("_", 1)]) (g := (gName 1)) (by rfl) scDeedsInit.nd (pi_range1 (by rfl) Z.range (pa_cons (pe_gint rfl Z.kREPLICAS) pa_nil)) (blkOk_by (own := [("_", 1)]) (N := ["self", "_"]) (sc := defScope sDeedsInit) (by decide +kernel)) (fun _ _ _ _ _ => (pg_name (i := 1) scDeedsInit.nd rfl (Or.inl rfl))) (fun _ _ _ _ _ => pts_nil) (fun _ _ _ _ _ => (pe_lst pa_nil))) rfl)
        (pss_cons (ps_fld (pv 0) pe_dnewK rfl)
        (pss_one (ps_fld (pv 0) (pe_lc (own := [("_", 1)]) (g := (gName 1)) (by rfl) scDeedsInit.nd (pi_range1 (by rfl) Z.range (pa_cons (pe_gint rfl Z.kREPLICAS) pa_nil)) (blkOk_by (own := [("_", 1)]) (N := ["self", "_"]) (sc := defScope sDeedsInit) (by decide +kernel)) (fun _ _ _ _ _ => (pg_name (i := 1) scDeedsInit.nd rfl (Or.inl rfl))) (fun _ _ _ _ _ => pts_nil) (fun _ _ _ _ _ => pe_int)) rfl)))), ?_⟩
    refine ⟨8, rfl, by decide, by decide, fun A hA => ?_⟩
    refine lc_range (lo := 0) (n := 8) (fun i H' => Same H H' ∧ ∃ rs : List Addr, H' A = some (.lst (rs.map V.ref)) ∧ rs.length = i ∧ rs.Nodup ∧ ∀ a ∈ rs, a ≠ A ∧ H' a = some (.lst []) ∧ H a = none) ⟨same_upd hA, [], upd_same, rfl, List.Pairwise.nil, fun a h => by cases h⟩ ?_ ?_
    · rintro i H1 hi ⟨s1, rs, hA1, hrl, hnd, hrs⟩
      refine ⟨rfl, lc_yes ⟨Nat.zero_le _, fun a ha => ?_⟩⟩
      have naA : a ≠ A := fun e => by rw [e, hA1] at ha; cases ha
      have haH : H a = none := by
        cases e : H a with
        | none => rfl
        | some o => rw [s1 _ _ e] at ha; cases ha
      have old : ∀ b ∈ rs, b ≠ a := fun b hb e => by have := (hrs b hb).2.1; rw [e, ha] at this; cases this
      refine ⟨_, by rw [upd_ne (fun e => naA e.symm)]; exact hA1, by rw [List.length_map, hrl]; exact Nat.lt_of_lt_of_le hi (by decide), fun z o hz => by rw [upd_ne (ne_of_none hz hA), upd_ne (ne_of_none hz haH)]; exact s1 _ _ hz, rs ++ [a], by rw [upd_same, List.map_append]; rfl, by rw [List.length_append, hrl]; rfl, ?_, fun b hb => ?_⟩
      · refine List.pairwise_append.mpr ⟨hnd, List.pairwise_singleton .., fun x hx y hy => ?_⟩
        rw [List.mem_singleton.mp hy]
        exact old x hx
      · rcases List.mem_append.mp hb with hb | hb
        · obtain ⟨h1, h2, h3⟩ := hrs b hb
          exact ⟨h1, by rw [upd_ne h1, upd_ne (old b hb)]; exact h2, h3⟩
        · rw [List.mem_singleton.mp hb]
          exact ⟨naA, by rw [upd_ne naA, upd_same], haH⟩
    · rintro H1 ⟨s1, rs, hA1, hrl, hnd, hrs⟩
      have npA : p ≠ A := ne_of_none hp hA
      have np : ∀ b ∈ rs, b ≠ p := fun b hb e => by have := (hrs b hb).2.2; rw [e, hp] at this; cases this
      refine ⟨_, rfl, p, Z.cDeeds, dx, [], rfl, s1 _ _ hp, Z.CDeeds.cl, Z.nDeeds_rows, (by show 0 < 1000; decide), ?_⟩
      have b2 : ∀ z o, H1 z = some o → z ≠ p → (upd H1 p (.ins Z.cDeeds dx (putF "rows" (.ref A) []))) z = some o := fun z o h n => by rw [upd_ne n]; exact h
      have g2 : upd H1 p (.ins Z.cDeeds dx (putF "rows" (.ref A) [])) p = some (.ins Z.cDeeds dx (putF "rows" (.ref A) [])) := upd_same
      generalize upd H1 p (.ins Z.cDeeds dx (putF "rows" (.ref A) [])) = H2 at b2 g2
      refine fun mk hmk => ?_
      have s3 : Same H2 (upd H2 mk (.dK [])) := same_upd hmk
      have g3 : upd H2 mk (.dK []) mk = some (.dK []) := upd_same
      generalize upd H2 mk (.dK []) = H3 at s3 g3
      have npm : mk ≠ p := fun e => by rw [e, g2] at hmk; cases hmk
      refine ⟨_, rfl, p, Z.cDeeds, dx, _, rfl, s3 _ _ g2, Z.CDeeds.cl, Z.nDeeds_marks, (by show 1 < 1000; decide), ?_⟩
      have b4 : ∀ z o, H3 z = some o → z ≠ p → (upd H3 p (.ins Z.cDeeds dx (putF "_marks" (.ref mk) (putF "rows" (.ref A) [])))) z = some o := fun z o h n => by rw [upd_ne n]; exact h
      have g4 : upd H3 p (.ins Z.cDeeds dx (putF "_marks" (.ref mk) (putF "rows" (.ref A) []))) p = some (.ins Z.cDeeds dx (putF "_marks" (.ref mk) (putF "rows" (.ref A) []))) := upd_same
      generalize upd H3 p (.ins Z.cDeeds dx (putF "_marks" (.ref mk) (putF "rows" (.ref A) []))) = H4 at b4 g4
      refine ⟨8, rfl, by decide, by decide, fun en hen => ?_⟩
      refine lc_range (lo := 0) (n := 8) (fun i H' => Same H4 H' ∧ H' en = some (.lst ((List.replicate i 0).map vi))) ⟨same_upd hen, upd_same⟩ ?_ ?_
      · rintro j H5 hj ⟨s5, h5⟩
        refine ⟨rfl, lc_yes ⟨_, h5, by rw [List.length_map, List.length_replicate]; exact Nat.lt_of_lt_of_le hj (by decide), fun z o hz => by rw [upd_ne (ne_of_none hz hen)]; exact s5 _ _ hz, ?_⟩⟩
        rw [upd_same, List.replicate_succ', List.map_append]
        rfl
      · rintro H5 ⟨s5, h5⟩
        refine ⟨_, rfl, p, Z.cDeeds, dx, _, rfl, s5 _ _ g4, Z.CDeeds.cl, Z.nDeeds_ends, (by show 2 < 1000; decide), ?_⟩
        have ef : putF "_ends" (.ref en) (putF "_marks" (.ref mk) (putF "rows" (.ref A) [])) = dflds A mk en := by
          rw [putF_nil, putF_ne f12, putF_nil, putF_ne f13, putF_ne f23, putF_nil]
          rfl
        rw [ef]
        have npe : en ≠ p := fun e => by rw [e, g4] at hen; cases hen
        have old : ∀ z o, H1 z = some o → z ≠ p → (upd H5 p (.ins Z.cDeeds dx (dflds A mk en))) z = some o := fun z o h n => by
          rw [upd_ne n]
          exact s5 _ _ (b4 _ _ (s3 _ _ (b2 _ _ h n)) n)
        have ole : ∀ z o, H1 z = some o → z ≠ p → z ≠ en := fun z o h n => ne_of_none (b4 _ _ (s3 _ _ (b2 _ _ h n)) n) hen
        have olm : ∀ z o, H1 z = some o → z ≠ p → z ≠ mk := fun z o h n => ne_of_none (b2 _ _ h n) hmk
        have gA := old _ _ hA1 (fun e => npA e.symm)
        have gm : upd H5 p (.ins Z.cDeeds dx (dflds A mk en)) mk = some (.dK []) := by rw [upd_ne npm]; exact s5 _ _ (b4 _ _ g3 npm)
        have ge : upd H5 p (.ins Z.cDeeds dx (dflds A mk en)) en = some (.lst ((List.replicate 8 0).map vi)) := by rw [upd_ne npe]; exact h5
        refine qq _ (fun z => z = p ∨ z = A ∨ z = mk ∨ z = en ∨ z ∈ rs) (fun z o h n => old z o (s1 _ _ h) n) ⟨dx, A, mk, en, rs, [], List.replicate 8 0, ⟨upd_same, ⟨gA, hrl, fun i a h => ⟨[], old _ _ (hrs a (List.mem_of_getElem? h)).2.1 (np a (List.mem_of_getElem? h)), .nil⟩⟩, hnd,
          fun a h => ⟨(hrs a h).1, ole _ _ (hrs a h).2.1 (np a h)⟩, ole _ _ hA1 (fun e => npA e.symm), gm, Nat.le_refl _, (fun kv h => by cases h), ge, List.length_replicate .., .inl rfl, .inr (.inl rfl), .inr (.inr (.inl rfl)), .inr (.inr (.inr (.inl rfl))), fun a h => .inr (.inr (.inr (.inr h))), fun z hz => ?_, fun _ => Nat.le_refl _⟩, DEx.start _, DMo.start⟩ fun z hz => ?_
        · rcases hz with rfl | rfl | rfl | rfl | hz
          · exact ⟨_, upd_same, fun xs e => by cases e⟩
          · exact ⟨_, gA, fun xs e => by cases e⟩
          · exact ⟨_, gm, fun xs e => by cases e⟩
          · exact ⟨_, ge, fun xs e => by cases e⟩
          · exact ⟨_, old _ _ (hrs z hz).2.1 (np z hz), fun xs e => by cases e⟩
        · have key : ∀ z, (∀ o, H1 z = some o → z ≠ p → False) → z = p ∨ H z = none := fun z h => by
            by_cases e : z = p
            · exact .inl e
            · refine .inr ?_
              cases hz : H z with
              | none => rfl
              | some o => exact absurd e (fun n => h o (s1 _ _ hz) n)
          rcases hz with rfl | rfl | rfl | rfl | hz
          · exact .inl rfl
          · exact .inr hA
          · exact key _ fun o h n => olm _ _ h n rfl
          · exact key _ fun o h n => ole _ _ h n rfl
          · exact .inr (hrs z hz).2.2
theorem valV_mem {kvs : List (Key × V)} {key : Key} {v : V} (h : valV kvs key = some v) : ∃ kv ∈ kvs, kv.2 = v := by
  unfold valV at h
  cases e : kvs.find? fun kv => decide (kv.1 = key) with
  | none => rw [e] at h; cases h
  | some kv =>
    rw [e] at h
    exact ⟨kv, List.mem_of_find?_eq_some e, Option.some.inj h⟩
def spAdd (cD : Addr) : Sp := fun vs H Q _ => ∃ (p : Addr) (r : Nat) (R : Rows) (k : Nat) (N : Addr → Prop) (dx : V) (δ : Deed), vs = [.ref p, vi r, dx] ∧ DeAt cD H p R k N ∧ DeedAt H dx δ ∧ DOk δ ∧ r < 8 ∧ k ≤ 1000 ∧
  ∀ H' N', (∀ z o, H z = some o → ¬ N z → H' z = some o) → DeAt cD H' p (addR R r δ) (k + 1) N' → (∀ z, N' z → N z ∨ H z = none) → Q .non H'
theorem ok_add {k : Nat} (Z : Defs K mg) : FnOk P w K mg base CX0 (k + 2) Z.fDeedsAdd Z.fdDeedsAdd ["self", "replica", "deed"] (spAdd Z.cDeeds) := by
  have GInserted : FnOk P w K mg base CX0 (k + 1) Z.fInserted Z.fdInserted ["replica", "deed"] (spIns EntP) := ok_inserted Z
  refine Z.DDeedsAdd.F.ok scDeedsAdd (fun vs H Q E h => ?_) (fun cdv A outer s H vs Q E hr h => ?_)
  · obtain ⟨p, r, R, kk, N, dx, δ, rfl, _⟩ := h
    rfl
  · obtain ⟨p, r, R, kk, N, dx, δ, rfl, ⟨du, A0, mk, en, rs, kvs, es, S, EX, MO⟩, hdx, hok, hr8, hkk, qq⟩ := h
    refine ⟨_, (pss_cons (ps_expr (pe_bm PySem.F.plainAttrs_list PySem.F.slot_list_append PySem.F.type_list_append mt_append (pe_ix ix_list (pe_fld (pv 0) rfl) (pv 1) (fun _ _ => rfl)) (pa_cons (pv 2) pa_nil)))
        (pss_one (ps_if (pt_cmpR op_eq (pe_ix ix_tup (pv 2) pe_int (fun _ _ => rfl)) pe_str (nomark _)) (pss_cons (ps_asg (pv 2) (pg_tup rfl (pgs_cons (pg_name (i := 3) scDeedsAdd.nd rfl (.inl rfl)) (pgs_cons (pg_name (i := 4) scDeedsAdd.nd rfl (.inl rfl)) (pgs_cons (pg_name (i := 3) scDeedsAdd.nd rfl (.inl rfl)) (pgs_cons (pg_name (i := 3) scDeedsAdd.nd rfl (.inl rfl)) (pgs_cons (pg_name (i := 5) scDeedsAdd.nd rfl (.inl rfl)) (pgs_cons (pg_name (i := 6) scDeedsAdd.nd rfl (.inl rfl)) pgs_nil))))))))
        (C8.pss_cut (ps_set (i := 7) scDeedsAdd.nd rfl (.inl rfl) (pe_dsetd (pe_fld (pv 0) rfl) (pv 4) pe_dnewT ⟨rfl, rfl, rfl, rfl⟩))
        (pss_cons (ps_for PassesOwn.never rfl (pi_list (pe_call GInserted (hr.mono (by omega)) (by rfl) Z.DInserted.g Z.DInserted.F.kp Z.DInserted.b .nil pass0 (pa_cons (pv 1) (pa_cons (pv 2) pa_nil)))) (pg_tup rfl (pgs_cons (pg_name (i := 8) scDeedsAdd.nd rfl (.inl rfl)) (pgs_cons (pg_name (i := 3) scDeedsAdd.nd rfl (.inl rfl)) (pgs_cons (pg_name (i := 3) scDeedsAdd.nd rfl (.inl rfl)) pgs_nil)))) (pss_one (ps_dput (hu_of hr) (pv 7) (pv 8) pe_bl rfl)))
        (pss_one (ps_asg (pe_callB (call_max2 rfl) (by rfl) Z.max (by decide +kernel) (pa_cons (pe_ix ix_list (pe_fld (pv 0) rfl) (pv 1) (fun _ _ => rfl)) (pa_cons (pe_op op_add (pv 5) (pe_callB call_len_str (by rfl) Z.len PySem.boot_len (pa_cons (pv 6) pa_nil))) pa_nil))) (pg_sub (pe_fld (pv 0) rfl) (pv 1) set_list)))))) pss_nil))), ?_⟩
    obtain ⟨ra, us, hra, hrv, hu, hus⟩ := S.hr.get hr8
    have gr : atI (rs.map V.ref) (r : Int) = some (.ref ra) := atI_nat hrv
    have hsz : 801000 ≤ sizeLine := by decide
    refine ⟨_, rfl, p, Z.cDeeds, du, _, _, rfl, S.hp, Z.CDeeds.cl, Z.nDeeds_rows, dflds_rows _ _ _, _, rfl, A0, _, _, _, rfl, rfl, SqL.of S.hr.h, gr, .inl ⟨rfl, _, SqL.of hu⟩, _, rfl, ra, _, _, rfl, rfl, hu, by rw [hus.len]; have := S.len r; omega, ?_⟩
    have S1 := S.row hra hu hdx
    have hdx1 : DeedAt (upd H ra (.lst (us ++ [dx]))) dx δ := hdx.keep (tk_upd fun xs e => by rw [hu] at e; cases e)
    have f1 : ∀ z o, H z = some o → z ≠ ra → (upd H ra (.lst (us ++ [dx]))) z = some o := fun z o h n => by rw [upd_ne n]; exact h
    have f1' : ∀ z, (upd H ra (.lst (us ++ [dx]))) z = none → H z = none := fun z h => by
      by_cases e : z = ra
      · rw [e, upd_same] at h; cases h
      · rw [upd_ne e] at h; exact h
    have hNra : N ra := S.Nr _ (List.mem_of_getElem? hra)
    have mv0 : ∀ kv ∈ kvs, ∃ b ps, kv.2 = .ref b ∧ (upd H ra (.lst (us ++ [dx]))) b = some (.dT ps) ∧ ps.length ≤ 100 * kk ∧ N b := fun kv hkv => by
      obtain ⟨b, ps, h1, h2, h3, h4⟩ := S.mv kv hkv
      exact ⟨b, ps, h1, f1 _ _ h2 (fun e => by rw [e, hu] at h2; cases h2), h3, h4⟩
    have km0 := S.km
    have EX1 : DEx (upd H ra (.lst (us ++ [dx]))) kvs es R := EX.stay fun b ps h => f1 b _ h fun e => by rw [e, hu] at h; cases h
    clear EX
    generalize upd H ra (.lst (us ++ [dx])) = H1 at S1 hdx1 f1 f1' mv0 EX1
    have fN : ∀ z o, H z = some o → ¬ N z → H1 z = some o := fun z o h n => f1 z o h fun e => n (by rw [e]; exact hNra)
    clear f1 hNra hdx hu hus S gr hrv hra
    cases δ with
    | back q =>
      obtain ⟨td, rfl, htd⟩ := hdx1
      exact ⟨_, rfl, td, _, 0, _, rfl, rfl, SqT.of htd, rfl, rfl, _, rfl, iteF (qq H1 N fN ⟨_, _, _, _, _, _, _, S1, EX1.back hr8, MO.back hr8⟩ fun z h => .inl h)⟩
    | change m rem b n t =>
      obtain ⟨_, _, _, _, htl⟩ := hok.m _ _ _ _ _ rfl
      have hdx1' := hdx1
      obtain ⟨td, tr, um, bx, rfl, htd, htr, hm, hb⟩ := hdx1
      refine ⟨_, rfl, td, _, 0, _, rfl, rfl, SqT.of htd, rfl, rfl, _, rfl, iteT ?_⟩
      refine ⟨_, rfl, td, _, rfl, SqT.of htd, rfl, _, _, rfl, _, _, rfl, _, _, rfl, _, _, rfl, _, _, rfl, _, _, rfl, rfl, ?_⟩
      refine ⟨fun σ' H' => ∃ (bm : Addr) (ps : List (List Key × V)) (kvs : List (Key × V)) (N' : Addr → Prop), σ' = [some (.ref p), some (vi r), some (.ref td), some bx, some (.str (S m)), some (vi n), some (.str (S t)), some (.ref bm), none] ∧ DSt Z.cDeeds H' p du A0 mk en rs kvs es (addR R r (.change m rem b n t)) (kk + 1) N' ∧ H' bm = some (.dT ps) ∧ N' bm ∧ ps.length ≤ 100 * kk ∧ (∀ z o, H1 z = some o → ¬ N z → H' z = some o) ∧ (∀ z, N' z → N z ∨ H1 z = none) ∧ DEx H' kvs es R ∧ valV kvs (.inr (S m)) = some (.ref bm) ∧ DMo kvs (addR R r (.change m rem b n t)), ?_, ?_⟩
      · refine ⟨_, rfl, p, Z.cDeeds, du, _, _, rfl, S1.hp, Z.CDeeds.cl, Z.nDeeds_marks, dflds_marks _ _ _, mk, rfl, .inl ⟨kvs, .inl S1.hm⟩, _, rfl, fun bn hbn => ?_⟩
        have s2 : Same H1 (upd H1 bn (.dT [])) := same_upd hbn
        refine ⟨kvs, .inr (S m), s2 _ _ S1.hm, rfl, by omega, fun v hv => ?_, fun hn => ?_⟩
        · obtain ⟨kv, hkv, rfl⟩ := valV_mem hv
          obtain ⟨bm, ps, e1, h2, h3, h4⟩ := mv0 kv hkv
          rw [e1]
          exact ⟨bm, ps, kvs, N, rfl, S1.same s2, s2 _ _ h2, h4, h3, fun z o h _ => s2 _ _ h, fun z h => .inl h, EX1.stay fun b ps h => s2 _ _ h, by rw [hv, e1], MO.old hr8 hv⟩
        · have nbm : bn ≠ mk := fun e => by rw [e, S1.hm] at hbn; cases hbn
          have gbn : (upd (upd H1 bn (.dT [])) mk (.dK (putK kvs (.inr (S m)) (.ref bn)))) bn = some (.dT []) := by rw [upd_ne nbm]; exact upd_same
          obtain ⟨E2, hk2⟩ := EX1.newKey (H' := upd (upd H1 bn (.dT [])) mk (.dK (putK kvs (.inr (S m)) (.ref bn)))) hn hbn gbn fun b ps h => by
            rw [upd_ne (fun e => by rw [e, S1.hm] at h; cases h), upd_ne (ne_of_none h hbn)]
            exact h
          refine ⟨bn, [], _, _, rfl, S1.key hbn (by omega), gbn, .inr rfl, Nat.zero_le _, fun z o h n => ?_, fun z h => ?_, E2, hk2, MO.key hr8 hn⟩
          · rw [upd_ne (fun e => n (by rw [e]; exact S1.Nm)), upd_ne (ne_of_none h hbn)]
            exact h
          · rcases h with h | h
            · exact .inl h
            · exact .inr (by rw [h]; exact hbn)
      · rintro σ H2 ⟨bm, ps, kvs, N', rfl, S2, hbm, hNb, hps, f2, n2, E2, hk2, M2⟩
        have hdx2 : DeedAt H2 (.ref td) (.change m rem b n t) := hdx1'.keep (S1.tk f2)
        refine ⟨_, rfl, _, rfl, r, .ref td, m, rem, b, n, t, rfl, hdx2, htl, fun H3 il ius s23 hil2 hil hius => ⟨il, rfl, ⟨_, SqL.of hil⟩, ?_⟩⟩
        have hbm3 := s23 _ _ hbm
        have nib : il ≠ bm := fun e => by rw [e, hbm] at hil2; cases hil2
        refine for_it walk_list (fun j σ H' => ∃ (y3 y8 : Option V) (qs : List (List Key × V)), σ = [some (.ref p), some (vi r), some (.ref td), y3, some (.str (S m)), some (vi n), some (.str (S t)), some (.ref bm), y8] ∧ (∀ z o, H3 z = some o → z ≠ bm → H' z = some o) ∧ H' bm = some (.dT qs) ∧ qs.length ≤ 100 * kk + j ∧ ∀ x : Mark, ((valV qs (kM x)).isSome = true ↔ (valV ps (kM x)).isSome = true ∨ x ∈ ((ins r n b t).take j).map (·.1)))
          ⟨_, _, ps, rfl, fun z o h _ => h, hbm3, hps, fun x => by simp⟩ (fun j σ H' _ ⟨_, _, _, _, f, _⟩ => SqL.of (f _ _ hil nib)) ?_ ?_
        · rintro j x σ H4' H4 hj ⟨y3, y8, qs, rfl, f4, hb4, hp4, hc4⟩ ⟨rfl, hx⟩
          obtain ⟨e, he, hex⟩ := hius.get hx
          have hj100 : j < 100 := by rw [hius.len, ins_len] at hj; omega
          obtain ⟨te, a, bx', rfl, hte, hma, hmb⟩ := hex.keep (show TupK H3 H4 from fun z o h => f4 z _ h fun e => by rw [e, hbm3] at h; cases h)
          obtain ⟨ta, rfl, hta⟩ : MkAt _ a e.1 := hma
          refine ⟨te, _, rfl, SqT.of hte, rfl, _, _, rfl, _, _, rfl, _, _, rfl, rfl, ?_⟩
          refine ⟨_, rfl, _, rfl, bm, _, rfl, .inr ⟨qs, kM e.1, ta, hb4, rfl, hta, by omega, rfl⟩, ?_⟩
          refine ⟨_, _, _, rfl, fun z o h n => by rw [upd_ne n]; exact f4 z o h n, upd_same, Nat.le_trans putK_len (Nat.succ_le_succ hp4), fun x => ?_⟩
          rw [valV_put, take_snoc he, List.map_append, List.mem_append]
          by_cases c : kM x = kM e.1
          · rw [if_pos c, kM_inj c]
            simp
          · rw [if_neg c, hc4]
            have c' : ¬ x = e.1 := fun z => c (by rw [z])
            simp [c']
        · rintro σ H4 ⟨y3, y8, ps4, rfl, f4, hb4, hp4, hc4⟩
          have hjl : ius.length ≤ 100 := by rw [hius.len, ins_len]; exact htl
          have S4 := (S2.same s23).dict hbm3 f4 hb4 (by omega)
          obtain ⟨e0, he0⟩ : ∃ e0, es[r]? = some e0 := ⟨_, List.getElem?_eq_getElem (by rw [S4.le]; exact hr8)⟩
          have ge : atI (es.map vi) (r : Int) = some (vi e0) := atI_nat (by rw [List.getElem?_map, he0]; rfl)
          have hl : (S t).length = t.length := S_len t
          have em : (if ((n : Int) + ((S t).length : Int)) > (e0 : Int) then ((n : Int) + ((S t).length : Int)) else (e0 : Int)) = ((max e0 (n + t.length) : Nat) : Int) := by
            rw [hl]
            split <;> omega
          have e5 : (es.map vi).set r (V.int (if ((n : Int) + ((S t).length : Int)) > (e0 : Int) then ((n : Int) + ((S t).length : Int)) else (e0 : Int))) = (es.set r (max e0 (n + t.length))).map vi := by
            rw [List.map_set, em]
            rfl
          refine ⟨_, rfl, p, Z.cDeeds, du, _, _, rfl, S4.hp, Z.CDeeds.cl, Z.nDeeds_ends, dflds_ends _ _ _, _, rfl, en, _, _, _, rfl, rfl, SqL.of S4.he, ge, _, rfl, _, rfl, S t, rfl, by rw [hl]; omega, _, _, rfl, rfl, _, _, rfl, _, rfl, p, Z.cDeeds, du, _, _, rfl, S4.hp, Z.CDeeds.cl, Z.nDeeds_ends, dflds_ends _ _ _, _, rfl, en, _, _, r, rfl, rfl, S4.he, ixN_nat (by rw [List.length_map, S4.le]; exact hr8), ?_⟩
          show Q .non (upd H4 en (.lst ((es.map vi).set r (V.int (if ((n : Int) + ((S t).length : Int)) > (e0 : Int) then ((n : Int) + ((S t).length : Int)) else (e0 : Int))))))
          rw [e5]
          refine qq _ N' (fun z o h nz => ?_) ⟨_, _, _, _, _, _, _, S4.ends (by rw [List.length_set]; exact S4.le), E2.change (H' := upd H4 en (.lst ((es.set r (max e0 (n + t.length))).map vi))) hr8 hk2 hbm (by rw [upd_ne (fun e => by rw [e, S4.he] at hb4; cases hb4)]; exact hb4) (fun b' qs h hne => by rw [upd_ne (fun e => by have := s23 _ _ h; rw [e, (S2.same s23).he] at this; cases this)]; exact f4 _ _ (s23 _ _ h) hne) (fun x => by rw [hc4 x, hius.len, List.take_length]) he0, M2⟩ fun z h => ?_
          · have h1 := fN z o h nz
            rw [upd_ne (fun e => by
              rcases n2 en S4.Ne with h | h
              · exact nz (by rw [e]; exact h)
              · rw [e, h] at h1; cases h1)]
            refine f4 _ _ (s23 _ _ (f2 _ _ h1 nz)) fun e => ?_
            rcases n2 bm hNb with h | h
            · exact nz (by rw [e]; exact h)
            · rw [e, h] at h1; cases h1
          · rcases n2 z h with h | h
            · exact .inl h
            · exact .inr (f1' z h)
end
end Q07
/-! list.extend of a tuple -/
namespace HK
open PySem PySem.Spec PyProof.Rows L2 SX
open AutoSeq1
theorem ext_tup (l : Addr) (us : Array Value) (n : Nat) (b : Addr) (vs : Array Value) (m : Nat) (od : Option Addr) (sl : Array (Option Value)) (h0 : ¬ (!us.isEmpty && Builtin.List.listTooLong (us.size + vs.size)) = true) (h1 : us.size ≤ sizeLine) (h2 : us.size + vs.size ≤ sizeLine + 1) :
    Meets (Builtin.«list.extend» ⟨[.ref l, .ref b], []⟩) (fun _ R s => (s.heap.get? l = some { cls := .type "list", dict := none, data := .seq us n, slots := #[] } ∧ s.heap.get? b = some { cls := .type "tuple", dict := od, data := .seq vs m, slots := sl }) ∧
      R (.ok (.ret Value.none)) { s with heap := s.heap.update l (Obj.mapSeq fun x => x ++ vs), toks := s.toks }) :=
  .of_wp fun prog w A R s h => by
    obtain ⟨hp, g, d, tk, os⟩ := s
    obtain ⟨⟨hl, hb⟩, h⟩ := h
    have f1 := idx_int
    have f2 := AutoSeq1.sub_tuple_tuple
    have f3 := AutoSeq1.sub_list_list
    have f4 := AutoSeq1.sub_tuple_list
    have f5 := AutoSeq1.sub_list_tuple
    have hz' : (us ++ vs).size ≤ sizeLine + 1 := by
      rw [Array.size_append]
      exact h2
    wp_walk using (wpAny_updateSeq hl rfl (hz := h1) (_hz' := hz')), wpAny_loadPart' hl, wpAny_loadPart' hb
    exact ⟨_, rfl, h⟩
section
variable {X : Cx}
def rExtT (K : PySem.W.Frag) : V → List V → Hp → VK → Prop := fun x vs H Q => ∃ l b xs zs, x = .ref l ∧ vs = [.ref b] ∧ H l = some (.lst xs) ∧ SqT K H b zs ∧ xs.length + zs.length ≤ sizeLine ∧ Q .non (upd H l (.lst (xs ++ zs)))
theorem mt_extendT : MtM X "list.extend" (rExtT X.K) := by
  intro pins s σ H x vs v us Q I rx rv h
  obtain ⟨l, b, xs, zs, rfl, rfl, hH, hB, hz, q⟩ := h
  cases rx
  obtain ⟨u, rfl, ru⟩ := rv.one
  cases ru
  obtain ⟨z, its, n, r, hl, e⟩ := I.lstM hH
  obtain ⟨its2, r2, ⟨⟨oc, od, dt, sl⟩, hb, hc, m, hd⟩, z2⟩ := I.tuple hB
  cases hc
  cases hd
  have e1 := r.length
  have e2 := r2.length
  have hsz : its.toArray.size + its2.toArray.size ≤ sizeLine := by
    rw [List.size_toArray, List.size_toArray]
    omega
  have hlong : ¬ (!its.toArray.isEmpty && Builtin.List.listTooLong (its.toArray.size + its2.toArray.size)) = true := by
    rw [notLongL hsz, Bool.and_false]
    decide
  refine call_meets F.slot_list_extend ⟨_, e, rfl⟩ F.entry_list_extend (F.args_list_extend_2 _ _) (ext_tup l its.toArray n b its2.toArray m od sl hlong (by omega) (by omega)) ⟨⟨e, hb⟩, .non, _, I.lset (its' := its ++ its2) hH e (by simp) (r.append r2) (by rw [List.length_append]; omega), rfl, q⟩
theorem op_in_kdK {K : PySem.W.Frag} {w : World} {d : Addr} {es : Array DictEntry} {n : Nat} (hK : X.K = K) (hw : X.w = w) (D : KDict K w d es n) : OpR X (compareOp .In) (fun x y H Q => ∃ (z : Str) (r : Option Value), x = .str z ∧ y = .ref d ∧ PySem.W.nsIn K d z = some r ∧ Q (.bl r.isSome) H) := by
  subst hK
  subst hw
  exact op_in_kd D
theorem ix_kdictK {K : PySem.W.Frag} {w : World} (hK : X.K = K) (hw : X.w = w) : IxR X (rIxD K w) := by
  subst hK
  subst hw
  exact ix_kdict
theorem pi_tupK {K : PySem.W.Frag} {tg l : Expr} {tl : TE} (hK : X.K = K) (hl : PE X l tl) : PI X tg l (iTup K tl) := by
  subst hK
  exact pi_tup hl
end
end HK
namespace Q07
open PySem PySem.Spec PyProof.Rows L2 SX HL DM
section
variable {P : Program} {w : World} {K : PySem.W.Frag} {mg : Str → Option Value} {base : Heap}
/-! ### fits -/
def FitsP (R : Rows) (r : Nat) : Deed → Prop
  | .back n => 1 ≤ n ∧ n ≤ (R r).length
  | .change m x b n _ => (1 ≤ m.length ∧ m.length ≤ 40) ∧ (∀ y ∈ x ++ b.toList, y ∈ marks R m ∧ y.1 < n) ∧ 1 ≤ n ∧ ∀ e ∈ R r, endD e ≤ n
def spFits (cD : Addr) : Sp := fun vs H Q _ => ∃ (p : Addr) (r : Nat) (R : Rows) (k : Nat) (N : Addr → Prop) (dx : V) (δ : Deed), vs = [.ref p, vi r, dx] ∧ DeAt cD H p R k N ∧ DeedAt H dx δ ∧ DOk δ ∧ r < 8 ∧
  ∀ H' c, Same H H' → (c = true ↔ FitsP R r δ) → Q (.bl c) H'
theorem ok_fits {k : Nat} (Z : Defs K mg) : FnOk P w K mg base CX0 (k + 1) Z.fDeedsFits Z.fdDeedsFits ["self", "replica", "deed"] (spFits Z.cDeeds) := by
  refine Z.DDeedsFits.F.ok scDeedsFits (fun vs H Q E h => ?_) (fun cdv A outer s H vs Q E hr h => ?_)
  · obtain ⟨p, r, R, kk, N, dx, δ, rfl, _⟩ := h
    rfl
  · obtain ⟨p, r, R, kk, N, dx, δ, rfl, ⟨du, A0, mk, en, rs, kvs, es, D0, EX, MO⟩, hdx, hok, hr8, qq⟩ := h
    refine ⟨_, (pss_cons (ps_if (pt_cmpR op_eq (pe_ix ix_tup (pv 2) pe_int (fun _ _ => rfl)) pe_str (nomark _)) (pss_one (ps_ret (pe_chain op_le op_le pe_int (pe_ix ix_tup (pv 2) pe_int (fun _ _ => rfl)) (pe_callB call_len_seq (by rfl) Z.len PySem.boot_len (pa_cons (pe_ix ix_list (pe_fld (pv 0) rfl) (pv 1) (fun _ _ => rfl)) pa_nil))))) pss_nil)
        (pss_cons (ps_asg (pv 2) (pg_tup rfl (pgs_cons (pg_name (i := 3) scDeedsFits.nd rfl (.inl rfl)) (pgs_cons (pg_name (i := 4) scDeedsFits.nd rfl (.inl rfl)) (pgs_cons (pg_name (i := 5) scDeedsFits.nd rfl (.inl rfl)) (pgs_cons (pg_name (i := 6) scDeedsFits.nd rfl (.inl rfl)) (pgs_cons (pg_name (i := 7) scDeedsFits.nd rfl (.inr rfl)) (pgs_cons (pg_name (i := 3) scDeedsFits.nd rfl (.inl rfl)) pgs_nil))))))))
        (C8.pss_cut (ps_set (i := 8) scDeedsFits.nd rfl (.inl rfl) (pe_ifExp (pt_cmp (pc_isN (pv 6))) (pv 5) (pe_tup (StX.pa_star (pv 5) (pa_cons (pv 6) pa_nil)))))
        (C8.pss_cut (ps_set (i := 9) scDeedsFits.nd rfl (.inr rfl) (pe_dget2 (hu_of hr) (pe_fld (pv 0) rfl) (pv 4) pe_dnewT ⟨rfl, rfl, rfl, rfl⟩))
        (pss_one (ps_ret (pe_and (pe_chain op_le op_le pe_int (pe_callB call_len_str (by rfl) Z.len PySem.boot_len (pa_cons (pv 4) pa_nil)) (pe_gint rfl Z.kLONGEST_MODULE)) (pe_and (pe_callB (cr_all rfl) (by rfl) Z.all (by decide +kernel) (pa_cons (pe_lc (own := [("mark", 10)]) (g := (gName 10)) (by rfl) scDeedsFits.nd (HK.pi_tupK (K := K) rfl (pv 8)) (blkOk_by (own := [("mark", 10)]) (N := ["self", "replica", "deed", "_", "module", "removed", "behind", "number", "named", "marks", "mark"]) (sc := defScope sDeedsFits) (by decide +kernel)) (fun _ _ _ _ _ => (pg_name (i := 10) scDeedsFits.nd rfl (Or.inl rfl))) (fun _ _ _ _ _ => pts_nil) (fun _ _ _ _ _ => (pe_and (pe_cmp (pc_din (hu_of hr) (pv 10) (pv 9)) rfl) (pe_one (pe_cmpR op_lt (pe_ix (HL.ix_tupK (K := K) rfl) (pv 10) pe_int (fun _ _ => rfl)) (pv 7) (nomark _)))))) pa_nil)) (pe_one (pe_cmpR op_ge (pv 7) (pe_callB (call_max2 rfl) (by rfl) Z.max (by decide +kernel) (pa_cons pe_int (pa_cons (pe_ix ix_list (pe_fld (pv 0) rfl) (pv 1) (fun _ _ => rfl)) pa_nil))) (nomark _))))))))))), ?_⟩
    obtain ⟨ra, us, hra, hrv, hu, hus⟩ := D0.hr.get hr8
    have gr : atI (rs.map V.ref) (r : Int) = some (.ref ra) := atI_nat hrv
    have hsz : 801000 ≤ sizeLine := by decide
    cases δ with
    | back q =>
      obtain ⟨td, rfl, htd⟩ := hdx
      refine ⟨_, rfl, td, _, 0, _, rfl, rfl, SqT.of htd, rfl, rfl, _, rfl, iteT ?_⟩
      obtain hql := hus.len
      refine ⟨_, rfl, td, _, 1, _, rfl, rfl, SqT.of htd, rfl, 1, _, rfl, rfl, _, rfl, ite2 (fun e => ?_) (fun e => ?_)⟩
      · have h1 : (1 : Int) ≤ (q : Int) := of_decide_eq_true e
        refine ⟨_, rfl, p, Z.cDeeds, du, _, _, rfl, D0.hp, Z.CDeeds.cl, Z.nDeeds_rows, dflds_rows _ _ _, _, rfl, A0, _, _, _, rfl, rfl, SqL.of D0.hr.h, gr, ra, us, rfl, .inl (SqL.of hu), _, _, rfl, rfl, qq H _ (fun _ _ h => h) ?_⟩
        rw [decide_eq_true_iff, hql]
        show _ ↔ 1 ≤ q ∧ q ≤ (R r).length
        omega
      · have h1 : ¬ (1 : Int) ≤ (q : Int) := fun h => e (decide_eq_true h)
        refine qq H false (fun _ _ h => h) ⟨fun h => (by cases h), fun h => ?_⟩
        have : 1 ≤ q ∧ q ≤ (R r).length := h
        omega
    | change m x b n t =>
      obtain ⟨_, _, hml, hxl, htl⟩ := hok.m _ _ _ _ _ rfl
      obtain ⟨td, tr, um, bx, rfl, htd, htr, hm, hb⟩ := hdx
      refine ⟨_, rfl, td, _, 0, _, rfl, rfl, SqT.of htd, rfl, rfl, _, rfl, iteF ?_⟩
      refine ⟨_, rfl, td, _, rfl, SqT.of htd, rfl, _, _, rfl, _, _, rfl, _, _, rfl, _, _, rfl, _, _, rfl, _, _, rfl, rfl, ?_⟩
      refine ⟨fun σ' H' => ∃ (nt : Addr) (ul : List V), σ' = [some (.ref p), some (vi r), some (.ref td), some (.str (S t)), some (.str (S m)), some (.ref tr), some bx, some (vi n), some (.ref nt), none, none] ∧ Same H H' ∧ H' nt = some (.tup ul) ∧ All2 (MkAt H') ul (x ++ b.toList), ?_, ?_⟩
      · cases b with
        | none =>
          obtain rfl : bx = .non := hb
          refine ⟨_, rfl, _, rfl, iteT ⟨_, rfl, tr, um, rfl, fun _ _ h => h, htr, ?_⟩⟩
          show All2 (MkAt H) um (x ++ [])
          rw [List.append_nil]
          exact hm
        | some y =>
          obtain ⟨tb, rfl, htb⟩ : MkAt H bx y := hb
          refine ⟨_, rfl, _, rfl, iteF ⟨_, rfl, tr, um, rfl, .inl (SqT.of htr), _, rfl, ?_, fun nt hnt => ?_⟩⟩
          · rw [List.length_append, hm.len]
            exact Nat.le_trans (show x.length + 1 ≤ 1001 by omega) (by decide)
          · have s2 : Same H (upd H nt (.tup (um ++ [.ref tb]))) := same_upd hnt
            exact ⟨nt, um ++ [.ref tb], rfl, s2, upd_same, all2_app (hm.mono fun v e h => h.keep (Same.tk s2)) (.cons (MkAt.keep ⟨tb, rfl, htb⟩ (Same.tk s2)) .nil)⟩
      · rintro σ H2 ⟨nt, ul, rfl, s2, hnt, hul⟩
        have S2 := D0.same s2
        have EX2 := EX.stay fun b ps h => s2 _ _ h
        refine ⟨fun σ' H' => ∃ (bm : Addr) (ps : List (List Key × V)), σ' = [some (.ref p), some (vi r), some (.ref td), some (.str (S t)), some (.str (S m)), some (.ref tr), some bx, some (vi n), some (.ref nt), some (.ref bm), none] ∧ Same H2 H' ∧ H' bm = some (.dT ps) ∧ ∀ y : Mark, ((valV ps (kM y)).isSome = true ↔ y ∈ marks R m), ?_, ?_⟩
        · refine ⟨_, rfl, p, Z.cDeeds, du, _, _, rfl, S2.hp, Z.CDeeds.cl, Z.nDeeds_marks, dflds_marks _ _ _, mk, rfl, ?_⟩
          refine ⟨.inl ⟨kvs, .inl S2.hm⟩, _, rfl, fun bn hbn => ?_⟩
          have s3 : Same H2 (upd H2 bn (.dT [])) := same_upd hbn
          refine ⟨valV kvs (.inr (S m)), .inl ⟨kvs, .inr (S m), .inl (s3 _ _ S2.hm), rfl, rfl⟩, ?_⟩
          cases hv : valV kvs (.inr (S m)) with
          | none => exact ⟨bn, [], rfl, s3, upd_same, fun y => ⟨fun h => (by cases h), fun h => absurd h (EX2.non _ hv y)⟩⟩
          | some v =>
            obtain ⟨b', ps, rfl, h2, h3⟩ := EX2.key m v hv
            exact ⟨b', ps, rfl, s3, s3 _ _ h2, h3⟩
        · rintro σ H3 ⟨bm, ps, rfl, s23, hbm, hps⟩
          have hlm : (S m).length = m.length := S_len m
          have s03 := Same.tr s2 s23
          have S3 := S2.same s23
          have hul3 := hul.mono fun v e h => h.keep (Same.tk s23)
          refine ⟨_, rfl, S m, rfl, by rw [hlm]; omega, 1, _, rfl, rfl, _, rfl, ite2 (fun e => ?_) (fun e => ?_)⟩
          · have h1 : (1 : Int) ≤ ((S m).length : Int) := of_decide_eq_true e
            refine ⟨_, 40, rfl, rfl, _, rfl, ite2 (fun e => ?_) (fun e => ?_)⟩
            · have h2 : ((S m).length : Int) ≤ 40 := of_decide_eq_true e
              have hnt3 := s23 _ _ hnt
              have hnl : (x ++ b.toList).length ≤ 1001 := by
                rw [List.length_append]
                have : b.toList.length ≤ 1 := by cases b <;> simp
                omega
              refine ⟨_, rfl, nt, rfl, ⟨_, SqT.of hnt3⟩, fun D hD => ?_⟩
              refine lc_tup (K := K) (xs := ul) (fun j H' => Same H3 H' ∧ ∃ bs : List Bool, H' D = some (.lst (bs.map V.bl)) ∧ bs.length = j ∧ (bs.all id = true ↔ ∀ y ∈ (x ++ b.toList).take j, y ∈ marks R m ∧ y.1 < n)) ⟨same_upd hD, [], upd_same, rfl, by simp⟩ (fun j H' _ q => SqT.of (q.1 _ _ hnt3)) ?_ ?_
              · rintro j z H' hz ⟨s', bs, hD', hbl, hiff⟩
                obtain ⟨y, hy, hzy⟩ := hul3.get hz
                obtain ⟨tz, rfl, htz⟩ : MkAt H' z y := hzy.keep (Same.tk s')
                have hjl : j < (x ++ b.toList).length := (List.getElem?_eq_some_iff.mp hy).1
                have key : ∀ c : Bool, (c = true ↔ y ∈ marks R m ∧ y.1 < n) → ∃ acc, H' D = some (.lst acc) ∧ acc.length < sizeLine ∧ (Same H3 (upd H' D (.lst (acc ++ [.bl c]))) ∧ ∃ bs : List Bool, (upd H' D (.lst (acc ++ [.bl c]))) D = some (.lst (bs.map V.bl)) ∧ bs.length = j + 1 ∧ (bs.all id = true ↔ ∀ y ∈ (x ++ b.toList).take (j + 1), y ∈ marks R m ∧ y.1 < n)) := fun c hc => by
                  refine ⟨_, hD', by rw [List.length_map]; omega, fun z o hz => by rw [upd_ne (ne_of_none hz hD)]; exact s' _ _ hz, bs ++ [c], by rw [upd_same, List.map_append]; rfl, by rw [List.length_append, hbl]; rfl, ?_⟩
                  rw [take_snoc hy, List.all_append, Bool.and_eq_true, hiff]
                  constructor
                  · rintro ⟨h3, h4⟩ w hw
                    rcases List.mem_append.mp hw with hw | hw
                    · exact h3 w hw
                    · rw [List.mem_singleton.mp hw]
                      exact hc.mp (by simpa using h4)
                  · intro h
                    exact ⟨fun w hw => h w (List.mem_append_left _ hw), by simpa using hc.mpr (h y (List.mem_append_right _ (List.mem_singleton.mpr rfl)))⟩
                refine ⟨rfl, lc_yes ⟨_, rfl, _, rfl, bm, valV ps (kM y), rfl, .inr ⟨ps, kM y, tz, .inl (s' _ _ hbm), rfl, htz, rfl⟩, _, rfl, ite2 (fun e => ?_) (fun e => ?_)⟩⟩
                · refine ⟨_, rfl, tz, _, 0, _, rfl, rfl, SqT.of htz, rfl, _, rfl, _, _, rfl, rfl, key _ ?_⟩
                  rw [decide_eq_true_iff]
                  have := (hps y).mp e
                  constructor
                  · intro h
                    exact ⟨this, by omega⟩
                  · intro h
                    have := h.2
                    omega
                · exact key false ⟨fun h => (by cases h), fun h => absurd ((hps y).mpr h.1) e⟩
              · rintro H4 ⟨s4, bs, hD4, hbl, hiff⟩
                rw [hul3.len, List.take_length] at hiff
                have S4 := S3.same s4
                have s04 := Same.tr s03 s4
                refine ⟨D, bs, rfl, SqL.of hD4, _, rfl, ite2 (fun e => ?_) (fun e => ?_)⟩
                · obtain ⟨e0, he0, hen⟩ := EX.ends r hr8
                  have ge : atI (es.map vi) (r : Int) = some (vi e0) := atI_nat (by rw [List.getElem?_map, he0]; rfl)
                  refine ⟨_, rfl, _, rfl, p, Z.cDeeds, du, _, _, rfl, S4.hp, Z.CDeeds.cl, Z.nDeeds_ends, dflds_ends _ _ _, _, rfl, en, _, _, _, rfl, rfl, SqL.of S4.he, ge, _, _, rfl, _, _, rfl, rfl, qq H4 _ s04 ?_⟩
                  rw [decide_eq_true_iff]
                  show _ ↔ (1 ≤ m.length ∧ m.length ≤ 40) ∧ (∀ y ∈ x ++ b.toList, y ∈ marks R m ∧ y.1 < n) ∧ 1 ≤ n ∧ ∀ e ∈ R r, endD e ≤ n
                  rw [← hen n, ← hiff]
                  constructor
                  · intro h
                    refine ⟨by omega, e, ?_⟩
                    split at h <;> omega
                  · rintro ⟨_, _, h3, h4⟩
                    split <;> omega
                · refine qq H4 false s04 ⟨fun h => (by cases h), fun h => ?_⟩
                  exact absurd (hiff.mpr h.2.1) e
            · have h2 : ¬ ((S m).length : Int) ≤ 40 := fun h => e (decide_eq_true h)
              refine qq H3 false s03 ⟨fun h => (by cases h), fun h => ?_⟩
              have := h.1
              omega
          · have h1 : ¬ (1 : Int) ≤ ((S m).length : Int) := fun h => e (decide_eq_true h)
            refine ⟨false, rfl, iteF (qq H3 false s03 ⟨fun h => (by cases h), fun h => ?_⟩)⟩
            have := h.1
            omega
end
end Q07
namespace Q07
open PySem PySem.Spec PyProof.Rows L2 SX HL DM
section
variable {P : Program} {w : World} {K : PySem.W.Frag} {mg : Str → Option Value} {base : Heap}
/-! ### _law_fits -/
def entM (c : Chg) : List Mark := (entD c.1 c.2.1).map (·.1)
theorem marks_eq (R : Rows) (m : List Nat) : marks R m = (changes R m).flatMap entM := by
  unfold marks found
  rw [List.map_flatMap]
  refine congrArg (fun f => List.flatMap f _) ?_
  funext c
  unfold entF entM
  rw [List.map_map]
  rfl
theorem marks_len {R : Rows} (h : Few R) (m : List Nat) : (marks R m).length ≤ 80000 := by
  unfold marks
  rw [List.length_map]
  exact found_len h m
def spLawFits : Sp := fun vs H Q _ => ∃ (A : Addr) (rs : List Addr) (R : Rows) (r : Nat) (dx : V) (δ : Deed), vs = [.ref A, vi r, dx] ∧ RowsAt H A rs R ∧ Few R ∧ DeedAt H dx δ ∧ DOk δ ∧ r < 8 ∧
  ∀ H' c, Same H H' → (c = true ↔ FitsP R r δ) → Q (.bl c) H'
theorem ok_lfits {k : Nat} (Z : Defs K mg) : FnOk P w K mg base CX0 (k + 3) Z.fLawFits Z.fdLawFits ["rows", "replica", "deed"] spLawFits := by
  have GLawChanges : FnOk P w K mg base CX0 (k + 2) Z.fLawChanges Z.fdLawChanges ["rows", "module"] spChanges := ok_lchanges Z
  have GLawInserted : FnOk P w K mg base CX0 (k + 1) Z.fLawInserted Z.fdLawInserted ["replica", "deed"] (spIns EntL) := ok_linserted Z
  refine Z.DLawFits.F.ok scLawFits (fun vs H Q E h => ?_) (fun cdv A outer s H vs Q E hr h => ?_)
  · obtain ⟨A, rs, R, r, dx, δ, rfl, _⟩ := h
    rfl
  · obtain ⟨A0, rs, R, r, dx, δ, rfl, RA, hF, hdx, hok, hr8, qq⟩ := h
    refine ⟨_, (pss_cons (ps_if (pt_cmpR op_eq (pe_ix ix_tup (pv 2) pe_int (fun _ _ => rfl)) pe_str (nomark _)) (pss_one (ps_ret (pe_and (pe_cmpR op_le pe_int (pe_ix ix_tup (pv 2) pe_int (fun _ _ => rfl)) (nomark _)) (pe_one (pe_cmpR op_le (pe_ix ix_tup (pv 2) pe_int (fun _ _ => rfl)) (pe_callB call_len_seq (by rfl) Z.len PySem.boot_len (pa_cons (pe_ix ix_list (pv 0) (pv 1) (fun _ _ => rfl)) pa_nil)) (nomark _)))))) pss_nil)
        (C8.pss_cut (ps_if (PW.pt (pw_or (pt_cmpR op_lt (pe_ix ix_tup (pv 2) pe_int (fun _ _ => rfl)) pe_int (nomark _)) (pw_or (pt_cmpR op_lt (pe_callB call_len_str (by rfl) Z.len PySem.boot_len (pa_cons (pe_ix ix_tup (pv 2) pe_int (fun _ _ => rfl)) pa_nil)) pe_int (nomark _)) (pw_or1 (pt_cmpR op_gt (pe_callB call_len_str (by rfl) Z.len PySem.boot_len (pa_cons (pe_ix ix_tup (pv 2) pe_int (fun _ _ => rfl)) pa_nil)) pe_int (nomark _)))))) (pss_one (ps_ret pe_bl)) pss_nil)
        (pss_cons (ps_for PassesOwn.never rfl (pi_list (pe_ix ix_list (pv 0) (pv 1) (fun _ _ => rfl))) (pg_name (i := 3) scLawFits.nd rfl (.inl rfl)) (pss_one (ps_if (PW.pt (pw_and (pt_cmpR op_eq (pe_ix ix_tup (pv 3) pe_int (fun _ _ => rfl)) pe_str (nomark _)) (pw_and1 (pt_cmpR op_lt (pe_ix ix_tup (pv 2) pe_int (fun _ _ => rfl)) (pe_op op_add (pe_ix ix_tup (pv 3) pe_int (fun _ _ => rfl)) (pe_callB call_len_str (by rfl) Z.len PySem.boot_len (pa_cons (pe_ix ix_tup (pv 3) pe_int (fun _ _ => rfl)) pa_nil))) (nomark _))))) (pss_one (ps_ret pe_bl)) pss_nil)))
        (pss_cons (ps_set (i := 4) scLawFits.nd rfl (.inl rfl) (pe_lst pa_nil))
        (pss_cons (ps_for PassesOwn.never rfl (pi_list (pe_call GLawChanges (hr.mono (by omega)) (by rfl) Z.DLawChanges.g Z.DLawChanges.F.kp Z.DLawChanges.b .nil pass0 (pa_cons (pv 0) (pa_cons (pe_ix ix_tup (pv 2) pe_int (fun _ _ => rfl)) pa_nil)))) (pg_tup rfl (pgs_cons (pg_name (i := 5) scLawFits.nd rfl (.inl rfl)) (pgs_cons (pg_name (i := 6) scLawFits.nd rfl (.inl rfl)) (pgs_cons (pg_name (i := 7) scLawFits.nd rfl (.inl rfl)) pgs_nil)))) (pss_one (ps_set (i := 4) scLawFits.nd rfl (.inl rfl) (pe_op op_cat (pv 4) (pe_lc (own := [("each", 9)]) (g := (gName 9)) (by rfl) scLawFits.nd (pi_list (pe_call GLawInserted (hr.mono (by omega)) (by rfl) Z.DLawInserted.g Z.DLawInserted.F.kp Z.DLawInserted.b .nil pass0 (pa_cons (pv 5) (pa_cons (pv 6) pa_nil)))) (blkOk_by (own := [("each", 9)]) (N := ["rows", "replica", "deed", "earlier", "marks", "other", "change", "force", "mark", "each"]) (sc := defScope sLawFits) (by decide +kernel)) (fun _ _ _ _ _ => (pg_name (i := 9) scLawFits.nd rfl (Or.inl rfl))) (fun _ _ _ _ _ => pts_nil) (fun _ _ _ _ _ => (pe_ix (HL.ix_tupK (K := K) rfl) (pv 9) pe_int (fun _ _ => rfl))))))))
        (pss_cons (ps_for PassesOwn.never rfl (pi_list (pe_op op_cat (pe_callTy call_list_of (by rfl) Z.list HL.boot_list (pa_cons (pe_ix ix_tup (pv 2) pe_int (fun _ _ => rfl)) pa_nil)) (pe_lst (pa_cons (pe_ix ix_tup (pv 2) pe_int (fun _ _ => rfl)) pa_nil)))) (pg_name (i := 8) scLawFits.nd rfl (.inl rfl)) (pss_one (ps_if (PW.pt (pw_and (pt_cmp (pc_notN (pv 8))) (pw_and1 (PW.pt (pw_or (pt_cmpR (HX.op_notInDK (K := K) rfl (DM.hu65 hr)) (pv 8) (pv 4) rfl) (pw_or1 (pt_cmpR op_ge (pe_ix ix_tup (pv 8) pe_int (fun _ _ => rfl)) (pe_ix ix_tup (pv 2) pe_int (fun _ _ => rfl)) (nomark _)))))))) (pss_one (ps_ret pe_bl)) pss_nil)))
        (pss_one (ps_ret pe_bl)))))))), ?_⟩
    obtain ⟨ra, us, hra, hrv, hu, hus⟩ := RA.get hr8
    have gr : atI (rs.map V.ref) (r : Int) = some (.ref ra) := atI_nat hrv
    have hsz : 801000 ≤ sizeLine := by decide
    have hql := hus.len
    cases δ with
    | back q =>
      obtain ⟨td, rfl, htd⟩ := hdx
      refine ⟨_, rfl, td, _, 0, _, rfl, rfl, SqT.of htd, rfl, rfl, _, rfl, iteT ?_⟩
      refine ⟨_, rfl, td, _, 1, _, rfl, rfl, SqT.of htd, rfl, 1, _, rfl, rfl, _, rfl, ite2 (fun e => ?_) (fun e => ?_)⟩
      · have h1 : (1 : Int) ≤ (q : Int) := of_decide_eq_true e
        refine ⟨_, rfl, td, _, 1, _, rfl, rfl, SqT.of htd, rfl, _, rfl, _, rfl, A0, _, _, _, rfl, rfl, SqL.of RA.h, gr, ra, us, rfl, .inl (SqL.of hu), _, _, rfl, rfl, qq H _ (fun _ _ h => h) ?_⟩
        rw [decide_eq_true_iff, hql]
        show _ ↔ 1 ≤ q ∧ q ≤ (R r).length
        omega
      · have h1 : ¬ (1 : Int) ≤ (q : Int) := fun h => e (decide_eq_true h)
        refine qq H false (fun _ _ h => h) ⟨fun h => (by cases h), fun h => ?_⟩
        have : 1 ≤ q ∧ q ≤ (R r).length := h
        omega
    | change m x b n t =>
      obtain ⟨_, _, hml, hxl, htl⟩ := hok.m _ _ _ _ _ rfl
      have hdx0 := hdx
      obtain ⟨td, tr, um, bx, rfl, htd, htr, hm, hb⟩ := hdx
      have hlm : (S m).length = m.length := S_len m
      have no : ∀ H', Same H H' → ¬ FitsP R r (.change m x b n t) → Q (.bl false) H' := fun H' s h => qq H' false s ⟨fun z => (by cases z), fun z => absurd z h⟩
      refine ⟨_, rfl, td, _, 0, _, rfl, rfl, SqT.of htd, rfl, rfl, _, rfl, iteF ?_⟩
      refine ⟨fun σ' H' => σ' = [some (.ref A0), some (vi r), some (.ref td), none, none, none, none, none, none, none] ∧ H = H' ∧ 1 ≤ n ∧ 1 ≤ m.length ∧ m.length ≤ 40, ?_, ?_⟩
      · refine ⟨_, rfl, td, _, 4, _, rfl, rfl, SqT.of htd, rfl, _, _, rfl, rfl, _, rfl, ?_⟩
        refine ite2 (fun e => iteT ?_) (fun e => ?_)
        · have h1 : (n : Int) < 1 := of_decide_eq_true e
          exact no H (fun _ _ h => h) fun h => by have := h.2.2.1; omega
        have n1 : ¬ (n : Int) < 1 := fun h => e (decide_eq_true h)
        refine ⟨_, rfl, td, _, 1, _, rfl, rfl, SqT.of htd, rfl, S m, rfl, by rw [hlm]; omega, _, _, rfl, rfl, _, rfl, ite2 (fun e => iteT ?_) (fun e => ?_)⟩
        · have h1 : ((S m).length : Int) < 1 := of_decide_eq_true e
          exact no H (fun _ _ h => h) fun h => by have := h.1.1; omega
        have n2 : ¬ ((S m).length : Int) < 1 := fun h => e (decide_eq_true h)
        refine ⟨_, rfl, td, _, 1, _, rfl, rfl, SqT.of htd, rfl, S m, rfl, by rw [hlm]; omega, _, _, rfl, rfl, _, rfl, ite2 (fun e => ?_) (fun e => ?_)⟩
        · have h1 : (40 : Int) < ((S m).length : Int) := of_decide_eq_true e
          exact no H (fun _ _ h => h) fun h => by have := h.1.2; omega
        have n3 : ¬ (40 : Int) < ((S m).length : Int) := fun h => e (decide_eq_true h)
        exact ⟨rfl, rfl, by omega, by omega, by omega⟩
      · rintro σ H1 ⟨rfl, rfl, hn1, hm1, hm40⟩
        refine ⟨_, rfl, _, rfl, A0, _, _, _, rfl, rfl, SqL.of RA.h, gr, ra, rfl, ⟨_, SqL.of hu⟩, ?_⟩
        refine for_it walk_list (fun j σ H' => ∃ y3 : Option V, σ = [some (.ref A0), some (vi r), some (.ref td), y3, none, none, none, none, none, none] ∧ H = H' ∧ ∀ (q : Nat) (e : Deed), q < j → (R r)[q]? = some e → endD e ≤ n) ⟨none, rfl, rfl, fun q e hq => absurd hq (Nat.not_lt_zero _)⟩ (fun j σ H' _ ⟨_, _, e, _⟩ => by rw [← e]; exact SqL.of hu) ?_ ?_
        · rintro j z σ H2' H2 hj ⟨y3, rfl, rfl, hn⟩ ⟨rfl, hz⟩
          obtain ⟨e, he, hze⟩ := hus.get hz
          have go : endD e ≤ n → ∀ (q : Nat) (e : Deed), q < j + 1 → (R r)[q]? = some e → endD e ≤ n := fun h q e' hq hy => by
            by_cases c : q = j
            · subst c; rw [he] at hy; cases hy; exact h
            · exact hn q e' (by omega) hy
          cases e with
          | back q' =>
            obtain ⟨t', rfl, ht⟩ := hze
            exact ⟨_, rfl, t', _, 0, _, rfl, rfl, SqT.of ht, rfl, rfl, _, rfl, iteF ⟨_, rfl, rfl, go (Nat.zero_le _)⟩⟩
          | change m' rem b' n2 t' =>
            obtain ⟨te, tr', um', bx', rfl, hte, _⟩ := hze
            have hl : (S t').length = t'.length := S_len t'
            have htl' := (((hF r hr8).2 _ (List.mem_of_getElem? he)).m _ _ _ _ _ rfl).2.2.2.2
            refine ⟨_, rfl, te, _, 0, _, rfl, rfl, SqT.of hte, rfl, rfl, _, rfl, iteT ?_⟩
            refine ⟨_, rfl, td, _, 4, _, rfl, rfl, SqT.of htd, rfl, _, rfl, te, _, 4, _, rfl, rfl, SqT.of hte, rfl, _, rfl, te, _, 5, _, rfl, rfl, SqT.of hte, rfl, S t', rfl, by rw [hl]; omega, _, _, rfl, rfl, _, _, rfl, rfl, _, rfl, ite2 (fun e => ?_) (fun e => ?_)⟩
            · have h1 : (n : Int) < (n2 : Int) + ((S t').length : Int) := of_decide_eq_true e
              refine no _ (fun _ _ h => h) fun h => ?_
              have := h.2.2.2 _ (List.mem_of_getElem? he)
              have : n2 + t'.length ≤ n := this
              omega
            · have h1 : ¬ (n : Int) < (n2 : Int) + ((S t').length : Int) := fun h => e (decide_eq_true h)
              exact ⟨_, rfl, rfl, go (show n2 + t'.length ≤ n by omega)⟩
        · rintro σ H2 ⟨y3, rfl, rfl, hn⟩
          have hends : ∀ e ∈ R r, endD e ≤ n := fun e he => by
            obtain ⟨q, hq⟩ := List.mem_iff_getElem?.mp he
            exact hn q e (by rw [hql]; exact (List.getElem?_eq_some_iff.mp hq).1) hq
          clear hn
          refine ⟨Nat.zero_le _, fun ml0 hml0 => ?_⟩
          have s2 : Same H (upd H ml0 (.lst [])) := same_upd hml0
          have gml0 : upd H ml0 (.lst []) ml0 = some (.lst []) := upd_same
          generalize upd H ml0 (.lst []) = H2 at s2 gml0
          refine ⟨_, rfl, _, rfl, td, _, 1, _, rfl, rfl, SqT.of (s2 _ _ htd), rfl, A0, rs, R, m, rfl, RA.keep s2, hF, fun H3 cl cus s23 hcl2 hcl hcu => ⟨cl, rfl, ⟨_, SqL.of hcl⟩, ?_⟩⟩
          have s3 := Same.tr s2 s23
          refine for_it walk_list (fun j σ H' => ∃ (ml : Addr) (acc : List V) (y5 y6 y7 : Option V), σ = [some (.ref A0), some (vi r), some (.ref td), y3, some (.ref ml), y5, y6, y7, none, none] ∧ Same H3 H' ∧ H' ml = some (.lst acc) ∧ All2 (MkAt H') acc (((changes R m).take j).flatMap entM)) ⟨ml0, [], none, none, none, rfl, fun _ _ h => h, s23 _ _ gml0, .nil⟩ (fun j σ H' _ ⟨_, _, _, _, _, _, s, _⟩ => SqL.of (s _ _ hcl)) ?_ ?_
          · rintro j z σ H4' H4 hj ⟨ml, acc, y5, y6, y7, rfl, s4, hml4, hacc⟩ ⟨rfl, hz⟩
            obtain ⟨c, hc, hcx⟩ := hcu.get hz
            obtain ⟨hc8, hcd, hcm⟩ := mem_changes (List.mem_of_getElem? hc)
            obtain ⟨q, d, f⟩ := c
            have hdok := (hF q hc8).2 d hcd
            cases d with
            | back n' => cases hcm
            | change m' rem b' n' t' =>
              obtain ⟨_, _, _, _, htl'⟩ := hdok.m _ _ _ _ _ rfl
              obtain ⟨tc, dxc, rfl, htc, hdxc⟩ := hcx.keep (Same.tk s4)
              refine ⟨tc, _, rfl, SqT.of htc, rfl, _, _, rfl, _, _, rfl, _, _, rfl, rfl, ?_⟩
              refine ⟨_, rfl, _, rfl, _, rfl, q, dxc, m', rem, b', n', t', rfl, hdxc, htl', fun H5 il ius s45 hil4 hil hius => ⟨il, rfl, ⟨_, SqL.of hil⟩, fun D hD => ?_⟩⟩
              refine lc_list (K := K) (xs := ius) (fun i H' => Same H5 H' ∧ ∃ bs, H' D = some (.lst bs) ∧ All2 (MkAt H') bs (((ins q n' b' t').take i).map (·.1))) ⟨same_upd hD, [], upd_same, .nil⟩ (fun i H' _ q => SqL.of (q.1 _ _ hil)) ?_ ?_
              · rintro i z H' hz ⟨s', bs, hD', hbs⟩
                obtain ⟨e, he, hex⟩ := hius.get hz
                obtain ⟨te, a, bx', rfl, hte, hma, _⟩ := hex.keep (Same.tk s')
                have hbl : bs.length ≤ 100 := by
                  rw [hbs.len, List.length_map, List.length_take, ins_len]
                  omega
                refine ⟨rfl, lc_yes ⟨_, rfl, te, _, 0, a, rfl, rfl, SqT.of hte, rfl, bs, hD', by omega, fun z o hz => by rw [upd_ne (ne_of_none hz hD)]; exact s' _ _ hz, bs ++ [a], upd_same, ?_⟩⟩
                have kD : TupK H' (upd H' D (.lst (bs ++ [a]))) := tk_upd fun xs e => by rw [hD'] at e; cases e
                rw [take_snoc he, List.map_append]
                exact (hbs.mono fun v e h => h.keep kD).snoc (hma.keep kD)
              · rintro H6 ⟨s6, bs, hD6, hbs⟩
                rw [hius.len, List.take_length] at hbs
                have s46 := Same.tr s45 s6
                have e1 : ((changes R m).take (j + 1)).flatMap entM = ((changes R m).take j).flatMap entM ++ (ins q n' b' t').map (·.1) := flat_take hc
                have hle : acc.length + bs.length ≤ 80000 := by
                  have h1 := pre_len entM (changes R m) (j + 1)
                  have h2 := marks_len hF m
                  rw [e1, List.length_append] at h1
                  rw [marks_eq] at h2
                  rw [hacc.len, hbs.len]
                  omega
                refine ⟨ml, D, acc, bs, rfl, rfl, s46 _ _ hml4, hD6, by omega, fun p hp => ?_⟩
                have s7 : Same H6 (upd H6 p (.lst (acc ++ bs))) := same_upd hp
                refine ⟨p, acc ++ bs, _, _, _, rfl, Same.tr s4 (Same.tr s46 s7), upd_same, ?_⟩
                rw [e1]
                exact all2_app (hacc.mono fun v e h => h.keep (Same.tk (Same.tr s46 s7))) (hbs.mono fun v e h => h.keep (Same.tk s7))
          · rintro σ H4 ⟨ml, acc, y5, y6, y7, rfl, s4, hml4, hacc⟩
            rw [hcu.len, List.take_length, ← marks_eq] at hacc
            have s04 := Same.tr s3 s4
            have htd4 := s04 _ _ htd
            refine ⟨_, rfl, td, _, 2, _, rfl, rfl, SqT.of htd4, rfl, tr, um, rfl, .inr (SqT.of (s04 _ _ htr)), fun al hal => ?_⟩
            have s5 : Same H4 (upd H4 al (.lst um)) := same_upd hal
            have gal : upd H4 al (.lst um) al = some (.lst um) := upd_same
            generalize upd H4 al (.lst um) = H5 at s5 gal
            refine ⟨_, rfl, td, _, 3, _, rfl, rfl, SqT.of (s5 _ _ htd4), rfl, (by show 1 ≤ sizeLine; decide), fun bl hbl => ?_⟩
            have s6 : Same H5 (upd H5 bl (.lst [bx])) := same_upd hbl
            have gbl : upd H5 bl (.lst [bx]) bl = some (.lst [bx]) := upd_same
            generalize upd H5 bl (.lst [bx]) = H6 at s6 gbl
            refine ⟨al, bl, um, [bx], rfl, rfl, s6 _ _ gal, gbl, by rw [hm.len]; exact Nat.le_trans (show x.length + 1 ≤ 1001 by omega) (by decide), fun pl hpl => ?_⟩
            have s7 : Same H6 (upd H6 pl (.lst (um ++ [bx]))) := same_upd hpl
            have gpl : upd H6 pl (.lst (um ++ [bx])) pl = some (.lst (um ++ [bx])) := upd_same
            generalize upd H6 pl (.lst (um ++ [bx])) = H7 at s7 gpl
            have s47 := Same.tr s5 (Same.tr s6 s7)
            have s07 := Same.tr s04 s47
            have hob : All2 (OMk H7) (um ++ [bx]) (x.map some ++ [b]) := all2_app (all2_some (hm.mono fun v e h => h.keep (Same.tk s07))) (.cons (hb.keep (Same.tk s07)) .nil)
            have hml7 := s47 _ _ hml4
            have hacc7 := hacc.mono fun v e h => h.keep (Same.tk s47)
            have htd7 := s47 _ _ htd4
            have hmem : ∀ y ∈ x ++ b.toList, some y ∈ x.map some ++ [b] := fun y hy => by
              rcases List.mem_append.mp hy with h | h
              · exact List.mem_append_left _ (List.mem_map.mpr ⟨y, h, rfl⟩)
              · cases b with
                | none => cases h
                | some c =>
                  rw [List.mem_singleton.mp (show y ∈ [c] from h)]
                  exact List.mem_append_right _ (List.mem_singleton.mpr rfl)
            have hmem2 : ∀ y, some y ∈ x.map some ++ [b] → y ∈ x ++ b.toList := fun y hy => by
              rcases List.mem_append.mp hy with h | h
              · obtain ⟨y', h1, h2⟩ := List.mem_map.mp h
                cases h2
                exact List.mem_append_left _ h1
              · rw [← List.mem_singleton.mp h]
                exact List.mem_append_right _ (List.mem_singleton.mpr rfl)
            refine ⟨pl, rfl, ⟨_, SqL.of gpl⟩, ?_⟩
            refine for_it walk_list (fun j σ H' => ∃ y8 : Option V, σ = [some (.ref A0), some (vi r), some (.ref td), y3, some (.ref ml), y5, y6, y7, y8, none] ∧ H7 = H' ∧ ∀ (q : Nat) (y : Mark), q < j → (x.map some ++ [b])[q]? = some (some y) → y ∈ marks R m ∧ y.1 < n)
              ⟨none, rfl, rfl, fun q y hq => absurd hq (Nat.not_lt_zero _)⟩ (fun j σ H' _ ⟨_, _, e, _⟩ => by rw [← e]; exact SqL.of gpl) ?_ ?_
            · rintro j z σ H8' H8 hj ⟨y8, rfl, rfl, hn⟩ ⟨rfl, hz⟩
              obtain ⟨o, ho, hzo⟩ := hob.get hz
              cases o with
              | none =>
                obtain rfl : z = .non := hzo
                refine ⟨_, rfl, _, rfl, iteF (iteF ⟨_, rfl, rfl, fun q y hq hy => ?_⟩)⟩
                by_cases e : q = j
                · subst e; rw [ho] at hy; cases hy
                · exact hn q y (by omega) hy
              | some c =>
                obtain ⟨tz, rfl, htz⟩ : MkAt _ z c := hzo
                have hcx : c ∈ x ++ b.toList := hmem2 c (List.mem_of_getElem? ho)
                refine ⟨_, rfl, _, rfl, iteT ?_⟩
                refine ⟨_, rfl, _, rfl, mD c, (marks R m).map mD, MkAt.dp ⟨tz, rfl, htz⟩, .lst (SqL.of hml7) (dpAll_of (fun x a h => MkAt.dp h) hacc7), shaped_mark _, shaped_marks _, ?_⟩
                rw [any_eqv]
                refine ⟨_, rfl, ite2 (fun e => iteT ?_) (fun e => ?_)⟩
                · refine no _ s07 fun h => ?_
                  have := (h.2.1 c hcx).1
                  rw [decide_eq_true this] at e
                  cases e
                · have hin : c ∈ marks R m := by
                    by_cases h : c ∈ marks R m
                    · exact h
                    · rw [decide_eq_false h] at e
                      exact absurd rfl e
                  refine ⟨_, rfl, tz, _, 0, _, rfl, rfl, SqT.of htz, rfl, _, rfl, td, _, 4, _, rfl, rfl, SqT.of htd7, rfl, _, _, rfl, rfl, _, rfl, ite2 (fun e => ?_) (fun e => ?_)⟩
                  · have h1 : (n : Int) ≤ (c.1 : Int) := of_decide_eq_true e
                    refine no _ s07 fun h => ?_
                    have := (h.2.1 c hcx).2
                    omega
                  · have h1 : ¬ (n : Int) ≤ (c.1 : Int) := fun h => e (decide_eq_true h)
                    refine ⟨_, rfl, rfl, fun q y hq hy => ?_⟩
                    by_cases e : q = j
                    · subst e; rw [ho] at hy; cases hy
                      exact ⟨hin, by omega⟩
                    · exact hn q y (by omega) hy
            · rintro σ H8 ⟨y8, rfl, rfl, hn⟩
              refine qq _ true s07 ⟨fun _ => ⟨⟨hm1, hm40⟩, fun y hy => ?_, hn1, hends⟩, fun _ => rfl⟩
              obtain ⟨q, hq⟩ := List.mem_iff_getElem?.mp (hmem y hy)
              exact hn q y (by rw [hob.len]; exact (List.getElem?_eq_some_iff.mp hq).1) hq
end
end Q07
namespace Q07
open PySem PySem.Spec PyProof.Rows L2 SX HL DM
/-! ### what a packet brings: the mathematics -/
def elig (R : Rows) (t : Trip) : Prop := t.2.1 = (R t.1).length + 1 ∧ FitsP R t.1 t.2.2
/-- the first place of the packet whose deed fits -/
def FirstIs (P : List Trip) (R : Rows) : Option Nat → Prop
  | none => ∀ t ∈ P, ¬ elig R t
  | some k => ∃ t, P[k]? = some t ∧ elig R t ∧ ∀ j, j < k → ∀ t', P[j]? = some t' → ¬ elig R t'
theorem FirstIs.inj {P : List Trip} {R : Rows} {a b : Option Nat} (ha : FirstIs P R a) (hb : FirstIs P R b) : a = b := by
  cases a with
  | none =>
    cases b with
    | none => rfl
    | some k =>
      obtain ⟨t, h1, h2, _⟩ := hb
      exact absurd h2 (ha t (List.mem_of_getElem? h1))
  | some i =>
    obtain ⟨t, h1, h2, h3⟩ := ha
    cases b with
    | none => exact absurd h2 (hb t (List.mem_of_getElem? h1))
    | some k =>
      obtain ⟨u, g1, g2, g3⟩ := hb
      rcases Nat.lt_trichotomy i k with q | q | q
      · exact absurd h2 (g3 i q t h1)
      · rw [q]
      · exact absurd g2 (h3 k q u g1)
theorem first_ex (P : List Trip) (R : Rows) : ∃ o, FirstIs P R o := by
  have : ∀ n : Nat, (∃ k, FirstIs P R (some k)) ∨ ∀ j : Nat, j < n → ∀ t, P[j]? = some t → ¬ elig R t := fun n => by
    induction n with
    | zero => exact .inr fun j h => absurd h (Nat.not_lt_zero j)
    | succ n ih =>
      rcases ih with h | h
      · exact .inl h
      · cases e : P[n]? with
        | none =>
          refine .inr fun j hj t ht => ?_
          rcases Nat.lt_succ_iff_lt_or_eq.mp hj with q | q
          · exact h j q t ht
          · rw [q, e] at ht; cases ht
        | some u =>
          by_cases hu : elig R u
          · exact .inl ⟨n, u, e, hu, h⟩
          · refine .inr fun j hj t ht => ?_
            rcases Nat.lt_succ_iff_lt_or_eq.mp hj with q | q
            · exact h j q t ht
            · rw [q, e] at ht; cases ht; exact hu
  rcases this P.length with ⟨k, h⟩ | h
  · exact ⟨_, h⟩
  · refine ⟨none, fun t ht => ?_⟩
    obtain ⟨j, hj, e⟩ := List.mem_iff_getElem.mp ht
    exact h j hj t (by rw [List.getElem?_eq_getElem hj, e])
noncomputable def nx (P : List Trip) (R : Rows) : Option Nat := Classical.choose (first_ex P R)
theorem nx_is (P : List Trip) (R : Rows) : FirstIs P R (nx P R) := Classical.choose_spec (first_ex P R)
theorem nx_eq {P : List Trip} {R : Rows} {o : Option Nat} (h : FirstIs P R o) : nx P R = o := (nx_is P R).inj h
/-- n steps of taking in a packet: the rows, the places taken -/
noncomputable def run (P : List Trip) (R : Rows) : Nat → Rows × List Nat
  | 0 => (R, [])
  | n + 1 => match nx P (run P R n).1 with
    | none => run P R n
    | some k => match P[k]? with
      | none => run P R n
      | some t => (addR (run P R n).1 t.1 t.2.2, (run P R n).2 ++ [k])
theorem run_some {P : List Trip} {R : Rows} {n k : Nat} {t : Trip} (h : nx P (run P R n).1 = some k) (ht : P[k]? = some t) : run P R (n + 1) = (addR (run P R n).1 t.1 t.2.2, (run P R n).2 ++ [k]) := by
  rw [run, h]
  simp only [ht]
theorem run_none {P : List Trip} {R : Rows} {n : Nat} (h : nx P (run P R n).1 = none) : ∀ m, run P R (n + m) = run P R n
  | 0 => rfl
  | m + 1 => by
    have ih := run_none h m
    rw [← Nat.add_assoc, run, ih, h]
/-- what holds at each step -/
theorem run_inv (P : List Trip) (R : Rows) : ∀ n, (run P R n).2.Nodup ∧ (∀ k ∈ (run P R n).2, k < P.length ∧ ∀ t, P[k]? = some t → t.2.1 ≤ ((run P R n).1 t.1).length) ∧
    (nx P (run P R n).1 ≠ none → (run P R n).2.length = n) ∧ (run P R n).2.length ≤ n
  | 0 => ⟨List.Pairwise.nil, fun k h => (by cases h), fun _ => rfl, Nat.le_refl _⟩
  | n + 1 => by
    obtain ⟨h1, h2, h3, h4⟩ := run_inv P R n
    cases e : nx P (run P R n).1 with
    | none =>
      have e2 := run_none e 1
      rw [e2]
      exact ⟨h1, h2, fun h => absurd e h, by omega⟩
    | some k =>
      obtain ⟨t, ht, hel, _⟩ : FirstIs P (run P R n).1 (some k) := by rw [← e]; exact nx_is _ _
      rw [run_some e ht]
      have hk : k < P.length := by
        rcases Nat.lt_or_ge k P.length with q | q
        · exact q
        · rw [List.getElem?_eq_none q] at ht; cases ht
      have hn : k ∉ (run P R n).2 := fun hk2 => by
        have := (h2 k hk2).2 t ht
        have := hel.1
        omega
      have grow : ∀ r, ((run P R n).1 r).length ≤ (addR (run P R n).1 t.1 t.2.2 r).length := fun r => by
        unfold addR
        by_cases e : r = t.1
        · rw [if_pos e, List.length_append, e]; omega
        · rw [if_neg e]; exact Nat.le_refl _
      refine ⟨?_, fun j hj => ?_, fun _ => by rw [List.length_append, h3 (by rw [e]; simp)]; rfl, by rw [List.length_append]; show _ + 1 ≤ _; omega⟩
      · refine List.nodup_append.mpr ⟨h1, List.nodup_cons.mpr ⟨by simp, List.Pairwise.nil⟩, fun a ha b hb => ?_⟩
        rw [List.mem_singleton.mp hb]
        exact fun z => hn (by rw [← z]; exact ha)
      · rcases List.mem_append.mp hj with hj | hj
        · exact ⟨(h2 j hj).1, fun u hu => Nat.le_trans ((h2 j hj).2 u hu) (grow u.1)⟩
        · rw [List.mem_singleton.mp hj]
          refine ⟨hk, fun u hu => ?_⟩
          rw [ht] at hu
          cases hu
          have := hel.1
          show t.2.1 ≤ (addR _ t.1 t.2.2 t.1).length
          unfold addR
          rw [if_pos rfl, List.length_append]
          show _ ≤ _ + 1
          omega
theorem nodup_lenN : ∀ (l m : List Nat), l.Nodup → (∀ x ∈ l, x ∈ m) → l.length ≤ m.length
  | [], m, _, _ => Nat.zero_le _
  | x :: l, m, nd, h => by
    have hx := h x (List.mem_cons_self ..)
    have nd' := List.nodup_cons.mp nd
    have := nodup_lenN l (m.erase x) nd'.2 fun y hy => (List.mem_erase_of_ne (fun e => nd'.1 (by rw [← e]; exact hy))).mpr (h y (List.mem_cons_of_mem _ hy))
    rw [List.length_erase_of_mem hx] at this
    have : 0 < m.length := List.length_pos_of_mem hx
    simp only [List.length_cons]
    omega
theorem run_lt {P : List Trip} {R : Rows} {n : Nat} (h : nx P (run P R n).1 ≠ none) : n < P.length := by
  obtain ⟨h1, h2, h3, h4⟩ := run_inv P R n
  obtain ⟨k, hk⟩ := Option.ne_none_iff_exists'.mp h
  obtain ⟨t, ht, hel, _⟩ : FirstIs P (run P R n).1 (some k) := by rw [← hk]; exact nx_is _ _
  have hkl : k < P.length := by
    rcases Nat.lt_or_ge k P.length with q | q
    · exact q
    · rw [List.getElem?_eq_none q] at ht; cases ht
  have hn : k ∉ (run P R n).2 := fun hk2 => by
    have := (h2 k hk2).2 t ht
    have := hel.1
    omega
  have := nodup_lenN (k :: (run P R n).2) (List.range P.length) (List.nodup_cons.mpr ⟨hn, h1⟩) fun x hx => by
    rcases List.mem_cons.mp hx with rfl | hx
    · exact List.mem_range.mpr hkl
    · exact List.mem_range.mpr (h2 x hx).1
  rw [List.length_cons, h3 h, List.length_range] at this
  omega
theorem run_end (P : List Trip) (R : Rows) : nx P (run P R P.length).1 = none := by
  cases e : nx P (run P R P.length).1 with
  | none => rfl
  | some k => exact absurd (run_lt (by rw [e]; simp)) (Nat.lt_irrefl _)
/-- the rows and the deeds taken -/
noncomputable def recvR (P : List Trip) (R : Rows) : Rows := (run P R P.length).1
noncomputable def recvT (P : List Trip) (R : Rows) : List Nat := (run P R P.length).2
theorem run_stop {P : List Trip} {R : Rows} {n : Nat} (h : nx P (run P R n).1 = none) : run P R n = run P R P.length := by
  rcases Nat.le_total n P.length with q | q
  · obtain ⟨m, e⟩ : ∃ m, P.length = n + m := ⟨P.length - n, by omega⟩
    rw [e, run_none h m]
  · obtain ⟨m, e⟩ : ∃ m, n = P.length + m := ⟨n - P.length, by omega⟩
    rw [e, run_none (run_end P R) m]
end Q07
namespace Q07
open PySem PySem.Spec PyProof.Rows L2 SX HL DM
section
variable {P : Program} {w : World} {K : PySem.W.Frag} {mg : Str → Option Value} {base : Heap}
/-! ### _law_first, _law_received -/
def PkOk (ts : List Trip) : Prop := ts.length ≤ 100 ∧ ∀ t ∈ ts, t.1 < 8 ∧ DOk t.2.2
def oV : Option Nat → V
  | some k => vi k
  | none => .int (-1)
theorem upto {ts : List Trip} {R : Rows} {i : Nat} {t : Trip} (h : ∀ j, j < i → ∀ t', ts[j]? = some t' → ¬ elig R t') (ht : ts[i]? = some t) (hn : ¬ elig R t) : ∀ j, j < i + 1 → ∀ t', ts[j]? = some t' → ¬ elig R t' := fun j hj t' h' => by
  rcases Nat.lt_succ_iff_lt_or_eq.mp hj with q | q
  · exact h j q t' h'
  · rw [q, ht] at h'; cases h'; exact hn
def spFirst : Sp := fun vs H Q _ => ∃ (A l : Addr) (rs : List Addr) (R : Rows) (us : List V) (ts : List Trip), vs = [.ref A, .ref l] ∧ RowsAt H A rs R ∧ Few R ∧ H l = some (.lst us) ∧ All2 (TripAt H) us ts ∧ PkOk ts ∧
  ∀ H', Same H H' → Q (oV (nx ts R)) H'
theorem ok_lfirst {k : Nat} (Z : Defs K mg) (GLawFits : FnOk P w K mg base CX0 k Z.fLawFits Z.fdLawFits ["rows", "replica", "deed"] spLawFits) : FnOk P w K mg base CX0 (k + 1) Z.fLawFirst Z.fdLawFirst ["rows", "packet"] spFirst := by
  refine Z.DLawFirst.F.ok scLawFirst (fun vs H Q E h => ?_) (fun cdv A outer s H vs Q E hr h => ?_)
  · obtain ⟨A, l, rs, R, us, ts, rfl, _⟩ := h
    rfl
  · obtain ⟨A0, l, rs, R, us, ts, rfl, RA, hF, hl, hts, ⟨hn, hok⟩, qq⟩ := h
    refine ⟨_, (pss_cons (ps_for PassesOwn.never rfl (pi_range1 (by rfl) Z.range (pa_cons (pe_callB call_len_seq (by rfl) Z.len PySem.boot_len (pa_cons (pv 1) pa_nil)) pa_nil)) (pg_name (i := 2) scLawFirst.nd rfl (.inl rfl)) (pss_cons (ps_asg (pe_ix ix_list (pv 1) (pv 2) (fun _ _ => rfl)) (pg_tup rfl (pgs_cons (pg_name (i := 3) scLawFirst.nd rfl (.inl rfl)) (pgs_cons (pg_name (i := 4) scLawFirst.nd rfl (.inl rfl)) (pgs_cons (pg_name (i := 5) scLawFirst.nd rfl (.inl rfl)) pgs_nil)))))
        (pss_one (ps_if (PW.pt (pw_and (pt_cmpR op_eq (pv 4) (pe_op op_add (pe_callB call_len_seq (by rfl) Z.len PySem.boot_len (pa_cons (pe_ix ix_list (pv 0) (pv 3) (fun _ _ => rfl)) pa_nil)) pe_int) (nomark _)) (pw_and1 (pt_val (pe_call GLawFits (hr.mono (by omega)) (by rfl) Z.DLawFits.g Z.DLawFits.F.kp Z.DLawFits.b .nil pass0 (pa_cons (pv 0) (pa_cons (pv 3) (pa_cons (pv 5) pa_nil)))))))) (pss_one (ps_ret (pv 2))) pss_nil))))
        (pss_one (ps_ret (pe_un un_neg pe_int)))), ?_⟩
    have hul := hts.len
    refine ⟨_, rfl, l, us, rfl, .inl (SqL.of hl), _, rfl, by omega, by omega, ?_⟩
    refine for_range (lo := 0) (n := (us.length : Int).toNat) (fun i σ H' => ∃ (y2 y3 y4 y5 : Option V), σ = [some (.ref A0), some (.ref l), y2, y3, y4, y5] ∧ Same H H' ∧ ∀ j, j < i → ∀ t', ts[j]? = some t' → ¬ elig R t') ⟨none, none, none, none, rfl, Same.refl H, fun j h => absurd h (Nat.not_lt_zero j)⟩ ?_ ?_
    · rintro i σ H1 hi ⟨y2, y3, y4, y5, rfl, s1, hnot⟩
      have hi' : i < us.length := by omega
      have ij : ∀ {xs : List V} {v : V}, xs[i]? = some v → atI xs (0 + (i : Int)) = some v := fun h => by rw [Int.zero_add]; exact atI_nat h
      obtain ⟨u, hu⟩ : ∃ u, us[i]? = some u := ⟨_, List.getElem?_eq_getElem hi'⟩
      obtain ⟨⟨r, pl, δ⟩, ht, a, dx, rfl, ha, hd⟩ := hts.get hu
      obtain ⟨hr8, hdok⟩ := hok _ (List.mem_of_getElem? ht)
      have hr8 : r < 8 := hr8
      have hdok : DOk δ := hdok
      have hd : DeedAt H dx δ := hd
      have R1 := RA.keep s1
      obtain ⟨ra, ur, hrs, hrv, hra, hur⟩ := R1.get hr8
      have hurl := hur.len
      refine ⟨_, rfl, _, rfl, l, us, _, _, rfl, rfl, SqL.of (s1 _ _ hl), ij hu, a, _, rfl, SqT.of (s1 _ _ ha), rfl, _, _, rfl, _, _, rfl, _, _, rfl, rfl, ?_⟩
      refine ⟨_, rfl, _, rfl, _, rfl, A0, _, _, .ref ra, rfl, rfl, SqL.of R1.h, atI_nat hrv, ra, ur, rfl, .inl (SqL.of hra), _, _, rfl, rfl, rfl, _, rfl, ite2 (fun e => ?_) (fun e => ?_)⟩
      · have e1 : pl = (R r).length + 1 := by
          have : V.int ((pl : Nat) : Int) = V.int ((ur.length : Int) + 1) := of_decide_eq_true e
          have := V.int.inj this
          omega
        refine ⟨_, rfl, _, rfl, _, rfl, A0, rs, R, r, dx, δ, rfl, R1, hF, hd.keep (Same.tk s1), hdok, hr8, fun H2 c s2 hc => ⟨c, rfl, ?_⟩⟩
        cases c with
        | true =>
          have hel : elig R (r, pl, δ) := ⟨e1, hc.mp rfl⟩
          have hfirst : nx ts R = some i := nx_eq ⟨_, ht, hel, hnot⟩
          refine iteT ⟨_, rfl, ?_⟩
          have := qq H2 (Same.tr s1 s2)
          rw [hfirst] at this
          rw [Int.zero_add]
          exact this
        | false =>
          refine iteF ⟨_, _, _, _, rfl, Same.tr s1 s2, upto hnot ht fun hel => ?_⟩
          have := hc.mpr hel.2
          cases this
      · refine iteF ⟨_, _, _, _, rfl, s1, upto hnot ht fun hel => e (decide_eq_true ?_)⟩
        have h1 : pl = (R r).length + 1 := hel.1
        show V.int ((pl : Nat) : Int) = V.int ((ur.length : Int) + 1)
        rw [h1, ← hurl]
        rfl
    · rintro σ H1 ⟨y2, y3, y4, y5, rfl, s1, hnot⟩
      have hfirst : nx ts R = none := nx_eq fun t ht => by
        obtain ⟨j, hj, e⟩ := List.mem_iff_getElem.mp ht
        exact hnot j (by omega) t (by rw [List.getElem?_eq_getElem hj, e])
      have := qq H1 s1
      rw [hfirst] at this
      exact ⟨1, rfl, this⟩
end
end Q07
namespace Q07
open PySem PySem.Spec PyProof.Rows L2 SX HL DM
section
variable {P : Program} {w : World} {K : PySem.W.Frag} {mg : Str → Option Value} {base : Heap}
theorem RowsAt.app {H : Hp} {A : Addr} {rs : List Addr} {R : Rows} (S : RowsAt H A rs R) (nd : rs.Nodup) (nA : ∀ a ∈ rs, a ≠ A) {r : Nat} {ra : Addr} {us : List V} {x : V} {δ : Deed} (hra : rs[r]? = some ra) (hu : H ra = some (.lst us)) (hx : DeedAt H x δ) :
    RowsAt (upd H ra (.lst (us ++ [x]))) A rs (addR R r δ) := by
  have hm := List.mem_of_getElem? hra
  have n1 := nA ra hm
  have t : TupK H (upd H ra (.lst (us ++ [x]))) := tk_upd fun xs e => by rw [hu] at e; cases e
  have f : ∀ z o, H z = some o → z ≠ ra → (upd H ra (.lst (us ++ [x]))) z = some o := fun z o h n => by rw [upd_ne n]; exact h
  refine ⟨f _ _ S.h fun e => n1 e.symm, S.n, fun i a h => ?_⟩
  obtain ⟨us', h1, h2⟩ := S.r i a h
  unfold addR
  by_cases e : i = r
  · subst e
    rw [hra] at h
    cases h
    rw [hu] at h1
    cases h1
    rw [if_pos rfl]
    exact ⟨_, upd_same, (h2.mono fun v d h => h.keep t).snoc (hx.keep t)⟩
  · rw [if_neg e]
    have : a ≠ ra := fun z => e (by
      subst z
      exact (List.getElem?_inj (List.getElem?_eq_some_iff.mp h).1 nd).mp (h.trans hra.symm))
    exact ⟨us', f _ _ h1 this, h2.mono fun v d h => h.keep t⟩
theorem same_up {H H' : Hp} {W : Addr} {o : HO} (s : Same H H') (n : H W = none) : Same H (upd H' W o) := fun b x h => by
  rw [upd_ne (ne_of_none h n)]
  exact s b x h
theorem RowsAt.off2 {H : Hp} {A T : Addr} {rs : List Addr} {R : Rows} {o : HO} (S : RowsAt H A rs R) (k : TupK H (upd H T o)) (nA : A ≠ T) (nr : ∀ a ∈ rs, a ≠ T) : RowsAt (upd H T o) A rs R :=
  ⟨by rw [upd_ne nA]; exact S.h, S.n, fun i a h => by
    obtain ⟨us, h1, h2⟩ := S.r i a h
    exact ⟨us, by rw [upd_ne (nr a (List.mem_of_getElem? h))]; exact h1, h2.mono fun v d h => h.keep k⟩⟩
def pick (ts : List Trip) (k : Nat) : Trip := ts.getD k (0, 0, .back 0)
theorem pick_eq {ts : List Trip} {k : Nat} {t : Trip} (h : ts[k]? = some t) : pick ts k = t := by
  unfold pick
  rw [List.getD_eq_getElem?_getD, h]
  rfl
/-- room for all that a packet may bring -/
def Fits100 (R : Rows) (n : Nat) : Prop := ∀ r, r < 8 → (R r).length + n ≤ 100 ∧ ∀ d ∈ R r, DOk d
theorem Fits100.few {R : Rows} {n : Nat} (h : Fits100 R n) : Few R := fun r hr => ⟨by have := (h r hr).1; omega, (h r hr).2⟩
theorem run_room {ts : List Trip} {R : Rows} (hF : Fits100 R ts.length) (hok : PkOk ts) : ∀ i r, r < 8 → ((run ts R i).1 r).length ≤ (R r).length + (run ts R i).2.length ∧ ∀ d ∈ (run ts R i).1 r, DOk d
  | 0, r, hr => ⟨by rw [run]; exact Nat.le_refl _, (hF r hr).2⟩
  | i + 1, r, hr => by
    obtain ⟨h1, h2⟩ := run_room hF hok i r hr
    cases e : nx ts (run ts R i).1 with
    | none => rw [run_none e 1]; exact ⟨h1, h2⟩
    | some k =>
      obtain ⟨t, ht, _⟩ : FirstIs ts (run ts R i).1 (some k) := by rw [← e]; exact nx_is _ _
      rw [run_some e ht]
      have hd := (hok.2 t (List.mem_of_getElem? ht)).2
      show (addR _ t.1 t.2.2 r).length ≤ _ ∧ ∀ d ∈ addR _ t.1 t.2.2 r, DOk d
      rw [List.length_append]
      unfold addR
      by_cases q : r = t.1
      · rw [if_pos q, ← q, List.length_append]
        refine ⟨by show _ + 1 ≤ _ + (_ + 1); omega, fun d hd2 => ?_⟩
        rcases List.mem_append.mp hd2 with z | z
        · exact h2 d z
        · rw [List.mem_singleton.mp z]; exact hd
      · rw [if_neg q]
        exact ⟨by show _ ≤ _ + (_ + 1); omega, h2⟩
theorem taken_le (ts : List Trip) (R : Rows) (i : Nat) : (run ts R i).2.length ≤ ts.length := by
  obtain ⟨h1, h2, _, _⟩ := run_inv ts R i
  have := nodup_lenN _ (List.range ts.length) h1 fun x hx => List.mem_range.mpr (h2 x hx).1
  rw [List.length_range] at this
  exact this
theorem run_few {ts : List Trip} {R : Rows} (hF : Fits100 R ts.length) (hok : PkOk ts) (i : Nat) : Few (run ts R i).1 := fun r hr => by
  obtain ⟨h1, h2⟩ := run_room hF hok i r hr
  have := taken_le ts R i
  have := (hF r hr).1
  exact ⟨by omega, h2⟩
/-- new rows, apart from all that stood before -/
structure NewRows (H H' : Hp) (A : Addr) (rs : List Addr) (R : Rows) : Prop where
  at_ : RowsAt H' A rs R
  nd : rs.Nodup
  ne : ∀ a ∈ rs, a ≠ A
  fr : ∀ a ∈ rs, H a = none
  fA : H A = none
def spRecv : Sp := fun vs H Q _ => ∃ (A l : Addr) (rs : List Addr) (R : Rows) (us : List V) (ts : List Trip), vs = [.ref A, .ref l] ∧ RowsAt H A rs R ∧ Fits100 R ts.length ∧ H l = some (.lst us) ∧ All2 (TripAt H) us ts ∧ PkOk ts ∧
  ∀ H' z D T rs' ws, Same H H' → H' z = some (.lst [.ref D, .ref T]) → NewRows H H' D rs' (recvR ts R) → H' T = some (.lst ws) → All2 (TripAt H') ws ((recvT ts R).map (pick ts)) → H T = none → H z = none → z ≠ T → z ≠ D → T ≠ D → (∀ a ∈ rs', a ≠ T ∧ a ≠ z) → Q (.ref z) H'
theorem ok_lrecv {k : Nat} (Z : Defs K mg) (GLawFirst : FnOk P w K mg base CX0 k Z.fLawFirst Z.fdLawFirst ["rows", "packet"] spFirst) : FnOk P w K mg base CX0 (k + 1) Z.fLawReceived Z.fdLawReceived ["rows", "packet"] spRecv := by
  refine Z.DLawReceived.F.ok scLawReceived (fun vs H Q E h => ?_) (fun cdv A outer s H vs Q E hr h => ?_)
  · obtain ⟨A, l, rs, R, us, ts, rfl, _⟩ := h
    rfl
  · obtain ⟨A0, l, rs, R, us, ts, rfl, RA, hF, hl, hts, hok, qq⟩ := h
    refine ⟨_, (pss_cons (ps_setLc (i := 2) (own := [("row", 6)]) (g := (gName 6)) (by rfl) scLawReceived.nd rfl rfl (sw_true rfl rfl rfl (by decide +kernel)) (pi_list (pv 0)) (blkOk_by (own := [("row", 6)]) (N := ["rows", "packet", "grown", "taken", "at", "k", "row"]) (sc := defScope sLawReceived) (by decide +kernel)) (fun _ _ _ _ _ => (pg_name (i := 6) scLawReceived.nd rfl (Or.inl rfl))) (fun _ _ _ _ _ => pts_nil) (fun _ _ _ _ _ => (pe_callTy (HX.call_list_ofK (K := K) rfl) (by rfl) Z.list HL.boot_list (pa_cons (pv 6) pa_nil))))
        (pss_cons (ps_set (i := 3) scLawReceived.nd rfl (.inl rfl) (pe_lst pa_nil))
        (pss_cons (ps_set (i := 4) scLawReceived.nd rfl (.inl rfl) (pe_call GLawFirst (hr.mono (by omega)) (by rfl) Z.DLawFirst.g Z.DLawFirst.F.kp Z.DLawFirst.b .nil pass0 (pa_cons (pv 2) (pa_cons (pv 1) pa_nil))))
        (pss_cons (ps_for PassesOwn.never rfl (pi_range1 (by rfl) Z.range (pa_cons (pe_op op_add (pe_callB call_len_seq (by rfl) Z.len PySem.boot_len (pa_cons (pv 1) pa_nil)) pe_int) pa_nil)) (pg_name (i := 5) scLawReceived.nd rfl (.inl rfl)) (pss_one (ps_if (pt_cmpR op_ge (pv 4) pe_int (nomark _)) (pss_cons (ps_expr (pe_bm PySem.F.plainAttrs_list PySem.F.slot_list_append PySem.F.type_list_append mt_append (pe_ix ix_list (pv 2) (pe_ix ix_tup (pe_ix ix_list (pv 1) (pv 4) (fun _ _ => rfl)) pe_int (fun _ _ => rfl)) (fun _ _ => rfl)) (pa_cons (pe_ix ix_tup (pe_ix ix_list (pv 1) (pv 4) (fun _ _ => rfl)) pe_int (fun _ _ => rfl)) pa_nil)))
        (pss_cons (ps_expr (pe_bm PySem.F.plainAttrs_list PySem.F.slot_list_append PySem.F.type_list_append mt_append (pv 3) (pa_cons (pe_ix ix_list (pv 1) (pv 4) (fun _ _ => rfl)) pa_nil)))
        (pss_one (ps_set (i := 4) scLawReceived.nd rfl (.inl rfl) (pe_call GLawFirst (hr.mono (by omega)) (by rfl) Z.DLawFirst.g Z.DLawFirst.F.kp Z.DLawFirst.b .nil pass0 (pa_cons (pv 2) (pa_cons (pv 1) pa_nil))))))) pss_nil)))
        (pss_one (ps_ret (pe_lst (pa_cons (pv 2) (pa_cons (pv 3) pa_nil))))))))), ?_⟩
    have big : 16777216 ≤ sizeLine := by decide +kernel
    have hul := hts.len
    have hn := hok.1
    refine ⟨_, rfl, A0, rfl, ⟨_, SqL.of RA.h⟩, fun D hD => ?_⟩
    refine lc_it walk_list (fun i H' => Same H H' ∧ ∃ rs' : List Addr, H' D = some (.lst (rs'.map V.ref)) ∧ rs'.length = i ∧ rs'.Nodup ∧ (∀ a ∈ rs', a ≠ D ∧ H a = none) ∧ ∀ j a, rs'[j]? = some a → ∃ us, H' a = some (.lst us) ∧ All2 (DeedAt H') us (R j))
      ⟨same_upd hD, [], upd_same, rfl, List.Pairwise.nil, fun a h => (by cases h), fun j a h => (by cases h)⟩ (fun i H' _ p => SqL.of (p.1 _ _ RA.h)) ?_ ?_
    · rintro i x H1 H1' hi ⟨s1, rs', hD1, hrl, hnd, hrs, hro⟩ ⟨rfl, hx⟩
      rw [List.getElem?_map] at hx
      obtain ⟨ra, hra0, rfl⟩ : ∃ ra, rs[i]? = some ra ∧ x = .ref ra := by
        cases e : rs[i]? with
        | none => rw [e] at hx; cases hx
        | some ra => rw [e] at hx; cases hx; exact ⟨ra, rfl, rfl⟩
      obtain ⟨ur, hra, hur⟩ := (RA.keep s1).r i ra hra0
      have hi8 : i < 8 := by
        have := (List.getElem?_eq_some_iff.mp hra0).1
        rw [RA.n] at this
        exact this
      refine ⟨rfl, lc_yes ⟨_, rfl, ra, _, rfl, .inl (SqL.of hra), fun a ha => ?_⟩⟩
      have naD : a ≠ D := fun e => by rw [e, hD1] at ha; cases ha
      have haH : H a = none := Same.none s1 ha
      have s2 := same_upd (o := .lst ur) ha
      have nar : ∀ b ∈ rs', b ≠ a := fun b hb e => by
        obtain ⟨j, hj, e2⟩ := List.mem_iff_getElem.mp hb
        obtain ⟨u2, h2, _⟩ := hro j b (by rw [List.getElem?_eq_getElem hj, e2])
        rw [e, ha] at h2
        cases h2
      refine ⟨_, s2 _ _ hD1, by rw [List.length_map, hrl]; omega, same_up (Same.tr s1 s2) hD, rs' ++ [a], by rw [upd_same, List.map_append]; rfl, by rw [List.length_append, hrl]; rfl, ?_, fun b hb => ?_, fun j b hb => ?_⟩
      · refine List.pairwise_append.mpr ⟨hnd, List.pairwise_singleton .., fun x hx y hy => ?_⟩
        rw [List.mem_singleton.mp hy]
        exact nar x hx
      · rcases List.mem_append.mp hb with hb | hb
        · exact hrs b hb
        · rw [List.mem_singleton.mp hb]; exact ⟨naD, haH⟩
      · have kD : TupK (upd H1' a (.lst ur)) (upd (upd H1' a (.lst ur)) D (.lst (rs'.map V.ref ++ [.ref a]))) := tk_upd fun xs e => by rw [s2 _ _ hD1] at e; cases e
        have k2 := Same.tk s2
        rcases Nat.lt_or_ge j rs'.length with q | q
        · rw [List.getElem?_append_left q] at hb
          obtain ⟨u2, h2, h3⟩ := hro j b hb
          have hbm := List.mem_of_getElem? hb
          exact ⟨u2, by rw [upd_ne (hrs b hbm).1]; exact s2 _ _ h2, h3.mono fun v d h => (h.keep k2).keep kD⟩
        · rw [List.getElem?_append_right q] at hb
          have hj : j = i := by
            cases e : j - rs'.length with
            | zero => omega
            | succ n => rw [e] at hb; cases hb
          subst hj
          rw [hrl, Nat.sub_self] at hb
          cases hb
          exact ⟨ur, by rw [upd_ne naD]; exact upd_same, hur.mono fun v d h => (h.keep k2).keep kD⟩
    · rintro H1 ⟨s1, rs', hD1, hrl, hnd, hrs, hro⟩
      rw [List.length_map, RA.n] at hrl
      have R1 : RowsAt H1 D rs' R := ⟨hD1, hrl, fun j a h => hro j a h⟩
      refine ⟨Nat.zero_le _, fun T hT => ?_⟩
      have sT := same_upd (o := .lst []) hT
      have hTH : H T = none := Same.none s1 hT
      have nTD : T ≠ D := fun e => by rw [e, hD1] at hT; cases hT
      have nTr : ∀ a ∈ rs', a ≠ T := fun a ha e => by
        obtain ⟨j, hj, e2⟩ := List.mem_iff_getElem.mp ha
        obtain ⟨u2, h2, _⟩ := hro j a (by rw [List.getElem?_eq_getElem hj, e2])
        rw [e, hT] at h2
        cases h2
      have s2 := Same.tr s1 sT
      have R2 := R1.keep sT
      have gT : upd H1 T (.lst []) T = some (.lst []) := upd_same
      generalize upd H1 T (.lst []) = H2 at *
      have few : ∀ i, Few (run ts R i).1 := run_few hF hok
      refine ⟨_, rfl, _, rfl, D, l, rs', R, us, ts, rfl, R2, few 0, s2 _ _ hl, hts.mono (fun v d h => TripAt.keep h (Same.tk s2)), hok, fun H3 s3 => ?_⟩
      refine ⟨_, rfl, l, us, rfl, .inl (SqL.of (s3 _ _ (s2 _ _ hl))), _, _, rfl, rfl, _, rfl, by omega, by omega, ?_⟩
      refine for_range (lo := 0) (n := ((us.length : Int) + 1).toNat) (fun i σ H' => ∃ (y5 : Option V) (ws : List V), σ = [some (.ref A0), some (.ref l), some (.ref D), some (.ref T), some (oV (nx ts (run ts R i).1)), y5, none] ∧ Same H H' ∧ RowsAt H' D rs' (run ts R i).1 ∧ H' T = some (.lst ws) ∧ All2 (TripAt H') ws ((run ts R i).2.map (pick ts)))
        ⟨none, [], rfl, Same.tr s2 s3, R2.keep s3, s3 _ _ gT, .nil⟩ ?_ ?_
      · rintro i σ H4 hi ⟨y5, ws, rfl, s4, R4, hT4, hws⟩
        have hwl := hws.len
        rw [List.length_map] at hwl
        have htl := taken_le ts R i
        cases e : nx ts (run ts R i).1 with
        | none =>
          have e2 := run_none e 1
          refine ⟨_, rfl, -1, 0, rfl, rfl, _, rfl, iteNo (by decide) ⟨some (.int (0 + (i : Int))), ws, ?_, s4, by rw [e2]; exact R4, hT4, by rw [e2]; exact hws⟩⟩
          rw [e2, e]
          rfl
        | some k =>
          obtain ⟨t, ht, hel, _⟩ : FirstIs ts (run ts R i).1 (some k) := by rw [← e]; exact nx_is _ _
          have e2 := run_some e ht
          obtain ⟨r, pl, δ⟩ := t
          obtain ⟨u, hu, hut⟩ := All2.getR hts ht
          obtain ⟨a, dx, rfl, ha, hd⟩ := hut
          have hr8 : r < 8 := (hok.2 _ (List.mem_of_getElem? ht)).1
          have hd : DeedAt H dx δ := hd
          have ha : H a = some (.tup [vi r, vi pl, dx]) := ha
          obtain ⟨ra, ur, hrs0, hrv, hra, hur⟩ := R4.get hr8
          have hram := List.mem_of_getElem? hrs0
          have hfew := (few i r hr8).1
          have hurl := hur.len
          have l4 := SqL.of (K := K) (s4 _ _ hl)
          have a4 := SqT.of (K := K) (s4 _ _ ha)
          refine ⟨_, rfl, (k : Int), 0, rfl, rfl, _, rfl, iteYes (by simp) ?_⟩
          refine ⟨_, rfl, _, rfl, _, rfl, l, us, (k : Int), .ref a, rfl, rfl, l4, atI_nat hu, a, _, 0, _, rfl, rfl, a4, rfl, D, _, _, .ref ra, rfl, rfl, SqL.of R4.h, atI_nat hrv, .inl ⟨rfl, _, SqL.of hra⟩, _, rfl, _, rfl, l, us, (k : Int), .ref a, rfl, rfl, l4, atI_nat hu, a, _, 2, dx, rfl, rfl, a4, rfl, ra, _, _, rfl, rfl, hra, by omega, ?_⟩
          have R5 := RowsAt.app R4 hnd (fun a h => (hrs a h).1) hrs0 hra (hd.keep (Same.tk s4))
          have s5 : Same H (upd H4 ra (.lst (ur ++ [dx]))) := same_up s4 (hrs ra hram).2
          have hT5 : upd H4 ra (.lst (ur ++ [dx])) T = some (.lst ws) := by rw [upd_ne (nTr ra hram).symm]; exact hT4
          have k45 : TupK H4 (upd H4 ra (.lst (ur ++ [dx]))) := tk_upd fun xs e => by rw [hra] at e; cases e
          have hws5 := hws.mono fun v d h => TripAt.keep h k45
          generalize upd H4 ra (.lst (ur ++ [dx])) = H5 at *
          refine ⟨_, rfl, .inl ⟨rfl, _, SqL.of hT5⟩, _, rfl, _, rfl, l, us, (k : Int), .ref a, rfl, rfl, SqL.of (s5 _ _ hl), atI_nat hu, T, _, _, rfl, rfl, hT5, by omega, ?_⟩
          have s6 : Same H (upd H5 T (.lst (ws ++ [.ref a]))) := same_up s5 hTH
          have k56 : TupK H5 (upd H5 T (.lst (ws ++ [.ref a]))) := tk_upd fun xs e => by rw [hT5] at e; cases e
          have gT6 : upd H5 T (.lst (ws ++ [.ref a])) T = some (.lst (ws ++ [.ref a])) := upd_same
          have R6 : RowsAt (upd H5 T (.lst (ws ++ [.ref a]))) D rs' (addR (run ts R i).1 r δ) := RowsAt.off2 R5 k56 nTD.symm (fun b hb => nTr b hb)
          have hws6 : All2 (TripAt (upd H5 T (.lst (ws ++ [.ref a])))) (ws ++ [.ref a]) ((run ts R (i + 1)).2.map (pick ts)) := by
            rw [e2, List.map_append]
            refine (hws5.mono fun v d h => TripAt.keep h k56).app (.one ?_)
            rw [pick_eq ht]
            exact ⟨a, dx, rfl, s6 _ _ ha, hd.keep (Same.tk s6)⟩
          generalize upd H5 T (.lst (ws ++ [.ref a])) = H6 at *
          have eR : (run ts R (i + 1)).1 = addR (run ts R i).1 r δ := by rw [e2]
          rw [← eR] at R6
          refine ⟨_, rfl, _, rfl, D, l, rs', _, us, ts, rfl, R6, few (i + 1), s6 _ _ hl, hts.mono (fun v d h => TripAt.keep h (Same.tk s6)), hok, fun H7 s7 => ?_⟩
          exact ⟨_, ws ++ [.ref a], rfl, Same.tr s6 s7, R6.keep s7, s7 _ _ gT6, hws6.mono fun v d h => TripAt.keep h (Same.tk s7)⟩
      · rintro σ H4 ⟨y5, ws, rfl, s4, R4, hT4, hws⟩
        have e1 : ((us.length : Int) + 1).toNat = ts.length + 1 := by omega
        have e2 : run ts R (ts.length + 1) = run ts R ts.length := run_none (run_end ts R) 1
        rw [e1, e2] at R4 hws
        refine ⟨_, rfl, _, rfl, by show 2 ≤ sizeLine; decide, fun z hz => ?_⟩
        have sz := same_upd (o := .lst [.ref D, .ref T]) hz
        have hzD : z ≠ D := fun e => by rw [e, R4.h] at hz; cases hz
        have hzT : z ≠ T := fun e => by rw [e, hT4] at hz; cases hz
        refine qq _ z D T rs' ws (Same.tr s4 sz) upd_same ⟨R4.keep sz, hnd, fun a h => (hrs a h).1, fun a h => (hrs a h).2, hD⟩ (sz _ _ hT4) (hws.mono fun v d h => TripAt.keep h (Same.tk sz)) hTH (Same.none s4 hz) hzT hzD nTD fun a h => ⟨nTr a h, fun e => ?_⟩
        obtain ⟨j, hj, e2⟩ := List.mem_iff_getElem.mp h
        obtain ⟨u2, h2, _⟩ := R4.r j a (by rw [List.getElem?_eq_getElem hj, e2])
        rw [e, hz] at h2
        cases h2
end
end Q07
namespace Q07
open PySem PySem.Spec PyProof.Rows L2 SX HL DM
section
variable {P : Program} {w : World} {K : PySem.W.Frag} {mg : Str → Option Value} {base : Heap}
/-! ### _law_lacking -/
def lackR (R : Rows) (cn : Nat → Nat) (r : Nat) : List Trip := (List.range ((R r).length - cn r)).map fun i => (r, cn r + i + 1, (R r).getD (cn r + i) (.back 0))
def lackT (R : Rows) (cn : Nat → Nat) : List Trip := (List.range 8).flatMap (lackR R cn)
theorem lackR_len (R : Rows) (cn : Nat → Nat) (r : Nat) : (lackR R cn r).length = (R r).length - cn r := by
  unfold lackR
  rw [List.length_map, List.length_range]
def spLack : Sp := fun vs H Q _ => ∃ (A c : Addr) (rs : List Addr) (R : Rows) (cn : Nat → Nat), vs = [.ref A, .ref c] ∧ RowsAt H A rs R ∧ Few R ∧ H c = some (.lst ((List.range 8).map fun j => vi (cn j))) ∧ (∀ j, cn j ≤ 1000) ∧
  ∀ H' l us, Same H H' → H' l = some (.lst us) → All2 (TripAt H') us (lackT R cn) → H l = none → Q (.ref l) H'
theorem ok_llack {k : Nat} (Z : Defs K mg) : FnOk P w K mg base CX0 (k + 1) Z.fLawLacking Z.fdLawLacking ["rows", "counts"] spLack := by
  refine Z.DLawLacking.F.ok scLawLacking (fun vs H Q E h => ?_) (fun cdv A outer s H vs Q E hr h => ?_)
  · obtain ⟨A, c, rs, R, cn, rfl, _⟩ := h
    rfl
  · obtain ⟨A0, c, rs, R, cn, rfl, RA, hF, hc, hcn, qq⟩ := h
    refine ⟨_, (pss_cons (ps_set (i := 2) scLawLacking.nd rfl (.inl rfl) (pe_lst pa_nil))
        (pss_cons (ps_for PassesOwn.never rfl (pi_range1 (by rfl) Z.range (pa_cons pe_int pa_nil)) (pg_name (i := 3) scLawLacking.nd rfl (.inl rfl)) (pss_one (ps_for PassesOwn.never rfl (pi_range2 (by rfl) Z.range (pa_cons (pe_ix ix_list (pv 1) (pv 3) (fun _ _ => rfl)) (pa_cons (pe_callB call_len_seq (by rfl) Z.len PySem.boot_len (pa_cons (pe_ix ix_list (pv 0) (pv 3) (fun _ _ => rfl)) pa_nil)) pa_nil))) (pg_name (i := 4) scLawLacking.nd rfl (.inl rfl)) (pss_one (ps_expr (pe_bm PySem.F.plainAttrs_list PySem.F.slot_list_append PySem.F.type_list_append mt_append (pv 2) (pa_cons (pe_tup (pa_cons (pv 3) (pa_cons (pe_op op_add (pv 4) pe_int) (pa_cons (pe_ix ix_list (pe_ix ix_list (pv 0) (pv 3) (fun _ _ => rfl)) (pv 4) (fun _ _ => rfl)) pa_nil)))) pa_nil)))))))
        (pss_one (ps_ret (pv 2))))), ?_⟩
    have big : 16777216 ≤ sizeLine := by decide +kernel
    refine ⟨Nat.zero_le _, fun D hD => ?_⟩
    have sD := same_upd (o := .lst []) hD
    refine ⟨8, rfl, by decide, by decide, ?_⟩
    refine for_range (lo := 0) (n := 8) (fun i σ H' => ∃ (y3 y4 : Option V) (us : List V), σ = [some (.ref A0), some (.ref c), some (.ref D), y3, y4] ∧ Same H H' ∧ H' D = some (.lst us) ∧ All2 (TripAt H') us ((List.range i).flatMap (lackR R cn)) ∧ us.length ≤ 100 * i)
      ⟨none, none, [], rfl, sD, upd_same, .nil, Nat.le_refl _⟩ ?_ ?_
    · rintro i σ H1 hi ⟨y3, y4, us, rfl, s1, hD1, hus, hul⟩
      have R1 := RA.keep s1
      obtain ⟨ra, ur, hrs0, hrv, hra, hur⟩ := R1.get hi
      have hurl := hur.len
      have hf := (hF i hi).1
      have ci : ((List.range 8).map fun j => vi (cn j))[i]? = some (vi (cn i)) := by
        rw [List.getElem?_map, List.getElem?_range hi]; rfl
      have ij : ∀ {xs : List V} {v : V}, xs[i]? = some v → atI xs (0 + (i : Int)) = some v := fun h => by rw [Int.zero_add]; exact atI_nat h
      refine ⟨_, rfl, _, rfl, c, _, _, vi (cn i), rfl, rfl, SqL.of (s1 _ _ hc), ij ci, _, rfl, _, rfl, A0, _, _, .ref ra, rfl, rfl, SqL.of R1.h, ij hrv, ra, ur, rfl, .inl (SqL.of hra), ?_⟩
      have hci := hcn i
      refine ⟨_, _, rfl, ⟨by omega, by omega, by omega, by omega⟩, ?_⟩
      refine for_range (lo := (cn i : Int)) (n := ((ur.length : Int) - (cn i : Int)).toNat) (fun j σ H' => ∃ (y4 : Option V) (us : List V), σ = [some (.ref A0), some (.ref c), some (.ref D), some (.int (0 + (i : Int))), y4] ∧ Same H H' ∧ H' D = some (.lst us) ∧ All2 (TripAt H') us ((List.range i).flatMap (lackR R cn) ++ (lackR R cn i).take j) ∧ us.length ≤ 100 * i + j)
        ⟨y4, us, rfl, s1, hD1, by rw [List.take_zero, List.append_nil]; exact hus, hul⟩ ?_ ?_
      · rintro j σ H2 hj ⟨y4, us, rfl, s2, hD2, hus2, hul2⟩
        have R2 := RA.keep s2
        obtain ⟨ra, ur', hrs0', hrv', hra2, hur2⟩ := R2.get hi
        have hurl2 := hur2.len
        have hj2 : cn i + j < (R i).length := by omega
        obtain ⟨dx, hdx⟩ : ∃ dx, ur'[cn i + j]? = some dx := ⟨_, List.getElem?_eq_getElem (by omega)⟩
        obtain ⟨δ, hδ, hdδ⟩ := All2.get hur2 hdx
        have hdδ : DeedAt H2 dx δ := hdδ
        have at2 : atI ur' ((cn i : Int) + (j : Int)) = some dx := atI_nat (j := cn i + j) hdx
        refine ⟨_, rfl, .inl ⟨rfl, _, SqL.of hD2⟩, _, rfl, _, rfl, _, _, rfl, rfl, _, rfl, _, rfl, A0, _, _, .ref ra, rfl, rfl, SqL.of R2.h, ij hrv', _, rfl, ra, ur', _, dx, rfl, rfl, SqL.of hra2, at2, by show 3 ≤ sizeLine; decide, fun t ht => ?_⟩
        have s3 := same_upd (o := .tup [.int (0 + (i : Int)), .int ((cn i : Int) + (j : Int) + 1), dx]) ht
        have g3 : upd H2 t (.tup [.int (0 + (i : Int)), .int ((cn i : Int) + (j : Int) + 1), dx]) t = some (.tup [vi i, vi (cn i + j + 1), dx]) := by
          rw [upd_same, Int.zero_add]
          rfl
        show _
        have key : ∀ H3, Same H2 H3 → H3 t = some (.tup [vi i, vi (cn i + j + 1), dx]) → ∃ y4 us2, ([some (.ref A0), some (.ref c), some (.ref D), some (.int (0 + (i : Int))), some (.int ((cn i : Int) + (j : Int)))] : List (Option V)) = [some (.ref A0), some (.ref c), some (.ref D), some (.int (0 + (i : Int))), y4] ∧ Same H (upd H3 D (.lst (us ++ [.ref t]))) ∧ upd H3 D (.lst (us ++ [.ref t])) D = some (.lst us2) ∧ All2 (TripAt (upd H3 D (.lst (us ++ [.ref t])))) us2 ((List.range i).flatMap (lackR R cn) ++ (lackR R cn i).take (j + 1)) ∧ us2.length ≤ 100 * i + (j + 1) := fun H3 s23 g => by
          have hD3 := s23 _ _ hD2
          have kD : TupK H3 (upd H3 D (.lst (us ++ [.ref t]))) := tk_upd fun xs e => by rw [hD3] at e; cases e
          refine ⟨_, us ++ [.ref t], rfl, same_up (Same.tr s2 s23) hD, upd_same, ?_, by rw [List.length_append]; show us.length + 1 ≤ _; omega⟩
          have ht1 : (lackR R cn i)[j]? = some (i, cn i + j + 1, δ) := by
            unfold lackR
            rw [List.getElem?_map, List.getElem?_range (by omega)]
            show some (i, cn i + j + 1, (R i).getD (cn i + j) (.back 0)) = _
            rw [List.getD_eq_getElem?_getD, hδ]
            rfl
          rw [List.take_add_one, ht1, ← List.append_assoc]
          exact (hus2.mono fun v d h => TripAt.keep (TripAt.keep h (Same.tk s23)) kD).app (.one ⟨t, dx, rfl, kD _ _ g, (hdδ.keep (Same.tk s23)).keep kD⟩)
        exact ⟨D, _, _, rfl, rfl, s3 _ _ hD2, by omega, key _ s3 g3⟩
      · rintro σ H2 ⟨y4, us, rfl, s2, hD2, hus2, hul2⟩
        refine ⟨_, y4, us, rfl, s2, hD2, ?_, by omega⟩
        rw [List.take_of_length_le (by rw [lackR_len]; omega)] at hus2
        rw [List.range_succ, List.flatMap_append]
        show All2 (TripAt H2) us (_ ++ ([i] : List Nat).flatMap (lackR R cn))
        rw [List.flatMap_cons, List.flatMap_nil, List.append_nil]
        exact hus2
    · rintro σ H1 ⟨y3, y4, us, rfl, s1, hD1, hus, hul⟩
      exact ⟨_, rfl, qq H1 D us s1 hD1 hus hD⟩
end
end Q07
namespace Q07
open PySem PySem.Spec PyProof.Rows L2 SX HL DM
section
variable {P : Program} {w : World} {K : PySem.W.Frag} {mg : Str → Option Value} {base : Heap}
/-! ### _law_turned -/
/-- what a turned packet may hold: trips of ts, or none that ever fits -/
def Turned (ts : List Trip) (t : Trip) : Prop := t ∈ ts ∨ (∃ u ∈ ts, t = (u.1, u.2.1 + 100, u.2.2)) ∨ ∃ r pl m x b n z, (r, pl, Deed.change m x b n z) ∈ ts ∧ t = (r, pl, .change m (x ++ [(9999, 0)]) b n z)
def Tiny (t : Trip) : Prop := t.1 < 8 ∧ DOk t.2.2 ∧ (remD t.2.2).length ≤ 4
def spTurn : Sp := fun vs H Q _ => ∃ (d l : Addr) (ds : List Int) (i : Int) (us : List V) (ts : List Trip), vs = [.ref d, .int i, .ref l] ∧ H d = some (.lst (ds.map V.int)) ∧ Draws ds ∧ 0 ≤ i ∧ H l = some (.lst us) ∧ All2 (TripAt H) us ts ∧ ts.length ≤ 40 ∧ (∀ t ∈ ts, Tiny t) ∧
  ∀ H' l' us' ts', Same H H' → H l' = none → H' l' = some (.lst us') → All2 (TripAt H') us' ts' → ts'.length ≤ 2 * ts.length → (∀ t ∈ ts', Turned ts t) → (∀ t ∈ ts', t.1 < 8 ∧ DOk t.2.2) → Q (.ref l') H'
theorem turned_ok {ts : List Trip} (h : ∀ t ∈ ts, Tiny t) {t : Trip} (ht : Turned ts t) : t.1 < 8 ∧ DOk t.2.2 := by
  rcases ht with ht | ⟨u, hu, rfl⟩ | ⟨r, pl, m, x, b, n, z, hu, rfl⟩
  · exact ⟨(h t ht).1, (h t ht).2.1⟩
  · exact ⟨(h u hu).1, (h u hu).2.1⟩
  · obtain ⟨h1, h2, h3⟩ := h _ hu
    obtain ⟨a1, a2, a3, a4, a5⟩ := h2.m _ _ _ _ _ rfl
    refine ⟨h1, ⟨fun m' x' b' n' z' e => ?_⟩⟩
    cases e
    have h3 : x.length ≤ 4 := h3
    exact ⟨a1, a2, a3, by rw [List.length_append]; show x.length + 1 ≤ 1000; omega, a5⟩
theorem all2_ins {α β : Type} {R : α → β → Prop} {us : List α} {ts : List β} (h : All2 R us ts) (j : Nat) {u : α} {t : β} (hu : R u t) : All2 R (us.insertIdx j u) (ts.insertIdx j t) := by
  induction j generalizing us ts with
  | zero => exact .cons hu h
  | succ j ih =>
    cases h with
    | nil => exact .nil
    | cons a r => exact .cons a (ih r)
theorem ins_eq {α : Type} {x : α} : ∀ (q : Nat) (l : List α), q ≤ l.length → l.take q ++ [x] ++ l.drop q = l.insertIdx q x
  | 0, l, _ => rfl
  | q + 1, [], h => by cases h
  | q + 1, y :: l, h => by
    rw [List.take_succ_cons, List.drop_succ_cons, List.insertIdx_succ_cons, ← ins_eq q l (Nat.le_of_succ_le_succ h)]
    rfl
theorem catA_of {H : Hp} {a b : Addr} {xs ys : List V} {Q : VK} (ha : H a = some (.tup xs)) (hb : H b = some (.tup ys)) (hz : xs.length + ys.length ≤ sizeLine) (q : ∀ H' r, Same H H' → H' r = some (.tup (xs ++ ys)) → Q (.ref r) H') : rCatA K (.ref a) (.ref b) H Q :=
  ⟨a, b, xs, ys, rfl, rfl, SqT.of ha, SqT.of hb, hz, fun e => q H b (Same.refl H) (by rw [e]; exact hb), fun _ e => q H a (Same.refl H) (by rw [e, List.append_nil]; exact ha), fun _ _ p hp => q _ p (same_upd hp) upd_same⟩
theorem ok_lturned {k : Nat} (Z : Defs K mg) (GLawAt : FnOk P w K mg base CX0 k Z.fLawAt Z.fdLawAt ["draws", "index"] spAt) : FnOk P w K mg base CX0 (k + 1) Z.fLawTurned Z.fdLawTurned ["draws", "base", "packet"] spTurn := by
  refine Z.DLawTurned.F.ok scLawTurned (fun vs H Q E h => ?_) (fun cdv A outer s H vs Q E hr h => ?_)
  · obtain ⟨d, l, ds, i, us, ts, rfl, _⟩ := h
    rfl
  · obtain ⟨d, l, ds, i, us, ts, rfl, hd, hD, hi, hl, hts, hn, hok, qq⟩ := h
    refine ⟨_, (pss_cons (ps_set (i := 3) scLawTurned.nd rfl (.inl rfl) (pe_lst pa_nil))
        (pss_cons (ps_for PassesOwn.never rfl (pi_range1 (by rfl) Z.range (pa_cons (pe_callB call_len_seq (by rfl) Z.len PySem.boot_len (pa_cons (pv 2) pa_nil)) pa_nil)) (pg_name (i := 4) scLawTurned.nd rfl (.inl rfl)) (pss_cons (ps_set (i := 5) scLawTurned.nd rfl (.inl rfl) (pe_op op_mod (pe_call GLawAt (hr.mono (by omega)) (by rfl) Z.DLawAt.g Z.DLawAt.F.kp Z.DLawAt.b .nil pass0 (pa_cons (pv 0) (pa_cons (pe_op op_add (pv 1) (pv 4)) pa_nil))) pe_int))
        (pss_cons (ps_asg (pe_ix ix_list (pv 2) (pv 4) (fun _ _ => rfl)) (pg_tup rfl (pgs_cons (pg_name (i := 6) scLawTurned.nd rfl (.inl rfl)) (pgs_cons (pg_name (i := 7) scLawTurned.nd rfl (.inl rfl)) (pgs_cons (pg_name (i := 8) scLawTurned.nd rfl (.inl rfl)) pgs_nil)))))
        (C8.pss_cut (ps_if (pt_cmpR op_eq (pv 5) pe_int (nomark _)) (pss_one (ps_expr (pe_bm PySem.F.plainAttrs_list PySem.F.slot_list_append PySem.F.type_list_append mt_append (pv 3) (pa_cons (pe_tup (pa_cons (pv 6) (pa_cons (pe_op op_add (pv 7) pe_int) (pa_cons (pv 8) pa_nil)))) pa_nil)))) (pss_one (ps_if (PW.pt (pw_and (pt_cmpR op_eq (pv 5) pe_int (nomark _)) (pw_and1 (pt_cmpR op_eq (pe_ix ix_tup (pv 8) pe_int (fun _ _ => rfl)) pe_str (nomark _))))) (pss_one (ps_expr (pe_bm PySem.F.plainAttrs_list PySem.F.slot_list_append PySem.F.type_list_append mt_append (pv 3) (pa_cons (pe_tup (pa_cons (pv 6) (pa_cons (pv 7) (pa_cons (pe_tup (pa_cons pe_str (pa_cons (pe_ix ix_tup (pv 8) pe_int (fun _ _ => rfl)) (pa_cons (pe_op op_catA (pe_ix ix_tup (pv 8) pe_int (fun _ _ => rfl)) (pe_tup (pa_cons (pe_tup (pa_cons pe_int (pa_cons pe_int pa_nil))) pa_nil))) (pa_cons (pe_ix ix_tup (pv 8) pe_int (fun _ _ => rfl)) (pa_cons (pe_ix ix_tup (pv 8) pe_int (fun _ _ => rfl)) (pa_cons (pe_ix ix_tup (pv 8) pe_int (fun _ _ => rfl)) pa_nil))))))) pa_nil)))) pa_nil)))) (pss_one (ps_if (pt_cmpR op_ne (pv 5) pe_int (nomark _)) (pss_one (ps_expr (pe_bm PySem.F.plainAttrs_list PySem.F.slot_list_insert PySem.F.type_list_insert mt_insert (pv 3) (pa_cons (pe_op op_mod (pe_op op_fdiv (pe_call GLawAt (hr.mono (by omega)) (by rfl) Z.DLawAt.g Z.DLawAt.F.kp Z.DLawAt.b .nil pass0 (pa_cons (pv 0) (pa_cons (pe_op op_add (pv 1) (pv 4)) pa_nil))) pe_int) (pe_op op_add (pe_callB call_len_seq (by rfl) Z.len PySem.boot_len (pa_cons (pv 3) pa_nil)) pe_int)) (pa_cons (pe_ix ix_list (pv 2) (pv 4) (fun _ _ => rfl)) pa_nil))))) pss_nil)))))
        (pss_one (ps_if (pt_cmpR op_eq (pv 5) pe_int (nomark _)) (pss_one (ps_expr (pe_bm PySem.F.plainAttrs_list PySem.F.slot_list_insert PySem.F.type_list_insert mt_insert (pv 3) (pa_cons pe_int (pa_cons (pe_ix ix_list (pv 2) (pv 4) (fun _ _ => rfl)) pa_nil))))) pss_nil))))))
        (pss_one (ps_ret (pv 3))))), ?_⟩
    have big : 16777216 ≤ sizeLine := by decide +kernel
    have hul := hts.len
    refine ⟨Nat.zero_le _, fun D hDn => ?_⟩
    have sD := same_upd (o := .lst []) hDn
    refine ⟨_, rfl, l, us, rfl, .inl (SqL.of (sD _ _ hl)), _, rfl, by omega, by omega, ?_⟩
    refine for_range (lo := 0) (n := (us.length : Int).toNat) (fun j σ H' => ∃ (y4 y5 y6 y7 y8 : Option V) (us' : List V) (ts' : List Trip), σ = [some (.ref d), some (.int i), some (.ref l), some (.ref D), y4, y5, y6, y7, y8] ∧ Same H H' ∧ H' D = some (.lst us') ∧ All2 (TripAt H') us' ts' ∧ ts'.length ≤ 2 * j ∧ ∀ t ∈ ts', Turned ts t)
      ⟨none, none, none, none, none, [], [], rfl, sD, upd_same, .nil, Nat.le_refl _, fun t h => (by cases h)⟩ ?_ ?_
    · rintro j σ H1 hj ⟨y4, y5, y6, y7, y8, us', ts', rfl, s1, hD1, hus, htl, htu⟩
      have hj' : j < us.length := by omega
      have ij : ∀ {xs : List V} {v : V}, xs[j]? = some v → atI xs (0 + (j : Int)) = some v := fun h => by rw [Int.zero_add]; exact atI_nat h
      have hul' := hus.len
      refine ⟨_, rfl, _, rfl, _, rfl, _, _, rfl, rfl, d, ds, _, rfl, s1 _ _ hd, hD, by omega, fun v v0 v1 => ⟨v, 8, rfl, rfl, (by show (0 : Int) < 8; decide), ?_⟩⟩
      obtain ⟨u, hu⟩ : ∃ u, us[j]? = some u := ⟨_, List.getElem?_eq_getElem hj'⟩
      obtain ⟨⟨r, pl, δ⟩, ht, a, dx, rfl, ha, hdx⟩ := hts.get hu
      have htm := List.mem_of_getElem? ht
      have hdx : DeedAt H dx δ := hdx
      have ha : H a = some (.tup [vi r, vi pl, dx]) := ha
      refine ⟨_, rfl, _, rfl, l, us, _, _, rfl, rfl, SqL.of (s1 _ _ hl), ij hu, a, _, rfl, SqT.of (s1 _ _ ha), rfl, _, _, rfl, _, _, rfl, _, _, rfl, rfl, ?_⟩
      have own : ∀ {H'}, Same H H' → TripAt H' (.ref a) (r, pl, δ) := fun s => ⟨a, dx, rfl, s _ _ ha, hdx.keep (Same.tk s)⟩
      have ins : ∀ (H2 : Hp) (us2 : List V) (ts2 : List Trip) (q : Nat), Same H H2 → H2 D = some (.lst us2) → All2 (TripAt H2) us2 ts2 → (∀ t ∈ ts2, Turned ts t) → q ≤ us2.length → Same H (upd H2 D (.lst (us2.insertIdx q (.ref a)))) ∧ All2 (TripAt (upd H2 D (.lst (us2.insertIdx q (.ref a))))) (us2.insertIdx q (.ref a)) (ts2.insertIdx q (r, pl, δ)) ∧ (ts2.insertIdx q (r, pl, δ)).length ≤ ts2.length + 1 ∧ ∀ t ∈ ts2.insertIdx q (r, pl, δ), Turned ts t := fun H2 us2 ts2 q s2 hD2 h2 hu2 hq => by
        have kD : TupK H2 (upd H2 D (.lst (us2.insertIdx q (.ref a)))) := tk_upd fun xs e => by rw [hD2] at e; cases e
        have s3 : Same H (upd H2 D (.lst (us2.insertIdx q (.ref a)))) := same_up s2 hDn
        refine ⟨s3, all2_ins (h2.mono fun v t h => TripAt.keep h kD) q (own s3), ?_, fun t ht => ?_⟩
        · rw [List.length_insertIdx]
          split <;> omega
        · rw [List.mem_insertIdx (by rw [← h2.len]; exact hq)] at ht
          rcases ht with rfl | ht
          · exact .inl htm
          · exact hu2 t ht
      have app : ∀ (H2 : Hp) (x : V) (t : Trip), Same H1 H2 → TripAt H2 x t → Turned ts t → Same H (upd H2 D (.lst (us' ++ [x]))) ∧ All2 (TripAt (upd H2 D (.lst (us' ++ [x])))) (us' ++ [x]) (ts' ++ [t]) ∧ (ts' ++ [t]).length ≤ 2 * j + 1 ∧ ∀ t' ∈ ts' ++ [t], Turned ts t' := fun H2 x t s12 hx hT => by
        have hD2 := s12 _ _ hD1
        have kD : TupK H2 (upd H2 D (.lst (us' ++ [x]))) := tk_upd fun xs e => by rw [hD2] at e; cases e
        refine ⟨same_up (Same.tr s1 s12) hDn, (hus.mono fun v t h => TripAt.keep (TripAt.keep h (Same.tk s12)) kD).app (.one (TripAt.keep hx kD)), by rw [List.length_append]; show ts'.length + 1 ≤ _; omega, fun t' ht' => ?_⟩
        rcases List.mem_append.mp ht' with h | h
        · exact htu t' h
        · rw [List.mem_singleton.mp h]; exact hT
      refine ⟨fun σ' H' => ∃ (us' : List V) (ts' : List Trip), σ' = [some (.ref d), some (.int i), some (.ref l), some (.ref D), some (.int (0 + (j : Int))), some (.int (v % 8)), some (vi r), some (vi pl), some dx] ∧ Same H H' ∧ H' D = some (.lst us') ∧ All2 (TripAt H') us' ts' ∧ ts'.length ≤ 2 * j + 1 ∧ ∀ t ∈ ts', Turned ts t, ?_, ?_⟩
      · refine ⟨_, rfl, rfl, _, rfl, ite2 (fun e => ?_) (fun e => ?_)⟩
        · refine ⟨_, rfl, .inl ⟨rfl, _, SqL.of hD1⟩, _, rfl, _, rfl, _, _, rfl, rfl, _, rfl, by show 3 ≤ sizeLine; decide, fun t ht => ?_⟩
          have s2 := same_upd (o := .tup [vi r, .int ((pl : Int) + 100), dx]) ht
          have g2 : upd H1 t (.tup [vi r, .int ((pl : Int) + 100), dx]) t = some (.tup [vi r, vi (pl + 100), dx]) := by rw [upd_same]; rfl
          have hx2 : TripAt (upd H1 t (.tup [vi r, .int ((pl : Int) + 100), dx])) (.ref t) (r, pl + 100, δ) := ⟨t, dx, rfl, g2, hdx.keep (Same.tk (Same.tr s1 s2))⟩
          obtain ⟨b1, b2, b3, b4⟩ := app _ _ _ s2 hx2 (.inr (.inl ⟨_, htm, rfl⟩))
          exact ⟨D, _, _, rfl, rfl, s2 _ _ hD1, by omega, us' ++ [.ref t], ts' ++ [(r, pl + 100, δ)], rfl, b1, upd_same, b2, b3, b4⟩
        · refine ⟨_, rfl, rfl, _, rfl, ite2 (fun e2 => ?_) (fun e2 => iteF ?_)⟩
          · cases δ with
            | back q0 =>
              obtain ⟨td, rfl, htd⟩ := hdx
              refine ⟨_, rfl, td, _, 0, _, rfl, rfl, SqT.of (s1 _ _ htd), rfl, rfl, _, rfl, iteF ?_⟩
              refine ⟨_, rfl, rfl, _, rfl, ite2 (fun e3 => ?_) (fun e3 => ⟨us', ts', rfl, s1, hD1, hus, by omega, htu⟩)⟩
              refine ⟨_, rfl, .inl ⟨rfl, _, SqL.of hD1⟩, _, rfl, _, rfl, _, rfl, _, _, rfl, rfl, d, ds, _, rfl, s1 _ _ hd, hD, by omega, fun v2 v20 v21 => ⟨v2, 8, rfl, rfl, ⟨by decide, by decide⟩, _, rfl, D, us', rfl, .inl (SqL.of hD1), _, _, rfl, rfl, _, _, rfl, rfl, by show (0 : Int) < (us'.length : Int) + 1; omega, ?_⟩⟩
              obtain ⟨q, hq⟩ := Int.eq_ofNat_of_zero_le (Int.emod_nonneg (v2 / 8) (show ((us'.length : Int) + 1) ≠ 0 by omega))
              have hq2 := Int.emod_lt_of_pos (v2 / 8) (show (0 : Int) < (us'.length : Int) + 1 by omega)
              rw [hq] at hq2
              show _
              refine ⟨_, rfl, _, rfl, l, us, _, _, rfl, rfl, SqL.of (s1 _ _ hl), ij hu, D, us', v2 / 8 % ((us'.length : Int) + 1), .ref a, rfl, rfl, hD1, by omega, by omega, by omega, ?_⟩
              rw [hq, Int.toNat_natCast, ins_eq q us' (by omega)]
              obtain ⟨b1, b2, b3, b4⟩ := ins H1 us' ts' q s1 hD1 hus htu (by omega)
              exact ⟨_, _, rfl, b1, upd_same, b2, by omega, b4⟩
            | change m x b n z =>
              obtain ⟨td, tr, um, bx, rfl, htd, htr, hum, hb⟩ := hdx
              have T1 := SqT.of (K := K) (s1 _ _ htd)
              have hsm : (remD (Deed.change m x b n z)).length ≤ 4 := (hok _ htm).2.2
              have hxl : x.length ≤ 4 := hsm
              have huml := hum.len
              refine ⟨_, rfl, td, _, 0, _, rfl, rfl, T1, rfl, rfl, _, rfl, iteT ?_⟩
              refine ⟨_, rfl, .inl ⟨rfl, _, SqL.of hD1⟩, _, rfl, _, rfl, _, rfl, td, _, 1, _, rfl, rfl, T1, rfl, _, rfl, td, _, 2, _, rfl, rfl, T1, rfl, by show 2 ≤ sizeLine; decide, fun w1 hw1 => ⟨by show 1 ≤ sizeLine; decide, fun w2 hw2 => ?_⟩⟩
              have sw1 := same_upd (o := .tup [.int 9999, .int 0]) hw1
              have gw1 : upd H1 w1 (.tup [.int 9999, .int 0]) w1 = some (.tup [vi 9999, vi 0]) := upd_same
              generalize upd H1 w1 (.tup [.int 9999, .int 0]) = G1 at *
              have sw2 := same_upd (o := .tup [.ref w1]) hw2
              have gw2 : upd G1 w2 (.tup [.ref w1]) w2 = some (.tup [.ref w1]) := upd_same
              generalize upd G1 w2 (.tup [.ref w1]) = G2 at *
              have s12 := Same.tr sw1 sw2
              have sG := Same.tr s1 s12
              refine catA_of (sG _ _ htr) gw2 (by show um.length + 1 ≤ sizeLine; omega) fun G3 cr s3 hcr => ?_
              have sG3 := Same.tr sG s3
              have T3 := SqT.of (K := K) (sG3 _ _ htd)
              refine ⟨_, rfl, td, _, 3, _, rfl, rfl, T3, rfl, _, rfl, td, _, 4, _, rfl, rfl, T3, rfl, _, rfl, td, _, 5, _, rfl, rfl, T3, rfl, by show 6 ≤ sizeLine; decide, fun w3 hw3 => ⟨by show 3 ≤ sizeLine; decide, fun w4 hw4 => ?_⟩⟩
              have sw3 := same_upd (o := .tup [.str "change", .str (S m), .ref cr, bx, vi n, .str (S z)]) hw3
              have gw3 : upd G3 w3 (.tup [.str "change", .str (S m), .ref cr, bx, vi n, .str (S z)]) w3 = some (.tup [.str "change", .str (S m), .ref cr, bx, vi n, .str (S z)]) := upd_same
              generalize upd G3 w3 (.tup [.str "change", .str (S m), .ref cr, bx, vi n, .str (S z)]) = G4 at *
              have sw4 := same_upd (o := .tup [vi r, vi pl, .ref w3]) hw4
              have gw4 : upd G4 w4 (.tup [vi r, vi pl, .ref w3]) w4 = some (.tup [vi r, vi pl, .ref w3]) := upd_same
              generalize upd G4 w4 (.tup [vi r, vi pl, .ref w3]) = G5 at *
              have s35 := Same.tr sw3 sw4
              have sG5 := Same.tr sG3 s35
              have s15 : Same H1 G5 := Same.tr s12 (Same.tr s3 s35)
              have hnew : TripAt G5 (.ref w4) (r, pl, .change m (x ++ [(9999, 0)]) b n z) := ⟨w4, .ref w3, rfl, gw4, w3, cr, um ++ [.ref w1], bx, rfl, sw4 _ _ gw3, s35 _ _ hcr, (hum.mono fun v d h => MkAt.keep h (Same.tk sG5)).app (.one ⟨w1, rfl, s35 _ _ (s3 _ _ (sw2 _ _ gw1))⟩), OMk.keep hb (Same.tk sG5)⟩
              obtain ⟨b1, b2, b3, b4⟩ := app _ _ _ s15 hnew (.inr (.inr ⟨r, pl, m, x, b, n, z, htm, rfl⟩))
              exact ⟨D, _, _, rfl, rfl, s15 _ _ hD1, by omega, us' ++ [.ref w4], _, rfl, b1, upd_same, b2, b3, b4⟩
          · refine ⟨_, rfl, rfl, _, rfl, ite2 (fun e3 => ?_) (fun e3 => ⟨us', ts', rfl, s1, hD1, hus, by omega, htu⟩)⟩
            refine ⟨_, rfl, .inl ⟨rfl, _, SqL.of hD1⟩, _, rfl, _, rfl, _, rfl, _, _, rfl, rfl, d, ds, _, rfl, s1 _ _ hd, hD, by omega, fun v2 v20 v21 => ⟨v2, 8, rfl, rfl, ⟨by decide, by decide⟩, _, rfl, D, us', rfl, .inl (SqL.of hD1), _, _, rfl, rfl, _, _, rfl, rfl, by show (0 : Int) < (us'.length : Int) + 1; omega, ?_⟩⟩
            obtain ⟨q, hq⟩ := Int.eq_ofNat_of_zero_le (Int.emod_nonneg (v2 / 8) (show ((us'.length : Int) + 1) ≠ 0 by omega))
            have hq2 := Int.emod_lt_of_pos (v2 / 8) (show (0 : Int) < (us'.length : Int) + 1 by omega)
            rw [hq] at hq2
            show _
            refine ⟨_, rfl, _, rfl, l, us, _, _, rfl, rfl, SqL.of (s1 _ _ hl), ij hu, D, us', v2 / 8 % ((us'.length : Int) + 1), .ref a, rfl, rfl, hD1, by omega, by omega, by omega, ?_⟩
            rw [hq, Int.toNat_natCast, ins_eq q us' (by omega)]
            obtain ⟨b1, b2, b3, b4⟩ := ins H1 us' ts' q s1 hD1 hus htu (by omega)
            exact ⟨_, _, rfl, b1, upd_same, b2, by omega, b4⟩
      · rintro σ' H2 ⟨us2, ts2, rfl, s2, hD2, h2, hl2, hu2⟩
        have hul2 := h2.len
        refine ⟨_, rfl, rfl, _, rfl, ite2 (fun e => ?_) (fun e => ?_)⟩
        · obtain ⟨b1, b2, b3, b4⟩ := ins H2 us2 ts2 0 s2 hD2 h2 hu2 (Nat.zero_le _)
          exact ⟨_, rfl, .inl ⟨rfl, _, SqL.of hD2⟩, _, rfl, _, rfl, l, us, _, _, rfl, rfl, SqL.of (s2 _ _ hl), ij hu, D, us2, 0, .ref a, rfl, rfl, hD2, by omega, by decide, by decide, _, _, _, _, _, _, _, rfl, b1, upd_same, b2, by omega, b4⟩
        · exact ⟨_, _, _, _, _, us2, ts2, rfl, s2, hD2, h2, by omega, hu2⟩
    · rintro σ H1 ⟨y4, y5, y6, y7, y8, us', ts', rfl, s1, hD1, hus, htl, htu⟩
      exact ⟨_, rfl, qq H1 D us' ts' s1 hDn hD1 hus (by omega) htu fun t ht => turned_ok hok (htu t ht)⟩
end
end Q07
/-! enumerate(list, start=1) -/
namespace EK
open PySem PySem.Spec PyProof.Rows L2 SX
theorem callWith_typeKw {M : Model} {A : Around} {E : Value → Shared → Prop} {s : Shared} {pos : Pos} {T : String} {first : List Value} {args : List (Bool × Sem Value)} {keywords : List (Option Str × Sem Value)} {Q : Value → Shared → Prop}
    (hplain : args.any (·.1) = false) (hkw : keywords.any (·.1.isNone) = false)
    (h : wpAny M A (evalArgs (.type T) true args keywords) (fun a s₁ => wpAny M A (call (.type T) (first ++ a.pos) a.kw) Q E s₁) E s) :
    wpAny M A (callWith pos (.type T) first args keywords) Q E s := by
  unfold callWith
  refine wpAny_bind (wpAny_holding (wpAny_mono h (fun a s₁ h₁ => wpAny_bind (wpAny_standAt ?_)) fun _ _ x => x))
  simp only [hplain, hkw, Bool.or_false]
  refine wpAny_bind (wpAny_pure ?_)
  exact wpAny_bind (wpAny_mono h₁ (fun r s₂ hr => wpAny_bind (wpAny_holding (wpAny_point (wpAny_pure hr)))) fun _ _ x => x)
/-- the same draws, counted from 1 -/
theorem draws_one {prog : Program} {w : World} {A : Around} {it : Addr} {fp : List Addr} {n : Nat} {P : Nat → Value → Prop} {St : Nat → Heap → Prop} (D : Draws prog w A it fp n P St) :
    Draws prog w A it fp (n + 1) (fun i v => P (i - 1) v) (fun i h => 1 ≤ i ∧ St (i - 1) h) where
  live := fun i h st => D.live _ _ st.2
  frame := fun i h h' st k => ⟨st.1, D.frame _ _ _ st.2 k⟩
  item := fun i s Q E hi st q => by
    have h1 := st.1
    refine D.item (i - 1) s Q E (by omega) st.2 fun v h' tk hp hs hk => q v h' tk hp ⟨by omega, ?_⟩ hk
    have : i - 1 + 1 = i + 1 - 1 := by omega
    rw [← this]
    exact hs
  done := fun s Q E st q => D.done s Q E st.2 q
/-- (1, first), (2, the next), ..: the list at a, of n items -/
def ItE1 (K : PySem.W.Frag) (a : Addr) (n : Nat) : It :=
  ⟨fun i H => i < n ∧ ∃ xs, SqL K H a xs ∧ xs.length = n, fun i H v H' => ∃ T x, v = .ref T ∧ H T = none ∧ H' = upd H T (.tup [.int ((i + 1 : Nat) : Int), x]) ∧ ∀ xs, SqL K H a xs → xs[i]? = some x, fun i H => n ≤ i ∧ ∃ xs, SqL K H a xs ∧ xs.length = n⟩
theorem turn_e1 {P : Program} {w : World} {K : PySem.W.Frag} {elts : List Expr} {kk : Nat} {tpos : Pos} {a : Addr} {n : Nat} (e it : Addr) (hai : a ≠ it) (hae : a ≠ e) :
    Turn P w K (.Tuple elts kk tpos) (ItE1 K a n) [e, it] e (fun i h => (∃ old, IsEnum h e it ((i + 1 : Nat) : Int) old) ∧ h.IsListIter it a i ∧ e ≠ it ∧ i ≤ n) where
  mem := by simp
  obj := fun i h st b hb => by
    obtain ⟨⟨old, he⟩, ⟨o', ho, hc, hd⟩, _⟩ := st
    rcases (show b = e ∨ b = it by simpa using hb) with z | z
    · rw [z]; exact ⟨_, he, fun v q => nomatch q⟩
    · rw [z]; exact ⟨o', ho, fun v q => by rw [hd] at q; cases q⟩
  keep := fun i h h' st k => let ⟨⟨old, he⟩, hi, hne, hle⟩ := st; ⟨⟨old, k e (by simp) _ he⟩, hi.at fun o q => k it (by simp) o q, hne, hle⟩
  item := by
    intro X hP hw hK hc i pins s σ H E I hf st hg
    subst hP hw hK
    obtain ⟨⟨old, he⟩, hit, hne, hle⟩ := st
    obtain ⟨hi, xs, hq, hxl⟩ := hg
    obtain ⟨its, rv, p, hz⟩ := I.list hq
    have hlen : its.toArray.size = n := by rw [List.size_toArray, ← rv.length, hxl]
    have hel : e < s.heap.objs.size := Heap.lt_size he
    have hil : it < s.heap.objs.size := by obtain ⟨_, q, _⟩ := hit; exact Heap.lt_size q
    have D := draws_one (Draws.list (prog := X.prog) (w := X.w) (A := X.A.in1) (I.ok.hd hc) it a hai its.toArray)
    refine wpAny_pyNext_enum_itemD D he ⟨Nat.le_add_left 1 i, hit, p.isList⟩ (by omega) hne (by simp [hne, Ne.symm hae]) fun x h' tk hP ho st' hT hsz' hk => ?_
    refine ⟨_, rfl, wpAny_letOwnedTupleGo_enum (s := { s with heap := h', toks := tk + 1 }) ho fun h'' he' sb => ?_⟩
    have hT2 : h''.get? s.heap.objs.size = some { cls := .type "tuple", data := .seq #[.int ((i + 1 : Nat) : Int) tk, x] } := (sb.2 _ (Nat.ne_of_gt hel)).trans hT
    have hP' : its[i]? = some x := by
      have h1 : its.toArray[i + 1 - 1]? = some x := hP
      simpa using h1
    obtain ⟨v, hv, rk⟩ : ∃ v, xs[i]? = some v ∧ RelV v x := by
      have hlt : i < xs.length := by omega
      obtain ⟨u, hu, ru⟩ := rv.get (List.getElem?_eq_getElem hlt)
      rw [hP'] at hu
      cases hu
      exact ⟨_, List.getElem?_eq_getElem hlt, ru⟩
    have new : ObjOk X.prog X.w (upd H s.heap.objs.size (.tup [.int ((i + 1 : Nat) : Int), v])) h'' s.heap.objs.size (.tup [.int ((i + 1 : Nat) : Int), v]) :=
      ⟨by show 2 ≤ sizeLine; decide, [.int ((i + 1 : Nat) : Int) tk, x], .cons ⟨_, rfl⟩ (.cons rk .nil), ⟨_, hT2, rfl, _, rfl⟩⟩
    have I1 : Inv X pins σ (upd H s.heap.objs.size (.tup [.int ((i + 1 : Nat) : Int), v])) { s with heap := h'', toks := tk + 1 } :=
      I.turnedNew (ch := [e, it]) (fun b ob hb q => (sb.2 b (fun z => hb (by simp [z]))).trans (hk b ob (fun z => hb (by simp [z])) (fun z => hb (by simp [z])) q)) hf (Nat.le_refl _) new
    refine ⟨.ref s.heap.objs.size, _, I1, rfl, ⟨_, v, rfl, I.hok.fresh (Nat.le_refl _), rfl, fun ys hy => by rw [I.list_inj hy hq]; exact hv⟩, ⟨⟨x, ?_⟩, ?_, hne, by omega⟩, fun b hb => ?_⟩
    · have e1 : ((i + 1 + 1 : Nat) : Int) = ((i + 1 : Nat) : Int) + 1 := by omega
      rw [e1]; exact he'
    · exact st'.2.1.at fun o q => (sb.2 it (Ne.symm hne)).trans q
    · have hb' : b < s.heap.objs.size := by
        rcases (show b = e ∨ b = it by simpa using hb) with z | z
        · rw [z]; exact hel
        · rw [z]; exact hil
      rw [upd_ne (Nat.ne_of_lt hb')]
      exact (hf b hb).1
  done := by
    intro X hP hw hK hc i pins s σ H E I hf st hg
    subst hP hw hK
    obtain ⟨⟨old, he⟩, hit, hne, hle⟩ := st
    obtain ⟨hi, xs, hq, hxl⟩ := hg
    obtain ⟨its, rv, p, hz⟩ := I.list hq
    have hlen : its.toArray.size = n := by rw [List.size_toArray, ← rv.length, hxl]
    obtain ⟨f0, f1, f2, f3, f4, f5⟩ := hf it (by simp)
    have D := Draws.list (prog := X.prog) (w := X.w) (A := X.A.in1) (I.ok.hd hc) it a hai its.toArray
    have ei : i = its.toArray.size := by omega
    rw [ei] at hit
    exact wpAny_pyNext_enum_endD D he ⟨hit, p.isList⟩ fun h' eb => ⟨rfl, I.turned (t' := s.toks) (fun b o hb q => eb b o hb q) f0 f1 f3 f4 f5⟩
  self := fun A i s Q E st h => let ⟨⟨_, he⟩, _⟩ := st; wpAny_pyIter_enum he h
def iEnum1 (K : PySem.W.Frag) (te : TE) : TI := fun σ H R => te σ H fun v H1 => ∃ (a : Addr) (xs : List V), v = .ref a ∧ SqL K H1 a xs ∧ R (ItE1 K a xs.length) H1
/-- enumerate(x, start=1), x a list -/
theorem pi_enum1 {X : Cx} {e : Expr} {te : TE} {p pos tpos p1 kp : Pos} {elts : List Expr} {kk k1 : Nat} (hg : Gl X "enumerate") (hm : X.mg "enumerate" = none) (he : PE X e te)
    (hs : starEach [e] X.env = (false, eval e X.env) :: starEach [] X.env := by rfl) :
    PI X (.Tuple elts kk tpos) (.Call (.Name "enumerate" p) [e] [⟨some "start", .Constant (.int 1) k1 p1, kp⟩] pos) (iEnum1 X.K te) := by
  refine ⟨fun pins s σ H R I h => ?_⟩
  refine wpAny_Call_Name_kw (ld_blt I hg hm boot_enumerate ?_)
  refine callWith_typeKw (by rw [hs]; rfl) (by rfl) ?_
  rw [hs]
  refine evalArgs_kwB (by rfl) ?_
  refine Calls.spliced_cons (thn (he.run pins s σ H _ I h) fun u s1 ⟨v, H1, I1, r1, q1⟩ => ?_)
  obtain ⟨a, xs, ev, hq, q⟩ := q1
  subst ev
  obtain rfl : u = Value.ref a := r1
  refine Calls.spliced_nil (kws_cons (wpAny_Constant_int (kws_nil ?_)))
  have I1' : L2.Inv X pins σ H1 { s1 with toks := s1.toks + 1 } := I1.tok _
  obtain ⟨its, rv, p', hz⟩ := I1.list hq
  have hl := rv.length
  have hal : a < s1.heap.objs.size := by obtain ⟨o, ho, _⟩ := p'.isList; exact Heap.lt_size ho
  show wpAny (model X.prog X.w) X.A (call (.type "enumerate") [.ref a] [(Str.ofString "start", .int 1 _)]) _ _ _
  refine enum_begins_start (begins_list a its.toArray) p'.isList (by decide) (by decide) fun h' he hit hsz hk => wpAny_pyIter_enum he ?_
  have I2 : L2.Inv X pins σ H1 { s1 with heap := h', toks := s1.toks + 1 } := I1'.kept (t' := s1.toks + 1) hk
  refine ⟨s1.heap.objs.size + 1, [s1.heap.objs.size + 1, s1.heap.objs.size], _, _, H1, rfl, I2, turn_e1 (a := a) (n := xs.length) (s1.heap.objs.size + 1) s1.heap.objs.size (Nat.ne_of_lt hal) (Nat.ne_of_lt (Nat.lt_succ_of_lt hal)), ⟨⟨.none, he⟩, ⟨_, hit, rfl, rfl⟩, Nat.succ_ne_self _, Nat.zero_le _⟩, fun b hb => ?_, q⟩
  have hle : s1.heap.objs.size ≤ b := by
    rcases (show b = s1.heap.objs.size + 1 ∨ b = s1.heap.objs.size by simpa using hb) with z | z
    · rw [z]; exact Nat.le_add_right _ _
    · rw [z]; exact Nat.le_refl _
  exact I1'.fpOk hle (I1'.hok.fresh hle)
theorem pi_enum1K {K : PySem.W.Frag} {X : Cx} {e : Expr} {te : TE} {p pos tpos p1 kp : Pos} {elts : List Expr} {kk k1 : Nat} (hK : X.K = K) (hg : Gl X "enumerate") (hm : X.mg "enumerate" = none) (he : PE X e te)
    (hs : starEach [e] X.env = (false, eval e X.env) :: starEach [] X.env := by rfl) :
    PI X (.Tuple elts kk tpos) (.Call (.Name "enumerate" p) [e] [⟨some "start", .Constant (.int 1) k1 p1, kp⟩] pos) (iEnum1 K te) := by
  subst hK
  exact pi_enum1 hg hm he hs
theorem walk_e1 {K : PySem.W.Frag} {a : Addr} {xs : List V} : Walk (ItE1 K a xs.length) xs.length (fun H => SqL K H a xs) (YPair (fun i => some (.int ((i + 1 : Nat) : Int))) (fun i => xs[i]?)) := by
  refine ⟨fun i H hi q => ⟨hi, xs, q, rfl⟩, fun H q => ⟨Nat.le_refl _, xs, q, rfl⟩, fun i H v H' _ q y => ?_⟩
  obtain ⟨T, x, h1, h2, h3, h4⟩ := y
  exact ⟨T, .int ((i + 1 : Nat) : Int), x, h1, h2, h3, rfl, h4 xs q⟩
end EK
/-! min(list of numbers, default=d) -/
namespace EM
open PySem PySem.Spec PyProof.Rows L2 SX
section
variable {X : Cx}
def rMinD (K : PySem.W.Frag) : List V → List V → Hp → VK → Prop := fun vs zs H Q => ∃ (a : Addr) (ns : List Int) (d : V), vs = [.ref a] ∧ zs = [d] ∧ SqL K H a (ns.map V.int) ∧ (ns = [] → Q d H) ∧ (∀ m ∈ ns, (∀ x ∈ ns, m ≤ x) → Q (.int m) H)
theorem dp_ints {K : PySem.W.Frag} {H : Hp} : ∀ ns : List Int, DpAll K H (ns.map V.int) (ns.map PyData.int)
  | [] => .nil
  | _ :: r => .cons (.int _) (dp_ints r)
theorem depth_ints : ∀ ns : List Int, PyData.depthAll (ns.map PyData.int) ≤ 1
  | [] => Nat.zero_le _
  | n :: r => by
    have := depth_ints r
    show max (PyData.int n).depth (PyData.depthAll (r.map PyData.int)) ≤ 1
    exact Nat.max_le.mpr ⟨by simp [PyData.depth], this⟩
theorem foldl_min (n : Int) : ∀ ns : List Int, ns.foldl min n ∈ n :: ns ∧ ∀ x ∈ n :: ns, ns.foldl min n ≤ x
  | [] => ⟨List.mem_cons_self .., fun x h => by rw [List.mem_singleton.mp h]; exact Int.le_refl _⟩
  | k :: r => by
    obtain ⟨h1, h2⟩ := foldl_min (min n k) r
    rw [List.foldl_cons]
    refine ⟨?_, fun x hx => ?_⟩
    · rcases List.mem_cons.mp h1 with e | h
      · rw [e]
        rcases Int.le_total n k with q | q
        · rw [Int.min_eq_left q]; exact List.mem_cons_self ..
        · rw [Int.min_eq_right q]; exact List.mem_cons_of_mem _ (List.mem_cons_self ..)
      · exact List.mem_cons_of_mem _ (List.mem_cons_of_mem _ h)
    · have h3 := h2 (min n k) (List.mem_cons_self ..)
      rcases List.mem_cons.mp hx with rfl | hx
      · exact Int.le_trans h3 (Int.min_le_left ..)
      · rcases List.mem_cons.mp hx with rfl | hx
        · exact Int.le_trans h3 (Int.min_le_right ..)
        · exact h2 x (List.mem_cons_of_mem _ hx)
theorem ck_minD (hc : X.calm = true) (hu : X.A.units + 2 < cLine) : CallRK X (.builtin "min") ["default"] (rMinD X.K) := by
  intro pins s σ H xs zs us ws Q I r1 r2 h
  obtain ⟨a, ns, d, rfl, rfl, hs, h0, h1⟩ := h
  obtain ⟨u, rfl, ru⟩ := r1.one
  obtain ⟨wd, rfl, rw'⟩ := r2.one
  obtain rfl : u = Value.ref a := ru
  obtain ⟨its, rv, hl, _⟩ := I.list hs
  obtain ⟨as, hr⟩ := Dp.readsAll I _ _ its (dp_ints ns) rv
  have hdep := depth_ints ns
  show wpAny (model X.prog X.w) X.A (call (.builtin "min") [.ref a] [(Str.ofString "default", wd)]) _ _ s
  refine PySem.W.min_list_default (I.ok.hd hc) hl.isList (xs := ns.map PyData.int) (by simpa using hr) ?_ (by omega) (fun e h' tk hk => ?_) (fun y ys i v h' tk bs e hv hrd hk => ?_)
  · refine ⟨fun x hx y hy => ?_, fun x hx => ?_⟩
    · obtain ⟨i, _, rfl⟩ := List.mem_map.mp hx
      obtain ⟨j, _, rfl⟩ := List.mem_map.mp hy
      rfl
    · obtain ⟨i, _, rfl⟩ := List.mem_map.mp hx
      exact fun e => (by cases e)
  · have e0 : ns = [] := by cases ns with
      | nil => rfl
      | cons _ _ => cases e
    exact ⟨d, H, I.kept hk, rw', h0 e0⟩
  · cases ns with
    | nil => cases e
    | cons n r =>
      rw [List.map_cons] at e
      obtain ⟨rfl, rfl⟩ := List.cons.inj e
      rw [PySem.W.minD_ints] at hrd
      obtain ⟨f1, f2⟩ := foldl_min n r
      have hv2 : ∃ t, v = .int (r.foldl min n) t := by cases hrd; exact ⟨_, rfl⟩
      exact ⟨.int (r.foldl min n), H, I.kept hk, hv2, h1 _ f1 f2⟩
end
end EM
/-! d.setdefault(key, d) where the keys are tuples -/
namespace ED
open PySem PySem.Spec PyProof.Rows L2 SX
section
variable {X : Cx} {pins : List (Addr × Obj)} {σ : L2.St} {H : Hp} {s : Shared} {a b : Addr} {r : Value} {d : V} {k : List L2.Key} {A : Around} {E : Value → Shared → Prop}
theorem d_setdT {kvs : List (List L2.Key × V)} {Q : Value → Shared → Prop} (hu : A.units + 1 < cLine) (I : Inv X pins σ H s) (e : H a = some (.dT kvs)) (eb : H b = some (.tup (k.map kV))) (rd : RelV d r) (hl : kvs.length < sizeLine)
    (h1 : ∀ v, valV kvs k = some v → ∀ (w' : Value) (s' : Shared), Inv X pins σ H s' → RelV v w' → Q w' s') (h2 : valV kvs k = none → ∀ (w' : Value) (s' : Shared), Inv X pins σ (upd H a (.dT (putK kvs k d))) s' → RelV d w' → Q w' s') :
    wpAny (model X.prog X.w) A (call (.builtin "dict.setdefault") [.ref a, .ref b, r]) Q E s := by
  obtain ⟨z, hd, xs, rel, dd⟩ := dt_of I.hok e
  have hz : xs.length ≤ sizeLine := by rw [← Paired.length rel]; exact z
  have hl2 : (putK kvs k d).length ≤ sizeLine := by have := length_putK kvs k d; omega
  refine call_setdefault_heap (hsz := hz) (tupleKind_room_in1 hu) (key_of I.hok eb) hd dd (fun p hp => ?_) (fun hn h' dd' hs => ?_)
  · have r := rel.val k
    rw [hp] at r
    obtain ⟨v0, ev, rv⟩ : ∃ v0, valV kvs k = some v0 ∧ RelV v0 p.2 := by
      cases ev : valV kvs k with
      | none =>
        rw [ev] at r
        exact (show False from r).elim
      | some v0 =>
        rw [ev] at r
        exact ⟨v0, rfl, r⟩
    exact h1 v0 ev _ _ (I.tok _) rv
  · have r := rel.val k
    rw [hn] at r
    have ev : valV kvs k = none := by
      cases ev : valV kvs k with
      | none => rfl
      | some v0 =>
        rw [ev] at r
        exact (show False from r).elim
    refine h2 ev _ _ ?_ rd
    obtain ⟨q, es, ep, hq, g2, g3, g4, _, g5⟩ := dd'
    refine d_write I (by rw [e]; exact True.intro) hs ⟨q, hq⟩ ⟨hl2, hd, _, (rel.put k eb rd).keeps fun c ys ec => ?_, q, es, ep, hq, g2, g3, g4, g5⟩
    rw [upd_ne (ne_of ec e (fun z => nomatch z))]
    exact ec
end
/-- d.setdefault(y, z), the keys of d tuples -/
def tDSetdT (td ty tx : TE) : TE := fun σ H Q => td σ H fun x H1 => ∃ a, x = .ref a ∧ IsD H1 a ∧ ty σ H1 fun y H2 => tx σ H2 fun z H3 => ∃ (b : Addr) (kvs : List (List L2.Key × V)) (k : List L2.Key), H3 a = some (.dT kvs) ∧ y = .ref b ∧ H3 b = some (.tup (k.map kV)) ∧ kvs.length < sizeLine ∧
  (∀ v, valV kvs k = some v → Q v H3) ∧ (valV kvs k = none → Q z (upd H3 a (.dT (putK kvs k z))))
section
variable {X : Cx} {o e f : Expr} {td ty tx : TE} {apos cpos : Pos}
theorem pe_dsetdT (hu : X.A.units + 1 < cLine) (ho : PE X o td) (he : PE X e ty) (hf : PE X f tx) (m : M2 X o "setdefault" apos e f cpos) : PE X (.Call (.Attribute o "setdefault" apos) [e, f] [] cpos) (tDSetdT td ty tx) := by
  refine ⟨fun pins s σ H Q I h => ?_⟩
  refine wpAny_Call_method m.base m.few m.line PySem.F.plainAttrs_dict PySem.F.slot_dict_setdefault PySem.F.type_dict_setdefault (thn (ho.run pins s σ H _ I h) fun u s1 ⟨x, H1, I1, rx, a, ex, d, q1⟩ => ?_)
  subst ex
  obtain rfl : u = Value.ref a := rx
  obtain ⟨t1, t2, _⟩ := isD_at I1 d
  refine ⟨t1, t2, ?_⟩
  rw [m.trees]
  refine Calls.callWith_builtin rfl (Calls.evalArgs_plain (Calls.spliced_cons (thn (he.run pins s1 σ H1 _ I1 q1) fun iv s2 ⟨y, H2, I2, ry, q2⟩ =>
    Calls.spliced_cons (thn (hf.run pins s2 σ H2 _ I2 q2) fun fv s3 ⟨z, H3, I3, rz, b, kvs, k, ea, ey, eb, hl, q3, q4⟩ => Calls.spliced_nil ?_))))
  subst ey
  obtain rfl : iv = Value.ref b := ry
  exact d_setdT hu I3 ea eb rz hl (fun v hv w' s4 I4 rw' => ⟨v, _, I4, rw', q3 v hv⟩) fun hn w' s4 I4 rw' => ⟨z, _, I4, rw', q4 hn⟩
end
end ED
namespace Q07
open PySem PySem.Spec PyProof.Rows L2 SX HL DM
section
variable {P : Program} {w : World} {K : PySem.W.Frag} {mg : Str → Option Value} {base : Heap}
/-! ### lacking -/
/-- of the first j deeds of a row: those behind the count -/
def lackJ (R : Rows) (cn : Nat → Nat) (r j : Nat) : List Trip := (lackR R cn r).take (j - cn r)
theorem lackJ_next {R : Rows} {cn : Nat → Nat} {r j : Nat} {δ : Deed} (h : (R r)[j]? = some δ) : lackJ R cn r (j + 1) = lackJ R cn r j ++ (if cn r < j + 1 then [(r, j + 1, δ)] else []) := by
  unfold lackJ
  have hj : j < (R r).length := (List.getElem?_eq_some_iff.mp h).1
  by_cases q : cn r < j + 1
  · rw [if_pos q]
    have e1 : j + 1 - cn r = (j - cn r) + 1 := by omega
    have e2 : (lackR R cn r)[j - cn r]? = some (r, j + 1, δ) := by
      unfold lackR
      rw [List.getElem?_map, List.getElem?_range (by omega)]
      show some (r, cn r + (j - cn r) + 1, (R r).getD (cn r + (j - cn r)) (.back 0)) = _
      have e3 : cn r + (j - cn r) = j := by omega
      rw [e3, List.getD_eq_getElem?_getD, h]
      rfl
    rw [e1, List.take_add_one, e2]
    rfl
  · rw [if_neg q, List.append_nil]
    have e1 : j + 1 - cn r = j - cn r := by omega
    rw [e1]
def spLacking (cD : Addr) : Sp := fun vs H Q _ => ∃ (p c : Addr) (R : Rows) (k : Nat) (N : Addr → Prop) (cn : Nat → Nat), vs = [.ref p, .ref c] ∧ DeAt cD H p R k N ∧ Few R ∧ H c = some (.lst ((List.range 8).map fun j => vi (cn j))) ∧ (∀ j, cn j ≤ 1000) ∧
  ∀ H' l us, Same H H' → H' l = some (.lst us) → All2 (TripAt H') us (lackT R cn) → H l = none → Q (.ref l) H'
theorem ok_lacking {k : Nat} (Z : Defs K mg) : FnOk P w K mg base CX0 (k + 1) Z.fLacking Z.fdLacking ["deeds", "counts"] (spLacking Z.cDeeds) := by
  refine Z.DLacking.F.ok scLacking (fun vs H Q E h => ?_) (fun cdv A outer s H vs Q E hr h => ?_)
  · obtain ⟨p, c, R, kk, N, cn, rfl, _⟩ := h
    rfl
  · obtain ⟨p, c, R, kk, N, cn, rfl, ⟨du, A0, mk, en, rs, kvs, es, S1, _⟩, hF, hc, hcn, qq⟩ := h
    refine ⟨_, (pss_one (ps_ret (pe_lc2 (own := [("replica", 2), ("own", 3), ("place", 4), ("deed", 5)]) (vs1 := [4, 5]) (g := (gTup K 2 (gCons (gName 2) (gCons (gName 3) gNil)))) (g1 := (gTup K 2 (gCons (gName 4) (gCons (gName 5) gNil)))) (by rfl) scLacking.nd  (pi_enum (by rfl) Z.enumerate (pa_cons (pe_fld (pv 0) rfl) pa_nil)) (blkOk_by (own := [("replica", 2), ("own", 3), ("place", 4), ("deed", 5)]) (N := ["deeds", "counts", "replica", "own", "place", "deed"]) (sc := defScope sLacking) (by decide +kernel)) (by decide) (fun _ _ _ _ _ => (pg_tup rfl (pgs_cons (pg_name (i := 2) scLacking.nd rfl (.inl rfl)) (pgs_cons (pg_name (i := 3) scLacking.nd rfl (.inl rfl)) pgs_nil)))) (fun _ _ _ _ _ => pts_nil) (fun _ _ _ _ _ => (EK.pi_enum1K (K := K) rfl (by rfl) Z.enumerate (pv 3))) (fun _ _ _ _ _ => (pg_tup rfl (pgs_cons (pg_name (i := 4) scLacking.nd rfl (.inl rfl)) (pgs_cons (pg_name (i := 5) scLacking.nd rfl (.inl rfl)) pgs_nil)))) (fun _ _ _ _ _ => (pts_one (pt_cmpR op_gt (pv 4) (pe_ix (HL.ix_listK (K := K) rfl) (pv 1) (pv 2) (fun _ _ => rfl)) (nomark _)))) (fun _ _ _ _ _ => (pe_tup (pa_cons (pv 2) (pa_cons (pv 4) (pa_cons (pv 5) pa_nil)))))))), ?_⟩
    have big : 16777216 ≤ sizeLine := by decide +kernel
    refine ⟨_, rfl, p, Z.cDeeds, du, _, _, rfl, S1.hp, Z.CDeeds.cl, Z.nDeeds_rows, dflds_rows _ _ _, A0, _, rfl, SqL.of S1.hr.h, fun D hD => ?_⟩
    refine HC.wk_it walk_enum (fun i H' => Same H H' ∧ ∃ acc, H' D = some (.lst acc) ∧ All2 (TripAt H') acc ((List.range i).flatMap (lackR R cn)) ∧ acc.length ≤ 100 * i)
      ⟨same_upd hD, [], upd_same, .nil, Nat.le_refl _⟩ (fun i H' _ q => SqL.of (q.1 _ _ S1.hr.h)) ?_ ?_
    · rintro i x H1 H1' hi ⟨s1, acc, hD1, hacc, hal⟩ ⟨T, x1, x2, rfl, hT, rfl, e1, e2⟩
      obtain rfl : V.int (i : Nat) = x1 := Option.some.inj e1
      obtain ⟨ra, hra, rfl⟩ : ∃ ra, rs[i]? = some ra ∧ .ref ra = x2 := by
        replace e2 : (rs.map V.ref)[i]? = some x2 := e2
        rw [List.getElem?_map] at e2
        cases e : rs[i]? with
        | none => rw [e] at e2; cases e2
        | some t => rw [e] at e2; exact ⟨t, rfl, Option.some.inj e2⟩
      have hi8 : i < 8 := by have := (List.getElem?_eq_some_iff.mp hra).1; rw [S1.hr.n] at this; exact this
      obtain ⟨ur, hru, hrd⟩ := S1.hr.r i ra hra
      obtain ⟨hF1, hF2⟩ := hF i hi8
      have hur := hrd.len
      have ci : ((List.range 8).map fun j => vi (cn j))[i]? = some (vi (cn i)) := by
        rw [List.getElem?_map, List.getElem?_range hi8]; rfl
      have s2 : Same H1 (upd H1 T (.tup [.int (i : Nat), .ref ra])) := same_upd hT
      have g2 : upd H1 T (.tup [.int (i : Nat), .ref ra]) T = some (.tup [.int (i : Nat), .ref ra]) := upd_same
      generalize upd H1 T (.tup [.int (i : Nat), .ref ra]) = H2 at s2 g2
      have s02 := Same.tr s1 s2
      refine ⟨T, _, rfl, SqT.of g2, rfl, _, _, rfl, _, _, rfl, rfl, rfl, HC.yes (iteT ?_)⟩
      refine ⟨_, rfl, ra, ur, rfl, SqL.of (s02 _ _ hru), ?_⟩
      refine HC.wk_it EK.walk_e1 (fun j H' => Same H H' ∧ ∃ acc, H' D = some (.lst acc) ∧ All2 (TripAt H') acc ((List.range i).flatMap (lackR R cn) ++ lackJ R cn i j) ∧ acc.length ≤ 100 * i + j)
        ⟨s02, acc, s2 _ _ hD1, by
          have : lackJ R cn i 0 = [] := by unfold lackJ; rw [Nat.zero_sub, List.take_zero]
          rw [this, List.append_nil]
          exact hacc.mono fun v t h => TripAt.keep h (Same.tk s2), by omega⟩ (fun j H' _ q => SqL.of (q.1 _ _ hru)) ?_ ?_
      · clear hacc hD1 hal
        rintro j x H4 H4' hj ⟨s4, acc, hD4, hacc4, hal4⟩ ⟨T2, x1, x2, rfl, hT2, rfl, e1, e2⟩
        obtain rfl : V.int ((j + 1 : Nat) : Int) = x1 := Option.some.inj e1
        replace e2 : ur[j]? = some x2 := e2
        obtain ⟨δ, hδ, hdδ⟩ := hrd.get e2
        have hdδ : DeedAt H x2 δ := hdδ
        have s5 : Same H4 (upd H4 T2 (.tup [.int ((j + 1 : Nat) : Int), x2])) := same_upd hT2
        have g5 : upd H4 T2 (.tup [.int ((j + 1 : Nat) : Int), x2]) T2 = some (.tup [.int ((j + 1 : Nat) : Int), x2]) := upd_same
        generalize upd H4 T2 (.tup [.int ((j + 1 : Nat) : Int), x2]) = H5 at s5 g5
        have hnx := lackJ_next (cn := cn) hδ
        refine ⟨T2, _, rfl, SqT.of g5, rfl, _, _, rfl, _, _, rfl, rfl, rfl, ?_⟩
        refine ⟨_, rfl, _, rfl, _, rfl, c, _, _, vi (cn i), rfl, rfl, SqL.of (s5 _ _ (s4 _ _ hc)), atI_nat ci, ?_⟩
        have hacc5 := hacc4.mono fun v t h => TripAt.keep h (Same.tk s5)
        refine ⟨_, _, rfl, rfl, _, rfl, ite2 (fun e => ?_) (fun e => ?_)⟩
        · have h1 : ((cn i : Nat) : Int) < ((j + 1 : Nat) : Int) := of_decide_eq_true e
          rw [if_pos (by omega)] at hnx
          refine ⟨_, rfl, _, rfl, _, rfl, by show 3 ≤ sizeLine; decide, fun t ht => ?_⟩
          have s6 : Same H5 (upd H5 t (.tup [.int (i : Nat), .int ((j + 1 : Nat) : Int), x2])) := same_upd ht
          have g6 : upd H5 t (.tup [.int (i : Nat), .int ((j + 1 : Nat) : Int), x2]) t = some (.tup [vi i, vi (j + 1), x2]) := upd_same
          generalize upd H5 t (.tup [.int (i : Nat), .int ((j + 1 : Nat) : Int), x2]) = H6 at s6 g6
          have s06 := Same.tr s4 (Same.tr s5 s6)
          have hD6 := s6 _ _ (s5 _ _ hD4)
          have kD : TupK H6 (upd H6 D (.lst (acc ++ [.ref t]))) := tk_upd fun xs e => by rw [hD6] at e; cases e
          refine ⟨acc, hD6, by omega, same_up s06 hD, acc ++ [.ref t], upd_same, ?_, by rw [List.length_append]; show acc.length + 1 ≤ _; omega⟩
          rw [hnx, ← List.append_assoc]
          exact (hacc5.mono fun v t h => TripAt.keep (TripAt.keep h (Same.tk s6)) kD).app (.one ⟨t, x2, rfl, kD _ _ g6, (hdδ.keep (Same.tk s06)).keep kD⟩)
        · have h1 : ¬ ((cn i : Nat) : Int) < ((j + 1 : Nat) : Int) := fun z => e (decide_eq_true z)
          rw [if_neg (by omega), List.append_nil] at hnx
          exact ⟨Same.tr s4 s5, acc, s5 _ _ hD4, by rw [hnx]; exact hacc5, by omega⟩
      · rintro H4 ⟨s4, acc, hD4, hacc4, hal4⟩
        refine ⟨s4, acc, hD4, ?_, by omega⟩
        have e1 : lackJ R cn i ur.length = lackR R cn i := by
          unfold lackJ
          rw [List.take_of_length_le (by rw [lackR_len]; omega)]
        rw [e1] at hacc4
        rw [List.range_succ, List.flatMap_append]
        show All2 (TripAt H4) acc (_ ++ ([i] : List Nat).flatMap (lackR R cn))
        rw [List.flatMap_cons, List.flatMap_nil, List.append_nil]
        exact hacc4
    · rintro H1 ⟨s1, acc, hD1, hacc, hal⟩
      have e8 : (rs.map V.ref).length = 8 := by rw [List.length_map, S1.hr.n]
      rw [e8] at hacc
      exact qq H1 D acc s1 hD1 hacc hD
end
end Q07
namespace Q07
open PySem PySem.Spec PyProof.Rows L2 SX HL DM ND
section
variable {P : Program} {w : World} {K : PySem.W.Frag} {mg : Str → Option Value} {base : Heap}
/-! ### in_order -/
def kO (k : Option Mark) : NKey := k.map kM
theorem kO_inj {a b : Option Mark} (h : kO a = kO b) : a = b := by
  cases a with
  | none => cases b with
    | none => rfl
    | some _ => cases h
  | some x => cases b with
    | none => cases h
    | some y => rw [kM_inj (Option.some.inj h)]
/-- where a mark or None stands -/
def OA (H : Hp) : Option Addr → Option Mark → Prop
  | none, none => True
  | some a, some m => MkAt H (.ref a) m
  | _, _ => False
def OR (H : Hp) : Option (Option Addr) → Option (Option Mark) → Prop
  | none, none => True
  | some v, some m => OA H v m
  | _, _ => False
theorem OA.keep {H H' : Hp} (k : TupK H H') : ∀ {a : Option Addr} {m : Option Mark}, OA H a m → OA H' a m
  | none, none, _ => True.intro
  | some _, some _, h => MkAt.keep h k
theorem OR.keep {H H' : Hp} (k : TupK H H') : ∀ {a : Option (Option Addr)} {m : Option (Option Mark)}, OR H a m → OR H' a m
  | none, none, _ => True.intro
  | some _, some _, h => OA.keep k h
theorem omk_nk {H : Hp} {x : V} {b : Option Mark} (h : OMk H x b) : ∃ a, x = nV a ∧ NK H (kO b) a ∧ OA H a b := by
  cases b with
  | none => exact ⟨none, h, rfl, True.intro⟩
  | some m =>
    obtain ⟨t, e, ht⟩ : MkAt H x m := h
    exact ⟨some t, e, ⟨t, rfl, ht⟩, t, rfl, ht⟩
def spInOrder : Sp := fun vs H Q _ => ∃ (d : Addr) (kvs : List (List Key × V)) (R : Rows) (m : List Nat), vs = [.ref d] ∧ H d = some (.dT kvs) ∧ Good R ∧ (found R m).length ≤ 80000 ∧ kvs.map (·.1) = (marks R m).map kM ∧
  (∀ e ∈ found R m, ∃ bx, valV kvs (kM e.1) = some bx ∧ OMk H bx e.2.1) ∧
  ∀ H' l us es, Same H H' → H l = none → H' l = some (.lst us) → Srt R m es → All2 (MkAt H') us (order es) → Q (.ref l) H'
structure Fol (P : Program) (w : World) (H : Hp) (f : Addr) (ys : NY) (L : List Mark) (k : Nat) : Prop where
  h : H f = some (nHO P w f ys)
  ks : NKs H ys
  r : ∀ j, OR H (yAt ys (kO j)) (nxt L j)
  l : ys.length ≤ k
theorem Fol.keep {H H' : Hp} {f : Addr} {ys : NY} {L : List Mark} {k : Nat} (F : Fol P w H f ys L k) (s : Same H H') : Fol P w H' f ys L k :=
  ⟨s _ _ F.h, F.ks.keep fun b xs h => s _ _ h, fun j => (F.r j).keep (Same.tk s), F.l⟩
theorem ok_inOrder {k : Nat} (Z : Defs K mg) : FnOk P w K mg base CX0 (k + 1) Z.fInOrder Z.fdInOrder ["behinds"] spInOrder := by
  refine Z.DInOrder.F.ok scInOrder (fun vs H Q E h => ?_) (fun cdv A outer s H vs Q E hr h => ?_)
  · obtain ⟨d, kvs, R, m, rfl, _⟩ := h
    rfl
  · obtain ⟨d, kvs, R, m, rfl, hd, hG, hlen, hks, hval, qq⟩ := h
    refine ⟨_, (pss_cons (ps_set (i := 1) scInOrder.nd rfl (.inl rfl) (ND.pe_nnew (P := P) (w := w) rfl rfl (pps_cons pe_non pe_non pps_nil)))
        (pss_cons (ps_for PassesOwn.never rfl (pi_list (pe_callB (DM.call_sortedT rfl) (by rfl) Z.sorted PyProof.Rows.boot_sorted (pa_cons (pv 0) pa_nil))) (pg_name (i := 2) scInOrder.nd rfl (.inl rfl)) (pss_cons (ps_set (i := 3) scInOrder.nd rfl (.inl rfl) (pe_dget (hu_of hr) (pv 0) (pv 2) (fun _ _ => rfl)))
        (pss_one (ps_if (pt_cmp (ND.pc_nin (P := P) (w := w) rfl rfl (ND.hu2 hr) (pv 3) (pv 1))) (pss_cons (ND.ps_nput (P := P) (w := w) rfl rfl (ND.hu2 hr) (pv 1) (pv 2) (ND.pe_nget (P := P) (w := w) rfl rfl (ND.hu2 hr) (pv 1) (pv 3) (fun _ _ => rfl)) rfl)
        (pss_one (ND.ps_nput (P := P) (w := w) rfl rfl (ND.hu2 hr) (pv 1) (pv 3) (pv 2) rfl))) pss_nil))))
        (pss_cons (ps_set (i := 4) scInOrder.nd rfl (.inl rfl) (pe_lst pa_nil))
        (pss_cons (ps_set (i := 2) scInOrder.nd rfl (.inl rfl) (ND.pe_nget (P := P) (w := w) rfl rfl (ND.hu2 hr) (pv 1) pe_non (fun _ _ => rfl)))
        (pss_cons (ps_while PassesOwn.never (pt_cmp (pc_notN (pv 2))) (pss_cons (ps_expr (pe_bm PySem.F.plainAttrs_list PySem.F.slot_list_append PySem.F.type_list_append mt_append (pv 4) (pa_cons (pv 2) pa_nil)))
        (pss_one (ps_set (i := 2) scInOrder.nd rfl (.inl rfl) (ND.pe_nget (P := P) (w := w) rfl rfl (ND.hu2 hr) (pv 1) (pv 2) (fun _ _ => rfl))))))
        (pss_one (ps_ret (pv 4)))))))), ?_⟩
    have hsz : 161000 ≤ sizeLine := by decide
    refine fun f hf => ?_
    have s1 : Same H (upd H f (nHO P w f [(none, none, none)])) := same_upd hf
    have F1 : Fol P w (upd H f (nHO P w f [(none, none, none)])) f [(none, none, none)] [] 1 := by
      refine ⟨upd_same, fun y hy => by rw [List.mem_singleton.mp hy]; rfl, fun j => ?_, Nat.le_refl _⟩
      cases j with
      | none => exact True.intro
      | some x => exact True.intro
    generalize upd H f (nHO P w f [(none, none, none)]) = H1 at s1 F1
    refine ⟨_, rfl, d, kvs, marks R m, rfl, .inl (s1 _ _ hd), hks, fun p bs ms hp hperm hsort hbs => ⟨p, rfl, ⟨_, SqL.of upd_same⟩, ?_⟩⟩
    obtain ⟨es, hes, hS⟩ := srt_lift hG hperm hsort
    have s2 : Same H1 (upd H1 p (.lst (bs.map V.ref))) := same_upd hp
    have g2 : upd H1 p (.lst (bs.map V.ref)) p = some (.lst (bs.map V.ref)) := upd_same
    have F2 := F1.keep s2
    have hbs2 := hbs.mono fun v x h => h.keep (Same.tk s2)
    generalize upd H1 p (.lst (bs.map V.ref)) = H2 at s2 g2 F2 hbs2
    have s02 := Same.tr s1 s2
    have hesl : es.length ≤ 80000 := by rw [hS.perm.length_eq]; exact hlen
    have hbl : (bs.map V.ref).length = es.length := by rw [hbs2.len, ← hes, List.length_map]
    have npf : p ≠ f := fun e => by rw [e, F1.h] at hp; cases hp
    have ndf : d ≠ f := ne_of_none hd hf
    refine for_it walk_list (fun i σ H' => ∃ (y2 y3 : Option V) (ys : NY), σ = [some (.ref d), some (.ref f), y2, y3, none] ∧ ButL f H2 H' ∧ Fol P w H' f ys (order (es.take i)) (2 * i + 1))
      ⟨none, none, _, rfl, ButL.refl, F2⟩ (fun i σ H' _ ⟨_, _, _, _, b, _⟩ => SqL.of (b _ _ g2 npf)) ?_ ?_
    · rintro i x σ H3' H3 hi ⟨y2, y3, ys, rfl, b3, F3⟩ ⟨rfl, hx⟩
      obtain ⟨mk, hmk, hxm⟩ := hbs2.get hx
      have k3 : TupK H2 H3 := fun a o e => b3 _ _ e fun z => by rw [z, F2.h] at e; cases e
      obtain ⟨e, he, rfl⟩ : ∃ e, es[i]? = some e ∧ e.1 = mk := by
        rw [← hes, List.getElem?_map] at hmk
        cases q : es[i]? with
        | none => rw [q] at hmk; cases hmk
        | some e => rw [q] at hmk; exact ⟨e, rfl, Option.some.inj hmk⟩
      have hxm3 := hxm.keep k3
      obtain ⟨tb, rfl, htb⟩ : MkAt H3 x e.1 := hxm3
      obtain ⟨bx, hbx, hom⟩ := hval e (hS.perm.mem_iff.mp (List.mem_of_getElem? he))
      have hom3 : OMk H3 bx e.2.1 := (hom.keep (Same.tk s02)).keep k3
      obtain ⟨ab, rfl, hnk, hoa⟩ := omk_nk hom3
      have hi' : i < es.length := by omega
      obtain ⟨o1, o2, o3⟩ := order_facts hG hS i (by omega)
      obtain ⟨o4, o5⟩ := o3 e he
      have hr : OR H3 (yAt ys (kO e.2.1)) (nxt (order (es.take i)) e.2.1) := F3.r e.2.1
      have hnx : ∃ z, nxt (order (es.take i)) e.2.1 = some z := by
        cases q : e.2.1 with
        | none => exact ⟨_, rfl⟩
        | some y => exact ⟨_, if_pos (o5 y q)⟩
      obtain ⟨z, hz⟩ := hnx
      rw [hz] at hr
      obtain ⟨v, hv⟩ : ∃ v, yAt ys (kO e.2.1) = some v := by
        cases q : yAt ys (kO e.2.1) with
        | none => rw [q] at hr; exact hr.elim
        | some v => exact ⟨v, rfl⟩
      rw [hv] at hr
      have hkm : NK H3 (kO (some e.1)) (some tb) := ⟨tb, rfl, htb⟩
      refine ⟨_, rfl, _, rfl, d, nV ab, rfl, .inr ⟨kvs, kM e.1, tb, .inl (b3 _ _ (s02 _ _ hd) ndf), rfl, htb, hbx.symm⟩, ?_⟩
      refine ⟨_, rfl, _, rfl, f, ys, kO e.2.1, ab, rfl, rfl, F3.h, F3.ks, hnk, _, rfl, ?_⟩
      rw [hv]
      refine iteT ?_
      refine ⟨_, rfl, _, rfl, f, ys, kO e.2.1, ab, v, rfl, rfl, F3.h, F3.ks, hnk, hv, ?_⟩
      refine ⟨_, rfl, _, rfl, f, ys, kO (some e.1), some tb, v, rfl, rfl, rfl, F3.h, F3.ks, hkm, by have := F3.l; omega, ?_⟩
      have b4 : ButL f H3 (upd H3 f (nHO P w f (yPut ys (kO (some e.1)) (some tb) v))) := ButL.upd
      have g4 : upd H3 f (nHO P w f (yPut ys (kO (some e.1)) (some tb) v)) f = some (nHO P w f (yPut ys (kO (some e.1)) (some tb) v)) := upd_same
      have k4 : TupK H3 (upd H3 f (nHO P w f (yPut ys (kO (some e.1)) (some tb) v))) := tk_upd fun xs z => by rw [F3.h] at z; cases z
      generalize upd H3 f (nHO P w f (yPut ys (kO (some e.1)) (some tb) v)) = H4 at b4 g4 k4
      have ks4 : NKs H4 (yPut ys (kO (some e.1)) (some tb) v) := (F3.ks.put hkm).keep k4
      have l4 := yPut_len ys (kO (some e.1)) (some tb) v
      refine ⟨_, rfl, _, rfl, _, rfl, f, _, kO e.2.1, ab, some tb, rfl, rfl, rfl, g4, ks4, hnk.keep k4, by have := F3.l; omega, ?_⟩
      have b5 : ButL f H4 (upd H4 f (nHO P w f (yPut (yPut ys (kO (some e.1)) (some tb) v) (kO e.2.1) ab (some tb)))) := ButL.upd
      have k5 : TupK H4 (upd H4 f (nHO P w f (yPut (yPut ys (kO (some e.1)) (some tb) v) (kO e.2.1) ab (some tb)))) := tk_upd fun xs z => by rw [g4] at z; cases z
      have l5 := yPut_len (yPut ys (kO (some e.1)) (some tb) v) (kO e.2.1) ab (some tb)
      refine ⟨_, _, _, rfl, (b3.trans b4).trans b5, upd_same, (ks4.put (hnk.keep k4)).keep k5, fun j => ?_, by have := F3.l; omega⟩
      rw [take_snoc he, order_snoc]
      unfold mput
      rw [nxt_ins o1 o4 o5, yAt_put, yAt_put]
      by_cases c1 : j = e.2.1
      · rw [if_pos c1, if_pos (by rw [c1])]
        exact MkAt.keep ⟨tb, rfl, htb⟩ (k4.trans k5)
      · rw [if_neg c1, if_neg (fun z => c1 (kO_inj z))]
        by_cases c2 : j = some e.1
        · rw [if_pos c2, if_pos (by rw [c2]), hz]
          exact OA.keep (k4.trans k5) hr
        · rw [if_neg c2, if_neg (fun z => c2 (kO_inj z))]
          exact (F3.r j).keep (k4.trans k5)
    · rintro σ H3 ⟨y2, y3, ys, rfl, b3, F3⟩
      rw [hbl, List.take_length] at F3
      have s03 : Same H H3 := b3.same hf s02
      have hnd := (order_facts hG hS es.length (Nat.le_refl _)).1
      rw [List.take_length] at hnd
      have hol : (order es).length ≤ 80000 := by
        have := (order_facts hG hS es.length (Nat.le_refl _)).2.1
        rw [List.take_length] at this
        omega
      refine ⟨Nat.zero_le _, fun l hl => ?_⟩
      have s4 : Same H3 (upd H3 l (.lst [])) := same_upd hl
      have g4 : upd H3 l (.lst []) l = some (.lst []) := upd_same
      have F4 := F3.keep s4
      have hlH : H l = none := Same.none s03 hl
      generalize upd H3 l (.lst []) = H4 at s4 g4 F4
      have s04 := Same.tr s03 s4
      have nlf : l ≠ f := fun e => by rw [e, F3.h] at hl; cases hl
      have hr0 : OR H4 (yAt ys (kO none)) (some (order es)[0]?) := F4.r none
      obtain ⟨v, hv⟩ : ∃ v, yAt ys (kO none) = some v := by
        cases q : yAt ys (kO none) with
        | none => rw [q] at hr0; exact hr0.elim
        | some v => exact ⟨v, rfl⟩
      rw [hv] at hr0
      refine ⟨_, rfl, f, ys, kO none, none, v, rfl, rfl, F4.h, F4.ks, rfl, hv, ?_⟩
      refine ⟨fun n σ H' => ∃ (i : Nat) (v : Option Addr) (us : List V) (y3 : Option V), σ = [some (.ref d), some (.ref f), some (nV v), y3, some (.ref l)] ∧ n = (order es).length - i ∧ i ≤ (order es).length ∧ ButL l H4 H' ∧ H' l = some (.lst us) ∧ All2 (MkAt H') us ((order es).take i) ∧ OA H' v (order es)[i]?,
        ⟨_, 0, v, [], _, rfl, rfl, Nat.zero_le _, ButL.refl, g4, .nil, hr0⟩, ?_⟩
      rintro n σ H5 ⟨i, v, us, y3, rfl, rfl, hi, b5, g5, hus, hoa⟩
      have k5 : TupK H4 H5 := b5.tk g4
      refine ⟨_, rfl, ?_⟩
      cases q : (order es)[i]? with
      | none =>
        rw [q] at hoa
        cases v with
        | some a => exact hoa.elim
        | none =>
          refine ⟨_, rfl, iteF ?_⟩
          have hil : i = (order es).length := by
            have := List.getElem?_eq_none_iff.mp q
            omega
          rw [hil, List.take_length] at hus
          exact ⟨_, rfl, qq H5 l us es (b5.same hlH s04) hlH g5 hS hus⟩
      | some x =>
        rw [q] at hoa
        cases v with
        | none => exact hoa.elim
        | some a =>
          refine ⟨_, rfl, iteT ?_⟩
          have hlt : i < (order es).length := (List.getElem?_eq_some_iff.mp q).1
          have hr5 : OR H5 (yAt ys (kO (some x))) (nxt (order es) (some x)) := (F4.r (some x)).keep k5
          rw [nxt_at hnd q] at hr5
          obtain ⟨v', hv'⟩ : ∃ v', yAt ys (kO (some x)) = some v' := by
            cases q : yAt ys (kO (some x)) with
            | none => rw [q] at hr5; exact hr5.elim
            | some v => exact ⟨v, rfl⟩
          rw [hv'] at hr5
          refine ⟨fun σ' H' => ∃ (v : Option Addr) (us : List V) (y3 : Option V), σ' = [some (.ref d), some (.ref f), some (nV v), y3, some (.ref l)] ∧ ButL l H4 H' ∧ H' l = some (.lst us) ∧ All2 (MkAt H') us ((order es).take (i + 1)) ∧ OA H' v (order es)[i + 1]?, ?_, ?_⟩
          · rintro σ' H' ⟨v, us, y3, rfl, r1, r2, r3, r4⟩
            exact ⟨(order es).length - (i + 1), by omega, i + 1, v, us, y3, rfl, rfl, hlt, r1, r2, r3, r4⟩
          have hul : us.length ≤ 80000 := by rw [hus.len, List.length_take]; omega
          obtain ⟨ta, ea, hta⟩ : MkAt H5 (.ref a) x := hoa
          cases ea
          refine ⟨_, rfl, .inl ⟨rfl, _, SqL.of g5⟩, _, rfl, l, us, .ref a, rfl, rfl, g5, by omega, ?_⟩
          have b6 : ButL l H5 (upd H5 l (.lst (us ++ [.ref a]))) := ButL.upd
          have g6 : upd H5 l (.lst (us ++ [.ref a])) l = some (.lst (us ++ [.ref a])) := upd_same
          have k6 : TupK H5 (upd H5 l (.lst (us ++ [.ref a]))) := b6.tk g5
          generalize upd H5 l (.lst (us ++ [.ref a])) = H6 at b6 g6 k6
          refine ⟨_, rfl, _, rfl, f, ys, kO (some x), some a, v', rfl, rfl, b6 _ _ (b5 _ _ F4.h (fun e => nlf e.symm)) (fun e => nlf e.symm), (F4.ks.keep k5).keep k6, ⟨a, rfl, k6 _ _ hta⟩, hv', ?_⟩
          refine ⟨v', _, _, rfl, b5.trans b6, g6, ?_, hr5.keep k6⟩
          rw [take_snoc q]
          exact (hus.mono fun v e h => h.keep k6).snoc ⟨a, rfl, k6 _ _ hta⟩
end
end Q07
namespace Q07
open PySem PySem.Spec PyProof.Rows L2 SX HL DM ND
section
variable {P : Program} {w : World} {K : PySem.W.Frag} {mg : Str → Option Value} {base : Heap}
/-! ### _changes -/
def spDChanges (cD : Addr) : Sp := fun vs H Q _ => ∃ (p : Addr) (R : Rows) (k : Nat) (N : Addr → Prop) (m : List Nat), vs = [.ref p, .str (S m)] ∧ DeAt cD H p R k N ∧ Few R ∧
  ∀ H' l us, Same H H' → H l = none → H' l = some (.lst us) → All2 (ChgAt H') us (changes R m) → Q (.ref l) H'
theorem ok_changes {k : Nat} (Z : Defs K mg) : FnOk P w K mg base CX0 (k + 2) Z.fDeedsChanges Z.fdDeedsChanges ["self", "module"] (spDChanges Z.cDeeds) := by
  have GForces : FnOk P w K mg base CX0 (k + 1) Z.fForces Z.fdForces ["deeds"] spForces := ok_forces Z
  refine Z.DDeedsChanges.F.ok scDeedsChanges (fun vs H Q E h => ?_) (fun cdv A outer s H vs Q E hr h => ?_)
  · obtain ⟨p, R, kk, N, m, rfl, _⟩ := h
    rfl
  · obtain ⟨p, R, kk, N, m, rfl, ⟨du, A0, mk, en, rs, kvs, es, S1, _⟩, hF, qq⟩ := h
    refine ⟨_, (pss_one (ps_ret (pe_lc2 (own := [("replica", 2), ("deeds", 3), ("deed", 4), ("stands", 5)]) (vs1 := [4, 5]) (g := (gTup K 2 (gCons (gName 2) (gCons (gName 3) gNil)))) (g1 := (gTup K 2 (gCons (gName 4) (gCons (gName 5) gNil)))) (by rfl) scDeedsChanges.nd  (pi_enum (by rfl) Z.enumerate (pa_cons (pe_fld (pv 0) rfl) pa_nil)) (blkOk_by (own := [("replica", 2), ("deeds", 3), ("deed", 4), ("stands", 5)]) (N := ["self", "module", "replica", "deeds", "deed", "stands"]) (sc := defScope sDeedsChanges) (by decide +kernel)) (by decide) (fun _ _ _ _ _ => (pg_tup rfl (pgs_cons (pg_name (i := 2) scDeedsChanges.nd rfl (.inl rfl)) (pgs_cons (pg_name (i := 3) scDeedsChanges.nd rfl (.inl rfl)) pgs_nil)))) (fun _ _ _ _ _ => pts_nil) (fun _ _ _ _ _ => (HC.pi_zipK (K := K) rfl (by rfl) Z.zip (pa_cons (pv 3) (pa_cons (pe_call GForces (hr.mono (by omega)) (by rfl) Z.DForces.g Z.DForces.F.kp Z.DForces.b .nil pass0 (pa_cons (pv 3) pa_nil)) pa_nil)))) (fun _ _ _ _ _ => (pg_tup rfl (pgs_cons (pg_name (i := 4) scDeedsChanges.nd rfl (.inl rfl)) (pgs_cons (pg_name (i := 5) scDeedsChanges.nd rfl (.inl rfl)) pgs_nil)))) (fun _ _ _ _ _ => (pts_one (PW.pt (pw_and (pt_cmpR op_eq (pe_ix (HL.ix_tupK (K := K) rfl) (pv 4) pe_int (fun _ _ => rfl)) pe_str (nomark _)) (pw_and1 (pt_cmpR op_eq (pe_ix (HL.ix_tupK (K := K) rfl) (pv 4) pe_int (fun _ _ => rfl)) (pv 1) (nomark _))))))) (fun _ _ _ _ _ => (pe_tup (pa_cons (pv 2) (pa_cons (pv 4) (pa_cons (pv 5) pa_nil)))))))), ?_⟩
    refine ⟨_, rfl, p, Z.cDeeds, du, _, _, rfl, S1.hp, Z.CDeeds.cl, Z.nDeeds_rows, dflds_rows _ _ _, A0, _, rfl, SqL.of S1.hr.h, fun D hD => ?_⟩
    refine HC.wk_it walk_enum (fun i H' => Same H H' ∧ ∃ acc, H' D = some (.lst acc) ∧ All2 (ChgAt H') acc ((List.range i).flatMap (chR R m)))
      ⟨same_upd hD, [], upd_same, .nil⟩ (fun i H' _ q => SqL.of (q.1 _ _ S1.hr.h)) ?_ ?_
    · rintro i x H1 H1' hi ⟨s1, acc, hD1, hacc⟩ ⟨T, x1, x2, rfl, hT, rfl, e1, e2⟩
      obtain rfl : V.int (i : Nat) = x1 := Option.some.inj e1
      obtain ⟨ra, hra, rfl⟩ : ∃ ra, rs[i]? = some ra ∧ .ref ra = x2 := by
        replace e2 : (rs.map V.ref)[i]? = some x2 := e2
        rw [List.getElem?_map] at e2
        cases e : rs[i]? with
        | none => rw [e] at e2; cases e2
        | some t => rw [e] at e2; exact ⟨t, rfl, Option.some.inj e2⟩
      have hi8 : i < 8 := by have := (List.getElem?_eq_some_iff.mp hra).1; rw [S1.hr.n] at this; exact this
      obtain ⟨ur, hru, hrd⟩ := S1.hr.r i ra hra
      obtain ⟨hF1, hF2⟩ := hF i hi8
      have hur := hrd.len
      have s2 : Same H1 (upd H1 T (.tup [.int (i : Nat), .ref ra])) := same_upd hT
      have g2 : upd H1 T (.tup [.int (i : Nat), .ref ra]) T = some (.tup [.int (i : Nat), .ref ra]) := upd_same
      generalize upd H1 T (.tup [.int (i : Nat), .ref ra]) = H2 at s2 g2
      have s02 := Same.tr s1 s2
      refine ⟨T, _, rfl, SqT.of g2, rfl, _, _, rfl, _, _, rfl, rfl, rfl, HC.yes (iteT ?_)⟩
      refine ⟨_, rfl, _, rfl, ra, ur, R i, rfl, s02 _ _ hru, hrd.mono fun v d h => h.keep (Same.tk s02), hF1, hF2, fun H3 fl s3 hfl0 hfl => ?_⟩
      have s03 := Same.tr s02 s3
      have nfD : fl ≠ D := fun e => by rw [e, s2 _ _ hD1] at hfl0; cases hfl0
      have hz0 : ((R i).zip (forces (R i))).length = ur.length := by rw [List.length_zip, forces_len, Nat.min_self, hur]
      refine ⟨ra, fl, _, _, rfl, SqL.of (s03 _ _ hru), SqL.of hfl, ?_⟩
      refine HC.wk_it (walk_zip (n := ur.length) (by rw [List.length_map, forces_len, hur, Nat.min_self])) (fun j H' => Same H H' ∧ H' fl = some (.lst ((forces (R i)).map V.bl)) ∧ ∃ acc, H' D = some (.lst acc) ∧
          All2 (ChgAt H') acc ((List.range i).flatMap (chR R m) ++ ((((R i).zip (forces (R i))).take j).filter fun df => isCh m df.1).map fun df => (i, df.1, df.2)))
        ⟨s03, hfl, acc, s3 _ _ (s2 _ _ hD1), by simpa using hacc.mono fun v c h => h.keep (Same.tk (Same.tr s2 s3))⟩ (fun j H' _ q => ⟨SqL.of (q.1 _ _ hru), SqL.of q.2.1⟩) ?_ ?_
      · clear hacc hD1 hfl hfl0
        rintro j x H4 H4' hj ⟨s4, hfl4, acc, hD4, hacc4⟩ ⟨T2, x1, x2, rfl, hT2, rfl, e1, e2⟩
        have hj' : j < (R i).length := by omega
        obtain ⟨d, hd⟩ : ∃ d, (R i)[j]? = some d := ⟨_, List.getElem?_eq_getElem hj'⟩
        obtain ⟨b, hb⟩ : ∃ b, (forces (R i))[j]? = some b := ⟨_, List.getElem?_eq_getElem (by rw [forces_len]; exact hj')⟩
        obtain ⟨x, hx, hdx⟩ := hrd.getR hd
        replace e1 : ur[j]? = some x1 := e1
        replace e2 : ((forces (R i)).map V.bl)[j]? = some x2 := e2
        rw [hx] at e1
        obtain rfl := Option.some.inj e1
        rw [List.getElem?_map, hb] at e2
        obtain rfl : V.bl b = x2 := Option.some.inj e2
        have hz : ((R i).zip (forces (R i)))[j]? = some (d, b) := by rw [List.getElem?_zip_eq_some]; exact ⟨hd, hb⟩
        have s5 : Same H4 (upd H4 T2 (.tup [x, .bl b])) := same_upd hT2
        have g5 : upd H4 T2 (.tup [x, .bl b]) T2 = some (.tup [x, .bl b]) := upd_same
        generalize upd H4 T2 (.tup [x, .bl b]) = H5 at s5 g5
        have d5 := hdx.keep (Same.tk (Same.tr s4 s5))
        have hacc5 := hacc4.mono fun v c h => h.keep (Same.tk s5)
        refine ⟨T2, _, rfl, SqT.of g5, rfl, _, _, rfl, _, _, rfl, rfl, rfl, ?_⟩
        have hno : isCh m d = false → Same H H5 ∧ H5 fl = some (.lst ((forces (R i)).map V.bl)) ∧ ∃ acc, H5 D = some (.lst acc) ∧ All2 (ChgAt H5) acc ((List.range i).flatMap (chR R m) ++ ((((R i).zip (forces (R i))).take (j + 1)).filter fun df => isCh m df.1).map fun df => (i, df.1, df.2)) := fun hm => by
          refine ⟨Same.tr s4 s5, s5 _ _ hfl4, acc, s5 _ _ hD4, ?_⟩
          rw [take_snoc hz, List.filter_append]
          have : ([(d, b)].filter fun df : Deed × Bool => isCh m df.1) = [] := by simp [hm]
          rw [this, List.append_nil]
          exact hacc5
        cases d with
        | back n =>
          obtain ⟨td, rfl, htd⟩ := d5
          exact ⟨_, rfl, td, _, 0, _, rfl, rfl, SqT.of htd, rfl, rfl, _, rfl, iteF (iteF (hno rfl))⟩
        | change m' rem b' n t =>
          have d5' := d5
          obtain ⟨td, tr, um, bx, rfl, htd, _⟩ := d5
          refine ⟨_, rfl, td, _, 0, _, rfl, rfl, SqT.of htd, rfl, rfl, _, rfl, iteT ?_⟩
          refine ⟨_, rfl, td, _, 1, _, rfl, rfl, SqT.of htd, rfl, _, rfl, rfl, decide (m' = m), congrArg V.bl (str_eq m' m), ?_⟩
          by_cases c : m' = m
          · rw [decide_eq_true c]
            have hul : acc.length ≤ 900 := by
              rw [hacc4.len, List.length_append, List.length_map]
              have h1 := List.length_filter_le (fun df : Deed × Bool => isCh m df.1) (((R i).zip (forces (R i))).take j)
              rw [List.length_take] at h1
              have h2 := flat_len (l := List.range i) (f := chR R m) (k := 100) fun r' hr' => by
                unfold chR
                rw [List.length_map]
                refine Nat.le_trans (List.length_filter_le ..) ?_
                rw [List.length_zip, forces_len, Nat.min_self]
                exact (hF r' (by have := List.mem_range.mp hr'; omega)).1
              rw [List.length_range] at h2
              omega
            refine iteT ⟨_, rfl, _, rfl, _, rfl, (by show 3 ≤ sizeLine; decide), fun t1 ht1 => ?_⟩
            have s6 : Same H5 (upd H5 t1 (.tup [.int (i : Nat), .ref td, .bl b])) := same_upd ht1
            have g6 : upd H5 t1 (.tup [.int (i : Nat), .ref td, .bl b]) t1 = some (.tup [vi i, .ref td, .bl b]) := upd_same
            generalize upd H5 t1 (.tup [.int (i : Nat), .ref td, .bl b]) = H6 at s6 g6
            have hD6 := s6 _ _ (s5 _ _ hD4)
            have k7 : TupK H6 (upd H6 D (.lst (acc ++ [.ref t1]))) := tk_upd fun xs e => by rw [hD6] at e; cases e
            have k57 := (Same.tk s6).trans k7
            refine ⟨acc, hD6, Nat.lt_of_le_of_lt hul (by decide), fun z o hz => by rw [upd_ne (ne_of_none hz hD)]; exact s6 _ _ (s5 _ _ (s4 _ _ hz)), by rw [upd_ne nfD]; exact s6 _ _ (s5 _ _ hfl4), acc ++ [.ref t1], upd_same, ?_⟩
            rw [take_snoc hz, List.filter_append]
            have : ([(Deed.change m' rem b' n t, b)].filter fun df : Deed × Bool => isCh m df.1) = [(Deed.change m' rem b' n t, b)] := by simp [isCh, c]
            rw [this, List.map_append, ← List.append_assoc]
            exact (hacc5.mono fun v c h => h.keep k57).snoc ⟨t1, .ref td, rfl, k7 _ _ g6, d5'.keep k57⟩
          · rw [decide_eq_false c]
            exact iteF (hno (by simp [isCh, c]))
      · rintro H4 ⟨s4, _, acc, hD4, hacc4⟩
        refine ⟨s4, acc, hD4, ?_⟩
        rw [← hz0, List.take_length] at hacc4
        rw [List.range_succ, List.flatMap_append, List.flatMap_singleton]
        exact hacc4
    · rintro H1 ⟨s1, acc, hD1, hacc⟩
      rw [List.length_map, S1.hr.n] at hacc
      exact qq H1 D acc s1 hD hD1 hacc
end
end Q07
namespace DM
open PySem PySem.Spec PyProof.Rows L2 SX HL
/-! ## what a row's three dicts hold -/
structure Tab (H : Hp) (kc kb : List (List Key × V)) (E : List EntF) : Prop where
  ck : kc.map (·.1) = E.map fun e => kM e.1
  cv : ∀ e ∈ E, valV kc (kM e.1) = some (.str (S [e.2.2.1]))
  bk : kb.map (·.1) = E.map fun e => kM e.1
  bv : ∀ e ∈ E, ∃ bx, valV kb (kM e.1) = some bx ∧ OMk H bx e.2.1
theorem Tab.nil (H : Hp) : Tab H [] [] [] := ⟨rfl, fun e h => (by cases h), rfl, fun e h => (by cases h)⟩
theorem Tab.keep {H H' : Hp} {kc kb : List (List Key × V)} {E : List EntF} (T : Tab H kc kb E) (k : TupK H H') : Tab H' kc kb E :=
  ⟨T.ck, T.cv, T.bk, fun e he => by obtain ⟨bx, h1, h2⟩ := T.bv e he; exact ⟨bx, h1, h2.keep k⟩⟩
theorem no_key {ks : List (List Key × V)} {E : List EntF} {x : Mark} (h : ks.map (·.1) = E.map fun e => kM e.1) (hx : x ∉ E.map (·.1)) : valV ks (kM x) = none := by
  cases q : valV ks (kM x) with
  | none => rfl
  | some v =>
    have h1 := valV_any (kM x) ks
    rw [q] at h1
    obtain ⟨kv, hkv, e⟩ := List.any_eq_true.mp h1
    have e' := of_decide_eq_true e
    have : kM x ∈ ks.map (·.1) := List.mem_map.mpr ⟨kv, hkv, e'⟩
    rw [h] at this
    obtain ⟨y, hy, ey⟩ := List.mem_map.mp this
    exact absurd (List.mem_map.mpr ⟨y, hy, kM_inj ey⟩) hx
theorem Tab.step {H : Hp} {kc kb : List (List Key × V)} {E : List EntF} (T : Tab H kc kb E) {e : EntF} {bx : V} (hx : e.1 ∉ E.map (·.1)) (hb : OMk H bx e.2.1) :
    Tab H (putK kc (kM e.1) (.str (S [e.2.2.1]))) (putK kb (kM e.1) bx) (E ++ [e]) := by
  have n1 := no_key T.ck hx
  have n2 := no_key T.bk hx
  refine ⟨by rw [putK_new _ n1, List.map_append, List.map_append, T.ck]; rfl, fun e' he' => ?_, by rw [putK_new _ n2, List.map_append, List.map_append, T.bk]; rfl, fun e' he' => ?_⟩
  · rw [valV_put]
    rcases List.mem_append.mp he' with h | h
    · rw [if_neg (fun z => hx (by rw [← kM_inj z]; exact List.mem_map_of_mem h))]
      exact T.cv e' h
    · rw [List.mem_singleton.mp h, if_pos rfl]
  · rw [valV_put]
    rcases List.mem_append.mp he' with h | h
    · rw [if_neg (fun z => hx (by rw [← kM_inj z]; exact List.mem_map_of_mem h))]
      exact T.bv e' h
    · rw [List.mem_singleton.mp h, if_pos rfl]
      exact ⟨bx, rfl, hb⟩
structure Hid (kh : List (List Key × V)) (E : List EntF) (rm : List Mark) : Prop where
  i : ∀ x, (valV kh (kM x)).isSome = true ↔ (∃ e ∈ E, e.1 = x ∧ e.2.2.2 = false) ∨ x ∈ rm
  l : kh.length ≤ E.length + rm.length
theorem Hid.nil : Hid [] [] [] := ⟨fun x => ⟨fun h => (by cases h), fun h => h.elim (fun ⟨_, h, _⟩ => (by cases h)) fun h => (by cases h)⟩, Nat.le_refl _⟩
theorem put_isSome {ks : List (List Key × V)} {x y : Mark} {v : V} : (valV (putK ks (kM x) v) (kM y)).isSome = true ↔ y = x ∨ (valV ks (kM y)).isSome = true := by
  rw [valV_put]
  by_cases e : y = x
  · rw [if_pos (by rw [e])]
    exact ⟨fun _ => .inl e, fun _ => rfl⟩
  · rw [if_neg (fun z => e (kM_inj z))]
    exact ⟨.inr, fun h => h.resolve_left e⟩
/-- a character that stands -/
theorem Hid.stands {kh : List (List Key × V)} {E : List EntF} {rm : List Mark} (T : Hid kh E rm) {e : EntF} (h : e.2.2.2 = true) : Hid kh (E ++ [e]) rm := by
  refine ⟨fun x => ?_, by have := T.l; rw [List.length_append]; omega⟩
  rw [T.i]
  refine or_congr ⟨fun ⟨e', h1, h2⟩ => ⟨e', List.mem_append_left _ h1, h2⟩, fun ⟨e', h1, h2, h3⟩ => ?_⟩ Iff.rfl
  rcases List.mem_append.mp h1 with h1 | h1
  · exact ⟨e', h1, h2, h3⟩
  · rw [List.mem_singleton.mp h1, h] at h3
    cases h3
theorem Hid.falls {kh : List (List Key × V)} {E : List EntF} {rm : List Mark} {v : V} (T : Hid kh E rm) {e : EntF} (h : e.2.2.2 = false) : Hid (putK kh (kM e.1) v) (E ++ [e]) rm := by
  refine ⟨fun x => ?_, by have := T.l; have := length_putK kh (kM e.1) v; rw [List.length_append, List.length_singleton]; omega⟩
  rw [put_isSome, T.i]
  constructor
  · rintro (h1 | ⟨e', h1, h2⟩ | h1)
    · exact .inl ⟨e, List.mem_append_right _ (List.mem_singleton.mpr rfl), h1.symm, h⟩
    · exact .inl ⟨e', List.mem_append_left _ h1, h2⟩
    · exact .inr h1
  · rintro (⟨e', h1, h2, h3⟩ | h1)
    · rcases List.mem_append.mp h1 with h1 | h1
      · exact .inr (.inl ⟨e', h1, h2, h3⟩)
      · rw [List.mem_singleton.mp h1] at h2
        exact .inl h2.symm
    · exact .inr (.inr h1)
theorem Hid.removed {kh : List (List Key × V)} {E : List EntF} {rm : List Mark} {v : V} (T : Hid kh E rm) (x : Mark) : Hid (putK kh (kM x) v) E (rm ++ [x]) := by
  refine ⟨fun y => ?_, by have := T.l; have := length_putK kh (kM x) v; rw [List.length_append, List.length_singleton]; omega⟩
  rw [put_isSome, T.i, List.mem_append, List.mem_singleton]
  constructor
  · rintro (h1 | h1 | h1)
    · exact .inr (.inr h1)
    · exact .inl h1
    · exact .inr (.inl h1)
  · rintro (h1 | h1 | h1)
    · exact .inr (.inl h1)
    · exact .inr (.inr h1)
    · exact .inl h1
/-- a new entry's mark is new -/
theorem new_ent {R : Rows} (G : Good R) {m : List Nat} {E : List EntF} {e : EntF} (h : (E ++ [e]) <+: found R m) : e.1 ∉ E.map (·.1) := by
  have nd : ((found R m).map fun e : EntF => e.1).Nodup := marks_nodup G m
  have h1 := nd.sublist ((h.sublist).map fun e : EntF => e.1)
  rw [List.map_append, List.nodup_append] at h1
  intro hm
  exact h1.2.2 e.1 hm e.1 (by simp) rfl
theorem pre_flat {α β : Type} (f : α → List β) (l : List α) (i : Nat) : (l.take i).flatMap f <+: l.flatMap f := by
  refine ⟨(l.drop i).flatMap f, ?_⟩
  rw [← List.flatMap_append, List.take_append_drop]
theorem seen_eq {R : Rows} (G : Good R) {m : List Nat} {kh : List (List Key × V)} (T : Hid kh (found R m) (removed R m)) {e : EntF} (he : e ∈ found R m) : (!(valV kh (kM e.1)).isSome) = (e.2.2.2 && !decide (e.1 ∈ removed R m)) := by
  have nd : ((found R m).map fun e : EntF => e.1).Nodup := marks_nodup G m
  have hi := T.i e.1
  have uniq : ∀ e' ∈ found R m, e'.1 = e.1 → e' = e := fun e' h1 h2 => by
    obtain ⟨i, hi⟩ := List.mem_iff_getElem?.mp h1
    obtain ⟨j, hj⟩ := List.mem_iff_getElem?.mp he
    have a : ((found R m).map fun e : EntF => e.1)[i]? = some e.1 := by rw [List.getElem?_map, hi]; exact congrArg some h2
    have b : ((found R m).map fun e : EntF => e.1)[j]? = some e.1 := by rw [List.getElem?_map, hj]; rfl
    have := (List.getElem?_inj (List.getElem?_eq_some_iff.mp a).1 nd).mp (a.trans b.symm)
    subst this
    rw [hi] at hj
    exact Option.some.inj hj
  cases hf : e.2.2.2 with
  | false =>
    have : (valV kh (kM e.1)).isSome = true := hi.mpr (.inl ⟨e, he, rfl, hf⟩)
    rw [this]
    rfl
  | true =>
    by_cases hr : e.1 ∈ removed R m
    · have : (valV kh (kM e.1)).isSome = true := hi.mpr (.inr hr)
      rw [this, decide_eq_true hr]
      rfl
    · have : ¬ (valV kh (kM e.1)).isSome = true := fun h => by
        rcases hi.mp h with ⟨e', h1, h2, h3⟩ | h
        · rw [uniq e' h1 h2, hf] at h3
          cases h3
        · exact hr h
      rw [Bool.not_eq_true] at this
      rw [this, decide_eq_false hr]
      rfl
end DM
namespace Q07
open PySem PySem.Spec PyProof.Rows L2 SX HL DM ND
section
variable {P : Program} {w : World} {K : PySem.W.Frag} {mg : Str → Option Value} {base : Heap}
/-! ### row -/
def But3 (a b c : Addr) (H H' : Hp) : Prop := ∀ z o, H z = some o → z ≠ a → z ≠ b → z ≠ c → H' z = some o
theorem But3.tk {a b c : Addr} {H H' : Hp} {x y z : List (List Key × V)} (h1 : H a = some (.dT x)) (h2 : H b = some (.dT y)) (h3 : H c = some (.dT z)) (h : But3 a b c H H') : TupK H H' := fun q o e =>
  h q _ e (fun z => by rw [z, h1] at e; cases e) (fun z => by rw [z, h2] at e; cases e) (fun z => by rw [z, h3] at e; cases e)
structure RSt (a b c : Addr) (H0 H : Hp) (E : List EntF) (rm : List Mark) : Prop where
  k : But3 a b c H0 H
  x : ∃ kc kb kh, H a = some (.dT kc) ∧ H b = some (.dT kb) ∧ H c = some (.dT kh) ∧ Tab H kc kb E ∧ Hid kh E rm
theorem RSt.same {a b c : Addr} {H0 H H' : Hp} {E : List EntF} {rm : List Mark} (R : RSt a b c H0 H E rm) (s : Same H H') : RSt a b c H0 H' E rm := by
  obtain ⟨kc, kb, kh, h1, h2, h3, h4, h5⟩ := R.x
  exact ⟨fun z o h n1 n2 n3 => s _ _ (R.k z o h n1 n2 n3), kc, kb, kh, s _ _ h1, s _ _ h2, s _ _ h3, h4.keep (Same.tk s), h5⟩
/-- a further character is hidden -/
theorem RSt.hide {a b c : Addr} {H0 H : Hp} (nac : a ≠ c) (nbc : b ≠ c) {kc kb kh kh' : List (List Key × V)} {E' : List EntF} {rm' : List Mark} (k : But3 a b c H0 H) (h1 : H a = some (.dT kc)) (h2 : H b = some (.dT kb)) (h3 : H c = some (.dT kh)) (h4 : Tab H kc kb E') (h5 : Hid kh' E' rm') :
    RSt a b c H0 (upd H c (.dT kh')) E' rm' := by
  have t : TupK H (upd H c (.dT kh')) := tk_upd fun xs e => by rw [h3] at e; cases e
  exact ⟨fun z o h n1 n2 n3 => by rw [upd_ne n3]; exact k z o h n1 n2 n3, kc, kb, kh', by rw [upd_ne nac]; exact h1, by rw [upd_ne nbc]; exact h2, upd_same, h4.keep t, h5⟩
def spDRow (cD : Addr) : Sp := fun vs H Q _ => ∃ (p : Addr) (R : Rows) (k : Nat) (N : Addr → Prop) (m : List Nat), vs = [.ref p, .str (S m)] ∧ DeAt cD H p R k N ∧ Good R ∧ Few R ∧
  ∀ H' l us es, Same H H' → H l = none → H' l = some (.lst us) → Srt R m es → All2 (CelP H') us (build (removed R m) es) → Q (.ref l) H'
theorem DeAt.same {cD : Addr} {H H' : Hp} {p : Addr} {R : Rows} {k : Nat} {N : Addr → Prop} (D : DeAt cD H p R k N) (s : Same H H') : DeAt cD H' p R k N := by
  obtain ⟨du, A0, mk, en, rs, kvs, es, S1, E1, M1⟩ := D
  exact ⟨du, A0, mk, en, rs, kvs, es, S1.same s, E1.stay fun b ps h => s _ _ h, M1⟩
theorem ok_row {k : Nat} (Z : Defs K mg) : FnOk P w K mg base CX0 (k + 3) Z.fDeedsRow Z.fdDeedsRow ["self", "module"] (spDRow Z.cDeeds) := by
  have GDeedsChanges : FnOk P w K mg base CX0 (k + 2) Z.fDeedsChanges Z.fdDeedsChanges ["self", "module"] (spDChanges Z.cDeeds) := ok_changes Z
  have GInserted : FnOk P w K mg base CX0 (k + 1) Z.fInserted Z.fdInserted ["replica", "deed"] (spIns EntP) := ok_inserted Z
  have GInOrder : FnOk P w K mg base CX0 (k + 1) Z.fInOrder Z.fdInOrder ["behinds"] spInOrder := ok_inOrder Z
  refine Z.DDeedsRow.F.ok scDeedsRow (fun vs H Q E h => ?_) (fun cdv A outer s H vs Q E hr h => ?_)
  · obtain ⟨p, R, kk, N, m, rfl, _⟩ := h
    rfl
  · obtain ⟨p, R, kk, N, m, rfl, D0, hG, hF, qq⟩ := h
    refine ⟨_, (pss_cons (ps_set (i := 2) scDeedsRow.nd rfl (.inr rfl) pe_dnewT)
        (pss_cons (ps_set (i := 3) scDeedsRow.nd rfl (.inl rfl) pe_dnewT)
        (pss_cons (ps_set (i := 4) scDeedsRow.nd rfl (.inr rfl) pe_dnewT)
        (pss_cons (ps_for PassesOwn.never rfl (pi_list (pe_meth (pv 0) Z.CDeeds.cl Z.DDeedsChanges.m GDeedsChanges (hr.mono (by omega)) Z.DDeedsChanges.b .nil pass0 (pa_cons (pv 1) pa_nil))) (pg_tup rfl (pgs_cons (pg_name (i := 5) scDeedsRow.nd rfl (.inl rfl)) (pgs_cons (pg_name (i := 6) scDeedsRow.nd rfl (.inl rfl)) (pgs_cons (pg_name (i := 7) scDeedsRow.nd rfl (.inl rfl)) pgs_nil)))) (pss_cons (ps_for PassesOwn.never rfl (pi_list (pe_call GInserted (hr.mono (by omega)) (by rfl) Z.DInserted.g Z.DInserted.F.kp Z.DInserted.b .nil pass0 (pa_cons (pv 5) (pa_cons (pv 6) pa_nil)))) (pg_tup rfl (pgs_cons (pg_name (i := 8) scDeedsRow.nd rfl (.inl rfl)) (pgs_cons (pg_name (i := 9) scDeedsRow.nd rfl (.inl rfl)) (pgs_cons (pg_name (i := 10) scDeedsRow.nd rfl (.inl rfl)) pgs_nil)))) (pss_cons (ps_dput (hu_of hr) (pv 2) (pv 8) (pv 9) rfl)
        (pss_cons (ps_dput (hu_of hr) (pv 3) (pv 8) (pv 10) rfl)
        (pss_one (ps_if (pt_not (pt_val (pv 7))) (pss_one (ps_dput (hu_of hr) (pv 4) (pv 8) pe_bl rfl)) pss_nil)))))
        (pss_one (ps_if (pt_val (pv 7)) (pss_one (ps_for PassesOwn.never rfl (pi_tup (pe_ix ix_tup (pv 6) pe_int (fun _ _ => rfl))) (pg_name (i := 8) scDeedsRow.nd rfl (.inl rfl)) (pss_one (ps_dput (hu_of hr) (pv 4) (pv 8) pe_bl rfl)))) pss_nil))))
        (pss_one (ps_ret (pe_lc (own := [("mark", 8)]) (g := (gName 8)) (by rfl) scDeedsRow.nd (pi_list (pe_call GInOrder (hr.mono (by omega)) (by rfl) Z.DInOrder.g Z.DInOrder.F.kp Z.DInOrder.b .nil pass0 (pa_cons (pv 3) pa_nil))) (blkOk_by (own := [("mark", 8)]) (N := ["self", "module", "characters", "behinds", "hidden", "replica", "deed", "stands", "mark", "character", "behind"]) (sc := defScope sDeedsRow) (by decide +kernel)) (fun _ _ _ _ _ => (pg_name (i := 8) scDeedsRow.nd rfl (Or.inl rfl))) (fun _ _ _ _ _ => pts_nil) (fun _ _ _ _ _ => (pe_tup (pa_cons (pv 8) (pa_cons (pe_dget (hu_of hr) (pv 2) (pv 8) (fun _ _ => rfl)) (pa_cons (pe_cmp (pc_dnotin (hu_of hr) (pv 8) (pv 4)) rfl) pa_nil)))))))))))), ?_⟩
    have hsz : 1000000 ≤ sizeLine := by decide
    have hfl := found_len hF m
    have hrl := removed_len hF m
    refine fun a ha => ?_
    have s1 : Same H (upd H a (.dT [])) := same_upd ha
    have g1 : upd H a (.dT []) a = some (.dT []) := upd_same
    generalize upd H a (.dT []) = H1 at s1 g1
    refine fun b hb => ?_
    have s2 : Same H1 (upd H1 b (.dT [])) := same_upd hb
    have g2 : upd H1 b (.dT []) b = some (.dT []) := upd_same
    have nab : a ≠ b := ne_of_none g1 hb
    generalize upd H1 b (.dT []) = H2 at s2 g2
    refine fun c hc => ?_
    have s3 : Same H2 (upd H2 c (.dT [])) := same_upd hc
    have g3 : upd H2 c (.dT []) c = some (.dT []) := upd_same
    have nac : a ≠ c := ne_of_none (s2 _ _ g1) hc
    have nbc : b ≠ c := ne_of_none g2 hc
    have s03 : Same H (upd H2 c (.dT [])) := Same.tr s1 (Same.tr s2 s3)
    have hbH : H b = none := Same.none s1 hb
    have hcH : H c = none := Same.none (Same.tr s1 s2) hc
    have R3 : RSt a b c H (upd H2 c (.dT [])) [] [] := ⟨fun z o h _ _ _ => s03 _ _ h, [], [], [], s3 _ _ (s2 _ _ g1), s3 _ _ g2, g3, Tab.nil _, Hid.nil⟩
    generalize upd H2 c (.dT []) = H3 at s3 g3 s03 R3
    clear g1 g2 g3 s1 s2 s3 hb hc
    have D3 := D0.same s03
    obtain ⟨du, A0, mk, en, rs, kvs, es0, S3, _⟩ := id D3
    refine ⟨_, rfl, p, du, _, rfl, S3.hp, dflds_no _ _ _ (by decide +kernel) (by decide +kernel) (by decide +kernel), _, rfl, p, R, kk, N, m, rfl, D3, hF, fun H4 l us s34 hl0 hl hus => ⟨l, rfl, ⟨_, SqL.of hl⟩, ?_⟩⟩
    have R4 := R3.same s34
    have s04 := Same.tr s03 s34
    have nal : l ≠ a ∧ l ≠ b ∧ l ≠ c := by
      obtain ⟨kc, kb, kh, h1, h2, h3, _⟩ := R3.x
      exact ⟨(fun e => by rw [e, h1] at hl0; cases hl0), (fun e => by rw [e, h2] at hl0; cases hl0), (fun e => by rw [e, h3] at hl0; cases hl0)⟩
    have R4' : RSt a b c H4 H4 [] [] := ⟨fun z o h _ _ _ => h, R4.x⟩
    refine for_it walk_list (fun i σ H' => ∃ (y5 y6 y7 y8 y9 y10 : Option V), σ = [some (.ref p), some (.str (S m)), some (.ref a), some (.ref b), some (.ref c), y5, y6, y7, y8, y9, y10] ∧ RSt a b c H4 H' (((changes R m).take i).flatMap entF) (((changes R m).take i).flatMap remF))
      ⟨none, none, none, none, none, none, rfl, R4'⟩ (fun i σ H' _ ⟨_, _, _, _, _, _, _, q⟩ => SqL.of (q.k _ _ hl nal.1 nal.2.1 nal.2.2)) ?_ ?_
    · rintro i x σ H5' H5 hi ⟨y5, y6, y7, y8, y9, y10, rfl, R5⟩ ⟨rfl, hx⟩
      obtain ⟨cg, hcg, hxc⟩ := hus.get hx
      obtain ⟨hc8, hcR, hcm⟩ := mem_changes (List.mem_of_getElem? hcg)
      have hok := (hF cg.1 hc8).2 _ hcR
      have k45 : TupK H4 H5 := by
        obtain ⟨kc, kb, kh, h1, h2, h3, _⟩ := R4.x
        exact R5.k.tk h1 h2 h3
      obtain ⟨tc, dx, rfl, htc, hdx⟩ := hxc.keep k45
      obtain ⟨r, δ, f⟩ := cg
      cases δ with
      | back => cases hcm
      | change m' rem bh n t =>
      obtain ⟨_, _, _, hreml, htl⟩ := hok.m _ _ _ _ _ rfl
      have eE : ((changes R m).take (i + 1)).flatMap entF = ((changes R m).take i).flatMap entF ++ (ins r n bh t).map (toF f) := flat_take hcg
      have eM : ((changes R m).take (i + 1)).flatMap remF = ((changes R m).take i).flatMap remF ++ remF (r, .change m' rem bh n t, f) := flat_take hcg
      have pE : ((changes R m).take (i + 1)).flatMap entF <+: found R m := pre_flat _ _ _
      have pM := pre_len remF (changes R m) (i + 1)
      rw [← removed_eq, eM, List.length_append] at pM
      have pL := pE.length_le
      rw [eE, List.length_append, List.length_map, ins_len] at pL
      generalize ((changes R m).take i).flatMap entF = E at *
      generalize ((changes R m).take i).flatMap remF = M at *
      refine ⟨tc, _, rfl, SqT.of htc, rfl, _, _, rfl, _, _, rfl, _, _, rfl, rfl, ?_⟩
      refine ⟨_, rfl, _, rfl, r, dx, m', rem, bh, n, t, rfl, hdx, htl, fun H6 il ius s56 hil0 hil hius => ⟨il, rfl, ⟨_, SqL.of hil⟩, ?_⟩⟩
      have R6 := R5.same s56
      have nil' : il ≠ a ∧ il ≠ b ∧ il ≠ c := by
        obtain ⟨kc, kb, kh, h1, h2, h3, _⟩ := R5.x
        exact ⟨(fun e => by rw [e, h1] at hil0; cases hil0), (fun e => by rw [e, h2] at hil0; cases hil0), (fun e => by rw [e, h3] at hil0; cases hil0)⟩
      have hdx6 := hdx.keep (Same.tk s56)
      refine for_it walk_list (fun j σ H' => ∃ (y8 y9 y10 : Option V), σ = [some (.ref p), some (.str (S m)), some (.ref a), some (.ref b), some (.ref c), some (vi r), some dx, some (.bl f), y8, y9, y10] ∧ But3 a b c H6 H' ∧ RSt a b c H4 H' (E ++ ((ins r n bh t).take j).map (toF f)) M)
        ⟨_, _, _, rfl, fun z o h _ _ _ => h, by simpa using R6⟩ (fun j σ H' _ ⟨_, _, _, _, q, _⟩ => SqL.of (q _ _ hil nil'.1 nil'.2.1 nil'.2.2)) ?_ ?_
      · rintro j x σ H7' H7 hj ⟨y8, y9, y10, rfl, b7, R7⟩ ⟨rfl, hx⟩
        obtain ⟨e, he, hex⟩ := hius.get hx
        have k67 : TupK H6 H7 := by
          obtain ⟨kc, kb, kh, h1, h2, h3, _⟩ := R6.x
          exact b7.tk h1 h2 h3
        obtain ⟨te, xm, xb, rfl, hte, hxm, hxb⟩ := hex.keep k67
        obtain ⟨tm, rfl, htm⟩ : MkAt H7 xm e.1 := hxm
        obtain ⟨kc, kb, kh, h1, h2, h3, hT, hH⟩ := R7.x
        have eS : E ++ ((ins r n bh t).take (j + 1)).map (toF f) = (E ++ ((ins r n bh t).take j).map (toF f)) ++ [toF f e] := by
          rw [take_snoc he, List.map_append, List.append_assoc]
          rfl
        have hpre : (E ++ ((ins r n bh t).take j).map (toF f)) ++ [toF f e] <+: found R m := by
          rw [← eS]
          refine List.IsPrefix.trans ?_ pE
          rw [eE]
          exact List.prefix_append_right_inj E |>.mpr ((List.take_prefix _ _).map _)
        have hnew := new_ent hG hpre
        have hlE := hpre.length_le
        rw [List.length_append, List.length_singleton] at hlE
        have hTl : kc.length = (E ++ ((ins r n bh t).take j).map (toF f)).length := by
          have := congrArg List.length hT.ck
          rwa [List.length_map, List.length_map] at this
        have hBl : kb.length = (E ++ ((ins r n bh t).take j).map (toF f)).length := by
          have := congrArg List.length hT.bk
          rwa [List.length_map, List.length_map] at this
        have hHl := hH.l
        refine ⟨te, _, rfl, SqT.of hte, rfl, _, _, rfl, _, _, rfl, _, _, rfl, rfl, ?_⟩
        refine ⟨_, rfl, _, rfl, _, rfl, a, _, rfl, .inr ⟨kc, kM e.1, tm, h1, rfl, htm, by omega, rfl⟩, ?_⟩
        have k8 : TupK H7 (upd H7 a (.dT (putK kc (kM e.1) (.str (S [e.2.2]))))) := tk_upd fun xs z => by rw [h1] at z; cases z
        have b8 : ∀ z o, H7 z = some o → z ≠ a → upd H7 a (.dT (putK kc (kM e.1) (.str (S [e.2.2])))) z = some o := fun z o h n => by rw [upd_ne n]; exact h
        have g8 : upd H7 a (.dT (putK kc (kM e.1) (.str (S [e.2.2])))) a = some (.dT (putK kc (kM e.1) (.str (S [e.2.2])))) := upd_same
        generalize upd H7 a (.dT (putK kc (kM e.1) (.str (S [e.2.2])))) = H8 at k8 b8 g8
        refine ⟨_, rfl, _, rfl, _, rfl, b, _, rfl, .inr ⟨kb, kM e.1, tm, b8 _ _ h2 nab.symm, rfl, k8 _ _ htm, by omega, rfl⟩, ?_⟩
        have hb8 := b8 _ _ h2 nab.symm
        have k9 : TupK H8 (upd H8 b (.dT (putK kb (kM e.1) xb))) := tk_upd fun xs z => by rw [hb8] at z; cases z
        have b9 : ∀ z o, H8 z = some o → z ≠ b → upd H8 b (.dT (putK kb (kM e.1) xb)) z = some o := fun z o h n => by rw [upd_ne n]; exact h
        have g9 : upd H8 b (.dT (putK kb (kM e.1) xb)) b = some (.dT (putK kb (kM e.1) xb)) := upd_same
        generalize upd H8 b (.dT (putK kb (kM e.1) xb)) = H9 at k9 b9 g9
        have T9 : Tab H9 (putK kc (kM e.1) (.str (S [e.2.2]))) (putK kb (kM e.1) xb) ((E ++ ((ins r n bh t).take j).map (toF f)) ++ [toF f e]) :=
          Tab.step (hT.keep (k8.trans k9)) (e := toF f e) hnew (hxb.keep (k8.trans k9))
        have h39 := b9 _ _ (b8 _ _ h3 nac.symm) nbc.symm
        have B49 : But3 a b c H4 H9 := fun z o h n1 n2 n3 => b9 _ _ (b8 _ _ (R7.k z o h n1 n2 n3) n1) n2
        have B69 : But3 a b c H6 H9 := fun z o h n1 n2 n3 => b9 _ _ (b8 _ _ (b7 z o h n1 n2 n3) n1) n2
        refine ⟨_, rfl, f, rfl, ?_⟩
        rw [eS]
        cases f with
        | true => exact iteF ⟨_, _, _, rfl, B69, B49, _, _, _, b9 _ _ g8 nab, g9, h39, T9, hH.stands (e := toF true e) rfl⟩
        | false =>
          refine iteT ⟨_, rfl, _, rfl, c, _, rfl, .inr ⟨kh, kM e.1, tm, h39, rfl, k9 _ _ (k8 _ _ htm), by omega, rfl⟩, ?_⟩
          exact ⟨_, _, _, rfl, fun z o h n1 n2 n3 => by rw [upd_ne n3]; exact B69 z o h n1 n2 n3, RSt.hide nac nbc B49 (b9 _ _ g8 nab) g9 h39 T9 (hH.falls (e := toF false e) rfl)⟩
      · rintro σ H7 ⟨y8, y9, y10, rfl, b7, R7⟩
        have hil2 : ius.length = (ins r n bh t).length := hius.len
        rw [hil2, List.take_length, ← eE] at R7
        have k67 : TupK H6 H7 := by
          obtain ⟨kc, kb, kh, h1, h2, h3, _⟩ := R6.x
          exact b7.tk h1 h2 h3
        refine ⟨_, rfl, f, rfl, ?_⟩
        cases f with
        | false =>
          have e3 : remF (r, .change m' rem bh n t, false) = [] := rfl
          rw [e3, List.append_nil] at eM
          exact iteF ⟨_, _, _, _, _, _, rfl, by rw [eM]; exact R7⟩
        | true =>
          have e3 : remF (r, .change m' rem bh n t, true) = rem := rfl
          rw [e3] at eM pM
          obtain ⟨td, tr, um, bx, rfl, htd, htr, hm, hbq⟩ := hdx6.keep k67
          refine iteT ⟨_, rfl, td, _, 2, .ref tr, rfl, rfl, SqT.of htd, rfl, tr, rfl, ⟨_, SqT.of htr⟩, ?_⟩
          refine for_it (walk_tup (xs := um)) (fun j σ H' => ∃ (y8 y9 y10 : Option V), σ = [some (.ref p), some (.str (S m)), some (.ref a), some (.ref b), some (.ref c), some (vi r), some (.ref td), some (.bl true), y8, y9, y10] ∧ But3 a b c H7 H' ∧ RSt a b c H4 H' (((changes R m).take (i + 1)).flatMap entF) (M ++ rem.take j))
            ⟨_, _, _, rfl, fun z o h _ _ _ => h, by simpa using R7⟩ (fun j σ H' _ ⟨_, _, _, _, q, _⟩ => ?_) ?_ ?_
          · obtain ⟨kc, kb, kh, h1, h2, h3, _⟩ := R7.x
            exact SqT.of (q.tk h1 h2 h3 _ _ htr)
          · rintro j x σ H8' H8 hj ⟨y8, y9, y10, rfl, b8, R8⟩ ⟨rfl, hx⟩
            obtain ⟨e, he, hex⟩ := hm.get hx
            have k78 : TupK H7 H8 := by
              obtain ⟨kc, kb, kh, h1, h2, h3, _⟩ := R7.x
              exact b8.tk h1 h2 h3
            obtain ⟨tm, rfl, htm⟩ : MkAt H8 x e := hex.keep k78
            obtain ⟨kc, kb, kh, h1, h2, h3, hT, hH⟩ := R8.x
            have hHl := hH.l
            have pL' := pE.length_le
            have : (M ++ rem.take j).length ≤ M.length + rem.length := by rw [List.length_append, List.length_take]; omega
            refine ⟨_, rfl, _, rfl, c, _, rfl, .inr ⟨kh, kM e, tm, h3, rfl, htm, by omega, rfl⟩, ?_⟩
            rw [take_snoc he, ← List.append_assoc]
            exact ⟨_, _, _, rfl, fun z o h n1 n2 n3 => by rw [upd_ne n3]; exact b8 z o h n1 n2 n3, RSt.hide nac nbc R8.k h1 h2 h3 hT (hH.removed e)⟩
          · rintro σ H8 ⟨y8, y9, y10, rfl, b8, R8⟩
            rw [hm.len, List.take_length] at R8
            exact ⟨_, _, _, _, _, _, rfl, by rw [eM]; exact R8⟩
    · rintro σ H5 ⟨y5, y6, y7, y8, y9, y10, rfl, R5⟩
      rw [hus.len, List.take_length] at R5
      have e1 : (changes R m).flatMap entF = found R m := rfl
      rw [e1, ← removed_eq] at R5
      obtain ⟨kc, kb, kh, h1, h2, h3, hT, hH⟩ := R5.x
      have s05 : Same H H5 := fun z o h => R5.k _ _ (s04 _ _ h) (ne_of_none h ha) (ne_of_none h hbH) (ne_of_none h hcH)
      refine ⟨_, rfl, b, kb, R, m, rfl, h2, hG, hfl, ?_, hT.bv, fun H6 l us es s56 hl0 hl hS hus => ⟨l, rfl, ⟨_, SqL.of hl⟩, fun D hD => ?_⟩⟩
      · rw [hT.bk]
        unfold marks
        rw [List.map_map]
        rfl
      · have hnD : l ≠ D := ne_of_none hl hD
        have naD : a ≠ D := ne_of_none (s56 _ _ h1) hD
        have ncD : c ≠ D := ne_of_none (s56 _ _ h3) hD
        have hDH : H D = none := Same.none (Same.tr s05 s56) hD
        have hord : (build (removed R m) es).map (·.1) = order es := build_order _ _
        have hbl : (build (removed R m) es).length = us.length := by rw [hus.len, ← hord, List.length_map]
        have hol : us.length ≤ 80000 := by
          have := (order_facts hG hS es.length (Nat.le_refl _)).2.1
          rw [List.take_length] at this
          rw [hus.len, this, hS.perm.length_eq]
          exact hfl
        refine lc_list (K := K) (xs := us) (fun i H' => ButL D H6 H' ∧ ∃ acc, H' D = some (.lst acc) ∧ All2 (CelP H') acc ((build (removed R m) es).take i))
          ⟨fun z o h n => by rw [upd_ne n]; exact h, [], upd_same, .nil⟩ (fun i H' _ q => SqL.of (q.1 _ _ hl hnD)) ?_ ?_
        · rintro i x H7 hx ⟨b7, acc, hD7, hacc⟩
          have hi : i < us.length := (List.getElem?_eq_some_iff.mp hx).1
          obtain ⟨cl, hcl⟩ : ∃ cl, (build (removed R m) es)[i]? = some cl := ⟨_, List.getElem?_eq_getElem (by omega)⟩
          obtain ⟨e, he, hce⟩ := build_mem (removed R m) es cl (List.mem_of_getElem? hcl)
          have hef : e ∈ found R m := hS.perm.mem_iff.mp he
          obtain ⟨mk', hmk, hxm⟩ := hus.get hx
          have hmk' : mk' = e.1 := by
            rw [← hord, List.getElem?_map, hcl] at hmk
            rw [hce] at hmk
            exact (Option.some.inj hmk).symm
          subst hmk'
          have k67 : TupK H6 H7 := fun z o h => b7 z _ h fun q => by rw [q, hD] at h; cases h
          obtain ⟨tm, rfl, htm⟩ : MkAt H7 x e.1 := hxm.keep k67
          have h17 := b7 _ _ (s56 _ _ h1) naD
          have h37 := b7 _ _ (s56 _ _ h3) ncD
          refine ⟨rfl, lc_yes ⟨_, rfl, _, rfl, _, rfl, a, .str (S [e.2.2.1]), rfl, .inr ⟨kc, kM e.1, tm, .inl h17, rfl, htm, (hT.cv e hef).symm⟩, _, rfl, _, rfl, c, valV kh (kM e.1), rfl, .inr ⟨kh, kM e.1, tm, .inl h37, rfl, htm, rfl⟩, (by show 3 ≤ sizeLine; decide), fun t1 ht1 => ?_⟩⟩
          rw [seen_eq hG hH hef]
          have s8 : Same H7 (upd H7 t1 (.tup [.ref tm, .str (S [e.2.2.1]), .bl (e.2.2.2 && !decide (e.1 ∈ removed R m))])) := same_upd ht1
          have g8 : upd H7 t1 (.tup [.ref tm, .str (S [e.2.2.1]), .bl (e.2.2.2 && !decide (e.1 ∈ removed R m))]) t1 = some (.tup [.ref tm, .str (S [e.2.2.1]), .bl (e.2.2.2 && !decide (e.1 ∈ removed R m))]) := upd_same
          generalize upd H7 t1 (.tup [.ref tm, .str (S [e.2.2.1]), .bl (e.2.2.2 && !decide (e.1 ∈ removed R m))]) = H8 at s8 g8
          have hD8 := s8 _ _ hD7
          have hal : acc.length ≤ 80000 := by rw [hacc.len, List.length_take]; omega
          refine ⟨acc, hD8, by omega, fun z o h n => by rw [upd_ne n]; exact s8 _ _ (b7 z o h n), acc ++ [.ref t1], upd_same, ?_⟩
          have k9 : TupK H8 (upd H8 D (.lst (acc ++ [.ref t1]))) := tk_upd fun xs z => by rw [hD8] at z; cases z
          rw [take_snoc hcl, hce]
          exact (hacc.mono fun v c h => h.keep ((Same.tk s8).trans k9)).snoc ⟨t1, .ref tm, rfl, k9 _ _ g8, tm, rfl, k9 _ _ (s8 _ _ htm)⟩
        · rintro H7 ⟨b7, acc, hD7, hacc⟩
          rw [← hbl, List.take_length] at hacc
          exact qq H7 D acc es (fun z o h => b7 _ _ (s56 _ _ (s05 _ _ h)) (ne_of_none h hDH)) hDH hD7 hS hacc
end
end Q07
namespace Q07
open PySem PySem.Spec PyProof.Rows L2 SX HL DM
section
variable {P : Program} {w : World} {K : PySem.W.Frag} {mg : Str → Option Value} {base : Heap}
/-! ### text, modules, last_number -/
def textOf (cs : List Cel) : List Nat := (cs.filter fun c => c.2.2).map fun c => c.2.1
theorem text_snoc (cs : List Cel) (c : Cel) : textOf (cs ++ [c]) = textOf cs ++ (if c.2.2 = true then [c.2.1] else []) := by
  unfold textOf
  rw [List.filter_append, List.map_append]
  congr 1
  cases h : c.2.2 <;> simp [h]
theorem ones_join (l : List Nat) : Txt.join "" (l.map fun c => S [c]) = S l := by
  have e : (l.map fun c => S [c]) = (l.map fun c => [c]).map S := by rw [List.map_map]; rfl
  have e2 : ("" : Str) = S [] := rfl
  rw [e, e2, join_S, joinL_nil]
  congr 1
  clear e e2
  induction l with
  | nil => rfl
  | cons a l ih =>
    show a :: (l.map fun c => [c]).flatten = a :: l
    rw [ih]
theorem ones_sum (l : List Nat) : ((l.map fun c => S [c]).map (·.length)).sum = l.length := by
  induction l with
  | nil => rfl
  | cons a l ih =>
    rw [List.map_cons, List.map_cons, List.sum_cons, ih, List.length_cons]
    have : (S [a]).length = 1 := S_len [a]
    omega
theorem textOf_len (cs : List Cel) : (textOf cs).length ≤ cs.length := by
  unfold textOf
  rw [List.length_map]
  exact List.length_filter_le ..
theorem build_len' {R : Rows} {m : List Nat} {es : List EntF} (G : Good R) (F : Few R) (S : Srt R m es) (rm : List Mark) : (build rm es).length ≤ 80000 := by
  have h1 := build_len rm G S (i := es.length) (Nat.le_refl _)
  rw [List.take_length] at h1
  rw [h1, S.perm.length_eq]
  exact found_len F m
def spDText (cD : Addr) : Sp := fun vs H Q _ => ∃ (p : Addr) (R : Rows) (k : Nat) (N : Addr → Prop) (m : List Nat), vs = [.ref p, .str (S m)] ∧ DeAt cD H p R k N ∧ Good R ∧ Few R ∧
  ∀ H' es, Same H H' → Srt R m es → Q (.str (S (textOf (build (removed R m) es)))) H'
theorem ok_text {k : Nat} (Z : Defs K mg) : FnOk P w K mg base CX0 (k + 4) Z.fDeedsText Z.fdDeedsText ["self", "module"] (spDText Z.cDeeds) := by
  have GDeedsRow : FnOk P w K mg base CX0 (k + 3) Z.fDeedsRow Z.fdDeedsRow ["self", "module"] (spDRow Z.cDeeds) := ok_row Z
  refine Z.DDeedsText.F.ok scDeedsText (fun vs H Q E h => ?_) (fun cdv A outer s H vs Q E hr h => ?_)
  · obtain ⟨p, R, kk, N, m, rfl, _⟩ := h
    rfl
  · obtain ⟨p, R, kk, N, m, rfl, D0, hG, hF, qq⟩ := h
    refine ⟨_, (pss_one (ps_ret (pe_join pe_str (pe_lc (own := [("_", 2), ("character", 3), ("seen", 4)]) (g := (gTup K 3 (gCons (gName 2) (gCons (gName 3) (gCons (gName 4) gNil))))) (by rfl) scDeedsText.nd (pi_list (pe_meth (pv 0) Z.CDeeds.cl Z.DDeedsRow.m GDeedsRow (hr.mono (by omega)) Z.DDeedsRow.b .nil pass0 (pa_cons (pv 1) pa_nil))) (blkOk_by (own := [("_", 2), ("character", 3), ("seen", 4)]) (N := ["self", "module", "_", "character", "seen"]) (sc := defScope sDeedsText) (by decide +kernel)) (fun _ _ _ _ _ => (pg_tup rfl (pgs_cons (pg_name (i := 2) scDeedsText.nd rfl (.inl rfl)) (pgs_cons (pg_name (i := 3) scDeedsText.nd rfl (.inl rfl)) (pgs_cons (pg_name (i := 4) scDeedsText.nd rfl (.inl rfl)) pgs_nil))))) (fun _ _ _ _ _ => (pts_one (pt_val (pv 4)))) (fun _ _ _ _ _ => (pv 3)))))), ?_⟩
    obtain ⟨du, A0, mk, en, rs, kvs, es0, S0, _⟩ := id D0
    refine ⟨⟨_, rfl⟩, _, rfl, p, du, _, rfl, S0.hp, dflds_no _ _ _ (by decide +kernel) (by decide +kernel) (by decide +kernel), _, rfl, p, R, kk, N, m, rfl, D0, hG, hF, fun H1 l us es s1 hl0 hl hS hus => ⟨l, rfl, ⟨_, SqL.of hl⟩, fun D hD => ?_⟩⟩
    have hnD : l ≠ D := ne_of_none hl hD
    have hbl := build_len' hG hF hS (removed R m)
    have q1 : ∀ H', Same H H' → Q (.str (S (textOf (build (removed R m) es)))) H' := fun H' s => qq H' es s hS
    clear qq
    generalize build (removed R m) es = cs at hus hbl q1
    refine lc_list (K := K) (xs := us) (fun i H' => Same H1 H' ∧ H' D = some (.lst (((textOf (cs.take i)).map fun c => S [c]).map V.str))) ⟨same_upd hD, upd_same⟩ (fun i H' _ q => SqL.of (q.1 _ _ hl)) ?_ ?_
    · rintro i x H2 hx ⟨s2, hD2⟩
      obtain ⟨c, hc, hxc⟩ := hus.get hx
      obtain ⟨t, xm, rfl, ht, _⟩ := hxc.keep (Same.tk s2)
      refine ⟨t, _, rfl, SqT.of ht, rfl, _, _, rfl, _, _, rfl, _, _, rfl, rfl, rfl, _, rfl, c.2.2, rfl, ?_⟩
      have hstep := text_snoc (cs.take i) c
      rw [← take_snoc hc] at hstep
      have hlen := textOf_len (cs.take i)
      rw [List.length_take] at hlen
      cases hf : c.2.2 with
      | false =>
        rw [hf] at hstep
        refine iteF ⟨s2, ?_⟩
        rw [hstep]
        simp
        simpa using hD2
      | true =>
        rw [hf] at hstep
        refine iteT ⟨_, rfl, _, hD2, ?_, fun z o hz => by rw [upd_ne (ne_of_none hz hD)]; exact s2 _ _ hz, ?_⟩
        · rw [List.length_map, List.length_map]
          exact Nat.lt_of_le_of_lt (show _ ≤ 80000 by omega) (by decide)
        · rw [upd_same, hstep]
          simp
    · rintro H2 ⟨s2, hD2⟩
      rw [hus.len, List.take_length] at hD2
      refine ⟨S [], D, (textOf cs).map fun c => S [c], rfl, rfl, .inl (SqL.of hD2), ?_, ?_⟩
      · rw [ones_sum, List.length_map]
        have := textOf_len cs
        have e : (S []).length = 0 := rfl
        rw [e]
        omega
      · have e := ones_join (textOf cs)
        show Q (.str (Txt.join "" _)) H2
        rw [e]
        exact q1 H2 (Same.tr s1 s2)
end
end Q07
namespace Q07
open PySem PySem.Spec PyProof.Rows L2 SX HL DM
section
variable {P : Program} {w : World} {K : PySem.W.Frag} {mg : Str → Option Value} {base : Heap}
/-! ### copy -/
/-- how many deeds stand in the first rows -/
def tot (R : Rows) : Nat → Nat
  | 0 => 0
  | i + 1 => tot R i + (R i).length
def spCopy (cD : Addr) : Sp := fun vs H Q _ => ∃ (p : Addr) (R : Rows) (k : Nat) (N : Addr → Prop), vs = [.ref p] ∧ DeAt cD H p R k N ∧ k ≤ 100 ∧ (∀ r, r < 8 → ∀ d ∈ R r, DOk d) ∧
  ∀ H' q R' k' N', Same H H' → DeAt cD H' q R' k' N' → k' ≤ 8 * k → k' ≤ tot R 8 → (∀ z, N' z → H z = none) → (∀ r, r < 8 → R' r = R r) → Q (.ref q) H'
def partC (R : Rows) (i j : Nat) : Rows := fun r => if r < i then R r else if r = i then (R r).take j else []
theorem partC_next {R : Rows} {i j : Nat} {d : Deed} (h : (R i)[j]? = some d) : addR (partC R i j) i d = partC R i (j + 1) := by
  funext r
  unfold addR partC
  by_cases e : r = i
  · subst e
    rw [if_pos rfl, if_neg (Nat.lt_irrefl _), if_pos rfl, if_neg (Nat.lt_irrefl _), if_pos rfl, take_snoc h]
  · rw [if_neg e]
    simp only [e, if_false]
theorem partC_row {R : Rows} {i : Nat} : partC R i (R i).length = partC R (i + 1) 0 := by
  funext r
  unfold partC
  by_cases e : r = i
  · subst e
    rw [if_neg (Nat.lt_irrefl _), if_pos rfl, if_pos (Nat.lt_succ_self _), List.take_length]
  · by_cases h : r < i
    · rw [if_pos h, if_pos (by omega)]
    · rw [if_neg h, if_neg e, if_neg (by omega)]
      by_cases e2 : r = i + 1
      · rw [if_pos e2, List.take_zero]
      · rw [if_neg e2]
theorem partC_zero {R : Rows} : partC R 0 0 = fun _ => [] := by
  funext r
  unfold partC
  rw [if_neg (Nat.not_lt_zero _)]
  split
  · exact List.take_zero ..
  · rfl
theorem ok_copy {k : Nat} (Z : Defs K mg) : FnOk P w K mg base CX0 (k + 3) Z.fDeedsCopy Z.fdDeedsCopy ["self"] (spCopy Z.cDeeds) := by
  have GDeedsInit : FnOk P w K mg base CX0 (k + 1) Z.fDeedsInit Z.fdDeedsInit ["self"] (spInit Z.cDeeds) := ok_init Z
  have GDeedsAdd : FnOk P w K mg base CX0 (k + 2) Z.fDeedsAdd Z.fdDeedsAdd ["self", "replica", "deed"] (spAdd Z.cDeeds) := ok_add Z
  refine Z.DDeedsCopy.F.ok scDeedsCopy (fun vs H Q E h => ?_) (fun cdv A outer s H vs Q E hr h => ?_)
  · obtain ⟨p, R, kk, N, rfl, _⟩ := h
    rfl
  · obtain ⟨p, R, kk, N, rfl, ⟨du, A0, mk, en, rs, kvs, es, S, EX0, MO0⟩, hkk, hok, qq⟩ := h
    refine ⟨_, (pss_cons (ps_set (i := 1) scDeedsCopy.nd rfl (.inl rfl) (pe_make0 Z.CDeeds.make GDeedsInit (hr.mono (by omega)) rfl Z.CDeeds.g Z.DDeedsInit.b .nil pass0))
        (pss_cons (ps_for PassesOwn.never rfl (pi_enum (by rfl) Z.enumerate (pa_cons (pe_fld (pv 0) rfl) pa_nil)) (pg_tup rfl (pgs_cons (pg_name (i := 2) scDeedsCopy.nd rfl (.inl rfl)) (pgs_cons (pg_name (i := 3) scDeedsCopy.nd rfl (.inl rfl)) pgs_nil))) (pss_one (ps_for PassesOwn.never rfl (pi_list (pv 3)) (pg_name (i := 4) scDeedsCopy.nd rfl (.inl rfl)) (pss_one (ps_expr (pe_meth (pv 1) Z.CDeeds.cl Z.DDeedsAdd.m GDeedsAdd (hr.mono (by omega)) Z.DDeedsAdd.b .nil pass0 (pa_cons (pv 2) (pa_cons (pv 4) pa_nil))))))))
        (pss_one (ps_ret (pv 1))))), ?_⟩
    refine fun q dq hq hdq ndq => ⟨q, dq, rfl, upd_same, fun H1 N1 f1 D1 n1 => ⟨rfl, ?_⟩⟩
    have s1 : Same H H1 := fun z o h => f1 _ _ (by rw [upd_ne (ne_of_none h hq), upd_ne (ne_of_none h hdq)]; exact h) (ne_of_none h hq)
    have n1' : ∀ z, N1 z → H z = none := fun z h => by
      rcases n1 z h with e | e
      · rw [e]; exact hq
      · by_cases e1 : z = q
        · rw [e1]; exact hq
        · rw [upd_ne e1] at e
          by_cases e2 : z = dq
          · rw [e2]; exact hdq
          · rw [upd_ne e2] at e; exact e
    refine ⟨_, rfl, p, Z.cDeeds, du, _, _, rfl, s1 _ _ S.hp, Z.CDeeds.cl, Z.nDeeds_rows, dflds_rows _ _ _, A0, _, rfl, SqL.of (s1 _ _ S.hr.h), ?_⟩
    refine for_it walk_enum (fun i σ H' => ∃ (y2 y3 y4 : Option V) (k' : Nat) (N' : Addr → Prop), σ = [some (.ref p), some (.ref q), y2, y3, y4] ∧ Same H H' ∧ DeAt Z.cDeeds H' q (partC R i 0) k' N' ∧ (∀ z, N' z → H z = none) ∧ k' ≤ i * kk ∧ k' ≤ tot R i)
      ⟨none, none, none, 0, N1, rfl, s1, by rw [partC_zero]; exact D1, n1', Nat.zero_le _, Nat.zero_le _⟩ (fun i σ H' _ ⟨_, _, _, _, _, _, s, _⟩ => SqL.of (s _ _ S.hr.h)) ?_ ?_
    · rintro i x σ H2 H2' hi ⟨y2, y3, y4, k', N', rfl, s2, D2, n2, hk'⟩ ⟨T, x1, x2, rfl, hT, rfl, e1, e2⟩
      obtain rfl : V.int (i : Nat) = x1 := Option.some.inj e1
      obtain ⟨ra, hra, rfl⟩ : ∃ ra, rs[i]? = some ra ∧ x2 = .ref ra := by
        have e2 : (rs.map V.ref)[i]? = some x2 := e2
        rw [List.getElem?_map] at e2
        cases e : rs[i]? with
        | none => rw [e] at e2; cases e2
        | some t => rw [e] at e2; cases e2; exact ⟨t, rfl, rfl⟩
      have hi8 : i < 8 := by have := (List.getElem?_eq_some_iff.mp hra).1; rw [S.hr.n] at this; exact this
      obtain ⟨us, hu, hus⟩ := S.hr.r i ra hra
      have sT : Same H2 (upd H2 T (.tup [.int (i : Nat), .ref ra])) := same_upd hT
      have gT : upd H2 T (.tup [.int (i : Nat), .ref ra]) T = some (.tup [.int (i : Nat), .ref ra]) := upd_same
      have s2T := Same.tr s2 sT
      have D2T := DeAt.same D2 sT
      generalize upd H2 T (.tup [.int (i : Nat), .ref ra]) = H3 at gT s2T D2T
      refine ⟨T, _, rfl, SqT.of gT, rfl, _, _, rfl, _, _, rfl, rfl, ?_⟩
      refine ⟨_, rfl, ra, rfl, ⟨_, SqL.of (s2T _ _ hu)⟩, ?_⟩
      have hkk8 : i * kk ≤ 7 * kk := Nat.mul_le_mul_right kk (by omega)
      have hlen := S.len i
      refine for_it walk_list (fun j σ H' => ∃ (y4 : Option V) (k' : Nat) (N' : Addr → Prop), σ = [some (.ref p), some (.ref q), some (.int (i : Nat)), some (.ref ra), y4] ∧ Same H H' ∧ DeAt Z.cDeeds H' q (partC R i j) k' N' ∧ (∀ z, N' z → H z = none) ∧ k' ≤ i * kk + j ∧ k' ≤ tot R i + j)
        ⟨y4, k', N', rfl, s2T, D2T, n2, hk'⟩ (fun j σ H' _ ⟨_, _, _, _, s, _⟩ => SqL.of (s _ _ hu)) ?_ ?_
      · rintro j x σ H4' H4 hj ⟨y4, k', N', rfl, s4, D4, n4, hk4⟩ ⟨rfl, hx⟩
        obtain ⟨du4, A4, mk4, en4, rs4, kvs4, es4, S4, _⟩ := id D4
        obtain ⟨d, hd, hdx⟩ := hus.get hx
        have hj2 : j < (R i).length := (List.getElem?_eq_some_iff.mp hd).1
        refine ⟨_, rfl, q, du4, _, rfl, S4.hp, dflds_no _ _ _ (by decide +kernel) (by decide +kernel) (by decide +kernel), _, rfl, _, rfl, q, i, partC R i j, k', N', x, d, rfl, D4, hdx.keep (Same.tk s4), hok i hi8 d (List.mem_of_getElem? hd), hi8, by omega, fun H5 N5 f5 D5 n5 => ?_⟩
        refine ⟨_, k' + 1, N5, rfl, fun z o h => f5 _ _ (s4 _ _ h) (fun n => by rw [n4 z n] at h; cases h), by rw [← partC_next hd]; exact D5, fun z h => ?_, Nat.succ_le_succ hk4.1, Nat.succ_le_succ hk4.2⟩
        rcases n5 z h with h | h
        · exact n4 z h
        · cases e : H z with
          | none => rfl
          | some o => rw [s4 _ _ e] at h; cases h
      · rintro σ H4 ⟨y4, k', N', rfl, s4, D4, n4, hk4⟩
        rw [hus.len, partC_row] at D4
        rw [hus.len] at hk4
        refine ⟨_, _, _, k', N', rfl, s4, D4, n4, ?_, ?_⟩
        · rw [Nat.succ_mul]
          omega
        · rw [tot]
          exact hk4.2
    · rintro σ H2 ⟨y2, y3, y4, k', N', rfl, s2, D2, n2, hk'⟩
      rw [List.length_map, S.hr.n] at D2 hk'
      exact ⟨_, rfl, qq H2 q _ k' N' s2 D2 hk'.1 hk'.2 n2 fun r hr => if_pos hr⟩
end
end Q07
namespace Q07
open PySem PySem.Spec PyProof.Rows L2 SX HL DM
section
variable {P : Program} {w : World} {K : PySem.W.Frag} {mg : Str → Option Value} {base : Heap}
/-! ### counts, first_fitting -/
theorem pi_listK {X : Cx} {tg l : Expr} {tl : TE} {K : PySem.W.Frag} (hK : X.K = K) (hl : PE X l tl) : PI X tg l (iList K tl) := by
  subst hK
  exact pi_list hl
def spCounts (cD : Addr) : Sp := fun vs H Q _ => ∃ (p : Addr) (R : Rows) (k : Nat) (N : Addr → Prop), vs = [.ref p] ∧ DeAt cD H p R k N ∧
  ∀ H' l, Same H H' → H l = none → H' l = some (.lst ((List.range 8).map fun r => vi (R r).length)) → Q (.ref l) H'
theorem ok_counts {k : Nat} (Z : Defs K mg) : FnOk P w K mg base CX0 (k + 1) Z.fDeedsCounts Z.fdDeedsCounts ["self"] (spCounts Z.cDeeds) := by
  refine Z.DDeedsCounts.F.ok scDeedsCounts (fun vs H Q E h => ?_) (fun cdv A outer s H vs Q E hr h => ?_)
  · obtain ⟨p, R, kk, N, rfl, _⟩ := h
    rfl
  · obtain ⟨p, R, kk, N, rfl, ⟨du, A0, mk, en, rs, kvs, es, S, _⟩, qq⟩ := h
    refine ⟨_, (pss_one (ps_ret (pe_lc (own := [("deeds", 1)]) (g := (gName 1)) (by rfl) scDeedsCounts.nd (pi_list (KX.pe_fldK (K := K) rfl (pv 0) rfl)) (blkOk_by (own := [("deeds", 1)]) (N := ["self", "deeds"]) (sc := defScope sDeedsCounts) (by decide +kernel)) (fun _ _ _ _ _ => (pg_name (i := 1) scDeedsCounts.nd rfl (Or.inl rfl))) (fun _ _ _ _ _ => pts_nil) (fun _ _ _ _ _ => (pe_callB (HX.call_len_seqK (K := K) rfl) (by rfl) Z.len PySem.boot_len (pa_cons (pv 1) pa_nil)))))), ?_⟩
    refine ⟨_, rfl, p, Z.cDeeds, du, _, _, rfl, S.hp, Z.CDeeds.cl, Z.nDeeds_rows, dflds_rows _ _ _, A0, rfl, ⟨_, SqL.of S.hr.h⟩, fun D hD => ?_⟩
    refine lc_list (K := K) (xs := rs.map V.ref) (fun i H' => Same H H' ∧ H' D = some (.lst ((List.range i).map fun r => vi (R r).length))) ⟨same_upd hD, upd_same⟩ (fun j H' _ q => SqL.of (q.1 _ _ S.hr.h)) ?_ ?_
    · rintro i x H1 hx ⟨s1, hD1⟩
      obtain ⟨ra, hra, rfl⟩ : ∃ ra, rs[i]? = some ra ∧ x = .ref ra := by
        rw [List.getElem?_map] at hx
        cases e : rs[i]? with
        | none => rw [e] at hx; cases hx
        | some t => rw [e] at hx; cases hx; exact ⟨t, rfl, rfl⟩
      obtain ⟨us, hu, hus⟩ := S.hr.r i ra hra
      have hi8 : i < 8 := by have := (List.getElem?_eq_some_iff.mp hra).1; rw [S.hr.n] at this; exact this
      refine ⟨rfl, lc_yes ⟨_, rfl, ra, us, rfl, .inl (SqL.of (s1 _ _ hu)), _, hD1, by rw [List.length_map, List.length_range]; exact Nat.lt_of_lt_of_le hi8 (by decide), fun z o hz => by rw [upd_ne (ne_of_none hz hD)]; exact s1 _ _ hz, ?_⟩⟩
      rw [upd_same, List.range_succ, List.map_append, hus.len]
      rfl
    · rintro H1 ⟨s1, hD1⟩
      rw [List.length_map, S.hr.n] at hD1
      exact qq H1 D s1 hD hD1
/-- the places of a packet that offer the deed at (r, pl) -/
def offs (ts : List Trip) (m r pl : Nat) : List Nat := (List.range m).filter fun j => decide ((pick ts j).1 = r ∧ (pick ts j).2.1 = pl)
def key2 (r pl : Nat) : List L2.Key := [.inl (r : Int), .inl (pl : Int)]
/-- the offers of the first m places -/
structure Off (H : Hp) (o : Addr) (ts : List Trip) (m : Nat) (kvs : List (List L2.Key × V)) (ad : Nat → Nat → Addr) : Prop where
  ho : H o = some (.dT kvs)
  len : kvs.length ≤ m
  no : ∀ r pl, offs ts m r pl = [] → valV kvs (key2 r pl) = none
  yes : ∀ r pl, offs ts m r pl ≠ [] → valV kvs (key2 r pl) = some (.ref (ad r pl)) ∧ H (ad r pl) = some (.lst ((offs ts m r pl).map vi))
  inj : ∀ r pl r' pl', offs ts m r pl ≠ [] → offs ts m r' pl' ≠ [] → ad r pl = ad r' pl' → r = r' ∧ pl = pl'
theorem Off.keep {H H' : Hp} {o : Addr} {ts : List Trip} {m : Nat} {kvs : List (List L2.Key × V)} {ad : Nat → Nat → Addr} (s : Same H H') (h : Off H o ts m kvs ad) : Off H' o ts m kvs ad :=
  ⟨s _ _ h.ho, h.len, h.no, fun r pl hn => ⟨(h.yes r pl hn).1, s _ _ (h.yes r pl hn).2⟩, h.inj⟩
def nV : Option Nat → V
  | some k => vi k
  | none => .non
def spFF (cD : Addr) : Sp := fun vs H Q _ => ∃ (p l o : Addr) (R : Rows) (k : Nat) (N : Addr → Prop) (us : List V) (ts : List Trip) (kvs : List (List L2.Key × V)) (ad : Nat → Nat → Addr), vs = [.ref p, .ref l, .ref o] ∧ DeAt cD H p R k N ∧ Few R ∧ H l = some (.lst us) ∧ All2 (TripAt H) us ts ∧ PkOk ts ∧ Off H o ts ts.length kvs ad ∧
  ∀ H', Same H H' → Q (nV (nx ts R)) H'
theorem mem_offs {ts : List Trip} {r pl k : Nat} : k ∈ offs ts ts.length r pl ↔ ∃ t, ts[k]? = some t ∧ t.1 = r ∧ t.2.1 = pl := by
  unfold offs
  rw [List.mem_filter, List.mem_range]
  constructor
  · rintro ⟨h1, h2⟩
    have e := List.getElem?_eq_getElem h1
    have h3 := of_decide_eq_true h2
    rw [pick_eq e] at h3
    exact ⟨_, e, h3.1, h3.2⟩
  · rintro ⟨t, h1, h2, h3⟩
    refine ⟨(List.getElem?_eq_some_iff.mp h1).1, decide_eq_true ?_⟩
    rw [pick_eq h1]
    exact ⟨h2, h3⟩
theorem first_min {ts : List Trip} {R : Rows} (hok : PkOk ts) {ns : List Nat} (h : ∀ k, k ∈ ns ↔ ∃ t, ts[k]? = some t ∧ t.1 < 8 ∧ elig R t) : (ns = [] → nx ts R = none) ∧ ∀ m ∈ ns, (∀ x ∈ ns, m ≤ x) → nx ts R = some m := by
  refine ⟨fun e => nx_eq fun t ht hel => ?_, fun m hm hmin => nx_eq ?_⟩
  · obtain ⟨j, hj, e2⟩ := List.mem_iff_getElem.mp ht
    have := (h j).mpr ⟨t, by rw [List.getElem?_eq_getElem hj, e2], (hok.2 t ht).1, hel⟩
    rw [e] at this
    cases this
  · obtain ⟨t, h1, h2, h3⟩ := (h m).mp hm
    refine ⟨t, h1, h3, fun j hj t' ht' hel => ?_⟩
    have := hmin j ((h j).mpr ⟨t', ht', (hok.2 t' (List.mem_of_getElem? ht')).1, hel⟩)
    omega
theorem ok_ff {k : Nat} (hk : 1 ≤ k) (Z : Defs K mg) (GDeedsCounts : FnOk P w K mg base CX0 1 Z.fDeedsCounts Z.fdDeedsCounts ["self"] (spCounts Z.cDeeds)) (GDeedsFits : FnOk P w K mg base CX0 1 Z.fDeedsFits Z.fdDeedsFits ["self", "replica", "deed"] (spFits Z.cDeeds)) : FnOk P w K mg base CX0 (k + 1) Z.fFirstFitting Z.fdFirstFitting ["known", "packet", "offers"] (spFF Z.cDeeds) := by
  refine Z.DFirstFitting.F.ok scFirstFitting (fun vs H Q E h => ?_) (fun cdv A outer s H vs Q E hr h => ?_)
  · obtain ⟨p, l, o, R, kk, N, us, ts, kvs, ad, rfl, _⟩ := h
    rfl
  · obtain ⟨p, l, o, R, kk, N, us, ts, kvs, ad, rfl, hD, hF, hl, hts, hok, hoff, qq⟩ := h
    refine ⟨_, (pss_cons (ps_setLc2 (i := 3) (own := [("replica", 4), ("count", 5), ("index", 6)]) (vs1 := [6]) (g := (gTup K 2 (gCons (gName 4) (gCons (gName 5) gNil)))) (g1 := (gName 6)) (by rfl) scFirstFitting.nd rfl rfl (sw_true rfl rfl rfl (by decide +kernel)) (pi_enum (by rfl) Z.enumerate (pa_cons (pe_meth0 (pv 0) Z.CDeeds.cl Z.DDeedsCounts.m GDeedsCounts (hr.mono (by omega)) Z.DDeedsCounts.b .nil pass0) pa_nil)) (blkOk_by (own := [("replica", 4), ("count", 5), ("index", 6)]) (N := ["known", "packet", "offers", "fitting", "replica", "count", "index"]) (sc := defScope sFirstFitting) (by decide +kernel)) (by decide) (fun _ _ _ _ _ => (pg_tup rfl (pgs_cons (pg_name (i := 4) scFirstFitting.nd rfl (.inl rfl)) (pgs_cons (pg_name (i := 5) scFirstFitting.nd rfl (.inl rfl)) pgs_nil)))) (fun _ _ _ _ _ => pts_nil) (fun _ _ _ _ _ => (pi_listK (K := K) rfl (pe_dget2 (hu_of hr) (pv 2) (pe_tup (pa_cons (pv 4) (pa_cons (pe_op op_add (pv 5) pe_int) pa_nil))) (pe_lst pa_nil) ⟨rfl, rfl, rfl, rfl⟩))) (fun _ _ _ _ _ => (pg_name (i := 6) scFirstFitting.nd rfl (Or.inl rfl))) (fun _ _ _ _ _ => (pts_one (pt_val (pe_meth (pv 0) Z.CDeeds.cl Z.DDeedsFits.m GDeedsFits (hr.mono (by omega)) Z.DDeedsFits.b .nil pass0 (pa_cons (pv 4) (pa_cons (pe_ix (HL.ix_tupK (K := K) rfl) (pe_ix (HL.ix_listK (K := K) rfl) (pv 1) (pv 6) (fun _ _ => rfl)) pe_int (fun _ _ => rfl)) pa_nil)))))) (fun _ _ _ _ _ => (pv 6)))
        (pss_one (ps_ret (pe_callBK (EM.ck_minD rfl (Nat.lt_of_le_of_lt (Nat.add_le_add_left (by decide) _) hr.units)) (by rfl) Z.min (by decide +kernel) (pa_cons (pv 3) pa_nil) (pk_cons pe_non pk_nil))))), ?_⟩
    have big : 16777216 ≤ sizeLine := by decide +kernel
    have hn := hok.1
    obtain ⟨du, A0, mk, en, rs, dkv, es, S1, _⟩ := id hD
    refine ⟨_, rfl, p, du, _, rfl, S1.hp, dflds_no _ _ _ (by decide +kernel) (by decide +kernel) (by decide +kernel), p, R, kk, N, rfl, hD, fun H1 cl s1 hcl0 hcl => ⟨cl, _, rfl, SqL.of hcl, fun D hDn => ?_⟩⟩
    refine HC.wk_it walk_enum (fun i H' => Same H1 H' ∧ ∃ ns : List Nat, H' D = some (.lst (ns.map vi)) ∧ (∀ k, k ∈ ns ↔ ∃ t, ts[k]? = some t ∧ t.1 < i ∧ elig R t) ∧ ns.length ≤ 100 * i)
      ⟨same_upd hDn, [], upd_same, fun k => ⟨fun h => (by cases h), fun ⟨t, _, h, _⟩ => absurd h (Nat.not_lt_zero _)⟩, Nat.le_refl _⟩ (fun i H' _ q => SqL.of (q.1 _ _ hcl)) ?_ ?_
    · rintro i x H2 H2' hi ⟨s2, ns, hD2, hns, hnl⟩ ⟨T, x1, x2, rfl, hT, rfl, e1, e2⟩
      obtain rfl : V.int (i : Nat) = x1 := Option.some.inj e1
      have hi8 : i < 8 := by rw [List.length_map, List.length_range] at hi; exact hi
      obtain rfl : vi (R i).length = x2 := by
        replace e2 : ((List.range 8).map fun r => vi (R r).length)[i]? = some x2 := e2
        rw [List.getElem?_map, List.getElem?_range hi8] at e2
        exact Option.some.inj e2
      have s3 : Same H2 (upd H2 T (.tup [.int (i : Nat), vi (R i).length])) := same_upd hT
      have g3 : upd H2 T (.tup [.int (i : Nat), vi (R i).length]) T = some (.tup [.int (i : Nat), vi (R i).length]) := upd_same
      generalize upd H2 T (.tup [.int (i : Nat), vi (R i).length]) = H3 at s3 g3
      have s03 := Same.tr s1 (Same.tr s2 s3)
      have off3 := hoff.keep s03
      refine ⟨T, _, rfl, SqT.of g3, rfl, _, _, rfl, _, _, rfl, rfl, rfl, HC.yes (iteT ?_)⟩
      refine ⟨_, rfl, o, rfl, .inr ⟨_, .inl off3.ho⟩, _, rfl, _, rfl, _, _, rfl, rfl, by show 2 ≤ sizeLine; decide, fun kt hkt => ⟨by show 0 ≤ sizeLine; decide, fun e0 he0 => ?_⟩⟩
      have s4 := same_upd (o := .tup [.int (i : Nat), .int (((R i).length : Int) + 1)]) hkt
      have g4 : upd H3 kt (.tup [.int (i : Nat), .int (((R i).length : Int) + 1)]) kt = some (.tup ((key2 i ((R i).length + 1)).map kV)) := upd_same
      generalize upd H3 kt (.tup [.int (i : Nat), .int (((R i).length : Int) + 1)]) = H4 at *
      have s5 := same_upd (o := .lst []) he0
      have g5 : upd H4 e0 (.lst []) e0 = some (.lst []) := upd_same
      generalize upd H4 e0 (.lst []) = H5 at *
      have s35 := Same.tr s4 s5
      have off5 := off3.keep s35
      have key5 := s5 _ _ g4
      have hDH4 : H4 D = some (.lst (ns.map vi)) := s4 _ _ (s3 _ _ hD2)
      obtain ⟨La, hget, hLa, hLD⟩ : ∃ La, (valV kvs (key2 i ((R i).length + 1))).getD (.ref e0) = .ref La ∧ H5 La = some (.lst ((offs ts ts.length i ((R i).length + 1)).map vi)) ∧ La ≠ D := by
        by_cases q : offs ts ts.length i ((R i).length + 1) = []
        · exact ⟨e0, by rw [off5.no _ _ q]; rfl, by rw [q]; exact g5, fun e => by rw [e, hDH4] at he0; cases he0⟩
        · obtain ⟨q1, q2⟩ := off5.yes _ _ q
          exact ⟨ad i ((R i).length + 1), by rw [q1]; rfl, q2, fun e => by
            have := s1 _ _ (hoff.yes _ _ q).2
            rw [e, hDn] at this
            cases this⟩
      refine ⟨_, DGet.t off5.ho key5, La, hget, ⟨_, SqL.of hLa⟩, ?_⟩
      have s25 := Same.tr s3 s35
      have s15 := Same.tr s2 s25
      refine HC.wk_it walk_list (fun j H' => Same H1 H' ∧ H' La = some (.lst ((offs ts ts.length i ((R i).length + 1)).map vi)) ∧ ∃ ns : List Nat, H' D = some (.lst (ns.map vi)) ∧ (∀ k, k ∈ ns ↔ (∃ t, ts[k]? = some t ∧ t.1 < i ∧ elig R t) ∨ (k ∈ (offs ts ts.length i ((R i).length + 1)).take j ∧ ∃ t, ts[k]? = some t ∧ elig R t)) ∧ ns.length ≤ 100 * i + j)
        ⟨s15, hLa, ns, s25 _ _ hD2, fun k => by rw [hns k, List.take_zero]; exact ⟨.inl, fun h => h.elim id fun h => (by cases h.1)⟩, hnl⟩ (fun j H' _ q => SqL.of q.2.1) ?_ ?_
      · rintro j x H6 H6' hj ⟨s6, hLa6, ns2, hD6, hns2, hnl2⟩ ⟨rfl, hx1⟩
        have hol : (offs ts ts.length i ((R i).length + 1)).length ≤ ts.length := by
          unfold offs
          refine Nat.le_trans (List.length_filter_le ..) ?_
          rw [List.length_range]
          exact Nat.le_refl _
        have hj100 : j < 100 := by
          rw [List.length_map] at hj
          omega
        obtain ⟨k0, hk0, rfl⟩ : ∃ k0, (offs ts ts.length i ((R i).length + 1))[j]? = some k0 ∧ x = vi k0 := by
          rw [List.getElem?_map] at hx1
          cases e : (offs ts ts.length i ((R i).length + 1))[j]? with
          | none => rw [e] at hx1; cases hx1
          | some k0 => rw [e] at hx1; cases hx1; exact ⟨k0, rfl, rfl⟩
        obtain ⟨⟨r, pl, δ⟩, ht, ht1, ht2⟩ := mem_offs.mp (List.mem_of_getElem? hk0)
        have ht1 : r = i := ht1
        have ht2 : pl = (R i).length + 1 := ht2
        subst ht1
        subst ht2
        obtain ⟨u, hu, a, dx, rfl, ha, hdx⟩ := All2.getR hts ht
        have ha : H a = some (.tup [vi r, vi ((R r).length + 1), dx]) := ha
        have hdx : DeedAt H dx δ := hdx
        have hdok : DOk δ := (hok.2 _ (List.mem_of_getElem? ht)).2
        have hel : elig R (r, (R r).length + 1, δ) ↔ FitsP R r δ := ⟨fun h => h.2, fun h => ⟨rfl, h⟩⟩
        have s06 := Same.tr s1 s6
        have D6 := DeAt.same hD s06
        obtain ⟨du6, A6, mk6, en6, rs6, dkv6, es6, S6, _⟩ := id D6
        have onk : ∀ k, k ∈ (offs ts ts.length r ((R r).length + 1)).take (j + 1) ↔ k ∈ (offs ts ts.length r ((R r).length + 1)).take j ∨ k = k0 := fun k => by
          rw [List.take_add_one, hk0, List.mem_append]
          exact or_congr Iff.rfl List.mem_singleton
        refine ⟨rfl, ?_⟩
        refine ⟨_, rfl, p, du6, _, rfl, S6.hp, dflds_no _ _ _ (by decide +kernel) (by decide +kernel) (by decide +kernel), _, rfl, _, rfl, _, rfl, l, us, (k0 : Int), .ref a, rfl, rfl, SqL.of (s06 _ _ hl), atI_nat hu, a, _, 2, dx, rfl, rfl, SqT.of (s06 _ _ ha), rfl, p, r, R, kk, N, dx, δ, rfl, D6, hdx.keep (Same.tk s06), hdok, hi8, fun H7 c s7 hc => ⟨c, rfl, ?_⟩⟩
        cases c with
        | true =>
          have he : elig R (r, (R r).length + 1, δ) := hel.mpr (hc.mp rfl)
          refine iteT ⟨_, rfl, _, s7 _ _ hD6, by rw [List.length_map]; omega, ?_⟩
          refine ⟨same_up (Same.tr s6 s7) hDn, by rw [upd_ne hLD]; exact s7 _ _ hLa6, ns2 ++ [k0], by rw [upd_same, List.map_append]; rfl, fun k => ?_, by rw [List.length_append]; show ns2.length + 1 ≤ _; omega⟩
          · rw [List.mem_append, hns2 k, onk k, List.mem_singleton]
            constructor
            · rintro ((h | ⟨h1, h2⟩) | rfl)
              · exact .inl h
              · exact .inr ⟨.inl h1, h2⟩
              · exact .inr ⟨.inr rfl, _, ht, he⟩
            · rintro (h | ⟨h1 | rfl, h2⟩)
              · exact .inl (.inl h)
              · exact .inl (.inr ⟨h1, h2⟩)
              · exact .inr rfl
        | false =>
          have he : ¬ elig R (r, (R r).length + 1, δ) := fun h => by
            have := hc.mpr (hel.mp h)
            cases this
          refine iteF ⟨Same.tr s6 s7, s7 _ _ hLa6, ns2, s7 _ _ hD6, fun k => ?_, by omega⟩
          rw [hns2 k, onk k]
          constructor
          · rintro (h | ⟨h1, h2⟩)
            · exact .inl h
            · exact .inr ⟨.inl h1, h2⟩
          · rintro (h | ⟨h1 | rfl, h2⟩)
            · exact .inl h
            · exact .inr ⟨h1, h2⟩
            · obtain ⟨t', ht', he'⟩ := h2
              rw [ht] at ht'
              cases ht'
              exact absurd he' he
      · rintro H6 ⟨s6, hLa6, ns2, hD6, hns2, hnl2⟩
        have hol : (offs ts ts.length i ((R i).length + 1)).length ≤ ts.length := by
          unfold offs
          refine Nat.le_trans (List.length_filter_le ..) ?_
          rw [List.length_range]
          exact Nat.le_refl _
        rw [List.length_map] at hnl2
        refine ⟨s6, ns2, hD6, fun k => ?_, by omega⟩
        rw [hns2 k, List.length_map, List.take_length]
        constructor
        · rintro (⟨t, h1, h2, h3⟩ | ⟨h1, t, h2, h3⟩)
          · exact ⟨t, h1, by omega, h3⟩
          · obtain ⟨t', g1, g2, g3⟩ := mem_offs.mp h1
            rw [h2] at g1
            cases g1
            exact ⟨t, h2, by omega, h3⟩
        · rintro ⟨t, h1, h2, h3⟩
          by_cases q : t.1 < i
          · exact .inl ⟨t, h1, q, h3⟩
          · have e1 : t.1 = i := by omega
            refine .inr ⟨mem_offs.mpr ⟨t, h1, e1, ?_⟩, t, h1, h3⟩
            rw [← e1]
            exact h3.1
    · rintro H2 ⟨s2, ns, hD2, hns, hnl⟩
      have e8 : ((List.range 8).map fun r => vi (R r).length).length = 8 := by rw [List.length_map, List.length_range]
      rw [e8] at hns
      obtain ⟨m1, m2⟩ := first_min hok hns
      have hD2' : H2 D = some (.lst ((ns.map fun k => ((k : Nat) : Int)).map V.int)) := by
        rw [hD2, List.map_map]
        rfl
      refine ⟨_, rfl, D, _, .non, rfl, rfl, SqL.of hD2', fun e => ?_, fun m hm hmin => ?_⟩
      · have e0 : ns = [] := by
          cases ns with
          | nil => rfl
          | cons _ _ => cases e
        have := qq H2 (Same.tr s1 s2)
        rw [m1 e0] at this
        exact this
      · obtain ⟨k, hk, rfl⟩ := List.mem_map.mp hm
        have := qq H2 (Same.tr s1 s2)
        rw [m2 k hk fun x hx => by
          have := hmin (x : Int) (List.mem_map.mpr ⟨x, hx, rfl⟩)
          omega] at this
        exact this
end
end Q07
namespace Q07
open PySem PySem.Spec PyProof.Rows L2 SX HL DM
/-! ### the offers of a packet -/
theorem key2_inj {r pl r' pl' : Nat} (h : key2 r pl = key2 r' pl') : r = r' ∧ pl = pl' := by
  unfold key2 at h
  obtain ⟨h1, h2⟩ := List.cons.inj h
  have h2 := (List.cons.inj h2).1
  have a1 : (r : Int) = r' := Sum.inl.inj h1
  have a2 : (pl : Int) = pl' := Sum.inl.inj h2
  omega
theorem offs_next (ts : List Trip) (m r pl : Nat) : offs ts (m + 1) r pl = offs ts m r pl ++ (if (pick ts m).1 = r ∧ (pick ts m).2.1 = pl then [m] else []) := by
  unfold offs
  rw [List.range_succ, List.filter_append]
  by_cases h : (pick ts m).1 = r ∧ (pick ts m).2.1 = pl
  · rw [if_pos h, List.filter_cons_of_pos (by exact decide_eq_true h), List.filter_nil]
  · rw [if_neg h, List.filter_cons_of_neg (by rw [decide_eq_false h]; decide), List.filter_nil]
theorem Off.there {H : Hp} {o : Addr} {ts : List Trip} {m : Nat} {kvs : List (List L2.Key × V)} {ad : Nat → Nat → Addr} (h : Off H o ts m kvs ad) {r pl : Nat} (hr : (pick ts m).1 = r) (hp : (pick ts m).2.1 = pl) (hn : offs ts m r pl ≠ []) :
    Off (upd H (ad r pl) (.lst ((offs ts m r pl).map vi ++ [vi m]))) o ts (m + 1) kvs ad := by
  obtain ⟨h1, h2⟩ := h.yes r pl hn
  have ne : ∀ a b, ¬ (a = r ∧ b = pl) → offs ts (m + 1) a b = offs ts m a b := fun a b q => by
    rw [offs_next, if_neg (fun (z : (pick ts m).1 = a ∧ (pick ts m).2.1 = b) => q ⟨by rw [← z.1, hr], by rw [← z.2, hp]⟩), List.append_nil]
  have eq : offs ts (m + 1) r pl = offs ts m r pl ++ [m] := by rw [offs_next, if_pos ⟨hr, hp⟩]
  have pres : ∀ a b, offs ts (m + 1) a b ≠ [] → offs ts m a b ≠ [] := fun a b q => by
    by_cases z : a = r ∧ b = pl
    · rw [z.1, z.2]; exact hn
    · rw [ne a b z] at q; exact q
  refine ⟨by rw [upd_ne (fun e => by rw [← e, h.ho] at h2; cases h2)]; exact h.ho, Nat.le_succ_of_le h.len, fun a b q => h.no a b ?_, fun a b q => ?_, fun a b a' b' q q' e => h.inj a b a' b' (pres a b q) (pres a' b' q') e⟩
  · by_cases z : a = r ∧ b = pl
    · rw [z.1, z.2, eq] at q
      exact absurd q (by simp)
    · rw [ne a b z] at q; exact q
  · obtain ⟨g1, g2⟩ := h.yes a b (pres a b q)
    refine ⟨g1, ?_⟩
    by_cases z : a = r ∧ b = pl
    · rw [z.1, z.2, upd_same, eq, List.map_append]; rfl
    · rw [ne a b z, upd_ne (fun e => z (h.inj a b r pl (pres a b q) hn e))]
      exact g2
theorem Off.new {H : Hp} {o e0 : Addr} {ts : List Trip} {m : Nat} {kvs : List (List L2.Key × V)} {ad : Nat → Nat → Addr} (h : Off H o ts m kvs ad) {r pl : Nat} (hr : (pick ts m).1 = r) (hp : (pick ts m).2.1 = pl) (hn : offs ts m r pl = []) (he : e0 ≠ o) (hf : ∀ a b, offs ts m a b ≠ [] → ad a b ≠ e0) :
    Off (upd (upd H o (.dT (putK kvs (key2 r pl) (.ref e0)))) e0 (.lst [vi m])) o ts (m + 1) (putK kvs (key2 r pl) (.ref e0)) (fun a b => if a = r ∧ b = pl then e0 else ad a b) := by
  have ne : ∀ a b, ¬ (a = r ∧ b = pl) → offs ts (m + 1) a b = offs ts m a b := fun a b q => by
    rw [offs_next, if_neg (fun (z : (pick ts m).1 = a ∧ (pick ts m).2.1 = b) => q ⟨by rw [← z.1, hr], by rw [← z.2, hp]⟩), List.append_nil]
  have eq : offs ts (m + 1) r pl = [m] := by rw [offs_next, if_pos ⟨hr, hp⟩, hn]; rfl
  have hv : ∀ a b, ¬ (a = r ∧ b = pl) → valV (putK kvs (key2 r pl) (.ref e0)) (key2 a b) = valV kvs (key2 a b) := fun a b q => by
    rw [valV_put, if_neg (fun e => q (key2_inj e))]
  refine ⟨by rw [upd_ne he.symm]; exact upd_same, ?_, fun a b q => ?_, fun a b q => ?_, fun a b a' b' q q' e => ?_⟩
  · have := length_putK kvs (key2 r pl) (V.ref e0)
    have := h.len
    omega
  · have z : ¬ (a = r ∧ b = pl) := fun z => by rw [z.1, z.2, eq] at q; cases q
    rw [hv a b z]
    rw [ne a b z] at q
    exact h.no a b q
  · by_cases z : a = r ∧ b = pl
    · rw [z.1, z.2, if_pos ⟨rfl, rfl⟩, upd_same, eq]
      exact ⟨by rw [valV_put, if_pos rfl], rfl⟩
    · rw [ne a b z] at q ⊢
      obtain ⟨g1, g2⟩ := h.yes a b q
      rw [hv a b z, if_neg z]
      refine ⟨g1, ?_⟩
      rw [upd_ne (hf a b q), upd_ne (fun e => by rw [e, h.ho] at g2; cases g2)]
      exact g2
  · by_cases z : a = r ∧ b = pl
    · by_cases z' : a' = r ∧ b' = pl
      · exact ⟨z.1.trans z'.1.symm, z.2.trans z'.2.symm⟩
      · rw [ne a' b' z'] at q'
        simp only [if_pos z, if_neg z'] at e
        exact absurd e.symm (hf a' b' q')
    · rw [ne a b z] at q
      by_cases z' : a' = r ∧ b' = pl
      · simp only [if_neg z, if_pos z'] at e
        exact absurd e (hf a b q)
      · rw [ne a' b' z'] at q'
        simp only [if_neg z, if_neg z'] at e
        exact h.inj a b a' b' q q' e
end Q07
namespace Q07
open PySem PySem.Spec PyProof.Rows L2 SX HL DM
section
variable {P : Program} {w : World} {K : PySem.W.Frag} {mg : Str → Option Value} {base : Heap}
/-! ### told the same, for the law -/
theorem rows_same {H : Hp} {A B : Addr} {rs ss : List Addr} {R R' : Rows} (h1 : RowsAt H A rs R) (h2 : RowsAt H B ss R') (hF : Few R') (e : ∀ r, r < 8 → R r = R' r) : SameD K H 5 (.ref A) (.ref B) := by
  refine .seq (.lst h1.h) (.lst h2.h) (by rw [List.length_map, List.length_map, h1.n, h2.n]) (by rw [List.length_map, h2.n]; decide) fun i u v hu hv => ?_
  rw [List.getElem?_map] at hu hv
  cases e1 : rs[i]? with
  | none => rw [e1] at hu; cases hu
  | some a =>
    cases e2 : ss[i]? with
    | none => rw [e2] at hv; cases hv
    | some b =>
      rw [e1] at hu
      rw [e2] at hv
      cases hu
      cases hv
      obtain ⟨us, ha, hus⟩ := h1.r i a e1
      obtain ⟨vs, hb, hvs⟩ := h2.r i b e2
      have hi8 : i < 8 := by have := (List.getElem?_eq_some_iff.mp e1).1; rw [h1.n] at this; exact this
      rw [e i hi8] at hus
      refine .seq (.lst ha) (.lst hb) (by rw [hus.len, hvs.len]) (by rw [hvs.len]; exact Nat.le_trans (hF i hi8).1 (by decide)) fun j u v hu hv => ?_
      obtain ⟨d, hd, hx⟩ := hus.get hu
      obtain ⟨d', hd', hy⟩ := hvs.get hv
      rw [hd] at hd'
      cases hd'
      exact DeedAt.same (n := 0) ((hF i hi8).2 d (List.mem_of_getElem? hd)) hx hy
theorem list_same {H : Hp} {n : Nat} {a b : Addr} {xs : List V} (h1 : H a = some (.lst xs)) (h2 : H b = some (.lst xs)) (hl : xs.length ≤ 1000000) (h : ∀ x ∈ xs, Leaf x) : SameD K H (n + 1) (.ref a) (.ref b) :=
  .seq (.lst h1) (.lst h2) rfl hl fun i u v hu hv => by
    rw [hu] at hv
    cases hv
    exact .leaf (h u (List.mem_of_getElem? hu))
theorem cel_same {H : Hp} {n : Nat} {x y : V} {c : Cel} (h : CelP H x c) (h' : CelP H y c) : SameD K H (n + 2) x y := by
  obtain ⟨t, xm, rfl, ht, hm⟩ := h
  obtain ⟨u, ym, rfl, hu, hn⟩ := h'
  refine .seq (.tup ht) (.tup hu) rfl (by show 3 ≤ 1000000; decide) fun i u v hu hv => ?_
  match i, hu, hv with
  | 0, hu, hv => cases hu; cases hv; exact MkAt.same hm hn
  | 1, hu, hv => cases hu; cases hv; exact .leaf True.intro
  | 2, hu, hv => cases hu; cases hv; exact .leaf True.intro
  | i + 3, hu, _ => cases hu
theorem cels_same {H : Hp} {n : Nat} {a b : Addr} {us vs : List V} {cs : List Cel} (ha : H a = some (.lst us)) (hb : H b = some (.lst vs)) (h1 : All2 (CelP H) us cs) (h2 : All2 (CelP H) vs cs) (hl : cs.length ≤ 1000000) : SameD K H (n + 3) (.ref a) (.ref b) :=
  .seq (.lst ha) (.lst hb) (by rw [h1.len, h2.len]) (by rw [h2.len]; exact hl) (all_same (R := CelP H) (fun x y c h k => cel_same h k) h1 h2)
section
variable {cD : Addr} {H H' : Hp} {p dx A mk en : Addr} {rs : List Addr} {kvs : List (Key × V)} {es : List Nat} {R : Rows} {k : Nat} {N : Addr → Prop}
theorem DSt.extN (S : DSt cD H p dx A mk en rs kvs es R k N) (e : LamX.ExtN H H') : DSt cD H' p dx A mk en rs kvs es R k (fun z => z = p ∨ z = A ∨ z = mk ∨ z = en ∨ z ∈ rs ∨ ∃ kv ∈ kvs, kv.2 = .ref z) := by
  have hp := e _ _ S.hp (fun ps z => nomatch z)
  have hm := e _ _ S.hm (fun ps z => nomatch z)
  have he := e _ _ S.he (fun ps z => nomatch z)
  have hr := S.hr.keepN e
  refine ⟨hp, hr, S.nd, S.nA, S.ne, hm, S.km, fun kv hkv => ?_, he, S.le, .inl rfl, .inr (.inl rfl), .inr (.inr (.inl rfl)), .inr (.inr (.inr (.inl rfl))), fun a h => .inr (.inr (.inr (.inr (.inl h)))), fun z hz => ?_, S.len⟩
  · obtain ⟨b, ps, h1, h2, h3, _⟩ := S.mv kv hkv
    exact ⟨b, ps, h1, e _ _ h2 (fun ps z => nomatch z), h3, .inr (.inr (.inr (.inr (.inr ⟨kv, hkv, h1⟩))))⟩
  · rcases hz with rfl | rfl | rfl | rfl | hz | ⟨kv, hkv, hz⟩
    · exact ⟨_, hp, fun xs e => (by cases e)⟩
    · exact ⟨_, hr.h, fun xs e => (by cases e)⟩
    · exact ⟨_, hm, fun xs e => (by cases e)⟩
    · exact ⟨_, he, fun xs e => (by cases e)⟩
    · obtain ⟨i, hi⟩ := List.mem_iff_getElem?.mp hz
      obtain ⟨us, h1, _⟩ := hr.r i z hi
      exact ⟨_, h1, fun xs e => (by cases e)⟩
    · obtain ⟨b, ps, h1, h2, h3, _⟩ := S.mv kv hkv
      rw [hz] at h1
      cases h1
      exact ⟨_, e _ _ h2 (fun ps z => nomatch z), fun xs e => (by cases e)⟩
end
theorem DeAt.ext {cD : Addr} {H H' : Hp} {p : Addr} {R : Rows} {k : Nat} {N : Addr → Prop} (D : DeAt cD H p R k N) (e : LamX.ExtN H H') : ∃ N', DeAt cD H' p R k N' := by
  obtain ⟨dx, A, mk, en, rs, kvs, es, S, E, M⟩ := D
  exact ⟨_, dx, A, mk, en, rs, kvs, es, DSt.extN S e, E.stay fun b ps h => e _ _ h (fun ps z => nomatch z), M⟩
theorem inV_strS (m : List Nat) (ns : List (List Nat)) : inV (.str (S m)) ((ns.map S).map V.str) = decide (m ∈ ns) := by
  induction ns with
  | nil => rfl
  | cons y r ih =>
    have : inV (.str (S m)) (((y :: r).map S).map V.str) = (S y == S m || inV (.str (S m)) ((r.map S).map V.str)) := rfl
    rw [this, ih, Bool.eq_iff_iff]
    simp only [Bool.or_eq_true, beq_iff_eq, decide_eq_true_eq, List.mem_cons]
    exact ⟨fun h => h.imp (fun e => (S_inj e).symm) id, fun h => h.imp (fun e => by rw [e]) id⟩
theorem flat_str (xs : List Str) : (xs.map V.str).all flatV = true := by
  rw [List.all_eq_true]
  intro x hx
  obtain ⟨y, _, rfl⟩ := List.mem_map.mp hx
  rfl
end
theorem DeAt.sharp {cD : Addr} {H : Hp} {p : Addr} {R : Rows} {k : Nat} {N : Addr → Prop} (D : DeAt cD H p R k N) : ∃ N', DeAt cD H p R k N' ∧ (∀ z, N' z → N z) ∧ ∀ z, N' z → ∃ o, H z = some o ∧ (∀ ps, o ≠ .tbl ps) ∧ ∀ c q, o ≠ LamX.CodeO c q := by
  obtain ⟨dx, A, mk, en, rs, kvs, es, S, E, M⟩ := D
  refine ⟨_, ⟨dx, A, mk, en, rs, kvs, es, DSt.extN S (LamX.ExtN.refl H), E, M⟩, fun z hz => ?_, fun z hz => ?_⟩
  · rcases hz with rfl | rfl | rfl | rfl | hz | ⟨kv, hkv, hz⟩
    · exact S.Np
    · exact S.NA
    · exact S.Nm
    · exact S.Ne
    · exact S.Nr _ hz
    · obtain ⟨b, ps, h1, h2, h3, h4⟩ := S.mv kv hkv
      rw [hz] at h1
      cases h1
      exact h4
  · rcases hz with rfl | rfl | rfl | rfl | hz | ⟨kv, hkv, hz⟩
    · exact ⟨_, S.hp, fun ps e => (by cases e), fun c q e => (by unfold LamX.CodeO at e; cases e)⟩
    · exact ⟨_, S.hr.h, fun ps e => (by cases e), fun c q e => (by unfold LamX.CodeO at e; cases e)⟩
    · exact ⟨_, S.hm, fun ps e => (by cases e), fun c q e => (by unfold LamX.CodeO at e; cases e)⟩
    · exact ⟨_, S.he, fun ps e => (by cases e), fun c q e => (by unfold LamX.CodeO at e; cases e)⟩
    · obtain ⟨i, hi⟩ := List.mem_iff_getElem?.mp hz
      obtain ⟨us, h1, _⟩ := S.hr.r i z hi
      exact ⟨_, h1, fun ps e => (by cases e), fun c q e => (by unfold LamX.CodeO at e; cases e)⟩
    · obtain ⟨b, ps, h1, h2, h3, h4⟩ := S.mv kv hkv
      rw [hz] at h1
      cases h1
      exact ⟨_, h2, fun ps e => (by cases e), fun c q e => (by unfold LamX.CodeO at e; cases e)⟩
end Q07
namespace Q07
open PySem PySem.Spec PyProof.Rows L2 SX HL DM
theorem DeAt.lenR {cD : Addr} {H : Hp} {p : Addr} {R : Rows} {k : Nat} {N : Addr → Prop} (D : DeAt cD H p R k N) : ∀ r, (R r).length ≤ k := by
  obtain ⟨dx, A, mk, en, rs, kvs, es, S, E, M⟩ := D
  exact S.len
theorem DeAt.tk {cD : Addr} {H H' : Hp} {p : Addr} {R : Rows} {k : Nat} {N : Addr → Prop} (D : DeAt cD H p R k N) (f : ∀ z o, H z = some o → ¬ N z → H' z = some o) : TupK H H' := by
  obtain ⟨_, _, _, _, _, _, _, S, _⟩ := D
  exact S.tk f
theorem DeAt.off {cD a : Addr} {H : Hp} {p : Addr} {R : Rows} {k : Nat} {N : Addr → Prop} {us ys : List V} (D : DeAt cD H p R k N) (h : H a = some (.lst us)) (n : ¬ N a) : DeAt cD (upd H a (.lst ys)) p R k N := by
  obtain ⟨dx, A, mk, en, rs, kvs, es, S, E, M⟩ := D
  have t : TupK H (upd H a (.lst ys)) := tk_upd fun xs e => by rw [h] at e; cases e
  exact ⟨dx, A, mk, en, rs, kvs, es, S.stay (fun z o e hz => by rw [upd_ne (fun q => n (by rw [← q]; exact hz))]; exact e) t, E.stay fun b ps e => by rw [upd_ne (fun z => by rw [z, h] at e; cases e)]; exact e, M⟩
section
variable {P : Program} {w : World} {K : PySem.W.Frag} {mg : Str → Option Value} {base : Heap}
/-! ### received -/
def spReceived (cD : Addr) : Sp := fun vs H Q _ => ∃ (p l : Addr) (R : Rows) (k : Nat) (N : Addr → Prop) (us : List V) (ts : List Trip), vs = [.ref p, .ref l] ∧ DeAt cD H p R k N ∧ k ≤ 100 ∧ Fits100 R ts.length ∧ H l = some (.lst us) ∧ All2 (TripAt H) us ts ∧ PkOk ts ∧
  ∀ H' z q T R1 k' N' ws, Same H H' → H' z = some (.tup [.ref q, .ref T]) → (∀ r, r < 8 → R1 r = R r) → DeAt cD H' q (recvR ts R1) k' N' → k' ≤ tot R 8 + ts.length → H' T = some (.lst ws) → All2 (TripAt H') ws ((recvT ts R1).map (pick ts)) →
    (∀ x, N' x → H x = none) → ¬ N' T → ¬ N' z → H T = none → H z = none → Q (.ref z) H'
theorem ok_received {k : Nat} (hk : 3 ≤ k) (Z : Defs K mg) (GDeedsCopy : FnOk P w K mg base CX0 3 Z.fDeedsCopy Z.fdDeedsCopy ["self"] (spCopy Z.cDeeds)) (GDeedsAdd : FnOk P w K mg base CX0 2 Z.fDeedsAdd Z.fdDeedsAdd ["self", "replica", "deed"] (spAdd Z.cDeeds)) (GFirstFitting : FnOk P w K mg base CX0 2 Z.fFirstFitting Z.fdFirstFitting ["known", "packet", "offers"] (spFF Z.cDeeds)) : FnOk P w K mg base CX0 (k + 1) Z.fReceived Z.fdReceived ["deeds", "packet"] (spReceived Z.cDeeds) := by
  refine Z.DReceived.F.ok scReceived (fun vs H Q E h => ?_) (fun cdv A outer s H vs Q E hr h => ?_)
  · obtain ⟨p, l, R, kk, N, us, ts, rfl, _⟩ := h
    rfl
  · obtain ⟨p, l, R, kk, N, us, ts, rfl, hD, hkk, hF, hl, hts, hok, qq⟩ := h
    refine ⟨_, (pss_cons (ps_set (i := 2) scReceived.nd rfl (.inl rfl) pe_dnewT)
        (pss_cons (ps_for PassesOwn.never rfl (pi_enum (by rfl) Z.enumerate (pa_cons (pv 1) pa_nil)) (pg_tup rfl (pgs_cons (pg_name (i := 3) scReceived.nd rfl (.inl rfl)) (pgs_cons (pg_tup rfl (pgs_cons (pg_name (i := 4) scReceived.nd rfl (.inl rfl)) (pgs_cons (pg_name (i := 5) scReceived.nd rfl (.inl rfl)) (pgs_cons (pg_name (i := 6) scReceived.nd rfl (.inl rfl)) pgs_nil)))) pgs_nil))) (pss_one (ps_expr (pe_bm PySem.F.plainAttrs_list PySem.F.slot_list_append PySem.F.type_list_append mt_append (ED.pe_dsetdT (hu_of hr) (pv 2) (pe_tup (pa_cons (pv 4) (pa_cons (pv 5) pa_nil))) (pe_lst pa_nil) ⟨rfl, rfl, rfl, rfl⟩) (pa_cons (pv 3) pa_nil)))))
        (pss_cons (ps_set (i := 7) scReceived.nd rfl (.inl rfl) (pe_meth0 (pv 0) Z.CDeeds.cl Z.DDeedsCopy.m GDeedsCopy (hr.mono (by omega)) Z.DDeedsCopy.b .nil pass0))
        (pss_cons (ps_set (i := 8) scReceived.nd rfl (.inl rfl) (pe_lst pa_nil))
        (pss_cons (ps_set (i := 3) scReceived.nd rfl (.inl rfl) (pe_call GFirstFitting (hr.mono (by omega)) (by rfl) Z.DFirstFitting.g Z.DFirstFitting.F.kp Z.DFirstFitting.b .nil pass0 (pa_cons (pv 7) (pa_cons (pv 1) (pa_cons (pv 2) pa_nil)))))
        (pss_cons (ps_while PassesOwn.never (pt_cmp (pc_notN (pv 3))) (pss_cons (ps_asg (pe_ix ix_list (pv 1) (pv 3) (fun _ _ => rfl)) (pg_tup rfl (pgs_cons (pg_name (i := 4) scReceived.nd rfl (.inl rfl)) (pgs_cons (pg_name (i := 6) scReceived.nd rfl (.inl rfl)) (pgs_cons (pg_name (i := 9) scReceived.nd rfl (.inl rfl)) pgs_nil)))))
        (pss_cons (ps_expr (pe_meth (pv 7) Z.CDeeds.cl Z.DDeedsAdd.m GDeedsAdd (hr.mono (by omega)) Z.DDeedsAdd.b .nil pass0 (pa_cons (pv 4) (pa_cons (pv 9) pa_nil))))
        (pss_cons (ps_expr (pe_bm PySem.F.plainAttrs_list PySem.F.slot_list_append PySem.F.type_list_append mt_append (pv 8) (pa_cons (pe_ix ix_list (pv 1) (pv 3) (fun _ _ => rfl)) pa_nil)))
        (pss_one (ps_set (i := 3) scReceived.nd rfl (.inl rfl) (pe_call GFirstFitting (hr.mono (by omega)) (by rfl) Z.DFirstFitting.g Z.DFirstFitting.F.kp Z.DFirstFitting.b .nil pass0 (pa_cons (pv 7) (pa_cons (pv 1) (pa_cons (pv 2) pa_nil))))))))))
        (pss_one (ps_ret (pe_tup (pa_cons (pv 7) (pa_cons (pv 8) pa_nil))))))))))), ?_⟩
    have big : 16777216 ≤ sizeLine := by decide +kernel
    have hn := hok.1
    have hul := hts.len
    refine fun o ho => ?_
    have s0 := same_upd (o := .dT []) ho
    have g0 : upd H o (.dT []) o = some (.dT []) := upd_same
    generalize upd H o (.dT []) = H0 at *
    refine ⟨_, rfl, l, us, rfl, SqL.of (s0 _ _ hl), ?_⟩
    refine for_it walk_enum (fun i σ H' => ∃ (y3 y4 y5 y6 : Option V) (kvs : List (List L2.Key × V)) (ad : Nat → Nat → Addr), σ = [some (.ref p), some (.ref l), some (.ref o), y3, y4, y5, y6, none, none, none] ∧ Same H H' ∧ Off H' o ts i kvs ad ∧ ∀ a b, offs ts i a b ≠ [] → H (ad a b) = none)
      ⟨none, none, none, none, [], fun _ _ => 0, rfl, s0, ⟨g0, Nat.le_refl _, fun _ _ _ => rfl, fun a b q => absurd rfl q, fun a b a' b' q => absurd rfl q⟩, fun a b q => absurd rfl q⟩ (fun i σ H' _ ⟨_, _, _, _, _, _, _, s, _⟩ => SqL.of (s _ _ hl)) ?_ ?_
    · rintro i x σ H1 H1' hi ⟨y3, y4, y5, y6, kvs, ad, rfl, s1, off1, hnew⟩ ⟨T, x1, x2, rfl, hT, rfl, e1, e2⟩
      obtain rfl : V.int (i : Nat) = x1 := Option.some.inj e1
      replace e2 : us[i]? = some x2 := e2
      obtain ⟨⟨r, pl, δ⟩, ht, a, dx, rfl, ha, hdx⟩ := hts.get e2
      have ha : H a = some (.tup [vi r, vi pl, dx]) := ha
      have hpk := pick_eq ht
      have hr : (pick ts i).1 = r := by rw [hpk]
      have hp : (pick ts i).2.1 = pl := by rw [hpk]
      have s2 : Same H1 (upd H1 T (.tup [.int (i : Nat), .ref a])) := same_upd hT
      have g2 : upd H1 T (.tup [.int (i : Nat), .ref a]) T = some (.tup [.int (i : Nat), .ref a]) := upd_same
      generalize upd H1 T (.tup [.int (i : Nat), .ref a]) = H2 at s2 g2
      have s02 := Same.tr s1 s2
      refine ⟨T, _, rfl, SqT.of g2, rfl, _, _, rfl, _, _, rfl, a, _, rfl, SqT.of (s02 _ _ ha), rfl, _, _, rfl, _, _, rfl, _, _, rfl, rfl, rfl, ?_⟩
      have off2 := off1.keep s2
      refine ⟨_, rfl, o, rfl, .inr ⟨_, .inl off2.ho⟩, _, rfl, _, rfl, by show 2 ≤ sizeLine; decide, fun kt hkt => ⟨by show 0 ≤ sizeLine; decide, fun e0 he0 => ?_⟩⟩
      have s3 := same_upd (o := .tup [vi r, vi pl]) hkt
      have g3 : upd H2 kt (.tup [vi r, vi pl]) kt = some (.tup ((key2 r pl).map kV)) := upd_same
      generalize upd H2 kt (.tup [vi r, vi pl]) = H3 at s3 g3 he0
      have s4 := same_upd (o := .lst []) he0
      have g4 : upd H3 e0 (.lst []) e0 = some (.lst []) := upd_same
      have heH : H e0 = none := Same.none (Same.tr s02 s3) he0
      have heo : e0 ≠ o := fun e => by
        have := s3 _ _ off2.ho
        rw [← e, he0] at this
        cases this
      have hea : ∀ x y, offs ts i x y ≠ [] → ad x y ≠ e0 := fun x y q e => by
        have := s3 _ _ (off2.yes x y q).2
        rw [e, he0] at this
        cases this
      generalize upd H3 e0 (.lst []) = H4 at s4 g4
      have s04 := Same.tr s02 (Same.tr s3 s4)
      have off4 := off2.keep (Same.tr s3 s4)
      have hkl := off4.len
      have hi2 : i < us.length := hi
      have hol : ∀ x y, (offs ts i x y).length ≤ i := fun x y => by
        unfold offs
        refine Nat.le_trans (List.length_filter_le ..) ?_
        rw [List.length_range]
        exact Nat.le_refl _
      refine ⟨kt, kvs, key2 r pl, off4.ho, rfl, s4 _ _ g3, by omega, fun v hv => ?_, fun hv => ?_⟩
      · have hno : offs ts i r pl ≠ [] := fun q => by rw [off4.no _ _ q] at hv; cases hv
        obtain ⟨q1, q2⟩ := off4.yes _ _ hno
        rw [q1] at hv
        cases hv
        have := hol r pl
        refine ⟨.inl ⟨rfl, _, SqL.of q2⟩, _, rfl, ad r pl, _, _, rfl, rfl, q2, by rw [List.length_map]; omega, ?_⟩
        refine ⟨_, _, _, _, kvs, ad, rfl, same_up s04 (hnew _ _ hno), off4.there hr hp hno, fun x y q => ?_⟩
        by_cases z : x = r ∧ y = pl
        · rw [z.1, z.2]; exact hnew _ _ hno
        · rw [offs_next, if_neg (fun (w : (pick ts i).1 = x ∧ (pick ts i).2.1 = y) => z ⟨by rw [← w.1, hr], by rw [← w.2, hp]⟩), List.append_nil] at q
          exact hnew _ _ q
      · have hno : offs ts i r pl = [] := by
          cases e : offs ts i r pl with
          | nil => rfl
          | cons _ _ =>
            have := (off4.yes r pl (by rw [e]; simp)).1
            rw [hv] at this
            cases this
        have g5 : upd H4 o (.dT (putK kvs (key2 r pl) (.ref e0))) e0 = some (.lst []) := by rw [upd_ne heo]; exact g4
        refine ⟨.inl ⟨rfl, _, SqL.of g5⟩, _, rfl, e0, _, _, rfl, rfl, g5, by show 0 < sizeLine; decide, ?_⟩
        refine ⟨_, _, _, _, _, _, rfl, same_up (same_up s04 ho) heH, off4.new hr hp hno heo hea, fun x y q => ?_⟩
        by_cases z : x = r ∧ y = pl
        · rw [if_pos z]; exact heH
        · rw [if_neg z]
          rw [offs_next, if_neg (fun (w : (pick ts i).1 = x ∧ (pick ts i).2.1 = y) => z ⟨by rw [← w.1, hr], by rw [← w.2, hp]⟩), List.append_nil] at q
          exact hnew _ _ q
    · rintro σ H1 ⟨y3, y4, y5, y6, kvs, ad, rfl, s1, off1, hnew⟩
      rw [hul] at off1
      have D1 := DeAt.same hD s1
      obtain ⟨du, A0, mk, en, rs, dkv, es, S1, _⟩ := id D1
      refine ⟨_, rfl, p, du, _, rfl, S1.hp, dflds_no _ _ _ (by decide +kernel) (by decide +kernel) (by decide +kernel), p, R, kk, N, rfl, D1, hkk, fun r hr => (hF r hr).2, fun H2 q R1 k1 N1 s2 D2 hk1 hk1t hN1 hR1 => ?_⟩
      obtain ⟨N2, D2, hsub, hsh⟩ := DeAt.sharp D2
      have hF1 : Fits100 R1 ts.length := fun r hr => by rw [hR1 r hr]; exact hF r hr
      have few : ∀ i, Few (run ts R1 i).1 := run_few hF1 hok
      have hN2 : ∀ z, N2 z → H1 z = none := fun z h => hN1 z (hsub z h)
      refine ⟨Nat.zero_le _, fun T hT => ?_⟩
      have hT2N : ¬ N2 T := fun h => by
        obtain ⟨x, hx, _⟩ := hsh T h
        rw [hT] at hx
        cases hx
      have s3 := same_upd (o := .lst []) hT
      have g3 : upd H2 T (.lst []) T = some (.lst []) := upd_same
      have hTH1 : H1 T = none := Same.none s2 hT
      have D3 := DeAt.same D2 s3
      generalize upd H2 T (.lst []) = H3 at s3 g3 D3
      have s13 := Same.tr s2 s3
      have s03 := Same.tr s1 s13
      have tr : ∀ {H'}, Same H H' → All2 (TripAt H') us ts := fun s => hts.mono fun v t h => TripAt.keep h (Same.tk s)
      refine ⟨_, rfl, _, rfl, _, rfl, q, l, o, R1, k1, N2, us, ts, kvs, ad, rfl, D3, few 0, s03 _ _ hl, tr s03, hok, off1.keep s13, fun H4 s4 => ?_⟩
      refine ⟨fun m σ H' => ∃ (j : Nat) (y4 y5 y6 y9 : Option V) (N3 : Addr → Prop) (ws : List V), σ = [some (.ref p), some (.ref l), some (.ref o), some (nV (nx ts (run ts R1 j).1)), y4, y5, y6, some (.ref q), some (.ref T), y9] ∧ Same H1 H' ∧ DeAt Z.cDeeds H' q (run ts R1 j).1 (k1 + j) N3 ∧ (∀ z, N3 z → H1 z = none ∧ z ≠ T) ∧ H' T = some (.lst ws) ∧ All2 (TripAt H') ws ((run ts R1 j).2.map (pick ts)) ∧ j ≤ ts.length ∧ m = ts.length - j,
        ⟨_, 0, y4, y5, y6, none, N2, [], rfl, Same.tr s13 s4, DeAt.same D3 s4, fun z h => ⟨hN2 z h, fun e => hT2N (by rw [← e]; exact h)⟩, s4 _ _ g3, .nil, Nat.zero_le _, rfl⟩, ?_⟩
      rintro m σ H5 ⟨j, y4, y5, y6, y9, N3, ws, rfl, s5, D5, hN3, hT5, hws, hj, rfl⟩
      have s05 := Same.tr s1 s5
      cases e : nx ts (run ts R1 j).1 with
      | none =>
        have e2 := run_stop e
        refine ⟨_, rfl, _, rfl, iteF ?_⟩
        refine ⟨_, rfl, _, rfl, by show 2 ≤ sizeLine; decide, fun z hz => ?_⟩
        have sz := same_upd (o := .tup [.ref q, .ref T]) hz
        rw [e2] at D5 hws
        obtain ⟨N4, D4', hsub4, hsh4⟩ := DeAt.sharp D5
        refine qq _ z q T R1 (k1 + j) N4 ws (Same.tr s05 sz) upd_same hR1 (DeAt.same D4' sz) (by omega) (sz _ _ hT5) (hws.mono fun v t h => TripAt.keep h (Same.tk sz)) (fun x hx => Same.none s1 (hN3 x (hsub4 x hx)).1) (fun h => (hN3 T (hsub4 T h)).2 rfl) (fun h => ?_) (Same.none s1 hTH1) (Same.none s05 hz)
        obtain ⟨x, hx, _⟩ := hsh4 z h
        rw [hz] at hx
        cases hx
      | some k0 =>
        obtain ⟨t, ht, hel, _⟩ : FirstIs ts (run ts R1 j).1 (some k0) := by rw [← e]; exact nx_is _ _
        have e2 := run_some e ht
        have hjlt := run_lt (P := ts) (R := R1) (n := j) (by rw [e]; simp)
        obtain ⟨r, pl, δ⟩ := t
        obtain ⟨u, hu, a, dx, rfl, ha, hdx⟩ := All2.getR hts ht
        have ha : H a = some (.tup [vi r, vi pl, dx]) := ha
        have hdx : DeedAt H dx δ := hdx
        obtain ⟨hr8, hdok⟩ := hok.2 _ (List.mem_of_getElem? ht)
        have hr8 : r < 8 := hr8
        have hdok : DOk δ := hdok
        obtain ⟨du5, A5, mk5, en5, rs5, dkv5, es5, S5, _⟩ := id D5
        refine ⟨_, rfl, _, rfl, iteT ?_⟩
        refine ⟨fun σ' H' => ∃ (y4 y5 y6 y9 : Option V) (N3 : Addr → Prop) (ws : List V), σ' = [some (.ref p), some (.ref l), some (.ref o), some (nV (nx ts (run ts R1 (j + 1)).1)), y4, y5, y6, some (.ref q), some (.ref T), y9] ∧ Same H1 H' ∧ DeAt Z.cDeeds H' q (run ts R1 (j + 1)).1 (k1 + (j + 1)) N3 ∧ (∀ z, N3 z → H1 z = none ∧ z ≠ T) ∧ H' T = some (.lst ws) ∧ All2 (TripAt H') ws ((run ts R1 (j + 1)).2.map (pick ts)), ?_, ?_⟩
        · rintro σ' H' ⟨y4, y5, y6, y9, N3, ws, r1, r2, r3, r4, r5, r6⟩
          exact ⟨ts.length - (j + 1), by omega, j + 1, y4, y5, y6, y9, N3, ws, r1, r2, r3, r4, r5, r6, by omega, rfl⟩
        refine ⟨_, rfl, _, rfl, l, us, (k0 : Int), .ref a, rfl, rfl, SqL.of (s05 _ _ hl), atI_nat hu, a, _, rfl, SqT.of (s05 _ _ ha), rfl, _, _, rfl, _, _, rfl, _, _, rfl, rfl, ?_⟩
        refine ⟨_, rfl, q, du5, _, rfl, S5.hp, dflds_no _ _ _ (by decide +kernel) (by decide +kernel) (by decide +kernel), _, rfl, _, rfl, q, r, (run ts R1 j).1, k1 + j, N3, dx, δ, rfl, D5, hdx.keep (Same.tk s05), hdok, hr8, by omega, fun H6 N6 f6 D6 n6 => ?_⟩
        have s16 : Same H1 H6 := fun z x h => f6 _ _ (s5 _ _ h) (fun n => by rw [(hN3 z n).1] at h; cases h)
        have hT6 : H6 T = some (.lst ws) := f6 _ _ hT5 (fun n => (hN3 T n).2 rfl)
        have k56 : TupK H5 H6 := DeAt.tk D5 f6
        have hN6 : ∀ z, N6 z → H1 z = none ∧ z ≠ T := fun z h => (n6 z h).elim (hN3 z) fun h5 => ⟨Same.none s5 h5, fun e => by rw [e, hT5] at h5; cases h5⟩
        have s06 := Same.tr s1 s16
        have hwl := hws.len
        have htl := taken_le ts R1 j
        rw [List.length_map] at hwl
        refine ⟨_, rfl, .inl ⟨rfl, _, SqL.of hT6⟩, _, rfl, _, rfl, l, us, (k0 : Int), .ref a, rfl, rfl, SqL.of (s06 _ _ hl), atI_nat hu, T, _, _, rfl, rfl, hT6, by omega, ?_⟩
        have D7 := DeAt.off (ys := ws ++ [.ref a]) D6 hT6 (fun n => (hN6 T n).2 rfl)
        have s17 : Same H1 (upd H6 T (.lst (ws ++ [.ref a]))) := same_up s16 hTH1
        have g7 : upd H6 T (.lst (ws ++ [.ref a])) T = some (.lst (ws ++ [.ref a])) := upd_same
        have k67 : TupK H6 (upd H6 T (.lst (ws ++ [.ref a]))) := tk_upd fun xs e => by rw [hT6] at e; cases e
        have hws7 : All2 (TripAt (upd H6 T (.lst (ws ++ [.ref a])))) (ws ++ [.ref a]) ((run ts R1 (j + 1)).2.map (pick ts)) := by
          rw [e2, List.map_append]
          refine (hws.mono fun v d h => TripAt.keep (TripAt.keep h k56) k67).app (.one ?_)
          rw [pick_eq ht]
          exact ⟨a, dx, rfl, k67 _ _ (s06 _ _ ha), (hdx.keep (Same.tk s06)).keep k67⟩
        generalize upd H6 T (.lst (ws ++ [.ref a])) = H7 at s17 g7 k67 hws7 D7
        have eR : (run ts R1 (j + 1)).1 = addR (run ts R1 j).1 r δ := by rw [e2]
        rw [← eR] at D7
        have s07 := Same.tr s1 s17
        refine ⟨_, rfl, _, rfl, _, rfl, q, l, o, _, k1 + j + 1, N6, us, ts, kvs, ad, rfl, D7, few (j + 1), s07 _ _ hl, tr s07, hok, off1.keep s17, fun H8 s8 => ?_⟩
        exact ⟨_, _, _, _, N6, ws ++ [.ref a], rfl, Same.tr s17 s8, DeAt.same D7 s8, hN6, s8 _ _ g7, hws7.mono fun v d h => TripAt.keep h (Same.tk s8)⟩
end
end Q07
namespace Q07
open PySem PySem.Spec PyProof.Rows L2 SX HL DM
/-! ### only the eight rows count -/
def Agree (R R' : Rows) : Prop := ∀ r, r < 8 → R r = R' r
theorem changes_agree {R R' : Rows} (h : Agree R R') (m : List Nat) : changes R m = changes R' m := by
  unfold changes
  rw [List.flatMap_def, List.flatMap_def]
  refine congrArg List.flatten (List.map_congr_left fun r hr => ?_)
  unfold chR
  rw [h r (List.mem_range.mp hr)]
theorem marks_agree {R R' : Rows} (h : Agree R R') (m : List Nat) : marks R m = marks R' m := by
  unfold marks found
  rw [changes_agree h]
theorem elig_agree {R R' : Rows} (h : Agree R R') {t : Trip} (ht : t.1 < 8) : elig R t ↔ elig R' t := by
  unfold elig
  rw [h _ ht]
  refine and_congr Iff.rfl ?_
  cases e : t.2.2 with
  | back n =>
    show (1 ≤ n ∧ n ≤ (R t.1).length) ↔ (1 ≤ n ∧ n ≤ (R' t.1).length)
    rw [h _ ht]
  | change m x b n z =>
    show (_ ∧ (∀ y ∈ x ++ b.toList, y ∈ marks R m ∧ y.1 < n) ∧ 1 ≤ n ∧ ∀ e ∈ R t.1, endD e ≤ n) ↔ (_ ∧ (∀ y ∈ x ++ b.toList, y ∈ marks R' m ∧ y.1 < n) ∧ 1 ≤ n ∧ ∀ e ∈ R' t.1, endD e ≤ n)
    rw [h _ ht, marks_agree h]
theorem nx_agree {R R' : Rows} (h : Agree R R') {ts : List Trip} (hok : ∀ t ∈ ts, t.1 < 8) : nx ts R = nx ts R' := by
  have h2 := nx_is ts R'
  refine nx_eq ?_
  cases e : nx ts R' with
  | none =>
    rw [e] at h2
    exact fun t ht hel => h2 t ht ((elig_agree h (hok t ht)).mp hel)
  | some k =>
    rw [e] at h2
    obtain ⟨t, h3, h4, h5⟩ := h2
    exact ⟨t, h3, (elig_agree h (hok t (List.mem_of_getElem? h3))).mpr h4, fun j hj t' ht' hel => h5 j hj t' ht' ((elig_agree h (hok t' (List.mem_of_getElem? ht'))).mp hel)⟩
theorem run_agree {R R' : Rows} (h : Agree R R') {ts : List Trip} (hok : ∀ t ∈ ts, t.1 < 8) : ∀ i, Agree (run ts R i).1 (run ts R' i).1 ∧ (run ts R i).2 = (run ts R' i).2
  | 0 => ⟨h, rfl⟩
  | i + 1 => by
    obtain ⟨h1, h2⟩ := run_agree h hok i
    have e := nx_agree h1 hok
    cases q : nx ts (run ts R' i).1 with
    | none =>
      rw [q] at e
      rw [run_none e 1, run_none q 1]
      exact ⟨h1, h2⟩
    | some k =>
      rw [q] at e
      obtain ⟨t, ht, _⟩ : FirstIs ts (run ts R' i).1 (some k) := by rw [← q]; exact nx_is _ _
      rw [run_some e ht, run_some q ht]
      refine ⟨fun r hr => ?_, by rw [h2]⟩
      show addR _ _ _ r = addR _ _ _ r
      unfold addR
      by_cases z : r = t.1
      · rw [if_pos z, if_pos z, h1 t.1 (hok t (List.mem_of_getElem? ht))]
      · rw [if_neg z, if_neg z, h1 r hr]
theorem recv_agree {R R' : Rows} (h : Agree R R') {ts : List Trip} (hok : ∀ t ∈ ts, t.1 < 8) : Agree (recvR ts R) (recvR ts R') ∧ recvT ts R = recvT ts R' := run_agree h hok ts.length
/-! ### the rows of an object: beginnings of the rows of all deeds, each deed when what it names stands -/
/-- R is W's beginnings -/
def Pre (W R : Rows) : Prop := ∀ r, r < 8 → ∃ c, R r = (W r).take c
/-- R was built deed by deed, each fitting when it came -/
inductive Built (W : Rows) : List Trip → Rows → Prop
  | nil : Built W [] fun _ => []
  | snoc {L : List Trip} {R : Rows} {t : Trip} : Built W L R → t.1 < 8 → elig R t → (W t.1)[(R t.1).length]? = some t.2.2 → Built W (L ++ [t]) (addR R t.1 t.2.2)
theorem pre_add {W R : Rows} {t : Trip} (h : Pre W R) (ht : t.1 < 8) (he : (W t.1)[(R t.1).length]? = some t.2.2) : Pre W (addR R t.1 t.2.2) := fun r hr => by
  obtain ⟨c, hc⟩ := h r hr
  unfold addR
  by_cases z : r = t.1
  · refine ⟨(R t.1).length + 1, ?_⟩
    rw [if_pos z, z, List.take_add_one, he]
    obtain ⟨c2, hc2⟩ := h t.1 ht
    have hl : (R t.1).length ≤ c2 := by rw [hc2, List.length_take]; exact Nat.min_le_left ..
    have e2 : (W t.1).take (R t.1).length = R t.1 := by
      have : ((W t.1).take c2).take (R t.1).length = (R t.1).take (R t.1).length := by rw [← hc2]
      rw [List.take_take, List.take_length] at this
      rw [Nat.min_eq_left hl] at this
      exact this
    rw [e2]
    rfl
  · exact ⟨c, by rw [if_neg z]; exact hc⟩
theorem Built.pre {W : Rows} {L : List Trip} {R : Rows} (h : Built W L R) : Pre W R := by
  induction h with
  | nil => exact fun r hr => ⟨0, rfl⟩
  | snoc _ ht _ he ih => exact pre_add ih ht he
end Q07
namespace Q07
open PySem PySem.Spec PyProof.Rows L2 SX HL DM
/-! ### what all have taken in is the join -/
/-- the trip tells its deed's place in W -/
def Truth (W : Rows) (t : Trip) : Prop := t.1 < 8 ∧ 1 ≤ t.2.1 ∧ (W t.1)[t.2.1 - 1]? = some t.2.2
/-- where it fits, it is the deed of W -/
def Fair (W : Rows) (t : Trip) : Prop := ∀ R, Pre W R → elig R t → t.1 < 8 ∧ (W t.1)[(R t.1).length]? = some t.2.2
theorem Truth.fair {W : Rows} {t : Trip} (h : Truth W t) : Fair W t := fun R hp he => by
  refine ⟨h.1, ?_⟩
  have := he.1
  have e : (R t.1).length = t.2.1 - 1 := by omega
  rw [e]
  exact h.2.2
theorem Pre.le {W R : Rows} (h : Pre W R) {r : Nat} (hr : r < 8) : (R r).length ≤ (W r).length ∧ R r = (W r).take (R r).length := by
  obtain ⟨c, hc⟩ := h r hr
  have e : (R r).length = min c (W r).length := by rw [hc, List.length_take]
  refine ⟨by omega, ?_⟩
  rw [e]
  rcases Nat.le_total c (W r).length with q | q
  · rw [Nat.min_eq_left q]; exact hc
  · rw [Nat.min_eq_right q, List.take_length, hc, List.take_of_length_le q]
theorem run_built {W : Rows} {P : List Trip} (hP : ∀ t ∈ P, Fair W t) {R : Rows} {L : List Trip} (hB : Built W L R) : ∀ i, ∃ L', Built W L' (run P R i).1
  | 0 => ⟨L, hB⟩
  | i + 1 => by
    obtain ⟨L', hL⟩ := run_built hP hB i
    cases e : nx P (run P R i).1 with
    | none => rw [run_none e 1]; exact ⟨L', hL⟩
    | some k =>
      obtain ⟨t, ht, hel, _⟩ : FirstIs P (run P R i).1 (some k) := by rw [← e]; exact nx_is _ _
      rw [run_some e ht]
      obtain ⟨h8, hw⟩ := hP t (List.mem_of_getElem? ht) _ hL.pre hel
      exact ⟨_, .snoc hL h8 hel hw⟩
theorem run_grow (P : List Trip) (R : Rows) : ∀ i r, (R r).length ≤ ((run P R i).1 r).length
  | 0, r => Nat.le_refl _
  | i + 1, r => by
    have ih := run_grow P R i r
    cases e : nx P (run P R i).1 with
    | none => rw [run_none e 1]; exact ih
    | some k =>
      obtain ⟨t, ht, _⟩ : FirstIs P (run P R i).1 (some k) := by rw [← e]; exact nx_is _ _
      rw [run_some e ht]
      show _ ≤ (addR _ _ _ r).length
      unfold addR
      by_cases z : r = t.1
      · rw [if_pos z, List.length_append, ← z]; omega
      · rw [if_neg z]; exact ih
/-- a deed that fitted fits still where more stands and its own row is as it was -/
theorem fits_mono {R F : Rows} {r : Nat} {δ : Deed} (hr : r < 8) (hm : ∀ x, x < 8 → ∀ d ∈ R x, d ∈ F x) (he : F r = R r) (h : FitsP R r δ) : FitsP F r δ := by
  cases δ with
  | back n =>
    show 1 ≤ n ∧ n ≤ (F r).length
    rw [he]
    exact h
  | change m x b n z =>
    obtain ⟨h1, h2, h3, h4⟩ := h
    refine ⟨h1, fun y hy => ⟨marks_mono hm (h2 y hy).1, (h2 y hy).2⟩, h3, ?_⟩
    rw [he]
    exact h4
/-- what G holds, F holds, when no deed that G has and K lacks fits F any more -/
theorem join_le {W K F : Rows} {P : List Trip} (hF : Pre W F) (hKF : ∀ r, (K r).length ≤ (F r).length) (hend : nx P F = none) : ∀ {L : List Trip} {G : Rows}, Built W L G →
    (∀ t, t.1 < 8 → (K t.1).length < t.2.1 → t.2.1 ≤ (G t.1).length → (W t.1)[t.2.1 - 1]? = some t.2.2 → t ∈ P) → ∀ r, r < 8 → (G r).length ≤ (F r).length := by
  intro L G hB
  induction hB with
  | nil => exact fun _ r _ => Nat.zero_le _
  | @snoc L R t hB ht hel hw ih =>
    intro hP r hr
    have hg : ∀ x, (R x).length ≤ (addR R t.1 t.2.2 x).length := fun x => by
      unfold addR
      by_cases z : x = t.1
      · rw [if_pos z, List.length_append, z]; omega
      · rw [if_neg z]; exact Nat.le_refl _
    have ih := ih fun u h1 h2 h3 h4 => hP u h1 h2 (Nat.le_trans h3 (hg u.1)) h4
    unfold addR
    by_cases z : r = t.1
    · rw [if_pos z, List.length_append]
      rcases Nat.lt_or_ge (R t.1).length (F r).length with q | q
      · show (R t.1).length + 1 ≤ _
        omega
      · exfalso
        have e1 : (F t.1).length = (R t.1).length := by
          have := ih t.1 ht
          rw [z] at q
          omega
        have hRp := hB.pre
        have eFR : F t.1 = R t.1 := by
          rw [(hF.le ht).2, (hRp.le ht).2, e1]
        have hsub : ∀ x, x < 8 → ∀ d ∈ R x, d ∈ F x := fun x hx d hd => by
          rw [(hRp.le hx).2] at hd
          rw [(hF.le hx).2]
          exact List.mem_of_mem_take (i := (R x).length) (by rw [List.take_take, Nat.min_eq_left (ih x hx)]; exact hd)
        have hpl := hel.1
        have helF : elig F t := ⟨by rw [e1]; exact hpl, fits_mono ht hsub eFR hel.2⟩
        have hmem : t ∈ P := hP t ht (by have := hKF t.1; omega) (by
          show t.2.1 ≤ (addR R t.1 t.2.2 t.1).length
          unfold addR
          rw [if_pos rfl, List.length_append]
          show _ ≤ _ + 1
          omega) (by rw [hpl]; exact hw)
        have hn := nx_is P F
        rw [hend] at hn
        exact hn t hmem helF
    · rw [if_neg z]
      exact ih r hr
end Q07
namespace Q07
open PySem PySem.Spec PyProof.Rows L2 SX HL DM
theorem mem_lackT {R : Rows} {cn : Nat → Nat} {t : Trip} : t ∈ lackT R cn ↔ t.1 < 8 ∧ cn t.1 < t.2.1 ∧ (R t.1)[t.2.1 - 1]? = some t.2.2 ∧ 1 ≤ t.2.1 := by
  unfold lackT lackR
  rw [List.mem_flatMap]
  constructor
  · rintro ⟨r, hr, h⟩
    obtain ⟨i, hi, rfl⟩ := List.mem_map.mp h
    have hr8 := List.mem_range.mp hr
    have hi2 := List.mem_range.mp hi
    refine ⟨hr8, by show cn r < cn r + i + 1; omega, ?_, by show 1 ≤ cn r + i + 1; omega⟩
    show (R r)[cn r + i + 1 - 1]? = some ((R r).getD (cn r + i) (.back 0))
    have e : cn r + i + 1 - 1 = cn r + i := by omega
    have hlt : cn r + i < (R r).length := by omega
    rw [e, List.getElem?_eq_getElem hlt, List.getD_eq_getElem?_getD, List.getElem?_eq_getElem hlt]
    rfl
  · rintro ⟨h1, h2, h3, h4⟩
    have hlt := (List.getElem?_eq_some_iff.mp h3).1
    refine ⟨t.1, List.mem_range.mpr h1, List.mem_map.mpr ⟨t.2.1 - 1 - cn t.1, List.mem_range.mpr (by omega), ?_⟩⟩
    have e1 : cn t.1 + (t.2.1 - 1 - cn t.1) = t.2.1 - 1 := by omega
    rw [e1, List.getD_eq_getElem?_getD, h3]
    show (t.1, t.2.1 - 1 + 1, t.2.2) = t
    have e2 : t.2.1 - 1 + 1 = t.2.1 := by omega
    rw [e2]
theorem lack_truth {W G : Rows} (hG : Pre W G) {cn : Nat → Nat} {t : Trip} (h : t ∈ lackT G cn) : Truth W t := by
  obtain ⟨h1, h2, h3, h4⟩ := mem_lackT.mp h
  refine ⟨h1, h4, ?_⟩
  have hlt := (List.getElem?_eq_some_iff.mp h3).1
  rw [(hG.le h1).2, List.getElem?_take_of_lt hlt] at h3
  exact h3
theorem run_top {P : List Trip} {R : Rows} {B : Nat → Nat} (hP : ∀ t ∈ P, t.2.1 ≤ B t.1) : ∀ i r, ((run P R i).1 r).length ≤ max (R r).length (B r)
  | 0, r => Nat.le_max_left ..
  | i + 1, r => by
    have ih := run_top (R := R) hP i r
    cases e : nx P (run P R i).1 with
    | none => rw [run_none e 1]; exact ih
    | some k =>
      obtain ⟨t, ht, hel, _⟩ : FirstIs P (run P R i).1 (some k) := by rw [← e]; exact nx_is _ _
      rw [run_some e ht]
      have h1 := hP t (List.mem_of_getElem? ht)
      have h2 := hel.1
      show (addR _ _ _ r).length ≤ _
      unfold addR
      by_cases z : r = t.1
      · rw [if_pos z, List.length_append, z]
        show _ + 1 ≤ _
        omega
      · rw [if_neg z]; exact ih
/-- an object that takes in what it lacks of another: the join -/
theorem recv_join {W K G : Rows} {LK LG : List Trip} (hK : Built W LK K) (hG : Built W LG G) : (∃ L, Built W L (recvR (lackT G fun r => (K r).length) K)) ∧ ∀ r, r < 8 → (recvR (lackT G fun r => (K r).length) K r).length = max (K r).length (G r).length := by
  have hfair : ∀ t ∈ lackT G (fun r => (K r).length), Fair W t := fun t ht => (lack_truth hG.pre ht).fair
  obtain ⟨L, hL⟩ := run_built hfair hK (lackT G fun r => (K r).length).length
  refine ⟨⟨L, hL⟩, fun r hr => ?_⟩
  have h1 := run_grow (lackT G fun r => (K r).length) K (lackT G fun r => (K r).length).length
  have h2 := join_le (P := lackT G fun r => (K r).length) (K := K) hL.pre h1 (run_end _ _) hG (fun t h3 h4 h5 h6 => mem_lackT.mpr ⟨h3, h4, by
    rw [(hG.pre.le h3).2, List.getElem?_take_of_lt (by omega)]
    exact h6, by omega⟩) r hr
  have h3 := run_top (P := lackT G fun r => (K r).length) (R := K) (B := fun r => (G r).length) (fun t ht => by
    obtain ⟨_, _, h3, h4⟩ := mem_lackT.mp ht
    have := (List.getElem?_eq_some_iff.mp h3).1
    omega) (lackT G fun r => (K r).length).length r
  have h4 := h1 r
  show ((run _ K _).1 r).length = _
  omega
/-- a turned packet is fair -/
theorem turned_fair {W : Rows} (hl : ∀ r, r < 8 → (W r).length ≤ 50) {B : Nat} (hB : EndsBy W B) (hB9 : B ≤ 9000) {ts : List Trip} (hts : ∀ t ∈ ts, Truth W t) {t : Trip} (ht : Turned ts t) : Fair W t := by
  rcases ht with ht | ⟨u, hu, rfl⟩ | ⟨r, pl, m, x, b, n, z, hu, rfl⟩
  · exact (hts t ht).fair
  · intro R hp he
    have h1 := (hts u hu).1
    have h2 := (hp.le h1).1
    have h3 := hl u.1 h1
    have h4 : u.2.1 + 100 = (R u.1).length + 1 := he.1
    omega
  · intro R hp he
    have h1 : (9999, 0) ∈ marks R m := (he.2.2.1 (9999, 0) (List.mem_append_left _ (List.mem_append_right _ (List.mem_singleton.mpr rfl)))).1
    have h2 : (9999, 0) ∈ marks W m := marks_mono (fun r hr d hd => by
      rw [(hp.le hr).2] at hd
      exact List.mem_of_mem_take hd) h1
    have h3 := mark_by h2 hB
    have h4 : 9999 + 1 ≤ B := h3
    omega
/-- after two turns of three, all hold the same -/
theorem three_join {a b c : Nat} : let b1 := max b a; let c1 := max c b1; let a1 := max a c1; let b2 := max b1 a1; let c2 := max c1 b2; let a2 := max a1 c2; a2 = b2 ∧ c2 = b2 := by
  intro b1 c1 a1 b2 c2 a2
  simp only [b1, c1, a1, b2, c2, a2]
  omega
theorem pre_eq {W R R' : Rows} (h : Pre W R) (h' : Pre W R') (hl : ∀ r, r < 8 → (R r).length = (R' r).length) : Agree R R' := fun r hr => by
  rw [(h.le hr).2, (h'.le hr).2, hl r hr]
end Q07
namespace Q07
open PySem PySem.Spec PyProof.Rows L2 SX HL DM
/-! ### the heap without some lists: what changes there is not seen -/
noncomputable def hide (H : Hp) (S : Addr → Prop) : Hp := fun z => open Classical in if S z then none else H z
theorem hide_out {H : Hp} {S : Addr → Prop} {z : Addr} (h : ¬ S z) : hide H S z = H z := by
  unfold hide
  rw [if_neg h]
theorem hide_in {H : Hp} {S : Addr → Prop} {z : Addr} (h : S z) : hide H S z = none := by
  unfold hide
  rw [if_pos h]
theorem hide_same {H : Hp} {S : Addr → Prop} : Same (hide H S) H := fun z o h => by
  by_cases q : S z
  · rw [hide_in q] at h; cases h
  · rw [hide_out q] at h; exact h
theorem hide_tk {H : Hp} {S : Addr → Prop} (hS : ∀ z, S z → ∃ l, H z = some (.lst l)) : TupK H (hide H S) := fun a xs h => by
  by_cases q : S a
  · obtain ⟨l, hl⟩ := hS a q
    rw [hl] at h
    cases h
  · rw [hide_out q]; exact h
theorem RowsAt.hide {H : Hp} {S : Addr → Prop} (hS : ∀ z, S z → ∃ l, H z = some (.lst l)) {A : Addr} {rs : List Addr} {R : Rows} (h : RowsAt H A rs R) (hA : ¬ S A) (hr : ∀ a ∈ rs, ¬ S a) : RowsAt (hide H S) A rs R :=
  ⟨by rw [hide_out hA]; exact h.h, h.n, fun i a e => by
    obtain ⟨us, h1, h2⟩ := h.r i a e
    exact ⟨us, by rw [hide_out (hr a (List.mem_of_getElem? e))]; exact h1, h2.mono fun v d k => k.keep (hide_tk hS)⟩⟩
theorem DeAt.hide {cD : Addr} {H : Hp} {S : Addr → Prop} (hS : ∀ z, S z → ∃ l, H z = some (.lst l)) {p : Addr} {R : Rows} {k : Nat} {N : Addr → Prop} (D : DeAt cD H p R k N) (hN : ∀ z, N z → ¬ S z) : DeAt cD (hide H S) p R k N := by
  obtain ⟨dx, A, mk, en, rs, kvs, es, S1, E1, M1⟩ := D
  refine ⟨dx, A, mk, en, rs, kvs, es, S1.stay (fun z o h n => by rw [hide_out (hN z n)]; exact h) (hide_tk hS), E1.stay fun b ps h => ?_, M1⟩
  by_cases q : S b
  · obtain ⟨l, hl⟩ := hS b q
    rw [hl] at h
    cases h
  · rw [hide_out q]; exact h
/-- a change of a hidden list is not seen -/
theorem same_hide {B H : Hp} {z : Addr} {o : HO} (s : Same B H) (h : B z = none) : Same B (upd H z o) := same_up s h
end Q07
namespace Q07
open PySem PySem.Spec PyProof.Rows L2 SX HL DM
section
variable {P : Program} {w : World} {K : PySem.W.Frag} {mg : Str → Option Value} {base : Heap}
/-! ### _law_start -/
abbrev noRows : Rows := fun _ => []
/-- an object of the law: its rows, its Deeds; nothing of it is one of S -/
def ObAt (cD : Addr) (H0 H : Hp) (S : Addr → Prop) (ts : List Trip) (o : Addr) : Prop := ∃ (A p : Addr) (rs : List Addr) (Pk : List Trip) (R' : Rows) (n : Nat) (N : Addr → Prop), H o = some (.lst [.ref A, .ref p]) ∧ RowsAt H A rs (recvR Pk noRows) ∧ rs.Nodup ∧ (∀ a ∈ rs, a ≠ A) ∧
  (∀ t ∈ Pk, t ∈ ts) ∧ Pk.length ≤ ts.length ∧ DeAt cD H p R' n N ∧ Agree R' (recvR Pk noRows) ∧ n ≤ 8 * ts.length ∧ (∀ z, N z → H0 z = none ∧ ¬ S z) ∧ ¬ S A ∧ ∀ a ∈ rs, ¬ S a
def spStart (cD : Addr) : Sp := fun vs H Q _ => ∃ (d tl : Addr) (ds : List Int) (us : List V) (ts : List Trip), vs = [.ref d, .ref tl] ∧ H d = some (.lst (ds.map V.int)) ∧ Draws ds ∧ H tl = some (.lst us) ∧ All2 (TripAt H) us ts ∧ ts.length ≤ 30 ∧ (∀ t ∈ ts, t.1 < 8 ∧ DOk t.2.2) ∧
  ∀ H' O (os : List Addr), Same H H' → H' O = some (.lst (os.map V.ref)) → H O = none → os.length = 3 → os.Nodup → (∀ o ∈ os, o ≠ O ∧ H o = none) → (∀ o ∈ os, ObAt cD H H' (fun z => z = O ∨ z ∈ os) ts o) → Q (.ref O) H'
theorem ok_lstart {k : Nat} (hk : 12 ≤ k) (Z : Defs K mg) (GLawAt : FnOk P w K mg base CX0 12 Z.fLawAt Z.fdLawAt ["draws", "index"] spAt) (GLawReceived : FnOk P w K mg base CX0 12 Z.fLawReceived Z.fdLawReceived ["rows", "packet"] spRecv) (GDeedsInit : FnOk P w K mg base CX0 1 Z.fDeedsInit Z.fdDeedsInit ["self"] (spInit Z.cDeeds)) (GDeedsAdd : FnOk P w K mg base CX0 12 Z.fDeedsAdd Z.fdDeedsAdd ["self", "replica", "deed"] (spAdd Z.cDeeds)) : FnOk P w K mg base CX0 (k + 1) Z.fLawStart Z.fdLawStart ["draws", "triples"] (spStart Z.cDeeds) := by
  refine Z.DLawStart.F.ok scLawStart (fun vs H Q E h => ?_) (fun cdv A outer s H vs Q E hr h => ?_)
  · obtain ⟨d, tl, ds, us, ts, rfl, _⟩ := h
    rfl
  · obtain ⟨d, tl, ds, us, ts, rfl, hd, hDr, htl, hts, hn, hok, qq⟩ := h
    refine ⟨_, (pss_cons (ps_set (i := 2) scLawStart.nd rfl (.inl rfl) (pe_lst pa_nil))
        (pss_cons (ps_for PassesOwn.never rfl (pi_range1 (by rfl) Z.range (pa_cons pe_int pa_nil)) (pg_name (i := 3) scLawStart.nd rfl (.inr rfl)) (pss_cons (ps_set (i := 4) scLawStart.nd rfl (.inl rfl) (pe_call GLawReceived (hr.mono (by omega)) (by rfl) Z.DLawReceived.g Z.DLawReceived.F.kp Z.DLawReceived.b .nil pass0 (pa_cons (pe_lc (own := [("j", 8)]) (g := (gName 8)) (by rfl) scLawStart.nd (pi_range1 (by rfl) Z.range (pa_cons pe_int pa_nil)) (blkOk_by (own := [("j", 8)]) (N := ["draws", "triples", "objects", "k", "some", "deeds", "replica", "deed", "j", "each"]) (sc := defScope sLawStart) (by decide +kernel)) (fun _ _ _ _ _ => (pg_name (i := 8) scLawStart.nd rfl (Or.inl rfl))) (fun _ _ _ _ _ => pts_nil) (fun _ _ _ _ _ => (pe_lst pa_nil))) (pa_cons (pe_lc (own := [("each", 9)]) (g := (gName 9)) (by rfl) scLawStart.nd (pi_list (pv 1)) (blkOk_by (own := [("each", 9)]) (N := ["draws", "triples", "objects", "k", "some", "deeds", "replica", "deed", "j", "each"]) (sc := defScope sLawStart) (by decide +kernel)) (fun _ _ _ _ _ => (pg_name (i := 9) scLawStart.nd rfl (Or.inl rfl))) (fun _ _ _ _ _ => (pts_one (pt_cmpR op_ne (pe_op op_mod (pe_call GLawAt (hr.mono (by omega)) (by rfl) Z.DLawAt.g Z.DLawAt.F.kp Z.DLawAt.b .nil pass0 (pa_cons (pv 0) (pa_cons (pe_op op_add (pe_op op_add pe_int (pe_op op_mul pe_int (pe_ix (HL.ix_tupK (K := K) rfl) (pv 9) pe_int (fun _ _ => rfl)))) (pv 3)) pa_nil))) pe_int) pe_int (nomark _)))) (fun _ _ _ _ _ => (pv 9))) pa_nil))))
        (pss_cons (ps_set (i := 5) scLawStart.nd rfl (.inl rfl) (pe_make0 Z.CDeeds.make GDeedsInit (hr.mono (by omega)) rfl Z.CDeeds.g Z.DDeedsInit.b .nil pass0))
        (pss_cons (ps_for PassesOwn.never rfl (pi_range1 (by rfl) Z.range (pa_cons pe_int pa_nil)) (pg_name (i := 6) scLawStart.nd rfl (.inl rfl)) (pss_one (ps_for PassesOwn.never rfl (pi_list (pe_ix ix_list (pe_ix ix_list (pv 4) pe_int (fun _ _ => rfl)) (pv 6) (fun _ _ => rfl))) (pg_name (i := 7) scLawStart.nd rfl (.inl rfl)) (pss_one (ps_expr (pe_meth (pv 5) Z.CDeeds.cl Z.DDeedsAdd.m GDeedsAdd (hr.mono (by omega)) Z.DDeedsAdd.b .nil pass0 (pa_cons (pv 6) (pa_cons (pv 7) pa_nil))))))))
        (pss_one (ps_expr (pe_bm PySem.F.plainAttrs_list PySem.F.slot_list_append PySem.F.type_list_append mt_append (pv 2) (pa_cons (pe_lst (pa_cons (pe_ix ix_list (pv 4) pe_int (fun _ _ => rfl)) (pa_cons (pv 5) pa_nil))) pa_nil))))))))
        (pss_one (ps_ret (pv 2))))), ?_⟩
    have big : 16777216 ≤ sizeLine := by decide +kernel
    refine ⟨Nat.zero_le _, fun O hO => ?_⟩
    have sO := same_upd (o := .lst []) hO
    refine ⟨3, rfl, by decide, by decide, ?_⟩
    refine for_range (lo := 0) (n := 3) (fun i σ H' => ∃ (y3 y4 y5 y6 y7 : Option V) (os : List Addr), σ = [some (.ref d), some (.ref tl), some (.ref O), y3, y4, y5, y6, y7, none, none] ∧ Same H H' ∧ H' O = some (.lst (os.map V.ref)) ∧ os.length = i ∧ os.Nodup ∧ (∀ o ∈ os, o ≠ O ∧ H o = none) ∧ ∀ o ∈ os, ObAt Z.cDeeds H H' (fun z => z = O ∨ z ∈ os) ts o)
      ⟨none, none, none, none, none, [], rfl, sO, upd_same, rfl, List.Pairwise.nil, fun o h => (by cases h), fun o h => (by cases h)⟩ ?_ ?_
    · rintro i σ H1 hi ⟨y3, y4, y5, y6, y7, os, rfl, s1, hO1, hol, hond, hos, hob⟩
      refine ⟨8, rfl, by decide, by decide, fun E0 hE0 => ?_⟩
      refine lc_range (lo := 0) (n := 8) (fun j H' => Same H1 H' ∧ ∃ rs : List Addr, H' E0 = some (.lst (rs.map V.ref)) ∧ rs.length = j ∧ rs.Nodup ∧ ∀ a ∈ rs, a ≠ E0 ∧ H' a = some (.lst []) ∧ H1 a = none) ⟨same_upd hE0, [], upd_same, rfl, List.Pairwise.nil, fun a h => (by cases h)⟩ ?_ ?_
      · rintro j H2 hj ⟨s2, rs, hA1, hrl, hnd, hrs⟩
        refine ⟨rfl, lc_yes ⟨Nat.zero_le _, fun a ha => ?_⟩⟩
        have naA : a ≠ E0 := fun e => by rw [e, hA1] at ha; cases ha
        have haH : H1 a = none := Same.none s2 ha
        have old : ∀ b ∈ rs, b ≠ a := fun b hb e => by have := (hrs b hb).2.1; rw [e, ha] at this; cases this
        refine ⟨_, by rw [upd_ne (fun e => naA e.symm)]; exact hA1, by rw [List.length_map, hrl]; exact Nat.lt_of_lt_of_le hj (by decide), fun z o hz => by rw [upd_ne (ne_of_none hz hE0), upd_ne (ne_of_none hz haH)]; exact s2 _ _ hz, rs ++ [a], by rw [upd_same, List.map_append]; rfl, by rw [List.length_append, hrl]; rfl, ?_, fun b hb => ?_⟩
        · refine List.pairwise_append.mpr ⟨hnd, List.pairwise_singleton .., fun x hx y hy => ?_⟩
          rw [List.mem_singleton.mp hy]
          exact old x hx
        · rcases List.mem_append.mp hb with hb | hb
          · obtain ⟨h1, h2, h3⟩ := hrs b hb
            exact ⟨h1, by rw [upd_ne h1, upd_ne (old b hb)]; exact h2, h3⟩
          · rw [List.mem_singleton.mp hb]
            exact ⟨naA, by rw [upd_ne naA, upd_same], haH⟩
      · rintro H2 ⟨s2, rsE, hA1, hrl, hnd, hrs⟩
        have RE : RowsAt H2 E0 rsE noRows := ⟨hA1, hrl, fun j a h => ⟨[], (hrs a (List.mem_of_getElem? h)).2.1, .nil⟩⟩
        have s02 := Same.tr s1 s2
        refine ⟨_, rfl, tl, rfl, ⟨_, SqL.of (s02 _ _ htl)⟩, fun F hF => ?_⟩
        refine lc_it walk_list (fun j H' => Same H2 H' ∧ ∃ (us' : List V) (ts' : List Trip), H' F = some (.lst us') ∧ All2 (TripAt H') us' ts' ∧ (∀ t ∈ ts', t ∈ ts) ∧ ts'.length ≤ j) ⟨same_upd hF, [], [], upd_same, .nil, fun t h => (by cases h), Nat.le_refl _⟩ (fun j H' _ q => SqL.of (q.1 _ _ (s02 _ _ htl))) ?_ ?_
        · rintro j x H3 H3' hj ⟨s3, us', ts', hF3, hus', hsub, hlen⟩ ⟨rfl, hx⟩
          obtain ⟨⟨r, pl, δ⟩, ht, a, dx, rfl, ha, hdx⟩ := hts.get hx
          have ha : H a = some (.tup [vi r, vi pl, dx]) := ha
          have hdx : DeedAt H dx δ := hdx
          have s03 := Same.tr s02 s3
          have hul' := hus'.len
          have hj30 : j < us.length := hj
          have hul := hts.len
          refine ⟨rfl, ?_⟩
          refine ⟨_, rfl, _, rfl, a, _, 1, vi pl, rfl, rfl, SqT.of (s03 _ _ ha), rfl, _, _, rfl, rfl, .inl ⟨by decide, by decide⟩, _, _, rfl, rfl, _, rfl, _, _, rfl, rfl, d, ds, _, rfl, s03 _ _ hd, hDr, by omega, fun v v0 v1 => ⟨_, _, rfl, rfl, (by show (0 : Int) < 4; decide), rfl, _, rfl, ite2 (fun e => ?_) (fun e => ?_)⟩⟩
          · have kF : TupK H3' (upd H3' F (.lst (us' ++ [.ref a]))) := tk_upd fun xs e => by rw [hF3] at e; cases e
            refine ⟨_, rfl, us', hF3, by omega, same_up s3 hF, us' ++ [.ref a], ts' ++ [(r, pl, δ)], upd_same, (hus'.mono fun v t h => TripAt.keep h kF).app (.one ⟨a, dx, rfl, kF _ _ (s03 _ _ ha), (hdx.keep (Same.tk s03)).keep kF⟩), fun t h => ?_, by rw [List.length_append]; show ts'.length + 1 ≤ _; omega⟩
            rcases List.mem_append.mp h with h | h
            · exact hsub t h
            · rw [List.mem_singleton.mp h]; exact List.mem_of_getElem? ht
          · exact ⟨s3, us', ts', hF3, hus', hsub, by omega⟩
        · rintro H3 ⟨s3, us', Pk, hF3, hus', hsub, hlen⟩
          rw [hts.len] at hlen
          have hsubP := hsub
          have hPk : PkOk Pk := ⟨by omega, fun t h => hok t (hsub t h)⟩
          refine ⟨E0, F, rsE, noRows, us', Pk, rfl, RE.keep s3, fun r hr => ⟨by show 0 + Pk.length ≤ 100; omega, fun d h => (by cases h)⟩, hF3, hus', hPk, fun H4 z A T rs4 ws s4 hz4 nr hT4 hws4 hTn hzn hzT hzA hTA hrz => ?_⟩
          have hRl : ∀ r, r < 8 → (recvR Pk noRows r).length ≤ ts.length ∧ ∀ d ∈ recvR Pk noRows r, DOk d := fun r hr => by
            obtain ⟨h1, h2⟩ := run_room (R := noRows) (ts := Pk) (fun r hr => ⟨by show 0 + Pk.length ≤ 100; omega, fun d h => (by cases h)⟩) hPk Pk.length r hr
            have h3 := taken_le Pk noRows Pk.length
            have h4 : (noRows r).length = 0 := rfl
            exact ⟨by show ((run Pk noRows Pk.length).1 r).length ≤ _; omega, h2⟩
          refine fun q dq hq hdq ndq => ⟨q, dq, rfl, upd_same, fun H5 N1 f1 D5 n1 => ⟨rfl, ?_⟩⟩
          have s5 : Same H4 H5 := fun z o h => f1 _ _ (by rw [upd_ne (ne_of_none h hq), upd_ne (ne_of_none h hdq)]; exact h) (ne_of_none h hq)
          have n1' : ∀ z, N1 z → H4 z = none := fun z h => by
            rcases n1 z h with e | e
            · rw [e]; exact hq
            · by_cases e1 : z = q
              · rw [e1]; exact hq
              · rw [upd_ne e1] at e
                by_cases e2 : z = dq
                · rw [e2]; exact hdq
                · rw [upd_ne e2] at e; exact e
          have RA := nr.at_
          refine ⟨8, rfl, by decide, by decide, ?_⟩
          refine for_range (lo := 0) (n := 8) (fun r σ H' => ∃ (y6 y7 : Option V) (n : Nat) (N' : Addr → Prop), σ = [some (.ref d), some (.ref tl), some (.ref O), some (.int (0 + (i : Int))), some (.ref z), some (.ref q), y6, y7, none, none] ∧ Same H4 H' ∧ DeAt Z.cDeeds H' q (partC (recvR Pk noRows) r 0) n N' ∧ (∀ z, N' z → H4 z = none) ∧ n ≤ r * ts.length)
            ⟨y6, y7, 0, N1, rfl, s5, by rw [partC_zero]; exact D5, n1', Nat.zero_le _⟩ ?_ ?_
          · rintro r σ H6 hr8 ⟨y6, y7, n, N', rfl, s6, D6, n6, hnn⟩
            obtain ⟨ra, ur, hrs0, hrv, hra, hur⟩ := (RA.keep s6).get hr8
            obtain ⟨hl1, hl2⟩ := hRl r hr8
            have ij : atI (rs4.map V.ref) (0 + (r : Int)) = some (.ref ra) := by rw [Int.zero_add]; exact atI_nat hrv
            have hm8 : r * ts.length ≤ 7 * ts.length := Nat.mul_le_mul_right _ (by omega)
            have hraH : H4 ra = some (.lst ur) ∨ True := .inr trivial
            obtain ⟨ur4, hra4, hur4⟩ := RA.r r ra hrs0
            have e4 := s6 _ _ hra4
            rw [hra] at e4
            cases e4
            refine ⟨_, rfl, z, _, 0, .ref A, rfl, rfl, SqL.of (s6 _ _ hz4), rfl, _, rfl, A, _, _, .ref ra, rfl, rfl, SqL.of (RA.keep s6).h, ij, ra, rfl, ⟨_, SqL.of hra⟩, ?_⟩
            refine for_it walk_list (fun j σ H' => ∃ (y7 : Option V) (n : Nat) (N' : Addr → Prop), σ = [some (.ref d), some (.ref tl), some (.ref O), some (.int (0 + (i : Int))), some (.ref z), some (.ref q), some (.int (0 + (r : Int))), y7, none, none] ∧ Same H4 H' ∧ DeAt Z.cDeeds H' q (partC (recvR Pk noRows) r j) n N' ∧ (∀ z, N' z → H4 z = none) ∧ n ≤ r * ts.length + j)
              ⟨y7, n, N', rfl, s6, D6, n6, hnn⟩ (fun j σ H' _ ⟨_, _, _, _, s, _⟩ => SqL.of (s _ _ hra4)) ?_ ?_
            · rintro j x σ H7 H7' hj ⟨y7, n, N', rfl, s7, D7, n7, hn7⟩ ⟨rfl, hx⟩
              obtain ⟨du7, A7, mk7, en7, rs7, kvs7, es7, S7, _⟩ := id D7
              obtain ⟨dd, hdd, hdx⟩ := hur4.get hx
              have hdx : DeedAt H4 x dd := hdx
              have hj2 : j < (recvR Pk noRows r).length := (List.getElem?_eq_some_iff.mp hdd).1
              have r0 : V.int (0 + (r : Int)) = vi r := by rw [Int.zero_add]; rfl
              refine ⟨_, rfl, q, du7, _, rfl, S7.hp, dflds_no _ _ _ (by decide +kernel) (by decide +kernel) (by decide +kernel), _, rfl, _, rfl, q, r, partC (recvR Pk noRows) r j, n, N', x, dd, by rw [← r0]; rfl, D7, hdx.keep (Same.tk s7), hl2 dd (List.mem_of_getElem? hdd), hr8, by omega, fun H8 N8 f8 D8 n8 => ?_⟩
              refine ⟨_, n + 1, N8, rfl, fun z o h => f8 _ _ (s7 _ _ h) (fun n => by rw [n7 z n] at h; cases h), by rw [← partC_next hdd]; exact D8, fun z h => ?_, Nat.succ_le_succ hn7⟩
              rcases n8 z h with h | h
              · exact n7 z h
              · exact Same.none s7 h
            · rintro σ H7 ⟨y7, n, N', rfl, s7, D7, n7, hn7⟩
              rw [hur.len, partC_row] at D7
              rw [hur.len] at hn7
              refine ⟨_, _, n, N', rfl, s7, D7, n7, ?_⟩
              rw [Nat.succ_mul]
              omega
          · rintro σ H6 ⟨y6, y7, n, N', rfl, s6, D6, n6, hnn⟩
            have s13 := Same.tr s2 s3
            have s14 := Same.tr s13 s4
            have s04 := Same.tr s1 s14
            have hO4 : H4 O = some (.lst (os.map V.ref)) := s14 _ _ hO1
            have hO6 := s6 _ _ hO4
            refine ⟨_, rfl, .inl ⟨rfl, _, SqL.of hO6⟩, _, rfl, z, _, 0, .ref A, rfl, rfl, SqL.of (s6 _ _ hz4), rfl, _, rfl, by show 2 ≤ sizeLine; decide, fun on hon => ?_⟩
            have sv := same_upd (o := .lst [.ref A, .ref q]) hon
            have gon : upd H6 on (.lst [.ref A, .ref q]) on = some (.lst [.ref A, .ref q]) := upd_same
            generalize upd H6 on (.lst [.ref A, .ref q]) = H7 at sv gon
            have hO7 := sv _ _ hO6
            have s17 : Same H1 H7 := Same.tr s14 (Same.tr s6 sv)
            have s07 := Same.tr s1 s17
            have honO : on ≠ O := fun e => by rw [e, hO6] at hon; cases hon
            have on1 : H1 on = none := Same.none (Same.tr s14 s6) hon
            have oso : ∀ o ∈ os, ∃ l, H1 o = some (.lst l) := fun o ho => by
              obtain ⟨_, _, _, _, _, _, _, h1, _⟩ := hob o ho
              exact ⟨_, h1⟩
            have honos : on ∉ os := fun h => by
              obtain ⟨l, hl⟩ := oso on h
              rw [hl] at on1
              cases on1
            refine ⟨O, _, _, rfl, rfl, hO7, by rw [List.length_map, hol]; exact Nat.lt_of_lt_of_le hi (by decide), ?_⟩
            have k78 : TupK H7 (upd H7 O (.lst (os.map V.ref ++ [.ref on]))) := tk_upd fun xs e => by rw [hO7] at e; cases e
            refine ⟨_, _, _, _, _, os ++ [on], rfl, same_up s07 hO, by rw [upd_same, List.map_append]; rfl, by rw [List.length_append, hol]; rfl, ?_, fun o ho => ?_, fun o ho => ?_⟩
            · refine List.nodup_append.mpr ⟨hond, List.nodup_cons.mpr ⟨by simp, List.Pairwise.nil⟩, fun x hx y hy => ?_⟩
              rw [List.mem_singleton.mp hy]
              exact fun e => honos (by rw [← e]; exact hx)
            · rcases List.mem_append.mp ho with ho | ho
              · exact hos o ho
              · rw [List.mem_singleton.mp ho]; exact ⟨honO, Same.none s1 on1⟩
            · have S' : ∀ x, (∃ w, H1 x = some w) → ¬ (x = O ∨ x ∈ os) → ¬ (x = O ∨ x ∈ os ++ [on]) := fun x ⟨w, hw⟩ h h' => by
                rcases h' with h' | h'
                · exact h (.inl h')
                · rcases List.mem_append.mp h' with h' | h'
                  · exact h (.inr h')
                  · rw [List.mem_singleton.mp h', on1] at hw
                    cases hw
              rcases List.mem_append.mp ho with ho | ho
              · obtain ⟨A', p', rs', Pk', R', n', N0, h1, h2, h3, h4, h5, h6, h7, h8, h9, h10, h11, h12⟩ := hob o ho
                obtain ⟨Ns, Ds, hsub, hsh⟩ := DeAt.sharp h7
                refine ⟨A', p', rs', Pk', R', n', Ns, by rw [upd_ne (hos o ho).1]; exact s17 _ _ h1, RowsAt.off2 (h2.keep s17) k78 (fun e => h11 (.inl e)) (fun a ha e => h12 a ha (.inl e)), h3, h4, h5, h6, DeAt.off (DeAt.same Ds s17) hO7 (fun m => (h10 O (hsub O m)).2 (.inl rfl)), h8, h9, fun x hx => ⟨(h10 x (hsub x hx)).1, ?_⟩, S' A' ⟨_, h2.h⟩ h11, fun a ha => ?_⟩
                · obtain ⟨w, hw, _⟩ := hsh x hx
                  exact S' x ⟨w, hw⟩ (h10 x (hsub x hx)).2
                · obtain ⟨j, hj⟩ := List.mem_iff_getElem?.mp ha
                  obtain ⟨us2, hu2, _⟩ := h2.r j a hj
                  exact S' a ⟨_, hu2⟩ (h12 a ha)
              · rw [List.mem_singleton.mp ho]
                obtain ⟨Ns, Ds, hsub, hsh⟩ := DeAt.sharp D6
                have hO3 : H3 O = some (.lst (os.map V.ref)) := s13 _ _ hO1
                -- what was fresh later is none of them
                have T' : ∀ x, H3 x = none → (∃ w, H6 x = some w) → ¬ (x = O ∨ x ∈ os ++ [on]) := fun x h3 ⟨w, hw⟩ h => by
                  rcases h with rfl | h
                  · rw [hO3] at h3; cases h3
                  · rcases List.mem_append.mp h with h | h
                    · obtain ⟨l, hl⟩ := oso x h
                      rw [s13 _ _ hl] at h3
                      cases h3
                    · rw [List.mem_singleton.mp h, hon] at hw
                      cases hw
                have RA6 := RA.keep s6
                have RA7 := RA6.keep sv
                have nAO : A ≠ O := fun e => T' A nr.fA ⟨_, RA6.h⟩ (.inl e)
                have nrs : ∀ a ∈ rs4, ¬ (a = O ∨ a ∈ os ++ [on]) := fun a ha => by
                  obtain ⟨j, hj⟩ := List.mem_iff_getElem?.mp ha
                  obtain ⟨us2, hu2, _⟩ := RA6.r j a hj
                  exact T' a (nr.fr a ha) ⟨_, hu2⟩
                refine ⟨A, q, rs4, Pk, _, n, Ns, by rw [upd_ne honO]; exact gon, RowsAt.off2 RA7 k78 nAO (fun a ha e => nrs a ha (.inl e)), nr.nd, nr.ne, hsubP, by omega, DeAt.off (DeAt.same Ds sv) hO7 (fun m => ?_), fun r hr => if_pos hr, hnn, fun x hx => ?_, T' A nr.fA ⟨_, RA6.h⟩, nrs⟩
                · have := n6 O (hsub O m)
                  rw [hO4] at this
                  cases this
                · obtain ⟨w, hw, _⟩ := hsh x hx
                  have h4 := n6 x (hsub x hx)
                  exact ⟨Same.none s04 h4, T' x (Same.none s4 h4) ⟨w, hw⟩⟩
    · rintro σ H1 ⟨y3, y4, y5, y6, y7, os, rfl, s1, hO1, hol, hond, hos, hob⟩
      exact ⟨_, rfl, qq H1 O os s1 hO1 hO hol hond hos hob⟩
end
end Q07
namespace Q07
open PySem PySem.Spec PyProof.Rows L2 SX HL DM
section
variable {P : Program} {w : World} {K : PySem.W.Frag} {mg : Str → Option Value} {base : Heap}
/-! ### _law_passes -/
theorem trip_same {H : Hp} {x y : V} {t : Trip} (hd : DOk t.2.2) (h1 : TripAt H x t) (h2 : TripAt H y t) : SameD K H 4 x y := by
  obtain ⟨a, dx, rfl, ha, hda⟩ := h1
  obtain ⟨b, dy, rfl, hb, hdb⟩ := h2
  refine .seq (.tup ha) (.tup hb) rfl (by show 3 ≤ 1000000; decide) fun i u v hu hv => ?_
  match i, hu, hv with
  | 0, hu, hv => cases hu; cases hv; exact .leaf True.intro
  | 1, hu, hv => cases hu; cases hv; exact .leaf True.intro
  | 2, hu, hv => cases hu; cases hv; exact DeedAt.same (n := 0) hd hda hdb
  | i + 3, hu, _ => cases hu
theorem trips_same {H : Hp} {a b : Addr} {us vs : List V} {ts : List Trip} (hd : ∀ t ∈ ts, DOk t.2.2) (hl : ts.length ≤ 1000) (ha : H a = some (.lst us)) (hb : H b = some (.lst vs)) (h1 : All2 (TripAt H) us ts) (h2 : All2 (TripAt H) vs ts) : SameD K H 5 (.ref a) (.ref b) := by
  refine .seq (.lst ha) (.lst hb) (by rw [h1.len, h2.len]) (by rw [h2.len]; omega) fun i u v hu hv => ?_
  obtain ⟨t, ht, hut⟩ := All2.get h1 hu
  obtain ⟨t', ht', hvt⟩ := All2.get h2 hv
  rw [ht] at ht'
  cases ht'
  exact trip_same (hd t (List.mem_of_getElem? ht)) hut hvt
def spPasses (cD : Addr) : Sp := fun vs H Q _ => ∃ (A p l : Addr) (rs : List Addr) (R R' : Rows) (k : Nat) (N : Addr → Prop) (us : List V) (ts : List Trip), vs = [.ref A, .ref p, .ref l] ∧ RowsAt H A rs R ∧ DeAt cD H p R' k N ∧ Agree R' R ∧ k ≤ 100 ∧ tot R' 8 ≤ 800 ∧ Fits100 R ts.length ∧ H l = some (.lst us) ∧ All2 (TripAt H) us ts ∧ PkOk ts ∧
  ∀ H' q R1 k1 N1, Same H H' → Agree R1 R → DeAt cD H' q (recvR ts R1) k1 N1 → k1 ≤ tot R' 8 + ts.length → (∀ z, N1 z → H z = none) → Q (.ref q) H'
theorem ok_lpasses {k : Nat} (hk : 12 ≤ k) (Z : Defs K mg) (GLawReceived : FnOk P w K mg base CX0 12 Z.fLawReceived Z.fdLawReceived ["rows", "packet"] spRecv) (GReceived : FnOk P w K mg base CX0 12 Z.fReceived Z.fdReceived ["deeds", "packet"] (spReceived Z.cDeeds)) (GLawSame : FnOk P w K mg base CX0 7 Z.fLawSame Z.fdLawSame ["actual", "expected"] (spSameG K 5)) (GDeedsAdd : FnOk P w K mg base CX0 2 Z.fDeedsAdd Z.fdDeedsAdd ["self", "replica", "deed"] (spAdd Z.cDeeds)) : FnOk P w K mg base CX0 (k + 1) Z.fLawPasses Z.fdLawPasses ["rows", "deeds", "packet"] (spPasses Z.cDeeds) := by
  refine Z.DLawPasses.F.ok scLawPasses (fun vs H Q E h => ?_) (fun cdv A outer s H vs Q E hr h => ?_)
  · obtain ⟨A, p, l, rs, R, R', kk, N, us, ts, rfl, _⟩ := h
    rfl
  · obtain ⟨A0, p, l, rs, R, R', kk, N, us, ts, rfl, RA, hD, hag, hkk, htot, hF, hl, hts, hok, qq⟩ := h
    refine ⟨_, (pss_cons (ps_set (i := 3) scLawPasses.nd rfl (.inl rfl) (pe_callTy call_list_of (by rfl) Z.list HL.boot_list (pa_cons (pv 2) pa_nil)))
        (pss_cons (ps_set (i := 4) scLawPasses.nd rfl (.inl rfl) (pe_call GLawReceived (hr.mono (by omega)) (by rfl) Z.DLawReceived.g Z.DLawReceived.F.kp Z.DLawReceived.b .nil pass0 (pa_cons (pv 0) (pa_cons (pv 2) pa_nil))))
        (pss_cons (ps_set (i := 5) scLawPasses.nd rfl (.inl rfl) (pe_call GReceived (hr.mono (by omega)) (by rfl) Z.DReceived.g Z.DReceived.F.kp Z.DReceived.b .nil pass0 (pa_cons (pv 1) (pa_cons (pv 3) pa_nil))))
        (pss_cons (ps_if (PW.pt (pw_or (pt_not (pt_val (pe_callB call_isB (by rfl) Z.isinstance HL.boot_isinstance (pa_cons (pv 5) (pa_cons (pe_bltn (v := .ty "tuple") (by rfl) Z.tuple HL.boot_tuple rfl) pa_nil))))) (pw_or (pt_cmpR op_ne (pe_callB call_len_seq (by rfl) Z.len PySem.boot_len (pa_cons (pv 5) pa_nil)) pe_int (nomark _)) (pw_or1 (pt_not (pt_val (pe_call GLawSame (hr.mono (by omega)) (by rfl) Z.DLawSame.g Z.DLawSame.F.kp Z.DLawSame.b .nil pass0 (pa_cons (pe_ix ix_tup (pv 5) pe_int (fun _ _ => rfl)) (pa_cons (pe_ix ix_list (pv 4) pe_int (fun _ _ => rfl)) pa_nil))))))))) (pss_one (ps_ret pe_non)) pss_nil)
        (pss_cons (ps_if (PW.pt (pw_or (pt_not (pt_val (pe_call GLawSame (hr.mono (by omega)) (by rfl) Z.DLawSame.g Z.DLawSame.F.kp Z.DLawSame.b .nil pass0 (pa_cons (pe_fld (pe_ix ix_tup (pv 5) pe_int (fun _ _ => rfl)) rfl) (pa_cons (pe_ix ix_list (pv 4) pe_int (fun _ _ => rfl)) pa_nil))))) (pw_or (pt_not (pt_val (pe_call GLawSame (hr.mono (by omega)) (by rfl) Z.DLawSame.g Z.DLawSame.F.kp Z.DLawSame.b .nil pass0 (pa_cons (pv 3) (pa_cons (pv 2) pa_nil))))) (pw_or1 (pt_not (pt_val (pe_call GLawSame (hr.mono (by omega)) (by rfl) Z.DLawSame.g Z.DLawSame.F.kp Z.DLawSame.b .nil pass0 (pa_cons (pe_fld (pv 1) rfl) (pa_cons (pv 0) pa_nil))))))))) (pss_one (ps_ret pe_non)) pss_nil)
        (pss_cons (ps_expr (pe_meth (pe_ix ix_tup (pv 5) pe_int (fun _ _ => rfl)) Z.CDeeds.cl Z.DDeedsAdd.m GDeedsAdd (hr.mono (by omega)) Z.DDeedsAdd.b .nil pass0 (pa_cons pe_int (pa_cons (pe_tup (pa_cons pe_str (pa_cons pe_int pa_nil))) pa_nil))))
        (pss_cons (ps_if (pt_not (pt_val (pe_call GLawSame (hr.mono (by omega)) (by rfl) Z.DLawSame.g Z.DLawSame.F.kp Z.DLawSame.b .nil pass0 (pa_cons (pe_fld (pv 1) rfl) (pa_cons (pv 0) pa_nil))))) (pss_one (ps_ret pe_non)) pss_nil)
        (pss_one (ps_ret (pe_ix ix_tup (pe_call GReceived (hr.mono (by omega)) (by rfl) Z.DReceived.g Z.DReceived.F.kp Z.DReceived.b .nil pass0 (pa_cons (pv 1) (pa_cons (pv 3) pa_nil))) pe_int (fun _ _ => rfl))))))))))), ?_⟩
    have hn := hok.1
    have h8 : ∀ t ∈ ts, t.1 < 8 := fun t h => (hok.2 t h).1
    have hdo : ∀ t ∈ ts, DOk t.2.2 := fun t h => (hok.2 t h).2
    have tr : ∀ {H'}, Same H H' → All2 (TripAt H') us ts := fun s => hts.mono fun v t h => TripAt.keep h (Same.tk s)
    have hF' : Fits100 R' ts.length := fun r hr => by rw [hag r hr]; exact hF r hr
    refine ⟨_, rfl, l, us, rfl, .inl (SqL.of hl), fun Pd hPd => ?_⟩
    have s1 := same_upd (o := .lst us) hPd
    have g1 : upd H Pd (.lst us) Pd = some (.lst us) := upd_same
    generalize upd H Pd (.lst us) = H1 at s1 g1
    refine ⟨_, rfl, _, rfl, A0, l, rs, R, us, ts, rfl, RA.keep s1, hF, s1 _ _ hl, tr s1, hok, fun H2 z1 D1 T1 rs1 ws1 s2 hz1 nr1 hT1 hws1 _ _ _ _ _ _ => ?_⟩
    have s02 := Same.tr s1 s2
    refine ⟨_, rfl, _, rfl, p, Pd, R', kk, N, us, ts, rfl, DeAt.same hD s02, hkk, hF', s2 _ _ g1, tr s02, hok, fun H3 z2 q2 T2 R1 k2 N2 ws2 s3 hz2 hR1 D3 hk2 hT2 hws2 hN2 hNT hNz _ _ => ?_⟩
    have s03 := Same.tr s02 s3
    have agr : Agree R1 R := fun r hr => (hR1 r hr).trans (hag r hr)
    obtain ⟨ag2, eT⟩ := recv_agree agr h8
    rw [eT] at hws2
    have hdoT : ∀ t ∈ (recvT ts R).map (pick ts), DOk t.2.2 := fun t h => by
      obtain ⟨k0, hk0, rfl⟩ := List.mem_map.mp h
      have hlt := ((run_inv ts R ts.length).2.1 k0 hk0).1
      rw [pick_eq (List.getElem?_eq_getElem hlt)]
      exact hdo _ (List.getElem_mem hlt)
    have hTl : ((recvT ts R).map (pick ts)).length ≤ 1000 := by
      rw [List.length_map]
      have := taken_le ts R ts.length
      show (run ts R ts.length).2.length ≤ 1000
      omega
    refine ⟨_, rfl, _, "tuple", "tuple", true, rfl, .base (.tup hz2), by decide +kernel, true, rfl, iteF ?_⟩
    refine ⟨_, rfl, z2, _, rfl, .inr (SqT.of hz2), rfl, _, rfl, iteNo (by simp) ?_⟩
    refine ⟨_, rfl, z2, _, 1, .ref T2, rfl, rfl, SqT.of hz2, rfl, _, rfl, z1, _, 1, .ref T1, rfl, rfl, SqL.of (s3 _ _ hz1), rfl, _, _, rfl, trips_same hdoT hTl hT2 (s3 _ _ hT1) hws2 (hws1.mono fun v t h => TripAt.keep h (Same.tk s3)), fun H4 s4 => ⟨true, rfl, iteF ?_⟩⟩
    have s34 := s4
    have s04 := Same.tr s03 s4
    have D4 := DeAt.same D3 s4
    have few2 : Few (recvR ts R) := run_few hF hok ts.length
    have fewR : Few R := hF.few
    obtain ⟨du, A4, mk, en, rs4, kvs, es, S4, _⟩ := id D4
    have P4 := DeAt.same hD s04
    obtain ⟨pu, pA, pmk, pen, prs, pkvs, pes, PS, _⟩ := id P4
    refine ⟨_, rfl, z2, _, 0, .ref q2, rfl, rfl, SqT.of (s4 _ _ hz2), rfl, q2, Z.cDeeds, du, _, _, rfl, S4.hp, Z.CDeeds.cl, Z.nDeeds_rows, dflds_rows _ _ _, _, rfl, z1, _, 0, .ref D1, rfl, rfl, SqL.of (s4 _ _ (s3 _ _ hz1)), rfl, _, _, rfl, rows_same S4.hr ((nr1.at_.keep s3).keep s4) few2 ag2, fun H5 s5 => ⟨true, rfl, iteF ?_⟩⟩
    have s05 := Same.tr s04 s5
    have g5 : H5 Pd = some (.lst us) := s5 _ _ (s4 _ _ (s3 _ _ (s2 _ _ g1)))
    refine ⟨_, rfl, _, rfl, _, _, rfl, trips_same hdo (by omega) g5 (s05 _ _ hl) (tr s05) (tr s05), fun H6 s6 => ⟨true, rfl, iteF ?_⟩⟩
    have s06 := Same.tr s05 s6
    have s46 := Same.tr s5 s6
    refine ⟨_, rfl, p, Z.cDeeds, pu, _, _, rfl, s46 _ _ PS.hp, Z.CDeeds.cl, Z.nDeeds_rows, dflds_rows _ _ _, _, rfl, _, _, rfl, rows_same (PS.hr.keep s46) (RA.keep s06) fewR hag, fun H7 s7 => ⟨true, rfl, iteF ?_⟩⟩
    have s47 := Same.tr s46 s7
    have s07 := Same.tr s04 s47
    have D7 := DeAt.same D4 s47
    obtain ⟨du7, A7, mk7, en7, rs7, kvs7, es7, S7, _⟩ := id D7
    refine ⟨_, rfl, z2, _, 0, .ref q2, rfl, rfl, SqT.of (s47 _ _ (s4 _ _ hz2)), rfl, q2, du7, _, rfl, S7.hp, dflds_no _ _ _ (by decide +kernel) (by decide +kernel) (by decide +kernel), by show 2 ≤ sizeLine; decide, fun t ht => ?_⟩
    have st := same_upd (o := .tup [.str "back", .int 1]) ht
    have gt : upd H7 t (.tup [.str "back", .int 1]) t = some (.tup [.str "back", vi 1]) := upd_same
    generalize upd H7 t (.tup [.str "back", .int 1]) = H8 at st gt
    have D8 := DeAt.same D7 st
    refine ⟨q2, 0, recvR ts R1, k2, N2, .ref t, .back 1, rfl, D8, ⟨t, rfl, gt⟩, ⟨fun _ _ _ _ _ e => (by cases e)⟩, by decide, by omega, fun H9 N9 f9 D9 n9 => ?_⟩
    have s28 : Same H2 H8 := Same.tr s3 (Same.tr s34 (Same.tr s47 st))
    have s29 : Same H2 H9 := fun z o h => f9 _ _ (s28 _ _ h) (fun n => by rw [hN2 z n] at h; cases h)
    have s09 := Same.tr s02 s29
    have P9 := DeAt.same hD s09
    obtain ⟨pu9, pA9, pmk9, pen9, prs9, pkvs9, pes9, PS9, _⟩ := id P9
    refine ⟨_, rfl, p, Z.cDeeds, pu9, _, _, rfl, PS9.hp, Z.CDeeds.cl, Z.nDeeds_rows, dflds_rows _ _ _, _, rfl, _, _, rfl, rows_same PS9.hr (RA.keep s09) fewR hag, fun H10 s10 => ⟨true, rfl, iteF ?_⟩⟩
    have s210 := Same.tr s29 s10
    have s010 := Same.tr s09 s10
    refine ⟨_, rfl, _, rfl, p, Pd, R', kk, N, us, ts, rfl, DeAt.same hD s010, hkk, hF', s210 _ _ (s2 _ _ g1), tr s010, hok, fun H11 z3 q3 T3 R3 k3 N3 ws3 s11 hz3 hR3 D11 hk3 _ _ hN3 _ _ _ _ => ?_⟩
    exact ⟨z3, _, 0, .ref q3, rfl, rfl, SqT.of hz3, rfl, qq H11 q3 R3 k3 N3 (Same.tr s010 s11) (fun r hr => (hR3 r hr).trans (hag r hr)) D11 hk3 fun z h => Same.none s010 (hN3 z h)⟩
end
end Q07
namespace Q07
open PySem PySem.Spec PyProof.Rows L2 SX HL DM
/-! ### what is built is good; how many deeds stand -/
theorem tot_le {R W : Rows} : ∀ i, i ≤ 8 → (∀ r, r < 8 → (R r).length ≤ (W r).length) → tot R i ≤ tot W i
  | 0, _, _ => Nat.le_refl _
  | i + 1, hi, h => by
    have h1 := tot_le i (by omega) h
    have h2 := h i (by omega)
    rw [tot, tot]
    omega
theorem tot_add (R : Rows) (p : Nat) (δ : Deed) : ∀ i, tot (addR R p δ) i = tot R i + (if p < i then 1 else 0)
  | 0 => by rw [if_neg (Nat.not_lt_zero _)]; rfl
  | i + 1 => by
    rw [tot, tot, tot_add R p δ i]
    unfold addR
    by_cases e : i = p
    · rw [if_pos e, List.length_append, if_neg (by omega), if_pos (by omega), e]
      show _ + 0 + (_ + 1) = _
      omega
    · rw [if_neg e]
      by_cases q : p < i
      · rw [if_pos q, if_pos (by omega)]; omega
      · rw [if_neg q, if_neg (by omega)]; omega
theorem Built.tot {W : Rows} {L : List Trip} {R : Rows} (h : Built W L R) : tot R 8 = L.length := by
  induction h with
  | nil => rfl
  | snoc _ ht _ _ ih => rw [tot_add, ih, if_pos ht, List.length_append]; rfl
theorem Built.good {W : Rows} {L : List Trip} {R : Rows} (h : Built W L R) : Good R := by
  induction h with
  | nil => exact ⟨fun r _ => List.Pairwise.nil, fun r _ m x b n t h => (by cases h)⟩
  | @snoc L R t hB ht hel hw ih =>
    have sub : ∀ r, r < 8 → ∀ d ∈ R r, d ∈ addR R t.1 t.2.2 r := fun r hr d hd => by
      unfold addR
      by_cases z : r = t.1
      · rw [if_pos z, ← z]; exact List.mem_append_left _ hd
      · rw [if_neg z]; exact hd
    refine ⟨fun r hr => ?_, fun r hr m x b n z hd y hy => ?_⟩
    · by_cases z : r = t.1
      · have e : addR R t.1 t.2.2 r = R t.1 ++ [t.2.2] := by unfold addR; rw [if_pos z]
        rw [e]
        refine List.pairwise_append.mpr ⟨ih.num t.1 ht, List.pairwise_singleton .., fun a ha b hb => ?_⟩
        rw [List.mem_singleton.mp hb]
        rintro ⟨m, x, c, n, s, e2⟩
        have hf := hel.2
        rw [e2] at hf ⊢
        exact hf.2.2.2 a ha
      · have e : addR R t.1 t.2.2 r = R r := by unfold addR; rw [if_neg z]
        rw [e]
        exact ih.num r hr
    · have old : Deed.change m x b n z ∈ R r → y ∈ marks (addR R t.1 t.2.2) m ∧ y.1 < n := fun h => by
        obtain ⟨h1, h2⟩ := ih.nam r hr m x b n z h y hy
        exact ⟨marks_mono sub h1, h2⟩
      by_cases q : r = t.1
      · have e : addR R t.1 t.2.2 r = R t.1 ++ [t.2.2] := by unfold addR; rw [if_pos q]
        rw [e] at hd
        rcases List.mem_append.mp hd with hd | hd
        · rw [← q] at hd; exact old hd
        · have e2 := List.mem_singleton.mp hd
          have hf := hel.2
          rw [← e2] at hf
          obtain ⟨h1, h2⟩ := hf.2.1 y hy
          exact ⟨marks_mono sub h1, h2⟩
      · have e : addR R t.1 t.2.2 r = R r := by unfold addR; rw [if_neg q]
        rw [e] at hd
        exact old hd
theorem tot_rowsOf : ∀ ts : List Trip, (∀ t ∈ ts, t.1 < 8) → tot (rowsOf ts) 8 = ts.length := by
  intro ts
  have : ∀ n, n ≤ ts.length → (∀ t ∈ ts, t.1 < 8) → tot (rowsOf (ts.take n)) 8 = n := fun n => by
    induction n with
    | zero => intro _ _; rw [List.take_zero]; rfl
    | succ n ih =>
      intro hn h
      have e := List.getElem?_eq_getElem (show n < ts.length by omega)
      rw [take_snoc e, rowsOf_snoc, tot_add, ih (by omega) h, if_pos (h _ (List.getElem_mem _))]
  intro h
  have := this ts.length (Nat.le_refl _) h
  rw [List.take_length] at this
  exact this
end Q07
namespace Q07
open PySem PySem.Spec PyProof.Rows L2 SX HL DM
/-! ### the three objects of the law -/
theorem lack_le (R : Rows) (cn : Nat → Nat) : ∀ i, ((List.range i).flatMap (lackR R cn)).length ≤ tot R i
  | 0 => Nat.le_refl _
  | i + 1 => by
    have ih := lack_le R cn i
    have h2 := lackR_len R cn i
    rw [List.range_succ, List.flatMap_append, List.length_append, List.flatMap_cons, List.flatMap_nil, List.append_nil, tot]
    omega
theorem lackT_len (R : Rows) (cn : Nat → Nat) : (lackT R cn).length ≤ tot R 8 := lack_le R cn 8
theorem lackT_congr {R R' : Rows} {cn cn' : Nat → Nat} (h : Agree R R') (hc : ∀ r, r < 8 → cn r = cn' r) : lackT R cn = lackT R' cn' := by
  unfold lackT
  rw [List.flatMap_def, List.flatMap_def]
  refine congrArg List.flatten (List.map_congr_left fun r hr => ?_)
  have hr := List.mem_range.mp hr
  unfold lackR
  rw [h r hr, hc r hr]
theorem tot_agree {R R' : Rows} (h : Agree R R') : tot R 8 = tot R' 8 := by
  have h1 := tot_le (R := R) (W := R') 8 (Nat.le_refl _) fun r hr => by rw [h r hr]; exact Nat.le_refl _
  have h2 := tot_le (R := R') (W := R) 8 (Nat.le_refl _) fun r hr => by rw [h r hr]; exact Nat.le_refl _
  omega
theorem Good.agree {R R' : Rows} (h : Agree R' R) (G : Good R) : Good R' := by
  refine ⟨fun r hr => by rw [h r hr]; exact G.num r hr, fun r hr m x b n t hd y hy => ?_⟩
  rw [h r hr] at hd
  rw [marks_agree h]
  exact G.nam r hr m x b n t hd y hy
theorem text_agree {R R' : Rows} {m : List Nat} (h : Agree R' R) {es es' : List EntF} (S : Srt R m es) (S' : Srt R' m es') : textOf (build (removed R' m) es') = textOf (build (removed R m) es) := by
  have e := changes_agree h m
  have e1 : found R' m = found R m := by unfold found; rw [e]
  have e2 : removed R' m = removed R m := by unfold removed; rw [e]
  have : es' = es := srt_uniq (rows := R) (m := m) ⟨S'.perm.trans (by rw [e1]), S'.lt⟩ S
  rw [e2, this]
/-- what the law has drawn -/
structure WOk (W : Rows) : Prop where
  tot : tot W 8 ≤ 12
  ok : ∀ r, r < 8 → ∀ d ∈ W r, DOk d ∧ (remD d).length ≤ 4
  by_ : EndsBy W 120
theorem tot_ge (R : Rows) {r : Nat} : ∀ i, r < i → (R r).length ≤ tot R i
  | 0, h => by omega
  | i + 1, h => by
    rw [tot]
    rcases Nat.lt_or_ge r i with q | q
    · have := tot_ge R i q
      omega
    · have : r = i := by omega
      subst this
      omega
theorem WOk.row {W : Rows} (h : WOk W) {r : Nat} (hr : r < 8) : (W r).length ≤ 12 := Nat.le_trans (tot_ge W 8 hr) h.tot
theorem Pre.ok {W R : Rows} (h : Pre W R) (w : WOk W) : ∀ r, r < 8 → (R r).length ≤ 12 ∧ ∀ d ∈ R r, DOk d ∧ (remD d).length ≤ 4 := fun r hr => by
  obtain ⟨h1, h2⟩ := h.le hr
  refine ⟨Nat.le_trans h1 (w.row hr), fun d hd => w.ok r hr d ?_⟩
  rw [h2] at hd
  exact List.mem_of_mem_take hd
theorem Pre.tot {W R : Rows} (h : Pre W R) (w : WOk W) : tot R 8 ≤ 12 := Nat.le_trans (tot_le 8 (Nat.le_refl _) fun r hr => (h.le hr).1) w.tot
theorem Pre.few {W R : Rows} (h : Pre W R) (w : WOk W) : Few R := fun r hr => ⟨Nat.le_trans (h.ok w r hr).1 (by decide), fun d hd => ((h.ok w r hr).2 d hd).1⟩
theorem Pre.fits {W R : Rows} (h : Pre W R) (w : WOk W) {n : Nat} (hn : n ≤ 80) : Fits100 R n := fun r hr => ⟨by have := (h.ok w r hr).1; omega, fun d hd => ((h.ok w r hr).2 d hd).1⟩
theorem Few.agree {R R' : Rows} (h : Agree R' R) (F : Few R) : Few R' := fun r hr => by rw [h r hr]; exact F r hr
theorem Fits100.agree {R R' : Rows} {n : Nat} (h : Agree R' R) (F : Fits100 R n) : Fits100 R' n := fun r hr => by rw [h r hr]; exact F r hr
theorem lack_tiny {W R : Rows} (h : Pre W R) (w : WOk W) {cn : Nat → Nat} {t : Trip} (ht : t ∈ lackT R cn) : Tiny t := by
  obtain ⟨h1, _, h3, _⟩ := mem_lackT.mp ht
  obtain ⟨h4, h5⟩ := (h.ok w t.1 h1).2 t.2.2 (List.mem_of_getElem? h3)
  exact ⟨h1, h4, h5⟩
theorem lack_pk {W R : Rows} (h : Pre W R) (w : WOk W) {cn : Nat → Nat} : PkOk (lackT R cn) := ⟨by have := lackT_len R cn; have := h.tot w; omega, fun t ht => ⟨(lack_tiny h w ht).1, (lack_tiny h w ht).2.1⟩⟩
/-! ### the heap without the lists -/
theorem hide_mono {H H' : Hp} {S : Addr → Prop} (s : Same H H') : Same (hide H S) (hide H' S) := fun z o h => by
  by_cases q : S z
  · rw [hide_in q] at h; cases h
  · rw [hide_out q] at h
    rw [hide_out q]
    exact s _ _ h
theorem hide_upd {H : Hp} {S : Addr → Prop} {a : Addr} {o : HO} (h : S a) : hide (upd H a o) S = hide H S := by
  funext z
  by_cases q : S z
  · rw [hide_in q, hide_in q]
  · rw [hide_out q, hide_out q, upd_ne (fun e => q (by rw [e]; exact h))]
theorem hide_more {H : Hp} {S S' : Addr → Prop} (h : ∀ z, S' z → S z ∨ H z = none) : Same (hide H S) (hide H S') := fun z o e => by
  by_cases q : S z
  · rw [hide_in q] at e; cases e
  · rw [hide_out q] at e
    rw [hide_out (fun q' => (h z q').elim q fun n => by rw [n] at e; cases e)]
    exact e
def SS (O : Addr) (o : Nat → Addr) (z : Addr) : Prop := z = O ∨ ∃ i, i < 3 ∧ z = o i
/-- an object: its rows, its Deeds -/
def Ob1 (cD : Addr) (W : Rows) (B H : Hp) (o : Addr) (R : Rows) : Prop := ∃ (A p : Addr) (rs : List Addr) (R' : Rows) (k : Nat) (N : Addr → Prop) (L : List Trip), H o = some (.lst [.ref A, .ref p]) ∧ RowsAt B A rs R ∧ DeAt cD B p R' k N ∧ Agree R' R ∧ Built W L R ∧ k ≤ 100
/-- an object when its rows are told no more -/
def Ob2 (cD : Addr) (W : Rows) (B H : Hp) (o : Addr) (R : Rows) : Prop := ∃ (A p : Addr) (R' : Rows) (k : Nat) (N : Addr → Prop) (L : List Trip), H o = some (.lst [.ref A, .ref p]) ∧ DeAt cD B p R' k N ∧ Agree R' R ∧ Built W L R ∧ k ≤ 100
theorem Ob1.two {cD : Addr} {W : Rows} {B H : Hp} {o : Addr} {R : Rows} (h : Ob1 cD W B H o R) : Ob2 cD W B H o R := by
  obtain ⟨A, p, rs, R', k, N, L, h1, h2, h3, h4, h5, h6⟩ := h
  exact ⟨A, p, R', k, N, L, h1, h3, h4, h5, h6⟩
theorem Ob1.keep {cD : Addr} {W : Rows} {B B' H H' : Hp} {o : Addr} {R : Rows} (h : Ob1 cD W B H o R) (s : Same B B') (e : ∀ l, H o = some (.lst l) → H' o = some (.lst l)) : Ob1 cD W B' H' o R := by
  obtain ⟨A, p, rs, R', k, N, L, h1, h2, h3, h4, h5, h6⟩ := h
  exact ⟨A, p, rs, R', k, N, L, e _ h1, h2.keep s, DeAt.same h3 s, h4, h5, h6⟩
theorem Ob2.keep {cD : Addr} {W : Rows} {B B' H H' : Hp} {o : Addr} {R : Rows} (h : Ob2 cD W B H o R) (s : Same B B') (e : ∀ l, H o = some (.lst l) → H' o = some (.lst l)) : Ob2 cD W B' H' o R := by
  obtain ⟨A, p, R', k, N, L, h1, h3, h4, h5, h6⟩ := h
  exact ⟨A, p, R', k, N, L, e _ h1, DeAt.same h3 s, h4, h5, h6⟩
/-- the list of the objects -/
structure Os (O : Addr) (o : Nat → Addr) (H : Hp) : Prop where
  hO : H O = some (.lst [.ref (o 0), .ref (o 1), .ref (o 2)])
  inj : ∀ i j, i < 3 → j < 3 → o i = o j → i = j
  nO : ∀ i, i < 3 → o i ≠ O
  li : ∀ i, i < 3 → ∃ l, H (o i) = some (.lst l)
theorem Os.keep {O : Addr} {o : Nat → Addr} {H H' : Hp} (h : Os O o H) (s : Same H H') : Os O o H' :=
  ⟨s _ _ h.hO, h.inj, h.nO, fun i hi => by obtain ⟨l, e⟩ := h.li i hi; exact ⟨l, s _ _ e⟩⟩
theorem Os.get {O : Addr} {o : Nat → Addr} {H : Hp} (h : Os O o H) {i : Nat} (hi : i < 3) : atI [V.ref (o 0), V.ref (o 1), V.ref (o 2)] (i : Int) = some (V.ref (o i)) := by
  match i, hi with
  | 0, _ => rfl
  | 1, _ => rfl
  | 2, _ => rfl
theorem Os.lst {O : Addr} {o : Nat → Addr} {H : Hp} (h : Os O o H) : ∀ z, SS O o z → ∃ l, H z = some (.lst l) := fun z hz => by
  rcases hz with rfl | ⟨i, hi, rfl⟩
  · exact ⟨_, h.hO⟩
  · exact h.li i hi
theorem Os.out {O : Addr} {o : Nat → Addr} {H : Hp} (h : Os O o H) {z : Addr} (hz : H z = none) : ¬ SS O o z := fun q => by
  obtain ⟨l, e⟩ := h.lst z q
  rw [hz] at e
  cases e
def LI1 (cD d O : Addr) (ds : List Int) (W : Rows) (o : Nat → Addr) (H : Hp) : Prop := H d = some (.lst (ds.map V.int)) ∧ d ≠ O ∧ Os O o H ∧ ∀ i, i < 3 → ∃ R, Ob1 cD W (hide H (SS O o)) H (o i) R
def LI2 (cD O : Addr) (W : Rows) (o : Nat → Addr) (ρ : Nat → Rows) (H : Hp) : Prop := Os O o H ∧ ∀ i, i < 3 → Ob2 cD W (hide H (SS O o)) H (o i) (ρ i)
theorem LI1.keep {cD d O : Addr} {ds : List Int} {W : Rows} {o : Nat → Addr} {H H' : Hp} (h : LI1 cD d O ds W o H) (s : Same H H') : LI1 cD d O ds W o H' :=
  ⟨s _ _ h.1, h.2.1, h.2.2.1.keep s, fun i hi => by obtain ⟨R, q⟩ := h.2.2.2 i hi; exact ⟨R, q.keep (hide_mono s) fun l e => s _ _ e⟩⟩
theorem LI2.keep {cD O : Addr} {W : Rows} {o : Nat → Addr} {ρ : Nat → Rows} {H H' : Hp} (h : LI2 cD O W o ρ H) (s : Same H H') : LI2 cD O W o ρ H' :=
  ⟨h.1.keep s, fun i hi => (h.2 i hi).keep (hide_mono s) fun l e => s _ _ e⟩
/-- an object is put in another one's place -/
theorem LI1.put {cD d O : Addr} {ds : List Int} {W : Rows} {o : Nat → Addr} {H : Hp} (I : LI1 cD d O ds W o H) {t : Nat} (ht : t < 3) {n A p : Addr} (hn : H n = none) {rs : List Addr} {R R' : Rows} {k : Nat} {N : Addr → Prop} {L : List Trip} (hR : RowsAt H A rs R) (hD : DeAt cD H p R' k N) (ag : Agree R' R) (hB : Built W L R) (hk : k ≤ 100)
    (nA : ¬ SS O o A) (nr : ∀ a ∈ rs, ¬ SS O o a) (nN : ∀ z, N z → ¬ SS O o z) : LI1 cD d O ds W (fun i => if i = t then n else o i) (upd (upd H n (.lst [.ref A, .ref p])) O (.lst ([V.ref (o 0), .ref (o 1), .ref (o 2)].set t (.ref n)))) := by
  obtain ⟨hd, hdO, J, hob⟩ := I
  have hnO : n ≠ O := fun e => by rw [e, J.hO] at hn; cases hn
  have hno : ∀ i, i < 3 → o i ≠ n := fun i hi e => by
    obtain ⟨l, q⟩ := J.li i hi
    rw [e, hn] at q
    cases q
  have sv : Same H (upd H n (.lst [.ref A, .ref p])) := same_upd hn
  have gn : upd H n (.lst [.ref A, .ref p]) n = some (.lst [.ref A, .ref p]) := upd_same
  generalize upd H n (.lst [.ref A, .ref p]) = H1 at sv gn
  have up : ∀ z x, H1 z = some x → z ≠ O → upd H1 O (.lst ([V.ref (o 0), .ref (o 1), .ref (o 2)].set t (.ref n))) z = some x := fun z x h q => by rw [upd_ne q]; exact h
  have J1 := J.keep sv
  -- the hidden heap
  have sB : Same (hide H (SS O o)) (hide (upd H1 O (.lst ([V.ref (o 0), .ref (o 1), .ref (o 2)].set t (.ref n)))) (SS O fun i => if i = t then n else o i)) := by
    rw [hide_upd (.inl rfl)]
    refine Same.tr (hide_more fun z hz => ?_) (hide_mono sv)
    rcases hz with e | ⟨i, hi, e⟩
    · exact .inl (.inl e)
    · by_cases q : i = t
      · simp only [if_pos q] at e
        exact .inr (by rw [e]; exact hn)
      · simp only [if_neg q] at e
        exact .inl (.inr ⟨i, hi, e⟩)
  refine ⟨up _ _ (sv _ _ hd) hdO, hdO, ⟨?_, fun i j hi hj e => ?_, fun i hi => ?_, fun i hi => ?_⟩, fun i hi => ?_⟩
  · rw [upd_same]
    match t, ht with
    | 0, _ => rfl
    | 1, _ => rfl
    | 2, _ => rfl
  · by_cases q : i = t
    · by_cases q2 : j = t
      · rw [q, q2]
      · simp only [if_pos q, if_neg q2] at e
        exact absurd e.symm (hno j hj)
    · by_cases q2 : j = t
      · simp only [if_neg q, if_pos q2] at e
        exact absurd e (hno i hi)
      · simp only [if_neg q, if_neg q2] at e
        exact J.inj i j hi hj e
  · by_cases q : i = t
    · simp only [if_pos q]; exact hnO
    · simp only [if_neg q]; exact J.nO i hi
  · by_cases q : i = t
    · simp only [if_pos q]; exact ⟨_, up _ _ gn hnO⟩
    · simp only [if_neg q]
      obtain ⟨l, e⟩ := J1.li i hi
      exact ⟨l, up _ _ e (J.nO i hi)⟩
  · by_cases q : i = t
    · simp only [if_pos q]
      exact ⟨R, A, p, rs, R', k, N, L, up _ _ gn hnO, (RowsAt.hide J.lst hR nA nr).keep sB, DeAt.same (DeAt.hide J.lst hD nN) sB, ag, hB, hk⟩
    · simp only [if_neg q]
      obtain ⟨R2, h⟩ := hob i hi
      exact ⟨R2, h.keep sB fun l e => up _ _ (sv _ _ e) (J.nO i hi)⟩
/-- an object's Deeds is put in another one's place -/
theorem LI2.put {cD O : Addr} {W : Rows} {o : Nat → Addr} {ρ : Nat → Rows} {H : Hp} (I : LI2 cD O W o ρ H) {t : Nat} (ht : t < 3) {A p : Addr} {R R' : Rows} {k : Nat} {N : Addr → Prop} {L : List Trip} (hD : DeAt cD H p R' k N) (ag : Agree R' R) (hB : Built W L R) (hk : k ≤ 100)
    (nN : ∀ z, N z → ¬ SS O o z) : LI2 cD O W o (fun i => if i = t then R else ρ i) (upd H (o t) (.lst [.ref A, .ref p])) := by
  obtain ⟨J, hob⟩ := I
  have up : ∀ z x, H z = some x → z ≠ o t → upd H (o t) (.lst [.ref A, .ref p]) z = some x := fun z x h q => by rw [upd_ne q]; exact h
  refine ⟨⟨up _ _ J.hO (J.nO t ht).symm, J.inj, J.nO, fun i hi => ?_⟩, fun i hi => ?_⟩
  · by_cases q : i = t
    · subst q; exact ⟨_, upd_same⟩
    · obtain ⟨l, e⟩ := J.li i hi
      exact ⟨l, up _ _ e fun z => q (J.inj _ _ hi ht z)⟩
  · rw [hide_upd (.inr ⟨t, ht, rfl⟩)]
    by_cases q : i = t
    · subst q
      simp only [if_pos rfl]
      exact ⟨A, p, R', k, N, L, upd_same, DeAt.hide J.lst hD nN, ag, hB, hk⟩
    · simp only [if_neg q]
      exact (hob i hi).keep (Same.refl _) fun l e => up _ _ e fun z => q (J.inj _ _ hi ht z)
/-- one takes in what it lacks of another -/
noncomputable def joinS (ρ : Nat → Rows) (g t : Nat) : Nat → Rows := fun i => if i = t then recvR (lackT (ρ g) fun r => (ρ t r).length) (ρ t) else ρ i
noncomputable def turns (ρ : Nat → Rows) : Nat → Nat → Rows
  | 0 => ρ
  | n + 1 => joinS (turns ρ n) (n % 3) ((n + 1) % 3)
theorem turns_built {W : Rows} {ρ : Nat → Rows} (h : ∀ i, i < 3 → ∃ L, Built W L (ρ i)) : ∀ n i, i < 3 → ∃ L, Built W L (turns ρ n i)
  | 0, i, hi => h i hi
  | n + 1, i, hi => by
    show ∃ L, Built W L (joinS (turns ρ n) (n % 3) ((n + 1) % 3) i)
    unfold joinS
    by_cases q : i = (n + 1) % 3
    · rw [if_pos q]
      obtain ⟨L1, h1⟩ := turns_built h n ((n + 1) % 3) (by omega)
      obtain ⟨L2, h2⟩ := turns_built h n (n % 3) (by omega)
      exact (recv_join h1 h2).1
    · rw [if_neg q]
      exact turns_built h n i hi
theorem turns_len {W : Rows} {ρ : Nat → Rows} (h : ∀ i, i < 3 → ∃ L, Built W L (ρ i)) (n i : Nat) {r : Nat} (hr : r < 8) : (turns ρ (n + 1) i r).length = if i = (n + 1) % 3 then max (turns ρ n i r).length (turns ρ n (n % 3) r).length else (turns ρ n i r).length := by
  show (joinS (turns ρ n) (n % 3) ((n + 1) % 3) i r).length = _
  unfold joinS
  by_cases q : i = (n + 1) % 3
  · rw [if_pos q, if_pos q, q]
    obtain ⟨L1, h1⟩ := turns_built h n ((n + 1) % 3) (by omega)
    obtain ⟨L2, h2⟩ := turns_built h n (n % 3) (by omega)
    exact (recv_join h1 h2).2 r hr
  · rw [if_neg q, if_neg q]
/-- after two turns all hold the same -/
theorem turns_all {W : Rows} {ρ : Nat → Rows} (h : ∀ i, i < 3 → ∃ L, Built W L (ρ i)) : ∀ i, i < 3 → Agree (turns ρ 6 i) (turns ρ 6 1) := fun i hi => by
  obtain ⟨L1, h1⟩ := turns_built h 6 i hi
  obtain ⟨L2, h2⟩ := turns_built h 6 1 (by decide)
  refine pre_eq h1.pre h2.pre fun r hr => ?_
  have a := fun n i => turns_len h n i hr
  have e00 := a 0 0
  have e01 := a 0 1
  have e02 := a 0 2
  have e10 := a 1 0
  have e11 := a 1 1
  have e12 := a 1 2
  have e20 := a 2 0
  have e21 := a 2 1
  have e22 := a 2 2
  have e30 := a 3 0
  have e31 := a 3 1
  have e32 := a 3 2
  have e40 := a 4 0
  have e41 := a 4 1
  have e42 := a 4 2
  have e50 := a 5 0
  have e51 := a 5 1
  have e52 := a 5 2
  simp at e00 e01 e02 e10 e11 e12 e20 e21 e22 e30 e31 e32 e40 e41 e42 e50 e51 e52
  clear a
  match i, hi with
  | 0, _ => omega
  | 1, _ => rfl
  | 2, _ => omega
end Q07
namespace Q07
open PySem PySem.Spec PyProof.Rows L2 SX HL DM
section
variable {P : Program} {w : World} {K : PySem.W.Frag} {mg : Str → Option Value} {base : Heap}
/-! ### law -/
theorem wok_of {ts : List Trip} (hok : TripOk ts) (hl : ts.length ≤ 12) (hsm : ∀ t ∈ ts, Small ts.length t) : WOk (rowsOf ts) := by
  have mem : ∀ r d, d ∈ rowsOf ts r → ∃ t ∈ ts, t.2.2 = d := fun r d h => by
    unfold rowsOf at h
    obtain ⟨t, ht, e⟩ := List.mem_map.mp h
    exact ⟨t, (List.mem_filter.mp ht).1, e⟩
  refine ⟨by rw [tot_rowsOf ts fun t h => (hok.2 t h).1]; exact hl, fun r hr d hd => ?_, fun r hr d hd => ?_⟩
  · obtain ⟨t, ht, rfl⟩ := mem r d hd
    exact ⟨(hok.2 t ht).2, (hsm t ht).2.1⟩
  · obtain ⟨t, ht, rfl⟩ := mem r d hd
    have := (hsm t ht).2.2
    omega
def prs : List (Nat × Nat) := [(0, 1), (1, 2), (2, 0), (1, 0), (2, 1), (0, 2)]
def spLaw (T : Hp → Prop) (K : PySem.W.Frag) : Sp := fun vs H Q _ => ∃ (a : Addr) (ns : List Int), vs = [.ref a] ∧ SqL K H a (ns.map V.int) ∧ ns.length ≤ 63 ∧ T H ∧ ∀ H', Q (.bl true) H'
theorem ok_law {Pc : Addr} (Z : Defs K mg) (TBc : LamX.TabB base mg Z.cO Pc) : FnOk P w K mg base CX0 14 Z.fLaw Z.fdLaw ["script"] (spLaw (TC Pc) K) := by
  have GLawDraws : FnOk P w K mg base CX0 2 Z.fLawDraws Z.fdLawDraws ["script"] (spDraws K) := ok_draws Z
  have GLawAt : FnOk P w K mg base CX0 12 Z.fLawAt Z.fdLawAt ["draws", "index"] spAt := ok_at Z
  have GLawTriples : FnOk P w K mg base CX0 6 Z.fLawTriples Z.fdLawTriples ["draws", "start", "steps", "most"] (spTriples (TC Pc)) := ok_ltriples Z TBc
  have GLawReceived : FnOk P w K mg base CX0 12 Z.fLawReceived Z.fdLawReceived ["rows", "packet"] spRecv := ok_lrecv Z (ok_lfirst Z (ok_lfits Z))
  have GDeedsAdd : FnOk P w K mg base CX0 2 Z.fDeedsAdd Z.fdDeedsAdd ["self", "replica", "deed"] (spAdd Z.cDeeds) := ok_add Z
  have GLawStart : FnOk P w K mg base CX0 13 Z.fLawStart Z.fdLawStart ["draws", "triples"] (spStart Z.cDeeds) := ok_lstart (Nat.le_refl _) Z GLawAt GLawReceived (ok_init Z) (ok_add Z)
  have GLawLacking : FnOk P w K mg base CX0 1 Z.fLawLacking Z.fdLawLacking ["rows", "counts"] spLack := ok_llack Z
  have GLacking : FnOk P w K mg base CX0 1 Z.fLacking Z.fdLacking ["deeds", "counts"] (spLacking Z.cDeeds) := ok_lacking Z
  have GDeedsCounts : FnOk P w K mg base CX0 1 Z.fDeedsCounts Z.fdDeedsCounts ["self"] (spCounts Z.cDeeds) := ok_counts Z
  have GLawSame : FnOk P w K mg base CX0 7 Z.fLawSame Z.fdLawSame ["actual", "expected"] (spSameG K 5) := ok_same Z 5
  have GLawTurned : FnOk P w K mg base CX0 13 Z.fLawTurned Z.fdLawTurned ["draws", "base", "packet"] spTurn := ok_lturned Z GLawAt
  have GReceived : FnOk P w K mg base CX0 12 Z.fReceived Z.fdReceived ["deeds", "packet"] (spReceived Z.cDeeds) := ok_received (by decide) Z (ok_copy Z) (ok_add Z) (ok_ff (Nat.le_refl _) Z (ok_counts Z) (ok_fits Z))
  have GLawPasses : FnOk P w K mg base CX0 13 Z.fLawPasses Z.fdLawPasses ["rows", "deeds", "packet"] (spPasses Z.cDeeds) := ok_lpasses (Nat.le_refl _) Z GLawReceived GReceived GLawSame GDeedsAdd
  have GLawModules : FnOk P w K mg base CX0 1 Z.fLawModules Z.fdLawModules [] spMods := ok_lmodules Z
  have GDeedsText : FnOk P w K mg base CX0 4 Z.fDeedsText Z.fdDeedsText ["self", "module"] (spDText Z.cDeeds) := ok_text Z
  refine Z.DLaw.F.ok scLaw (fun vs H Q E h => ?_) (fun cdv A outer s H vs Q E hr h => ?_)
  · obtain ⟨a, ns, rfl, _⟩ := h
    rfl
  · obtain ⟨a, ns, rfl, hS, hl, hT, qq⟩ := h
    refine ⟨_, (pss_cons (ps_set (i := 1) scLaw.nd rfl (.inl rfl) (pe_call GLawDraws (hr.mono (by omega)) (by rfl) Z.DLawDraws.g Z.DLawDraws.F.kp Z.DLawDraws.b .nil pass0 (pa_cons (pv 0) pa_nil)))
        (pss_cons (ps_set (i := 2) scLaw.nd rfl (.inl rfl) (pe_call GLawTriples (hr.mono (by omega)) (by rfl) Z.DLawTriples.g Z.DLawTriples.F.kp Z.DLawTriples.b .nil pass0 (pa_cons (pv 1) (pa_cons pe_int (pa_cons (pe_op op_mod (pe_call GLawAt (hr.mono (by omega)) (by rfl) Z.DLawAt.g Z.DLawAt.F.kp Z.DLawAt.b .nil pass0 (pa_cons (pv 1) (pa_cons pe_int pa_nil))) pe_int) (pa_cons (pe_op op_add pe_int (pe_op op_mod (pe_call GLawAt (hr.mono (by omega)) (by rfl) Z.DLawAt.g Z.DLawAt.F.kp Z.DLawAt.b .nil pass0 (pa_cons (pv 1) (pa_cons pe_int pa_nil))) pe_int)) pa_nil))))))
        (pss_cons (ps_set (i := 3) scLaw.nd rfl (.inl rfl) (pe_call GLawStart (hr.mono (by omega)) (by rfl) Z.DLawStart.g Z.DLawStart.F.kp Z.DLawStart.b .nil pass0 (pa_cons (pv 1) (pa_cons (pv 2) pa_nil))))
        (pss_cons (ps_for PassesOwn.never rfl (pi_range1 (by rfl) Z.range (pa_cons (pe_op op_mod (pe_call GLawAt (hr.mono (by omega)) (by rfl) Z.DLawAt.g Z.DLawAt.F.kp Z.DLawAt.b .nil pass0 (pa_cons (pv 1) (pa_cons pe_int pa_nil))) pe_int) pa_nil)) (pg_name (i := 4) scLaw.nd rfl (.inl rfl)) (pss_cons (ps_asg (pe_ix ix_list (pe_lst (pa_cons (pe_tup (pa_cons pe_int (pa_cons pe_int pa_nil))) (pa_cons (pe_tup (pa_cons pe_int (pa_cons pe_int pa_nil))) (pa_cons (pe_tup (pa_cons pe_int (pa_cons pe_int pa_nil))) (pa_cons (pe_tup (pa_cons pe_int (pa_cons pe_int pa_nil))) (pa_cons (pe_tup (pa_cons pe_int (pa_cons pe_int pa_nil))) (pa_cons (pe_tup (pa_cons pe_int (pa_cons pe_int pa_nil))) pa_nil))))))) (pe_op op_mod (pe_call GLawAt (hr.mono (by omega)) (by rfl) Z.DLawAt.g Z.DLawAt.F.kp Z.DLawAt.b .nil pass0 (pa_cons (pv 1) (pa_cons (pe_op op_add pe_int (pe_op op_mul pe_int (pv 4))) pa_nil))) pe_int) (fun _ _ => rfl)) (pg_tup rfl (pgs_cons (pg_name (i := 5) scLaw.nd rfl (.inl rfl)) (pgs_cons (pg_name (i := 6) scLaw.nd rfl (.inl rfl)) pgs_nil))))
        (pss_cons (ps_set (i := 7) scLaw.nd rfl (.inl rfl) (pe_call GLawLacking (hr.mono (by omega)) (by rfl) Z.DLawLacking.g Z.DLawLacking.F.kp Z.DLawLacking.b .nil pass0 (pa_cons (pe_ix ix_list (pe_ix ix_list (pv 3) (pv 5) (fun _ _ => rfl)) pe_int (fun _ _ => rfl)) (pa_cons (pe_meth0 (pe_ix ix_list (pe_ix ix_list (pv 3) (pv 6) (fun _ _ => rfl)) pe_int (fun _ _ => rfl)) Z.CDeeds.cl Z.DDeedsCounts.m GDeedsCounts (hr.mono (by omega)) Z.DDeedsCounts.b .nil pass0) pa_nil))))
        (pss_cons (ps_if (pt_not (pt_val (pe_call GLawSame (hr.mono (by omega)) (by rfl) Z.DLawSame.g Z.DLawSame.F.kp Z.DLawSame.b .nil pass0 (pa_cons (pe_call GLacking (hr.mono (by omega)) (by rfl) Z.DLacking.g Z.DLacking.F.kp Z.DLacking.b .nil pass0 (pa_cons (pe_ix ix_list (pe_ix ix_list (pv 3) (pv 5) (fun _ _ => rfl)) pe_int (fun _ _ => rfl)) (pa_cons (pe_meth0 (pe_ix ix_list (pe_ix ix_list (pv 3) (pv 6) (fun _ _ => rfl)) pe_int (fun _ _ => rfl)) Z.CDeeds.cl Z.DDeedsCounts.m GDeedsCounts (hr.mono (by omega)) Z.DDeedsCounts.b .nil pass0) pa_nil))) (pa_cons (pv 7) pa_nil))))) (pss_one (ps_ret pe_bl)) pss_nil)
        (pss_cons (ps_set (i := 8) scLaw.nd rfl (.inl rfl) (pv 7))
        (C8.pss_cut (ps_if (pt_cmpR op_gt (pe_op op_mod (pe_call GLawAt (hr.mono (by omega)) (by rfl) Z.DLawAt.g Z.DLawAt.F.kp Z.DLawAt.b .nil pass0 (pa_cons (pv 1) (pa_cons (pe_op op_add pe_int (pe_op op_mul pe_int (pv 4))) pa_nil))) pe_int) pe_int (nomark _)) (pss_one (ps_set (i := 8) scLaw.nd rfl (.inl rfl) (pe_call GLawTurned (hr.mono (by omega)) (by rfl) Z.DLawTurned.g Z.DLawTurned.F.kp Z.DLawTurned.b .nil pass0 (pa_cons (pv 1) (pa_cons (pe_op op_add pe_int (pe_op op_mul pe_int (pv 4))) (pa_cons (pv 7) pa_nil)))))) pss_nil)
        (pss_cons (ps_set (i := 9) scLaw.nd rfl (.inl rfl) (pe_call GLawPasses (hr.mono (by omega)) (by rfl) Z.DLawPasses.g Z.DLawPasses.F.kp Z.DLawPasses.b .nil pass0 (pa_cons (pe_ix ix_list (pe_ix ix_list (pv 3) (pv 6) (fun _ _ => rfl)) pe_int (fun _ _ => rfl)) (pa_cons (pe_ix ix_list (pe_ix ix_list (pv 3) (pv 6) (fun _ _ => rfl)) pe_int (fun _ _ => rfl)) (pa_cons (pv 8) pa_nil)))))
        (pss_cons (ps_if (pt_cmp (pc_isN (pv 9))) (pss_one (ps_ret pe_bl)) pss_nil)
        (pss_one (ps_asg (pe_lst (pa_cons (pe_ix ix_list (pe_call GLawReceived (hr.mono (by omega)) (by rfl) Z.DLawReceived.g Z.DLawReceived.F.kp Z.DLawReceived.b .nil pass0 (pa_cons (pe_ix ix_list (pe_ix ix_list (pv 3) (pv 6) (fun _ _ => rfl)) pe_int (fun _ _ => rfl)) (pa_cons (pv 8) pa_nil))) pe_int (fun _ _ => rfl)) (pa_cons (pv 9) pa_nil))) (pg_sub (pv 3) (pv 6) set_list)))))))))))
        (pss_cons (ps_for PassesOwn.never rfl (pi_range1 (by rfl) Z.range (pa_cons pe_int pa_nil)) (pg_name (i := 10) scLaw.nd rfl (.inl rfl)) (pss_one (ps_for PassesOwn.never rfl (pi_list (pe_lst (pa_cons (pe_tup (pa_cons pe_int (pa_cons pe_int pa_nil))) (pa_cons (pe_tup (pa_cons pe_int (pa_cons pe_int pa_nil))) (pa_cons (pe_tup (pa_cons pe_int (pa_cons pe_int pa_nil))) pa_nil))))) (pg_tup rfl (pgs_cons (pg_name (i := 5) scLaw.nd rfl (.inl rfl)) (pgs_cons (pg_name (i := 6) scLaw.nd rfl (.inl rfl)) pgs_nil))) (pss_cons (ps_set (i := 11) scLaw.nd rfl (.inl rfl) (pe_ix ix_list (pe_ix ix_list (pv 3) (pv 6) (fun _ _ => rfl)) pe_int (fun _ _ => rfl)))
        (pss_one (ps_asg (pe_ix ix_tup (pe_call GReceived (hr.mono (by omega)) (by rfl) Z.DReceived.g Z.DReceived.F.kp Z.DReceived.b .nil pass0 (pa_cons (pv 11) (pa_cons (pe_call GLacking (hr.mono (by omega)) (by rfl) Z.DLacking.g Z.DLacking.F.kp Z.DLacking.b .nil pass0 (pa_cons (pe_ix ix_list (pe_ix ix_list (pv 3) (pv 5) (fun _ _ => rfl)) pe_int (fun _ _ => rfl)) (pa_cons (pe_meth0 (pv 11) Z.CDeeds.cl Z.DDeedsCounts.m GDeedsCounts (hr.mono (by omega)) Z.DDeedsCounts.b .nil pass0) pa_nil))) pa_nil))) pe_int (fun _ _ => rfl)) (pg_sub (pe_ix ix_list (pv 3) (pv 6) (fun _ _ => rfl)) pe_int set_list)))))))
        (pss_cons (ps_for PassesOwn.never rfl (pi_list (pe_call0 GLawModules (hr.mono (by omega)) (by rfl) Z.DLawModules.g Z.DLawModules.F.kp Z.DLawModules.b .nil pass0)) (pg_name (i := 12) scLaw.nd rfl (.inl rfl)) (pss_one (ps_if (PW.pt (pw_or (pt_cmpR op_ne (pe_meth (pe_ix ix_list (pe_ix ix_list (pv 3) pe_int (fun _ _ => rfl)) pe_int (fun _ _ => rfl)) Z.CDeeds.cl Z.DDeedsText.m GDeedsText (hr.mono (by omega)) Z.DDeedsText.b .nil pass0 (pa_cons (pv 12) pa_nil)) (pe_meth (pe_ix ix_list (pe_ix ix_list (pv 3) pe_int (fun _ _ => rfl)) pe_int (fun _ _ => rfl)) Z.CDeeds.cl Z.DDeedsText.m GDeedsText (hr.mono (by omega)) Z.DDeedsText.b .nil pass0 (pa_cons (pv 12) pa_nil)) (nomark _)) (pw_or1 (pt_cmpR op_ne (pe_meth (pe_ix ix_list (pe_ix ix_list (pv 3) pe_int (fun _ _ => rfl)) pe_int (fun _ _ => rfl)) Z.CDeeds.cl Z.DDeedsText.m GDeedsText (hr.mono (by omega)) Z.DDeedsText.b .nil pass0 (pa_cons (pv 12) pa_nil)) (pe_meth (pe_ix ix_list (pe_ix ix_list (pv 3) pe_int (fun _ _ => rfl)) pe_int (fun _ _ => rfl)) Z.CDeeds.cl Z.DDeedsText.m GDeedsText (hr.mono (by omega)) Z.DDeedsText.b .nil pass0 (pa_cons (pv 12) pa_nil)) (nomark _))))) (pss_one (ps_ret pe_bl)) pss_nil)))
        (pss_one (ps_ret (pe_and (pe_call GLawSame (hr.mono (by omega)) (by rfl) Z.DLawSame.g Z.DLawSame.F.kp Z.DLawSame.b .nil pass0 (pa_cons (pe_fld (pe_ix ix_list (pe_ix ix_list (pv 3) pe_int (fun _ _ => rfl)) pe_int (fun _ _ => rfl)) rfl) (pa_cons (pe_fld (pe_ix ix_list (pe_ix ix_list (pv 3) pe_int (fun _ _ => rfl)) pe_int (fun _ _ => rfl)) rfl) pa_nil))) (pe_one (pe_call GLawSame (hr.mono (by omega)) (by rfl) Z.DLawSame.g Z.DLawSame.F.kp Z.DLawSame.b .nil pass0 (pa_cons (pe_fld (pe_ix ix_list (pe_ix ix_list (pv 3) pe_int (fun _ _ => rfl)) pe_int (fun _ _ => rfl)) rfl) (pa_cons (pe_fld (pe_ix ix_list (pe_ix ix_list (pv 3) pe_int (fun _ _ => rfl)) pe_int (fun _ _ => rfl)) rfl) pa_nil))))))))))))), ?_⟩
    have big : 16777216 ≤ sizeLine := by decide +kernel
    refine ⟨_, rfl, a, ns, rfl, hS, hl, fun d H1 ds hd0 s1 hd hdl hD => ?_⟩
    have T1 := tc_keep hT s1
    refine ⟨_, rfl, _, rfl, d, ds, 0, rfl, hd, hD, by decide, fun v v0 v1 => ⟨v, 13, rfl, rfl, (by show (0 : Int) < 13; decide), _, rfl, d, ds, 1, rfl, hd, hD, by decide, fun u u0 u1 => ⟨u, 4, rfl, rfl, (by show (0 : Int) < 4; decide), 1, _, rfl, rfl, ?_⟩⟩⟩
    obtain ⟨n, hn⟩ : ∃ n : Nat, v % 13 = (n : Int) := ⟨(v % 13).toNat, by omega⟩
    obtain ⟨M, hM⟩ : ∃ M : Nat, 1 + u % 4 = (M : Int) := ⟨(1 + u % 4).toNat, by omega⟩
    have hn12 : n ≤ 12 := by omega
    refine ⟨d, ds, 20, n, M, (by show [V.ref d, V.int 20, V.int (v % 13), V.int (1 + u % 4)] = [V.ref d, V.int 20, V.int (n : Int), V.int (M : Int)]; rw [hn, hM]), hd, hD, by decide, by omega, by omega, by omega, T1, fun H2 l us ts hd2 hl2 hts hok hgood hsm htl hbk T2 => ?_⟩
    have hW : WOk (rowsOf ts) := wok_of hok (by omega) fun t h => (hsm t h).1
    have hTr : ∀ t ∈ ts, Truth (rowsOf ts) t := fun t h => ⟨(hok.2 t h).1, (hsm t h).2.1, (hsm t h).2.2⟩
    refine ⟨_, rfl, _, rfl, d, l, ds, us, ts, rfl, hd2, hD, hl2, hts, by omega, hok.2, fun H3 O os s23 hO hOn hol hond hos hob => ?_⟩
    have hd3 := s23 _ _ hd2
    have hdO : d ≠ O := fun e => by rw [e, hOn] at hd2; cases hd2
    have hlen12 : ts.length ≤ 12 := by omega
    generalize rowsOf ts = W at hW hTr
    obtain ⟨o, I⟩ : ∃ o, LI1 Z.cDeeds d O ds W o H3 := by
      obtain ⟨a0, a1, a2, rfl⟩ : ∃ a b c, os = [a, b, c] := by
        match os, hol with
        | [a, b, c], _ => exact ⟨a, b, c, rfl⟩
      have hm : ∀ i, i < 3 → ([a0, a1, a2] : List Addr).getD i 0 ∈ [a0, a1, a2] := fun i hi => by
        match i, hi with
        | 0, _ => exact List.mem_cons_self ..
        | 1, _ => exact List.mem_cons_of_mem _ (List.mem_cons_self ..)
        | 2, _ => exact List.mem_cons_of_mem _ (List.mem_cons_of_mem _ (List.mem_cons_self ..))
      have eS : ∀ z, (z = O ∨ z ∈ [a0, a1, a2]) ↔ SS O (fun i => ([a0, a1, a2] : List Addr).getD i 0) z := fun z => by
        refine or_congr Iff.rfl ⟨fun h => ?_, fun ⟨i, hi, e⟩ => by rw [e]; exact hm i hi⟩
        rcases List.mem_cons.mp h with e | h
        · exact ⟨0, by decide, e⟩
        · rcases List.mem_cons.mp h with e | h
          · exact ⟨1, by decide, e⟩
          · exact ⟨2, by decide, List.mem_singleton.mp h⟩
      have J : Os O (fun i => ([a0, a1, a2] : List Addr).getD i 0) H3 := by
        refine ⟨hO, fun i j hi hj e => ?_, fun i hi => (hos _ (hm i hi)).1, fun i hi => ?_⟩
        · have hn : a0 ≠ a1 ∧ a0 ≠ a2 ∧ a1 ≠ a2 := by
            have := List.nodup_cons.mp hond
            have h2 := List.nodup_cons.mp this.2
            exact ⟨fun e => this.1 (by rw [e]; exact List.mem_cons_self ..), fun e => this.1 (by rw [e]; exact List.mem_cons_of_mem _ (List.mem_cons_self ..)), fun e => h2.1 (by rw [e]; exact List.mem_cons_self ..)⟩
          match i, j, hi, hj, e with
          | 0, 0, _, _, _ => rfl
          | 0, 1, _, _, e => exact absurd e hn.1
          | 0, 2, _, _, e => exact absurd e hn.2.1
          | 1, 0, _, _, e => exact absurd e.symm hn.1
          | 1, 1, _, _, _ => rfl
          | 1, 2, _, _, e => exact absurd e hn.2.2
          | 2, 0, _, _, e => exact absurd e.symm hn.2.1
          | 2, 1, _, _, e => exact absurd e.symm hn.2.2
          | 2, 2, _, _, _ => rfl
        · obtain ⟨_, _, _, _, _, _, _, h1, _⟩ := hob _ (hm i hi)
          exact ⟨_, h1⟩
      refine ⟨_, hd3, hdO, J, fun i hi => ?_⟩
      obtain ⟨A', p, rs, Pk, R', k, N, h1, h2, h3, h4, h5, h6, h7, h8, h9, h10, h11, h12⟩ := hob _ (hm i hi)
      obtain ⟨L, hL⟩ := run_built (W := W) (P := Pk) (fun t h => (hTr t (h5 t h)).fair) .nil Pk.length
      refine ⟨recvR Pk noRows, A', p, rs, R', k, N, L, h1, RowsAt.hide J.lst h2 (fun h => h11 ((eS _).mpr h)) (fun b hb h => h12 b hb ((eS _).mpr h)), DeAt.hide J.lst h7 (fun z hz h => (h10 z hz).2 ((eS _).mpr h)), h8, hL, by omega⟩
    clear hob hos hond hol hO hd3 hd2 hl2 hts hgood hsm hbk hTr
    refine ⟨_, rfl, d, ds, 2, rfl, I.1, hD, by decide, fun x x0 x1 => ⟨x, 5, rfl, rfl, (by show (0 : Int) < 5; decide), ?_⟩⟩
    refine ⟨x % 5, rfl, by omega, by omega, ?_⟩
    refine for_range (lo := 0) (n := (x % 5).toNat) (fun i σ H' => ∃ (y4 y5 y6 y7 y8 y9 : Option V) (o : Nat → Addr), σ = [some (.ref a), some (.ref d), some (.ref l), some (.ref O), y4, y5, y6, y7, y8, y9, none, none, none] ∧ LI1 Z.cDeeds d O ds W o H') ⟨none, none, none, none, none, none, o, rfl, I⟩ ?_ ?_
    · clear I o
      rintro i σ H4 hi ⟨y4, y5, y6, y7, y8, y9, o, rfl, I⟩
      have hi5 : i < 5 := by omega
      refine ⟨by show 2 ≤ sizeLine; decide, fun t0 h0 => ?_⟩
      have s0' := same_upd (o := .tup [.int 0, .int 1]) h0
      have g0 : upd H4 t0 (.tup [.int 0, .int 1]) t0 = some (.tup [vi 0, vi 1]) := upd_same
      generalize upd H4 t0 (.tup [.int 0, .int 1]) = A0 at s0' g0 ⊢
      refine ⟨by show 2 ≤ sizeLine; decide, fun t1 h1 => ?_⟩
      have s1' := same_upd (o := .tup [.int 1, .int 2]) h1
      have g1 : upd A0 t1 (.tup [.int 1, .int 2]) t1 = some (.tup [vi 1, vi 2]) := upd_same
      generalize upd A0 t1 (.tup [.int 1, .int 2]) = A1 at s1' g1 ⊢
      refine ⟨by show 2 ≤ sizeLine; decide, fun t2 h2 => ?_⟩
      have s2' := same_upd (o := .tup [.int 2, .int 0]) h2
      have g2 : upd A1 t2 (.tup [.int 2, .int 0]) t2 = some (.tup [vi 2, vi 0]) := upd_same
      generalize upd A1 t2 (.tup [.int 2, .int 0]) = A2 at s2' g2 ⊢
      refine ⟨by show 2 ≤ sizeLine; decide, fun t3 h3 => ?_⟩
      have s3' := same_upd (o := .tup [.int 1, .int 0]) h3
      have g3 : upd A2 t3 (.tup [.int 1, .int 0]) t3 = some (.tup [vi 1, vi 0]) := upd_same
      generalize upd A2 t3 (.tup [.int 1, .int 0]) = A3 at s3' g3 ⊢
      refine ⟨by show 2 ≤ sizeLine; decide, fun t4 h4 => ?_⟩
      have s4' := same_upd (o := .tup [.int 2, .int 1]) h4
      have g4 : upd A3 t4 (.tup [.int 2, .int 1]) t4 = some (.tup [vi 2, vi 1]) := upd_same
      generalize upd A3 t4 (.tup [.int 2, .int 1]) = A4 at s4' g4 ⊢
      refine ⟨by show 2 ≤ sizeLine; decide, fun t5 h5 => ?_⟩
      have s5' := same_upd (o := .tup [.int 0, .int 2]) h5
      have g5 : upd A4 t5 (.tup [.int 0, .int 2]) t5 = some (.tup [vi 0, vi 2]) := upd_same
      generalize upd A4 t5 (.tup [.int 0, .int 2]) = A5 at s5' g5 ⊢
      refine ⟨by show 6 ≤ sizeLine; decide, fun L hL => ?_⟩
      have s6' := same_upd (o := .lst [.ref t0, .ref t1, .ref t2, .ref t3, .ref t4, .ref t5]) hL
      have gL : upd A5 L (.lst [.ref t0, .ref t1, .ref t2, .ref t3, .ref t4, .ref t5]) L = some (.lst [.ref t0, .ref t1, .ref t2, .ref t3, .ref t4, .ref t5]) := upd_same
      generalize upd A5 L (.lst [.ref t0, .ref t1, .ref t2, .ref t3, .ref t4, .ref t5]) = H5 at s6' gL ⊢
      have s45 : Same H4 H5 := Same.tr s0' (Same.tr s1' (Same.tr s2' (Same.tr s3' (Same.tr s4' (Same.tr s5' s6')))))
      have key : ∀ j : Nat, j < 6 → ∃ (b : Addr) (g t : Nat), atI [.ref t0, .ref t1, .ref t2, .ref t3, .ref t4, .ref t5] (j : Int) = some (V.ref b) ∧ g < 3 ∧ t < 3 ∧ H5 b = some (.tup [vi g, vi t]) := fun j hj => by
        match j, hj with
        | 0, _ => exact ⟨t0, 0, 1, rfl, by decide, by decide, s6' _ _ (s5' _ _ (s4' _ _ (s3' _ _ (s2' _ _ (s1' _ _ g0)))))⟩
        | 1, _ => exact ⟨t1, 1, 2, rfl, by decide, by decide, s6' _ _ (s5' _ _ (s4' _ _ (s3' _ _ (s2' _ _ g1))))⟩
        | 2, _ => exact ⟨t2, 2, 0, rfl, by decide, by decide, s6' _ _ (s5' _ _ (s4' _ _ (s3' _ _ g2)))⟩
        | 3, _ => exact ⟨t3, 1, 0, rfl, by decide, by decide, s6' _ _ (s5' _ _ (s4' _ _ g3))⟩
        | 4, _ => exact ⟨t4, 2, 1, rfl, by decide, by decide, s6' _ _ (s5' _ _ g4)⟩
        | 5, _ => exact ⟨t5, 0, 2, rfl, by decide, by decide, s6' _ _ g5⟩
      have I5 := I.keep s45
      clear g0 g1 g2 g3 g4 g5 s0' s1' s2' s3' s4' s5' s6' h0 h1 h2 h3 h4 h5 hL I s45
      refine ⟨_, rfl, _, rfl, 40, _, rfl, rfl, (by unfold CMul; omega), 400, _, rfl, rfl, d, ds, _, rfl, I5.1, hD, by omega, fun z z0 z1 => ⟨z, 6, rfl, rfl, (by show (0 : Int) < 6; decide), ?_⟩⟩
      obtain ⟨j, hj⟩ : ∃ j : Nat, z % 6 = (j : Int) := ⟨(z % 6).toNat, by omega⟩
      obtain ⟨b, g, t, hjt, hg, ht, hb⟩ := key j (by omega)
      refine ⟨L, _, _, _, rfl, rfl, SqL.of gL, by rw [hj]; exact hjt, b, _, rfl, SqT.of hb, rfl, _, _, rfl, _, _, rfl, rfl, ?_⟩
      clear key hjt hb hj z0 z1 z
      obtain ⟨_, _, J5, hob5⟩ := id I5
      obtain ⟨Rg, Ag, pg, rsg, Rg', kg, Ng, Lg, og, RAg, Dg, agg, Bg, hkg⟩ := hob5 g hg
      obtain ⟨Rt, At, pt, rst, Rt', kt, Nt, Lt, ot, RAt, Dt, agt, Bt, hkt⟩ := hob5 t ht
      -- told in the heap itself
      have RAg5 := RAg.keep (hide_same (H := H5) (S := SS O o))
      have RAt5 := RAt.keep (hide_same (H := H5) (S := SS O o))
      have Dg5 := DeAt.same Dg (hide_same (H := H5) (S := SS O o))
      have Dt5 := DeAt.same Dt (hide_same (H := H5) (S := SS O o))
      have Pg := Bg.pre
      have Pt := Bt.pre
      have ix : ∀ {H' : Hp} {i : Nat}, Same H5 H' → i < 3 → SqL K H' O [.ref (o 0), .ref (o 1), .ref (o 2)] ∧ atI [V.ref (o 0), V.ref (o 1), V.ref (o 2)] (i : Int) = some (V.ref (o i)) := fun s hi => ⟨SqL.of (s _ _ J5.hO), J5.get hi⟩
      have r5 := Same.refl H5
      obtain ⟨du5, A5', mk5, en5, rs5, kvs5, es5, S5, _⟩ := id Dt5
      have hcn : ∀ j, (Rt' j).length ≤ 1000 := fun j => Nat.le_trans (DeAt.lenR Dt j) (by omega)
      refine ⟨_, rfl, _, rfl, O, _, _, .ref (o g), rfl, rfl, (ix r5 hg).1, (ix r5 hg).2, o g, _, 0, .ref Ag, rfl, rfl, SqL.of og, rfl, _, rfl, _, rfl, O, _, _, .ref (o t), rfl, rfl, (ix r5 ht).1, (ix r5 ht).2, o t, _, 1, .ref pt, rfl, rfl, SqL.of ot, rfl, pt, du5, _, rfl, S5.hp, dflds_no _ _ _ (by decide +kernel) (by decide +kernel) (by decide +kernel), pt, Rt', kt, Nt, rfl, Dt5, fun H6 c s56 _ hc => ?_⟩
      refine ⟨Ag, c, rsg, Rg, fun j => (Rt' j).length, rfl, RAg5.keep s56, Pg.few hW, hc, hcn, fun H7 due dus s67 hdue hdus _ => ?_⟩
      have s57 := Same.tr s56 s67
      have Dg7 := DeAt.same Dg5 s57
      have Dt7 := DeAt.same Dt5 s57
      obtain ⟨du7, A7', mk7, en7, rs7, kvs7, es7, S7, _⟩ := id Dt7
      refine ⟨_, rfl, _, rfl, O, _, _, .ref (o g), rfl, rfl, (ix s57 hg).1, (ix s57 hg).2, o g, _, 1, .ref pg, rfl, rfl, SqL.of (s57 _ _ og), rfl, _, rfl, _, rfl, O, _, _, .ref (o t), rfl, rfl, (ix s57 ht).1, (ix s57 ht).2, o t, _, 1, .ref pt, rfl, rfl, SqL.of (s57 _ _ ot), rfl, pt, du7, _, rfl, S7.hp, dflds_no _ _ _ (by decide +kernel) (by decide +kernel) (by decide +kernel), pt, Rt', kt, Nt, rfl, Dt7, fun H8 c2 s78 _ hc2 => ?_⟩
      have elk : lackT Rg' (fun j => (Rt' j).length) = lackT Rg (fun j => (Rt' j).length) := lackT_congr agg fun r _ => rfl
      have Fg' : Few Rg' := Few.agree agg (Pg.few hW)
      refine ⟨pg, c2, Rg', kg, Ng, fun j => (Rt' j).length, rfl, DeAt.same Dg7 s78, Fg', hc2, hcn, fun H9 tl2 tus s89 htl2 htus _ => ?_⟩
      rw [elk] at htus
      have s79 := Same.tr s78 s89
      have s59 := Same.tr s57 s79
      have hpk : PkOk (lackT Rg fun j => (Rt' j).length) := lack_pk Pg hW
      have hl12 : (lackT Rg fun j => (Rt' j).length).length ≤ 12 := Nat.le_trans (lackT_len _ _) (Pg.tot hW)
      have hty : ∀ t ∈ lackT Rg (fun j => (Rt' j).length), Tiny t := fun t h => lack_tiny Pg hW h
      have htr : ∀ t ∈ lackT Rg (fun j => (Rt' j).length), Truth W t := fun t h => lack_truth Pg h
      generalize (lackT Rg fun j => (Rt' j).length) = D at *
      refine ⟨_, rfl, _, _, rfl, trips_same (fun t h => (hty t h).2.1) (by omega) htl2 (s79 _ _ hdue) htus (hdus.mono fun v t h => TripAt.keep h (Same.tk s79)), fun H10 s910 => ⟨true, rfl, iteF ?_⟩⟩
      have s510 := Same.tr s59 s910
      have s710 := Same.tr s79 s910
      refine ⟨_, rfl, ?_⟩
      have I10 := I5.keep s510
      refine ⟨fun σ' H' => ∃ (pk : Addr) (pus : List V) (pts : List Trip), σ' = [some (.ref a), some (.ref d), some (.ref l), some (.ref O), some (.int (0 + (i : Int))), some (vi g), some (vi t), some (.ref due), some (.ref pk), y9, none, none, none] ∧ Same H10 H' ∧ H' pk = some (.lst pus) ∧ All2 (TripAt H') pus pts ∧ pts.length ≤ 24 ∧ (∀ t ∈ pts, Fair W t) ∧ PkOk pts, ?_, ?_⟩
      · refine ⟨_, rfl, _, rfl, 40, _, rfl, rfl, (by unfold CMul; omega), 401, _, rfl, rfl, d, ds, _, rfl, I10.1, hD, by omega, fun y y0 y1 => ⟨y, 3, rfl, rfl, (by show (0 : Int) < 3; decide), y % 3, 0, rfl, rfl, _, rfl, ite2 (fun e => ?_) (fun e => ?_)⟩⟩
        · refine ⟨_, rfl, _, rfl, 40, _, rfl, rfl, (by unfold CMul; omega), 402, _, rfl, rfl, _, rfl, d, due, ds, _, dus, D, rfl, I10.1, hD, by omega, s710 _ _ hdue, hdus.mono (fun v t h => TripAt.keep h (Same.tk s710)), by omega, hty, fun H11 l' us' ts' s10 _ hl' hus' hlen htu hok' => ?_⟩
          exact ⟨l', us', ts', rfl, s10, hl', hus', by omega, fun t h => turned_fair (fun r hr => Nat.le_trans (hW.row hr) (by decide)) hW.by_ (by decide) htr (htu t h), ⟨by omega, hok'⟩⟩
        · exact ⟨due, dus, D, rfl, Same.refl _, s710 _ _ hdue, hdus.mono (fun v t h => TripAt.keep h (Same.tk s710)), by omega, fun t h => (htr t h).fair, hpk⟩
      · rintro σ' H11 ⟨pk, pus, pts, rfl, s10, hpk, hpus, hp24, hfair, hpo⟩
        have s511 := Same.tr s510 s10
        clear hty htr hl12 hdus hdue htus htl2 hc2 hc s910 s710 s59 s79 s89 s78 s57 s67 s56 S7 Dg7 Dt7 I10 s510 s10
        have Fp : Fits100 Rt pts.length := Pt.fits hW (by omega)
        refine ⟨_, rfl, _, rfl, O, _, _, .ref (o t), rfl, rfl, (ix s511 ht).1, (ix s511 ht).2, o t, _, 0, .ref At, rfl, rfl, SqL.of (s511 _ _ ot), rfl, _, rfl, _, rfl, O, _, _, .ref (o t), rfl, rfl, (ix s511 ht).1, (ix s511 ht).2, o t, _, 1, .ref pt, rfl, rfl, SqL.of (s511 _ _ ot), rfl, _, rfl, At, pt, pk, rst, Rt, Rt', kt, Nt, pus, pts, rfl, RAt5.keep s511, DeAt.same Dt5 s511, agt, hkt, by rw [tot_agree agt]; exact Nat.le_trans (Pt.tot hW) (by decide), Fp, hpk, hpus, hpo, fun H12 q R1 k1 N1 s1112 ag1 D12 hk1 hN1 => ?_⟩
        have s512 := Same.tr s511 s1112
        rw [tot_agree agt] at hk1
        have hk24 := Pt.tot hW
        refine ⟨_, rfl, _, rfl, iteF ?_⟩
        refine ⟨_, rfl, _, rfl, O, _, _, .ref (o t), rfl, rfl, (ix s512 ht).1, (ix s512 ht).2, o t, _, 0, .ref At, rfl, rfl, SqL.of (s512 _ _ ot), rfl, _, rfl, At, pk, rst, Rt, pus, pts, rfl, RAt5.keep s512, Fp, s1112 _ _ hpk, hpus.mono (fun v t h => TripAt.keep h (Same.tk s1112)), hpo, fun H13 z D T rs' ws s1213 hz nr hT hws _ _ _ _ _ _ => ?_⟩
        have s513 := Same.tr s512 s1213
        have I13 := I5.keep s513
        refine ⟨z, _, 0, .ref D, rfl, rfl, SqL.of hz, rfl, _, rfl, by show 2 ≤ sizeLine; decide, fun nw hnw => ?_⟩
        have s1 := same_upd (o := .lst [.ref D, .ref q]) hnw
        have nB : ∀ {H' z}, Same H5 H' → H' z = none → ¬ SS O o z := fun s h => (J5.keep s).out h
        have h8 : ∀ t ∈ pts, t.1 < 8 := fun t h => (hpo.2 t h).1
        obtain ⟨L', hL'⟩ := run_built (P := pts) hfair Bt pts.length
        have I14 := I13.put (L := L') ht hnw nr.at_ (DeAt.same D12 s1213) (recv_agree ag1 h8).1 hL' (by omega) (nB s512 nr.fA) (fun x hx => nB s512 (nr.fr x hx)) (fun x hx => nB s511 (hN1 x hx))
        refine ⟨_, rfl, _, rfl, O, _, _, t, rfl, rfl, s1 _ _ (s513 _ _ J5.hO), ixN_nat ht, ?_⟩
        exact ⟨_, _, _, _, _, _, _, rfl, I14⟩
    · clear I o
      rintro σ H4 ⟨y4, y5, y6, y7, y8, y9, o, rfl, I⟩
      obtain ⟨_, _, J, hob⟩ := I
      obtain ⟨ρ, hρ⟩ : ∃ ρ : Nat → Rows, ∀ i, i < 3 → Ob2 Z.cDeeds W (hide H4 (SS O o)) H4 (o i) (ρ i) := by
        obtain ⟨R0, b0⟩ := hob 0 (by decide)
        obtain ⟨R1, b1⟩ := hob 1 (by decide)
        obtain ⟨R2, b2⟩ := hob 2 (by decide)
        refine ⟨fun i => ([R0, R1, R2] : List Rows).getD i noRows, fun i hi => ?_⟩
        match i, hi with
        | 0, _ => exact b0.two
        | 1, _ => exact b1.two
        | 2, _ => exact b2.two
      have hB : ∀ i, i < 3 → ∃ L, Built W L (ρ i) := fun i hi => by
        obtain ⟨_, _, _, _, _, L, _, _, _, h, _⟩ := hρ i hi
        exact ⟨L, h⟩
      have I2 : LI2 Z.cDeeds O W o (turns ρ 0) H4 := ⟨J, hρ⟩
      clear J hob hρ
      refine ⟨2, rfl, by decide, by decide, ?_⟩
      refine for_range (lo := 0) (n := 2) (fun i σ H' => ∃ (y4 y5 y6 y7 y8 y9 y10 y11 : Option V), σ = [some (.ref a), some (.ref d), some (.ref l), some (.ref O), y4, y5, y6, y7, y8, y9, y10, y11, none] ∧ LI2 Z.cDeeds O W o (turns ρ (3 * i)) H') ⟨y4, y5, y6, y7, y8, y9, none, none, rfl, I2⟩ ?_ ?_
      · clear I2
        rintro i σ H5 hi ⟨y4, y5, y6, y7, y8, y9, y10, y11, rfl, I⟩
        refine ⟨by show 2 ≤ sizeLine; decide, fun t0 h0 => ?_⟩
        have s0' := same_upd (o := .tup [.int 0, .int 1]) h0
        have g0 : upd H5 t0 (.tup [.int 0, .int 1]) t0 = some (.tup [vi 0, vi 1]) := upd_same
        generalize upd H5 t0 (.tup [.int 0, .int 1]) = A0 at s0' g0 ⊢
        refine ⟨by show 2 ≤ sizeLine; decide, fun t1 h1 => ?_⟩
        have s1' := same_upd (o := .tup [.int 1, .int 2]) h1
        have g1 : upd A0 t1 (.tup [.int 1, .int 2]) t1 = some (.tup [vi 1, vi 2]) := upd_same
        generalize upd A0 t1 (.tup [.int 1, .int 2]) = A1 at s1' g1 ⊢
        refine ⟨by show 2 ≤ sizeLine; decide, fun t2 h2 => ?_⟩
        have s2' := same_upd (o := .tup [.int 2, .int 0]) h2
        have g2 : upd A1 t2 (.tup [.int 2, .int 0]) t2 = some (.tup [vi 2, vi 0]) := upd_same
        generalize upd A1 t2 (.tup [.int 2, .int 0]) = A2 at s2' g2 ⊢
        refine ⟨by show 3 ≤ sizeLine; decide, fun L hL => ?_⟩
        have s6' := same_upd (o := .lst [.ref t0, .ref t1, .ref t2]) hL
        have gL : upd A2 L (.lst [.ref t0, .ref t1, .ref t2]) L = some (.lst [.ref t0, .ref t1, .ref t2]) := upd_same
        generalize upd A2 L (.lst [.ref t0, .ref t1, .ref t2]) = H6 at s6' gL ⊢
        have s5A : Same H5 A2 := Same.tr s0' (Same.tr s1' s2')
        have s56 : Same H5 H6 := Same.tr s5A s6'
        have hLo : ∀ i, i < 3 → L ≠ o i := fun i hi e => by
          obtain ⟨x, hx⟩ := (I.1.keep s5A).li i hi
          rw [← e, hL] at hx
          cases hx
        have key : ∀ (j : Nat) (x : V), ([.ref t0, .ref t1, .ref t2] : List V)[j]? = some x → ∃ b : Addr, j < 3 ∧ x = .ref b ∧ H6 b = some (.tup [vi j, vi ((j + 1) % 3)]) := fun j x hx => by
          match j, hx with
          | 0, hx => cases hx; exact ⟨t0, by decide, rfl, s6' _ _ (s2' _ _ (s1' _ _ g0))⟩
          | 1, hx => cases hx; exact ⟨t1, by decide, rfl, s6' _ _ (s2' _ _ g1)⟩
          | 2, hx => cases hx; exact ⟨t2, by decide, rfl, s6' _ _ g2⟩
          | j + 3, hx => cases hx
        have I6 := I.keep s56
        clear g0 g1 g2 s0' s1' s2' s6' h0 h1 h2 hL I s56 s5A
        refine ⟨L, rfl, ⟨_, SqL.of gL⟩, ?_⟩
        refine for_it walk_list (fun j σ H' => ∃ (y5 y6 y11 : Option V), σ = [some (.ref a), some (.ref d), some (.ref l), some (.ref O), y4, y5, y6, y7, y8, y9, some (.int (0 + (i : Int))), y11, none] ∧ LI2 Z.cDeeds O W o (turns ρ (3 * i + j)) H' ∧ TupK H6 H' ∧ H' L = some (.lst [.ref t0, .ref t1, .ref t2])) ⟨y5, y6, y11, rfl, I6, fun _ _ h => h, gL⟩ (fun j σ H' _ ⟨_, _, _, _, _, _, h⟩ => SqL.of h) ?_ ?_
        · clear I6
          rintro j x σ H7z H7 hj ⟨y5, y6, y11, rfl, I, k67, hL7⟩ ⟨rfl, hx⟩
          obtain ⟨b, hj3, rfl, hb⟩ := key j x hx
          obtain ⟨g, hg⟩ : ∃ g, g = (3 * i + j) % 3 := ⟨_, rfl⟩
          obtain ⟨t, ht⟩ : ∃ t, t = (3 * i + j + 1) % 3 := ⟨_, rfl⟩
          have ejg : j = g := by omega
          have ejt : (j + 1) % 3 = t := by omega
          rw [ejt] at hb
          have eN : turns ρ (3 * i + (j + 1)) = joinS (turns ρ (3 * i + j)) g t := by rw [hg, ht]; rfl
          have hg3 : g < 3 := by omega
          have ht3 : t < 3 := by omega
          have hb : H7 b = some (.tup [vi g, vi t]) := by rw [ejg] at hb; exact k67 _ _ hb
          obtain ⟨J7, hob⟩ := id I
          generalize turns ρ (3 * i + j) = τ at *
          obtain ⟨Ag, pg, Rg', kg, Ng, Lg, og, Dg, agg, Bg, hkg⟩ := hob g hg3
          obtain ⟨At, pt, Rt', kt, Nt, Lt, ot, Dt, agt, Bt, hkt⟩ := hob t ht3
          have Dg7 := DeAt.same Dg (hide_same (H := H7) (S := SS O o))
          have Dt7 := DeAt.same Dt (hide_same (H := H7) (S := SS O o))
          have Pg := Bg.pre
          have Pt := Bt.pre
          have ix : ∀ {H' : Hp} {i : Nat}, Same H7 H' → i < 3 → SqL K H' O [.ref (o 0), .ref (o 1), .ref (o 2)] ∧ atI [V.ref (o 0), V.ref (o 1), V.ref (o 2)] (i : Int) = some (V.ref (o i)) := fun s hi => ⟨SqL.of (s _ _ J7.hO), J7.get hi⟩
          have r7 := Same.refl H7
          obtain ⟨du7, A7', mk7, en7, rs7, kvs7, es7, S7, _⟩ := id Dt7
          have hcn : ∀ j, (Rt' j).length ≤ 1000 := fun j => Nat.le_trans (DeAt.lenR Dt j) (by omega)
          refine ⟨b, _, rfl, SqT.of hb, rfl, _, _, rfl, _, _, rfl, rfl, ?_⟩
          refine ⟨_, rfl, _, rfl, O, _, _, .ref (o t), rfl, rfl, (ix r7 ht3).1, (ix r7 ht3).2, o t, _, 1, .ref pt, rfl, rfl, SqL.of ot, rfl, ?_⟩
          refine ⟨_, rfl, _, rfl, _, rfl, O, _, _, .ref (o g), rfl, rfl, (ix r7 hg3).1, (ix r7 hg3).2, o g, _, 1, .ref pg, rfl, rfl, SqL.of og, rfl, _, rfl, pt, du7, _, rfl, S7.hp, dflds_no _ _ _ (by decide +kernel) (by decide +kernel) (by decide +kernel), pt, Rt', kt, Nt, rfl, Dt7, fun H8 c s78 _ hc => ?_⟩
          have elk : lackT Rg' (fun j => (Rt' j).length) = lackT (τ g) (fun r => (τ t r).length) := lackT_congr agg fun r hr => by rw [agt r hr]
          have Fg' : Few Rg' := Few.agree agg (Pg.few hW)
          refine ⟨pg, c, Rg', kg, Ng, fun j => (Rt' j).length, rfl, DeAt.same Dg7 s78, Fg', hc, hcn, fun H9 pk pus s89 hpk hpus _ => ?_⟩
          rw [elk] at hpus
          have s79 := Same.tr s78 s89
          have hpo : PkOk (lackT (τ g) fun r => (τ t r).length) := lack_pk Pg hW
          have hl12 : (lackT (τ g) fun r => (τ t r).length).length ≤ 12 := Nat.le_trans (lackT_len _ _) (Pg.tot hW)
          have Fp : Fits100 Rt' (lackT (τ g) fun r => (τ t r).length).length := Fits100.agree agt (Pt.fits hW (by omega))
          refine ⟨pt, pk, Rt', kt, Nt, pus, _, rfl, DeAt.same Dt7 s79, hkt, Fp, hpk, hpus, hpo, fun H10 z q T R1 k1 N1 ws s910 hz hR1 D10 hk1 _ _ hN1 _ _ _ _ => ?_⟩
          have s710 := Same.tr s79 s910
          rw [tot_agree agt] at hk1
          have hk24 := Pt.tot hW
          have J9 := J7.keep s79
          have I11 := LI2.put (A := At) (I.keep s710) ht3 D10 ((recv_agree (fun r hr => (hR1 r hr).trans (agt r hr)) fun t h => (hpo.2 t h).1).1) (recv_join Bt Bg).1.choose_spec (by omega) (fun x hx => J9.out (hN1 x hx))
          have ot10 := s710 _ _ ot
          refine ⟨z, _, 0, .ref q, rfl, rfl, SqT.of hz, rfl, _, rfl, _, rfl, O, _, _, .ref (o t), rfl, rfl, (ix s710 ht3).1, (ix s710 ht3).2, o t, _, _, 1, rfl, rfl, ot10, ixN_nat (by show 1 < 2; decide), ?_⟩
          refine ⟨_, _, _, rfl, by rw [eN]; exact I11, (k67.trans (Same.tk s710)).trans (tk_upd fun xs e => by rw [ot10] at e; cases e), ?_⟩
          rw [upd_ne (hLo t ht3)]
          exact s710 _ _ hL7
        · rintro σ H7 ⟨y5, y6, y11, rfl, I, _⟩
          exact ⟨_, _, _, _, _, _, _, _, rfl, I⟩
      · clear I2
        rintro σ H5 ⟨y4, y5, y6, y7, y8, y9, y10, y11, rfl, I⟩
        have hA := turns_all hB
        have hob : ∀ i, i < 3 → ∃ (p : Addr) (R' : Rows) (k : Nat) (N : Addr → Prop), (∃ A, H5 (o i) = some (.lst [.ref A, .ref p])) ∧ DeAt Z.cDeeds H5 p R' k N ∧ Agree R' (turns ρ 6 1) ∧ Good R' ∧ Few R' := fun i hi => by
          obtain ⟨A, p, R', k, N, L, h1, h2, h3, h4, h5⟩ := I.2 i hi
          have ag : Agree R' (turns ρ 6 1) := fun r hr => (h3 r hr).trans (hA i hi r hr)
          exact ⟨p, R', k, N, ⟨A, h1⟩, DeAt.same h2 hide_same, ag, Good.agree h3 h4.good, Few.agree h3 (h4.pre.few hW)⟩
        obtain ⟨hO5, _⟩ := I.1
        clear I
        generalize turns ρ 6 1 = F at *
        obtain ⟨p0, R0, k0, N0, ⟨A0, o0⟩, D0, a0, G0, F0⟩ := hob 0 (by decide)
        obtain ⟨p1, R1, k1, N1, ⟨A1, o1⟩, D1, a1, G1, F1⟩ := hob 1 (by decide)
        obtain ⟨p2, R2, k2, N2, ⟨A2, o2⟩, D2, a2, G2, F2⟩ := hob 2 (by decide)
        refine ⟨rfl, fun H6 ml s56 _ hml => ⟨ml, rfl, ⟨_, SqL.of hml⟩, ?_⟩⟩
        refine for_it walk_list (fun j σ H' => ∃ (y12 : Option V), σ = [some (.ref a), some (.ref d), some (.ref l), some (.ref O), y4, y5, y6, y7, y8, y9, y10, y11, y12] ∧ Same H6 H') ⟨none, rfl, Same.refl _⟩ (fun j σ H' _ ⟨_, _, s⟩ => SqL.of (s _ _ hml)) ?_ ?_
        · rintro j x σ H7z H7 hj ⟨y12, rfl, s67⟩ ⟨rfl, hx⟩
          obtain ⟨m, rfl⟩ : ∃ m, x = .str (S m) := by
            rw [List.getElem?_map] at hx
            cases e : mods[j]? with
            | none => rw [e] at hx; cases hx
            | some m => rw [e] at hx; exact ⟨m, (Option.some.inj hx).symm⟩
          have s57 := Same.tr s56 s67
          obtain ⟨d0, _, _, _, _, _, _, S0, _⟩ := id (DeAt.same D0 s57)
          refine ⟨_, rfl, O, _, 0, .ref (o 0), rfl, rfl, SqL.of (s57 _ _ hO5), rfl, o 0, _, 1, .ref p0, rfl, rfl, SqL.of (s57 _ _ o0), rfl, p0, d0, _, rfl, S0.hp, dflds_no _ _ _ (by decide +kernel) (by decide +kernel) (by decide +kernel), _, rfl, p0, R0, k0, N0, m, rfl, DeAt.same D0 s57, G0, F0, fun H8 es0 s78 e0 => ?_⟩
          have s58 := Same.tr s57 s78
          obtain ⟨d1, _, _, _, _, _, _, S1, _⟩ := id (DeAt.same D1 s58)
          refine ⟨_, rfl, O, _, 1, .ref (o 1), rfl, rfl, SqL.of (s58 _ _ hO5), rfl, o 1, _, 1, .ref p1, rfl, rfl, SqL.of (s58 _ _ o1), rfl, p1, d1, _, rfl, S1.hp, dflds_no _ _ _ (by decide +kernel) (by decide +kernel) (by decide +kernel), _, rfl, p1, R1, k1, N1, m, rfl, DeAt.same D1 s58, G1, F1, fun H9 es1 s89 e1 => ?_⟩
          have s59 := Same.tr s58 s89
          rw [text_agree (fun r hr => (a0 r hr).trans (a1 r hr).symm) e1 e0]
          refine ⟨rfl, _, rfl, iteNo (by simp [nomark]) ?_⟩
          obtain ⟨d2, _, _, _, _, _, _, S2, _⟩ := id (DeAt.same D2 s59)
          refine ⟨_, rfl, O, _, 2, .ref (o 2), rfl, rfl, SqL.of (s59 _ _ hO5), rfl, o 2, _, 1, .ref p2, rfl, rfl, SqL.of (s59 _ _ o2), rfl, p2, d2, _, rfl, S2.hp, dflds_no _ _ _ (by decide +kernel) (by decide +kernel) (by decide +kernel), _, rfl, p2, R2, k2, N2, m, rfl, DeAt.same D2 s59, G2, F2, fun H10 es2 s910 e2 => ?_⟩
          have s510 := Same.tr s59 s910
          obtain ⟨d3, _, _, _, _, _, _, S3, _⟩ := id (DeAt.same D1 s510)
          refine ⟨_, rfl, O, _, 1, .ref (o 1), rfl, rfl, SqL.of (s510 _ _ hO5), rfl, o 1, _, 1, .ref p1, rfl, rfl, SqL.of (s510 _ _ o1), rfl, p1, d3, _, rfl, S3.hp, dflds_no _ _ _ (by decide +kernel) (by decide +kernel) (by decide +kernel), _, rfl, p1, R1, k1, N1, m, rfl, DeAt.same D1 s510, G1, F1, fun H11 es3 s1011 e3 => ?_⟩
          rw [text_agree (fun r hr => (a2 r hr).trans (a1 r hr).symm) e3 e2]
          refine ⟨rfl, _, rfl, iteNo (by simp [nomark]) ?_⟩
          exact ⟨_, rfl, Same.tr s67 (Same.tr s78 (Same.tr s89 (Same.tr s910 s1011)))⟩
        · rintro σ H7 ⟨y12, rfl, s67⟩
          have s57 := Same.tr s56 s67
          obtain ⟨d0, _, _, _, _, _, _, S0, _⟩ := id (DeAt.same D0 s57)
          obtain ⟨d1, _, _, _, _, _, _, S1, _⟩ := id (DeAt.same D1 s57)
          refine ⟨_, rfl, O, _, 0, .ref (o 0), rfl, rfl, SqL.of (s57 _ _ hO5), rfl, o 0, _, 1, .ref p0, rfl, rfl, SqL.of (s57 _ _ o0), rfl, p0, Z.cDeeds, d0, _, _, rfl, S0.hp, Z.CDeeds.cl, Z.nDeeds_rows, dflds_rows _ _ _, _, rfl, O, _, 1, .ref (o 1), rfl, rfl, SqL.of (s57 _ _ hO5), rfl, o 1, _, 1, .ref p1, rfl, rfl, SqL.of (s57 _ _ o1), rfl, p1, Z.cDeeds, d1, _, _, rfl, S1.hp, Z.CDeeds.cl, Z.nDeeds_rows, dflds_rows _ _ _, ?_⟩
          refine ⟨_, _, rfl, rows_same S0.hr S1.hr F1 (fun r hr => (a0 r hr).trans (a1 r hr).symm), fun H8 s78 => ?_⟩
          have s58 := Same.tr s57 s78
          obtain ⟨d2, _, _, _, _, _, _, S2, _⟩ := id (DeAt.same D2 s58)
          obtain ⟨d3, _, _, _, _, _, _, S3, _⟩ := id (DeAt.same D1 s58)
          refine ⟨true, rfl, iteYes rfl ?_⟩
          refine ⟨_, rfl, O, _, 2, .ref (o 2), rfl, rfl, SqL.of (s58 _ _ hO5), rfl, o 2, _, 1, .ref p2, rfl, rfl, SqL.of (s58 _ _ o2), rfl, p2, Z.cDeeds, d2, _, _, rfl, S2.hp, Z.CDeeds.cl, Z.nDeeds_rows, dflds_rows _ _ _, _, rfl, O, _, 1, .ref (o 1), rfl, rfl, SqL.of (s58 _ _ hO5), rfl, o 1, _, 1, .ref p1, rfl, rfl, SqL.of (s58 _ _ o1), rfl, p1, Z.cDeeds, d3, _, _, rfl, S3.hp, Z.CDeeds.cl, Z.nDeeds_rows, dflds_rows _ _ _, ?_⟩
          exact ⟨_, _, rfl, rows_same S2.hr S3.hr F1 (fun r hr => (a2 r hr).trans (a1 r hr).symm), fun H9 s89 => qq H9⟩
end
end Q07
namespace Q07
open PySem PySem.Spec PyProof.Rows L2 SX HL
theorem all_mk {l : PySem.W.OpenLaw} {w : World} {K : PySem.W.Frag} {h : Heap} {mg : Str → Option Value} {fa cO Pc f1 f2 f3 f4 f5 f6 f7 f8 f9 f10 f11 f12 f13 f14 f15 f16 f17 f18 f19 f20 f21 f22 f23 f24 f25 f26 f27 f28 f29 : Addr} (X : K.In h) (G : h.Ns mainGlobals mg) (hfa : mg "law" = some (.ref fa))
    {od1 an1 od2 an2 od3 an3 od4 an4 od5 an5 od6 an6 od7 an7 od8 an8 od9 an9 od10 an10 od11 an11 od12 an12 od13 an13 od14 an14 od15 an15 od16 an16 od17 an17 od18 an18 od19 an19 od20 an20 od21 an21 od22 an22 od23 an23 od24 an24 od25 an25 od26 an26 od27 an27 od28 an28 od29 an29 : Option Addr} {sl1 sl2 sl3 sl4 sl5 sl6 sl7 sl8 sl9 sl10 sl11 sl12 sl13 sl14 sl15 sl16 sl17 sl18 sl19 sl20 sl21 sl22 sl23 sl24 sl25 sl26 sl27 sl28 sl29 : Array (Option Value)} {oc1 kV1 dc1 pm1 cd1 ct1 oc2 kV2 dc2 pm2 cd2 ct2 oc3 kV3 dc3 pm3 cd3 ct3 oc4 kV4 dc4 pm4 cd4 ct4 oc5 kV5 dc5 pm5 cd5 ct5 oc6 kV6 dc6 pm6 cd6 ct6 oc7 kV7 dc7 pm7 cd7 ct7 oc8 kV8 dc8 pm8 cd8 ct8 oc9 kV9 dc9 pm9 cd9 ct9 oc10 kV10 dc10 pm10 cd10 ct10 oc11 kV11 dc11 pm11 cd11 ct11 oc12 kV12 dc12 pm12 cd12 ct12 oc13 kV13 dc13 pm13 cd13 ct13 oc14 kV14 dc14 pm14 cd14 ct14 oc15 kV15 dc15 pm15  ct15 oc16 kV16 dc16 pm16 cd16 ct16 oc17 kV17 dc17 pm17 cd17 ct17 oc18 kV18 dc18 pm18 cd18 ct18 oc19 kV19 dc19 pm19 cd19 ct19 oc20 kV20 dc20 pm20 cd20 ct20 oc21 kV21 dc21 pm21 cd21 ct21 oc22 kV22 dc22 pm22 cd22 ct22 oc23 kV23 dc23 pm23 cd23 ct23 oc24 kV24 dc24 pm24 cd24 ct24 oc25 kV25 dc25 pm25 cd25 ct25 oc26 kV26 dc26 pm26 cd26 ct26 oc27 kV27 dc27 pm27 cd27 ct27 oc28 kV28 dc28 pm28 cd28 ct28 oc29 kV29 dc29 pm29 cd29 ct29 : Value}
    {cDeeds g1 g2 g3 g4 g5 g6 g7 g8 : Addr} {Od1 An1 Od2 An2 Od3 An3 Od4 An4 Od5 An5 Od6 An6 Od7 An7 Od8 An8 : Option Addr} {Sl1 Sl2 Sl3 Sl4 Sl5 Sl6 Sl7 Sl8 : Array (Option Value)} {Oc1 KV1 Dc1 Pm1 Cd1 Ct1 Oc2 KV2 Dc2 Pm2 Cd2 Ct2 Oc3 KV3 Dc3 Pm3 Cd3 Ct3 Oc4 KV4 Dc4 Pm4 Cd4 Ct4 Oc5 KV5 Dc5 Pm5 Cd5 Ct5 Oc6 KV6 Dc6 Pm6 Cd6 Ct6 Oc7 KV7 Dc7 Pm7 Cd7 Ct7 Oc8 KV8 Dc8 Pm8 Cd8 Ct8 : Value}
    {tREPLICAS tLONGEST_MODULE : Tok}
    (a1 : PySem.W.nsIn K mainGlobals "forces" = some (some (.ref f1)))
    (l1 : K.lookup f1 = some ⟨oc1, od1, .func (PySem.W.fnOf "forces" "forces" (defArgs sForces) (defBody sForces) (defScope sForces) .none kV1 dc1 pm1 an1 cd1 ct1), sl1⟩)
    (c1 : PySem.W.codeIn K cd1 "forces" = true)
    (k1 : PySem.W.keepIn K (.ref f1) = true)
    (a2 : PySem.W.nsIn K mainGlobals "inserted" = some (some (.ref f2)))
    (l2 : K.lookup f2 = some ⟨oc2, od2, .func (PySem.W.fnOf "inserted" "inserted" (defArgs sInserted) (defBody sInserted) (defScope sInserted) .none kV2 dc2 pm2 an2 cd2 ct2), sl2⟩)
    (c2 : PySem.W.codeIn K cd2 "inserted" = true)
    (k2 : PySem.W.keepIn K (.ref f2) = true)
    (a3 : PySem.W.nsIn K mainGlobals "in_order" = some (some (.ref f3)))
    (l3 : K.lookup f3 = some ⟨oc3, od3, .func (PySem.W.fnOf "in_order" "in_order" (defArgs sInOrder) (defBody sInOrder) (defScope sInOrder) .none kV3 dc3 pm3 an3 cd3 ct3), sl3⟩)
    (c3 : PySem.W.codeIn K cd3 "in_order" = true)
    (k3 : PySem.W.keepIn K (.ref f3) = true)
    (a4 : PySem.W.nsIn K mainGlobals "lacking" = some (some (.ref f4)))
    (l4 : K.lookup f4 = some ⟨oc4, od4, .func (PySem.W.fnOf "lacking" "lacking" (defArgs sLacking) (defBody sLacking) (defScope sLacking) .none kV4 dc4 pm4 an4 cd4 ct4), sl4⟩)
    (c4 : PySem.W.codeIn K cd4 "lacking" = true)
    (k4 : PySem.W.keepIn K (.ref f4) = true)
    (a5 : PySem.W.nsIn K mainGlobals "received" = some (some (.ref f5)))
    (l5 : K.lookup f5 = some ⟨oc5, od5, .func (PySem.W.fnOf "received" "received" (defArgs sReceived) (defBody sReceived) (defScope sReceived) .none kV5 dc5 pm5 an5 cd5 ct5), sl5⟩)
    (c5 : PySem.W.codeIn K cd5 "received" = true)
    (k5 : PySem.W.keepIn K (.ref f5) = true)
    (a6 : PySem.W.nsIn K mainGlobals "first_fitting" = some (some (.ref f6)))
    (l6 : K.lookup f6 = some ⟨oc6, od6, .func (PySem.W.fnOf "first_fitting" "first_fitting" (defArgs sFirstFitting) (defBody sFirstFitting) (defScope sFirstFitting) .none kV6 dc6 pm6 an6 cd6 ct6), sl6⟩)
    (c6 : PySem.W.codeIn K cd6 "first_fitting" = true)
    (k6 : PySem.W.keepIn K (.ref f6) = true)
    (a7 : PySem.W.nsIn K mainGlobals "_law_mix" = some (some (.ref f7)))
    (l7 : K.lookup f7 = some ⟨oc7, od7, .func (PySem.W.fnOf "_law_mix" "_law_mix" (defArgs sLawMix) (defBody sLawMix) (defScope sLawMix) .none kV7 dc7 pm7 an7 cd7 ct7), sl7⟩)
    (c7 : PySem.W.codeIn K cd7 "_law_mix" = true)
    (k7 : PySem.W.keepIn K (.ref f7) = true)
    (a8 : PySem.W.nsIn K mainGlobals "_law_draws" = some (some (.ref f8)))
    (l8 : K.lookup f8 = some ⟨oc8, od8, .func (PySem.W.fnOf "_law_draws" "_law_draws" (defArgs sLawDraws) (defBody sLawDraws) (defScope sLawDraws) .none kV8 dc8 pm8 an8 cd8 ct8), sl8⟩)
    (c8 : PySem.W.codeIn K cd8 "_law_draws" = true)
    (k8 : PySem.W.keepIn K (.ref f8) = true)
    (a9 : PySem.W.nsIn K mainGlobals "_law_at" = some (some (.ref f9)))
    (l9 : K.lookup f9 = some ⟨oc9, od9, .func (PySem.W.fnOf "_law_at" "_law_at" (defArgs sLawAt) (defBody sLawAt) (defScope sLawAt) .none kV9 dc9 pm9 an9 cd9 ct9), sl9⟩)
    (c9 : PySem.W.codeIn K cd9 "_law_at" = true)
    (k9 : PySem.W.keepIn K (.ref f9) = true)
    (a10 : PySem.W.nsIn K mainGlobals "_law_is_integer" = some (some (.ref f10)))
    (l10 : K.lookup f10 = some ⟨oc10, od10, .func (PySem.W.fnOf "_law_is_integer" "_law_is_integer" (defArgs sLawIsInteger) (defBody sLawIsInteger) (defScope sLawIsInteger) .none kV10 dc10 pm10 an10 cd10 ct10), sl10⟩)
    (c10 : PySem.W.codeIn K cd10 "_law_is_integer" = true)
    (k10 : PySem.W.keepIn K (.ref f10) = true)
    (a11 : PySem.W.nsIn K mainGlobals "_law_same" = some (some (.ref f11)))
    (l11 : K.lookup f11 = some ⟨oc11, od11, .func (PySem.W.fnOf "_law_same" "_law_same" (defArgs sLawSame) (defBody sLawSame) (defScope sLawSame) .none kV11 dc11 pm11 an11 cd11 ct11), sl11⟩)
    (c11 : PySem.W.codeIn K cd11 "_law_same" = true)
    (k11 : PySem.W.keepIn K (.ref f11) = true)
    (a12 : PySem.W.nsIn K mainGlobals "_law_inserted" = some (some (.ref f12)))
    (l12 : K.lookup f12 = some ⟨oc12, od12, .func (PySem.W.fnOf "_law_inserted" "_law_inserted" (defArgs sLawInserted) (defBody sLawInserted) (defScope sLawInserted) .none kV12 dc12 pm12 an12 cd12 ct12), sl12⟩)
    (c12 : PySem.W.codeIn K cd12 "_law_inserted" = true)
    (k12 : PySem.W.keepIn K (.ref f12) = true)
    (a13 : PySem.W.nsIn K mainGlobals "_law_forces" = some (some (.ref f13)))
    (l13 : K.lookup f13 = some ⟨oc13, od13, .func (PySem.W.fnOf "_law_forces" "_law_forces" (defArgs sLawForces) (defBody sLawForces) (defScope sLawForces) .none kV13 dc13 pm13 an13 cd13 ct13), sl13⟩)
    (c13 : PySem.W.codeIn K cd13 "_law_forces" = true)
    (k13 : PySem.W.keepIn K (.ref f13) = true)
    (a14 : PySem.W.nsIn K mainGlobals "_law_changes" = some (some (.ref f14)))
    (l14 : K.lookup f14 = some ⟨oc14, od14, .func (PySem.W.fnOf "_law_changes" "_law_changes" (defArgs sLawChanges) (defBody sLawChanges) (defScope sLawChanges) .none kV14 dc14 pm14 an14 cd14 ct14), sl14⟩)
    (c14 : PySem.W.codeIn K cd14 "_law_changes" = true)
    (k14 : PySem.W.keepIn K (.ref f14) = true)
    (a15 : PySem.W.nsIn K mainGlobals "_law_row" = some (some (.ref f15)))
    (l15 : K.lookup f15 = some ⟨oc15, od15, .func (PySem.W.fnOf "_law_row" "_law_row" (defArgs sLawRow) (defBody sLawRow) (defScope sLawRow) .none kV15 dc15 pm15 an15 (.ref cO) ct15), sl15⟩)
    (c15 : PySem.W.codeIn K (.ref cO) "_law_row" = true)
    (k15 : PySem.W.keepIn K (.ref f15) = true)
    (a16 : PySem.W.nsIn K mainGlobals "_law_last" = some (some (.ref f16)))
    (l16 : K.lookup f16 = some ⟨oc16, od16, .func (PySem.W.fnOf "_law_last" "_law_last" (defArgs sLawLast) (defBody sLawLast) (defScope sLawLast) .none kV16 dc16 pm16 an16 cd16 ct16), sl16⟩)
    (c16 : PySem.W.codeIn K cd16 "_law_last" = true)
    (k16 : PySem.W.keepIn K (.ref f16) = true)
    (a17 : PySem.W.nsIn K mainGlobals "_law_modules" = some (some (.ref f17)))
    (l17 : K.lookup f17 = some ⟨oc17, od17, .func (PySem.W.fnOf "_law_modules" "_law_modules" (defArgs sLawModules) (defBody sLawModules) (defScope sLawModules) .none kV17 dc17 pm17 an17 cd17 ct17), sl17⟩)
    (c17 : PySem.W.codeIn K cd17 "_law_modules" = true)
    (k17 : PySem.W.keepIn K (.ref f17) = true)
    (a18 : PySem.W.nsIn K mainGlobals "_law_letters" = some (some (.ref f18)))
    (l18 : K.lookup f18 = some ⟨oc18, od18, .func (PySem.W.fnOf "_law_letters" "_law_letters" (defArgs sLawLetters) (defBody sLawLetters) (defScope sLawLetters) .none kV18 dc18 pm18 an18 cd18 ct18), sl18⟩)
    (c18 : PySem.W.codeIn K cd18 "_law_letters" = true)
    (k18 : PySem.W.keepIn K (.ref f18) = true)
    (a19 : PySem.W.nsIn K mainGlobals "_law_deed" = some (some (.ref f19)))
    (l19 : K.lookup f19 = some ⟨oc19, od19, .func (PySem.W.fnOf "_law_deed" "_law_deed" (defArgs sLawDeed) (defBody sLawDeed) (defScope sLawDeed) .none kV19 dc19 pm19 an19 cd19 ct19), sl19⟩)
    (c19 : PySem.W.codeIn K cd19 "_law_deed" = true)
    (k19 : PySem.W.keepIn K (.ref f19) = true)
    (a20 : PySem.W.nsIn K mainGlobals "_law_visible" = some (some (.ref f20)))
    (l20 : K.lookup f20 = some ⟨oc20, od20, .func (PySem.W.fnOf "_law_visible" "_law_visible" (defArgs sLawVisible) (defBody sLawVisible) (defScope sLawVisible) .none kV20 dc20 pm20 an20 cd20 ct20), sl20⟩)
    (c20 : PySem.W.codeIn K cd20 "_law_visible" = true)
    (k20 : PySem.W.keepIn K (.ref f20) = true)
    (a21 : PySem.W.nsIn K mainGlobals "_law_triples" = some (some (.ref f21)))
    (l21 : K.lookup f21 = some ⟨oc21, od21, .func (PySem.W.fnOf "_law_triples" "_law_triples" (defArgs sLawTriples) (defBody sLawTriples) (defScope sLawTriples) .none kV21 dc21 pm21 an21 cd21 ct21), sl21⟩)
    (c21 : PySem.W.codeIn K cd21 "_law_triples" = true)
    (k21 : PySem.W.keepIn K (.ref f21) = true)
    (a22 : PySem.W.nsIn K mainGlobals "_law_fits" = some (some (.ref f22)))
    (l22 : K.lookup f22 = some ⟨oc22, od22, .func (PySem.W.fnOf "_law_fits" "_law_fits" (defArgs sLawFits) (defBody sLawFits) (defScope sLawFits) .none kV22 dc22 pm22 an22 cd22 ct22), sl22⟩)
    (c22 : PySem.W.codeIn K cd22 "_law_fits" = true)
    (k22 : PySem.W.keepIn K (.ref f22) = true)
    (a23 : PySem.W.nsIn K mainGlobals "_law_first" = some (some (.ref f23)))
    (l23 : K.lookup f23 = some ⟨oc23, od23, .func (PySem.W.fnOf "_law_first" "_law_first" (defArgs sLawFirst) (defBody sLawFirst) (defScope sLawFirst) .none kV23 dc23 pm23 an23 cd23 ct23), sl23⟩)
    (c23 : PySem.W.codeIn K cd23 "_law_first" = true)
    (k23 : PySem.W.keepIn K (.ref f23) = true)
    (a24 : PySem.W.nsIn K mainGlobals "_law_received" = some (some (.ref f24)))
    (l24 : K.lookup f24 = some ⟨oc24, od24, .func (PySem.W.fnOf "_law_received" "_law_received" (defArgs sLawReceived) (defBody sLawReceived) (defScope sLawReceived) .none kV24 dc24 pm24 an24 cd24 ct24), sl24⟩)
    (c24 : PySem.W.codeIn K cd24 "_law_received" = true)
    (k24 : PySem.W.keepIn K (.ref f24) = true)
    (a25 : PySem.W.nsIn K mainGlobals "_law_lacking" = some (some (.ref f25)))
    (l25 : K.lookup f25 = some ⟨oc25, od25, .func (PySem.W.fnOf "_law_lacking" "_law_lacking" (defArgs sLawLacking) (defBody sLawLacking) (defScope sLawLacking) .none kV25 dc25 pm25 an25 cd25 ct25), sl25⟩)
    (c25 : PySem.W.codeIn K cd25 "_law_lacking" = true)
    (k25 : PySem.W.keepIn K (.ref f25) = true)
    (a26 : PySem.W.nsIn K mainGlobals "_law_turned" = some (some (.ref f26)))
    (l26 : K.lookup f26 = some ⟨oc26, od26, .func (PySem.W.fnOf "_law_turned" "_law_turned" (defArgs sLawTurned) (defBody sLawTurned) (defScope sLawTurned) .none kV26 dc26 pm26 an26 cd26 ct26), sl26⟩)
    (c26 : PySem.W.codeIn K cd26 "_law_turned" = true)
    (k26 : PySem.W.keepIn K (.ref f26) = true)
    (a27 : PySem.W.nsIn K mainGlobals "_law_passes" = some (some (.ref f27)))
    (l27 : K.lookup f27 = some ⟨oc27, od27, .func (PySem.W.fnOf "_law_passes" "_law_passes" (defArgs sLawPasses) (defBody sLawPasses) (defScope sLawPasses) .none kV27 dc27 pm27 an27 cd27 ct27), sl27⟩)
    (c27 : PySem.W.codeIn K cd27 "_law_passes" = true)
    (k27 : PySem.W.keepIn K (.ref f27) = true)
    (a28 : PySem.W.nsIn K mainGlobals "_law_start" = some (some (.ref f28)))
    (l28 : K.lookup f28 = some ⟨oc28, od28, .func (PySem.W.fnOf "_law_start" "_law_start" (defArgs sLawStart) (defBody sLawStart) (defScope sLawStart) .none kV28 dc28 pm28 an28 cd28 ct28), sl28⟩)
    (c28 : PySem.W.codeIn K cd28 "_law_start" = true)
    (k28 : PySem.W.keepIn K (.ref f28) = true)
    (a29 : PySem.W.nsIn K mainGlobals "law" = some (some (.ref f29)))
    (l29 : K.lookup f29 = some ⟨oc29, od29, .func (PySem.W.fnOf "law" "law" (defArgs sLaw) (defBody sLaw) (defScope sLaw) .none kV29 dc29 pm29 an29 cd29 ct29), sl29⟩)
    (c29 : PySem.W.codeIn K cd29 "law" = true)
    (k29 : PySem.W.keepIn K (.ref f29) = true)
    (caDeeds : PySem.W.nsIn K mainGlobals "Deeds" = some (some (.ref cDeeds)))
    (ma1 : PySem.W.findIn K (.ref cDeeds) "__init__" = some (some (.ref g1)))
    (mi1 : PySem.W.isFn K (.ref g1) = true)
    (ml1 : K.lookup g1 = some ⟨Oc1, Od1, .func (PySem.W.fnOf "__init__" "Deeds.__init__" (defArgs sDeedsInit) (defBody sDeedsInit) (defScope sDeedsInit) .none KV1 Dc1 Pm1 An1 Cd1 Ct1), Sl1⟩)
    (mc1 : PySem.W.codeIn K Cd1 "Deeds.__init__" = true)
    (mk1 : PySem.W.keepIn K (.ref g1) = true)
    (ma2 : PySem.W.findIn K (.ref cDeeds) "counts" = some (some (.ref g2)))
    (mi2 : PySem.W.isFn K (.ref g2) = true)
    (ml2 : K.lookup g2 = some ⟨Oc2, Od2, .func (PySem.W.fnOf "counts" "Deeds.counts" (defArgs sDeedsCounts) (defBody sDeedsCounts) (defScope sDeedsCounts) .none KV2 Dc2 Pm2 An2 Cd2 Ct2), Sl2⟩)
    (mc2 : PySem.W.codeIn K Cd2 "Deeds.counts" = true)
    (mk2 : PySem.W.keepIn K (.ref g2) = true)
    (ma3 : PySem.W.findIn K (.ref cDeeds) "add" = some (some (.ref g3)))
    (mi3 : PySem.W.isFn K (.ref g3) = true)
    (ml3 : K.lookup g3 = some ⟨Oc3, Od3, .func (PySem.W.fnOf "add" "Deeds.add" (defArgs sDeedsAdd) (defBody sDeedsAdd) (defScope sDeedsAdd) .none KV3 Dc3 Pm3 An3 Cd3 Ct3), Sl3⟩)
    (mc3 : PySem.W.codeIn K Cd3 "Deeds.add" = true)
    (mk3 : PySem.W.keepIn K (.ref g3) = true)
    (ma4 : PySem.W.findIn K (.ref cDeeds) "copy" = some (some (.ref g4)))
    (mi4 : PySem.W.isFn K (.ref g4) = true)
    (ml4 : K.lookup g4 = some ⟨Oc4, Od4, .func (PySem.W.fnOf "copy" "Deeds.copy" (defArgs sDeedsCopy) (defBody sDeedsCopy) (defScope sDeedsCopy) .none KV4 Dc4 Pm4 An4 Cd4 Ct4), Sl4⟩)
    (mc4 : PySem.W.codeIn K Cd4 "Deeds.copy" = true)
    (mk4 : PySem.W.keepIn K (.ref g4) = true)
    (ma5 : PySem.W.findIn K (.ref cDeeds) "row" = some (some (.ref g5)))
    (mi5 : PySem.W.isFn K (.ref g5) = true)
    (ml5 : K.lookup g5 = some ⟨Oc5, Od5, .func (PySem.W.fnOf "row" "Deeds.row" (defArgs sDeedsRow) (defBody sDeedsRow) (defScope sDeedsRow) .none KV5 Dc5 Pm5 An5 Cd5 Ct5), Sl5⟩)
    (mc5 : PySem.W.codeIn K Cd5 "Deeds.row" = true)
    (mk5 : PySem.W.keepIn K (.ref g5) = true)
    (ma6 : PySem.W.findIn K (.ref cDeeds) "text" = some (some (.ref g6)))
    (mi6 : PySem.W.isFn K (.ref g6) = true)
    (ml6 : K.lookup g6 = some ⟨Oc6, Od6, .func (PySem.W.fnOf "text" "Deeds.text" (defArgs sDeedsText) (defBody sDeedsText) (defScope sDeedsText) .none KV6 Dc6 Pm6 An6 Cd6 Ct6), Sl6⟩)
    (mc6 : PySem.W.codeIn K Cd6 "Deeds.text" = true)
    (mk6 : PySem.W.keepIn K (.ref g6) = true)
    (ma7 : PySem.W.findIn K (.ref cDeeds) "fits" = some (some (.ref g7)))
    (mi7 : PySem.W.isFn K (.ref g7) = true)
    (ml7 : K.lookup g7 = some ⟨Oc7, Od7, .func (PySem.W.fnOf "fits" "Deeds.fits" (defArgs sDeedsFits) (defBody sDeedsFits) (defScope sDeedsFits) .none KV7 Dc7 Pm7 An7 Cd7 Ct7), Sl7⟩)
    (mc7 : PySem.W.codeIn K Cd7 "Deeds.fits" = true)
    (mk7 : PySem.W.keepIn K (.ref g7) = true)
    (ma8 : PySem.W.findIn K (.ref cDeeds) "_changes" = some (some (.ref g8)))
    (mi8 : PySem.W.isFn K (.ref g8) = true)
    (ml8 : K.lookup g8 = some ⟨Oc8, Od8, .func (PySem.W.fnOf "_changes" "Deeds._changes" (defArgs sDeedsChanges) (defBody sDeedsChanges) (defScope sDeedsChanges) .none KV8 Dc8 Pm8 An8 Cd8 Ct8), Sl8⟩)
    (mc8 : PySem.W.codeIn K Cd8 "Deeds._changes" = true)
    (mk8 : PySem.W.keepIn K (.ref g8) = true)
    (cpgDeeds : PySem.W.plainGet K cDeeds Str.empty = true)
    (chdDeeds : PySem.W.hasDictIn K cDeeds = true)
    (cpoDeeds : PySem.W.plainOver K cDeeds = true)
    (csaDeeds : PySem.W.findIn K (.ref cDeeds) "__setattr__" = some (some (.builtin "object.__setattr__")))
    (cmkDeeds : PySem.W.makesIn K cDeeds = true)
    (ckcDeeds : PySem.W.keepIn K (.ref cDeeds) = true)
    (cnDeeds_0 : PySem.W.findIn K (.ref cDeeds) "rows" = some none)
    (cnDeeds_1 : PySem.W.findIn K (.ref cDeeds) "_marks" = some none)
    (cnDeeds_2 : PySem.W.findIn K (.ref cDeeds) "_ends" = some none)
    (z_all : PySem.W.nsIn K mainGlobals "all" = some none)
    (z_bool : PySem.W.nsIn K mainGlobals "bool" = some none)
    (z_enumerate : PySem.W.nsIn K mainGlobals "enumerate" = some none)
    (z_int : PySem.W.nsIn K mainGlobals "int" = some none)
    (z_isinstance : PySem.W.nsIn K mainGlobals "isinstance" = some none)
    (z_len : PySem.W.nsIn K mainGlobals "len" = some none)
    (z_list : PySem.W.nsIn K mainGlobals "list" = some none)
    (z_max : PySem.W.nsIn K mainGlobals "max" = some none)
    (z_min : PySem.W.nsIn K mainGlobals "min" = some none)
    (z_range : PySem.W.nsIn K mainGlobals "range" = some none)
    (z_sorted : PySem.W.nsIn K mainGlobals "sorted" = some none)
    (z_str : PySem.W.nsIn K mainGlobals "str" = some none)
    (z_tuple : PySem.W.nsIn K mainGlobals "tuple" = some none)
    (z_zip : PySem.W.nsIn K mainGlobals "zip" = some none)
    (g_REPLICAS : PySem.W.nsIn K mainGlobals "REPLICAS" = some (some (.int 8 tREPLICAS)))
    (g_LONGEST_MODULE : PySem.W.nsIn K mainGlobals "LONGEST_MODULE" = some (some (.int 40 tLONGEST_MODULE)))
    (t_tab : h.get? Pc = some { cls := .none, data := .fields #[] })
    (t_no : K.lookup Pc = none)
    (t_code : PySem.W.codeHdIn K cO Pc = true)
    : LamX.LawAtS l w K CX0 14 63 "script" mg fa h := by
  have e := hfa.symm.trans (PySem.W.mg_of X G a29)
  cases e
  have F1 := fun_mk (st := sForces) l1 c1 k1
  have b1 := F1.binds (ps := ["deeds"]) fun _ _ _ _ _ _ us hl => match us, hl with | [_], _ => rfl
  have F2 := fun_mk (st := sInserted) l2 c2 k2
  have b2 := F2.binds (ps := ["replica", "deed"]) fun _ _ _ _ _ _ us hl => match us, hl with | [_, _], _ => rfl
  have F3 := fun_mk (st := sInOrder) l3 c3 k3
  have b3 := F3.binds (ps := ["behinds"]) fun _ _ _ _ _ _ us hl => match us, hl with | [_], _ => rfl
  have F4 := fun_mk (st := sLacking) l4 c4 k4
  have b4 := F4.binds (ps := ["deeds", "counts"]) fun _ _ _ _ _ _ us hl => match us, hl with | [_, _], _ => rfl
  have F5 := fun_mk (st := sReceived) l5 c5 k5
  have b5 := F5.binds (ps := ["deeds", "packet"]) fun _ _ _ _ _ _ us hl => match us, hl with | [_, _], _ => rfl
  have F6 := fun_mk (st := sFirstFitting) l6 c6 k6
  have b6 := F6.binds (ps := ["known", "packet", "offers"]) fun _ _ _ _ _ _ us hl => match us, hl with | [_, _, _], _ => rfl
  have F7 := fun_mk (st := sLawMix) l7 c7 k7
  have b7 := F7.binds (ps := ["cell", "k"]) fun _ _ _ _ _ _ us hl => match us, hl with | [_, _], _ => rfl
  have F8 := fun_mk (st := sLawDraws) l8 c8 k8
  have b8 := F8.binds (ps := ["script"]) fun _ _ _ _ _ _ us hl => match us, hl with | [_], _ => rfl
  have F9 := fun_mk (st := sLawAt) l9 c9 k9
  have b9 := F9.binds (ps := ["draws", "index"]) fun _ _ _ _ _ _ us hl => match us, hl with | [_, _], _ => rfl
  have F10 := fun_mk (st := sLawIsInteger) l10 c10 k10
  have b10 := F10.binds (ps := ["actual"]) fun _ _ _ _ _ _ us hl => match us, hl with | [_], _ => rfl
  have F11 := fun_mk (st := sLawSame) l11 c11 k11
  have b11 := F11.binds (ps := ["actual", "expected"]) fun _ _ _ _ _ _ us hl => match us, hl with | [_, _], _ => rfl
  have F12 := fun_mk (st := sLawInserted) l12 c12 k12
  have b12 := F12.binds (ps := ["replica", "deed"]) fun _ _ _ _ _ _ us hl => match us, hl with | [_, _], _ => rfl
  have F13 := fun_mk (st := sLawForces) l13 c13 k13
  have b13 := F13.binds (ps := ["row"]) fun _ _ _ _ _ _ us hl => match us, hl with | [_], _ => rfl
  have F14 := fun_mk (st := sLawChanges) l14 c14 k14
  have b14 := F14.binds (ps := ["rows", "module"]) fun _ _ _ _ _ _ us hl => match us, hl with | [_, _], _ => rfl
  have F15 := fun_mk (st := sLawRow) l15 c15 k15
  have b15 := F15.binds (ps := ["rows", "module"]) fun _ _ _ _ _ _ us hl => match us, hl with | [_, _], _ => rfl
  have F16 := fun_mk (st := sLawLast) l16 c16 k16
  have b16 := F16.binds (ps := ["rows"]) fun _ _ _ _ _ _ us hl => match us, hl with | [_], _ => rfl
  have F17 := fun_mk (st := sLawModules) l17 c17 k17
  have b17 := F17.binds (ps := []) fun _ _ _ _ _ _ us hl => match us, hl with | [], _ => rfl
  have F18 := fun_mk (st := sLawLetters) l18 c18 k18
  have b18 := F18.binds (ps := ["draws", "index"]) fun _ _ _ _ _ _ us hl => match us, hl with | [_, _], _ => rfl
  have F19 := fun_mk (st := sLawDeed) l19 c19 k19
  have b19 := F19.binds (ps := ["draws", "index", "rows", "replica"]) fun _ _ _ _ _ _ us hl => match us, hl with | [_, _, _, _], _ => rfl
  have F20 := fun_mk (st := sLawVisible) l20 c20 k20
  have b20 := F20.binds (ps := ["rows", "counts"]) fun _ _ _ _ _ _ us hl => match us, hl with | [_, _], _ => rfl
  have F21 := fun_mk (st := sLawTriples) l21 c21 k21
  have b21 := F21.binds (ps := ["draws", "start", "steps", "most"]) fun _ _ _ _ _ _ us hl => match us, hl with | [_, _, _, _], _ => rfl
  have F22 := fun_mk (st := sLawFits) l22 c22 k22
  have b22 := F22.binds (ps := ["rows", "replica", "deed"]) fun _ _ _ _ _ _ us hl => match us, hl with | [_, _, _], _ => rfl
  have F23 := fun_mk (st := sLawFirst) l23 c23 k23
  have b23 := F23.binds (ps := ["rows", "packet"]) fun _ _ _ _ _ _ us hl => match us, hl with | [_, _], _ => rfl
  have F24 := fun_mk (st := sLawReceived) l24 c24 k24
  have b24 := F24.binds (ps := ["rows", "packet"]) fun _ _ _ _ _ _ us hl => match us, hl with | [_, _], _ => rfl
  have F25 := fun_mk (st := sLawLacking) l25 c25 k25
  have b25 := F25.binds (ps := ["rows", "counts"]) fun _ _ _ _ _ _ us hl => match us, hl with | [_, _], _ => rfl
  have F26 := fun_mk (st := sLawTurned) l26 c26 k26
  have b26 := F26.binds (ps := ["draws", "base", "packet"]) fun _ _ _ _ _ _ us hl => match us, hl with | [_, _, _], _ => rfl
  have F27 := fun_mk (st := sLawPasses) l27 c27 k27
  have b27 := F27.binds (ps := ["rows", "deeds", "packet"]) fun _ _ _ _ _ _ us hl => match us, hl with | [_, _, _], _ => rfl
  have F28 := fun_mk (st := sLawStart) l28 c28 k28
  have b28 := F28.binds (ps := ["draws", "triples"]) fun _ _ _ _ _ _ us hl => match us, hl with | [_, _], _ => rfl
  have F29 := fun_mk (st := sLaw) l29 c29 k29
  have b29 := F29.binds (ps := ["script"]) fun _ _ _ _ _ _ us hl => match us, hl with | [_], _ => rfl
  have E1 := fun_mk (st := sDeedsInit) ml1 mc1 mk1
  have e1 := E1.binds (ps := ["self"]) fun _ _ _ _ _ _ us hl => match us, hl with | [_], _ => rfl
  have E2 := fun_mk (st := sDeedsCounts) ml2 mc2 mk2
  have e2 := E2.binds (ps := ["self"]) fun _ _ _ _ _ _ us hl => match us, hl with | [_], _ => rfl
  have E3 := fun_mk (st := sDeedsAdd) ml3 mc3 mk3
  have e3 := E3.binds (ps := ["self", "replica", "deed"]) fun _ _ _ _ _ _ us hl => match us, hl with | [_, _, _], _ => rfl
  have E4 := fun_mk (st := sDeedsCopy) ml4 mc4 mk4
  have e4 := E4.binds (ps := ["self"]) fun _ _ _ _ _ _ us hl => match us, hl with | [_], _ => rfl
  have E5 := fun_mk (st := sDeedsRow) ml5 mc5 mk5
  have e5 := E5.binds (ps := ["self", "module"]) fun _ _ _ _ _ _ us hl => match us, hl with | [_, _], _ => rfl
  have E6 := fun_mk (st := sDeedsText) ml6 mc6 mk6
  have e6 := E6.binds (ps := ["self", "module"]) fun _ _ _ _ _ _ us hl => match us, hl with | [_, _], _ => rfl
  have E7 := fun_mk (st := sDeedsFits) ml7 mc7 mk7
  have e7 := E7.binds (ps := ["self", "replica", "deed"]) fun _ _ _ _ _ _ us hl => match us, hl with | [_, _, _], _ => rfl
  have E8 := fun_mk (st := sDeedsChanges) ml8 mc8 mk8
  have e8 := E8.binds (ps := ["self", "module"]) fun _ _ _ _ _ _ us hl => match us, hl with | [_, _], _ => rfl
  let Z : Defs K mg :=
    { all := PySem.W.mg_none_of X G z_all,
      bool := PySem.W.mg_none_of X G z_bool,
      enumerate := PySem.W.mg_none_of X G z_enumerate,
      int := PySem.W.mg_none_of X G z_int,
      isinstance := PySem.W.mg_none_of X G z_isinstance,
      len := PySem.W.mg_none_of X G z_len,
      list := PySem.W.mg_none_of X G z_list,
      max := PySem.W.mg_none_of X G z_max,
      min := PySem.W.mg_none_of X G z_min,
      range := PySem.W.mg_none_of X G z_range,
      sorted := PySem.W.mg_none_of X G z_sorted,
      str := PySem.W.mg_none_of X G z_str,
      tuple := PySem.W.mg_none_of X G z_tuple,
      zip := PySem.W.mg_none_of X G z_zip,
      kREPLICAS := ⟨_, PySem.W.mg_of X G g_REPLICAS⟩,
      kLONGEST_MODULE := ⟨_, PySem.W.mg_of X G g_LONGEST_MODULE⟩,
      fForces := f1,
      fdForces := _,
      DForces := ⟨F1, b1, PySem.W.mg_of X G a1⟩,
      fInserted := f2,
      fdInserted := _,
      DInserted := ⟨F2, b2, PySem.W.mg_of X G a2⟩,
      fInOrder := f3,
      fdInOrder := _,
      DInOrder := ⟨F3, b3, PySem.W.mg_of X G a3⟩,
      fLacking := f4,
      fdLacking := _,
      DLacking := ⟨F4, b4, PySem.W.mg_of X G a4⟩,
      fReceived := f5,
      fdReceived := _,
      DReceived := ⟨F5, b5, PySem.W.mg_of X G a5⟩,
      fFirstFitting := f6,
      fdFirstFitting := _,
      DFirstFitting := ⟨F6, b6, PySem.W.mg_of X G a6⟩,
      fLawMix := f7,
      fdLawMix := _,
      DLawMix := ⟨F7, b7, PySem.W.mg_of X G a7⟩,
      fLawDraws := f8,
      fdLawDraws := _,
      DLawDraws := ⟨F8, b8, PySem.W.mg_of X G a8⟩,
      fLawAt := f9,
      fdLawAt := _,
      DLawAt := ⟨F9, b9, PySem.W.mg_of X G a9⟩,
      fLawIsInteger := f10,
      fdLawIsInteger := _,
      DLawIsInteger := ⟨F10, b10, PySem.W.mg_of X G a10⟩,
      fLawSame := f11,
      fdLawSame := _,
      DLawSame := ⟨F11, b11, PySem.W.mg_of X G a11⟩,
      fLawInserted := f12,
      fdLawInserted := _,
      DLawInserted := ⟨F12, b12, PySem.W.mg_of X G a12⟩,
      fLawForces := f13,
      fdLawForces := _,
      DLawForces := ⟨F13, b13, PySem.W.mg_of X G a13⟩,
      fLawChanges := f14,
      fdLawChanges := _,
      DLawChanges := ⟨F14, b14, PySem.W.mg_of X G a14⟩,
      fLawRow := f15,
      fdLawRow := _,
      cO := cO,
      DLawRow := ⟨⟨oc15, od15, kV15, dc15, pm15, an15, ct15, sl15, rfl, l15, c15⟩, F15, b15, PySem.W.mg_of X G a15⟩,
      DLawRowN := ⟨F15, b15, PySem.W.mg_of X G a15⟩,
      fLawLast := f16,
      fdLawLast := _,
      DLawLast := ⟨F16, b16, PySem.W.mg_of X G a16⟩,
      fLawModules := f17,
      fdLawModules := _,
      DLawModules := ⟨F17, b17, PySem.W.mg_of X G a17⟩,
      fLawLetters := f18,
      fdLawLetters := _,
      DLawLetters := ⟨F18, b18, PySem.W.mg_of X G a18⟩,
      fLawDeed := f19,
      fdLawDeed := _,
      DLawDeed := ⟨F19, b19, PySem.W.mg_of X G a19⟩,
      fLawVisible := f20,
      fdLawVisible := _,
      DLawVisible := ⟨F20, b20, PySem.W.mg_of X G a20⟩,
      fLawTriples := f21,
      fdLawTriples := _,
      DLawTriples := ⟨F21, b21, PySem.W.mg_of X G a21⟩,
      fLawFits := f22,
      fdLawFits := _,
      DLawFits := ⟨F22, b22, PySem.W.mg_of X G a22⟩,
      fLawFirst := f23,
      fdLawFirst := _,
      DLawFirst := ⟨F23, b23, PySem.W.mg_of X G a23⟩,
      fLawReceived := f24,
      fdLawReceived := _,
      DLawReceived := ⟨F24, b24, PySem.W.mg_of X G a24⟩,
      fLawLacking := f25,
      fdLawLacking := _,
      DLawLacking := ⟨F25, b25, PySem.W.mg_of X G a25⟩,
      fLawTurned := f26,
      fdLawTurned := _,
      DLawTurned := ⟨F26, b26, PySem.W.mg_of X G a26⟩,
      fLawPasses := f27,
      fdLawPasses := _,
      DLawPasses := ⟨F27, b27, PySem.W.mg_of X G a27⟩,
      fLawStart := f28,
      fdLawStart := _,
      DLawStart := ⟨F28, b28, PySem.W.mg_of X G a28⟩,
      fLaw := fa,
      fdLaw := _,
      DLaw := ⟨F29, b29, PySem.W.mg_of X G a29⟩,
      cDeeds := cDeeds,
      fDeedsInit := g1,
      fdDeedsInit := _,
      DDeedsInit := ⟨E1, e1⟩,
      CDeeds := ⟨PySem.W.mg_of X G caDeeds, ⟨cpgDeeds, chdDeeds, cpoDeeds, csaDeeds⟩, ⟨cmkDeeds, ma1, mi1, ckcDeeds⟩⟩,
      fDeedsCounts := g2,
      fdDeedsCounts := _,
      DDeedsCounts := ⟨E2, e2, ⟨ma2, mi2, mk2⟩⟩,
      fDeedsAdd := g3,
      fdDeedsAdd := _,
      DDeedsAdd := ⟨E3, e3, ⟨ma3, mi3, mk3⟩⟩,
      fDeedsCopy := g4,
      fdDeedsCopy := _,
      DDeedsCopy := ⟨E4, e4, ⟨ma4, mi4, mk4⟩⟩,
      fDeedsRow := g5,
      fdDeedsRow := _,
      DDeedsRow := ⟨E5, e5, ⟨ma5, mi5, mk5⟩⟩,
      fDeedsText := g6,
      fdDeedsText := _,
      DDeedsText := ⟨E6, e6, ⟨ma6, mi6, mk6⟩⟩,
      fDeedsFits := g7,
      fdDeedsFits := _,
      DDeedsFits := ⟨E7, e7, ⟨ma7, mi7, mk7⟩⟩,
      fDeedsChanges := g8,
      fdDeedsChanges := _,
      DDeedsChanges := ⟨E8, e8, ⟨ma8, mi8, mk8⟩⟩,
      nDeeds_rows := cnDeeds_0,
      nDeeds_marks := cnDeeds_1,
      nDeeds_ends := cnDeeds_2 }
  refine ⟨PySem.W.fnOf "law" "law" (defArgs sLaw) (defBody sLaw) (defScope sLaw) .none kV29 dc29 pm29 an29 cd29 ct29, [(cO, Pc)], spLaw (TC Pc) K, fun p hp => by rw [List.mem_singleton.mp hp]; exact t_tab, fun p hp => by rw [List.mem_singleton.mp hp]; exact t_no, fun p hp => by rw [List.mem_singleton.mp hp]; exact PySem.W.codeHd_of_K X t_code, fun s v => .of_eq rfl, fun H a ns hl _ hT hS => ⟨a, ns, rfl, hS, hl, fun p hp => by rw [List.mem_singleton.mp hp]; exact LamX.TabS.nil (hT (cO, Pc) (List.mem_singleton.mpr rfl)), fun _ => rfl⟩, fun base _ _ TBs => ok_law Z (TBs (cO, Pc) (List.mem_singleton.mpr rfl))⟩
end Q07
open PySem PySem.W PyProof.Rows
set_option maxHeartbeats 0 in
theorem PySem.Challenge.cw_quillrun_k07_whole_packets_bring_deeds_holds : PySem.Challenge.rw_quillrun_k07_whole_packets_bring_deeds.Holds := by
  w_on; o_law; k_head; (case hw => w_witness2)
  k_fill
  refine LamX.walk_ofTs (l := PySem.Challenge.rw_quillrun_k07_whole_packets_bring_deeds) (n := 63) (k := 14) (x := "script") (CX := fun _ => L2.CX0) rfl (by decide) rfl ⟨rfl, by decide, by decide⟩ (fun w h Y => PySem.W.km_in_of Y) ?F (fun _ _ _ _ _ h => h)
  case F =>
    intro w mg fa h Y KX G hmg
    refine' Q07.all_mk KX G hmg ?a1 ?l1 ?c1 ?k1 ?a2 ?l2 ?c2 ?k2 ?a3 ?l3 ?c3 ?k3 ?a4 ?l4 ?c4 ?k4 ?a5 ?l5 ?c5 ?k5 ?a6 ?l6 ?c6 ?k6 ?a7 ?l7 ?c7 ?k7 ?a8 ?l8 ?c8 ?k8 ?a9 ?l9 ?c9 ?k9 ?a10 ?l10 ?c10 ?k10 ?a11 ?l11 ?c11 ?k11 ?a12 ?l12 ?c12 ?k12 ?a13 ?l13 ?c13 ?k13 ?a14 ?l14 ?c14 ?k14 ?a15 ?l15 ?c15 ?k15 ?a16 ?l16 ?c16 ?k16 ?a17 ?l17 ?c17 ?k17 ?a18 ?l18 ?c18 ?k18 ?a19 ?l19 ?c19 ?k19 ?a20 ?l20 ?c20 ?k20 ?a21 ?l21 ?c21 ?k21 ?a22 ?l22 ?c22 ?k22 ?a23 ?l23 ?c23 ?k23 ?a24 ?l24 ?c24 ?k24 ?a25 ?l25 ?c25 ?k25 ?a26 ?l26 ?c26 ?k26 ?a27 ?l27 ?c27 ?k27 ?a28 ?l28 ?c28 ?k28 ?a29 ?l29 ?c29 ?k29 ?caDeeds ?ma1 ?mi1 ?ml1 ?mc1 ?mk1 ?ma2 ?mi2 ?ml2 ?mc2 ?mk2 ?ma3 ?mi3 ?ml3 ?mc3 ?mk3 ?ma4 ?mi4 ?ml4 ?mc4 ?mk4 ?ma5 ?mi5 ?ml5 ?mc5 ?mk5 ?ma6 ?mi6 ?ml6 ?mc6 ?mk6 ?ma7 ?mi7 ?ml7 ?mc7 ?mk7 ?ma8 ?mi8 ?ml8 ?mc8 ?mk8 ?cpgDeeds ?chdDeeds ?cpoDeeds ?csaDeeds ?cmkDeeds ?ckcDeeds ?cnDeeds_0 ?cnDeeds_1 ?cnDeeds_2 ?z_all ?z_bool ?z_enumerate ?z_int ?z_isinstance ?z_len ?z_list ?z_max ?z_min ?z_range ?z_sorted ?z_str ?z_tuple ?z_zip ?g_REPLICAS ?g_LONGEST_MODULE ?t_tab ?t_no ?t_code
    (case a1 => k_is)
    (case l1 => k_is)
    (case c1 => k_is)
    (case k1 => k_is)
    (case a2 => k_is)
    (case l2 => k_is)
    (case c2 => k_is)
    (case k2 => k_is)
    (case a3 => k_is)
    (case l3 => k_is)
    (case c3 => k_is)
    (case k3 => k_is)
    (case a4 => k_is)
    (case l4 => k_is)
    (case c4 => k_is)
    (case k4 => k_is)
    (case a5 => k_is)
    (case l5 => k_is)
    (case c5 => k_is)
    (case k5 => k_is)
    (case a6 => k_is)
    (case l6 => k_is)
    (case c6 => k_is)
    (case k6 => k_is)
    (case a7 => k_is)
    (case l7 => k_is)
    (case c7 => k_is)
    (case k7 => k_is)
    (case a8 => k_is)
    (case l8 => k_is)
    (case c8 => k_is)
    (case k8 => k_is)
    (case a9 => k_is)
    (case l9 => k_is)
    (case c9 => k_is)
    (case k9 => k_is)
    (case a10 => k_is)
    (case l10 => k_is)
    (case c10 => k_is)
    (case k10 => k_is)
    (case a11 => k_is)
    (case l11 => k_is)
    (case c11 => k_is)
    (case k11 => k_is)
    (case a12 => k_is)
    (case l12 => k_is)
    (case c12 => k_is)
    (case k12 => k_is)
    (case a13 => k_is)
    (case l13 => k_is)
    (case c13 => k_is)
    (case k13 => k_is)
    (case a14 => k_is)
    (case l14 => k_is)
    (case c14 => k_is)
    (case k14 => k_is)
    (case a15 => k_is)
    (case l15 => k_is)
    (case c15 => k_is)
    (case k15 => k_is)
    (case a16 => k_is)
    (case l16 => k_is)
    (case c16 => k_is)
    (case k16 => k_is)
    (case a17 => k_is)
    (case l17 => k_is)
    (case c17 => k_is)
    (case k17 => k_is)
    (case a18 => k_is)
    (case l18 => k_is)
    (case c18 => k_is)
    (case k18 => k_is)
    (case a19 => k_is)
    (case l19 => k_is)
    (case c19 => k_is)
    (case k19 => k_is)
    (case a20 => k_is)
    (case l20 => k_is)
    (case c20 => k_is)
    (case k20 => k_is)
    (case a21 => k_is)
    (case l21 => k_is)
    (case c21 => k_is)
    (case k21 => k_is)
    (case a22 => k_is)
    (case l22 => k_is)
    (case c22 => k_is)
    (case k22 => k_is)
    (case a23 => k_is)
    (case l23 => k_is)
    (case c23 => k_is)
    (case k23 => k_is)
    (case a24 => k_is)
    (case l24 => k_is)
    (case c24 => k_is)
    (case k24 => k_is)
    (case a25 => k_is)
    (case l25 => k_is)
    (case c25 => k_is)
    (case k25 => k_is)
    (case a26 => k_is)
    (case l26 => k_is)
    (case c26 => k_is)
    (case k26 => k_is)
    (case a27 => k_is)
    (case l27 => k_is)
    (case c27 => k_is)
    (case k27 => k_is)
    (case a28 => k_is)
    (case l28 => k_is)
    (case c28 => k_is)
    (case k28 => k_is)
    (case a29 => k_is)
    (case l29 => k_is)
    (case c29 => k_is)
    (case k29 => k_is)
    (case caDeeds => k_is)
    (case ma1 => k_is)
    (case mi1 => k_is)
    (case ml1 => k_is)
    (case mc1 => k_is)
    (case mk1 => k_is)
    (case ma2 => k_is)
    (case mi2 => k_is)
    (case ml2 => k_is)
    (case mc2 => k_is)
    (case mk2 => k_is)
    (case ma3 => k_is)
    (case mi3 => k_is)
    (case ml3 => k_is)
    (case mc3 => k_is)
    (case mk3 => k_is)
    (case ma4 => k_is)
    (case mi4 => k_is)
    (case ml4 => k_is)
    (case mc4 => k_is)
    (case mk4 => k_is)
    (case ma5 => k_is)
    (case mi5 => k_is)
    (case ml5 => k_is)
    (case mc5 => k_is)
    (case mk5 => k_is)
    (case ma6 => k_is)
    (case mi6 => k_is)
    (case ml6 => k_is)
    (case mc6 => k_is)
    (case mk6 => k_is)
    (case ma7 => k_is)
    (case mi7 => k_is)
    (case ml7 => k_is)
    (case mc7 => k_is)
    (case mk7 => k_is)
    (case ma8 => k_is)
    (case mi8 => k_is)
    (case ml8 => k_is)
    (case mc8 => k_is)
    (case mk8 => k_is)
    (case cpgDeeds => k_is)
    (case chdDeeds => k_is)
    (case cpoDeeds => k_is)
    (case csaDeeds => k_is)
    (case cmkDeeds => k_is)
    (case ckcDeeds => k_is)
    (case cnDeeds_0 => k_is)
    (case cnDeeds_1 => k_is)
    (case cnDeeds_2 => k_is)
    (case z_all => k_is)
    (case z_bool => k_is)
    (case z_enumerate => k_is)
    (case z_int => k_is)
    (case z_isinstance => k_is)
    (case z_len => k_is)
    (case z_list => k_is)
    (case z_max => k_is)
    (case z_min => k_is)
    (case z_range => k_is)
    (case z_sorted => k_is)
    (case z_str => k_is)
    (case z_tuple => k_is)
    (case z_zip => k_is)
    (case g_REPLICAS => k_is)
    (case g_LONGEST_MODULE => k_is)
    (case t_tab => exact PySem.W.km_tabs_of Y _ (List.mem_singleton.mpr rfl))
    (case t_no => first | rfl | kernel_rfl | decide +kernel)
    (case t_code => first | rfl | kernel_rfl | decide +kernel)
#print axioms PySem.Challenge.cw_quillrun_k07_whole_packets_bring_deeds_holds
