import PyProof.Rows.All
import Wide.All
import OpenK.AllK
import Wide.FinOn
import PyProof.Rows.All
import HandS.ForMost
import HandS.ForExc
import HandS.IsInst
import HandS.Codes
import HandS.Walk
import HandS.Star
import HandS.TryOnly
import HandS.ExcOwn
import HandS.Defaults
import HandS.Deep
import HandS.Comp
import HandS.DictComp
import PyProof.Draws
import HandS.Rev
import HandS.RevTup
import KE.KRevIter
import PyProof.EqAt
import PyProof.EqKinds
import PyProof.TupleCall
import PyProof.Rows.CallKwBuiltin
import PyProof.Rows.CallKw2
import KE.KLam
import KE.SortKeyHeap
import HandS.Base
import HandS.Call
import HandS.List
import HandS.Exc
import HandS.ExcValue
import HandS.OwnEq
import HandS.Lambda
import HandS.Words
import HandS.Dict
import HandS.Iter
import HandS.ListItems
import HandS.ClsMeth
import KE.KItemsList
import KE.KRevSl
import HandS.DictTup
import HandS.Conv
import HandS.SortOrd
import HandS.SortRule
import KE.KDictSum
import HandS.FStr
import HandS.StrMore
import HandS.Zip
import HandS.NoneIn
import HandS.SetKeys
import HandS.More
import HandS.RaiseMore
import KE.RegKIsAll
import PySem.Challenge.RW_quillrun_k44_bases_grow_by_commits
set_option Elab.async false
set_option linter.all false
set_option maxRecDepth 100000
set_option maxHeartbeats 4000000
namespace HL
open PySem PySem.Spec PyProof.Rows L2 SX
/-! ## short words of my own, over the hand layer -/
theorem boot_isinstance : bootBuiltins "isinstance" = some (.builtin "isinstance") := by decide +kernel
theorem boot_bool : bootBuiltins "bool" = some (.type "bool") := by decide +kernel
theorem boot_int : bootBuiltins "int" = some (.type "int") := by decide +kernel
theorem boot_str : bootBuiltins "str" = some (.type "str") := by decide +kernel
theorem boot_tuple : bootBuiltins "tuple" = some (.type "tuple") := by decide +kernel
theorem boot_list : bootBuiltins "list" = some (.type "list") := by decide +kernel
theorem boot_dict : bootBuiltins "dict" = some (.type "dict") := by decide +kernel
/-- a def of the module: its body, its arguments, its name -/
structure DefN (K : PySem.W.Frag) (mg : Str → Option Value) (x : Str) (st : Stmt) (ps : List Str) (f : Addr) (fd : FuncData) : Prop where
  F : Fun K x x st f fd
  b : Binds K fd ps []
  g : mg x = some (.ref f)
theorem small (n : Nat) (h : n ≤ 1000000) : n ≤ sizeLine := Nat.le_trans h (by decide)
theorem same_upd {H : Hp} {p : Addr} {o : HO} (h : H p = none) : Same H (upd H p o) := fun b x e => by
  rw [upd_ne (ne_of_none e h)]
  exact e
theorem S_app (a b : List Nat) : (S a ++ S b : Str) = S (a ++ b) := S_cat a b
theorem sign_at {t : List Nat} {k : Nat} (h : k < t.length) : atI (S t).cps.toList (k : Int) = some (t.getD k 0) := by
  show atI t.toArray.toList (k : Int) = _
  refine atI_nat ?_
  simp [List.getD_eq_getElem?_getD, h]
theorem cutS_nat (t : List Nat) (a b : Nat) (h : a ≤ b) (h2 : b ≤ t.length) : cutS (S t) (some (a : Int)) (some (b : Int)) = S ((t.drop a).take (b - a)) := by
  unfold cutS
  rw [S_len, HT.sIx_nat, HT.sIx_nat]
  have e1 : min a t.length = a := by omega
  have e2 : min b t.length = b := by omega
  rw [e1, e2]
/-- ends beyond the end -/
theorem cutS_any (t : List Nat) (a b : Nat) : cutS (S t) (some (a : Int)) (some (b : Int)) = S ((t.drop a).take (b - a)) := by
  unfold cutS
  rw [S_len, HT.sIx_nat, HT.sIx_nat]
  congr 2
  show List.take _ (List.drop _ t) = _
  by_cases ha : a ≤ t.length
  · have e1 : min a t.length = a := by omega
    rw [e1]
    by_cases hb : b ≤ t.length
    · have e2 : min b t.length = b := by omega
      rw [e2]
    · have e2 : min b t.length = t.length := by omega
      rw [e2, List.take_of_length_le (by rw [List.length_drop]; omega), List.take_of_length_le (by rw [List.length_drop]; omega)]
  · have e1 : min a t.length = t.length := by omega
    rw [e1, List.drop_of_length_le (Nat.le_refl _), List.drop_of_length_le (show t.length ≤ a by omega)]
    simp
theorem joinL_nil : ∀ C : List (List Nat), TL.joinL [] C = C.flatten
  | [] => rfl
  | [c] => by simp [TL.joinL]
  | c :: d :: r => by
    show c ++ ([] ++ TL.joinL [] (d :: r)) = _
    rw [joinL_nil (d :: r)]
    simp
/-- a test whose answer is known -/
theorem iteNo {c A B : Prop} [Decidable c] (h : ¬ c) (hb : B) : if c then A else B := by
  rw [if_neg h]
  exact hb
theorem iteYes {c A B : Prop} [Decidable c] (h : c) (ha : A) : if c then A else B := by
  rw [if_pos h]
  exact ha
/-- a comprehension without a test -/
theorem lc_yes {te : TE} {σ : L2.St} {H : Hp} {R : VK} {B : Hp → Prop} (h : te σ H R) : tYes σ H (fun b H3 => if b = true then te σ H3 R else B H3) := by
  show (if true = true then te σ H R else B H)
  rw [if_pos rfl]
  exact h
/-- all but p is as it was -/
def But (H H' : Hp) (p : Addr) : Prop := ∀ b, b ≠ p → H' b = H b
theorem but_upd {H : Hp} {p : Addr} {o : HO} : But H (upd H p o) p := fun _ h => upd_ne h
theorem But.refl {H : Hp} {p : Addr} : But H H p := fun _ _ => rfl
theorem But.trans {H H1 H2 : Hp} {p : Addr} (a : But H H1 p) (b : But H1 H2 p) : But H H2 p := fun c h => (b c h).trans (a c h)
/-- all but p, and what is new, is as it was -/
def Kept (H H' : Hp) (p : Addr) : Prop := ∀ b o, b ≠ p → H b = some o → H' b = some o
theorem Kept.refl {H : Hp} {p : Addr} : Kept H H p := fun _ _ _ h => h
theorem Kept.trans {H H1 H2 : Hp} {p : Addr} (a : Kept H H1 p) (b : Kept H1 H2 p) : Kept H H2 p := fun c o n h => b c o n (a c o n h)
theorem But.kept {H H' : Hp} {p : Addr} (b : But H H' p) : Kept H H' p := fun c o n h => (b c n).trans h
theorem _root_.L2.Same.kept {H H' : Hp} (s : Same H H') (p : Addr) : Kept H H' p := fun c o _ h => s c o h
section
variable {X : Cx}
/-- a constant of the module: a text, a number -/
theorem pe_gstr {x z : Str} {pos : Pos} (hg : Gl X x) (hm : ∃ t, X.mg x = some (.str z t)) (hd : (x == ("__debug__" : Str)) = false := by decide) : PE X (.Name x pos) (tC (.str z)) := by
  obtain ⟨t, h⟩ := hm
  exact pe_glob hg h ⟨t, rfl⟩ hd
theorem pe_gint {x : Str} {i : Int} {pos : Pos} (hg : Gl X x) (hm : ∃ t, X.mg x = some (.int i t)) (hd : (x == ("__debug__" : Str)) = false := by decide) : PE X (.Name x pos) (tC (.int i)) := by
  obtain ⟨t, h⟩ := hm
  exact pe_glob hg h ⟨t, rfl⟩ hd
/-- within a comprehension -/
theorem ix_listK {K : PySem.W.Frag} (h : X.K = K) : IxR X (rIxL K) := by
  subst h
  exact ix_list
theorem ix_tupK {K : PySem.W.Frag} (h : X.K = K) : IxR X (rIxT K) := by
  subst h
  exact ix_tup
/-- o[i] of a list, for o[i] op= e -/
def rGetL (K : PySem.W.Frag) : V → V → Hp → VK → Prop := fun x y H Q => ∃ p xs i v, x = .ref p ∧ y = .int i ∧ SqL K H p xs ∧ 0 ≤ i ∧ atI xs i = some v ∧ Q v H
theorem pget_list : PGet X (rGetL X.K) := by
  intro pins s σ H x y v u Q I rx ry h
  obtain ⟨p, xs, i, z, rfl, rfl, hq, h0, he, q⟩ := h
  cases rx
  obtain ⟨t, rfl⟩ := ry
  obtain ⟨its, r, pl, hz⟩ := I.list hq
  obtain ⟨j, h1, h2, h3, h4, h5⟩ := atI_get he
  obtain ⟨w, ew, rw'⟩ := r.get h2
  have hl := r.length
  have hn := line63
  have hj : i.toNat = j := by
    rw [seqIndex_of h0 h5] at h1
    exact Option.some.inj h1
  exact wpAny_getItem_list pl.isList h0 (by omega) (by rw [hj]; simpa using ew) ⟨z, H, I, rw', q⟩
/-- isinstance(x, T), T a built-in class -/
def rIsB (K : PySem.W.Frag) : List V → Hp → VK → Prop := fun xs H Q => ∃ (x : V) (T n : String) (b : Bool), xs = [x, .ty n] ∧ TyX K H x (.type T) ∧ kitB T n = some b ∧ Q (.bl b) H
theorem call_isB : CallR X (.builtin "isinstance") (rIsB X.K) := by
  intro pins s σ H xs us Q I r h
  obtain ⟨x, T, n, b, rfl, ty, e, q⟩ := h
  exact call_isi pins s σ H _ us Q I r ⟨x, .ty n, .type T, .type n, b, rfl, .ty n, ty, kit_ty e, q⟩
/-- a text, n times -/
theorem rep_fold (z : Str) : ∀ n : Nat, ((List.replicate n z.cps).foldl (· ++ ·) (#[] : Array Nat)).toList = (List.replicate n z.cps.toList).flatten := by
  have h : ∀ (l : List (Array Nat)) (a : Array Nat), (l.foldl (· ++ ·) a).toList = a.toList ++ (l.map (·.toList)).flatten := by
    intro l
    induction l with
    | nil => intro a; simp
    | cons x l ih => intro a; rw [List.foldl_cons, ih]; simp
  intro n
  rw [h]
  simp
theorem op_mul_strR : OpR X (binaryOp .Mult) (fun x y H Q => ∃ (l : List Nat) (n : Nat), x = .str (S l) ∧ y = .int (n : Int) ∧ 2 ≤ n ∧ n ≤ 1000 ∧ 1 ≤ l.length ∧ l.length ≤ 1000 ∧ Q (.str (S (List.replicate n l).flatten)) H) := by
  intro pins s σ H x y v u Q I rx ry h
  obtain ⟨l, n, rfl, rfl, h2, h3, h4, h5, q⟩ := h
  obtain ⟨t, rfl⟩ := rx
  obtain ⟨t', rfl⟩ := ry
  have hl : (S l).length = l.length := S_len l
  have e1 : ((n : Int) == 1 || (S l).length == 0) = false := by
    rw [hl]
    have a1 : ((n : Int) == 1) = false := by simp; omega
    have a2 : (l.length == 0) = false := by simp; intro z; rw [z] at h4; simp at h4
    rw [a1, a2]; rfl
  have hsz : l.length * n ≤ 1000000 := Nat.le_trans (Nat.mul_le_mul h5 h3) (by decide)
  refine PySem.P.mul_str ?_ (fun _ _ => ?_) (fun _ _ => ?_) ?_
  · have b1 : decide ((n : Int) < -(2 ^ 63 : Int)) = false := decide_eq_false (by omega)
    have b2 : decide ((n : Int) ≥ 2 ^ 63) = false := decide_eq_false (by omega)
    rw [b1, b2]; rfl
  · rw [hl]
    have hp : (l.length : Int) * (n : Int) ≤ 1000000 := by
      have := Int.ofNat_le.mpr hsz
      rw [Int.natCast_mul] at this
      exact this
    have := Int.le_ediv_of_mul_le (show (0 : Int) < (n : Int) by omega) (show (l.length : Int) * (n : Int) ≤ 2 ^ 63 - 1 from Int.le_trans hp (by decide))
    omega
  · rw [hl]
    exact decide_eq_false (by rw [sizeLine_eq, Int.toNat_natCast]; omega)
  · rw [if_neg (by omega), if_neg (by rw [e1]; simp)]
    have ef : (⟨(List.replicate (n : Int).toNat (S l).cps).foldl (· ++ ·) #[]⟩ : Str) = S (List.replicate n l).flatten := by
      have : ((List.replicate (n : Int).toNat (S l).cps).foldl (· ++ ·) (#[] : Array Nat)) = ((List.replicate n l).flatten).toArray := by
        apply Array.ext'
        rw [rep_fold]
        simp
      rw [this]
    rw [ef]
    refine ⟨?_, .str _, H, I.tok _, ⟨_, rfl⟩, q⟩
    rw [S_len, sizeLine_eq]
    simp
    rw [Nat.mul_comm]
    omega
end
/-! ### data that are told the same: _law_same -/
/-- the type of a list or a tuple that is read -/
def IsSeq (K : PySem.W.Frag) (H : Hp) (t : String) (a : Addr) (xs : List V) : Prop := (t = "tuple" ∧ SqT K H a xs ∧ TyX K H (.ref a) (.type "tuple")) ∨ (t = "list" ∧ SqL K H a xs ∧ TyX K H (.ref a) (.type "list"))
theorem IsSeq.tup {K : PySem.W.Frag} {H : Hp} {a : Addr} {xs : List V} (h : H a = some (.tup xs)) : IsSeq K H "tuple" a xs := .inl ⟨rfl, SqT.of h, .base (.tup h)⟩
theorem IsSeq.lst {K : PySem.W.Frag} {H : Hp} {a : Addr} {xs : List V} (h : H a = some (.lst xs)) : IsSeq K H "list" a xs := .inr ⟨rfl, SqL.of h, .base (.lst h)⟩
/-- a number, a text, a truth, None -/
def Leaf : V → Prop
  | .int _ => True
  | .str _ => True
  | .bl _ => True
  | .non => True
  | _ => False
def SameD (K : PySem.W.Frag) (H : Hp) : Nat → V → V → Prop
  | 0, x, y => Leaf x ∧ x = y
  | n + 1, x, y => (Leaf x ∧ x = y) ∨ ∃ (t : String) (a b : Addr) (xs ys : List V), x = .ref a ∧ y = .ref b ∧ IsSeq K H t a xs ∧ IsSeq K H t b ys ∧ xs.length = ys.length ∧ ys.length ≤ 1000000 ∧
      ∀ (i : Nat) (u v : V), xs[i]? = some u → ys[i]? = some v → SameD K H n u v
theorem SameD.leaf {K : PySem.W.Frag} {H : Hp} {n : Nat} {x : V} (h : Leaf x) : SameD K H n x x := by
  cases n with
  | zero => exact ⟨h, rfl⟩
  | succ n => exact .inl ⟨h, rfl⟩
theorem SameD.seq {K : PySem.W.Frag} {H : Hp} {n : Nat} {t : String} {a b : Addr} {xs ys : List V} (h1 : IsSeq K H t a xs) (h2 : IsSeq K H t b ys) (hl : xs.length = ys.length) (hz : ys.length ≤ 1000000)
    (h : ∀ (i : Nat) (u v : V), xs[i]? = some u → ys[i]? = some v → SameD K H n u v) : SameD K H (n + 1) (.ref a) (.ref b) := .inr ⟨t, a, b, xs, ys, rfl, rfl, h1, h2, hl, hz, h⟩
/-- rows of leaves -/
theorem SameD.row {K : PySem.W.Frag} {H : Hp} {n : Nat} {a b : Addr} {xs : List V} (h1 : H a = some (.tup xs)) (h2 : H b = some (.tup xs)) (hz : xs.length ≤ 1000000) (h : ∀ x ∈ xs, Leaf x) : SameD K H (n + 1) (.ref a) (.ref b) :=
  .seq (.tup h1) (.tup h2) rfl hz fun i u v hu hv => by
    rw [hu] at hv
    cases hv
    exact .leaf (h u (List.mem_of_getElem? hu))
def spSame (K : PySem.W.Frag) (n : Nat) : Sp := fun vs H Q _ => ∃ x y : V, vs = [x, y] ∧ SameD K H n x y ∧ Q (.bl true) H
end HL
namespace HL
open PySem PySem.Spec PyProof.Rows L2 SX
/-- isinstance of two built-in classes -/
theorem kit_two {K : PySem.W.Frag} {T a b : String} {x y : Bool} (h1 : kitB T a = some x) (h2 : kitB T b = some y) : PySem.W.kitAny K (.type T) [.type a, .type b] = some (x || y) := by
  have e1 := kit_ty (K := K) h1
  have e2 := kit_ty (K := K) h2
  simp only [PySem.W.kitAny, e1, e2]
  cases x <;> cases y <;> rfl
theorem tyx_same {K : PySem.W.Frag} {H H' : Hp} {x : V} {t : Value} (s : Same H H') (h : TyX K H x t) : TyX K H' x t := by
  cases h with
  | base b =>
    cases b with
    | non => exact .base .non
    | bl y => exact .base (.bl y)
    | int i => exact .base (.int i)
    | str y => exact .base (.str y)
    | flt y => exact .base (.flt y)
    | lst e => exact .base (.lst (s _ _ e))
    | frz e => exact .base (.frz (s _ _ e))
    | tup e => exact .base (.tup (s _ _ e))
    | dK e => exact .base (.dK (s _ _ e))
    | dT e => exact .base (.dT (s _ _ e))
    | ins e h1 h2 h3 h4 h5 => exact .base (.ins (s _ _ e) h1 h2 h3 h4 h5)
  | byt y => exact .byt y
  | set e => exact .set (s _ _ e)
  | kList e c => exact .kList e c
  | kTuple e c => exact .kTuple e c
  | kDict e c => exact .kDict e c
  | fTuple e => exact .fTuple (s _ _ e)
  | fDict e => exact .fDict (s _ _ e)
theorem seqT_same {K : PySem.W.Frag} {H H' : Hp} {a : Addr} {xs : List V} (e : Same H H') (h : SqT K H a xs) : SqT K H' a xs := by
  rcases h with (h | ⟨o, h⟩) | h
  · exact .inl (.inl (e _ _ h))
  · exact .inl (.inr ⟨o, e _ _ h⟩)
  · exact .inr h
theorem isSeq_same {K : PySem.W.Frag} {H H' : Hp} {t : String} {a : Addr} {xs : List V} (s : Same H H') (h : IsSeq K H t a xs) : IsSeq K H' t a xs := by
  rcases h with ⟨e, h1, h2⟩ | ⟨e, h1, h2⟩
  · exact .inl ⟨e, seqT_same s h1, tyx_same s h2⟩
  · exact .inr ⟨e, s.seq h1, tyx_same s h2⟩
theorem sameD_same {K : PySem.W.Frag} {H H' : Hp} (s : Same H H') : ∀ {n : Nat} {x y : V}, SameD K H n x y → SameD K H' n x y
  | 0, x, y, h => h
  | n + 1, x, y, h => by
    rcases h with h | ⟨t, a, b, xs, ys, e1, e2, h1, h2, el, hz, hh⟩
    · exact .inl h
    · exact .inr ⟨t, a, b, xs, ys, e1, e2, isSeq_same s h1, isSeq_same s h2, el, hz, fun i u v hu hv => sameD_same s (hh i u v hu hv)⟩
/-- told the same; the heap may grow -/
def spSameG (K : PySem.W.Frag) (n : Nat) : Sp := fun vs H Q _ => ∃ x y : V, vs = [x, y] ∧ SameD K H n x y ∧ ∀ H', Same H H' → Q (.bl true) H'
end HL
namespace HL
open PySem PySem.Spec PyProof.Rows L2 SX
/-- a list or a tuple, also a locked one -/
def Seqo : HO → Prop
  | .lst _ => True
  | .tup _ => True
  | .frz _ (.lst _) => True
  | .frz _ (.tup _) => True
  | _ => False
def SeqKept (H H' : Hp) : Prop := ∀ a o, H a = some o → Seqo o → H' a = some o
theorem _root_.L2.Same.seqKept {H H' : Hp} (s : Same H H') : SeqKept H H' := fun a o h _ => s a o h
theorem SeqKept.seqT {K : PySem.W.Frag} {H H' : Hp} {a : Addr} {xs : List V} (e : SeqKept H H') (h : SqT K H a xs) : SqT K H' a xs := by
  rcases h with (h | ⟨o, h⟩) | h
  · exact .inl (.inl (e _ _ h True.intro))
  · exact .inl (.inr ⟨o, e _ _ h True.intro⟩)
  · exact .inr h
theorem SeqKept.seq {K : PySem.W.Frag} {H H' : Hp} {a : Addr} {xs : List V} (e : SeqKept H H') (h : SqL K H a xs) : SqL K H' a xs := by
  rcases h with (h | ⟨o, h⟩) | h
  · exact .inl (.inl (e _ _ h True.intro))
  · exact .inl (.inr ⟨o, e _ _ h True.intro⟩)
  · exact .inr h
theorem tyx_tup {K : PySem.W.Frag} {H H' : Hp} {x : V} {t : Value} (s : SeqKept H H') (ht : t = .type "tuple" ∨ t = .type "list") (h : TyX K H x t) : TyX K H' x t := by
  cases h with
  | base b =>
    cases b with
    | non => exact .base .non
    | bl y => exact .base (.bl y)
    | int i => exact .base (.int i)
    | str y => exact .base (.str y)
    | flt y => exact .base (.flt y)
    | lst e => exact .base (.lst (s _ _ e True.intro))
    | frz e => exact .base (.frz (s _ _ e True.intro))
    | tup e => exact .base (.tup (s _ _ e True.intro))
    | dK e => rcases ht with z | z <;> exact absurd (Value.type.inj z) (by decide)
    | dT e => rcases ht with z | z <;> exact absurd (Value.type.inj z) (by decide)
    | ins e h1 h2 h3 h4 h5 => rcases ht with z | z <;> cases z
  | byt y => exact .byt y
  | set e => rcases ht with z | z <;> exact absurd (Value.type.inj z) (by decide)
  | kList e c => exact .kList e c
  | kTuple e c => exact .kTuple e c
  | kDict e c => exact .kDict e c
  | fTuple e => exact .fTuple (s _ _ e True.intro)
  | fDict e => rcases ht with z | z <;> exact absurd (Value.type.inj z) (by decide)
theorem isSeq_kept {K : PySem.W.Frag} {H H' : Hp} {t : String} {a : Addr} {xs : List V} (s : SeqKept H H') (h : IsSeq K H t a xs) : IsSeq K H' t a xs := by
  rcases h with ⟨e, h1, h2⟩ | ⟨e, h1, h2⟩
  · exact .inl ⟨e, s.seqT h1, tyx_tup s (.inl rfl) h2⟩
  · exact .inr ⟨e, s.seq h1, tyx_tup s (.inr rfl) h2⟩
theorem sameD_kept {K : PySem.W.Frag} {H H' : Hp} (s : SeqKept H H') : ∀ {n : Nat} {x y : V}, SameD K H n x y → SameD K H' n x y
  | 0, x, y, h => h
  | n + 1, x, y, h => by
    rcases h with h | ⟨t, a, b, xs, ys, e1, e2, h1, h2, el, hz, hh⟩
    · exact .inl h
    · exact .inr ⟨t, a, b, xs, ys, e1, e2, isSeq_kept s h1, isSeq_kept s h2, el, hz, fun i u v hu hv => sameD_kept s (hh i u v hu hv)⟩
/-- a dict locked, and the way back -/
theorem seqKept_lock {H : Hp} {d : Addr} {kvs : List (Key × V)} {o : HO} (h : H d = some (.dK kvs)) : SeqKept H (upd H d o) := fun a x hx hs => by
  have ne : a ≠ d := fun e => by
    rw [e, h] at hx
    cases hx
    exact hs
  rw [upd_ne ne]
  exact hx
theorem unlock {H H' : Hp} {d : Addr} {u o : HO} (h : H d = some u) (s : Same (upd H d o) H') : Same H (upd H' d u) := fun a x hx => by
  by_cases e : a = d
  · subst e
    rw [upd_same, ← h, hx]
  · rw [upd_ne e]
    exact s a x (by rw [upd_ne e]; exact hx)
end HL
namespace HL
open PySem PySem.Spec PyProof.Rows L2 SX
/-! ### methods, classes -/
/-- a method of the class at C -/
structure DefM (K : PySem.W.Frag) (C : Addr) (x q : Str) (st : Stmt) (ps : List Str) (f : Addr) (fd : FuncData) : Prop where
  F : Fun K x q st f fd
  b : Binds K fd ps []
  m : Meth K C x f
/-- its __init__ -/
structure DefI (K : PySem.W.Frag) (q : Str) (st : Stmt) (ps : List Str) (f : Addr) (fd : FuncData) : Prop where
  F : Fun K "__init__" q st f fd
  b : Binds K fd ps []
structure ClsN (K : PySem.W.Frag) (mg : Str → Option Value) (x : Str) (C fI : Addr) : Prop where
  g : mg x = some (.ref C)
  cl : Cls K C
  make : Mk K C fI
/-- an own exception without an __init__, under ValueError -/
structure ExcN (K : PySem.W.Frag) (mg : Str → Option Value) (x : Str) (C : Addr) : Prop where
  g : mg x = some (.ref C)
  ex : PySem.W.excIn K C [.type "ValueError", .type "Exception", .type "BaseException", .type "object"] "ValueError.__new__" = true
  kp : PySem.W.keepIn K (.ref C) = true
  sub : PySem.W.subIn K (.ref C) (.type "BaseException") = some true
  ty : PySem.W.typeIn K (.ref C) = some (.type "type")
  te : PySem.W.exmOne K (.ref C) (.ref C) = some true
/-- its class is caught by its name -/
theorem exm_of {K : PySem.W.Frag} {S : Addr} (h1 : PySem.W.subIn K (.ref S) (.type "BaseException") = some true) (h2 : PySem.W.isClsIn K S = true) (h3 : PySem.W.typeIn K (.ref S) = some (.type "type")) (h4 : PySem.W.subIn K (.ref S) (.ref S) = some true) :
    PySem.W.exmOne K (.ref S) (.ref S) = some true := by
  have e1 : (PySem.W.subIn K (.ref S) (.type "BaseException") == some true) = true := by rw [h1] <;> rfl
  have e2 : ((PySem.W.clsIn K S).isSome && PySem.W.typeIn K (.ref S) == some (.type "type")) = true := by
    have h2' : (PySem.W.clsIn K S).isSome = true := h2
    rw [h2', h3] <;> rfl
  show (if (PySem.W.subIn K (.ref S) (.type "BaseException") == some true) = true then (if ((PySem.W.clsIn K S).isSome && PySem.W.typeIn K (.ref S) == some (.type "type")) = true then PySem.W.subIn K (.ref S) (.ref S) else none) else none) = some true
  rw [if_pos e1, if_pos e2]
  exact h4
/-! ### fields -/
theorem putF_nil (f : Str) (v : V) : putF f v [] = [(f, v)] := rfl
theorem putF_eq (f : Str) (v x : V) (r : List (Str × V)) : putF f v ((f, x) :: r) = (f, v) :: r := if_pos rfl
theorem putF_ne {f g : Str} (h : ¬ g = f) (v x : V) (r : List (Str × V)) : putF f v ((g, x) :: r) = (g, x) :: putF f v r := if_neg h
theorem lkF_eq (f : Str) (v : V) (r : List (Str × V)) : List.lookup f ((f, v) :: r) = some v := by
  have h : (f == f) = true := beq_iff_eq.mpr rfl
  simp only [List.lookup, h]
theorem lkF_ne {f g : Str} (h : ¬ g = f) (v : V) (r : List (Str × V)) : List.lookup g ((f, v) :: r) = List.lookup g r := by
  have h' : (g == f) = false := beq_eq_false_iff_ne.mpr h
  simp only [List.lookup, h']
/-! ### two lists, item by item -/
inductive All2 {α β : Type _} (R : α → β → Prop) : List α → List β → Prop
  | nil : All2 R [] []
  | cons {x : α} {y : β} {xs : List α} {ys : List β} : R x y → All2 R xs ys → All2 R (x :: xs) (y :: ys)
namespace All2
variable {α β γ : Type _} {R S : α → β → Prop}
theorem len {xs : List α} {ys : List β} (h : All2 R xs ys) : xs.length = ys.length := by
  induction h with
  | nil => rfl
  | cons _ _ ih => simp [ih]
theorem mono {xs : List α} {ys : List β} (h : All2 R xs ys) (f : ∀ x y, R x y → S x y) : All2 S xs ys := by
  induction h with
  | nil => exact .nil
  | cons a _ ih => exact .cons (f _ _ a) ih
theorem app {xs xs' : List α} {ys ys' : List β} (h : All2 R xs ys) (h' : All2 R xs' ys') : All2 R (xs ++ xs') (ys ++ ys') := by
  induction h with
  | nil => exact h'
  | cons a _ ih => exact .cons a ih
theorem one {x : α} {y : β} (h : R x y) : All2 R [x] [y] := .cons h .nil
theorem snoc {xs : List α} {ys : List β} {x : α} {y : β} (h : All2 R xs ys) (a : R x y) : All2 R (xs ++ [x]) (ys ++ [y]) := h.app (one a)
theorem take {xs : List α} {ys : List β} (h : All2 R xs ys) (n : Nat) : All2 R (xs.take n) (ys.take n) := by
  induction h generalizing n with
  | nil => simp; exact .nil
  | cons a _ ih =>
    cases n with
    | zero => exact .nil
    | succ n => exact .cons a (ih n)
theorem drop {xs : List α} {ys : List β} (h : All2 R xs ys) (n : Nat) : All2 R (xs.drop n) (ys.drop n) := by
  induction h generalizing n with
  | nil => simp; exact .nil
  | cons a hb ih =>
    cases n with
    | zero => exact .cons a hb
    | succ n => exact ih n
theorem get {xs : List α} {ys : List β} (h : All2 R xs ys) {i : Nat} {x : α} (e : xs[i]? = some x) : ∃ y, ys[i]? = some y ∧ R x y := by
  induction h generalizing i with
  | nil => simp at e
  | cons a _ ih =>
    cases i with
    | zero =>
      simp at e
      subst e
      exact ⟨_, rfl, a⟩
    | succ i => exact ih (by simpa using e)
theorem getR {xs : List α} {ys : List β} (h : All2 R xs ys) {i : Nat} {y : β} (e : ys[i]? = some y) : ∃ x, xs[i]? = some x ∧ R x y := by
  induction h generalizing i with
  | nil => simp at e
  | cons a _ ih =>
    cases i with
    | zero =>
      simp at e
      subst e
      exact ⟨_, rfl, a⟩
    | succ i => exact ih (by simpa using e)
theorem of_at {xs : List α} {ys : List β} (hl : xs.length = ys.length) (h : ∀ (i : Nat) (x : α) (y : β), xs[i]? = some x → ys[i]? = some y → R x y) : All2 R xs ys := by
  induction xs generalizing ys with
  | nil =>
    cases ys with
    | nil => exact .nil
    | cons _ _ => simp at hl
  | cons x xs ih =>
    cases ys with
    | nil => simp at hl
    | cons y ys => exact .cons (h 0 x y rfl rfl) (ih (by simpa using hl) fun i a b ha hb => h (i + 1) a b (by simpa using ha) (by simpa using hb))
end All2
/-- a row: at v stands a tuple of what f tells -/
def IsRow {α : Type _} (f : α → List V) (H : Hp) (v : V) (x : α) : Prop := ∃ t, v = .ref t ∧ H t = some (.tup (f x))
theorem IsRow.same {α : Type _} {f : α → List V} {H H' : Hp} {v : V} {x : α} (h : IsRow f H v x) (s : ∀ t o, H t = some (.tup o) → H' t = some (.tup o)) : IsRow f H' v x := by
  obtain ⟨t, e, ht⟩ := h
  exact ⟨t, e, s _ _ ht⟩
/-- slices with an end -/
theorem cut_to (xs : List V) (n : Nat) : cutV xs none (some (n : Int)) = xs.take n := by
  unfold cutV
  rw [HT.sIx_none, HT.sIx_nat, Nat.sub_zero, List.drop_zero]
  by_cases h : n ≤ xs.length
  · rw [Nat.min_eq_left h]
  · have h' : xs.length ≤ n := by omega
    rw [Nat.min_eq_right h', List.take_of_length_le (Nat.le_refl _), List.take_of_length_le h']
theorem cut_from (xs : List V) (n : Nat) : cutV xs (some (n : Int)) none = xs.drop n := by
  unfold cutV
  rw [HT.sIx_none, HT.sIx_nat]
  by_cases h : n ≤ xs.length
  · rw [Nat.min_eq_left h, List.take_of_length_le]
    rw [List.length_drop]
    exact Nat.le_refl _
  · have h' : xs.length ≤ n := by omega
    rw [Nat.min_eq_right h', Nat.sub_self, List.take_zero, List.drop_of_length_le h']
theorem cut_mid (xs : List V) (a b : Nat) : cutV xs (some (a : Int)) (some (b : Int)) = (xs.drop a).take (b - a) := by
  unfold cutV
  rw [HT.sIx_nat, HT.sIx_nat]
  by_cases ha : a ≤ xs.length
  · rw [Nat.min_eq_left ha]
    by_cases hb : b ≤ xs.length
    · rw [Nat.min_eq_left hb]
    · have hb' : xs.length ≤ b := by omega
      rw [Nat.min_eq_right hb', List.take_of_length_le (by rw [List.length_drop]; omega), List.take_of_length_le (by rw [List.length_drop]; omega)]
  · have ha' : xs.length ≤ a := by omega
    rw [Nat.min_eq_right ha', List.drop_of_length_le (Nat.le_refl _), List.drop_of_length_le ha']
    simp
/-- a natural number -/
def vi (n : Nat) : V := .int (n : Int)
theorem vi_inj {a b : Nat} (h : vi a = vi b) : a = b := by
  have := V.int.inj h
  omega
theorem map_vi (l : List Nat) : l.map vi = (l.map fun n : Nat => (n : Int)).map V.int := by
  rw [List.map_map]
  rfl
theorem get_vi {l : List Nat} {i : Nat} {x : V} (h : (l.map vi)[i]? = some x) : ∃ n, l[i]? = some n ∧ x = vi n := by
  rw [List.getElem?_map] at h
  cases e : l[i]? with
  | none => rw [e] at h; cases h
  | some n => rw [e] at h; exact ⟨n, rfl, (Option.some.inj h).symm⟩
theorem take_snoc {α : Type _} {l : List α} {i : Nat} {x : α} (h : l[i]? = some x) : l.take (i + 1) = l.take i ++ [x] := by
  rw [List.take_add_one, h]
  rfl
theorem same_list {K : PySem.W.Frag} {H : Hp} {n : Nat} {a b : Addr} {xs : List Nat} (h1 : H a = some (.lst (xs.map vi))) (h2 : H b = some (.lst (xs.map vi))) (hl : xs.length ≤ 1000000) : SameD K H (n + 1) (.ref a) (.ref b) :=
  .seq (.lst h1) (.lst h2) rfl (by rw [List.length_map]; omega) fun i u v hu hv => by
    rw [hu] at hv
    cases hv
    obtain ⟨k, _, rfl⟩ := get_vi hu
    exact .leaf True.intro
theorem Same.none {H H' : Hp} (s : Same H H') {b : Addr} (h : H' b = none) : H b = none := by
  cases e : H b with
  | none => rfl
  | some o => rw [s _ _ e] at h; cases h
theorem Same.tr {H H1 H2 : Hp} (a : Same H H1) (b : Same H1 H2) : Same H H2 := fun c o h => b c o (a c o h)
/-- lists of natural numbers as data -/
def di (n : Nat) : PyData := .int (n : Int)
theorem dp_vis {K : PySem.W.Frag} {H : Hp} : ∀ xs : List Nat, DpAll K H (xs.map vi) (xs.map di)
  | [] => .nil
  | n :: xs => .cons (.int (n : Int)) (dp_vis xs)
theorem dis_can : ∀ xs : List Nat, PyData.canLayAll0 (xs.map di) = true
  | [] => rfl
  | n :: xs => by
    show (true && PyData.canLayAll0 (xs.map di)) = true
    rw [dis_can xs]
    rfl
theorem dis_depth : ∀ xs : List Nat, PyData.depthAll (xs.map di) ≤ 1
  | [] => Nat.zero_le _
  | n :: xs => by
    have := dis_depth xs
    simp only [List.map_cons, PyData.depthAll, di, PyData.depth] at this ⊢
    omega
theorem shaped_ints (xs : List Nat) : SeqAt.shaped (.list (xs.map di)) = true := by
  have h1 := dis_can xs
  have h2 := dis_depth xs
  simp only [SeqAt.shaped, PyData.canLay0, PyData.depth, Bool.and_eq_true, decide_eq_true_eq]
  exact ⟨h1, decide_eq_true (by omega)⟩
theorem eqv_ints (xs ys : List Nat) : PyData.eqv (.list (xs.map di)) (.list (ys.map di)) = decide (xs = ys) := by
  have h : ∀ xs ys : List Nat, PyData.eqvAll (xs.map di) (ys.map di) = decide (xs = ys) := by
    intro xs
    induction xs with
    | nil =>
      intro ys
      cases ys with
      | nil => rfl
      | cons y ys => simp [PyData.eqvAll]
    | cons x xs ih =>
      intro ys
      cases ys with
      | nil => simp [PyData.eqvAll]
      | cons y ys =>
        show (PyData.eqv (di x) (di y) && PyData.eqvAll (xs.map di) (ys.map di)) = _
        rw [ih ys]
        by_cases e : x = y
        · subst e
          simp [PyData.eqv, di]
        · have h' : ¬ (x : Int) = (y : Int) := by omega
          simp [PyData.eqv, di, e, h']
  show PyData.eqvAll (xs.map di) (ys.map di) = _
  exact h xs ys
theorem dp_list {K : PySem.W.Frag} {H : Hp} {a : Addr} {xs : List Nat} (h : H a = some (.lst (xs.map vi))) : Dp K H (.ref a) (.list (xs.map di)) := .lst (SqL.of h) (dp_vis xs)
end HL
namespace HX
open PySem PySem.Spec PyProof.Rows L2 SX HL
section
variable {Y : Cx} {cx : CXT} {n : Nat} {g cl : Addr} {gd : FuncData} {qs : List Str} {pr : Sp} {Ex : L2.St → XK} {nm : Str} {p0 q0 r0 : Pos} {a0 o0 : Expr} {as : List Expr} {to_ : TE} {ar : TA}
/-- a method called where what it lets out is wanted by the slots -/
def tMethS (cl : Addr) (nm : Str) (pr : Sp) (Ex : L2.St → XK) (to_ : TE) (ar : TA) : TE := fun σ H Q => to_ σ H fun x H1 => ∃ a dx fs, x = .ref a ∧ H1 a = some (.ins cl dx fs) ∧ fs.lookup nm = none ∧
  ar σ H1 fun vs H2 => pr (x :: vs) H2 Q (Ex σ)
theorem pe_methS1 {pl : Sem Bool} (ho : PE Y o0 to_) (cc : Cls Y.K cl) (mm : Meth Y.K cl nm g) (G : FnOk Y.prog Y.w Y.K Y.mg Y.base cx n g gd qs pr) (room : Room n Y.A) (bb : Binds Y.K gd qs []) (hx : ∀ σ, PassesAt cx Y σ (Ex σ)) (ha : PA Y (a0 :: as) ar)
    (hst : starEach (a0 :: as) Y.env = (false, eval a0 Y.env) :: starEach as Y.env := by rfl) (hpl : (backTo p0 (starEach as Y.env)).any (·.1) = false := by rfl)
    (ht : eval (.Call (.Attribute o0 nm r0) (a0 :: as) [] p0) Y.env = (do
      let ob ← eval o0 Y.env
      standAt r0.atName
      let (fn, fst) ← holding [ob] (getMethod ob nm pl)
      callWith p0 fn fst (backTo p0 (starEach (a0 :: as) Y.env)) (backToKw p0 (keywordEach [] Y.env))) := by rfl) :
    PE Y (.Call (.Attribute o0 nm r0) (a0 :: as) [] p0) (tMethS cl nm pr Ex to_ ar) := by
  refine ⟨fun pins s σ H Q I0 h0 => PySem.W.methodCall_KW (pl := pl) (thn (ho.run pins s σ H _ I0 h0) fun u s1 ⟨x, H1, I1, rx, a, dx, fs, ex, ea, l, q⟩ => ?_) ht⟩
  subst ex
  obtain rfl : u = Value.ref a := rx
  refine getmeth_ok I1 ea cc mm l (PySem.W.callWith_K (first := [.ref a]) (h₀ := Y.base) I1.ok.mod.kin mm.kp (thn (ha.run p0 pins s1 σ H1 _ I1 q) fun us s2 ⟨vs, H2, I2, r, q2⟩ => ⟨I2.kIn, ?_⟩) hst hpl)
  exact run_fnS (us := .ref a :: us) (vs := .ref a :: vs) G room bb (hx σ) I2 (.cons rfl r) q2
theorem pe_methS0 {pl : Sem Bool} (ho : PE Y o0 to_) (cc : Cls Y.K cl) (mm : Meth Y.K cl nm g) (G : FnOk Y.prog Y.w Y.K Y.mg Y.base cx n g gd qs pr) (room : Room n Y.A) (bb : Binds Y.K gd qs []) (hx : ∀ σ, PassesAt cx Y σ (Ex σ))
    (ht : eval (.Call (.Attribute o0 nm r0) [] [] p0) Y.env = (do
      let ob ← eval o0 Y.env
      standAt r0.atName
      let (fn, fst) ← holding [ob] (getMethod ob nm pl)
      callWith p0 fn fst (backTo p0 (starEach [] Y.env)) (backToKw p0 (keywordEach [] Y.env))) := by rfl) :
    PE Y (.Call (.Attribute o0 nm r0) [] [] p0) (tMethS cl nm pr Ex to_ tNil) := by
  refine ⟨fun pins s σ H Q I0 h0 => PySem.W.methodCall_KW (pl := pl) (thn (ho.run pins s σ H _ I0 h0) fun u s1 ⟨x, H1, I1, rx, a, dx, fs, ex, ea, l, q⟩ => ?_) ht⟩
  subst ex
  obtain rfl : u = Value.ref a := rx
  exact getmeth_ok I1 ea cc mm l (PySem.W.callWith_K0 (first := [.ref a]) I1.kIn mm.kp (run_fnS (us := [.ref a]) (vs := [.ref a]) G room bb (hx σ) I1 (.cons rfl .nil) q))
theorem pe_callS0 (G : FnOk Y.prog Y.w Y.K Y.mg Y.base cx n g gd qs pr) (room : Room n Y.A) (hg : Gl Y nm) (hm : Y.mg nm = some (.ref g)) (hk : PySem.W.keepIn Y.K (.ref g) = true) (bb : Binds Y.K gd qs []) (hx : ∀ σ, PassesAt cx Y σ (Ex σ))
    (hdb : (nm == ("__debug__" : Str)) = false := by decide) : PE Y (.Call (.Name nm q0) [] [] p0) (tCallS pr Ex tNil) := by
  refine ⟨fun pins s σ H Q I0 h0 => wpAny_Call_Name_kw (ld_glob I0 hg hm ?_ hdb)⟩
  exact PySem.W.callWith_K0 I0.kIn hk (run_fnS (us := []) G room bb (hx σ) I0 .nil h0)
end
end HX
namespace HX
open PySem PySem.Spec PyProof.Rows L2 SX HL
theorem bd_full {K : PySem.W.Frag} {fd : FuncData} {ps : List Str} (h : ∃ ds, Vals [] ds ∧ Binds K fd ps ds) : Binds K fd ps [] := by
  obtain ⟨ds, v, b⟩ := h
  cases v
  exact b
/-- a method whose last parameters have defaults -/
structure DefMD (K : PySem.W.Frag) (C : Addr) (x q : Str) (st : Stmt) (ps : List Str) (dvs : List V) (f : Addr) (fd : FuncData) : Prop where
  F : FunD K x q (defArgs st) (defBody st) (defScope st) dvs [] f fd
  m : Meth K C x f
  bd : ∃ ds, Vals dvs ds ∧ Binds K fd ps ds
  b : Binds K fd ps []
end HX
namespace HX
open PySem PySem.Spec PyProof.Rows L2 SX HL
/-! ### rules within comprehensions: K is told -/
section
variable {X : Cx} {K : PySem.W.Frag}
theorem call_len_seqK (h : X.K = K) : CallR X (.builtin "len") (fun xs H Q => ∃ p ys, xs = [.ref p] ∧ (SqL K H p ys ∨ SqT K H p ys) ∧ Q (.int ys.length) H) := by
  subst h
  exact call_len_seq
theorem op_eqDK (h : X.K = K) (hu : X.A.units + 64 < cLine) : OpR X (compareOp .Eq) (rEqD K) := by
  subst h
  exact op_eqD hu
theorem op_neDK (h : X.K = K) (hu : X.A.units + 64 < cLine) : OpR X (compareOp .NotEq) (rNeD K) := by
  subst h
  exact op_neD hu
theorem sl_listK (h : X.K = K) : SlR X (rSlL K) := by
  subst h
  exact sl_list
theorem ix_seqK (h : X.K = K) : IxR X (rIx K) := by
  subst h
  exact ix_seq
theorem op_inDK (h : X.K = K) (hu : X.A.units + 65 < cLine) : OpR X (compareOp .In) (rInD K) := by
  subst h
  exact op_inD hu
theorem op_notInDK (h : X.K = K) (hu : X.A.units + 65 < cLine) : OpR X (compareOp .NotIn) (rNotInD K) := by
  subst h
  exact op_notInD hu
theorem call_list_ofK (h : X.K = K) : CallR X (.type "list") (fun xs H Q => ∃ p ys, xs = [.ref p] ∧ (SqL K H p ys ∨ SqT K H p ys) ∧ ∀ l, H l = none → Q (.ref l) (upd H l (.lst ys))) := by
  subst h
  exact call_list_of
theorem call_isBK (h : X.K = K) : CallR X (.builtin "isinstance") (rIsB K) := by
  subst h
  exact call_isB
end
end HX
namespace HE
open PySem PySem.Spec PyProof.Rows L2 SX HL
/-! ## enumerate of a text, of a dict's keys -/
section
variable {prog : Program} {w : World} {A : Around} {E : Value → Shared → Prop} {s : Shared}
theorem keys_item {it d : Addr} {i n ep : Nat} {od : Obj} {es : Array DictEntry} {en : DictEntry} {Q : Value → Shared → Prop} (hit : s.heap.IsKeyIter it d i n ep) (hod : s.heap.get? d = some od) (hdd : od.data = .dict es ep) (hn : es.size = n) (hx : es[i]? = some en)
    (q : ∀ h', h'.IsKeyIter it d (i + 1) n ep → Heap.SameBut it s.heap h' → Q en.key { s with heap := h' }) : wpAny (model prog w) A (Builtin.SmallTypes.nextOf (.ref it)) Q E s := by
  obtain ⟨o, ho, oc, hd⟩ := id hit
  unfold Builtin.SmallTypes.nextOf
  refine wpAny_bind (wpAny_callSpecial?_slot (name := Str.ofString "__next__") hit.typeIs F.slot_dict_keyiterator_next (wpAny_call_entry F.slot_dict_keyiterator_next hit.typeIs F.entry_dict_keyiterator_next ?_ (F.args_dict_keyiterator_next_1 _)))
  refine wpAny_bind (wpAny_pure (wpAny_bind (wpAny_bind ?_)))
  first | refine wpAny_bind (wpAny_typeNameOfWhole_keyiter hit.typeIs (wpAny_pure (wpAny_bind (wpAny_fieldsOf ho hd ?_)))) | refine wpAny_bind (wpAny_typeNameOf_keyiter hit.typeIs (wpAny_pure (wpAny_bind (wpAny_fieldsOf ho hd ?_))))
  have own : Builtin.Dict_items.ownsTuple "dict_keyiterator" = false := by decide
  simp only [own, Bool.false_eq_true, if_false]
  show wpAny _ A.in1 (if (Value.ref d == Value.none) = true then _ else _) _ _ s
  rw [if_neg (show ¬ (Value.ref d == Value.none) = true from Bool.false_ne_true)]; refine wpAny_bind (wpAny_pure (wpAny_bind (wpAny_dictEntries hod hdd ?_)))
  rw [if_neg (by rw [hn]; simp)]; refine wpAny_bind (wpAny_pure (wpAny_bind (wpAny_dictEpoch hod hdd ?_)))
  rw [if_neg (by simp)]; refine wpAny_pure ?_
  obtain ⟨lt, he⟩ := Array.getElem?_eq_some_iff.mp hx
  simp only [show ¬ ((i : Int) < 0) from by omega, if_false, Int.toNat_natCast, Array.getElem?_eq_getElem lt]; refine wpAny_bind ?_
  first | refine wpAny_bind (wpAny_typeNameOfWhole_keyiter hit.typeIs (wpAny_pure (wpAny_bind (wpAny_isOneOf_keyiter hit.typeIs ?_)))) | refine wpAny_bind (wpAny_typeNameOf_keyiter hit.typeIs (wpAny_pure (wpAny_bind (wpAny_isOneOf_keyiter hit.typeIs ?_))))
  show wpAny _ _ (setField (.ref it) 1 (rawInt ((i : Int) + 1)) >>= _) _ _ s
  refine wpAny_bind (wpAny_setField ho hd (by simp) ?_)
  have it2 : (s.heap.update it (Obj.mapFields (·.setIfInBounds 1 (rawInt ((i : Int) + 1))))).IsKeyIter it d (i + 1) n ep := ⟨_, Heap.get?_update_self _ ho (Obj.isFreed_of_fields (Obj.data_mapFields hd _)), (Obj.cls_mapFields ..).trans oc, by rw [Obj.data_mapFields hd]; simp [rawInt]⟩
  refine wpAny_bind (wpAny_holding (wpAny_bind (wpAny_isOneOf_keyiter (s := { s with heap := s.heap.update it (Obj.mapFields (·.setIfInBounds 1 (rawInt ((i : Int) + 1)))) }) it2.typeIs ?_)))
  show wpAny _ A.in1 (pure es[i].key) _ _ _
  rw [he]; exact wpAny_pure (wpAny_pure ⟨_, rfl, wpAny_pure (q _ it2 (Heap.SameBut.update ..))⟩)
theorem keys_end {it d : Addr} {i n ep : Nat} {od : Obj} {es : Array DictEntry} {Q : Value → Shared → Prop} (hh : A.handled = none) (hit : s.heap.IsKeyIter it d i n ep) (hod : s.heap.get? d = some od) (hdd : od.data = .dict es ep) (hn : es.size = n) (hge : n ≤ i)
    (q : ∀ h' x, Heap.ExtBut it s.heap h' → (∃ o, h'.get? x = some o ∧ o.cls = .type "StopIteration") → E (.ref x) { s with heap := h' }) : wpAny (model prog w) A (Builtin.SmallTypes.nextOf (.ref it)) Q E s := by
  obtain ⟨o, ho, oc, hd⟩ := id hit
  unfold Builtin.SmallTypes.nextOf
  refine wpAny_bind (wpAny_callSpecial?_slot (name := Str.ofString "__next__") hit.typeIs F.slot_dict_keyiterator_next (wpAny_call_entry F.slot_dict_keyiterator_next hit.typeIs F.entry_dict_keyiterator_next ?_ (F.args_dict_keyiterator_next_1 _)))
  refine wpAny_bind (wpAny_pure (wpAny_bind (wpAny_bind ?_)))
  first | refine wpAny_bind (wpAny_typeNameOfWhole_keyiter hit.typeIs (wpAny_pure (wpAny_bind (wpAny_fieldsOf ho hd ?_)))) | refine wpAny_bind (wpAny_typeNameOf_keyiter hit.typeIs (wpAny_pure (wpAny_bind (wpAny_fieldsOf ho hd ?_))))
  have own : Builtin.Dict_items.ownsTuple "dict_keyiterator" = false := by decide
  simp only [own, Bool.false_eq_true, if_false]
  show wpAny _ A.in1 (if (Value.ref d == Value.none) = true then _ else _) _ _ s
  rw [if_neg (show ¬ (Value.ref d == Value.none) = true from Bool.false_ne_true)]; refine wpAny_bind (wpAny_pure (wpAny_bind (wpAny_dictEntries hod hdd ?_)))
  rw [if_neg (by rw [hn]; simp)]; refine wpAny_bind (wpAny_pure (wpAny_bind (wpAny_dictEpoch hod hdd ?_)))
  rw [if_neg (by simp)]; refine wpAny_pure ?_
  have ge : es.size ≤ i := by rw [hn]; exact hge
  simp only [show ¬ ((i : Int) < 0) from by omega, if_false, Int.toNat_natCast, Array.getElem?_eq_none ge]; refine wpAny_bind ?_
  first | refine wpAny_bind (wpAny_typeNameOfWhole_keyiter hit.typeIs (wpAny_pure ?_)) | refine wpAny_bind (wpAny_typeNameOf_keyiter hit.typeIs (wpAny_pure ?_))
  show wpAny _ A.in1 (setField (.ref it) 0 .none >>= _) _ _ s
  refine wpAny_bind (wpAny_setField ho hd (by simp) ?_)
  show wpAny _ A.in1 (newExc (.type "StopIteration") [] >>= _) _ _ _
  refine wpAny_bind ?_
  simp only [newExc, newTuple]; refine wpAny_bind (wpAny_newObj_type ?_ (by size_fits))
  refine wpAny_bind (m := firstArgMember _ _) (wpAny_of_eq (a := Value.none) (by first | rfl | (simp only [firstArgMember]; rfl)) (wpAny_newObj_type ?_ (by size_fits)))
  simp only [raiseNew]; refine wpAny_bind (wpAny_handled ?_)
  first | rw [show A.in1.handled = none from hh] | rw [hh]
  refine wpAny_bind (wpAny_pure (wpAny_throw ?_))
  exact q _ _ (((Heap.SameBut.update ..).extBut.push _).push _) ⟨_, Heap.get?_push_size _ rfl, rfl⟩
theorem draws_keys (hh : A.handled = none) (it d : Addr) (hne : d ≠ it) {od : Obj} {es : Array DictEntry} {ep : Nat} (hdd : od.data = .dict es ep) :
    Draws prog w A it [it, d] es.size (fun i v => ∃ en, es[i]? = some en ∧ v = en.key) (fun i h => h.IsKeyIter it d i es.size ep ∧ h.get? d = some od) where
  live := fun _ _ st => let ⟨o, ho, _⟩ := st.1; ⟨o, ho⟩
  frame := fun _ _ _ st k => ⟨st.1.at fun o e => k it (by simp) o e, k d (by simp) _ st.2⟩
  item := fun i s Q E hi st q => by
    refine keys_item st.1 st.2 hdd rfl (en := es[i]) (Array.getElem?_eq_getElem hi) fun h' it' sb => ?_
    exact q _ h' s.toks ⟨_, Array.getElem?_eq_getElem hi, rfl⟩ ⟨it', (sb.2 d hne).trans st.2⟩ sb
  done := fun s Q E st q => keys_end hh st.1 st.2 hdd rfl (Nat.le_refl _) q
end
open AutoSeq1 (wpAny_loadPart')
theorem meets_keys (d : Addr) (o : Obj) (es : Array DictEntry) (ep : Nat) (hd : (d == sysModules) = false) (hc : o.ExactDict) (hdat : o.data = .dict es ep) :
    Meets (Builtin.«enumerate.__new__» ⟨[.type "enumerate", .ref d], []⟩) (fun _ R s => s.heap.get? d = some o ∧
      R (.ok (.ret (.ref (s.heap.push { cls := .type "dict_keyiterator", data := .fields #[.ref d, .int 0 0, .int es.size 0, .int ep 0] }).objs.size)))
        { s with heap := (s.heap.push { cls := .type "dict_keyiterator", data := .fields #[.ref d, .int 0 0, .int es.size 0, .int ep 0] }).push { cls := .type "enumerate", data := .fields #[.none, .bool false, .ref s.heap.objs.size, rawInt 0, .none, .none] } }) :=
  .of_wp fun prog w A R s h => by
    obtain ⟨hp, g, dr, tk, os⟩ := s
    obtain ⟨ho, h⟩ := h
    have hsub := sub_enumerate
    have ik : ∀ {A : Around} {E : Value → Shared → Prop} {Q : Value → Shared → Prop}, Q (.ref hp.objs.size) ⟨hp.push { cls := .type "dict_keyiterator", data := .fields #[.ref d, .int 0 0, .int es.size 0, .int ep 0] }, g, dr, tk, os⟩ → wpAny (model prog w) A (pyIter (.ref d)) Q E ⟨hp, g, dr, tk, os⟩ := fun q => iter_keys (s := ⟨hp, g, dr, tk, os⟩) hd ho hc hdat q
    wp_walk using wpAny_loadPart' ho
    refine wpAny_stack_any fun st => wpAny_pure ?_
    split
    · rename_i c _ _ _ _ _
      cases (c == Value.type "enumerate") <;> (wp_walk using wpAny_loadPart' ho, ik; exact ⟨_, rfl, h⟩)
    · wp_walk using wpAny_loadPart' ho, ik
      exact ⟨_, rfl, h⟩
theorem call_enum_keys {prog : Program} {w : World} {A : Around} {E : Value → Shared → Prop} {s : Shared} {d : Addr} {o : Obj} {es : Array DictEntry} {ep : Nat} {Q : Value → Shared → Prop} (hd : (d == sysModules) = false) (ho : s.heap.get? d = some o) (hc : o.ExactDict) (hdat : o.data = .dict es ep)
    (q : ∀ h', IsEnum h' (s.heap.objs.size + 1) s.heap.objs.size 0 .none → h'.IsKeyIter s.heap.objs.size d 0 es.size ep → (∀ b x, s.heap.get? b = some x → h'.get? b = some x) → Q (.ref (s.heap.objs.size + 1)) { s with heap := h' }) :
    wpAny (model prog w) A (call (.type "enumerate") [.ref d]) Q E s := by
  refine callType_new F.called_enumerate (by decide) (F.typeCall_enumerate_1 _) (F.newCall_enumerate_1 _) (fun obj => F.args_object_init_2 obj _) F.entry_enumerate_new (meets_keys d o es ep hd hc hdat) ⟨ho, ?_⟩
  have hz : (s.heap.push { cls := .type "dict_keyiterator", data := .fields #[.ref d, .int 0 0, .int es.size 0, .int ep 0] }).objs.size = s.heap.objs.size + 1 := Heap.size_push ..
  show _ ∧ _
  rw [hz]
  have he : IsEnum ((s.heap.push { cls := .type "dict_keyiterator", data := .fields #[.ref d, .int 0 0, .int es.size 0, .int ep 0] }).push { cls := .type "enumerate", data := .fields #[.none, .bool false, .ref s.heap.objs.size, rawInt 0, .none, .none] }) (s.heap.objs.size + 1) s.heap.objs.size 0 .none := by
    have := Heap.get?_push_size (s.heap.push { cls := .type "dict_keyiterator", data := .fields #[.ref d, .int 0 0, .int es.size 0, .int ep 0] }) (o := { cls := .type "enumerate", data := .fields #[.none, .bool false, .ref s.heap.objs.size, rawInt 0, .none, .none] }) rfl
    rwa [hz] at this
  exact ⟨⟨_, he, rfl⟩, q _ he ⟨_, Heap.get?_push_of_some _ (Heap.get?_push_size _ rfl), rfl, rfl⟩ fun b x e => Heap.get?_push_of_some _ (Heap.get?_push_of_some _ e)⟩
/-- (0, key), (1, key), ..: the locked dict at d -/
def Itek (d : Addr) (o : Obj) (kvs : List (Key × V)) : It :=
  ⟨fun i H => H d = some (.frz o (.dK kvs)) ∧ i < kvs.length, fun i H v H' => ∃ T k x, kvs[i]? = some (k, x) ∧ v = .ref T ∧ H T = none ∧ H' = upd H T (.tup [.int (i : Nat), kV k]), fun i H => H d = some (.frz o (.dK kvs)) ∧ kvs.length ≤ i⟩
theorem turn_enumK {P : Program} {w : World} {K : PySem.W.Frag} {elts : List Expr} {kk : Nat} {tpos : Pos} {d : Addr} {o : Obj} {kvs : List (Key × V)} {es : Array DictEntry} {ep : Nat} (e it : Addr) (hod : o.data = .dict es ep) :
    Turn P w K (.Tuple elts kk tpos) (Itek d o kvs) [e, it] e (fun i h => (∃ old, IsEnum h e it ((i : Nat) : Int) old) ∧ h.IsKeyIter it d i kvs.length ep ∧ e ≠ it ∧ i ≤ kvs.length) where
  mem := by simp
  obj := fun i h st b hb => by
    obtain ⟨⟨old, he⟩, ⟨o', ho, hc, hd⟩, _⟩ := st
    rcases (show b = e ∨ b = it by simpa using hb) with z | z
    · rw [z]; exact ⟨_, he, fun v q => nomatch q⟩
    · rw [z]; exact ⟨o', ho, fun v q => by rw [hd] at q; cases q⟩
  keep := fun i h h' st k => let ⟨⟨old, he⟩, hi, hne, hle⟩ := st; ⟨⟨old, k e (by simp) _ he⟩, hi.at fun o q => k it (by simp) o q, hne, hle⟩
  item := by
    intro X hP hw hK hc i pins s σ H E I hf st hg
    subst hP hw hK
    obtain ⟨⟨old, he⟩, hit, hne, hle⟩ := st
    obtain ⟨hd, hi⟩ := hg
    obtain ⟨hs, hgd, hx, es', ep', vs, hdt, hsz, kv, hm⟩ := I.frzK hd
    obtain ⟨rfl, rfl⟩ := dict_ep hod hdt
    have hel : e < s.heap.objs.size := Heap.lt_size he
    have hil : it < s.heap.objs.size := by obtain ⟨_, q, _⟩ := hit; exact Heap.lt_size q
    have nd : ∀ b, FpOk X pins H b → d ≠ b := fun b hb z => by rw [← z] at hb; have := hb.1; rw [hd] at this; cases this
    have ndi := nd it (hf it (by simp))
    have nde := nd e (hf e (by simp))
    obtain ⟨⟨k, v⟩, hkv⟩ : ∃ p, kvs[i]? = some p := ⟨kvs[i], List.getElem?_eq_getElem hi⟩
    have D := draws_keys (prog := X.prog) (w := X.w) (A := X.A.in1) (I.ok.hd hc) it d ndi hdt
    rw [← hsz] at hit hi
    refine wpAny_pyNext_enum_itemD D he ⟨hit, hgd⟩ hi hne (by simp [hne, nde.symm]) fun x h' tk hP ho st' hT hsz' hk => ?_
    obtain ⟨en, hen, rfl⟩ := hP
    refine ⟨_, rfl, wpAny_letOwnedTupleGo_enum (s := { s with heap := h', toks := tk + 1 }) ho fun h'' he' sb => ?_⟩
    have hT2 : h''.get? s.heap.objs.size = some { cls := .type "tuple", data := .seq #[.int i tk, en.key] } := (sb.2 _ (Nat.ne_of_gt hel)).trans hT
    have rk : RelV (kV k) en.key := by
      obtain ⟨u, hu, _⟩ := kv_get kv hkv
      obtain ⟨od, es2, hod2, hcd, hdd, hks, hp, hnn⟩ := id hm
      rw [hgd] at hod2
      cases hod2
      rw [hdt] at hdd
      cases hdd
      exact relV_key (hp.get? (by simpa using hen) hu).1
    have new : ObjOk X.prog X.w (upd H s.heap.objs.size (.tup [.int (i : Nat), kV k])) h'' s.heap.objs.size (.tup [.int (i : Nat), kV k]) :=
      ⟨by show 2 ≤ sizeLine; decide, [.int i tk, en.key], .cons ⟨_, rfl⟩ (.cons rk .nil), ⟨_, hT2, rfl, _, rfl⟩⟩
    have I1 : Inv X pins σ (upd H s.heap.objs.size (.tup [.int (i : Nat), kV k])) { s with heap := h'', toks := tk + 1 } :=
      I.turnedNew (ch := [e, it]) (fun b ob hb q => (sb.2 b (fun z => hb (by simp [z]))).trans (hk b ob (fun z => hb (by simp [z])) (fun z => hb (by simp [z])) q)) hf (Nat.le_refl _) new
    refine ⟨.ref s.heap.objs.size, _, I1, rfl, ⟨_, k, v, hkv, rfl, I.hok.fresh (Nat.le_refl _), rfl⟩, ⟨⟨en.key, ?_⟩, ?_, hne, by omega⟩, fun b hb => ?_⟩
    · have e1 : ((i + 1 : Nat) : Int) = (i : Int) + 1 := by omega
      rw [e1]; exact he'
    · rw [← hsz]
      exact st'.1.at fun o q => (sb.2 it (Ne.symm hne)).trans q
    · have hb' : b < s.heap.objs.size := by
        rcases (show b = e ∨ b = it by simpa using hb) with z | z
        · rw [z]; exact hel
        · rw [z]; exact hil
      rw [upd_ne (Nat.ne_of_lt hb')]
      exact (hf b hb).1
  done := by
    intro X hP hw hK hc i pins s σ H E I hf st hg
    subst hP hw hK
    obtain ⟨⟨old, he⟩, hit, hne, hle⟩ := st
    obtain ⟨hd, hi⟩ := hg
    obtain ⟨hs, hgd, hx, es', ep', vs, hdt, hsz, kv, hm⟩ := I.frzK hd
    obtain ⟨rfl, rfl⟩ := dict_ep hod hdt
    obtain ⟨f0, f1, f2, f3, f4, f5⟩ := hf it (by simp)
    have nd : d ≠ it := fun z => by rw [← z, hd] at f0; cases f0
    have nde : d ≠ e := fun z => by have := (hf e (by simp)).1; rw [← z, hd] at this; cases this
    have ei : i = es'.size := by omega
    have D := draws_keys (prog := X.prog) (w := X.w) (A := X.A.in1) (I.ok.hd hc) it d nd hdt
    rw [← hsz, ei] at hit
    rw [ei] at he
    exact wpAny_pyNext_enum_endD D he ⟨hit, hgd⟩ fun h' eb => ⟨rfl, I.turned (t' := s.toks) (fun b o hb q => eb b o hb q) f0 f1 f3 f4 f5⟩
  self := fun A i s Q E st h => let ⟨⟨_, he⟩, _⟩ := st; wpAny_pyIter_enum he h
def iEnumK (ta : TA) : TI := fun σ H R => ta σ H fun vs H1 => ∃ d o kvs, vs = [.ref d] ∧ H1 d = some (.frz o (.dK kvs)) ∧ R (Itek d o kvs) H1
/-- for i, k in enumerate(d), d locked -/
theorem pi_enumK {X : Cx} {e : Expr} {ta : TA} {p pos tpos : Pos} {elts : List Expr} {kk : Nat} (hg : Gl X "enumerate") (hm : X.mg "enumerate" = none) (ha : PA X [e] ta) (hs : starEach [e] X.env = [(false, eval e X.env)] := by rfl) :
    PI X (.Tuple elts kk tpos) (.Call (.Name "enumerate" p) [e] [] pos) (iEnumK ta) := by
  refine ⟨fun pins s σ H R I h => Call_ (ld_blt I hg hm boot_enumerate (PyProof.Rows.callWith_type1 (thn (ha.run pos pins s σ H _ I h) fun us s1 ⟨vs, H1, I1, r1, q1⟩ => ?_) hs rfl))⟩
  obtain ⟨d, o, kvs, ex, hd, q⟩ := q1
  subst ex
  cases r1 with
  | cons r rr =>
    cases rr
    cases r
    obtain ⟨hsm, hgd, hx, es, ep, vs, hdt, hsz, kv, hmm⟩ := I1.frzK hd
    refine call_enum_keys hsm hgd hx hdt fun h' he hit hk => wpAny_pyIter_enum he ?_
    have I2 : Inv X pins σ H1 { s1 with heap := h' } := I1.kept (t' := s1.toks) hk
    rw [hsz] at hit
    refine ⟨s1.heap.objs.size + 1, [s1.heap.objs.size + 1, s1.heap.objs.size], _, _, H1, rfl, I2, turn_enumK (s1.heap.objs.size + 1) s1.heap.objs.size hdt, ⟨⟨.none, he⟩, hit, Nat.succ_ne_self _, Nat.zero_le _⟩, fun b hb => ?_, q⟩
    have hle : s1.heap.objs.size ≤ b := by
      rcases (show b = s1.heap.objs.size + 1 ∨ b = s1.heap.objs.size by simpa using hb) with z | z
      · rw [z]; exact Nat.le_add_right _ _
      · rw [z]; exact Nat.le_refl _
    exact I1.fpOk hle (I1.hok.fresh hle)
/-- (0, sign), (1, sign), ..: a text -/
def Ites (z : Str) : It :=
  ⟨fun i _ => i < z.cps.size, fun i H v H' => ∃ T c, z.cps[i]? = some c ∧ v = .ref T ∧ H T = none ∧ H' = upd H T (.tup [.int (i : Nat), .str ⟨#[c]⟩]), fun i _ => z.cps.size ≤ i⟩
theorem draws_str {prog : Program} {w : World} {A : Around} (hh : A.handled = none) (it : Addr) (x : Str) (t : Tok) : Draws prog w A it [it] x.cps.size (fun i v => ∃ c u, x.cps[i]? = some c ∧ v = .str ⟨#[c]⟩ u) (fun i h => h.IsStrIter it (strIterType x) x t i) := by
  unfold strIterType
  split
  · exact Draws.strAscii hh it x t
  · exact Draws.strWide hh it x t
theorem turn_enumS {P : Program} {w : World} {K : PySem.W.Frag} {elts : List Expr} {kk : Nat} {tpos : Pos} {z : Str} {t : Tok} (e it : Addr) :
    Turn P w K (.Tuple elts kk tpos) (Ites z) [e, it] e (fun i h => (∃ old, IsEnum h e it ((i : Nat) : Int) old) ∧ h.IsStrIter it (strIterType z) z t i ∧ e ≠ it ∧ i ≤ z.cps.size) where
  mem := by simp
  obj := fun i h st b hb => by
    obtain ⟨⟨old, he⟩, ⟨o', ho, hc, hd⟩, _⟩ := st
    rcases (show b = e ∨ b = it by simpa using hb) with y | y
    · rw [y]; exact ⟨_, he, fun v q => nomatch q⟩
    · rw [y]; exact ⟨o', ho, fun v q => by rw [hd] at q; cases q⟩
  keep := fun i h h' st k => let ⟨⟨old, he⟩, ⟨o, ho, r⟩, hne, hle⟩ := st; ⟨⟨old, k e (by simp) _ he⟩, ⟨o, k it (by simp) o ho, r⟩, hne, hle⟩
  item := by
    intro X hP hw hK hc i pins s σ H E I hf st hi
    subst hP hw hK
    obtain ⟨⟨old, he⟩, hit, hne, hle⟩ := st
    have hel : e < s.heap.objs.size := Heap.lt_size he
    have hil : it < s.heap.objs.size := by obtain ⟨_, q, _⟩ := hit; exact Heap.lt_size q
    have D := draws_str (prog := X.prog) (w := X.w) (A := X.A.in1) (I.ok.hd hc) it z t
    refine wpAny_pyNext_enum_itemD D he hit hi hne (by simp [hne]) fun x h' tk hP ho st' hT hsz' hk => ?_
    obtain ⟨c, u, hcu, rfl⟩ := hP
    refine ⟨_, rfl, wpAny_letOwnedTupleGo_enum (s := { s with heap := h', toks := tk + 1 }) ho fun h'' he' sb => ?_⟩
    have hT2 : h''.get? s.heap.objs.size = some { cls := .type "tuple", data := .seq #[.int i tk, .str ⟨#[c]⟩ u] } := (sb.2 _ (Nat.ne_of_gt hel)).trans hT
    have new : ObjOk X.prog X.w (upd H s.heap.objs.size (.tup [.int (i : Nat), .str ⟨#[c]⟩])) h'' s.heap.objs.size (.tup [.int (i : Nat), .str ⟨#[c]⟩]) :=
      ⟨by show 2 ≤ sizeLine; decide, [.int i tk, .str ⟨#[c]⟩ u], .cons ⟨_, rfl⟩ (.cons ⟨_, rfl⟩ .nil), ⟨_, hT2, rfl, _, rfl⟩⟩
    have I1 : Inv X pins σ (upd H s.heap.objs.size (.tup [.int (i : Nat), .str ⟨#[c]⟩])) { s with heap := h'', toks := tk + 1 } :=
      I.turnedNew (ch := [e, it]) (fun b ob hb q => (sb.2 b (fun z => hb (by simp [z]))).trans (hk b ob (fun z => hb (by simp [z])) (fun z => hb (by simp [z])) q)) hf (Nat.le_refl _) new
    have hi' : i < z.cps.size := hi
    refine ⟨.ref s.heap.objs.size, _, I1, rfl, ⟨_, c, hcu, rfl, I.hok.fresh (Nat.le_refl _), rfl⟩, ⟨⟨.str ⟨#[c]⟩ u, ?_⟩, ?_, hne, by omega⟩, fun b hb => ?_⟩
    · have e1 : ((i + 1 : Nat) : Int) = (i : Int) + 1 := by omega
      rw [e1]; exact he'
    · obtain ⟨o, ho', r⟩ := st'
      exact ⟨o, (sb.2 it (Ne.symm hne)).trans ho', r⟩
    · have hb' : b < s.heap.objs.size := by
        rcases (show b = e ∨ b = it by simpa using hb) with y | y
        · rw [y]; exact hel
        · rw [y]; exact hil
      rw [upd_ne (Nat.ne_of_lt hb')]
      exact (hf b hb).1
  done := by
    intro X hP hw hK hc i pins s σ H E I hf st hi
    subst hP hw hK
    obtain ⟨⟨old, he⟩, hit, hne, hle⟩ := st
    obtain ⟨f0, f1, f2, f3, f4, f5⟩ := hf it (by simp)
    have hi' : z.cps.size ≤ i := hi
    have ei : i = z.cps.size := by omega
    have D := draws_str (prog := X.prog) (w := X.w) (A := X.A.in1) (I.ok.hd hc) it z t
    rw [ei] at hit he
    exact wpAny_pyNext_enum_endD D he hit fun h' eb => ⟨rfl, I.turned (t' := s.toks) (fun b o hb q => eb b o hb q) f0 f1 f3 f4 f5⟩
  self := fun A i s Q E st h => let ⟨⟨_, he⟩, _⟩ := st; wpAny_pyIter_enum he h
def iEnumS (ta : TA) : TI := fun σ H R => ta σ H fun vs H1 => ∃ z, vs = [.str z] ∧ R (Ites z) H1
/-- for i, c in enumerate(text) -/
theorem pi_enumS {X : Cx} {e : Expr} {ta : TA} {p pos tpos : Pos} {elts : List Expr} {kk : Nat} (hg : Gl X "enumerate") (hm : X.mg "enumerate" = none) (ha : PA X [e] ta) (hs : starEach [e] X.env = [(false, eval e X.env)] := by rfl) :
    PI X (.Tuple elts kk tpos) (.Call (.Name "enumerate" p) [e] [] pos) (iEnumS ta) := by
  refine ⟨fun pins s σ H R I h => Call_ (ld_blt I hg hm boot_enumerate (PyProof.Rows.callWith_type1 (thn (ha.run pos pins s σ H _ I h) fun us s1 ⟨vs, H1, I1, r1, q1⟩ => ?_) hs rfl))⟩
  obtain ⟨z, ex, q⟩ := q1
  subst ex
  cases r1 with
  | cons r rr =>
    cases rr
    obtain ⟨t, rfl⟩ := r
    refine call_enumerate_str fun h' he hit hsz hk => wpAny_pyIter_enum he ?_
    have I2 : Inv X pins σ H1 { s1 with heap := h' } := I1.kept (t' := s1.toks) hk
    refine ⟨s1.heap.objs.size + 1, [s1.heap.objs.size + 1, s1.heap.objs.size], _, _, H1, rfl, I2, turn_enumS (s1.heap.objs.size + 1) s1.heap.objs.size, ⟨⟨.none, he⟩, hit, Nat.succ_ne_self _, Nat.zero_le _⟩, fun b hb => ?_, q⟩
    have hle : s1.heap.objs.size ≤ b := by
      rcases (show b = s1.heap.objs.size + 1 ∨ b = s1.heap.objs.size by simpa using hb) with y | y
      · rw [y]; exact Nat.le_add_right _ _
      · rw [y]; exact Nat.le_refl _
    exact I1.fpOk hle (I1.hok.fresh hle)
/-! ## name = {k: v for ..} on one line, the name a local -/
section
variable {X : Cx}
theorem ps_setDc {i : Nat} {y : Str} {py : Pos} {kx vx tg iter : Expr} {ifs : List Expr} {scope : Scope} {own : List (Str × Nat)} {pos spos : Pos} {wi : TI} {g : TG} {tt : TT} {tk tv : TE} (hc : X.calm = true) (hN : X.N.Nodup) (hy : X.N[i]? = some y) (hyl : X.env.scope.names.lookup y = some .local)
    (hsw : swapsWith (.DictComp kx vx [⟨tg, iter, ifs, 0⟩] scope pos) (some (.Name y py)) spos.line X.env = pure true) (hi : PI X tg iter wi) (ok : BlkOk X.N X.env.scope scope own)
    (hg : ∀ (s : Shared) (H : Hp) (C : Addr) (cl : List (Str × Addr)) (fp : List Addr), PG (X.blk s H scope (compEnvC scope cl C X.env) fp) tg g) (ht : ∀ (s : Shared) (H : Hp) (C : Addr) (cl : List (Str × Addr)) (fp : List Addr), PTs (X.blk s H scope (compEnvC scope cl C X.env) fp) ifs tt)
    (hk : ∀ (s : Shared) (H : Hp) (C : Addr) (cl : List (Str × Addr)) (fp : List Addr), PE (X.blk s H scope (compEnvC scope cl C X.env) fp) kx tk)
    (he : ∀ (s : Shared) (H : Hp) (C : Addr) (cl : List (Str × Addr)) (fp : List Addr), PE (X.blk s H scope (compEnvC scope cl C X.env) fp) vx tv) (hs : ∀ x, foldedSetIterable iter X.env x = pure x := by intro _; rfl) :
    PS X (.Assign [.Name y py] (.DictComp kx vx [⟨tg, iter, ifs, 0⟩] scope pos) spos) (tAsg (tDc wi g tt tk tv (own.map (·.2))) (gName i)) := by
  refine ⟨fun pins s σ H D I h => ?_⟩
  rw [exec_Assign_Name_used _ _ _ _ hsw]
  refine wpAny_bind (wpAny_standAt (wpAny_bind ?_))
  show wpAny _ X.A (do let _ ← comprehension (.DictComp kx vx [⟨tg, iter, ifs, 0⟩] scope pos) scope X.env (firstIterPos [⟨tg, iter, ifs, 0⟩] pos) newDict false (eval iter X.env) (some (assign (.Name y py) X.env))) _ _ s
  have h : tDc wi g tt tk tv (own.map (·.2)) σ H (fun x H1 => gName i x σ H1 D.nx) := h
  refine wpAny_bind (thn (dc_core (Qf := fun _ s' => SP X pins D .next s') hc hN I hi ok hg ht hk he hs h fun L C s' m H' I' q hn f => ?_) fun _ s' hq => wpAny_pure (wpAny_pure hq))
  show wpAny _ _ (assign (.Name y py) X.env (.ref L)) _ _ _
  refine wpAny_assign_Name (store_ok2 (v := V.ref L) I' hN hy (.inl hyl) rfl (fun s2 I2 ⟨a, sb, ha⟩ => ?_) (.inr hyl))
  obtain ⟨f0, f1, f2, f3, f4, f5⟩ := f
  have haC : C ≠ a := by
    rcases ha with z | z
    · rw [z]; exact f1
    · exact fun e => f4 y a z e.symm
  refine ⟨m, hn.sameBut sb haC, fun h3 sb3 => ?_⟩
  exact ⟨_, H', I2.turned (t' := s2.toks) (fun b o hb e => (sb3.2 b hb).trans e) f0 f1 f3 f4 f5, q⟩
theorem swd_true {kx vx : Expr} {gs : List Comprehension} {scope : Scope} {pos py : Pos} {y : Str} {l : Nat} {env : Env} (hk : env.scope.kind = .function) (hy : env.scope.names.lookup y = some .local) (hl : (py.line == pos.line) = true)
    (ha : (scope.names.any fun (n, k) => n == y && (k == .local || k == .cell)) = false) : swapsWith (.DictComp kx vx gs scope pos) (some (.Name y py)) l env = pure true := by
  have ky : env.kindOf y = some .local := hy
  have hb : env.blockKind = .function := by unfold Env.blockKind; rw [hk]; rfl
  unfold swapsWith
  simp only [hb, ky, ha, Expr.pos, hl]
  rfl
end
section
theorem walk_enumK {d : Addr} {o : Obj} {kvs : List (Key × V)} : Walk (Itek d o kvs) kvs.length (fun H => H d = some (.frz o (.dK kvs))) (YPair (fun i => some (.int (i : Nat))) (fun i => kvs[i]?.map fun kv => kV kv.1)) := by
  refine ⟨fun _ _ hi q => ⟨q, hi⟩, fun _ q => ⟨q, Nat.le_refl _⟩, fun i H x H' _ _ y => ?_⟩
  obtain ⟨T, k, v, h1, h2, h3, h4⟩ := y
  exact ⟨T, .int (i : Nat), kV k, h2, h3, h4, rfl, by simp [h1]⟩
theorem walk_enumS {z : Str} : Walk (Ites z) z.cps.size (fun _ => True) (YPair (fun i => some (.int (i : Nat))) (fun i => z.cps[i]?.map fun c => V.str ⟨#[c]⟩)) := by
  refine ⟨fun _ _ hi _ => hi, fun _ _ => Nat.le_refl _, fun i H x H' _ _ y => ?_⟩
  obtain ⟨T, c, h1, h2, h3, h4⟩ := y
  exact ⟨T, .int (i : Nat), .str ⟨#[c]⟩, h2, h3, h4, rfl, by simp [h1]⟩
variable {J : It} {n : Nat} {G : Hp → Prop} {Y : Nat → Hp → V → Hp → Prop}
/-- a dict comprehension over it -/
theorem dc_it (w : Walk J n G Y) {g : TG} {tt : TT} {tk tv : TE} {vs : List Nat} {σ : L2.St} {H1 : Hp} {D : Addr} {Qd : Hp → Prop} (Pv : Nat → Hp → Prop) (h0 : Pv 0 (upd H1 D (.dK []))) (hG : ∀ i H, i ≤ n → Pv i H → G H)
    (hs : ∀ i x H H', i < n → Pv i H → Y i H x H' → g x (wipe σ vs) H' fun σ2 H2 => wipe σ2 vs = wipe σ vs ∧ tt σ2 H2 fun b H3 =>
      if b = true then tk σ2 H3 fun y H4 => tv σ2 H4 fun z H5 => ∃ kvs k, y = kV k ∧ H5 D = some (.dK kvs) ∧ kvs.length < sizeLine ∧ Pv (i + 1) (upd H5 D (.dK (putK kvs k z))) else Pv (i + 1) H3) (hd : ∀ H, Pv n H → Qd H) :
    ∃ W : Nat → Nat → Hp → Prop, (∃ m, W 0 m (upd H1 D (.dK []))) ∧ ∀ i m H, W i m H →
      (J.stop i H ∧ Qd H) ∨ (J.go i H ∧ ∃ Nx : Hp → Prop, (∀ H', Nx H' → ∃ m', m' < m ∧ W (i + 1) m' H') ∧ ∀ x H', J.yld i H x H' → g x (wipe σ vs) H' fun σ2 H2 => wipe σ2 vs = wipe σ vs ∧ tt σ2 H2 fun b H3 =>
        if b = true then tk σ2 H3 fun y H4 => tv σ2 H4 fun z H5 => ∃ kvs k, y = kV k ∧ H5 D = some (.dK kvs) ∧ kvs.length < sizeLine ∧ Nx (upd H5 D (.dK (putK kvs k z))) else Nx H3) := by
  refine ⟨fun i m H => m = n - i ∧ i ≤ n ∧ Pv i H, ⟨n, by simp, Nat.zero_le _, h0⟩, ?_⟩
  rintro i m H ⟨rfl, hi, p⟩
  have q := hG i H hi p
  by_cases hlt : i < n
  · exact .inr ⟨w.goes i H hlt q, Pv (i + 1), fun H' p' => ⟨n - (i + 1), by omega, rfl, hlt, p'⟩, fun x H' y => hs i x H H' hlt p (w.yields i H x H' hlt q y)⟩
  · have e : i = n := by omega
    subst e
    exact .inl ⟨w.stops H q, hd H p⟩
end
end HE
namespace HV
open PySem PySem.Spec PyProof.Rows L2 RT
section
variable {prog : Program} {w : World} {A : Around} {E : Value → Shared → Prop} {s : Shared}
/-- an item of reversed(tuple), asked by an iterator over it -/
theorem rt_item {it t : Addr} {i : Nat} {items : Array Value} {x : Value} {Q : Value → Shared → Prop} (hit : IsRt s.heap it t (i : Int)) (ht : IsTup s.heap t items) (hx : items[i]? = some x) (hsz : items.size ≤ sizeLine)
    (q : ∀ h', IsRt h' it t ((i : Int) - 1) → Heap.SameBut it s.heap h' → Q x { s with heap := h', toks := s.toks + 1 }) : wpAny (model prog w) A (Builtin.SmallTypes.nextOf (.ref it)) Q E s := by
  obtain ⟨o, ho, hc, hd⟩ := id hit
  have hi : i < items.size := (Array.getElem?_eq_some_iff.mp hx).1
  have hT : s.TypeIs (.ref t) "tuple" := IsTup.typeOf' ht
  rw [sizeLine_eq] at hsz
  unfold Builtin.SmallTypes.nextOf
  refine wpAny_bind (wpAny_callSpecial?_slot (name := Str.ofString "__next__") hit.typeIs slot_rt_next (wpAny_call_entry slot_rt_next hit.typeIs entry_rt_next ?_ (args_rt_next _)))
  unfold Builtin.«reversed.__next__»
  refine wpAny_bind (wpAny_of_eq (a := (Value.ref it, [])) rfl ?_)
  try dsimp only
  refine wpAny_bind (wpAny_field ho hd (x := .ref t) rfl (wpAny_bind (wpAny_field ho hd (x := rawInt (i : Int)) rfl ?_)))
  show wpAny _ _ (if (i : Int) < 0 then _ else _) _ _ s
  rw [if_neg (by omega)]
  refine wpAny_bind (wpAny_specialOf hT get_tuple ?_)
  try dsimp only
  try rw [if_neg (by decide)]
  refine wpAny_bind (wpAny_mkInt (wpAny_bind (wpAny_attempt ?_)))
  refine PyProof.Rows.getItem_tuple (s := { s with toks := s.toks + 1 }) ht (by omega) (by omega) (seqIndex_of (by omega) (by omega)) hx ?_
  try dsimp only
  refine wpAny_bind (wpAny_field (s := { s with toks := s.toks + 1 }) ho hd (x := rawInt (i : Int)) rfl ?_)
  refine wpAny_bind (wpAny_setField (s := { s with toks := s.toks + 1 }) ho hd (by simp) ?_)
  first
  | refine wpAny_pure ⟨x, rfl, wpAny_pure (q _ ?_ (Heap.SameBut.update ..))⟩
  | refine wpAny_bind (wpAny_pure (wpAny_pure ⟨x, rfl, wpAny_pure (q _ ?_ (Heap.SameBut.update ..))⟩))
  exact ⟨_, Heap.get?_update_self _ ho (Obj.isFreed_of_fields (Obj.data_mapFields hd _)), (Obj.cls_mapFields ..).trans hc, by rw [Obj.data_mapFields hd]; simp⟩
theorem rt_end {it t : Addr} {Q : Value → Shared → Prop} (hh : A.handled = none) (hit : IsRt s.heap it t (-1)) (q : ∀ h' x, Heap.ExtBut it s.heap h' → (∃ o, h'.get? x = some o ∧ o.cls = .type "StopIteration") → E (.ref x) { s with heap := h' }) :
    wpAny (model prog w) A (Builtin.SmallTypes.nextOf (.ref it)) Q E s := by
  obtain ⟨o, ho, hc, hd⟩ := id hit
  unfold Builtin.SmallTypes.nextOf
  refine wpAny_bind (wpAny_callSpecial?_slot (name := Str.ofString "__next__") hit.typeIs slot_rt_next (wpAny_call_entry slot_rt_next hit.typeIs entry_rt_next ?_ (args_rt_next _)))
  unfold Builtin.«reversed.__next__»
  refine wpAny_bind (wpAny_of_eq (a := (Value.ref it, [])) rfl ?_)
  try dsimp only
  refine wpAny_bind (wpAny_field ho hd (x := .ref t) rfl (wpAny_bind (wpAny_field ho hd (x := rawInt (-1)) rfl ?_)))
  show wpAny _ _ (if (-1 : Int) < 0 then _ else _) _ _ s
  rw [if_pos (by decide)]
  try dsimp only
  refine wpAny_bind (wpAny_rule (wpAny_bind ?_))
  wp_delta
  refine wpAny_bind (wpAny_setField ho hd (by simp) ?_)
  have ho2 := Heap.get?_update_self (Obj.mapFields (·.setIfInBounds 1 (rawInt (-1)))) ho (Obj.isFreed_of_fields (Obj.data_mapFields hd _))
  refine wpAny_setField (s := { s with heap := s.heap.update it (Obj.mapFields (·.setIfInBounds 1 (rawInt (-1)))) }) ho2 (Obj.data_mapFields hd _) (by simp) ?_
  try dsimp only
  first
  | show wpAny _ _ (newExc (.type "StopIteration") [] >>= _) _ _ _
  | (refine wpAny_bind ?_; show wpAny _ _ (newExc (.type "StopIteration") [] >>= _) _ _ _)
  | (refine wpAny_bind ?_; wp_delta; show wpAny _ _ (newExc (.type "StopIteration") [] >>= _) _ _ _)
  refine wpAny_bind ?_
  simp only [newExc, newTuple]; refine wpAny_bind (wpAny_newObj_type ?_ (by size_fits))
  refine wpAny_bind (m := firstArgMember _ _) (wpAny_of_eq (a := Value.none) (by first | rfl | (simp only [firstArgMember]; rfl)) (wpAny_newObj_type ?_ (by size_fits)))
  simp only [raiseNew]; refine wpAny_bind (wpAny_handled ?_)
  first | rw [show A.in1.handled = none from hh] | rw [hh]
  refine wpAny_bind (wpAny_pure (wpAny_throw ?_))
  refine q _ _ (((?_ : Heap.ExtBut it s.heap _).push _).push _) ⟨_, Heap.get?_push_size _ rfl, rfl⟩
  exact fun b ob hb e => (Heap.get?_update_other _ _ (Ne.symm hb)).trans ((Heap.get?_update_other _ _ (Ne.symm hb)).trans e)
theorem lri_item {it l : Addr} {i : Nat} {items : Array Value} {x : Value} {Q : Value → Shared → Prop} (hit : s.heap.IsRevIter it l (i : Int)) (hl : s.heap.IsList l items) (hx : items[i]? = some x)
    (q : ∀ h', h'.IsRevIter it l ((i : Int) - 1) → Heap.SameBut it s.heap h' → Q x { s with heap := h' }) : wpAny (model prog w) A (Builtin.SmallTypes.nextOf (.ref it)) Q E s := by
  obtain ⟨o, ho, hc, hd⟩ := id hit
  obtain ⟨ol, hol, _, nl, hdl⟩ := hl
  unfold Builtin.SmallTypes.nextOf
  refine wpAny_bind (wpAny_callSpecial?_slot (name := Str.ofString "__next__") hit.typeIs F.slot_lri_next (wpAny_call_entry F.slot_lri_next hit.typeIs F.entry_lri_next ?_ (F.args_lri_next_1 _)))
  unfold Builtin.«list_reverseiterator.__next__»
  refine wpAny_bind (wpAny_of_eq (a := (Value.ref it, [])) rfl ?_)
  try dsimp only
  refine wpAny_bind (wpAny_field ho hd (x := rawInt (i : Int)) rfl ?_)
  show wpAny _ _ (if (i : Int) < 0 then _ else _) _ _ s
  rw [if_neg (by omega)]
  show wpAny _ _ (field (.ref it) 0 >>= _) _ _ s
  refine wpAny_bind (wpAny_field ho hd (x := .ref l) rfl ?_)
  show wpAny _ _ (seqItems? (.ref l) >>= _) _ _ s
  refine wpAny_bind (wpAny_seqItems hol hdl ?_)
  simp only [Int.toNat_natCast, hx]
  refine wpAny_bind (wpAny_setField ho hd (by simp) ?_)
  first
  | refine wpAny_pure ⟨x, rfl, wpAny_pure (q _ ?_ (Heap.SameBut.update ..))⟩
  | refine wpAny_bind (wpAny_pure (wpAny_pure ⟨x, rfl, wpAny_pure (q _ ?_ (Heap.SameBut.update ..))⟩))
  exact ⟨_, Heap.get?_update_self _ ho (Obj.isFreed_of_fields (Obj.data_mapFields hd _)), (Obj.cls_mapFields ..).trans hc, by rw [Obj.data_mapFields hd]; simp⟩
theorem lri_end {it l : Addr} {Q : Value → Shared → Prop} (hh : A.handled = none) (hit : s.heap.IsRevIter it l (-1)) (q : ∀ h' x, Heap.ExtBut it s.heap h' → (∃ o, h'.get? x = some o ∧ o.cls = .type "StopIteration") → E (.ref x) { s with heap := h' }) :
    wpAny (model prog w) A (Builtin.SmallTypes.nextOf (.ref it)) Q E s := by
  obtain ⟨o, ho, hc, hd⟩ := id hit
  unfold Builtin.SmallTypes.nextOf
  refine wpAny_bind (wpAny_callSpecial?_slot (name := Str.ofString "__next__") hit.typeIs F.slot_lri_next (wpAny_call_entry F.slot_lri_next hit.typeIs F.entry_lri_next ?_ (F.args_lri_next_1 _)))
  unfold Builtin.«list_reverseiterator.__next__»
  refine wpAny_bind (wpAny_of_eq (a := (Value.ref it, [])) rfl ?_)
  try dsimp only
  refine wpAny_bind (wpAny_field ho hd (x := rawInt (-1)) rfl ?_)
  show wpAny _ _ (if (-1 : Int) < 0 then _ else _) _ _ s
  rw [if_pos (by decide)]
  refine wpAny_bind (wpAny_rule ?_)
  first
  | show wpAny _ _ (newExc (.type "StopIteration") [] >>= _) _ _ _
  | (refine wpAny_bind ?_; show wpAny _ _ (newExc (.type "StopIteration") [] >>= _) _ _ _)
  refine wpAny_bind ?_
  simp only [newExc, newTuple]; refine wpAny_bind (wpAny_newObj_type ?_ (by size_fits))
  refine wpAny_bind (m := firstArgMember _ _) (wpAny_of_eq (a := Value.none) (by first | rfl | (simp only [firstArgMember]; rfl)) (wpAny_newObj_type ?_ (by size_fits)))
  simp only [raiseNew]; refine wpAny_bind (wpAny_handled ?_)
  first | rw [show A.in1.handled = none from hh] | rw [hh]
  refine wpAny_bind (wpAny_pure (wpAny_throw ?_))
  exact q _ _ (((Heap.ExtBut.refl _ _).push _).push _) ⟨_, Heap.get?_push_size _ rfl, rfl⟩
/-- what reversed(tuple) gives, asked one by one -/
theorem draws_rt (hh : A.handled = none) (it t : Addr) (hne : t ≠ it) {items : Array Value} (hsz : items.size ≤ sizeLine) :
    Draws prog w A it [it, t] items.size (fun i v => items[items.size - 1 - i]? = some v) (fun i h => i ≤ items.size ∧ IsRt h it t ((items.size : Int) - 1 - (i : Nat)) ∧ IsTup h t items) where
  live := fun _ _ st => let ⟨o, ho, _⟩ := st.2.1; ⟨o, ho⟩
  frame := fun _ _ _ st k => ⟨st.1, st.2.1.at fun o e => k it (by simp) o e, let ⟨o, e, x⟩ := st.2.2; ⟨o, k t (by simp) o e, x⟩⟩
  item := fun i s Q E hi st q => by
    obtain ⟨_, hit, ht⟩ := st
    have e1 : (items.size : Int) - 1 - ((i : Nat) : Int) = ((items.size - 1 - i : Nat) : Int) := by omega
    rw [e1] at hit
    have hlt : items.size - 1 - i < items.size := by omega
    refine rt_item hit ht (Array.getElem?_eq_getElem hlt) hsz fun h' it' sb => ?_
    have e2 : ((items.size - 1 - i : Nat) : Int) - 1 = (items.size : Int) - 1 - ((i + 1 : Nat) : Int) := by omega
    rw [e2] at it'
    exact q _ h' (s.toks + 1) (Array.getElem?_eq_getElem hlt) ⟨hi, it', let ⟨o, e, x⟩ := ht; ⟨o, (sb.2 t hne).trans e, x⟩⟩ sb
  done := fun s Q E st q => by
    obtain ⟨_, hit, _⟩ := st
    have e1 : (items.size : Int) - 1 - ((items.size : Nat) : Int) = -1 := by omega
    rw [e1] at hit
    exact rt_end hh hit q
theorem draws_lri (hh : A.handled = none) (it l : Addr) (hne : l ≠ it) {items : Array Value} :
    Draws prog w A it [it, l] items.size (fun i v => items[items.size - 1 - i]? = some v) (fun i h => i ≤ items.size ∧ h.IsRevIter it l ((items.size : Int) - 1 - (i : Nat)) ∧ h.IsList l items) where
  live := fun _ _ st => let ⟨o, ho, _⟩ := st.2.1; ⟨o, ho⟩
  frame := fun _ _ _ st k => ⟨st.1, st.2.1.at fun o e => k it (by simp) o e, let ⟨o, e, x⟩ := st.2.2; ⟨o, k l (by simp) o e, x⟩⟩
  item := fun i s Q E hi st q => by
    obtain ⟨_, hit, ht⟩ := st
    have e1 : (items.size : Int) - 1 - ((i : Nat) : Int) = ((items.size - 1 - i : Nat) : Int) := by omega
    rw [e1] at hit
    have hlt : items.size - 1 - i < items.size := by omega
    refine lri_item hit ht (Array.getElem?_eq_getElem hlt) fun h' it' sb => ?_
    have e2 : ((items.size - 1 - i : Nat) : Int) - 1 = (items.size : Int) - 1 - ((i + 1 : Nat) : Int) := by omega
    rw [e2] at it'
    exact q _ h' s.toks (Array.getElem?_eq_getElem hlt) ⟨hi, it', let ⟨o, e, x⟩ := ht; ⟨o, (sb.2 l hne).trans e, x⟩⟩ sb
  done := fun s Q E st q => by
    obtain ⟨_, hit, _⟩ := st
    have e1 : (items.size : Int) - 1 - ((items.size : Nat) : Int) = -1 := by omega
    rw [e1] at hit
    exact lri_end hh hit q
end
open AutoSeq1 (wpAny_loadPart')
theorem meets_it (r : Addr) (o : Obj) (ik : ∀ (prog : Program) (w : World) (A : Around) (E : Value → Shared → Prop) (Q : Value → Shared → Prop) (s : Shared), s.heap.get? r = some o → Q (.ref r) s → wpAny (model prog w) A (pyIter (.ref r)) Q E s) :
    Meets (Builtin.«enumerate.__new__» ⟨[.type "enumerate", .ref r], []⟩) (fun _ R s => s.heap.get? r = some o ∧
      R (.ok (.ret (.ref s.heap.objs.size))) { s with heap := s.heap.push { cls := .type "enumerate", data := .fields #[.none, .bool false, .ref r, rawInt 0, .none, .none] } }) :=
  .of_wp fun prog w A R s h => by
    obtain ⟨hp, g, dr, tk, os⟩ := s
    obtain ⟨ho, h⟩ := h
    have hsub := sub_enumerate
    have ik2 : ∀ {A : Around} {E : Value → Shared → Prop} {Q : Value → Shared → Prop}, Q (.ref r) ⟨hp, g, dr, tk, os⟩ → wpAny (model prog w) A (pyIter (.ref r)) Q E ⟨hp, g, dr, tk, os⟩ := fun q => ik _ _ _ _ _ _ ho q
    wp_walk using wpAny_loadPart' ho
    refine wpAny_stack_any fun st => wpAny_pure ?_
    split
    · rename_i c _ _ _ _ _
      cases (c == Value.type "enumerate") <;> (wp_walk using wpAny_loadPart' ho, ik2; exact ⟨_, rfl, h⟩)
    · wp_walk using wpAny_loadPart' ho, ik2
      exact ⟨_, rfl, h⟩
theorem call_enum_it {prog : Program} {w : World} {A : Around} {E : Value → Shared → Prop} {s : Shared} {r : Addr} {o : Obj} {Q : Value → Shared → Prop} (ik : ∀ (prog : Program) (w : World) (A : Around) (E : Value → Shared → Prop) (Q : Value → Shared → Prop) (s : Shared), s.heap.get? r = some o → Q (.ref r) s → wpAny (model prog w) A (pyIter (.ref r)) Q E s) (ho : s.heap.get? r = some o)
    (q : ∀ h', IsEnum h' s.heap.objs.size r 0 .none → (∀ b x, s.heap.get? b = some x → h'.get? b = some x) → Q (.ref s.heap.objs.size) { s with heap := h' }) : wpAny (model prog w) A (call (.type "enumerate") [.ref r]) Q E s := by
  refine callType_new F.called_enumerate (by decide) (F.typeCall_enumerate_1 _) (F.newCall_enumerate_1 _) (fun obj => F.args_object_init_2 obj _) F.entry_enumerate_new (meets_it r o ik) ⟨ho, ?_⟩
  have he : IsEnum (s.heap.push { cls := .type "enumerate", data := .fields #[.none, .bool false, .ref r, rawInt 0, .none, .none] }) s.heap.objs.size r 0 .none := Heap.get?_push_size _ rfl
  exact ⟨⟨_, he, rfl⟩, q _ he fun b x e => Heap.get?_push_of_some _ e⟩
/-- (0, last), (1, the one before it), ..: reversed(tuple) of n items -/
def ItER (K : PySem.W.Frag) (a : Addr) (n : Nat) : It :=
  ⟨fun i H => i < n ∧ ∃ xs, SqT K H a xs ∧ xs.length = n, fun i H v H' => ∃ T x, v = .ref T ∧ H T = none ∧ H' = upd H T (.tup [.int (i : Nat), x]) ∧ ∀ xs, SqT K H a xs → xs[n - 1 - i]? = some x, fun i H => n ≤ i ∧ ∃ xs, SqT K H a xs ∧ xs.length = n⟩
theorem turn_er {P : Program} {w : World} {K : PySem.W.Frag} {elts : List Expr} {kk : Nat} {tpos : Pos} {a : Addr} {n : Nat} (e it : Addr) (hai : a ≠ it) (hae : a ≠ e) :
    Turn P w K (.Tuple elts kk tpos) (ItER K a n) [e, it] e (fun i h => (∃ old, IsEnum h e it ((i : Nat) : Int) old) ∧ IsRt h it a ((n : Int) - 1 - (i : Nat)) ∧ e ≠ it ∧ i ≤ n) where
  mem := by simp
  obj := fun i h st b hb => by
    obtain ⟨⟨old, he⟩, ⟨o', ho, hc, hd⟩, _⟩ := st
    rcases (show b = e ∨ b = it by simpa using hb) with z | z
    · rw [z]; exact ⟨_, he, fun v q => nomatch q⟩
    · rw [z]; exact ⟨o', ho, fun v q => by rw [hd] at q; cases q⟩
  keep := fun i h h' st k => let ⟨⟨old, he⟩, hi, hne, hle⟩ := st; ⟨⟨old, k e (by simp) _ he⟩, hi.at fun o q => k it (by simp) o q, hne, hle⟩
  item := by
    intro X hP hw hK hc i pins s σ H E I hf st hg
    subst hP hw hK
    obtain ⟨⟨old, he⟩, hit, hne, hle⟩ := st
    obtain ⟨hi, xs, hq, hxl⟩ := hg
    obtain ⟨its, rv, p, hz⟩ := I.tuple hq
    have hlen : its.toArray.size = n := by rw [List.size_toArray, ← rv.length, hxl]
    have hel : e < s.heap.objs.size := Heap.lt_size he
    have hil : it < s.heap.objs.size := by obtain ⟨_, q, _⟩ := hit; exact Heap.lt_size q
    have D := draws_rt (prog := X.prog) (w := X.w) (A := X.A.in1) (I.ok.hd hc) it a hai (items := its.toArray) (by rw [hlen, ← hxl]; exact hz)
    rw [← hlen] at hit
    refine wpAny_pyNext_enum_itemD D he ⟨by omega, hit, p⟩ (by omega) hne (by simp [hne, Ne.symm hae]) fun x h' tk hP ho st' hT hsz' hk => ?_
    refine ⟨_, rfl, wpAny_letOwnedTupleGo_enum (s := { s with heap := h', toks := tk + 1 }) ho fun h'' he' sb => ?_⟩
    have hT2 : h''.get? s.heap.objs.size = some { cls := .type "tuple", data := .seq #[.int i tk, x] } := (sb.2 _ (Nat.ne_of_gt hel)).trans hT
    have hP' : its[n - 1 - i]? = some x := by
      have h1 : its.toArray[its.toArray.size - 1 - i]? = some x := hP
      rw [hlen] at h1
      simpa using h1
    obtain ⟨v, hv, rk⟩ : ∃ v, xs[n - 1 - i]? = some v ∧ RelV v x := by
      have hlt : n - 1 - i < xs.length := by omega
      obtain ⟨u, hu, ru⟩ := rv.get (List.getElem?_eq_getElem hlt)
      rw [hP'] at hu
      cases hu
      exact ⟨_, List.getElem?_eq_getElem hlt, ru⟩
    have new : ObjOk X.prog X.w (upd H s.heap.objs.size (.tup [.int (i : Nat), v])) h'' s.heap.objs.size (.tup [.int (i : Nat), v]) :=
      ⟨by show 2 ≤ sizeLine; decide, [.int i tk, x], .cons ⟨_, rfl⟩ (.cons rk .nil), ⟨_, hT2, rfl, _, rfl⟩⟩
    have I1 : Inv X pins σ (upd H s.heap.objs.size (.tup [.int (i : Nat), v])) { s with heap := h'', toks := tk + 1 } :=
      I.turnedNew (ch := [e, it]) (fun b ob hb q => (sb.2 b (fun z => hb (by simp [z]))).trans (hk b ob (fun z => hb (by simp [z])) (fun z => hb (by simp [z])) q)) hf (Nat.le_refl _) new
    refine ⟨.ref s.heap.objs.size, _, I1, rfl, ⟨_, v, rfl, I.hok.fresh (Nat.le_refl _), rfl, fun ys hy => by rw [I.tuple_inj hy hq]; exact hv⟩, ⟨⟨x, ?_⟩, ?_, hne, by omega⟩, fun b hb => ?_⟩
    · have e1 : ((i + 1 : Nat) : Int) = (i : Int) + 1 := by omega
      rw [e1]; exact he'
    · rw [← hlen]
      exact st'.2.1.at fun o q => (sb.2 it (Ne.symm hne)).trans q
    · have hb' : b < s.heap.objs.size := by
        rcases (show b = e ∨ b = it by simpa using hb) with z | z
        · rw [z]; exact hel
        · rw [z]; exact hil
      rw [upd_ne (Nat.ne_of_lt hb')]
      exact (hf b hb).1
  done := by
    intro X hP hw hK hc i pins s σ H E I hf st hg
    subst hP hw hK
    obtain ⟨⟨old, he⟩, hit, hne, hle⟩ := st
    obtain ⟨hi, xs, hq, hxl⟩ := hg
    obtain ⟨its, rv, p, hz⟩ := I.tuple hq
    have hlen : its.toArray.size = n := by rw [List.size_toArray, ← rv.length, hxl]
    obtain ⟨f0, f1, f2, f3, f4, f5⟩ := hf it (by simp)
    have D := draws_rt (prog := X.prog) (w := X.w) (A := X.A.in1) (I.ok.hd hc) it a hai (items := its.toArray) (by rw [hlen, ← hxl]; exact hz)
    have ei : i = its.toArray.size := by omega
    rw [← hlen, ei] at hit
    rw [ei] at he
    exact wpAny_pyNext_enum_endD D he ⟨Nat.le_refl _, hit, p⟩ fun h' eb => ⟨rfl, I.turned (t' := s.toks) (fun b o hb q => eb b o hb q) f0 f1 f3 f4 f5⟩
  self := fun A i s Q E st h => let ⟨⟨_, he⟩, _⟩ := st; wpAny_pyIter_enum he h
/-- (0, last), (1, the one before it), ..: reversed(list) of n items -/
def ItEL (K : PySem.W.Frag) (a : Addr) (n : Nat) : It :=
  ⟨fun i H => i < n ∧ ∃ xs, SqL K H a xs ∧ xs.length = n, fun i H v H' => ∃ T x, v = .ref T ∧ H T = none ∧ H' = upd H T (.tup [.int (i : Nat), x]) ∧ ∀ xs, SqL K H a xs → xs[n - 1 - i]? = some x, fun i H => n ≤ i ∧ ∃ xs, SqL K H a xs ∧ xs.length = n⟩
theorem turn_el {P : Program} {w : World} {K : PySem.W.Frag} {elts : List Expr} {kk : Nat} {tpos : Pos} {a : Addr} {n : Nat} (e it : Addr) (hai : a ≠ it) (hae : a ≠ e) :
    Turn P w K (.Tuple elts kk tpos) (ItEL K a n) [e, it] e (fun i h => (∃ old, IsEnum h e it ((i : Nat) : Int) old) ∧ Heap.IsRevIter h it a ((n : Int) - 1 - (i : Nat)) ∧ e ≠ it ∧ i ≤ n) where
  mem := by simp
  obj := fun i h st b hb => by
    obtain ⟨⟨old, he⟩, ⟨o', ho, hc, hd⟩, _⟩ := st
    rcases (show b = e ∨ b = it by simpa using hb) with z | z
    · rw [z]; exact ⟨_, he, fun v q => nomatch q⟩
    · rw [z]; exact ⟨o', ho, fun v q => by rw [hd] at q; cases q⟩
  keep := fun i h h' st k => let ⟨⟨old, he⟩, hi, hne, hle⟩ := st; ⟨⟨old, k e (by simp) _ he⟩, hi.at fun o q => k it (by simp) o q, hne, hle⟩
  item := by
    intro X hP hw hK hc i pins s σ H E I hf st hg
    subst hP hw hK
    obtain ⟨⟨old, he⟩, hit, hne, hle⟩ := st
    obtain ⟨hi, xs, hq, hxl⟩ := hg
    obtain ⟨its, rv, p, hz⟩ := I.list hq
    have hlen : its.toArray.size = n := by rw [List.size_toArray, ← rv.length, hxl]
    have hel : e < s.heap.objs.size := Heap.lt_size he
    have hil : it < s.heap.objs.size := by obtain ⟨_, q, _⟩ := hit; exact Heap.lt_size q
    have D := draws_lri (prog := X.prog) (w := X.w) (A := X.A.in1) (I.ok.hd hc) it a hai (items := its.toArray)
    rw [← hlen] at hit
    refine wpAny_pyNext_enum_itemD D he ⟨by omega, hit, p.isList⟩ (by omega) hne (by simp [hne, Ne.symm hae]) fun x h' tk hP ho st' hT hsz' hk => ?_
    refine ⟨_, rfl, wpAny_letOwnedTupleGo_enum (s := { s with heap := h', toks := tk + 1 }) ho fun h'' he' sb => ?_⟩
    have hT2 : h''.get? s.heap.objs.size = some { cls := .type "tuple", data := .seq #[.int i tk, x] } := (sb.2 _ (Nat.ne_of_gt hel)).trans hT
    have hP' : its[n - 1 - i]? = some x := by
      have h1 : its.toArray[its.toArray.size - 1 - i]? = some x := hP
      rw [hlen] at h1
      simpa using h1
    obtain ⟨v, hv, rk⟩ : ∃ v, xs[n - 1 - i]? = some v ∧ RelV v x := by
      have hlt : n - 1 - i < xs.length := by omega
      obtain ⟨u, hu, ru⟩ := rv.get (List.getElem?_eq_getElem hlt)
      rw [hP'] at hu
      cases hu
      exact ⟨_, List.getElem?_eq_getElem hlt, ru⟩
    have new : ObjOk X.prog X.w (upd H s.heap.objs.size (.tup [.int (i : Nat), v])) h'' s.heap.objs.size (.tup [.int (i : Nat), v]) :=
      ⟨by show 2 ≤ sizeLine; decide, [.int i tk, x], .cons ⟨_, rfl⟩ (.cons rk .nil), ⟨_, hT2, rfl, _, rfl⟩⟩
    have I1 : Inv X pins σ (upd H s.heap.objs.size (.tup [.int (i : Nat), v])) { s with heap := h'', toks := tk + 1 } :=
      I.turnedNew (ch := [e, it]) (fun b ob hb q => (sb.2 b (fun z => hb (by simp [z]))).trans (hk b ob (fun z => hb (by simp [z])) (fun z => hb (by simp [z])) q)) hf (Nat.le_refl _) new
    refine ⟨.ref s.heap.objs.size, _, I1, rfl, ⟨_, v, rfl, I.hok.fresh (Nat.le_refl _), rfl, fun ys hy => by rw [I.list_inj hy hq]; exact hv⟩, ⟨⟨x, ?_⟩, ?_, hne, by omega⟩, fun b hb => ?_⟩
    · have e1 : ((i + 1 : Nat) : Int) = (i : Int) + 1 := by omega
      rw [e1]; exact he'
    · rw [← hlen]
      exact st'.2.1.at fun o q => (sb.2 it (Ne.symm hne)).trans q
    · have hb' : b < s.heap.objs.size := by
        rcases (show b = e ∨ b = it by simpa using hb) with z | z
        · rw [z]; exact hel
        · rw [z]; exact hil
      rw [upd_ne (Nat.ne_of_lt hb')]
      exact (hf b hb).1
  done := by
    intro X hP hw hK hc i pins s σ H E I hf st hg
    subst hP hw hK
    obtain ⟨⟨old, he⟩, hit, hne, hle⟩ := st
    obtain ⟨hi, xs, hq, hxl⟩ := hg
    obtain ⟨its, rv, p, hz⟩ := I.list hq
    have hlen : its.toArray.size = n := by rw [List.size_toArray, ← rv.length, hxl]
    obtain ⟨f0, f1, f2, f3, f4, f5⟩ := hf it (by simp)
    have D := draws_lri (prog := X.prog) (w := X.w) (A := X.A.in1) (I.ok.hd hc) it a hai (items := its.toArray)
    have ei : i = its.toArray.size := by omega
    rw [← hlen, ei] at hit
    rw [ei] at he
    exact wpAny_pyNext_enum_endD D he ⟨Nat.le_refl _, hit, p.isList⟩ fun h' eb => ⟨rfl, I.turned (t' := s.toks) (fun b o hb q => eb b o hb q) f0 f1 f3 f4 f5⟩
  self := fun A i s Q E st h => let ⟨⟨_, he⟩, _⟩ := st; wpAny_pyIter_enum he h
/-- enumerate(reversed(x)), x a tuple or a list -/
def iEnumR (K : PySem.W.Frag) (te : TE) : TI := fun σ H R => te σ H fun v H1 => ∃ (a : Addr) (xs : List V), v = .ref a ∧ ((SqL K H1 a xs ∧ R (ItEL K a xs.length) H1) ∨ (SqT K H1 a xs ∧ R (ItER K a xs.length) H1))
theorem pi_enumR {X : Cx} {e : Expr} {te : TE} {p pos p2 pos2 tpos : Pos} {elts : List Expr} {kk : Nat} (hg : Gl X "enumerate") (hm : X.mg "enumerate" = none) (hg2 : Gl X "reversed") (hm2 : X.mg "reversed" = none) (he : PE X e te)
    (hs2 : starEach [e] X.env = (false, eval e X.env) :: starEach [] X.env := by rfl) (hs : starEach [.Call (.Name "reversed" p2) [e] [] pos2] X.env = (false, eval (.Call (.Name "reversed" p2) [e] [] pos2) X.env) :: starEach [] X.env := by rfl) :
    PI X (.Tuple elts kk tpos) (.Call (.Name "enumerate" p) [.Call (.Name "reversed" p2) [e] [] pos2] [] pos) (iEnumR X.K te) := by
  refine ⟨fun pins s σ H R I h => ?_⟩
  refine Call_ (ld_blt I hg hm boot_enumerate (PyProof.Rows.callWith_type1 (args_cons (Call_ (ld_blt I hg2 hm2 PyProof.Rows.boot_reversed (PyProof.Rows.callWith_type1 (args_cons (thn (he.run pins s σ H _ I h) fun u s1 ⟨v, H1, I1, r1, q1⟩ => args_nil ?_) hs2) hs2 rfl))) hs) hs rfl))
  obtain ⟨a, xs, ev, q⟩ := q1
  subst ev
  obtain rfl : u = Value.ref a := r1
  rcases q with ⟨hq, q⟩ | ⟨hq, q⟩
  · obtain ⟨its, rv, p', hz⟩ := I1.list hq
    have hl := rv.length
    have e1 : ((its.toArray.size : Nat) : Int) - 1 = (xs.length : Int) - 1 - ((0 : Nat) : Int) := by simp only [List.size_toArray]; omega
    have hal : a < s1.heap.objs.size := by obtain ⟨o, ho, _⟩ := p'.isList; exact Heap.lt_size ho
    refine call_reversed_list p'.isList (args_nil (call_enum_it (o := revObj a ((its.toArray.size : Int) - 1)) (fun _ _ _ _ _ _ ho q => wpAny_pyIter_revIter ⟨_, ho, rfl, rfl⟩ q) (Heap.get?_push_size _ rfl) fun h' hen hk => wpAny_pyIter_enum hen ?_))
    have hsz : (s1.heap.push (revObj a ((its.toArray.size : Int) - 1))).objs.size = s1.heap.objs.size + 1 := Heap.size_push ..
    have I2 : Inv X pins σ H1 { s1 with heap := h' } := I1.kept (t' := s1.toks) fun b o q => hk b o (Heap.get?_push_of_some _ q)
    have hr := hk _ _ (Heap.get?_push_size (h := s1.heap) (o := revObj a ((its.toArray.size : Int) - 1)) rfl)
    rw [e1] at hr
    have hen' : IsEnum h' (s1.heap.objs.size + 1) s1.heap.objs.size 0 .none := by rw [← hsz]; exact hen
    show PIE X pins σ _ R (.ref (s1.heap.push (revObj a ((its.toArray.size : Int) - 1))).objs.size) _
    rw [hsz]
    refine ⟨s1.heap.objs.size + 1, [s1.heap.objs.size + 1, s1.heap.objs.size], _, _, H1, rfl, I2, turn_el (a := a) (n := xs.length) (s1.heap.objs.size + 1) s1.heap.objs.size (Nat.ne_of_lt hal) (Nat.ne_of_lt (Nat.lt_succ_of_lt hal)), ⟨⟨.none, hen'⟩, ⟨_, hr, rfl, rfl⟩, Nat.succ_ne_self _, Nat.zero_le _⟩, fun b hb => ?_, q⟩
    have hle : s1.heap.objs.size ≤ b := by
      rcases (show b = s1.heap.objs.size + 1 ∨ b = s1.heap.objs.size by simpa using hb) with z | z
      · rw [z]; exact Nat.le_add_right _ _
      · rw [z]; exact Nat.le_refl _
    exact I1.fpOk hle (I1.hok.fresh hle)
  · obtain ⟨its, rv, p', hz⟩ := I1.tuple hq
    have hl := rv.length
    have hn := line63
    have e1 : ((its.toArray.size : Nat) : Int) - 1 = (xs.length : Int) - 1 - ((0 : Nat) : Int) := by simp only [List.size_toArray]; omega
    have hal : a < s1.heap.objs.size := by obtain ⟨o, ho, _⟩ := p'; exact Heap.lt_size ho
    refine call_reversed_tup p' (fun A E Q k => len_tuple p' (by simp only [List.size_toArray] <;> omega) k) (args_nil (call_enum_it (o := rtObj a ((its.toArray.size : Int) - 1)) (fun _ _ _ _ _ _ ho q => iter_rt ⟨_, ho, rfl, rfl⟩ q) (Heap.get?_push_size _ rfl) fun h' hen hk => wpAny_pyIter_enum hen ?_))
    have hsz : (s1.heap.push (rtObj a ((its.toArray.size : Int) - 1))).objs.size = s1.heap.objs.size + 1 := Heap.size_push ..
    have I2 : Inv X pins σ H1 { s1 with heap := h', toks := s1.toks + 1 + 1 } := I1.kept (t' := s1.toks + 1 + 1) fun b o q => hk b o (Heap.get?_push_of_some _ q)
    have hr := hk _ _ (Heap.get?_push_size (h := s1.heap) (o := rtObj a ((its.toArray.size : Int) - 1)) rfl)
    rw [e1] at hr
    have hen' : IsEnum h' (s1.heap.objs.size + 1) s1.heap.objs.size 0 .none := by rw [← hsz]; exact hen
    show PIE X pins σ _ R (.ref (s1.heap.push (rtObj a ((its.toArray.size : Int) - 1))).objs.size) _
    rw [hsz]
    refine ⟨s1.heap.objs.size + 1, [s1.heap.objs.size + 1, s1.heap.objs.size], _, _, H1, rfl, I2, turn_er (a := a) (n := xs.length) (s1.heap.objs.size + 1) s1.heap.objs.size (Nat.ne_of_lt hal) (Nat.ne_of_lt (Nat.lt_succ_of_lt hal)), ⟨⟨.none, hen'⟩, ⟨_, hr, rfl, rfl⟩, Nat.succ_ne_self _, Nat.zero_le _⟩, fun b hb => ?_, q⟩
    have hle : s1.heap.objs.size ≤ b := by
      rcases (show b = s1.heap.objs.size + 1 ∨ b = s1.heap.objs.size by simpa using hb) with z | z
      · rw [z]; exact Nat.le_add_right _ _
      · rw [z]; exact Nat.le_refl _
    exact I1.fpOk hle (I1.hok.fresh hle)
theorem walk_er {K : PySem.W.Frag} {a : Addr} {xs : List V} : Walk (ItER K a xs.length) xs.length (fun H => SqT K H a xs) (YPair (fun i => some (.int (i : Nat))) (fun i => xs[xs.length - 1 - i]?)) := by
  refine ⟨fun i H hi q => ⟨hi, xs, q, rfl⟩, fun H q => ⟨Nat.le_refl _, xs, q, rfl⟩, fun i H v H' _ q y => ?_⟩
  obtain ⟨T, x, h1, h2, h3, h4⟩ := y
  exact ⟨T, .int (i : Nat), x, h1, h2, h3, rfl, h4 xs q⟩
theorem walk_el {K : PySem.W.Frag} {a : Addr} {xs : List V} : Walk (ItEL K a xs.length) xs.length (fun H => SqL K H a xs) (YPair (fun i => some (.int (i : Nat))) (fun i => xs[xs.length - 1 - i]?)) := by
  refine ⟨fun i H hi q => ⟨hi, xs, q, rfl⟩, fun H q => ⟨Nat.le_refl _, xs, q, rfl⟩, fun i H v H' _ q y => ?_⟩
  obtain ⟨T, x, h1, h2, h3, h4⟩ := y
  exact ⟨T, .int (i : Nat), x, h1, h2, h3, rfl, h4 xs q⟩
end HV
namespace HS
open PySem PySem.Spec PyProof.Rows L2 LamX
/-! ## sorted(xs, key=lambda x: body) -/
section
variable {K : PySem.W.Frag} {H H' : Hp}
mutual
theorem dp_ext (e : Ext H H') : ∀ (d : PyData) (v : V), Dp K H v d → Dp K H' v d
  | .none, _, h => by cases h; exact .non
  | .bool b, _, h => by cases h; exact .bl b
  | .int i, _, h => by cases h; exact .int i
  | .str x, _, h => by cases h; exact .str x
  | .list ds, _, h => by
    cases h with
    | lst h1 h2 => exact .lst (h1.ext e) (dpAll_ext e ds _ h2)
  | .tuple ds, _, h => by
    cases h with
    | tup h1 h2 => exact .tup (h1.ext e) (dpAll_ext e ds _ h2)
  | .dict _, _, h => by cases h
theorem dpAll_ext (e : Ext H H') : ∀ (ds : List PyData) (vs : List V), DpAll K H vs ds → DpAll K H' vs ds
  | [], _, h => by cases h; exact .nil
  | d :: ds, _, h => by
    cases h with
    | cons h1 h2 => exact .cons (dp_ext e d _ h1) (dpAll_ext e ds _ h2)
end
theorem dpAll_len : ∀ (ds : List PyData) (vs : List V), DpAll K H vs ds → vs.length = ds.length
  | [], _, h => by cases h; rfl
  | d :: ds, _, h => by
    cases h with
    | cons h1 h2 => rw [List.length_cons, List.length_cons, dpAll_len ds _ h2]
theorem DpAll.snoc : ∀ {vs : List V} {ds : List PyData} {v : V} {d : PyData}, DpAll K H vs ds → Dp K H v d → DpAll K H (vs ++ [v]) (ds ++ [d])
  | [], _, v, d, h, q => by cases h; exact .cons q .nil
  | _ :: _, _, v, d, h, q => by
    cases h with
    | cons h1 h2 => exact .cons h1 (DpAll.snoc h2 q)
end
section
variable {X : Cx} {pins : List (Addr × Obj)} {σ : L2.St} {H : Hp} {s : Shared}
theorem dp_each (I : Inv X pins σ H s) : ∀ {vs : List V} {ds : List PyData} {us : List Value}, DpAll X.K H vs ds → Vals vs us → PySem.W.EachIs (fun v d => ∃ as, Reads s.heap v d as) us ds
  | _, _, _, .nil, r => by cases r; exact .nil
  | _, _, _, .cons h1 h2, r => by
    cases r with
    | cons r1 r2 => exact .cons (Dp.reads I _ _ _ h1 r1) (dp_each I h2 r2)
end
/-- a lambda called with values -/
theorem lam_run {CX : CXT} {P : Program} {w : World} {K : PySem.W.Frag} {mg : Str → Option Value} {base : Heap} {k : Nat} {f c' : Addr} {q : Str} {params : Arguments} {body : Expr} {scope : Scope} {pm ctv : Value} {N ps : List Str} (S : FnScope N ps scope)
    {A : Around} {outer : List Env} {s : Shared} {H : Hp} {us : List Value} {vs : List V} {Q : VK} {E : XK} (hr : Room (k + 1) A) (e0 : Env0 P w K mg base A outer s H) (hf : s.heap.get? f = some (PySem.W.kla_obj "<lambda>" q params body scope [] pm c' ctv)) (hc : H c' = some (CodeO c' q))
    (hb : bindArgs (PySem.W.kla_fn "<lambda>" q params body scope [] pm (.ref c') ctv) ⟨us, []⟩ = pure (ps.zip us)) (r : Vals vs us) (hl : vs.length = ps.length)
    (hbody : Room k (A.deeper (envOfC q scope s.heap.objs.size f (.ref c'))) → ∃ t, PE (cxOf CX P w K mg base N q scope f (.ref c') A outer s H E) body t ∧ t (L2.start N vs) H Q) :
    codeAny (model P w) A (.call (.ref f) ⟨us, []⟩) (CR CX outer P w H s Q E) s := by
  have lim : s.heap.NoLimit := e0.mod.nolimit.keeps fun b o e => (e0.bs b o e).1
  have hkind : ∀ y ∈ ps.zip us, scope.names.lookup y.1 = some .local ∨ (scope.names.lookup y.1 = some .cell ∧ ((cellsFrom (s.heap.objs.size + 1) scope.names []).lookup y.1).isSome = true) := fun ⟨n, v⟩ hy => by
    rcases S.par n (List.of_mem_zip hy).1 with q | q
    · exact .inl q
    · exact .inr ⟨q, PySem.W.cellsFrom_some _ _ _ (.inl q)⟩
  obtain ⟨⟨oc, xs, t, hoc, hdc, hvc⟩, _, _⟩ := e0.hok c' _ hc
  refine PySem.W.kla_callFunE hr.depth hf rfl S.co S.gen rfl ⟨c', oc, xs, t, rfl, hoc, hdc, hvc⟩ ?_
  rw [hb]
  refine wpAny_pure (wpAny_newFunctionEnv_cells S.kind hkind fun env he s1 x => ?_)
  subst he
  refine ⟨lim.keeps x.toInCall.keep, ?_⟩
  obtain ⟨t, ht, hq⟩ := hbody (hr.deeper _)
  have I : Inv (cxOf CX P w K mg base N q scope f (.ref c') A outer s H E) [] (L2.start N vs) H s1 := inv_start S hr.hd e0 hl r x
  refine PySem.W.kla_codeExpr (wpAny_mono (ht.run [] s1 (L2.start N vs) H Q I hq) (fun v s' hs => ?_) fun e s' hs => hs)
  obtain ⟨v', H', J, rv, q'⟩ := hs
  exact ⟨v', H', J.os, J.bare, J.base, J.hok, rv, q'⟩
section
variable {X : Cx} {pins : List (Addr × Obj)} {σ : L2.St} {H : Hp} {s : Shared}
/-- an untracked record of ours, pinned, is written -/
theorem turnedPin {h' : Heap} {t' : Nat} {it : Addr} {o o' : Obj} (I : Inv X ((it, o) :: pins) σ H s) (hs : X.s_0.heap.objs.size ≤ it) (hc : ∀ x c, X.env.cells.lookup x = some c → c ≠ it) (hp : ∀ p ∈ X.pn ++ pins, p.1 ≠ it)
    (k : ∀ b u, b ≠ it → s.heap.get? b = some u → h'.get? b = some u) (ho : h'.get? it = some o') (hd : ∀ v, o'.data ≠ .cell v) : Inv X ((it, o') :: pins) σ H { s with heap := h', toks := t' } := by
  obtain ⟨e, n, nl, nf, _⟩ := I.pin (it, o) (List.mem_append_right _ List.mem_cons_self)
  have I1 : Inv X pins σ H s := I.pins_of fun r hr => I.pin r (List.mem_append_right _ (List.mem_cons_of_mem _ hr))
  have I2 : Inv X pins σ H { s with heap := h', toks := t' } := I1.turned (it := it) k n nl (.inr hs) hc hp
  refine I2.pins_of fun p hm => ?_
  rcases List.mem_cons.mp hm with z | z
  · rw [z]
    exact ⟨ho, n, nl, nf, hd⟩
  · exact I2.pin p (List.mem_append_right _ z)
/-- the list at a and the keys' list at kS end: a is tracked from now on -/
theorem laidEnd {h' : Heap} {t' : Nat} {a kS : Addr} {oa ok : Obj} {zs : List V} {out : List Value} {c : Nat} (I : Inv X ((kS, ok) :: (a, oa) :: pins) σ H s) (hka : kS ≠ a) (ha : X.s_0.heap.objs.size ≤ a) (hk : X.s_0.heap.objs.size ≤ kS)
    (hca : ∀ x c, X.env.cells.lookup x = some c → c ≠ a ∧ c ≠ kS) (hp : ∀ p ∈ X.pn ++ pins, p.1 ≠ a ∧ p.1 ≠ kS) (k : ∀ b u, b ≠ a → b ≠ kS → s.heap.get? b = some u → h'.get? b = some u)
    (ho : h'.get? a = some (seqObj "list" out.toArray c)) (r : Vals zs out) (hz : zs.length ≤ sizeLine) : Inv X pins σ (upd H a (.lst zs)) { s with heap := h', toks := t' } := by
  obtain ⟨ek, nk, kl, kf, _⟩ := I.pin (kS, ok) (List.mem_append_right _ List.mem_cons_self)
  obtain ⟨ea, na, al, af, _⟩ := I.pin (a, oa) (List.mem_append_right _ (List.mem_cons_of_mem _ List.mem_cons_self))
  have ek : s.heap.get? kS = some ok := ek
  have ea : s.heap.get? a = some oa := ea
  have nk : H kS = none := nk
  have na : H a = none := na
  have I1 : Inv X pins σ H s := I.pins_of fun r hr => I.pin r (List.mem_append_right _ (List.mem_cons_of_mem _ (List.mem_cons_of_mem _ hr)))
  have nit : ∀ b u, H b = some u → b ≠ a ∧ b ≠ kS := fun b u e => ⟨fun z => (by rw [z, na] at e; cases e), fun z => (by rw [z, nk] at e; cases e)⟩
  have kc : ∀ b o, b ∉ [a, kS] → s.heap.get? b = some o → h'.get? b = some o := fun b o hb e => k b o (fun z => hb (by simp [z])) (fun z => hb (by simp [z])) e
  refine I1.step (g' := s.gens) (d' := s.drawn) (ch := [a, kS]) (fun b hb => ?_) (fun b o _ _ hb e _ => kc b o hb e) (fun b o _ _ hb e _ => ⟨o.slots, kc b o hb e⟩) (fun b o hb e n => ?_) (fun b o hb e => ⟨o, kc b o hb e⟩) (fun b xs e => ?_) (fun b o u e => ?_) (fun b ps e => ⟨#[], ?_⟩) (fun m hm => ?_) (fun b u e => ?_) I1.bare
  · rcases List.mem_cons.mp hb with z | z
    · rw [z]
      exact ⟨.inr ha, al, fun x c e => (hca x c e).1, fun p hm => (hp p hm).1⟩
    · have z : b = kS := by simpa using z
      rw [z]
      exact ⟨.inr hk, kl, fun x c e => (hca x c e).2, fun p hm => (hp p hm).2⟩
  · rw [upd_ne (fun z => hb (by simp [z]))]
    exact n
  · rw [upd_ne (nit b _ e).1]
    exact e
  · rw [upd_ne (nit b _ e).1]
    exact e
  · rw [upd_ne (nit b _ e).1, e]
    simp
  · obtain ⟨o, es, ep, ho, r⟩ := hm
    exact ⟨o, es, ep, k _ o (Ne.symm al) (Ne.symm kl) ho, r⟩
  · by_cases hb : b = a
    · rw [hb, upd_same] at e
      cases e
      rw [hb]
      exact ⟨hz, out, c, r, ho⟩
    · rw [upd_ne hb] at e
      refine (I1.hok b u e).stay (fun d v hd q => ?_) (fun d q => by rw [upd_ne (nit d _ q).1]; exact q) fun d xs q => by rw [upd_ne (nit d _ q).1]; exact q
      rcases hd with z | z
      · rw [z] at q ⊢
        exact k b v (nit b u e).1 (nit b u e).2 q
      · exact k d v (nit d _ z).1 (nit d _ z).2 q
end
section
variable {X : Cx} {pins : List (Addr × Obj)} {σ : L2.St} {H : Hp} {s : Shared}
theorem SortsAt_data_of {prog : Program} {w : World} {A : Around} {s : Shared} {vs : List Value} {ds : List PyData} (e : PySem.W.EachIs (fun v d => ∃ as, Reads s.heap v d as) vs ds) (hal : PySem.W.AllAlike ds) (hk : PySem.W.Sortable ds) (hu : ∀ d, d ∈ ds → A.units + d.depth < cLine) :
    PySem.W.SortsAt prog w A s (PySem.W.dataKind s.heap ds) vs := PySem.W.SortsAt.data e hal hk hu
/-- the items in the order of their keys -/
noncomputable def byKey (xs : List V) (ds : List PyData) : List V := ((xs.zip ds).mergeSort (PySem.W.dataLe false Prod.snd)).map Prod.fst
theorem zip_each : ∀ {xs : List V} {its : List Value} (ds : List PyData), Vals xs its → ds.length = xs.length → PySem.W.EachIs (fun (u : Value) (b : V × PyData) => RelV b.1 u) its (xs.zip ds)
  | [], _, ds, h, _ => by cases h; exact .nil
  | x :: xs, _, [], h, e => by cases e
  | x :: xs, _, d :: ds, h, e => by
    cases h with
    | cons h1 h2 => exact .cons h1 (zip_each ds h2 (by simpa using e))
theorem each_vals : ∀ {bs : List (V × PyData)} {us : List Value}, PySem.W.EachIs (fun (u : Value) (b : V × PyData) => RelV b.1 u) us bs → Vals (bs.map Prod.fst) us
  | _, _, .nil => .nil
  | _, _, .cons h t => .cons h (each_vals t)
theorem zip_snd : ∀ (xs : List V) (ds : List PyData), ds.length = xs.length → (xs.zip ds).map Prod.snd = ds
  | [], ds, h => by
    cases ds with
    | nil => rfl
    | cons d ds => cases h
  | x :: xs, [], h => by cases h
  | x :: xs, d :: ds, h => by
    show d :: (xs.zip ds).map Prod.snd = d :: ds
    rw [zip_snd xs ds (by simpa using h)]
theorem vals_snoc {vs : List V} {us : List Value} {v : V} {u : Value} (r : Vals vs us) (q : RelV v u) : Vals (vs ++ [v]) (us ++ [u]) := by
  induction r with
  | nil => exact .cons q .nil
  | cons h _ ih => exact .cons h ih
/-- the sort by a key of the list at a, which is new since s0 -/
theorem sort_body {s0 : Shared} {H0 : Hp} {a f : Addr} {fo : Obj} {xs : List V} {its : List Value} {ds : List PyData} {P0 : Hp → Prop} {Q : VK} {E' : Value → Shared → Prop} (I0 : Inv X pins σ H0 s0) (h0a : s0.heap.objs.size ≤ a) (hf0 : ∃ o, s0.heap.get? f = some o) (I : Inv X pins σ H s) (rv : Vals xs its) (hz : xs.length ≤ sizeLine)
    (ho : s.heap.get? a = some (seqObj "list" its.toArray 0)) (hna : H a = none) (hf : s.heap.get? f = some fo) (hfn : H f = none) (hfr : f ≠ X.env.locals ∧ f ∉ X.fs) (hfc : ∀ v, fo.data ≠ .cell v)
    (hal : PySem.W.AllAlike ds) (hk : PySem.W.Sortable ds) (hlen : ds.length = xs.length) (hu : ∀ d, d ∈ ds → X.A.units + 2 + d.depth < cLine) (p0 : P0 H)
    (turn : ∀ (i : Nat) (v : V) (u : Value) (d : PyData) (s' : Shared) (H' : Hp), xs[i]? = some v → ds[i]? = some d → RelV v u → Env0 X.prog X.w X.K X.mg X.base X.A.in1.in1 X.stack s' H' → s'.heap.get? f = some fo → Ext H H' → P0 H' →
      wpAny (model X.prog X.w) X.A.in1.in1 (call (.ref f) [u]) (CE X.stack X.prog X.w H' s' (fun kv H'' => Dp X.K H'' kv d ∧ Ext H' H'' ∧ P0 H'')) (fun _ _ => False) s')
    (q : ∀ (H' : Hp), Ext H H' → P0 H' → H' a = none → Q (.ref a) (upd H' a (.lst (byKey xs ds)))) :
    wpAny (model X.prog X.w) X.A.in1.in1 (Builtin.«list.sort» ⟨[.ref a], [(Str.ofString "key", .ref f)]⟩) (fun f s' => f = .done (.ret .none) ∧ EP X pins σ Q (.ref a) s') E' s := by
  have hzi : its.length ≤ sizeLine := by rw [← rv.length]; exact hz
  have hil : its.length = xs.length := rv.length.symm
  rw [PyProof.Rows.ksk_t1]
  have ha : @LT.lt Nat _ a s.heap.objs.size := Heap.lt_size ho
  obtain ⟨e1, ho1⟩ : ∃ e1, (s.heap.update a (Obj.mapSeq fun _ => (#[] : Array Value))).get? a = some (seqObj "list" #[] e1) := ⟨_, get?_update_seq ho fun _ => #[]⟩
  unfold PyProof.Rows.ksk_tree
  refine wpAny_bind (listItems_at ho rfl ?_)
  refine wpAny_bind (listUpdate_at ho rfl ?_ (by rw [List.size_toArray]; exact hzi) (Nat.zero_le _))
  refine wpAny_bind (seqEpoch_at ho1 rfl ?_)
  refine wpAny_bind (wpAny_newTuple ?_ (by show its.length ≤ _; exact hzi))
  refine wpAny_bind (wpAny_newList ?_ (Nat.zero_le _))
  refine wpAny_holding ?_
  have hkS : (s.heap.update a (Obj.mapSeq fun _ => (#[] : Array Value))).objs.size = s.heap.objs.size := Heap.size_update _ _ _
  generalize hks : ((s.heap.update a (Obj.mapSeq fun _ => (#[] : Array Value))).push (seqObj "tuple" its.toArray 0)).objs.size = kS
  have hka : @LT.lt Nat _ a kS := by
    rw [← hks, size_push', hkS]
    omega
  have hsk0 : s.heap.objs.size < kS := by rw [← hks, size_push', hkS]; exact Nat.lt_succ_self _
  generalize hg : (((s.heap.update a (Obj.mapSeq fun _ => (#[] : Array Value))).push (seqObj "tuple" its.toArray 0)).push (seqObj "list" #[] 0)) = h₂
  have g1 : h₂.get? kS = some (seqObj "list" #[] 0) := by rw [← hg, ← hks]; exact Heap.get?_push_size _ rfl
  have g2 : h₂.get? a = some (seqObj "list" #[] e1) := by rw [← hg]; exact Heap.get?_push_of_some _ (Heap.get?_push_of_some _ ho1)
  have g3 : ∀ b o, b ≠ a → s.heap.get? b = some o → h₂.get? b = some o := fun b o hb e => by
    rw [← hg]
    refine Heap.get?_push_of_some _ (Heap.get?_push_of_some _ ?_)
    rw [Heap.get?_update_ne _ _ _ _ hb]
    exact e
  have hcl : ∀ x c, X.env.cells.lookup x = some c → @LT.lt Nat _ c s0.heap.objs.size := fun x c e => by
    obtain ⟨v, o, z, _⟩ := I0.cell x c e
    exact Heap.lt_size z
  have hpl : ∀ p ∈ X.pn ++ pins, @LT.lt Nat _ p.1 s0.heap.objs.size := fun p hp => Heap.lt_size (I0.pin p hp).1
  have hfl : @LT.lt Nat _ f s0.heap.objs.size := Heap.lt_size hf0.choose_spec
  have hsz : X.s_0.heap.objs.size ≤ s0.heap.objs.size := I0.sz
  have hll : @LT.lt Nat _ X.env.locals s0.heap.objs.size := I0.lt
  have hcS : ∀ x c, X.env.cells.lookup x = some c → c ≠ a ∧ c ≠ kS := fun x c e => by
    have := hcl x c e
    exact ⟨Nat.ne_of_lt (by omega), Nat.ne_of_lt (by omega)⟩
  have hpS : ∀ p ∈ X.pn ++ ((f, fo) :: pins), p.1 ≠ a ∧ p.1 ≠ kS := fun p hp => by
    have : @LT.lt Nat _ p.1 s0.heap.objs.size := by
      rcases List.mem_append.mp hp with z | z
      · exact hpl p (List.mem_append_left _ z)
      · rcases List.mem_cons.mp z with z | z
        · rw [z]
          exact hfl
        · exact hpl p (List.mem_append_right _ z)
    exact ⟨Nat.ne_of_lt (by omega), Nat.ne_of_lt (by omega)⟩
  have J0 : Inv X pins σ H { s with heap := h₂ } := I.turned (it := a) (t' := s.toks) g3 hna (Nat.ne_of_gt (by omega)) (.inr (by omega)) (fun x c e => (hcS x c e).1) (fun p hp => (hpS p (by
    rcases List.mem_append.mp hp with z | z
    · exact List.mem_append_left _ z
    · exact List.mem_append_right _ (List.mem_cons_of_mem _ z))).1)
  have J1 : Inv X ((kS, seqObj "list" #[] 0) :: (a, seqObj "list" #[] e1) :: (f, fo) :: pins) σ H { s with heap := h₂ } := by
    refine J0.pins_of fun p hp => ?_
    rcases List.mem_cons.mp hp with z | hp
    · rw [z]
      exact ⟨g1, I.hok.fresh (Nat.le_of_lt hsk0), Nat.ne_of_gt (by omega), I.nofs (Nat.le_of_lt hsk0), fun v z => by cases z⟩
    rcases List.mem_cons.mp hp with z | hp
    · rw [z]
      exact ⟨g2, hna, Nat.ne_of_gt (by omega), I0.nofs h0a, fun v z => by cases z⟩
    rcases List.mem_cons.mp hp with z | hp
    · rw [z]
      exact ⟨g3 _ _ (Nat.ne_of_lt (by omega)) hf, hfn, hfr.1, hfr.2, hfc⟩
    · exact J0.pin p (List.mem_append_right _ hp)
  unfold PyProof.Rows.ksk_rest
  refine wpAny_bind (wpAny_rule ?_)
  rw [List.forIn_toArray]
  refine wpAny_bind (ksk_fold (fun i s' => ∃ H' kA e kvs, Inv X ((kS, seqObj "list" kA e) :: (a, seqObj "list" #[] e1) :: (f, fo) :: pins) σ H' s' ∧ Ext H H' ∧ P0 H' ∧ Vals kvs kA.toList ∧ DpAll X.K H' kvs (ds.take i)) its 0 _
    ⟨H, #[], 0, [], J1, Ext.rfl', p0, .nil, by rw [List.take_zero]; exact .nil⟩ ?step ?done)
  case step =>
    rintro j u s' hx ⟨H', kA, e, kvs, J, eH, hp0, rk, hD⟩
    simp only [Nat.zero_add] at hD ⊢
    have hj : j < its.length := (List.getElem?_eq_some_iff.mp hx).1
    obtain ⟨d, hdj⟩ : ∃ d, ds[j]? = some d := ⟨_, List.getElem?_eq_getElem (by omega)⟩
    obtain ⟨v, hvj⟩ : ∃ v, xs[j]? = some v := ⟨_, List.getElem?_eq_getElem (by omega)⟩
    have ruv : RelV v u := by
      obtain ⟨u2, h1, h2⟩ := rv.get hvj
      rw [hx] at h1
      rw [Option.some.inj h1]
      exact h2
    have hfs : s'.heap.get? f = some fo := (J.pin (f, fo) (List.mem_append_right _ (List.mem_cons_of_mem _ (List.mem_cons_of_mem _ List.mem_cons_self)))).1
    refine wpAny_bind (wpAny_attempt (wpAny_mono (turn j v u d s' H' hvj hdj ruv J.env0.in1.in1 hfs eH hp0) (fun w s'' he => ?_) fun _ _ hF => hF.elim))
    obtain ⟨kv, H'', J2, rw_, hd2, e2, p2⟩ := J.after he
    try dsimp only
    have n1 : s''.heap.get? kS = some (seqObj "list" kA e) := (J2.pin _ (List.mem_append_right _ List.mem_cons_self)).1
    obtain ⟨c2, hc2⟩ : ∃ c2, (s''.heap.update kS (Obj.mapSeq (·.push w))).get? kS = some (seqObj "list" (kA.push w) c2) := ⟨_, get?_update_seq n1 (·.push w)⟩
    have hlk : kA.size ≤ its.length := by
      have h1 : kvs.length = kA.size := by rw [← Array.length_toList]; exact rk.length
      have h2 : kvs.length = (ds.take j).length := dpAll_len _ _ hD
      rw [List.length_take] at h2
      omega
    refine wpAny_bind (listUpdate_at n1 rfl ?_ (Nat.le_trans hlk hzi) (Nat.le_trans (Nat.le_of_eq (Array.size_push ..)) (Nat.succ_le_succ (Nat.le_trans hlk hzi))))
    have s1 := Heap.SameBut.update s''.heap kS (Obj.mapSeq (·.push w))
    have ek : ds.take (j + 1) = ds.take j ++ [d] := by rw [List.take_add_one, hdj]; simp
    refine wpAny_pure ⟨rfl, H'', kA.push w, c2, kvs ++ [kv], ?_, eH.trans e2, p2, by rw [Array.toList_push]; exact vals_snoc rk rw_, by rw [ek]; exact DpAll.snoc (dpAll_ext e2 _ _ hD) hd2⟩
    exact turnedPin (t' := s''.toks) J2 (by omega) (fun x c e => (hcS x c e).2) (fun p hp => by
      rcases List.mem_append.mp hp with z | z
      · exact (hpS p (List.mem_append_left _ z)).2
      · rcases List.mem_cons.mp z with z | z
        · rw [z]
          exact Nat.ne_of_lt hka
        · exact (hpS p (List.mem_append_right _ z)).2) (fun b o hb e => (s1.2 b hb).trans e) hc2 (fun v z => by cases z)
  case done =>
    rintro s' ⟨H', kA, e, kvs, J, eH, hp0, rk, hD⟩
    have e3 : ds.take (0 + its.length) = ds := List.take_of_length_le (by omega)
    rw [e3] at hD
    have n1 : s'.heap.get? kS = some (seqObj "list" kA e) := (J.pin _ (List.mem_append_right _ List.mem_cons_self)).1
    have n2 : s'.heap.get? a = some (seqObj "list" #[] e1) := (J.pin (a, seqObj "list" #[] e1) (List.mem_append_right _ (List.mem_cons_of_mem _ List.mem_cons_self))).1
    have m2 : H' a = none := (J.pin (a, seqObj "list" #[] e1) (List.mem_append_right _ (List.mem_cons_of_mem _ List.mem_cons_self))).2.1
    have hE := dp_each J hD rk
    have hsz2 : kA.size = its.length := by
      have h1 := rk.length
      have h2 := hE.length
      rw [Array.length_toList] at h1 h2
      omega
    try dsimp only
    refine wpAny_bind (listItems_at n1 rfl ?_)
    obtain ⟨G, G1, G2⟩ := restrict s'.heap fun b => decide (b ≠ kS)
    have gk : ∀ b o, b ≠ kS → s'.heap.get? b = some o → G.get? b = some o := fun b o hb e => by
      rw [G1 b (decide_eq_true hb)]
      exact e
    have ga : G.get? kS = none := G2 kS (decide_eq_false fun z => z rfl)
    have gs : PySem.W.KeepsBut a G s'.heap := fun b o _ e => by
      by_cases hb : b = kS
      · rw [hb, ga] at e
        cases e
      · rw [← G1 b (decide_eq_true hb)]
        exact e
    have hcs := SortsAt_data_of (A := X.A.in1.in1) (prog := X.prog) (w := X.w) hE hal hk (fun d hd => by have := hu d hd; show X.A.units + 1 + 1 + d.depth < _; omega)
    refine PySem.W.keyH_end (κ := PySem.W.dataKind s'.heap ds) (h₁ := G) (vs := its) gs ga n1 n2 (Nat.ne_of_gt hka) hcs hsz2 hzi fun h3 tk3 c k3 n3 => ⟨rfl, ?_⟩
    have hzip := zip_each ds rv hlen
    have ko : PySem.W.KeyedOut false ((xs.zip ds).map Prod.snd) its (PySem.W.sortVals (PySem.W.dataKind s'.heap ds) false kA.toList its) := by
      rw [zip_snd xs ds hlen]
      exact ⟨s'.heap, kA.toList, hal, rfl, hE⟩
    have hout := each_vals (PySem.W.keyedOut_each Prod.snd ko hzip)
    have hlz : (byKey xs ds).length ≤ sizeLine := by
      show (List.map _ _).length ≤ _
      rw [List.length_map, List.length_mergeSort, List.length_zip]
      omega
    exact ⟨.ref a, upd H' a (.lst (byKey xs ds)), laidEnd (X := X) (pins := pins) (t' := tk3) (J.pins_of fun p hp => J.pin p (List.mem_append_right _ (by
        rcases List.mem_cons.mp hp with z | hp
        · rw [z]
          exact List.mem_cons_self
        rcases List.mem_cons.mp hp with z | hp
        · rw [z]
          exact List.mem_cons_of_mem _ List.mem_cons_self
        · exact List.mem_cons_of_mem _ (List.mem_cons_of_mem _ (List.mem_cons_of_mem _ hp))))) (Nat.ne_of_gt hka) (by omega) (by omega) hcS (fun p hp => by
          rcases List.mem_append.mp hp with z | z
          · exact hpS p (List.mem_append_left _ z)
          · exact hpS p (List.mem_append_right _ (List.mem_cons_of_mem _ z))) (fun b u h1 h2 e => k3 b u h1 (gk b u h2 e)) n3 hout hlz, rfl, q H' eH hp0 m2⟩
/-- sorted(xs, key=f): f is an object of ours, each of its calls is told -/
theorem sorted_run {l f : Addr} {fo : Obj} {xs : List V} {ds : List PyData} {P0 : Hp → Prop} {Q : VK} (I : Inv X pins σ H s) (hs : SqL X.K H l xs) (hf : s.heap.get? f = some fo) (hfn : H f = none) (hfr : f ≠ X.env.locals ∧ f ∉ X.fs) (hfc : ∀ v, fo.data ≠ .cell v)
    (hal : PySem.W.AllAlike ds) (hk : PySem.W.Sortable ds) (hlen : ds.length = xs.length) (hu : ∀ d, d ∈ ds → X.A.units + 2 + d.depth < cLine) (p0 : P0 H)
    (turn : ∀ (i : Nat) (v : V) (u : Value) (d : PyData) (s' : Shared) (H' : Hp), xs[i]? = some v → ds[i]? = some d → RelV v u → Env0 X.prog X.w X.K X.mg X.base X.A.in1.in1 X.stack s' H' → s'.heap.get? f = some fo → Ext H H' → P0 H' →
      wpAny (model X.prog X.w) X.A.in1.in1 (call (.ref f) [u]) (CE X.stack X.prog X.w H' s' (fun kv H'' => Dp X.K H'' kv d ∧ Ext H' H'' ∧ P0 H'')) (fun _ _ => False) s')
    (q : ∀ (H' : Hp) (p : Addr), Ext H H' → P0 H' → H' p = none → Q (.ref p) (upd H' p (.lst (byKey xs ds)))) :
    wpAny (model X.prog X.w) X.A (call (.builtin "sorted") [.ref l] [(Str.ofString "key", .ref f)]) (EP X pins σ Q) X.xe s := by
  obtain ⟨its, rv, hl, hz⟩ := I.list hs
  have hzi : its.length ≤ sizeLine := by rw [← rv.length]; exact hz
  have hil : its.length = xs.length := rv.length.symm
  refine PySem.W.sorted_of_sort hl.isList hzi (PyProof.Rows.ksk_s1 _ _) (fun _ => PyProof.Rows.ksk_l1 _ _) fun E' => ?_
  have hfl : @LT.lt Nat _ f s.heap.objs.size := Heap.lt_size hf
  exact sort_body (s := { s with heap := PySem.W.copyHeap s.heap its }) I (Nat.le_succ _) ⟨_, hf⟩ (I.kept (t' := s.toks) fun b o e => PySem.W.copyHeap_old e) rv hz (PySem.W.copyHeap_at s.heap its) (I.hok.fresh (Nat.le_succ _)) (PySem.W.copyHeap_old hf) hfn hfr hfc hal hk hlen hu p0 turn fun H' e1 e2 e3 => q H' _ e1 e2 e3
end
theorem sqL_extN {K : PySem.W.Frag} {H H' : Hp} {a : Addr} {xs : List V} (h : SqL K H a xs) (e : ExtN H H') : SqL K H' a xs :=
  h.elim (fun h => .inl (h.elim (fun h => .inl (e _ _ h fun _ z => nomatch z)) fun ⟨o, h⟩ => .inr ⟨o, e _ _ h fun _ z => nomatch z⟩)) fun h => .inr h
def one (R : V → Hp → Prop) : List V → Hp → Prop := fun vs H => match vs with
  | [v] => R v H
  | _ => False
theorem rel_ref {a : Addr} {u : Value} (r : RelV (.ref a) u) : u = .ref a := r
/-- sorted(xs, key=lambda x: body): the reading -/
def tSortL (K : PySem.W.Frag) (T : List (Addr × Str)) (Nl : List Str) (tb : TE) (t : TE) : TE := fun σ H Q => t σ H fun v H1 => ∃ (l : Addr) (xs : List V) (ds : List PyData) (P0 : Hp → Prop), v = .ref l ∧ SqL K H1 l xs ∧ PySem.W.AllAlike ds ∧ PySem.W.Sortable ds ∧ ds.length = xs.length ∧ (∀ d, d ∈ ds → d.depth ≤ 50) ∧ Tabs T H1 ∧
  ∀ H2, ExtN H1 H2 → Tabs T H2 → P0 H2 ∧ (∀ (i : Nat) (v : V) (d : PyData) (H' : Hp), xs[i]? = some v → ds[i]? = some d → Ext H2 H' → P0 H' → tb (L2.start Nl [v]) H' fun kv H'' => Dp K H'' kv d ∧ Ext H' H'' ∧ P0 H'') ∧
    ∀ (H' : Hp) (p : Addr), Ext H2 H' → P0 H' → H' p = none → Q (.ref p) (upd H' p (.lst (byKey xs ds)))
section
variable {X : Cx}
theorem pe_sortLam {T : List (Addr × Str)} {c P : Addr} {k : Nat} {y : Str} {e body : Expr} {params : Arguments} {scope : Scope} {p kpos lpos pos : Pos} {Nl : List Str} {t tb : TE} (hg : Gl X "sorted") (hm : X.mg "sorted" = none) (hv : bootBuiltins "sorted" = some (.builtin "sorted")) (ha : PA X [e] (tCons t tNil))
    (hfs : ∀ b, b ∉ frs X.stack → b ≠ X.env.locals ∧ b ∉ X.fs) (TB : TabB X.base X.mg c P) (hcode : X.env.code = .ref c) (hmT : (P, X.env.qual ++ "<lambda>") ∈ T) (hu : ∀ p ∈ T, p.1 = P → p.2 = X.env.qual ++ "<lambda>") (hr : Room (k + 3) X.A) (S : FnScope Nl [y] scope)
    (hdef : defaultsOf params X.env = ([], [])) (hcl : cloFrom X.env.cells scope.names [] = []) (hbind : ∀ (q : Str) (pm cv ctv u : Value), bindArgs (PySem.W.kla_fn "<lambda>" q params body scope [] pm cv ctv) ⟨[u], []⟩ = pure ([y].zip [u]))
    (hbody : ∀ (A : Around) (outer : List Env) (s : Shared) (H : Hp) (f c' : Addr), Room k (A.deeper (envOfC (X.env.qual ++ "<lambda>") scope s.heap.objs.size f (.ref c'))) →
      PE (cxOf C8.CX0 X.prog X.w X.K X.mg X.base Nl (X.env.qual ++ "<lambda>") scope f (.ref c') A outer s H C8.E0) body tb)
    (he : backTo pos (starEach [e] X.env) = (false, eval e X.env) :: backTo pos (starEach [] X.env) := by rfl) (hpl : (backTo pos (starEach [e] X.env)).any (·.1) = false := by rfl) :
    PE X (.Call (.Name "sorted" p) [e] [⟨some (Str.ofString "key"), .Lambda params body scope lpos, kpos⟩] pos) (tSortL X.K T Nl tb t) := by
  refine ⟨fun pins s σ H Q I h => ?_⟩
  refine wpAny_Call_Name_kw (ld_blt I hg hm hv ?_ (by decide) (by decide))
  refine PyProof.Rows.callWith_kw (thn (ha.run pos pins s σ H (one _) I h) fun us s1 ⟨vs, H1, I1, r1, q1⟩ => ?_) he hpl
  match vs, r1, q1 with
  | [v], .cons r1 .nil, q1 =>
    obtain ⟨l, xs, ds, P0, rfl, hs, hal, hk, hlen, hdp, hT, q⟩ := q1
    obtain rfl := rel_ref r1
    show wpAny _ _ (evalAll [(do let v ← eval (.Lambda params body scope lpos) X.env; standAt pos; pure v)]) _ _ s1
    refine wpAny_evalAll_cons (wpAny_bind (lam_make2 I1 TB hcode hmT hu hT hdef (fun y hy e => ?_) fun f c' pm' ctv H2 s' I2 eN T1 hf hfn hfr hco => wpAny_bind (wpAny_standAt (wpAny_pure (wpAny_evalAll_nil ?_)))))
    · exact absurd e (S.nofree y hy)
    rw [hcl] at hf
    obtain ⟨p0, turn, q⟩ := q H2 eN T1
    show wpAny _ _ (call (.builtin "sorted") [.ref l] [(Str.ofString "key", .ref f)]) _ _ _
    refine sorted_run (P0 := P0) I2 (sqL_extN hs eN) hf hfn (hfs f hfr) (fun v z => by cases z) hal hk hlen (fun d hd => ?_) p0 (fun i v u d s2 H' hv hd ru e0 hf2 eH hp => ?_) q
    · have h1 := hr.un
      have h2 := hdp d hd
      omega
    · have hco2 : H' c' = some (CodeO c' (X.env.qual ++ "<lambda>")) := eH _ _ hco
      have rc := lam_run (Q := fun kv H'' => Dp X.K H'' kv d ∧ Ext H' H'' ∧ P0 H'') (E := C8.E0) (CX := C8.CX0) (us := [u]) (vs := [v]) (k := k) S hr.in1.in1 e0 hf2 hco2 (hbind _ _ _ _ _) (.cons ru .nil) rfl fun hr2 => ⟨tb, hbody _ _ _ _ _ _ hr2, turn i v d H' hv hd eH hp⟩
      refine wpAny_call (codeAny_mono rc fun r s3 hq => ?_)
      cases r with
      | error e => exact (show False from hq).elim
      | ok fl =>
        cases fl with
        | ret u => exact hq
        | next => exact False.elim hq
        | brk => exact False.elim hq
        | cont => exact False.elim hq
end
/-! ## sorted(d.items(), key=lambda x: body) -/
section
variable {X : Cx} {pins : List (Addr × Obj)} {σ : L2.St} {H : Hp} {s : Shared}
theorem pairs_laid {h' : Heap} {tk : Nat} {kvs : List (Key × V)} {vs : List (Key × Value)} {as : List Addr} (I : Inv X pins σ H s) (kv : KV kvs vs) (hk : ∀ b o, s.heap.get? b = some o → h'.get? b = some o) (hl : as.length = vs.length) (hG : PySem.W.KdxG (mixKind X.prog X.w) vs s.heap.objs.size h' as) :
    ∃ H' : Hp, Ext H H' ∧ (∀ t ∈ as, H t = none ∧ s.heap.objs.size < t) ∧ (∀ b, b ∉ as → H' b = H b) ∧ Paired (fun (t : Addr) (q : Key × V) => H' t = some (.tup [kV q.1, q.2])) as kvs ∧ Inv X pins σ H' { s with heap := h', toks := tk } := by
  have lk : kvs.length = vs.length := Paired.length kv
  have nd : as.Nodup := List.Pairwise.imp (fun {a b} (h : a < b) => Nat.ne_of_lt h) hG.rise
  have new : ∀ t ∈ as, H t = none := fun t ht => I.hok.fresh (Nat.le_of_lt (hG.above t ht))
  have atP := LiI.putT_at as kvs H (by omega) nd
  have off : ∀ b, b ∉ as → LiI.putT H as kvs b = H b := fun b h1 => LiI.putT_off as kvs _ h1
  have low : ∀ b o, s.heap.get? b = some o → b ∉ as := fun b o e z => absurd (Heap.lt_size e) (Nat.not_lt.mpr (Nat.le_of_lt (hG.above b z)))
  have kp : ∀ b u, H b = some u → (LiI.putT H as kvs) b = some u := fun b u e => by
    rw [off b (fun z => by rw [new b z] at e; cases e)]
    exact e
  refine ⟨LiI.putT H as kvs, kp, fun t ht => ⟨new t ht, hG.above t ht⟩, off, atP, ?_⟩
  refine I.call' (ch := []) rfl ⟨fun b o q _ _ _ => hk b o q, fun b o q _ _ _ => ⟨o.slots, hk b o q⟩, fun b o q n _ => ?_, fun b o q _ => ⟨o, hk b o q⟩, fun b xs q => kp b _ q, fun b o u q => kp b _ q, fun b ps q => ⟨#[], by rw [kp b _ q]; simp⟩⟩ (fun b u q => ?_) I.bare fun b z => by simp at z
  · rw [off b (low b o q)]
    exact n
  · by_cases hb : b ∈ as
    · obtain ⟨j, pk, e1, e2, e3⟩ := LiI.paired_ix atP hb
      rw [e3] at q
      cases q
      obtain ⟨key, k, x, f1, f2, f3⟩ := hG.pairs j b e1
      obtain ⟨qv, g1, g2, g3⟩ := LiI.paired_get kv e2
      rw [f1] at g1
      cases g1
      have rk : RelV (kV pk.1) key := by
        rw [g2]
        exact relV_key (show keyIs k key = true from f2)
      exact ⟨by show 2 ≤ sizeLine; decide, [key, x], .cons rk (.cons g3 .nil), ⟨_, f3, rfl, _, rfl⟩⟩
    · rw [off b hb] at q
      exact (I.hok b u q).stay (fun d v _ y => hk d v y) (fun d y => kp d _ y) fun d xs y => kp d _ y
/-- sorted(v, key=f), v the view of a dict's items -/
theorem sorted_runI {r d f : Addr} {fo : Obj} {kvs : List (Key × V)} {ds : List PyData} {P0 : List Addr → Hp → Prop} {Q : VK} (hc : X.calm = true) (I : Inv X pins σ H s) (hd : H d = some (.dK kvs)) (hr : s.heap.IsItemsView r d) (hf : s.heap.get? f = some fo) (hfn : H f = none) (hfr : f ≠ X.env.locals ∧ f ∉ X.fs) (hfc : ∀ v, fo.data ≠ .cell v)
    (hal : PySem.W.AllAlike ds) (hk : PySem.W.Sortable ds) (hlen : ds.length = kvs.length) (hu : ∀ d, d ∈ ds → X.A.units + 2 + d.depth < cLine)
    (h : ∀ (H2 : Hp) (ts : List Addr), Ext H H2 → (∀ t ∈ ts, H t = none) → Paired (fun (t : Addr) (q : Key × V) => H2 t = some (.tup [kV q.1, q.2])) ts kvs → P0 ts H2 ∧
      (∀ (i : Nat) (v : V) (u : Value) (d : PyData) (s' : Shared) (H' : Hp), (ts.map V.ref)[i]? = some v → ds[i]? = some d → RelV v u → Env0 X.prog X.w X.K X.mg X.base X.A.in1.in1 X.stack s' H' → s'.heap.get? f = some fo → Ext H2 H' → P0 ts H' →
        wpAny (model X.prog X.w) X.A.in1.in1 (call (.ref f) [u]) (CE X.stack X.prog X.w H' s' (fun kv H'' => Dp X.K H'' kv d ∧ Ext H' H'' ∧ P0 ts H'')) (fun _ _ => False) s') ∧
      ∀ (H' : Hp) (p : Addr), Ext H2 H' → P0 ts H' → H' p = none → Q (.ref p) (upd H' p (.lst (byKey (ts.map V.ref) ds)))) :
    wpAny (model X.prog X.w) X.A (call (.builtin "sorted") [.ref r] [(Str.ofString "key", .ref f)]) (EP X pins σ Q) X.xe s := by
  obtain ⟨hz, hs0, vs, kv, hdo⟩ := I.hok d _ hd
  obtain ⟨ep, hat⟩ := hdo.dictAt
  have lk : kvs.length = vs.length := Paired.length kv
  refine PyProof.Rows.call_function_entry_kw PyProof.Rows.kind_sorted PyProof.Rows.plain_sorted PyProof.Rows.entry_sorted (PyProof.Rows.ksk_s1 _ _) ?_
  unfold Builtin.«sorted»
  refine wpAny_bind (m := checkCount "sorted" 1 1 _) (wpAny_pure ?_)
  refine wpAny_bind (PySem.W.kdx_collect (knd := mixKind X.prog X.w) (kvs := vs) (ep := ep) (I.ok.hd hc) hr hat (by omega) fun h' tk as hkp hl hG => ?_)
  obtain ⟨H2, e2, hn2, hoff, hP, J⟩ := pairs_laid (tk := tk) I kv hkp hl hG
  have hla : (as.map Value.ref).length ≤ sizeLine := by rw [List.length_map]; omega
  refine wpAny_bind (wpAny_newList ?_ hla)
  obtain ⟨p0, turn, q⟩ := h H2 as e2 (fun t ht => (hn2 t ht).1) hP
  have hkk : ∀ b o, h'.get? b = some o → (h'.push (seqObj "list" (as.map Value.ref).toArray 0)).get? b = some o := fun b o e => Heap.get?_push_of_some _ e
  have hfn2 : H2 f = none := by
    rw [hoff f fun z => Nat.lt_irrefl _ (Nat.lt_trans (hn2 f z).2 (Heap.lt_size hf))]
    exact hfn
  refine wpAny_bind (wpAny_holding (wpAny_call_entry_kw slot_list_sort ⟨_, Heap.get?_push_size _ rfl, rfl⟩ entry_list_sort ?body (PyProof.Rows.ksk_l1 _ _)))
  case body =>
    refine wpAny_mono (sort_body (s := { s with heap := h'.push (seqObj "list" (as.map Value.ref).toArray 0), toks := tk }) (xs := as.map V.ref) (its := as.map Value.ref) (ds := ds) (Q := Q) (E' := fun _ _ => False) J (Nat.le_refl _) ⟨_, hkp _ _ hf⟩ (J.kept (t' := tk) hkk) (LiI.vals_refs as) (by rw [List.length_map]; omega) (Heap.get?_push_size _ rfl) (J.hok.fresh (Nat.le_refl _)) (hkk _ _ (hkp _ _ hf)) hfn2 hfr hfc hal hk (by rw [List.length_map]; omega) hu p0 turn fun H' a1 a2 a3 => q H' _ a1 a2 a3) (fun f s' hf => ?_) fun _ _ e => e.elim
    obtain ⟨rfl, hq⟩ := hf
    exact ⟨_, rfl, wpAny_pure ⟨_, rfl, hq⟩⟩
end
/-- sorted(e.items(), key=lambda x: body): the reading -/
def tSortI (K : PySem.W.Frag) (T : List (Addr × Str)) (Nl : List Str) (tb : TE) (te : TE) : TE := fun σ H Q => te σ H fun v H1 => ∃ (d : Addr) (kvs : List (Key × V)) (ds : List PyData) (P0 : List Addr → Hp → Prop), v = .ref d ∧ H1 d = some (.dK kvs) ∧ PySem.W.AllAlike ds ∧ PySem.W.Sortable ds ∧ ds.length = kvs.length ∧ (∀ d, d ∈ ds → d.depth ≤ 50) ∧ Tabs T H1 ∧
  ∀ (H2 : Hp) (ts : List Addr), ExtN H1 H2 → Tabs T H2 → Paired (fun (t : Addr) (q : Key × V) => H2 t = some (.tup [kV q.1, q.2])) ts kvs → P0 ts H2 ∧
    (∀ (i : Nat) (v : V) (d : PyData) (H' : Hp), (ts.map V.ref)[i]? = some v → ds[i]? = some d → Ext H2 H' → P0 ts H' → tb (L2.start Nl [v]) H' fun kv H'' => Dp K H'' kv d ∧ Ext H' H'' ∧ P0 ts H'') ∧
    ∀ (H' : Hp) (p : Addr), Ext H2 H' → P0 ts H' → H' p = none → Q (.ref p) (upd H' p (.lst (byKey (ts.map V.ref) ds)))
section
variable {X : Cx}
theorem pe_sortLamI {T : List (Addr × Str)} {c P : Addr} {k : Nat} {y : Str} {e body : Expr} {params : Arguments} {scope : Scope} {p apos cpos kpos lpos pos : Pos} {Nl : List Str} {te tb : TE} (hca : X.calm = true) (hg : Gl X "sorted") (hm : X.mg "sorted" = none) (hv : bootBuiltins "sorted" = some (.builtin "sorted")) (hE : PE X e te)
    (hfs : ∀ b, b ∉ frs X.stack → b ≠ X.env.locals ∧ b ∉ X.fs) (TB : TabB X.base X.mg c P) (hcode : X.env.code = .ref c) (hmT : (P, X.env.qual ++ "<lambda>") ∈ T) (hu : ∀ p ∈ T, p.1 = P → p.2 = X.env.qual ++ "<lambda>") (hr : Room (k + 3) X.A) (S : FnScope Nl [y] scope)
    (hdef : defaultsOf params X.env = ([], [])) (hcl : cloFrom X.env.cells scope.names [] = []) (hbind : ∀ (q : Str) (pm cv ctv u : Value), bindArgs (PySem.W.kla_fn "<lambda>" q params body scope [] pm cv ctv) ⟨[u], []⟩ = pure ([y].zip [u]))
    (hbody : ∀ (A : Around) (outer : List Env) (s : Shared) (H : Hp) (f c' : Addr), Room k (A.deeper (envOfC (X.env.qual ++ "<lambda>") scope s.heap.objs.size f (.ref c'))) →
      PE (cxOf C8.CX0 X.prog X.w X.K X.mg X.base Nl (X.env.qual ++ "<lambda>") scope f (.ref c') A outer s H C8.E0) body tb)
    (hbase : attributeBase e "items" X.env (eval e X.env) = eval e X.env := by rfl) (hline : (apos.endLine == cpos.line) = true := by rfl)
    (hs : starEach [.Call (.Attribute e "items" apos) [] [] cpos] X.env = (false, eval (.Call (.Attribute e "items" apos) [] [] cpos) X.env) :: starEach [] X.env := by rfl)
    (he : backTo pos (starEach [.Call (.Attribute e "items" apos) [] [] cpos] X.env) = (false, eval (.Call (.Attribute e "items" apos) [] [] cpos) X.env) :: backTo pos (starEach [] X.env) := by rfl) (hpl : (backTo pos (starEach [.Call (.Attribute e "items" apos) [] [] cpos] X.env)).any (·.1) = false := by rfl) :
    PE X (.Call (.Name "sorted" p) [.Call (.Attribute e "items" apos) [] [] cpos] [⟨some (Str.ofString "key"), .Lambda params body scope lpos, kpos⟩] pos) (tSortI X.K T Nl tb te) := by
  refine ⟨fun pins s σ H Q I h => ?_⟩
  refine wpAny_Call_Name_kw (ld_blt I hg hm hv ?_ (by decide) (by decide))
  refine PyProof.Rows.callWith_kw ?_ he hpl
  rw [he]
  refine Calls.spliced_cons ?_
  refine wpAny_Call_method (T := "dict") (id := "dict.items") hbase rfl hline F.plainAttrs_dict F.slot_dict_items F.type_dict_items (thn (hE.run pins s σ H _ I h) fun u s1 ⟨x, H1, I1, rx, q1⟩ => ?_)
  obtain ⟨d, kvs, ds, P0, rfl, hd, hal, hk, hlen, hdp, hT, q⟩ := q1
  obtain rfl : u = Value.ref d := rx
  obtain ⟨hz, hs0, vs, kv, hdo⟩ := I1.hok d _ hd
  have lk : kvs.length = vs.length := Paired.length kv
  have I2 : Inv X ((s1.heap.objs.size, { cls := .type "dict_items", data := .fields #[.ref d] }) :: pins) σ H1 { s1 with heap := s1.heap.push { cls := .type "dict_items", data := .fields #[.ref d] } } := ClX.pin_new (t' := s1.toks) I1 (fun b ob q => Heap.get?_push_of_some _ q) (Nat.le_refl _) (Heap.get?_push_size _ rfl) (fun v z => by cases z)
  refine ⟨hdo.typeIs, hdo.mapOf.noDict, ?_⟩
  show wpAny _ _ (callWith cpos (.builtin "dict.items") [.ref d] [] []) _ X.xe s1
  refine method_meetsIn F.slot_dict_items F.entry_dict_items rfl (PySem.evalArgs_none ⟨rfl, hdo.typeIs, F.args_dict_items_1 _, _, meets_dict_items (mixKind X.prog X.w) d hs0, ⟨vs, hdo⟩, ?_⟩)
  refine Calls.spliced_nil ?_
  show wpAny _ _ (evalAll [(do let v ← eval (.Lambda params body scope lpos) X.env; standAt pos; pure v)]) _ _ _
  refine wpAny_evalAll_cons (wpAny_bind (lam_make2 I2 TB hcode hmT hu hT hdef (fun y hy e => ?_) fun f c' pm' ctv H2 s' I3 eN T1 hf hfn hfr hco => wpAny_bind (wpAny_standAt (wpAny_pure (wpAny_evalAll_nil ?_)))))
  · exact absurd e (S.nofree y hy)
  rw [hcl] at hf
  show wpAny _ _ (call (.builtin "sorted") [.ref s1.heap.objs.size] [(Str.ofString "key", .ref f)]) _ _ _
  have hd2 : H2 d = some (.dK kvs) := eN _ _ hd fun ps z => nomatch z
  have hview : s'.heap.IsItemsView s1.heap.objs.size d := ⟨{ cls := .type "dict_items", data := .fields #[.ref d] }, ClX.pin_at I3, rfl, rfl⟩
  refine wpAny_mono (sorted_runI (P0 := P0) (Q := Q) hca I3 hd2 hview hf hfn (hfs f hfr) (fun v z => by cases z) hal hk hlen (fun d hd => ?_) fun H3 ts e3 hts hP => ?_) (fun v s2 h2 => ClX.unpinE h2) fun _ _ e => e
  · have h1 := hr.un
    have h2 := hdp d hd
    omega
  · have T3 : Tabs T H3 := T1.ext e3
    obtain ⟨p0, turn, q⟩ := q H3 ts (eN.trans (ExtN.of e3)) T3 hP
    refine ⟨p0, fun i v u d s2 H' hv hd ru e0 hf2 eH hp => ?_, q⟩
    have hco2 : H' c' = some (CodeO c' (X.env.qual ++ "<lambda>")) := eH _ _ (e3 _ _ hco)
    have rc := lam_run (Q := fun kv H'' => Dp X.K H'' kv d ∧ Ext H' H'' ∧ P0 ts H'') (E := C8.E0) (CX := C8.CX0) (us := [u]) (vs := [v]) (k := k) S hr.in1.in1 e0 hf2 hco2 (hbind _ _ _ _ _) (.cons ru .nil) rfl fun hr2 => ⟨tb, hbody _ _ _ _ _ _ hr2, turn i v d H' hv hd eH hp⟩
    refine wpAny_call (codeAny_mono rc fun r s3 hq => ?_)
    cases r with
    | error e => exact (show False from hq).elim
    | ok fl =>
      cases fl with
      | ret u => exact hq
      | next => exact False.elim hq
      | brk => exact False.elim hq
      | cont => exact False.elim hq
end
/-! ## a def whose code object is told -/
structure DefC (K : PySem.W.Frag) (mg : Str → Option Value) (x : Str) (st : Stmt) (ps : List Str) (f : Addr) (fd : FuncData) (c : Addr) : Prop where
  ex : ∃ (oc : Value) (od : Option Addr) (kV doc pm : Value) (an : Option Addr) (ct : Value) (osl : Array (Option Value)),
    fd = PySem.W.fnOf x x (defArgs st) (defBody st) (defScope st) .none kV doc pm an (.ref c) ct ∧ K.lookup f = some ⟨oc, od, .func fd, osl⟩ ∧ PySem.W.codeIn K (.ref c) x = true
  F : Fun K x x st f fd
  b : Binds K fd ps []
  g : mg x = some (.ref f)
section
variable {P : Program} {w : World} {K : PySem.W.Frag} {mg : Str → Option Value} {base : Heap}
theorem DefC.ok {x : Str} {st : Stmt} {f c : Addr} {fd : FuncData} {N ps : List Str} {k : Nat} {sp : Sp} (D : DefC K mg x st ps f fd c) (S : FnScope N ps (defScope st)) (len : ∀ vs H Q E, sp vs H Q E → vs.length = ps.length)
    (hbody : ∀ (A : Around) (outer : List Env) (s : Shared) (H : Hp) (vs : List V) (Q : VK) (E : XK), Room k (A.deeper (envOfC x (defScope st) s.heap.objs.size f (.ref c))) → sp vs H Q E →
      ∃ t, PSs (cxOf CX0 P w K mg base N x (defScope st) f (.ref c) A outer s H E).nox (defBody st) t ∧ t { nx := fun _ H' => Q .non H', rt := Q } (start N vs) H) : FnOk P w K mg base CX0 (k + 1) f fd ps sp := by
  obtain ⟨oc, od, kV, doc, pm, an, ct, osl, rfl, lk, hcd⟩ := D.ex
  refine fn_of lk hcd S len fun A outer s H vs Q E hr hsp => ?_
  obtain ⟨t, h, q⟩ := hbody A outer s H vs Q E hr hsp
  exact ⟨t, h.nox, q⟩
end
end HS
namespace DM
open PySem PySem.Spec PyProof.Rows L2 SX HL
/-! ## deeds: the mathematics -/
abbrev Mark := Nat × Nat
inductive Deed
  | back (n : Nat)
  | change (m : List Nat) (rem : List Mark) (beh : Option Mark) (num : Nat) (txt : List Nat)
deriving DecidableEq
/-- what a change inserts -/
abbrev Ent := Mark × Option Mark × Nat
def ins (r : Nat) : Nat → Option Mark → List Nat → List Ent
  | _, _, [] => []
  | n, b, c :: t => ((n, r), b, c) :: ins r (n + 1) (some (n, r)) t
theorem ins_len (r : Nat) : ∀ (t : List Nat) (n : Nat) (b : Option Mark), (ins r n b t).length = t.length
  | [], _, _ => rfl
  | c :: t, n, b => by
    show (ins r (n + 1) (some (n, r)) t).length + 1 = _
    rw [ins_len r t]
    rfl
theorem ins_get (r : Nat) : ∀ (t : List Nat) (n : Nat) (b : Option Mark) (k : Nat), k < t.length → (ins r n b t)[k]? = some ((n + k, r), (if k = 0 then b else some (n + k - 1, r)), t.getD k 0)
  | [], _, _, k, h => absurd h (Nat.not_lt_zero _)
  | c :: t, n, b, 0, _ => rfl
  | c :: t, n, b, k + 1, h => by
    show (ins r (n + 1) (some (n, r)) t)[k]? = _
    rw [ins_get r t (n + 1) (some (n, r)) k (by simpa using h)]
    have e1 : n + 1 + k = n + (k + 1) := by omega
    rw [e1, if_neg (Nat.succ_ne_zero k)]
    by_cases hk : k = 0
    · subst hk
      rw [if_pos rfl]
      rfl
    · rw [if_neg hk]
      rfl
/-! ### which deeds are in force -/
def takes : Deed → Bool → List Nat → List Nat
  | .back n, true, t => n :: t
  | _, _, t => t
/-- place, deeds from the last one, places that are taken back -/
def fw : Nat → List Deed → List Nat → List Bool
  | _, [], _ => []
  | p, d :: r, t => (!decide (p ∈ t)) :: fw (p - 1) r (takes d (!decide (p ∈ t)) t)
def tk : Nat → List Deed → List Nat → List Nat
  | _, [], t => t
  | p, d :: r, t => tk (p - 1) r (takes d (!decide (p ∈ t)) t)
theorem fw_len : ∀ (l : List Deed) (p : Nat) (t : List Nat), (fw p l t).length = l.length
  | [], _, _ => rfl
  | d :: l, p, t => by
    show (fw _ l _).length + 1 = _
    rw [fw_len l]
    rfl
theorem fw_snoc : ∀ (l : List Deed) (p : Nat) (t : List Nat) (d : Deed), fw p (l ++ [d]) t = fw p l t ++ [!decide (p - l.length ∈ tk p l t)] ∧ tk p (l ++ [d]) t = takes d (!decide (p - l.length ∈ tk p l t)) (tk p l t)
  | [], p, t, d => ⟨rfl, rfl⟩
  | x :: l, p, t, d => by
    obtain ⟨h1, h2⟩ := fw_snoc l (p - 1) (takes x (!decide (p ∈ t)) t) d
    have e : p - 1 - l.length = p - (x :: l).length := by rw [List.length_cons]; omega
    rw [e] at h1 h2
    refine ⟨?_, h2⟩
    show _ :: fw (p - 1) (l ++ [d]) _ = _ :: (fw (p - 1) l _ ++ _)
    rw [h1]
    rfl
def forces (row : List Deed) : List Bool := (fw row.length row.reverse []).reverse
theorem forces_len (row : List Deed) : (forces row).length = row.length := by
  unfold forces
  rw [List.length_reverse, fw_len, List.length_reverse]
/-- x is taken back by one of the deeds behind -/
theorem mem_tk : ∀ (l : List Deed) (p : Nat) (t : List Nat) (x : Nat), x ∈ tk p l t ↔ x ∈ t ∨ ∃ j : Nat, (fw p l t)[j]? = some true ∧ l[j]? = some (.back x)
  | [], p, t, x => by simp [tk, fw]
  | d :: l, p, t, x => by
    show x ∈ tk (p - 1) l (takes d (!decide (p ∈ t)) t) ↔ _
    rw [mem_tk l]
    constructor
    · rintro (h | ⟨j, h1, h2⟩)
      · cases hd : d with
        | change => rw [hd] at h; exact .inl h
        | back n =>
          rw [hd] at h
          cases hp : (!decide (p ∈ t)) with
          | false => rw [hp] at h; exact .inl h
          | true =>
            rw [hp] at h
            rcases List.mem_cons.mp h with e | h
            · exact .inr ⟨0, by show some (!decide (p ∈ t)) = _; rw [hp], by rw [e]; rfl⟩
            · exact .inl h
      · exact .inr ⟨j + 1, h1, h2⟩
    · rintro (h | ⟨j, h1, h2⟩)
      · refine .inl ?_
        cases d with
        | change => exact h
        | back n =>
          cases (!decide (p ∈ t)) with
          | false => exact h
          | true => exact List.mem_cons_of_mem _ h
      · cases j with
        | zero =>
          have e1 : (!decide (p ∈ t)) = true := Option.some.inj h1
          have e2 : d = .back x := Option.some.inj h2
          rw [e1, e2]
          exact .inl (List.mem_cons_self ..)
        | succ j => exact .inr ⟨j, h1, h2⟩
/-- after the first k deeds from the last -/
theorem fw_take (row : List Deed) (k : Nat) (hk : k ≤ row.length) : (fw row.length row.reverse []).take k = fw row.length (row.reverse.take k) [] := by
  have key : ∀ (a b : List Deed) (p : Nat) (t : List Nat), (fw p (a ++ b) t).take a.length = fw p a t := by
    intro a
    induction a with
    | nil => intros; rfl
    | cons x a ih =>
      intro b p t
      show (_ :: fw (p - 1) (a ++ b) _).take (a.length + 1) = _ :: fw (p - 1) a _
      rw [List.take_succ_cons, ih]
  have h := key (row.reverse.take k) (row.reverse.drop k) row.length []
  rw [List.take_append_drop, List.length_take, List.length_reverse, Nat.min_eq_left hk] at h
  exact h
theorem fw_step (row : List Deed) (k : Nat) (d : Deed) (hd : row.reverse[k]? = some d) :
    fw row.length (row.reverse.take (k + 1)) [] = fw row.length (row.reverse.take k) [] ++ [!decide (row.length - k ∈ tk row.length (row.reverse.take k) [])] ∧
    tk row.length (row.reverse.take (k + 1)) [] = takes d (!decide (row.length - k ∈ tk row.length (row.reverse.take k) [])) (tk row.length (row.reverse.take k) []) := by
  have hk : k < row.length := by
    have := (List.getElem?_eq_some_iff.mp hd).1
    rwa [List.length_reverse] at this
  have hl : (row.reverse.take k).length = k := by rw [List.length_take, List.length_reverse]; omega
  have h := fw_snoc (row.reverse.take k) row.length [] d
  rw [hl] at h
  rw [take_snoc hd]
  exact h
/-- the law of forces: a deed is in force exactly if no later one in force takes it back -/
theorem forces_iff (row : List Deed) (i : Nat) (hi : i < row.length) : ∃ b, (forces row)[i]? = some b ∧ (b = true ↔ ¬ ∃ j : Nat, i < j ∧ (forces row)[j]? = some true ∧ row[j]? = some (.back (i + 1))) := by
  have hfl := forces_len row
  have key : ∀ j : Nat, j < row.length → (forces row)[j]? = (fw row.length row.reverse [])[row.length - 1 - j]? := fun j hj => by
    unfold forces
    rw [List.getElem?_reverse (by rw [fw_len, List.length_reverse]; exact hj), fw_len, List.length_reverse]
  have keyd : ∀ j : Nat, j < row.length → row[j]? = row.reverse[row.length - 1 - j]? := fun j hj => by
    rw [List.getElem?_reverse (by omega)]
    have : row.length - 1 - (row.length - 1 - j) = j := by omega
    rw [this]
  rw [key i hi]
  have hd : row.reverse[row.length - 1 - i]? = some row[i] := by rw [← keyd i hi]; exact List.getElem?_eq_getElem hi
  obtain ⟨h1, _⟩ := fw_step row (row.length - 1 - i) row[i] hd
  have e1 : row.length - (row.length - 1 - i) = i + 1 := by omega
  rw [e1] at h1
  have h2 := fw_take row (row.length - 1 - i + 1) (by omega)
  have h3 : (fw row.length row.reverse [])[row.length - 1 - i]? = (fw row.length (row.reverse.take (row.length - 1 - i + 1)) [])[row.length - 1 - i]? := by
    rw [← h2, List.getElem?_take, if_pos (Nat.lt_succ_self _)]
  have hl : (fw row.length (row.reverse.take (row.length - 1 - i)) []).length = row.length - 1 - i := by rw [fw_len, List.length_take, List.length_reverse]; omega
  rw [h3, h1, List.getElem?_append_right (by omega), hl, Nat.sub_self]
  refine ⟨_, rfl, ?_⟩
  have hm := mem_tk (row.reverse.take (row.length - 1 - i)) row.length [] (i + 1)
  rw [Bool.not_eq_true', decide_eq_false_iff_not]
  refine not_congr (hm.trans ?_)
  constructor
  · rintro (h | ⟨j, hj1, hj2⟩)
    · cases h
    · have hjl : j < row.length - 1 - i := by
        have := (List.getElem?_eq_some_iff.mp hj1).1
        rwa [hl] at this
      refine ⟨row.length - 1 - j, by omega, ?_, ?_⟩
      · rw [key _ (by omega)]
        have : row.length - 1 - (row.length - 1 - j) = j := by omega
        rw [this]
        rw [← fw_take row _ (by omega), List.getElem?_take, if_pos hjl] at hj1
        exact hj1
      · rw [keyd _ (by omega)]
        have : row.length - 1 - (row.length - 1 - j) = j := by omega
        rw [this]
        rw [List.getElem?_take, if_pos hjl] at hj2
        exact hj2
  · rintro ⟨j, h0, hj1, hj2⟩
    have hj : j < row.length := by
      have := (List.getElem?_eq_some_iff.mp hj2).1
      exact this
    refine .inr ⟨row.length - 1 - j, ?_, ?_⟩
    · rw [← fw_take row _ (by omega), List.getElem?_take, if_pos (by omega), ← key j hj]
      exact hj1
    · rw [List.getElem?_take, if_pos (by omega), ← keyd j hj]
      exact hj2
end DM
namespace DM
open PySem PySem.Spec PyProof.Rows L2 SX HL
/-! ## rows of deeds -/
abbrev Rows := Nat → List Deed
def isCh (m : List Nat) : Deed → Bool
  | .change m' _ _ _ _ => decide (m' = m)
  | .back _ => false
def entD (r : Nat) : Deed → List Ent
  | .change _ _ b n t => ins r n b t
  | .back _ => []
def remD : Deed → List Mark
  | .change _ x _ _ _ => x
  | .back _ => []
/-- the marks that a deed names -/
def nam : Deed → List Mark
  | .change _ x b _ _ => x ++ b.toList
  | .back _ => []
def numD : Deed → Nat
  | .change _ _ _ n _ => n
  | .back _ => 0
def endD : Deed → Nat
  | .change _ _ _ n t => n + t.length
  | .back _ => 0
abbrev Chg := Nat × Deed × Bool
abbrev EntF := Mark × Option Mark × Nat × Bool
def chR (rows : Rows) (m : List Nat) (r : Nat) : List Chg := (((rows r).zip (forces (rows r))).filter fun df => isCh m df.1).map fun df => (r, df.1, df.2)
def changes (rows : Rows) (m : List Nat) : List Chg := (List.range 8).flatMap (chR rows m)
def entF (c : Chg) : List EntF := (entD c.1 c.2.1).map fun e => (e.1, e.2.1, e.2.2, c.2.2)
def found (rows : Rows) (m : List Nat) : List EntF := (changes rows m).flatMap entF
def removed (rows : Rows) (m : List Nat) : List Mark := (changes rows m).flatMap fun c => if c.2.2 then remD c.2.1 else []
def marks (rows : Rows) (m : List Nat) : List Mark := (found rows m).map (·.1)
theorem zip_fst {α β : Type _} : ∀ (l : List α) (k : List β), l.length = k.length → (l.zip k).map Prod.fst = l
  | [], [], _ => rfl
  | x :: l, y :: k, h => by
    show x :: (l.zip k).map Prod.fst = _
    rw [zip_fst l k (by simpa using h)]
theorem zip_forces (row : List Deed) : (row.zip (forces row)).map Prod.fst = row := zip_fst _ _ (forces_len row).symm
theorem mem_changes {rows : Rows} {m : List Nat} {c : Chg} (h : c ∈ changes rows m) : c.1 < 8 ∧ c.2.1 ∈ rows c.1 ∧ isCh m c.2.1 = true := by
  obtain ⟨r, hr, h⟩ := List.mem_flatMap.mp h
  obtain ⟨df, hdf, rfl⟩ := List.mem_map.mp h
  obtain ⟨h1, h2⟩ := List.mem_filter.mp hdf
  refine ⟨List.mem_range.mp hr, ?_, h2⟩
  have := List.mem_map_of_mem (f := Prod.fst) h1
  rwa [zip_forces] at this
theorem changes_has {rows : Rows} {m : List Nat} {r : Nat} {d : Deed} (hr : r < 8) (hd : d ∈ rows r) (hm : isCh m d = true) : ∃ f, (r, d, f) ∈ changes rows m := by
  rw [← zip_forces (rows r)] at hd
  obtain ⟨⟨d', f⟩, h1, h2⟩ := List.mem_map.mp hd
  cases h2
  exact ⟨f, List.mem_flatMap.mpr ⟨r, List.mem_range.mpr hr, List.mem_map.mpr ⟨(d', f), List.mem_filter.mpr ⟨h1, hm⟩, rfl⟩⟩⟩
theorem mem_marks {rows : Rows} {m : List Nat} {x : Mark} : x ∈ marks rows m ↔ ∃ r d, r < 8 ∧ d ∈ rows r ∧ isCh m d = true ∧ x ∈ (entD r d).map (·.1) := by
  constructor
  · intro h
    obtain ⟨e, he, rfl⟩ := List.mem_map.mp h
    obtain ⟨c, hc, he⟩ := List.mem_flatMap.mp he
    obtain ⟨e', he', rfl⟩ := List.mem_map.mp he
    obtain ⟨h1, h2, h3⟩ := mem_changes hc
    exact ⟨c.1, c.2.1, h1, h2, h3, List.mem_map.mpr ⟨e', he', rfl⟩⟩
  · rintro ⟨r, d, hr, hd, hm, hx⟩
    obtain ⟨f, hc⟩ := changes_has hr hd hm
    obtain ⟨e, he, rfl⟩ := List.mem_map.mp hx
    exact List.mem_map.mpr ⟨(e.1, e.2.1, e.2.2, f), List.mem_flatMap.mpr ⟨_, hc, List.mem_map.mpr ⟨e, he, rfl⟩⟩, rfl⟩
theorem marks_mono {rows rows' : Rows} (h : ∀ r, r < 8 → ∀ d ∈ rows r, d ∈ rows' r) {m : List Nat} {x : Mark} (hx : x ∈ marks rows m) : x ∈ marks rows' m := by
  obtain ⟨r, d, hr, hd, hm, hx⟩ := mem_marks.mp hx
  exact mem_marks.mpr ⟨r, d, hr, h r hr d hd, hm, hx⟩
theorem mem_entD {r : Nat} {d : Deed} {e : Ent} (h : e ∈ entD r d) : ∃ m x b n t k, d = .change m x b n t ∧ k < t.length ∧ e = ((n + k, r), (if k = 0 then b else some (n + k - 1, r)), t.getD k 0) := by
  cases d with
  | back => cases h
  | change m x b n t =>
    obtain ⟨k, hk, he⟩ := List.mem_iff_getElem.mp h
    have hk' : k < t.length := by
      have : (entD r (.change m x b n t)).length = t.length := ins_len r t n b
      omega
    have h2 := ins_get r t n b k hk'
    have h3 : (ins r n b t)[k]? = some e := by
      rw [← he]
      exact List.getElem?_eq_getElem hk
    rw [h3] at h2
    exact ⟨m, x, b, n, t, k, rfl, hk', Option.some.inj h2⟩
theorem entD_has {r : Nat} {m : List Nat} {x : List Mark} {b : Option Mark} {n k : Nat} {t : List Nat} (hk : k < t.length) : (n + k, r) ∈ (entD r (.change m x b n t)).map (·.1) := by
  have h := ins_get r t n b k hk
  exact List.mem_map.mpr ⟨_, List.mem_of_getElem? h, rfl⟩
/-! ### rows as deeds make them -/
def mlt (a b : Mark) : Prop := a.1 < b.1 ∨ (a.1 = b.1 ∧ a.2 < b.2)
structure Good (rows : Rows) : Prop where
  num : ∀ r, r < 8 → (rows r).Pairwise fun a b => (∃ m x c n t, b = .change m x c n t) → endD a ≤ numD b
  nam : ∀ r, r < 8 → ∀ m x b n t, Deed.change m x b n t ∈ rows r → ∀ y ∈ x ++ b.toList, y ∈ marks rows m ∧ y.1 < n
theorem mlt_irrefl {a : Mark} : ¬ mlt a a := by
  rintro (h | ⟨_, h⟩) <;> omega
theorem mlt_trans {a b c : Mark} (h : mlt a b) (k : mlt b c) : mlt a c := by
  unfold mlt at *
  omega
theorem mlt_total {a b : Mark} (h : a ≠ b) : mlt a b ∨ mlt b a := by
  have : ¬ (a.1 = b.1 ∧ a.2 = b.2) := fun ⟨h1, h2⟩ => h (Prod.ext h1 h2)
  unfold mlt
  omega
theorem marks_nodup {rows : Rows} (G : Good rows) (m : List Nat) : (marks rows m).Nodup := by
  unfold marks found changes
  rw [List.map_flatMap]
  refine List.pairwise_flatMap.mpr ⟨fun c hc => ?_, ?_⟩
  · -- one deed
    obtain ⟨r, _, hc⟩ := List.mem_flatMap.mp hc
    unfold entF
    rw [List.map_map]
    have e : ((fun x : EntF => x.1) ∘ fun e : Ent => (e.1, e.2.1, e.2.2, c.2.2)) = fun e : Ent => e.1 := rfl
    rw [e]
    cases hd : c.2.1 with
    | back => exact List.Pairwise.nil
    | change m' x b n t =>
      show ((ins c.1 n b t).map fun e => e.1).Nodup
      have key : ∀ (t : List Nat) (n : Nat) (b : Option Mark), ((ins c.1 n b t).map fun e => e.1).Nodup ∧ ∀ y ∈ (ins c.1 n b t).map (fun e => e.1), n ≤ y.1 := by
        intro t
        induction t with
        | nil => intro n b; exact ⟨List.Pairwise.nil, fun y h => by cases h⟩
        | cons z t ih =>
          intro n b
          obtain ⟨h1, h2⟩ := ih (n + 1) (some (n, c.1))
          refine ⟨List.nodup_cons.mpr ⟨fun h => ?_, h1⟩, fun y hy => ?_⟩
          · have := h2 _ h
            simp at this
            omega
          · rcases List.mem_cons.mp hy with e | h
            · rw [e]; exact Nat.le_refl _
            · have := h2 _ h
              omega
      exact (key t n b).1
  · refine List.pairwise_flatMap.mpr ⟨fun r hr => ?_, ?_⟩
    · unfold chR
      refine List.pairwise_map.mpr (List.Pairwise.filter _ ?_)
      have hp : ((rows r).zip (forces (rows r))).Pairwise fun a b => (∃ m x c n t, b.1 = .change m x c n t) → endD a.1 ≤ numD b.1 := by
        have := G.num r (List.mem_range.mp hr)
        rw [← zip_forces (rows r)] at this
        exact List.pairwise_map.mp this
      refine hp.imp fun {a b} hab => ?_
      rintro x hx y hy rfl
      obtain ⟨e1, he1, rfl⟩ := List.mem_map.mp hx
      obtain ⟨e2, he2, h2⟩ := List.mem_map.mp hy
      obtain ⟨f1, hf1, rfl⟩ := List.mem_map.mp he1
      obtain ⟨f2, hf2, rfl⟩ := List.mem_map.mp he2
      obtain ⟨m1, x1, b1, n1, t1, k1, d1, hk1, rfl⟩ := mem_entD hf1
      obtain ⟨m2, x2, b2, n2, t2, k2, d2, hk2, rfl⟩ := mem_entD hf2
      have := hab ⟨_, _, _, _, _, d2⟩
      have e1' : a.1 = .change m1 x1 b1 n1 t1 := d1
      have e2' : b.1 = .change m2 x2 b2 n2 t2 := d2
      rw [e1', e2'] at this
      have h3 : n2 + k2 = n1 + k1 := congrArg Prod.fst h2
      have h4 : n1 + t1.length ≤ n2 := this
      omega
    · refine List.Pairwise.imp (R := fun a b => a ≠ b) (fun {a b} hab => ?_) List.nodup_range
      rintro c hc c' hc' x hx y hy rfl
      obtain ⟨df, _, rfl⟩ := List.mem_map.mp hc
      obtain ⟨df', _, rfl⟩ := List.mem_map.mp hc'
      obtain ⟨e1, he1, rfl⟩ := List.mem_map.mp hx
      obtain ⟨e2, he2, h2⟩ := List.mem_map.mp hy
      obtain ⟨f1, hf1, rfl⟩ := List.mem_map.mp he1
      obtain ⟨f2, hf2, rfl⟩ := List.mem_map.mp he2
      obtain ⟨_, _, _, n1, _, k1, _, _, rfl⟩ := mem_entD hf1
      obtain ⟨_, _, _, n2, _, k2, _, _, rfl⟩ := mem_entD hf2
      have h3 : ((n2 + k2, b) : Mark) = (n1 + k1, a) := h2
      exact hab (congrArg Prod.snd h3).symm
/-- what stands behind a mark is a lesser mark of the module -/
theorem behind_ok {rows : Rows} (G : Good rows) {m : List Nat} {e : EntF} (he : e ∈ found rows m) {x : Mark} (hx : e.2.1 = some x) : x ∈ marks rows m ∧ mlt x e.1 := by
  obtain ⟨c, hc, he⟩ := List.mem_flatMap.mp he
  obtain ⟨f, hf, rfl⟩ := List.mem_map.mp he
  obtain ⟨h1, h2, h3⟩ := mem_changes hc
  obtain ⟨m1, x1, b1, n1, t1, k1, d1, hk1, rfl⟩ := mem_entD hf
  rw [d1] at h2 h3
  have hm : m1 = m := of_decide_eq_true h3
  subst hm
  by_cases hk : k1 = 0
  · subst hk
    have hb : b1 = some x := hx
    have := G.nam c.1 h1 m1 x1 b1 n1 t1 h2 x (by rw [hb]; simp)
    exact ⟨this.1, .inl (by show x.1 < n1 + 0; omega)⟩
  · have hb : (if k1 = 0 then b1 else some (n1 + k1 - 1, c.1)) = some x := hx
    rw [if_neg hk] at hb
    cases hb
    refine ⟨mem_marks.mpr ⟨c.1, _, h1, h2, by simp [isCh], ?_⟩, .inl (by show n1 + k1 - 1 < n1 + k1; omega)⟩
    have : n1 + k1 - 1 = n1 + (k1 - 1) := by omega
    rw [this]
    exact entD_has (by omega)
/-! ### the row of a module -/
abbrev Cel := Mark × Nat × Bool
def slot (b : Option Mark) (row : List Cel) : Nat := match b with
  | none => 0
  | some x => (row.map (·.1)).idxOf x + 1
def put (rm : List Mark) (row : List Cel) (e : EntF) : List Cel := row.insertIdx (slot e.2.1 row) (e.1, e.2.2.1, e.2.2.2 && !decide (e.1 ∈ rm))
def build (rm : List Mark) (es : List EntF) : List Cel := es.foldl (put rm) []
theorem build_snoc (rm : List Mark) (es : List EntF) (e : EntF) : build rm (es ++ [e]) = put rm (build rm es) e := by
  unfold build
  rw [List.foldl_append]
  rfl
/-- sorted, and what each one stands behind is ahead of it -/
structure Srt (rows : Rows) (m : List Nat) (es : List EntF) : Prop where
  perm : es.Perm (found rows m)
  lt : es.Pairwise fun a b => mlt a.1 b.1
theorem slot_le {b : Option Mark} {row : List Cel} (h : ∀ x, b = some x → x ∈ row.map (·.1)) : slot b row ≤ row.length := by
  cases b with
  | none => exact Nat.zero_le _
  | some x =>
    have := List.idxOf_lt_length_of_mem (h x rfl)
    rw [List.length_map] at this
    exact this
theorem put_perm {rm : List Mark} {row : List Cel} {e : EntF} (h : ∀ x, e.2.1 = some x → x ∈ row.map (·.1)) : ((put rm row e).map (·.1)).Perm (e.1 :: row.map (·.1)) := by
  unfold put
  have h1 := List.perm_insertIdx (e.1, e.2.2.1, e.2.2.2 && !decide (e.1 ∈ rm)) row (slot_le h)
  exact h1.map (·.1)
theorem build_perm {rows : Rows} {m : List Nat} {es : List EntF} (G : Good rows) (S : Srt rows m es) (rm : List Mark) : ∀ i, i ≤ es.length → ((build rm (es.take i)).map (·.1)).Perm ((es.take i).map (·.1)) ∧
    ∀ e, es[i]? = some e → ∀ x, e.2.1 = some x → x ∈ (build rm (es.take i)).map (·.1) := by
  have back : ∀ i, i ≤ es.length → ∀ e, es[i]? = some e → ∀ x, e.2.1 = some x → x ∈ (es.take i).map (·.1) := by
    intro i hi e he x hx
    have hef : e ∈ found rows m := S.perm.mem_iff.mp (List.mem_of_getElem? he)
    obtain ⟨hm, hlt⟩ := behind_ok G hef hx
    obtain ⟨e', he', rfl⟩ := List.mem_map.mp hm
    obtain ⟨j, hj⟩ := List.mem_iff_getElem?.mp (S.perm.mem_iff.mpr he')
    have hji : j < i := by
      rcases Nat.lt_trichotomy j i with h | h | h
      · exact h
      · subst h
        rw [he] at hj
        cases hj
        exact absurd hlt mlt_irrefl
      · have h1 := (List.getElem?_eq_some_iff.mp he)
        have h2 := (List.getElem?_eq_some_iff.mp hj)
        have := List.pairwise_iff_getElem.mp S.lt i j h1.1 h2.1 h
        rw [h1.2, h2.2] at this
        exact absurd (mlt_trans this hlt) mlt_irrefl
    refine List.mem_map.mpr ⟨e', ?_, rfl⟩
    refine List.mem_of_getElem? (i := j) ?_
    rw [List.getElem?_take, if_pos hji]
    exact hj
  intro i
  induction i with
  | zero => exact fun hi => ⟨List.Perm.refl _, fun e he x hx => by have := back 0 hi e he x hx; simp at this⟩
  | succ i ih =>
    intro hi
    obtain ⟨h1, h2⟩ := ih (by omega)
    have he : es[i]? = some es[i] := List.getElem?_eq_getElem (by omega)
    have hp : ((build rm (es.take (i + 1))).map (·.1)).Perm ((es.take (i + 1)).map (·.1)) := by
      rw [take_snoc he, build_snoc, List.map_append]
      refine (put_perm (h2 _ he)).trans ?_
      refine (List.Perm.cons _ h1).trans ?_
      exact (List.perm_append_singleton ..).symm
    exact ⟨hp, fun e he x hx => hp.mem_iff.mpr (back (i + 1) hi e he x hx)⟩
end DM
namespace DM
open PySem PySem.Spec PyProof.Rows L2 SX HL
/-! ## deeds in the heap -/
def TupK (H H' : Hp) : Prop := ∀ a o, H a = some (.tup o) → H' a = some (.tup o)
theorem TupK.refl {H : Hp} : TupK H H := fun _ _ h => h
theorem TupK.trans {H H1 H2 : Hp} (a : TupK H H1) (b : TupK H1 H2) : TupK H H2 := fun x o h => b x o (a x o h)
theorem Same.tk {H H' : Hp} (s : Same H H') : TupK H H' := fun a o h => s a _ h
/-- a store at something that is no tuple -/
theorem tk_upd {H : Hp} {a : Addr} {o : HO} (h : ∀ xs, ¬ H a = some (.tup xs)) : TupK H (upd H a o) := fun b xs e => by
  rw [upd_ne (fun z => h xs (by rw [← z]; exact e))]
  exact e
def MkAt (H : Hp) (x : V) (m : Mark) : Prop := IsRow (fun m : Mark => [vi m.1, vi m.2]) H x m
def OMk (H : Hp) (x : V) : Option Mark → Prop
  | none => x = .non
  | some m => MkAt H x m
def DeedAt (H : Hp) (x : V) : Deed → Prop
  | .back n => ∃ t, x = .ref t ∧ H t = some (.tup [.str "back", vi n])
  | .change m rem beh num txt => ∃ t tr us bx, x = .ref t ∧ H t = some (.tup [.str "change", .str (S m), .ref tr, bx, vi num, .str (S txt)]) ∧ H tr = some (.tup us) ∧ All2 (MkAt H) us rem ∧ OMk H bx beh
theorem MkAt.keep {H H' : Hp} {x : V} {m : Mark} (h : MkAt H x m) (k : TupK H H') : MkAt H' x m := IsRow.same h k
theorem OMk.keep {H H' : Hp} {x : V} {b : Option Mark} (h : OMk H x b) (k : TupK H H') : OMk H' x b := by
  cases b with
  | none => exact h
  | some m => exact MkAt.keep h k
theorem DeedAt.keep {H H' : Hp} {x : V} {d : Deed} (h : DeedAt H x d) (k : TupK H H') : DeedAt H' x d := by
  cases d with
  | back n =>
    obtain ⟨t, e, ht⟩ := h
    exact ⟨t, e, k _ _ ht⟩
  | change m rem beh num txt =>
    obtain ⟨t, tr, us, bx, e, ht, hr, hm, hb⟩ := h
    exact ⟨t, tr, us, bx, e, k _ _ ht, k _ _ hr, hm.mono fun v m h => h.keep k, hb.keep k⟩
theorem DeedAt.tup {H : Hp} {x : V} {d : Deed} (h : DeedAt H x d) : ∃ t xs, x = .ref t ∧ H t = some (.tup xs) := by
  cases d with
  | back n =>
    obtain ⟨t, e, ht⟩ := h
    exact ⟨t, _, e, ht⟩
  | change m rem beh num txt =>
    obtain ⟨t, tr, us, bx, e, ht, _⟩ := h
    exact ⟨t, _, e, ht⟩
/-! ### as data -/
def mD (m : Mark) : PyData := .tuple [di m.1, di m.2]
def oD : Option Mark → PyData
  | none => .none
  | some m => mD m
def pD : Deed → PyData
  | .back n => .tuple [.str "back", di n]
  | .change m rem beh num txt => .tuple [.str "change", .str (S m), .tuple (rem.map mD), oD beh, di num, .str (S txt)]
theorem MkAt.dp {K : PySem.W.Frag} {H : Hp} {x : V} {m : Mark} (h : MkAt H x m) : Dp K H x (mD m) := by
  obtain ⟨t, rfl, ht⟩ := h
  exact .tup (SqT.of ht) (.cons (.int _) (.cons (.int _) .nil))
theorem OMk.dp {K : PySem.W.Frag} {H : Hp} {x : V} {b : Option Mark} (h : OMk H x b) : Dp K H x (oD b) := by
  cases b with
  | none => obtain rfl : x = .non := h; exact .non
  | some m => exact MkAt.dp h
theorem dpAll_of {K : PySem.W.Frag} {H : Hp} {α : Type} {R : V → α → Prop} {f : α → PyData} (hf : ∀ x a, R x a → Dp K H x (f a)) : ∀ {xs : List V} {as : List α}, All2 R xs as → DpAll K H xs (as.map f)
  | _, _, .nil => .nil
  | _, _, .cons h t => .cons (hf _ _ h) (dpAll_of hf t)
theorem DeedAt.dp {K : PySem.W.Frag} {H : Hp} {x : V} {d : Deed} (h : DeedAt H x d) : Dp K H x (pD d) := by
  cases d with
  | back n =>
    obtain ⟨t, rfl, ht⟩ := h
    exact .tup (SqT.of ht) (.cons (.str _) (.cons (.int _) .nil))
  | change m rem beh num txt =>
    obtain ⟨t, tr, us, bx, rfl, ht, hr, hm, hb⟩ := h
    exact .tup (SqT.of ht) (.cons (.str _) (.cons (.str _) (.cons (.tup (SqT.of hr) (dpAll_of (fun x a h => MkAt.dp h) hm)) (.cons hb.dp (.cons (.int _) (.cons (.str _) .nil))))))
/-- codes of characters -/
def okC (l : List Nat) : Prop := ∀ c ∈ l, c < 1114112
structure DOk (d : Deed) : Prop where
  m : ∀ m x b n t, d = .change m x b n t → okC m ∧ okC t ∧ m.length ≤ 100 ∧ x.length ≤ 1000 ∧ t.length ≤ 100
theorem strOk_S {l : List Nat} (h : okC l) : PySem.PyData.strOk (S l) = true := by
  show (S l).cps.all _ = true
  rw [← Array.all_toList]
  exact List.all_eq_true.mpr fun c hc => decide_eq_true (h c hc)
theorem can_marks : ∀ l : List Mark, PyData.canLayAll0 (l.map mD) = true
  | [] => rfl
  | m :: l => by
    show (PyData.canLay0 (mD m) && PyData.canLayAll0 (l.map mD)) = true
    rw [can_marks l]
    rfl
theorem depth_marks : ∀ l : List Mark, PyData.depthAll (l.map mD) ≤ 2
  | [] => Nat.zero_le _
  | m :: l => by
    have h1 := depth_marks l
    have h2 : PyData.depth (mD m) ≤ 2 := by simp [mD, PyData.depth, PyData.depthAll, di]
    show max (PyData.depth (mD m)) (PyData.depthAll (l.map mD)) ≤ 2
    omega
theorem shaped_mark (m : Mark) : SeqAt.shaped (mD m) = true := by
  simp [SeqAt.shaped, mD, PyData.canLay0, PyData.canLayAll0, PyData.depth, PyData.depthAll, di]
theorem shaped_marks (l : List Mark) : SeqAt.shaped (.list (l.map mD)) = true := by
  have h1 := can_marks l
  have h2 := depth_marks l
  simp only [SeqAt.shaped, PyData.canLay0, PyData.depth, Bool.and_eq_true, decide_eq_true_eq]
  exact ⟨h1, decide_eq_true (by omega)⟩
theorem shaped_o (b : Option Mark) : PyData.canLay0 (oD b) = true ∧ PyData.depth (oD b) ≤ 1 := by
  cases b with
  | none => exact ⟨rfl, Nat.zero_le _⟩
  | some m => exact ⟨by simp [oD, mD, PyData.canLay0, PyData.canLayAll0, di], by simp [oD, mD, PyData.depth, PyData.depthAll, di]⟩
theorem shaped_deed {d : Deed} (h : DOk d) : SeqAt.shaped (pD d) = true := by
  cases d with
  | back n =>
    have : PySem.PyData.strOk ("back" : Str) = true := by decide +kernel
    simp [SeqAt.shaped, pD, PyData.canLay0, PyData.canLayAll0, PyData.depth, PyData.depthAll, di, this]
  | change m x b n t =>
    obtain ⟨h1, h2, _⟩ := h.m _ _ _ _ _ rfl
    have e1 := strOk_S h1
    have e2 := strOk_S h2
    have e3 : PySem.PyData.strOk ("change" : Str) = true := by decide +kernel
    have e4 := can_marks x
    have e5 := depth_marks x
    obtain ⟨e6, e7⟩ := shaped_o b
    simp only [SeqAt.shaped, pD, PyData.canLay0, PyData.canLayAll0, PyData.depth, PyData.depthAll, di, e1, e2, e3, e4, e6, Bool.and_self, Bool.and_eq_true, decide_eq_true_eq]
    refine ⟨by simp, ?_⟩
    omega
theorem eqv_mark (a b : Mark) : PyData.eqv (mD a) (mD b) = decide (a = b) := by
  obtain ⟨a1, a2⟩ := a
  obtain ⟨b1, b2⟩ := b
  rw [Bool.eq_iff_iff, decide_eq_true_iff]
  simp [mD, di, PyData.eqv, PyData.eqvAll]
  omega
theorem eqv_back (d : Deed) (p : Nat) : PyData.eqv (pD d) (pD (.back p)) = decide (d = .back p) := by
  cases d with
  | back n =>
    rw [Bool.eq_iff_iff, decide_eq_true_iff]
    simp [pD, di, PyData.eqv, PyData.eqvAll]
    omega
  | change m x b n t => simp [pD, PyData.eqv, PyData.eqvAll]
/-! ### told the same -/
theorem MkAt.same {K : PySem.W.Frag} {H : Hp} {n : Nat} {x y : V} {m : Mark} (h : MkAt H x m) (h' : MkAt H y m) : SameD K H (n + 1) x y := by
  obtain ⟨t, rfl, ht⟩ := h
  obtain ⟨u, rfl, hu⟩ := h'
  exact .row ht hu (by show 2 ≤ 1000000; decide) fun x hx => by
    simp at hx
    rcases hx with e | e <;> rw [e] <;> exact True.intro
theorem OMk.same {K : PySem.W.Frag} {H : Hp} {n : Nat} {x y : V} {b : Option Mark} (h : OMk H x b) (h' : OMk H y b) : SameD K H (n + 1) x y := by
  cases b with
  | none =>
    obtain rfl : x = .non := h
    obtain rfl : y = .non := h'
    exact .leaf True.intro
  | some m => exact MkAt.same h h'
theorem all_same {K : PySem.W.Frag} {H : Hp} {α : Type} {R : V → α → Prop} {n : Nat} (hR : ∀ x y a, R x a → R y a → SameD K H n x y) {xs ys : List V} {as : List α} (h1 : All2 R xs as) (h2 : All2 R ys as) (i : Nat) (u v : V) (hu : xs[i]? = some u) (hv : ys[i]? = some v) : SameD K H n u v := by
  obtain ⟨a, ha, h⟩ := h1.get hu
  obtain ⟨b, hb, h'⟩ := h2.get hv
  rw [ha] at hb
  cases hb
  exact hR _ _ _ h h'
theorem DeedAt.same {K : PySem.W.Frag} {H : Hp} {n : Nat} {x y : V} {d : Deed} (hd : DOk d) (h : DeedAt H x d) (h' : DeedAt H y d) : SameD K H (n + 3) x y := by
  cases d with
  | back n =>
    obtain ⟨t, rfl, ht⟩ := h
    obtain ⟨u, rfl, hu⟩ := h'
    exact .row ht hu (by show 2 ≤ 1000000; decide) fun x hx => by
      simp at hx
      rcases hx with e | e <;> rw [e] <;> exact True.intro
  | change m rem beh num txt =>
    obtain ⟨t, tr, us, bx, rfl, ht, hr, hm, hb⟩ := h
    obtain ⟨t', tr', us', bx', rfl, ht', hr', hm', hb'⟩ := h'
    obtain ⟨_, _, _, hx, _⟩ := hd.m _ _ _ _ _ rfl
    refine .seq (.tup ht) (.tup ht') rfl (by show 6 ≤ 1000000; decide) fun i u v hu hv => ?_
    match i, hu, hv with
    | 0, hu, hv => cases hu; cases hv; exact .leaf True.intro
    | 1, hu, hv => cases hu; cases hv; exact .leaf True.intro
    | 2, hu, hv =>
      cases hu
      cases hv
      exact .seq (.tup hr) (.tup hr') (by rw [hm.len, hm'.len]) (by rw [hm'.len]; omega) (all_same (R := MkAt H) (fun x y a h k => MkAt.same h k) hm hm')
    | 3, hu, hv => cases hu; cases hv; exact OMk.same hb hb'
    | 4, hu, hv => cases hu; cases hv; exact .leaf True.intro
    | 5, hu, hv => cases hu; cases hv; exact .leaf True.intro
    | i + 6, hu, _ => cases hu
/-! ### rows -/
structure RowsAt (H : Hp) (A : Addr) (rs : List Addr) (rows : Rows) : Prop where
  h : H A = some (.lst (rs.map V.ref))
  n : rs.length = 8
  r : ∀ (i : Nat) (a : Addr), rs[i]? = some a → ∃ us, H a = some (.lst us) ∧ All2 (DeedAt H) us (rows i)
theorem RowsAt.keep {H H' : Hp} {A : Addr} {rs : List Addr} {rows : Rows} (R : RowsAt H A rs rows) (s : Same H H') : RowsAt H' A rs rows :=
  ⟨s _ _ R.h, R.n, fun i a h => by obtain ⟨us, h1, h2⟩ := R.r i a h; exact ⟨us, s _ _ h1, h2.mono fun v d h => h.keep (Same.tk s)⟩⟩
theorem RowsAt.get {H : Hp} {A : Addr} {rs : List Addr} {rows : Rows} (R : RowsAt H A rs rows) {i : Nat} (hi : i < 8) : ∃ a us, rs[i]? = some a ∧ (rs.map V.ref)[i]? = some (.ref a) ∧ H a = some (.lst us) ∧ All2 (DeedAt H) us (rows i) := by
  have hl : i < rs.length := by rw [R.n]; exact hi
  have e := List.getElem?_eq_getElem hl
  obtain ⟨us, h1, h2⟩ := R.r i _ e
  exact ⟨rs[i], us, e, by rw [List.getElem?_map, e]; rfl, h1, h2⟩
/-- few deeds, of few characters -/
def Few (rows : Rows) : Prop := ∀ r, r < 8 → (rows r).length ≤ 100 ∧ ∀ d ∈ rows r, DOk d
theorem flat_len {α β : Type} {f : α → List β} {k : Nat} : ∀ {l : List α}, (∀ a ∈ l, (f a).length ≤ k) → (l.flatMap f).length ≤ l.length * k
  | [], _ => by simp
  | a :: l, h => by
    have h1 := h a (List.mem_cons_self ..)
    have h2 := flat_len (l := l) fun x hx => h x (List.mem_cons_of_mem _ hx)
    rw [List.flatMap_cons, List.length_append, List.length_cons, Nat.add_mul]
    omega
theorem changes_len {rows : Rows} (h : Few rows) (m : List Nat) : (changes rows m).length ≤ 800 := by
  have := flat_len (l := List.range 8) (f := chR rows m) (k := 100) fun r hr => by
    unfold chR
    rw [List.length_map]
    refine Nat.le_trans (List.length_filter_le ..) ?_
    rw [List.length_zip, forces_len, Nat.min_self]
    exact (h r (List.mem_range.mp hr)).1
  rw [List.length_range] at this
  exact this
theorem entF_len {rows : Rows} (h : Few rows) {m : List Nat} {c : Chg} (hc : c ∈ changes rows m) : (entF c).length ≤ 100 := by
  obtain ⟨h1, h2, h3⟩ := mem_changes hc
  unfold entF
  rw [List.length_map]
  cases hd : c.2.1 with
  | back => exact Nat.zero_le _
  | change m x b n t =>
    have := ((h c.1 h1).2 _ h2).m _ _ _ _ _ hd
    show (ins c.1 n b t).length ≤ 100
    rw [ins_len]
    exact this.2.2.2.2
theorem found_len {rows : Rows} (h : Few rows) (m : List Nat) : (found rows m).length ≤ 80000 := by
  have := flat_len (l := changes rows m) (f := entF) (k := 100) fun c hc => entF_len h hc
  have h2 := changes_len h m
  exact Nat.le_trans this (Nat.mul_le_mul_right 100 h2)
theorem removed_len {rows : Rows} (h : Few rows) (m : List Nat) : (removed rows m).length ≤ 800000 := by
  have := flat_len (l := changes rows m) (f := fun c : Chg => if c.2.2 then remD c.2.1 else []) (k := 1000) fun c hc => by
    obtain ⟨h1, h2, h3⟩ := mem_changes hc
    split
    · cases hd : c.2.1 with
      | back => exact Nat.zero_le _
      | change m x b n t => exact (((h c.1 h1).2 _ h2).m _ _ _ _ _ hd).2.2.2.1
    · exact Nat.zero_le _
  have h2 := changes_len h m
  exact Nat.le_trans this (Nat.mul_le_mul_right 1000 h2)
end DM
namespace HR
open PySem PySem.Spec PyProof.Rows L2 SX HL
section
variable {X : Cx} {e : Expr} {te ts : TE} {p2 pos p3 p4 : Pos} {kk : Nat}
theorem vals_reverse {xs : List V} {us : List Value} (r : Vals xs us) : Vals xs.reverse us.reverse := by
  induction r with
  | nil => exact .nil
  | @cons x u xs us h r ih =>
    rw [List.reverse_cons, List.reverse_cons]
    exact ih.append (.cons h .nil)
/-- xs[::-1] of a list -/
def tRevL (K : PySem.W.Frag) (te ts : TE) : TE := fun σ H Q => te σ H fun x H1 => ts σ H1 fun y H2 => y = .int (-1) ∧ ∃ a xs, x = .ref a ∧ SqL K H2 a xs ∧ ∀ p, H2 p = none → Q (.ref p) (upd H2 p (.lst xs.reverse))
theorem pe_revL (he : PE X e te) (hst : PE X (.UnaryOp .USub (.Constant (.int 1) kk p4) p3) ts) : PE X (.Subscript e (.Slice none none (some (.UnaryOp .USub (.Constant (.int 1) kk p4) p3)) p2) pos) (tRevL X.K te ts) := by
  refine ⟨fun pins s σ H Q I0 h0 => Subscript_ (thn (he.run pins s σ H _ I0 h0) fun v s1 ⟨x, H1, I1, r1, q1⟩ => wpAny_Slice ?_)⟩
  rw [evalPart_none]
  refine wpAny_pure ?_
  refine wpAny_pure ?_
  rw [evalPart_some]
  refine thn (hst.run pins s1 σ H1 _ I1 q1) fun w s2 ⟨y, H2, I2, r2, q2⟩ => ?_
  obtain ⟨rfl, a, xs, rfl, hx, q⟩ := q2
  obtain ⟨t, rfl⟩ := r2
  obtain rfl : v = Value.ref a := r1
  have I4 : Inv X pins σ H2 { s2 with heap := s2.heap.push { cls := .type "slice", data := .fields #[.none, .none, .int (-1) t] } } := I2.kept (t' := s2.toks) fun b ob g => Heap.get?_push_of_some _ g
  obtain ⟨its, r, pl, hz⟩ := I4.list hx
  have hlen := r.length
  refine tail_any (ops := [.ref a, .ref s2.heap.objs.size]) pl.isList.typeIs slot_list_getitem.lookup ?_ (by with_unfolding_all rfl)
  refine wpAny_getItem_list_slice (lo := none) (hi := none) (st := some (-1)) pl.isList (Heap.IsSliceOf.new ..) .none .none (.int (-1) t) (by decide) ?_ (by rw [List.size_toArray]; omega)
  rw [PySem.W.krv_pick]
  refine ⟨.ref _, _, I4.laid (t' := s2.toks) (o := .lst xs.reverse) (fun b ob g => Heap.get?_push_of_some _ g) (Nat.le_refl _) ?_, rfl, q _ (I4.hok.fresh (Nat.le_refl _))⟩
  exact ⟨by rw [List.length_reverse]; omega, _, 0, vals_reverse r, Heap.get?_push_size _ rfl⟩
end
end HR
namespace DM
open PySem PySem.Spec PyProof.Rows L2 SX HL
/-! ## the row of a module: sorting, putting -/
theorem zip_k {α : Type} (key : α → PyData) : ∀ (es : List α) (us : List V), (es.zip us).map (fun z => (z.2, key z.1)) = us.zip (es.map key)
  | [], us => by cases us <;> rfl
  | k :: ks, [] => rfl
  | k :: ks, t :: ts => congrArg (_ :: ·) (zip_k key ks ts)
theorem byKey_rows {α : Type} (es : List α) (us : List V) (key : α → PyData) : ∃ zs : List (α × V), zs.Perm (es.zip us) ∧ HS.byKey us (es.map key) = zs.map (fun z => z.2) ∧
    zs.Pairwise fun a b => PySem.W.dataLe false (Prod.snd (α := V)) (a.2, key a.1) (b.2, key b.1) = true := by
  refine ⟨(es.zip us).mergeSort (PySem.W.sortLe (PyProof.Rows.listOrd PyProof.Rows.itemOrd) false fun z : α × V => PySem.W.keyToks (key z.1)), List.mergeSort_perm _ _, ?_, ?_⟩
  · unfold HS.byKey
    rw [← zip_k, ← PySem.W.sort_maps (r := PySem.W.sortLe (PyProof.Rows.listOrd PyProof.Rows.itemOrd) false fun z : α × V => PySem.W.keyToks (key z.1)) (fun z : α × V => (z.2, key z.1)) (fun _ _ _ _ => rfl), List.map_map]
    rfl
  · exact PySem.W.sort_pairwise (PySem.W.sortLe_total _ _ _) _
theorem mD_alike (a b : Mark) : PySem.W.alike (mD a) (mD b) = true := by
  simp [mD, di, PySem.W.alike, PySem.W.alikeAll]
theorem mD_le {a b : Mark} {x y : V} (h : PySem.W.dataLe false (Prod.snd (α := V)) (x, mD a) (y, mD b) = true) : a = b ∨ mlt a b := by
  unfold PySem.W.dataLe PySem.W.sortLe at h
  simp [mD, di, PySem.W.keyToks, PySem.W.keyToksAll] at h
  rw [PyProof.Rows.lex_cons, PyProof.Rows.lex_cons, PyProof.Rows.lex_cons, PyProof.Rows.lex_cons] at h
  have e1 : itemOrd.blt (Sum.inl (1 : Int)) (Sum.inl (1 : Int)) = false := by decide
  have e2 : ∀ a b : Int, itemOrd.blt (Sum.inl a) (Sum.inl b) = decide (a < b) := fun _ _ => rfl
  rw [e1, e2, e2, e2, e2] at h
  simp only [Bool.not_false, Bool.true_and, Bool.false_or, Bool.or_eq_false_iff, Bool.and_eq_false_iff, Bool.not_eq_false', decide_eq_true_eq, decide_eq_false_iff_not] at h
  obtain ⟨a1, a2⟩ := a
  obtain ⟨b1, b2⟩ := b
  unfold mlt
  simp only at h ⊢
  by_cases q : a1 = b1 ∧ a2 = b2
  · exact .inl (Prod.ext q.1 q.2)
  · refine .inr ?_
    omega
theorem srt_of {rows : Rows} {m : List Nat} (G : Good rows) {us : List V} {zs : List (EntF × V)} (hl : us.length = (found rows m).length) (hp : zs.Perm ((found rows m).zip us))
    (ho : zs.Pairwise fun a b => PySem.W.dataLe false (Prod.snd (α := V)) (a.2, mD a.1.1) (b.2, mD b.1.1) = true) : Srt rows m (zs.map (·.1)) := by
  have h1 : (zs.map (·.1)).Perm (found rows m) := by
    have := hp.map (·.1)
    rwa [List.map_fst_zip (by omega)] at this
  refine ⟨h1, ?_⟩
  have h2 : ((zs.map (·.1)).map (fun e : EntF => e.1)).Nodup := (h1.map (fun e : EntF => e.1)).nodup_iff.mpr (marks_nodup G m)
  rw [List.map_map] at h2
  have h3 : zs.Pairwise fun a b => a.1.1 ≠ b.1.1 := List.pairwise_map.mp h2
  rw [List.pairwise_map]
  exact (List.Pairwise.and ho h3).imp fun {a b} h => (mD_le h.1).resolve_left h.2
theorem all2_zip {α β : Type} {R : α → β → Prop} : ∀ {xs : List α} {ys : List β}, All2 R xs ys → ∀ z ∈ ys.zip xs, R z.2 z.1
  | _, _, .nil, z, h => by cases h
  | _, _, .cons h t, z, hz => by
    rcases List.mem_cons.mp hz with e | hz
    · rw [e]; exact h
    · exact all2_zip t z hz
theorem all2_of_zip {α β : Type} {R : α → β → Prop} : ∀ {zs : List (β × α)}, (∀ z ∈ zs, R z.2 z.1) → All2 R (zs.map (·.2)) (zs.map (·.1))
  | [], _ => .nil
  | z :: zs, h => .cons (h z (List.mem_cons_self ..)) (all2_of_zip fun y hy => h y (List.mem_cons_of_mem _ hy))
theorem insertIdx_eq {α : Type} (x : α) : ∀ (i : Nat) (l : List α), i ≤ l.length → l.insertIdx i x = l.take i ++ [x] ++ l.drop i
  | 0, l, _ => rfl
  | i + 1, [], h => absurd h (Nat.not_succ_le_zero _)
  | i + 1, a :: l, h => by
    show a :: l.insertIdx i x = a :: (l.take i ++ [x] ++ l.drop i)
    rw [insertIdx_eq x i l (Nat.le_of_succ_le_succ h)]
theorem all2_ins {α β : Type} {R : α → β → Prop} {x : α} {y : β} (h : R x y) : ∀ {xs : List α} {ys : List β}, All2 R xs ys → ∀ i, All2 R (xs.take i ++ [x] ++ xs.drop i) (ys.take i ++ [y] ++ ys.drop i)
  | _, _, .nil, i => by
    rw [List.take_nil, List.drop_nil, List.take_nil, List.drop_nil]
    exact .cons h .nil
  | _, _, .cons h1 t, 0 => .cons h (.cons h1 t)
  | _, _, .cons h1 t, i + 1 => .cons h1 (all2_ins h t i)
theorem all2_app {α β : Type} {R : α → β → Prop} : ∀ {xs : List α} {ys : List β} {xs' : List α} {ys' : List β}, All2 R xs ys → All2 R xs' ys' → All2 R (xs ++ xs') (ys ++ ys')
  | _, _, _, _, .nil, h => h
  | _, _, _, _, .cons h1 t, h => .cons h1 (all2_app t h)
theorem idx_none {l : List Mark} {x y : Mark} {m : Nat} (h : m < l.idxOf x) (hy : l[m]? = some y) : y ≠ x := fun e => by
  subst e
  obtain ⟨h1, h2⟩ := List.getElem?_eq_some_iff.mp hy
  have := List.not_of_lt_findIdx (p := fun x : Mark => x == y) (xs := l) h
  rw [h2] at this
  simp at this
def EntFP (H : Hp) (x : V) (e : EntF) : Prop := ∃ t xm xb, x = .ref t ∧ H t = some (.tup [xm, xb, .str (S [e.2.2.1]), .bl e.2.2.2]) ∧ MkAt H xm e.1 ∧ OMk H xb e.2.1
def CelP (H : Hp) (x : V) (c : Cel) : Prop := ∃ t xm, x = .ref t ∧ H t = some (.tup [xm, .str (S [c.2.1]), .bl c.2.2]) ∧ MkAt H xm c.1
theorem EntFP.keep {H H' : Hp} {x : V} {c : EntF} (h : EntFP H x c) (k : TupK H H') : EntFP H' x c := by
  obtain ⟨t, xm, xb, e, ht, h1, h2⟩ := h
  exact ⟨t, xm, xb, e, k _ _ ht, h1.keep k, h2.keep k⟩
theorem CelP.keep {H H' : Hp} {x : V} {c : Cel} (h : CelP H x c) (k : TupK H H') : CelP H' x c := by
  obtain ⟨t, xm, e, ht, h1⟩ := h
  exact ⟨t, xm, e, k _ _ ht, h1.keep k⟩
theorem extN_tk {H H' : Hp} (e : LamX.ExtN H H') : TupK H H' := fun a o h => e a _ h fun ps z => nomatch z
theorem RowsAt.keepN {H H' : Hp} {A : Addr} {rs : List Addr} {rows : Rows} (R : RowsAt H A rs rows) (s : LamX.ExtN H H') : RowsAt H' A rs rows :=
  ⟨s _ _ R.h (fun ps z => nomatch z), R.n, fun i a h => by obtain ⟨us, h1, h2⟩ := R.r i a h; exact ⟨us, s _ _ h1 (fun ps z => nomatch z), h2.mono fun v d h => h.keep (extN_tk s)⟩⟩
/-- as before but for the list at l -/
def ButL (l : Addr) (H H' : Hp) : Prop := ∀ a o, H a = some o → a ≠ l → H' a = some o
theorem ButL.refl {l : Addr} {H : Hp} : ButL l H H := fun _ _ h _ => h
theorem ButL.trans {l : Addr} {H H1 H2 : Hp} (a : ButL l H H1) (b : ButL l H1 H2) : ButL l H H2 := fun x o h n => b x o (a x o h n) n
theorem Same.but {l : Addr} {H H' : Hp} (s : Same H H') : ButL l H H' := fun a o h _ => s a o h
theorem ButL.upd {l : Addr} {H : Hp} {o : HO} : ButL l H (upd H l o) := fun a _ h n => by rw [upd_ne n]; exact h
theorem ButL.tk {l : Addr} {H H' : Hp} {xs : List V} (h : H l = some (.lst xs)) (b : ButL l H H') : TupK H H' := fun a o e => b a _ e fun z => by rw [z, h] at e; cases e
theorem ButL.same {l : Addr} {H H1 H2 : Hp} (h : H l = none) (s : Same H H1) (b : ButL l H1 H2) : Same H H2 := fun a o e => b a _ (s a o e) (ne_of_none e h)
theorem flat_take {α β : Type} {f : α → List β} {l : List α} {i : Nat} {c : α} (h : l[i]? = some c) : (l.take (i + 1)).flatMap f = (l.take i).flatMap f ++ f c := by
  rw [take_snoc h, List.flatMap_append, List.flatMap_singleton]
def remF (c : Chg) : List Mark := if c.2.2 then remD c.2.1 else []
theorem removed_eq (rows : Rows) (m : List Nat) : removed rows m = (changes rows m).flatMap remF := rfl
def toF (f : Bool) (e : Ent) : EntF := (e.1, e.2.1, e.2.2, f)
theorem entF_eq (c : Chg) : entF c = (entD c.1 c.2.1).map (toF c.2.2) := rfl
theorem pre_len {α β : Type} (f : α → List β) (l : List α) (i : Nat) : ((l.take i).flatMap f).length ≤ (l.flatMap f).length := by
  have : l.flatMap f = (l.take i).flatMap f ++ (l.drop i).flatMap f := by rw [← List.flatMap_append, List.take_append_drop]
  rw [this, List.length_append]
  omega
theorem tabs_but {T : List (Addr × Str)} {l : Addr} {H H' : Hp} {xs : List V} (h : LamX.Tabs T H) (hl : H l = some (.lst xs)) (b : ButL l H H') : LamX.Tabs T H' := fun p hp => by
  obtain ⟨ps, h1, h2, h3⟩ := h p hp
  refine ⟨ps, b _ _ h1 (fun e => by rw [e, hl] at h1; cases h1), h2, fun pos cv hc => ?_⟩
  obtain ⟨c, e, hc⟩ := h3 pos cv hc
  refine ⟨c, e, b _ _ hc (fun z => by rw [z, hl] at hc; cases hc)⟩
theorem any_eqv (rm : List Mark) (x : Mark) : ((rm.map mD).any fun z => PyData.eqv z (mD x)) = decide (x ∈ rm) := by
  rw [Bool.eq_iff_iff, decide_eq_true_iff, List.any_eq_true]
  constructor
  · rintro ⟨z, hz, e⟩
    obtain ⟨y, hy, rfl⟩ := List.mem_map.mp hz
    rw [eqv_mark, decide_eq_true_iff] at e
    rw [← e]
    exact hy
  · intro h
    exact ⟨mD x, List.mem_map.mpr ⟨x, h, rfl⟩, by rw [eqv_mark]; exact decide_eq_true rfl⟩
theorem put_step {H H' : Hp} {us : List V} {es : List EntF} {rm : List Mark} {i : Nat} {e : EntF} {t : Addr} {xm : V} {bb : Bool} (he : es[i]? = some e) (hu : All2 (CelP H) us (build rm (es.take i))) (k : TupK H H')
    (hs : ∀ x, e.2.1 = some x → x ∈ (build rm (es.take i)).map (·.1)) (hb : bb = (e.2.2.2 && !decide (e.1 ∈ rm))) (ht : H' t = some (.tup [xm, .str (S [e.2.2.1]), .bl bb])) (hm : MkAt H' xm e.1) :
    All2 (CelP H') (us.take (slot e.2.1 (build rm (es.take i))) ++ [.ref t] ++ us.drop (slot e.2.1 (build rm (es.take i)))) (build rm (es.take (i + 1))) := by
  rw [take_snoc he, build_snoc]
  unfold put
  rw [insertIdx_eq _ _ _ (slot_le hs)]
  subst hb
  exact all2_ins ⟨t, xm, rfl, ht, hm⟩ (hu.mono fun v e h => h.keep k) _
theorem all2_take {α β : Type} {R : α → β → Prop} : ∀ {xs : List α} {ys : List β}, All2 R xs ys → ∀ i, All2 R (xs.take i) (ys.take i)
  | _, _, .nil, i => by
    rw [List.take_nil, List.take_nil]
    exact .nil
  | _, _, .cons h1 t, 0 => .nil
  | _, _, .cons h1 t, i + 1 => .cons h1 (all2_take t i)
theorem all2_some {H : Hp} : ∀ {us : List V} {x : List Mark}, All2 (MkAt H) us x → All2 (OMk H) us (x.map some)
  | _, _, .nil => .nil
  | _, _, .cons h t => .cons h (all2_some t)
structure Fits (W : Rows) (r : Nat) (d : Deed) : Prop where
  ok : DOk d
  num : ∀ m x b n t, d = .change m x b n t → ∀ e ∈ W r, endD e ≤ n
  nam : ∀ m x b n t, d = .change m x b n t → ∀ y ∈ x ++ b.toList, y ∈ marks W m ∧ y.1 < n
theorem hu65 {k : Nat} {A : Around} (hr : Room k A) : A.units + 65 < cLine := by
  have := hr.un
  omega
theorem build_len (rm : List Mark) {rows : Rows} {m : List Nat} {es : List EntF} (G : Good rows) (S : Srt rows m es) {i : Nat} (hi : i ≤ es.length) : (build rm (es.take i)).length = i := by
  have := (build_perm G S rm i hi).1.length_eq
  rw [List.length_map, List.length_map, List.length_take] at this
  omega
end DM
namespace DM
open PySem PySem.Spec PyProof.Rows L2 SX HL
/-! ## what replicas have seen -/
def view (R : Rows) (c : Nat → Nat) : Rows := fun r => (R r).take (c r)
def Num (l : List Deed) : Prop := l.Pairwise fun a b => (∃ m x c n t, b = .change m x c n t) → endD a ≤ numD b
structure Inv (R : Rows) (M : Nat) (cnt : Nat → Nat → Nat) (k : Nat) : Prop where
  len : ∀ r, (R r).length ≤ k
  dok : ∀ r, ∀ d ∈ R r, DOk d
  num : ∀ r, Num (R r)
  le : ∀ p, p < M → ∀ j, cnt p j ≤ (R j).length
  own : ∀ p, p < M → cnt p p = (R p).length
  nam : ∀ p, p < M → ∀ r, r < 8 → ∀ m x b n t, Deed.change m x b n t ∈ view R (cnt p) r → ∀ y ∈ x ++ b.toList, y ∈ marks (view R (cnt p)) m ∧ y.1 < n
theorem Inv.good {R : Rows} {M k p : Nat} {cnt : Nat → Nat → Nat} (I : Inv R M cnt k) (hp : p < M) : Good (view R (cnt p)) :=
  ⟨fun r _ => (I.num r).sublist (List.take_sublist _ _), I.nam p hp⟩
theorem Inv.few {R : Rows} {M k : Nat} {cnt : Nat → Nat → Nat} (I : Inv R M cnt k) (hk : k ≤ 100) : Few R := fun r _ => ⟨Nat.le_trans (I.len r) hk, I.dok r⟩
theorem Few.view {R : Rows} (h : Few R) (c : Nat → Nat) : Few (view R c) := fun r hr => ⟨(by show ((R r).take (c r)).length ≤ 100; rw [List.length_take]; exact Nat.le_trans (Nat.min_le_right ..) (h r hr).1), fun d hd => (h r hr).2 d (List.mem_of_mem_take hd)⟩
theorem mem_take_max {l : List Deed} {a b : Nat} {d : Deed} (h : d ∈ l.take (max a b)) : d ∈ l.take a ∨ d ∈ l.take b := by
  rcases Nat.le_total a b with e | e
  · rw [Nat.max_eq_right e] at h; exact .inr h
  · rw [Nat.max_eq_left e] at h; exact .inl h
theorem mem_take_mono {l : List Deed} {a b : Nat} {d : Deed} (h : d ∈ l.take a) (e : a ≤ b) : d ∈ l.take b := by
  obtain ⟨i, hi⟩ := List.mem_iff_getElem?.mp h
  rw [List.getElem?_take] at hi
  split at hi
  · exact List.mem_of_getElem? (i := i) (by rw [List.getElem?_take, if_pos (by omega)]; exact hi)
  · cases hi
theorem Inv.merge {R : Rows} {M k p q : Nat} {cnt : Nat → Nat → Nat} (I : Inv R M cnt k) (hp : p < M) (hq : q < M) : Inv R M (fun p' j => if p' = p then max (cnt p j) (cnt q j) else cnt p' j) k := by
  refine ⟨I.len, I.dok, I.num, fun p' h j => ?_, fun p' h => ?_, fun p' h => ?_⟩
  · have h1 := I.le p hp j
    have h2 := I.le q hq j
    have h3 := I.le p' h j
    show (if p' = p then _ else _) ≤ _
    split <;> omega
  · show (if p' = p then _ else _) = _
    split
    · rename_i e
      subst e
      have h1 := I.own p' hp
      have h2 := I.le q hq p'
      omega
    · exact I.own p' h
  · by_cases e : p' = p
    · subst e
      have ee : view R (fun j => if p' = p' then max (cnt p' j) (cnt q j) else cnt p' j) = view R (fun j => max (cnt p' j) (cnt q j)) := by
        unfold view
        funext r
        simp
      show ∀ r, r < 8 → ∀ m x b n t, Deed.change m x b n t ∈ view R (fun j => if p' = p' then max (cnt p' j) (cnt q j) else cnt p' j) r → ∀ y ∈ x ++ b.toList, y ∈ marks (view R (fun j => if p' = p' then max (cnt p' j) (cnt q j) else cnt p' j)) m ∧ y.1 < n
      rw [ee]
      intro r hr m x b n t hd y hy
      rcases mem_take_max hd with hd | hd
      · obtain ⟨h1, h2⟩ := I.nam p' hp r hr m x b n t hd y hy
        exact ⟨marks_mono (fun r _ d hd => mem_take_mono hd (Nat.le_max_left _ _)) h1, h2⟩
      · obtain ⟨h1, h2⟩ := I.nam q hq r hr m x b n t hd y hy
        exact ⟨marks_mono (fun r _ d hd => mem_take_mono hd (Nat.le_max_right _ _)) h1, h2⟩
    · have ee : (fun j => if p' = p then max (cnt p j) (cnt q j) else cnt p' j) = cnt p' := by
        funext j
        rw [if_neg e]
      show ∀ r, r < 8 → ∀ m x b n t, Deed.change m x b n t ∈ view R (fun j => if p' = p then max (cnt p j) (cnt q j) else cnt p' j) r → ∀ y ∈ x ++ b.toList, y ∈ marks (view R (fun j => if p' = p then max (cnt p j) (cnt q j) else cnt p' j)) m ∧ y.1 < n
      rw [ee]
      exact I.nam p' h
def addR (R : Rows) (p : Nat) (δ : Deed) : Rows := fun r => if r = p then R p ++ [δ] else R r
def addC (R : Rows) (p : Nat) (cnt : Nat → Nat → Nat) : Nat → Nat → Nat := fun p' j => if p' = p ∧ j = p then (R p).length + 1 else cnt p' j
theorem Inv.add {R : Rows} {M k p : Nat} {cnt : Nat → Nat → Nat} {δ : Deed} (I : Inv R M cnt k) (hp : p < M) (hp8 : p < 8) (F : Fits (view R (cnt p)) p δ) : Inv (addR R p δ) M (addC R p cnt) (k + 1) := by
  have hown : view R (cnt p) p = R p := by
    unfold view
    rw [I.own p hp, List.take_length]
  have vself : view (addR R p δ) (addC R p cnt p) = addR (view R (cnt p)) p δ := by
    funext r
    unfold view addR addC
    by_cases e : r = p
    · subst e
      rw [if_pos rfl, if_pos ⟨rfl, rfl⟩, if_pos rfl]
      show _ = (R r).take (cnt r r) ++ [δ]
      rw [I.own r hp, List.take_length, List.take_of_length_le (by rw [List.length_append]; exact Nat.le_refl _)]
    · rw [if_neg e, if_neg (fun z => e z.2), if_neg e]
  have vother : ∀ p', p' < M → p' ≠ p → view (addR R p δ) (addC R p cnt p') = view R (cnt p') := fun p' h e => by
    funext r
    unfold view addR addC
    rw [if_neg (fun z => e z.1)]
    by_cases e2 : r = p
    · subst e2
      rw [if_pos rfl, List.take_append_of_le_length (I.le p' h r)]
    · rw [if_neg e2]
  refine ⟨fun r => ?_, fun r d hd => ?_, fun r => ?_, fun p' h j => ?_, fun p' h => ?_, fun p' h => ?_⟩
  · unfold addR
    have h1 := I.len r
    have h2 := I.len p
    split
    · rw [List.length_append]; exact Nat.succ_le_succ h2
    · omega
  · unfold addR at hd
    split at hd
    · rcases List.mem_append.mp hd with hd | hd
      · exact I.dok p d hd
      · rw [List.mem_singleton.mp hd]; exact F.ok
    · exact I.dok r d hd
  · unfold addR
    split
    · refine List.pairwise_append.mpr ⟨I.num p, List.pairwise_singleton .., fun a ha b hb => ?_⟩
      rw [List.mem_singleton.mp hb]
      rintro ⟨m, x, c, n, t, rfl⟩
      exact F.num _ _ _ _ _ rfl a (by rw [hown]; exact ha)
    · exact I.num r
  · unfold addR addC
    have h3 := I.le p' h j
    split
    · rename_i e
      rw [if_pos e.2, List.length_append]
      exact Nat.le_refl _
    · split
      · rename_i e
        subst e
        rw [List.length_append]
        exact Nat.le_succ_of_le h3
      · exact h3
  · unfold addR addC
    by_cases e : p' = p
    · subst e
      rw [if_pos ⟨rfl, rfl⟩, if_pos rfl, List.length_append]
      rfl
    · rw [if_neg (fun z => e z.1), if_neg e]
      exact I.own p' h
  · by_cases e : p' = p
    · subst e
      rw [vself]
      intro r hr m x b n t hd y hy
      have up : ∀ {m : List Nat} {y : Mark}, y ∈ marks (view R (cnt p')) m → y ∈ marks (addR (view R (cnt p')) p' δ) m := fun h => marks_mono (fun r _ d hd => by
        unfold addR
        split
        · rename_i e; subst e; exact List.mem_append_left _ hd
        · exact hd) h
      unfold addR at hd
      split at hd
      · rcases List.mem_append.mp hd with hd | hd
        · obtain ⟨h1, h2⟩ := I.nam p' hp p' hp8 m x b n t hd y hy
          exact ⟨up h1, h2⟩
        · obtain ⟨h1, h2⟩ := F.nam _ _ _ _ _ (List.mem_singleton.mp hd).symm y hy
          exact ⟨up h1, h2⟩
      · obtain ⟨h1, h2⟩ := I.nam p' hp r hr m x b n t hd y hy
        exact ⟨up h1, h2⟩
    · rw [vother p' h e]
      exact I.nam p' h
theorem Inv.start (M : Nat) : Inv (fun _ => []) M (fun _ _ => 0) 0 := by
  refine ⟨fun _ => Nat.le_refl _, fun _ _ h => (by cases h), fun _ => List.Pairwise.nil, fun _ _ _ => Nat.le_refl _, fun _ _ => rfl, fun _ _ _ _ _ _ _ _ _ h => ?_⟩
  unfold view at h
  rw [List.take_nil] at h
  cases h
/-- all rows together: who writes has seen all that he wrote -/
theorem Inv.goodR {R : Rows} {M k : Nat} {cnt : Nat → Nat → Nat} (I : Inv R M cnt k) (hM : M ≤ 8) (emp : ∀ r, M ≤ r → R r = []) : Good R :=
  ⟨fun r _ => I.num r, fun r hr m x b n t hd y hy => by
    by_cases h : r < M
    · have hv : Deed.change m x b n t ∈ view R (cnt r) r := by
        unfold view
        rw [I.own r h, List.take_length]
        exact hd
      obtain ⟨h1, h2⟩ := I.nam r h r hr m x b n t hv y hy
      exact ⟨marks_mono (fun q _ d hd => List.mem_of_mem_take hd) h1, h2⟩
    · rw [emp r (by omega)] at hd
      cases hd⟩
end DM
namespace DM
open PySem PySem.Spec PyProof.Rows L2 SX HL
/-! ## an object of the class in the heap -/
theorem f12 : ¬ (("rows" : Str) = "_marks") := by decide +kernel
theorem f13 : ¬ (("rows" : Str) = "_ends") := by decide +kernel
theorem f23 : ¬ (("_marks" : Str) = "_ends") := by decide +kernel
def dflds (A mk en : Addr) : List (Str × V) := [("rows", .ref A), ("_marks", .ref mk), ("_ends", .ref en)]
theorem dflds_rows (A mk en : Addr) : (dflds A mk en).lookup ("rows" : Str) = some (.ref A) := lkF_eq _ _ _
theorem dflds_marks (A mk en : Addr) : (dflds A mk en).lookup ("_marks" : Str) = some (.ref mk) := by
  unfold dflds
  rw [lkF_ne (fun e => f12 e.symm), lkF_eq]
theorem dflds_ends (A mk en : Addr) : (dflds A mk en).lookup ("_ends" : Str) = some (.ref en) := by
  unfold dflds
  rw [lkF_ne (fun e => f13 e.symm), lkF_ne (fun e => f23 e.symm), lkF_eq]
theorem dflds_no (A mk en : Addr) {m : Str} (h1 : ¬ m = "rows") (h2 : ¬ m = "_marks") (h3 : ¬ m = "_ends") : (dflds A mk en).lookup m = none := by
  unfold dflds
  rw [lkF_ne h1, lkF_ne h2, lkF_ne h3]
  rfl
structure DSt (cD : Addr) (H : Hp) (p dx A mk en : Addr) (rs : List Addr) (kvs : List (Key × V)) (es : List Nat) (R : Rows) (k : Nat) (N : Addr → Prop) : Prop where
  hp : H p = some (.ins cD dx (dflds A mk en))
  hr : RowsAt H A rs R
  nd : rs.Nodup
  nA : ∀ a ∈ rs, a ≠ A ∧ a ≠ en
  ne : A ≠ en
  hm : H mk = some (.dK kvs)
  km : kvs.length ≤ k
  mv : ∀ kv ∈ kvs, ∃ b ps, kv.2 = .ref b ∧ H b = some (.dT ps) ∧ ps.length ≤ 100 * k ∧ N b
  he : H en = some (.lst (es.map vi))
  le : es.length = 8
  Np : N p
  NA : N A
  Nm : N mk
  Ne : N en
  Nr : ∀ a ∈ rs, N a
  nt : ∀ z, N z → ∃ o, H z = some o ∧ ∀ xs, o ≠ .tup xs
  len : ∀ r, (R r).length ≤ k
section
variable {cD : Addr} {H H' : Hp} {p dx A mk en : Addr} {rs : List Addr} {kvs : List (Key × V)} {es : List Nat} {R : Rows} {k : Nat} {N : Addr → Prop}
/-- what N does not hold stays: so tuples stay -/
theorem DSt.tk (S : DSt cD H p dx A mk en rs kvs es R k N) (f : ∀ z o, H z = some o → ¬ N z → H' z = some o) : TupK H H' := fun a xs h => f a _ h fun n => by
  obtain ⟨o, h1, h2⟩ := S.nt a n
  rw [h] at h1
  cases h1
  exact h2 _ rfl
theorem DSt.stay (S : DSt cD H p dx A mk en rs kvs es R k N) (f : ∀ z o, H z = some o → N z → H' z = some o) (t : TupK H H') : DSt cD H' p dx A mk en rs kvs es R k N := by
  refine ⟨f _ _ S.hp S.Np, ⟨f _ _ S.hr.h S.NA, S.hr.n, fun i a h => ?_⟩, S.nd, S.nA, S.ne, f _ _ S.hm S.Nm, S.km, fun kv hkv => ?_, f _ _ S.he S.Ne, S.le, S.Np, S.NA, S.Nm, S.Ne, S.Nr, fun z hz => ?_, S.len⟩
  · obtain ⟨us, h1, h2⟩ := S.hr.r i a h
    exact ⟨us, f _ _ h1 (S.Nr a (List.mem_of_getElem? h)), h2.mono fun v d h => h.keep t⟩
  · obtain ⟨b, ps, h1, h2, h3, h4⟩ := S.mv kv hkv
    exact ⟨b, ps, h1, f _ _ h2 h4, h3, h4⟩
  · obtain ⟨o, h1, h2⟩ := S.nt z hz
    exact ⟨o, f _ _ h1 hz, h2⟩
theorem DSt.same (S : DSt cD H p dx A mk en rs kvs es R k N) (s : Same H H') : DSt cD H' p dx A mk en rs kvs es R k N := S.stay (fun z o h _ => s z o h) (Same.tk s)
theorem DSt.row (S : DSt cD H p dx A mk en rs kvs es R k N) {r : Nat} {ra : Addr} {us : List V} {x : V} {δ : Deed} (hra : rs[r]? = some ra) (hu : H ra = some (.lst us)) (hx : DeedAt H x δ) :
    DSt cD (upd H ra (.lst (us ++ [x]))) p dx A mk en rs kvs es (addR R r δ) (k + 1) N := by
  have hm := List.mem_of_getElem? hra
  obtain ⟨n1, n2⟩ := S.nA ra hm
  have t : TupK H (upd H ra (.lst (us ++ [x]))) := tk_upd fun xs e => by rw [hu] at e; cases e
  have f : ∀ z o, H z = some o → z ≠ ra → (upd H ra (.lst (us ++ [x]))) z = some o := fun z o h n => by rw [upd_ne n]; exact h
  refine ⟨f _ _ S.hp (fun e => by rw [← e, S.hp] at hu; cases hu), ⟨f _ _ S.hr.h fun e => n1 e.symm, S.hr.n, fun i a h => ?_⟩, S.nd, S.nA, S.ne, f _ _ S.hm (fun e => by rw [← e, S.hm] at hu; cases hu), Nat.le_succ_of_le S.km, fun kv hkv => ?_, f _ _ S.he fun e => n2 e.symm, S.le, S.Np, S.NA, S.Nm, S.Ne, S.Nr, fun z hz => ?_, fun q => ?_⟩
  · obtain ⟨us', h1, h2⟩ := S.hr.r i a h
    unfold addR
    by_cases e : i = r
    · subst e
      rw [hra] at h
      cases h
      rw [hu] at h1
      cases h1
      rw [if_pos rfl]
      exact ⟨_, upd_same, (h2.mono fun v d h => h.keep t).snoc (hx.keep t)⟩
    · rw [if_neg e]
      have : a ≠ ra := fun z => e (by
        subst z
        exact (List.getElem?_inj (List.getElem?_eq_some_iff.mp h).1 S.nd).mp (h.trans hra.symm))
      exact ⟨us', f _ _ h1 this, h2.mono fun v d h => h.keep t⟩
  · obtain ⟨b, ps, h1, h2, h3, h4⟩ := S.mv kv hkv
    exact ⟨b, ps, h1, f _ _ h2 (fun e => by rw [← e, h2] at hu; cases hu), by omega, h4⟩
  · obtain ⟨o, h1, h2⟩ := S.nt z hz
    by_cases e : z = ra
    · subst e
      exact ⟨_, upd_same, fun xs z => by cases z⟩
    · exact ⟨o, f _ _ h1 e, h2⟩
  · unfold addR
    have h1 := S.len q
    have h2 := S.len r
    split
    · rw [List.length_append]; exact Nat.succ_le_succ h2
    · omega
theorem DSt.dict (S : DSt cD H p dx A mk en rs kvs es R k N) {b : Addr} {ps ps' : List (List Key × V)} (hb : H b = some (.dT ps)) (f : ∀ z o, H z = some o → z ≠ b → H' z = some o) (hb' : H' b = some (.dT ps')) (hl : ps'.length ≤ 100 * k) :
    DSt cD H' p dx A mk en rs kvs es R k N := by
  have t : TupK H H' := fun z o h => f z _ h fun e => by rw [e, hb] at h; cases h
  refine ⟨f _ _ S.hp (fun e => by rw [← e, S.hp] at hb; cases hb), ⟨f _ _ S.hr.h (fun e => by rw [← e, S.hr.h] at hb; cases hb), S.hr.n, fun i a h => ?_⟩, S.nd, S.nA, S.ne, f _ _ S.hm (fun e => by rw [← e, S.hm] at hb; cases hb), S.km, fun kv hkv => ?_, f _ _ S.he (fun e => by rw [← e, S.he] at hb; cases hb), S.le, S.Np, S.NA, S.Nm, S.Ne, S.Nr, fun z hz => ?_, S.len⟩
  · obtain ⟨us', h1, h2⟩ := S.hr.r i a h
    exact ⟨us', f _ _ h1 (fun e => by rw [← e, h1] at hb; cases hb), h2.mono fun v d h => h.keep t⟩
  · obtain ⟨b', qs, h1, h2, h3, h4⟩ := S.mv kv hkv
    by_cases e : b' = b
    · subst e
      exact ⟨b', ps', h1, hb', hl, h4⟩
    · exact ⟨b', qs, h1, f _ _ h2 e, h3, h4⟩
  · obtain ⟨o, h1, h2⟩ := S.nt z hz
    by_cases e : z = b
    · subst e
      exact ⟨_, hb', fun xs z => by cases z⟩
    · exact ⟨o, f _ _ h1 e, h2⟩
theorem mem_putK {kvs : List (Key × V)} {key : Key} {v : V} {kv : Key × V} (h : kv ∈ putK kvs key v) : kv.2 = v ∨ kv ∈ kvs := by
  unfold putK at h
  split at h
  · obtain ⟨q, hq, e⟩ := List.mem_map.mp h
    split at e
    · rw [← e]; exact .inl rfl
    · rw [← e]; exact .inr hq
  · rcases List.mem_append.mp h with h | h
    · exact .inr h
    · rw [List.mem_singleton.mp h]; exact .inl rfl
theorem putK_len {α : Type} [DecidableEq α] {kvs : List (α × V)} {key : α} {v : V} : (putK kvs key v).length ≤ kvs.length + 1 := by
  unfold putK
  split
  · rw [List.length_map]; exact Nat.le_succ _
  · rw [List.length_append]; exact Nat.le_refl _
theorem DSt.key (S : DSt cD H p dx A mk en rs kvs es R k N) {b : Addr} {key : Key} (hb : H b = none) (hk : kvs.length + 1 ≤ k) :
    DSt cD (upd (upd H b (.dT [])) mk (.dK (putK kvs key (.ref b)))) p dx A mk en rs (putK kvs key (.ref b)) es R k (fun z => N z ∨ z = b) := by
  have f : ∀ z o, H z = some o → z ≠ mk → (upd (upd H b (.dT [])) mk (.dK (putK kvs key (.ref b)))) z = some o := fun z o h n => by
    rw [upd_ne n, upd_ne (ne_of_none h hb)]
    exact h
  have hbm : b ≠ mk := fun e => by rw [e, S.hm] at hb; cases hb
  have gb : (upd (upd H b (.dT [])) mk (.dK (putK kvs key (.ref b)))) b = some (.dT []) := by rw [upd_ne hbm]; exact upd_same
  have t : TupK H (upd (upd H b (.dT [])) mk (.dK (putK kvs key (.ref b)))) := fun z o h => f z _ h fun e => by rw [e, S.hm] at h; cases h
  have hm := S.hm
  refine ⟨f _ _ S.hp (fun e => by rw [← e, S.hp] at hm; cases hm), ⟨f _ _ S.hr.h (fun e => by rw [← e, S.hr.h] at hm; cases hm), S.hr.n, fun i a h => ?_⟩, S.nd, S.nA, S.ne, upd_same, Nat.le_trans putK_len hk, fun kv hkv => ?_, f _ _ S.he (fun e => by rw [← e, S.he] at hm; cases hm), S.le, .inl S.Np, .inl S.NA, .inl S.Nm, .inl S.Ne, fun a h => .inl (S.Nr a h), fun z hz => ?_, S.len⟩
  · obtain ⟨us', h1, h2⟩ := S.hr.r i a h
    exact ⟨us', f _ _ h1 (fun e => by rw [← e, h1] at hm; cases hm), h2.mono fun v d h => h.keep t⟩
  · rcases mem_putK hkv with e | hkv
    · exact ⟨b, [], e, gb, Nat.zero_le _, .inr rfl⟩
    · obtain ⟨b', qs, h1, h2, h3, h4⟩ := S.mv kv hkv
      exact ⟨b', qs, h1, f _ _ h2 (fun e => by rw [← e, h2] at hm; cases hm), h3, .inl h4⟩
  · rcases hz with hz | hz
    · obtain ⟨o, h1, h2⟩ := S.nt z hz
      by_cases e : z = mk
      · subst e
        exact ⟨_, upd_same, fun xs z => by cases z⟩
      · exact ⟨o, f _ _ h1 e, h2⟩
    · rw [hz]
      exact ⟨_, gb, fun xs z => by cases z⟩
theorem DSt.ends (S : DSt cD H p dx A mk en rs kvs es R k N) {es' : List Nat} (hl : es'.length = 8) : DSt cD (upd H en (.lst (es'.map vi))) p dx A mk en rs kvs es' R k N := by
  have f : ∀ z o, H z = some o → z ≠ en → (upd H en (.lst (es'.map vi))) z = some o := fun z o h n => by rw [upd_ne n]; exact h
  have he := S.he
  have t : TupK H (upd H en (.lst (es'.map vi))) := fun z o h => f z _ h fun e => by rw [e, S.he] at h; cases h
  refine ⟨f _ _ S.hp (fun e => by rw [← e, S.hp] at he; cases he), ⟨f _ _ S.hr.h S.ne, S.hr.n, fun i a h => ?_⟩, S.nd, S.nA, S.ne, f _ _ S.hm (fun e => by rw [← e, S.hm] at he; cases he), S.km, fun kv hkv => ?_, upd_same, hl, S.Np, S.NA, S.Nm, S.Ne, S.Nr, fun z hz => ?_, S.len⟩
  · obtain ⟨us', h1, h2⟩ := S.hr.r i a h
    exact ⟨us', f _ _ h1 (S.nA a (List.mem_of_getElem? h)).2, h2.mono fun v d h => h.keep t⟩
  · obtain ⟨b', qs, h1, h2, h3, h4⟩ := S.mv kv hkv
    exact ⟨b', qs, h1, f _ _ h2 (fun e => by rw [← e, h2] at he; cases he), h3, h4⟩
  · obtain ⟨o, h1, h2⟩ := S.nt z hz
    by_cases e : z = en
    · subst e
      exact ⟨_, upd_same, fun xs z => by cases z⟩
    · exact ⟨o, f _ _ h1 e, h2⟩
end
end DM
namespace DM
open PySem PySem.Spec PyProof.Rows L2 SX HL
/-! ## what an object's dicts of marks and its ends hold -/
theorem marks_add {R : Rows} {r : Nat} {δ : Deed} (hr : r < 8) (m : List Nat) (x : Mark) : x ∈ marks (addR R r δ) m ↔ x ∈ marks R m ∨ (isCh m δ = true ∧ x ∈ (entD r δ).map (·.1)) := by
  rw [mem_marks, mem_marks]
  constructor
  · rintro ⟨q, d, hq, hd, hm, hx⟩
    unfold addR at hd
    split at hd
    · rename_i e
      subst e
      rcases List.mem_append.mp hd with h | h
      · exact .inl ⟨q, d, hq, h, hm, hx⟩
      · rw [List.mem_singleton.mp h] at hm hx
        exact .inr ⟨hm, hx⟩
    · exact .inl ⟨q, d, hq, hd, hm, hx⟩
  · rintro (⟨q, d, hq, hd, hm, hx⟩ | ⟨hm, hx⟩)
    · refine ⟨q, d, hq, ?_, hm, hx⟩
      unfold addR
      split
      · rename_i e
        subst e
        exact List.mem_append_left _ hd
      · exact hd
    · refine ⟨r, δ, hr, ?_, hm, hx⟩
      unfold addR
      rw [if_pos rfl]
      exact List.mem_append_right _ (List.mem_singleton.mpr rfl)
def kM (x : Mark) : List Key := [.inl (x.1 : Int), .inl (x.2 : Int)]
theorem kM_inj {x y : Mark} (h : kM x = kM y) : x = y := by
  unfold kM at h
  have h1 := List.cons.inj h
  have h2 := Sum.inl.inj h1.1
  have h3 := Sum.inl.inj (List.cons.inj h1.2).1
  exact Prod.ext (by omega) (by omega)
structure DEx (H : Hp) (kvs : List (Key × V)) (es : List Nat) (R : Rows) : Prop where
  key : ∀ m v, valV kvs (.inr (S m)) = some v → ∃ b ps, v = .ref b ∧ H b = some (.dT ps) ∧ ∀ x : Mark, ((valV ps (kM x)).isSome = true ↔ x ∈ marks R m)
  non : ∀ m, valV kvs (.inr (S m)) = none → ∀ x, x ∉ marks R m
  inj : ∀ m1 m2 v, valV kvs (.inr (S m1)) = some v → valV kvs (.inr (S m2)) = some v → m1 = m2
  ends : ∀ r, r < 8 → ∃ v, es[r]? = some v ∧ ∀ n, v ≤ n ↔ ∀ e ∈ R r, endD e ≤ n
theorem DEx.stay {H H' : Hp} {kvs : List (Key × V)} {es : List Nat} {R : Rows} (E : DEx H kvs es R) (f : ∀ b ps, H b = some (.dT ps) → H' b = some (.dT ps)) : DEx H' kvs es R :=
  ⟨fun m v h => by obtain ⟨b, ps, h1, h2, h3⟩ := E.key m v h; exact ⟨b, ps, h1, f _ _ h2, h3⟩, E.non, E.inj, E.ends⟩
theorem DEx.start (H : Hp) : DEx H [] (List.replicate 8 0) (fun _ => []) := by
  refine ⟨fun m v h => (by cases h), fun m _ x h => ?_, fun m1 m2 v h => (by cases h), fun r hr => ⟨0, by rw [List.getElem?_replicate, if_pos hr], fun n => ⟨fun _ e h => (by cases h), fun _ => Nat.zero_le _⟩⟩⟩
  obtain ⟨_, d, _, hd, _⟩ := mem_marks.mp h
  cases hd
theorem DEx.back {H : Hp} {kvs : List (Key × V)} {es : List Nat} {R : Rows} (E : DEx H kvs es R) {r q : Nat} (hr : r < 8) : DEx H kvs es (addR R r (.back q)) := by
  have hm : ∀ m x, x ∈ marks (addR R r (.back q)) m ↔ x ∈ marks R m := fun m x => by
    rw [marks_add hr]
    exact ⟨fun h => h.elim id (fun h => by cases h.1), .inl⟩
  refine ⟨fun m v h => ?_, fun m h x => by rw [hm]; exact E.non m h x, E.inj, fun r' hr' => ?_⟩
  · obtain ⟨b, ps, h1, h2, h3⟩ := E.key m v h
    exact ⟨b, ps, h1, h2, fun x => by rw [hm]; exact h3 x⟩
  · obtain ⟨v, h1, h2⟩ := E.ends r' hr'
    refine ⟨v, h1, fun n => ?_⟩
    rw [h2]
    unfold addR
    split
    · rename_i e
      subst e
      refine ⟨fun h e he => ?_, fun h e he => h e (List.mem_append_left _ he)⟩
      rcases List.mem_append.mp he with h' | h'
      · exact h e h'
      · rw [List.mem_singleton.mp h']
        exact Nat.zero_le _
    · exact Iff.rfl
/-- a dict for a module that had none -/
theorem DEx.newKey {H H' : Hp} {kvs : List (Key × V)} {es : List Nat} {R : Rows} (E : DEx H kvs es R) {m : List Nat} {b : Addr} (hn : valV kvs (.inr (S m)) = none) (hb : H b = none) (hb' : H' b = some (.dT [])) (f : ∀ b ps, H b = some (.dT ps) → H' b = some (.dT ps)) :
    DEx H' (putK kvs (.inr (S m)) (.ref b)) es R ∧ valV (putK kvs (.inr (S m)) (.ref b)) (.inr (S m)) = some (.ref b) := by
  have hp : ∀ m', valV (putK kvs (.inr (S m)) (.ref b)) (.inr (S m')) = if m' = m then some (.ref b) else valV kvs (.inr (S m')) := fun m' => by
    rw [valV_put]
    by_cases e : m' = m
    · subst e
      simp
    · rw [if_neg e]
      have : ¬ (Sum.inr (S m) : Key) = .inr (S m') := fun z => e (S_inj (Sum.inr.inj z)).symm
      have h2 : ¬ (Sum.inr (S m') : Key) = .inr (S m) := fun z => e (S_inj (Sum.inr.inj z))
      first | rw [if_neg this] | rw [if_neg h2]
  have old : ∀ m' v, valV kvs (.inr (S m')) = some v → v ≠ .ref b := fun m' v h e => by
    obtain ⟨b', ps, h1, h2, _⟩ := E.key m' v h
    rw [h1] at e
    cases e
    rw [hb] at h2
    cases h2
  refine ⟨⟨fun m' v h => ?_, fun m' h => ?_, fun m1 m2 v h1 h2 => ?_, E.ends⟩, by rw [hp, if_pos rfl]⟩
  · rw [hp] at h
    split at h
    · rename_i e
      subst e
      cases h
      refine ⟨b, [], rfl, hb', fun x => ⟨fun h => (by cases h), fun h => absurd h (E.non _ hn x)⟩⟩
    · obtain ⟨b', ps, h1, h2, h3⟩ := E.key m' v h
      exact ⟨b', ps, h1, f _ _ h2, h3⟩
  · rw [hp] at h
    split at h
    · cases h
    · exact E.non m' h
  · rw [hp] at h1 h2
    split at h1
    · rename_i e1
      split at h2
      · rename_i e2
        rw [e1, e2]
      · cases h1
        exact absurd rfl (old _ _ h2)
    · split at h2
      · cases h2
        exact absurd rfl (old _ _ h1)
      · exact E.inj _ _ _ h1 h2
/-- a change added -/
theorem DEx.change {H H' : Hp} {kvs : List (Key × V)} {es : List Nat} {R : Rows} (E : DEx H kvs es R) {r e0 : Nat} (hr : r < 8) {m : List Nat} {rem : List Mark} {b : Option Mark} {n : Nat} {t : List Nat} {bm : Addr} {ps ps' : List (List Key × V)}
    (hk : valV kvs (.inr (S m)) = some (.ref bm)) (hb : H bm = some (.dT ps)) (hb' : H' bm = some (.dT ps')) (f : ∀ b ps, H b = some (.dT ps) → b ≠ bm → H' b = some (.dT ps))
    (hp : ∀ x : Mark, (valV ps' (kM x)).isSome = true ↔ (valV ps (kM x)).isSome = true ∨ x ∈ (ins r n b t).map (·.1)) (he : es[r]? = some e0) :
    DEx H' kvs (es.set r (max e0 (n + t.length))) (addR R r (.change m rem b n t)) := by
  refine ⟨fun m' v h => ?_, fun m' h x hx => ?_, E.inj, fun r' hr' => ?_⟩
  · obtain ⟨b', qs, h1, h2, h3⟩ := E.key m' v h
    by_cases e : m' = m
    · subst e
      rw [hk] at h
      cases h
      cases h1
      rw [hb] at h2
      cases h2
      refine ⟨bm, ps', rfl, hb', fun x => ?_⟩
      rw [hp, h3, marks_add hr]
      have : isCh m' (.change m' rem b n t) = true := by simp [isCh]
      exact or_congr Iff.rfl ⟨fun h => ⟨this, h⟩, fun h => h.2⟩
    · have hbb : b' ≠ bm := fun z => e (E.inj m' m v h (by rw [hk, h1, z]))
      refine ⟨b', qs, h1, f _ _ h2 hbb, fun x => ?_⟩
      rw [h3, marks_add hr]
      have : isCh m' (.change m rem b n t) = false := by simp [isCh]; exact fun z => e z.symm
      rw [this]
      exact ⟨.inl, fun h => h.elim id fun h => (by cases h.1)⟩
  · have e : ¬ m' = m := fun z => by rw [z, hk] at h; cases h
    rw [marks_add hr] at hx
    have : isCh m' (.change m rem b n t) = false := by simp [isCh]; exact fun z => e z.symm
    rw [this] at hx
    rcases hx with hx | hx
    · exact E.non m' h x hx
    · cases hx.1
  · obtain ⟨v, h1, h2⟩ := E.ends r' hr'
    have hlt := (List.getElem?_eq_some_iff.mp h1).1
    by_cases e : r' = r
    · subst e
      rw [he] at h1
      cases h1
      refine ⟨_, by rw [List.getElem?_set, if_pos rfl, if_pos hlt], fun k => ?_⟩
      unfold addR
      rw [if_pos rfl]
      have : max e0 (n + t.length) ≤ k ↔ e0 ≤ k ∧ n + t.length ≤ k := by omega
      rw [this, h2]
      constructor
      · rintro ⟨h3, h4⟩ d hd
        rcases List.mem_append.mp hd with h | h
        · exact h3 d h
        · rw [List.mem_singleton.mp h]
          exact h4
      · intro h
        exact ⟨fun d hd => h d (List.mem_append_left _ hd), h _ (List.mem_append_right _ (List.mem_singleton.mpr rfl))⟩
    · refine ⟨v, by rw [List.getElem?_set, if_neg (fun z => e z.symm)]; exact h1, fun k => ?_⟩
      unfold addR
      rw [if_neg e]
      exact h2 k
end DM
namespace DM
open PySem PySem.Spec PyProof.Rows L2 SX HL
/-! ## sorted(d), the keys of d pairs of numbers -/
/-- the pair that stands at a tracked tuple -/
def kOf (H : Hp) : Value → Int × Int
  | .ref a => match H a with
    | some (.tup [.int i, .int j]) => (i, j)
    | _ => (0, 0)
  | _ => (0, 0)
theorem kOf_mark {H : Hp} {a : Addr} {m : Mark} (h : MkAt H (.ref a) m) : kOf H (.ref a) = ((m.1 : Int), (m.2 : Int)) := by
  obtain ⟨t, e, ht⟩ := h
  cases e
  unfold kOf
  simp only [ht, vi]
theorem mem_keys {H : Hp} : ∀ {kvs : List (List Key × V)} {bs : List Addr} {ms : List Mark}, IsKeys H kvs bs → kvs.map (·.1) = ms.map kM → All2 (fun v m => MkAt H v m) (bs.map V.ref) ms
  | [], _, ms, h, e => by
    cases h
    cases ms with
    | nil => exact .nil
    | cons _ _ => cases e
  | p :: kvs, _, ms, h, e => by
    cases h with
    | cons h1 t =>
      cases ms with
      | nil => cases e
      | cons m ms =>
        rw [List.map_cons, List.map_cons] at e
        injection e with e1 e2
        refine .cons ⟨_, rfl, ?_⟩ (mem_keys t e2)
        rw [h1, e1]
        rfl
/-- a sorted list of refs, back to marks -/
theorem marks_back {H : Hp} {vs : List Value} {ms : List Mark} (h : All2 (fun v m => ∃ a, v = Value.ref a ∧ MkAt H (.ref a) m) vs ms) {out : List Value} (hp : out.Perm vs) (hs : SrtO.Srtd (fun v u => SrtO.lexB (kOf H v) (kOf H u)) out) :
    ∃ (bs : List Addr) (ms' : List Mark), out = bs.map Value.ref ∧ ms'.Perm ms ∧ ms'.Pairwise (fun a b => ¬ mlt b a) ∧ All2 (MkAt H) (bs.map V.ref) ms' := by
  have hz : ∃ zs : List (Mark × Value), zs.map (·.2) = out ∧ (zs.map (·.1)).Perm ms ∧ ∀ z ∈ zs, ∃ a, z.2 = Value.ref a ∧ MkAt H (.ref a) z.1 := by
    have hl := h.len
    have hall : ∀ z ∈ ms.zip vs, ∃ a, z.2 = Value.ref a ∧ MkAt H (.ref a) z.1 := all2_zip h
    clear hs
    have h2 : (ms.zip vs).map (·.2) = vs := List.map_snd_zip (by omega)
    have h1 : (ms.zip vs).map (·.1) = ms := List.map_fst_zip (by omega)
    generalize ms.zip vs = ws at hall h1 h2
    subst h2
    rw [← h1]
    clear h h1 hl
    generalize hv : ws.map (·.2) = vs at hp
    induction hp generalizing ws with
    | nil =>
      have : ws = [] := List.map_eq_nil_iff.mp hv
      subst this
      exact ⟨[], rfl, .refl _, fun z h => by cases h⟩
    | cons x _ ih =>
      cases ws with
      | nil => cases hv
      | cons z ws =>
        rw [List.map_cons] at hv
        injection hv with e1 e2
        obtain ⟨zs, q1, q2, q3⟩ := ih ws (fun y hy => hall y (List.mem_cons_of_mem _ hy)) e2
        refine ⟨z :: zs, by rw [List.map_cons, q1, e1], q2.cons _, fun y hy => ?_⟩
        rcases List.mem_cons.mp hy with e | hy
        · rw [e]; exact hall z (List.mem_cons_self ..)
        · exact q3 y hy
    | swap x y l =>
      match ws, hv with
      | z1 :: z2 :: ws, hv =>
        simp only [List.map_cons] at hv
        injection hv with e1 e2
        injection e2 with e2 e3
        refine ⟨z2 :: z1 :: ws, by simp [e1, e2, e3], .swap .., fun y hy => hall y ?_⟩
        simp only [List.mem_cons] at hy ⊢
        rcases hy with h | h | h
        · exact .inr (.inl h)
        · exact .inl h
        · exact .inr (.inr h)
    | trans _ _ ih1 ih2 =>
      obtain ⟨zs, q1, q2, q3⟩ := ih2 ws hall hv
      obtain ⟨zs', r1, r2, r3⟩ := ih1 zs q3 q1
      exact ⟨zs', r1, r2.trans q2, r3⟩
  obtain ⟨zs, q1, q2, q3⟩ := hz
  have hb : ∀ z ∈ zs, ∃ a, z.2 = Value.ref a := fun z h => let ⟨a, e, _⟩ := q3 z h; ⟨a, e⟩
  have back : ∀ zs : List (Mark × Value), (∀ z ∈ zs, ∃ a, z.2 = Value.ref a ∧ MkAt H (.ref a) z.1) → ∃ bs : List Addr, zs.map (·.2) = bs.map Value.ref ∧ All2 (MkAt H) (bs.map V.ref) (zs.map (·.1)) := by
    intro zs
    induction zs with
    | nil => exact fun _ => ⟨[], rfl, .nil⟩
    | cons z zs ih =>
      intro h
      obtain ⟨a, e, hm⟩ := h z (List.mem_cons_self ..)
      obtain ⟨bs, h1, h2⟩ := ih fun y hy => h y (List.mem_cons_of_mem _ hy)
      exact ⟨a :: bs, by rw [List.map_cons, List.map_cons, h1, e], .cons hm h2⟩
  obtain ⟨bs, h1, h2⟩ := back zs q3
  refine ⟨bs, zs.map (·.1), by rw [← q1, h1], q2, ?_, h2⟩
  rw [← q1] at hs
  have hs' : zs.Pairwise fun a b => SrtO.lexB (kOf H b.2) (kOf H a.2) = false := List.pairwise_map.mp hs
  rw [List.pairwise_map]
  refine hs'.imp_of_mem fun {a b} ha hb' h hlt => ?_
  obtain ⟨x, ex, mx⟩ := q3 a ha
  obtain ⟨y, ey, my⟩ := q3 b hb'
  rw [ex, ey, kOf_mark mx, kOf_mark my] at h
  refine SrtO.lexB_no.mp h ?_
  unfold mlt at hlt
  simp only
  omega
theorem refs_all2 {H : Hp} : ∀ {bs : List Addr} {ms : List Mark}, All2 (MkAt H) (bs.map V.ref) ms → All2 (fun v m => ∃ a, v = Value.ref a ∧ MkAt H (.ref a) m) (bs.map Value.ref) ms
  | [], _, h => by cases h; exact .nil
  | b :: bs, _, h => by
    cases h with
    | cons h1 t => exact .cons ⟨b, rfl, h1⟩ (refs_all2 t)
section
variable {X : Cx}
theorem call_sortedT (hc : X.calm = true) : CallR X (.builtin "sorted") (fun xs H Q => ∃ (d : Addr) (kvs : List (List Key × V)) (ms : List Mark), xs = [V.ref d] ∧ Rd H d (.dT kvs) ∧ kvs.map (·.1) = ms.map kM ∧
    ∀ (p : Addr) (bs : List Addr) (ms' : List Mark), H p = none → ms'.Perm ms → ms'.Pairwise (fun a b => ¬ mlt b a) → All2 (MkAt H) (bs.map V.ref) ms' → Q (.ref p) (upd H p (.lst (bs.map V.ref)))) := by
  intro pins s σ H xs us Q I r h
  obtain ⟨d, kvs, ms, rfl, hd, hms, q⟩ := h
  obtain ⟨u, rfl, rx⟩ := r.one
  cases rx
  obtain ⟨z, hs, ks, pr, o, es, ep, ho, hx, hdt, he, hn⟩ := (show ObjOk X.prog X.w H s.heap d (.dT kvs) from hd.ok I.hok)
  have l1 : es.size = ks.length := size_of_entries he
  have l2 : kvs.length = ks.length := Paired.length pr
  refine Calls.call_function_entry PyProof.Rows.kind_sorted PyProof.Rows.plain_sorted PyProof.Rows.entry_sorted (PyProof.Rows.args_sorted1 _) ?_
  unfold Builtin.«sorted»
  refine wpAny_bind (m := checkCount "sorted" 1 1 _) (wpAny_pure ?_)
  refine wpAny_bind (PySem.W.kdu_collect (A := X.A.in1) (kdl_raw hs hx hdt) (I.ok.hd hc) ho (by omega) fun h' tk acc hk it => ?_)
  have hl : acc.toList.length = ks.length := by rw [Array.length_toList, it.1]; exact l1
  have ea : acc.toList = (ks.map fun x => x.2.1).map Value.ref := by
    apply List.ext_getElem?
    intro j
    rw [List.map_map, List.getElem?_map]
    cases hj : acc.toList[j]? with
    | none =>
      have h1 := List.getElem?_eq_none_iff.mp hj
      rw [List.getElem?_eq_none (by omega)]
      all_goals rfl
    | some v =>
      obtain ⟨en, hen, hv⟩ := it.2 j v (by rw [← Array.getElem?_toList]; exact hj)
      have qe := entry_at he j
      rw [hen] at qe
      cases hb : ks[j]? with
      | none => rw [hb] at qe; cases qe
      | some b =>
        rw [hb] at qe
        have e2 : en = entryOfKey (tupleKind (mixKind X.prog X.w)) b := Option.some.inj qe
        rw [hv, e2]
        all_goals rfl
  have hmk : All2 (MkAt H) ((ks.map fun x => x.2.1).map V.ref) ms := mem_keys (isKeys_of pr) hms
  generalize hbs0 : (ks.map fun x => x.2.1) = bs0 at ea hmk
  have hbl : bs0.length = ks.length := by rw [← hbs0, List.length_map]
  have hvm : All2 (fun v m => ∃ a, v = Value.ref a ∧ MkAt H (.ref a) m) acc.toList ms := by
    rw [ea]
    exact refs_all2 hmk
  have I1 : L2.Inv X pins σ H { s with heap := h', toks := tk } := I.kept hk
  refine wpAny_bind (wpAny_newList ?_ (by rw [hl]; omega))
  have hoL : (h'.push (seqObj "list" acc.toList.toArray 0)).get? h'.objs.size = some (seqObj "list" acc.toList.toArray 0) := Heap.get?_push_size _ rfl
  show wpAny _ _ _ _ _ { s with heap := h'.push (seqObj "list" acc.toList.toArray 0), toks := tk }
  refine wpAny_bind (wpAny_holding (wpAny_call_entry PyProof.Rows.slot_list_sort ⟨_, hoL, rfl⟩ PyProof.Rows.entry_list_sort
    (SrtO.list_sort_ord (s := { s with heap := h'.push (seqObj "list" acc.toList.toArray 0), toks := tk }) (SrtO.swo_lex (kOf H)) hoL (by rw [hl]; omega) (fun h2 => ?_) fun out hso hsb => ⟨_, rfl, ?_⟩)
    (PyProof.Rows.args_list_sort _)))
  · refine SrtO.pairs_sortableO (by omega) (fun v hv => ?_) fun o e => ?_
    · obtain ⟨j, hj⟩ := List.mem_iff_getElem?.mp hv
      obtain ⟨m, _, a, rfl, hm⟩ := hvm.get hj
      rw [kOf_mark hm]
      obtain ⟨t, et, ht⟩ := hm
      cases et
      obtain ⟨_, its2, r2, ob, hob, hcb, n, hdb⟩ := I.hok _ _ ht
      obtain ⟨u1, u2, rfl, ri, rj⟩ := vals2 r2
      obtain ⟨t1, rfl⟩ := ri
      obtain ⟨t2, rfl⟩ := rj
      exact ⟨a, ob, t1, t2, n, rfl, Heap.get?_push_of_some _ (hk _ _ hob), hcb, hdb⟩
    · rw [hoL] at e
      cases e
      intro c
      exact absurd (Value.type.inj c) (by decide)
  · obtain ⟨bs, ms', e1, e2, e3, e4⟩ := marks_back hvm hsb.perm hso
    obtain ⟨e', he'⟩ := PyProof.Rows.sortedHeap_at (vs := acc.toList) (out := out.toArray) hoL
    have hlen : (bs.map V.ref).length ≤ sizeLine := by
      have := hsb.perm.length_eq
      rw [e1, List.length_map] at this
      rw [List.length_map]
      omega
    refine wpAny_pure ⟨_, rfl, .ref h'.objs.size, upd H h'.objs.size (.lst (bs.map V.ref)), I1.laid (t' := tk) (fun b u e => ?_) (Nat.le_refl _)
      (show ObjOk X.prog X.w _ _ _ (.lst (bs.map V.ref)) from ⟨hlen, out, e', by rw [e1]; exact vals_refs _, he'⟩), rfl, q _ bs ms' (I1.hok.fresh (Nat.le_refl _)) e2 e3 e4⟩
    have hb : b < h'.objs.size := Heap.lt_size e
    rw [PyProof.Rows.sortedHeap_old (Nat.ne_of_lt hb) (by rw [size_push']; exact Nat.lt_succ_of_lt hb)]
    exact Heap.get?_push_of_some _ e
end
end DM
namespace Q44
open PySem PySem.Spec PyProof.Rows L2 SX HL
def topS (i : Nat) : Stmt := PySem.Challenge.pw_quillrun_k44_bases_grow_by_commits.main.body.getD i (.Pass ⟨0, 0, 0, 0⟩)
abbrev sWall : Stmt := topS 0
theorem scWall : FnScope ["k"] ["k"] (defScope sWall) := ⟨rfl, rfl, rfl, by decide +kernel, rfl, by decide +kernel, by decide +kernel⟩
abbrev sForces : Stmt := topS 3
theorem scForces : FnScope ["deeds", "taken_back", "found", "place", "stands", "deed"] ["deeds"] (defScope sForces) := ⟨rfl, rfl, rfl, by decide +kernel, rfl, by decide +kernel, by decide +kernel⟩
abbrev sInserted : Stmt := topS 4
theorem scInserted : FnScope ["replica", "deed", "_", "behind", "number", "text", "found", "offset", "character", "mark"] ["replica", "deed"] (defScope sInserted) := ⟨rfl, rfl, rfl, by decide +kernel, rfl, by decide +kernel, by decide +kernel⟩
abbrev sInOrder : Stmt := topS 5
theorem scInOrder : FnScope ["behinds", "following", "mark", "behind", "found"] ["behinds"] (defScope sInOrder) := ⟨rfl, rfl, rfl, by decide +kernel, rfl, by decide +kernel, by decide +kernel⟩
abbrev sDeedsInit : Stmt := inClass (topS 6) 0
theorem scDeedsInit : FnScope ["self", "_"] ["self"] (defScope sDeedsInit) := ⟨rfl, rfl, rfl, by decide +kernel, rfl, by decide +kernel, by decide +kernel⟩
abbrev sDeedsCounts : Stmt := inClass (topS 6) 1
theorem scDeedsCounts : FnScope ["self", "deeds"] ["self"] (defScope sDeedsCounts) := ⟨rfl, rfl, rfl, by decide +kernel, rfl, by decide +kernel, by decide +kernel⟩
abbrev sDeedsAdd : Stmt := inClass (topS 6) 2
theorem scDeedsAdd : FnScope ["self", "replica", "deed", "_", "module", "number", "text", "marks", "mark"] ["self", "replica", "deed"] (defScope sDeedsAdd) := ⟨rfl, rfl, rfl, by decide +kernel, rfl, by decide +kernel, by decide +kernel⟩
abbrev sDeedsCopy : Stmt := inClass (topS 6) 3
theorem scDeedsCopy : FnScope ["self", "copied", "replica", "deeds", "deed"] ["self"] (defScope sDeedsCopy) := ⟨rfl, rfl, rfl, by decide +kernel, rfl, by decide +kernel, by decide +kernel⟩
abbrev sDeedsRow : Stmt := inClass (topS 6) 6
theorem scDeedsRow : FnScope ["self", "module", "characters", "behinds", "hidden", "replica", "deed", "stands", "mark", "character", "behind"] ["self", "module"] (defScope sDeedsRow) := ⟨rfl, rfl, rfl, by decide +kernel, rfl, by decide +kernel, by decide +kernel⟩
abbrev sDeedsText : Stmt := inClass (topS 6) 7
theorem scDeedsText : FnScope ["self", "module", "_", "character", "seen"] ["self", "module"] (defScope sDeedsText) := ⟨rfl, rfl, rfl, by decide +kernel, rfl, by decide +kernel, by decide +kernel⟩
abbrev sDeedsChanges : Stmt := inClass (topS 6) 10
theorem scDeedsChanges : FnScope ["self", "module", "replica", "deeds", "deed", "stands"] ["self", "module"] (defScope sDeedsChanges) := ⟨rfl, rfl, rfl, by decide +kernel, rfl, by decide +kernel, by decide +kernel⟩
abbrev sBaseInit : Stmt := inClass (topS 8) 0
theorem scBaseInit : FnScope ["self"] ["self"] (defScope sBaseInit) := ⟨rfl, rfl, rfl, by decide +kernel, rfl, by decide +kernel, by decide +kernel⟩
abbrev sBaseCopy : Stmt := inClass (topS 8) 1
theorem scBaseCopy : FnScope ["self", "copied"] ["self"] (defScope sBaseCopy) := ⟨rfl, rfl, rfl, by decide +kernel, rfl, by decide +kernel, by decide +kernel⟩
abbrev sBaseData : Stmt := inClass (topS 8) 2
theorem scBaseData : FnScope ["self", "deeds"] ["self"] (defScope sBaseData) := ⟨rfl, rfl, rfl, by decide +kernel, rfl, by decide +kernel, by decide +kernel⟩
abbrev sBaseCells : Stmt := inClass (topS 8) 3
theorem scBaseCells : FnScope ["self", "name"] ["self"] (defScope sBaseCells) := ⟨rfl, rfl, rfl, by decide +kernel, rfl, by decide +kernel, by decide +kernel⟩
abbrev sBaseGrown : Stmt := inClass (topS 8) 4
theorem scBaseGrown : FnScope ["self", "triples", "cells", "found"] ["self", "triples", "cells"] (defScope sBaseGrown) := ⟨rfl, rfl, rfl, by decide +kernel, rfl, by decide +kernel, by decide +kernel⟩
abbrev sBaseTake : Stmt := inClass (topS 8) 5
theorem scBaseTake : FnScope ["self", "triples", "cells", "replica", "_", "deed"] ["self", "triples", "cells"] (defScope sBaseTake) := ⟨rfl, rfl, rfl, by decide +kernel, rfl, by decide +kernel, by decide +kernel⟩
abbrev sBaseHold : Stmt := inClass (topS 8) 6
theorem scBaseHold : FnScope ["self", "cells", "name", "shape", "outcome"] ["self", "cells"] (defScope sBaseHold) := ⟨rfl, rfl, rfl, by decide +kernel, rfl, by decide +kernel, by decide +kernel⟩
abbrev sLawMix : Stmt := topS 10
theorem scLawMix : FnScope ["cell", "k", "value"] ["cell", "k"] (defScope sLawMix) := ⟨rfl, rfl, rfl, by decide +kernel, rfl, by decide +kernel, by decide +kernel⟩
abbrev sLawDraws : Stmt := topS 11
theorem scLawDraws : FnScope ["script", "draws", "k", "cell", "place"] ["script"] (defScope sLawDraws) := ⟨rfl, rfl, rfl, by decide +kernel, rfl, by decide +kernel, by decide +kernel⟩
abbrev sLawAt : Stmt := topS 12
theorem scLawAt : FnScope ["draws", "index"] ["draws", "index"] (defScope sLawAt) := ⟨rfl, rfl, rfl, by decide +kernel, rfl, by decide +kernel, by decide +kernel⟩
abbrev sLawIsInteger : Stmt := topS 13
theorem scLawIsInteger : FnScope ["actual"] ["actual"] (defScope sLawIsInteger) := ⟨rfl, rfl, rfl, by decide +kernel, rfl, by decide +kernel, by decide +kernel⟩
abbrev sLawSame : Stmt := topS 14
theorem scLawSame : FnScope ["actual", "expected", "k"] ["actual", "expected"] (defScope sLawSame) := ⟨rfl, rfl, rfl, by decide +kernel, rfl, by decide +kernel, by decide +kernel⟩
abbrev sLawIsDict : Stmt := topS 15
theorem scLawIsDict : FnScope ["actual", "expected", "key"] ["actual", "expected"] (defScope sLawIsDict) := ⟨rfl, rfl, rfl, by decide +kernel, rfl, by decide +kernel, by decide +kernel⟩
abbrev sLawNext : Stmt := topS 16
theorem scLawNext : FnScope ["state", "limit"] ["state", "limit"] (defScope sLawNext) := ⟨rfl, rfl, rfl, by decide +kernel, rfl, by decide +kernel, by decide +kernel⟩
abbrev sLawWord : Stmt := topS 17
theorem scLawWord : FnScope ["state", "words"] ["state"] (defScope sLawWord) := ⟨rfl, rfl, rfl, by decide +kernel, rfl, by decide +kernel, by decide +kernel⟩
abbrev sLawTextOf : Stmt := topS 18
theorem scLawTextOf : FnScope ["state", "chars", "count", "start", "k"] ["state"] (defScope sLawTextOf) := ⟨rfl, rfl, rfl, by decide +kernel, rfl, by decide +kernel, by decide +kernel⟩
abbrev sLawBig : Stmt := topS 19
theorem scLawBig : FnScope ["state", "pick", "number", "k"] ["state"] (defScope sLawBig) := ⟨rfl, rfl, rfl, by decide +kernel, rfl, by decide +kernel, by decide +kernel⟩
abbrev sLawValue : Stmt := topS 20
theorem scLawValue : FnScope ["state", "depth", "pick", "value", "k", "parts"] ["state", "depth"] (defScope sLawValue) := ⟨rfl, rfl, rfl, by decide +kernel, rfl, by decide +kernel, by decide +kernel⟩
abbrev sLawOutcome : Stmt := topS 21
theorem scLawOutcome : FnScope ["state", "pick"] ["state"] (defScope sLawOutcome) := ⟨rfl, rfl, rfl, by decide +kernel, rfl, by decide +kernel, by decide +kernel⟩
abbrev sLawShapeKind : Stmt := topS 22
theorem scLawShapeKind : FnScope ["state"] ["state"] (defScope sLawShapeKind) := ⟨rfl, rfl, rfl, by decide +kernel, rfl, by decide +kernel, by decide +kernel⟩
abbrev sLawCell : Stmt := topS 23
theorem scLawCell : FnScope ["state", "name", "data", "k", "makers", "j", "kinds", "i"] ["state", "name"] (defScope sLawCell) := ⟨rfl, rfl, rfl, by decide +kernel, rfl, by decide +kernel, by decide +kernel⟩
abbrev sLawAnyDeed : Stmt := topS 24
theorem scLawAnyDeed : FnScope ["state", "removed", "behind", "k"] ["state"] (defScope sLawAnyDeed) := ⟨rfl, rfl, rfl, by decide +kernel, rfl, by decide +kernel, by decide +kernel⟩
abbrev sLawBaseData : Stmt := topS 25
theorem scLawBaseData : FnScope ["rows", "held", "commits", "cells", "name", "row"] ["rows", "held", "commits"] (defScope sLawBaseData) := ⟨rfl, rfl, rfl, by decide +kernel, rfl, by decide +kernel, by decide +kernel⟩
abbrev sLawGroup : Stmt := topS 26
theorem scLawGroup : FnScope ["state", "rows", "counts", "triples", "k", "replica", "cells", "row"] ["state", "rows"] (defScope sLawGroup) := ⟨rfl, rfl, rfl, by decide +kernel, rfl, by decide +kernel, by decide +kernel⟩
abbrev sLawGrown : Stmt := topS 27
theorem scLawGrown : FnScope ["rows", "held", "group", "more", "replica", "place", "deed", "holds", "name", "shape", "outcome", "row"] ["rows", "held", "group"] (defScope sLawGrown) := ⟨rfl, rfl, rfl, by decide +kernel, rfl, by decide +kernel, by decide +kernel⟩
abbrev sLawSpoil : Stmt := topS 28
theorem scLawSpoil : FnScope ["base", "held"] ["base"] (defScope sLawSpoil) := ⟨rfl, rfl, rfl, by decide +kernel, rfl, by decide +kernel, by decide +kernel⟩
abbrev sLaw : Stmt := topS 29
theorem scLaw : FnScope ["script", "state", "rows", "held", "base", "k", "group", "passed", "before", "grown", "due", "other"] ["script"] (defScope sLaw) := ⟨rfl, rfl, rfl, by decide +kernel, rfl, by decide +kernel, by decide +kernel⟩
/-- what the top has written -/
structure Defs (K : PySem.W.Frag) (mg : Str → Option Value) where
  bool : mg "bool" = none
  dict : mg "dict" = none
  enumerate : mg "enumerate" = none
  int : mg "int" = none
  isinstance : mg "isinstance" = none
  len : mg "len" = none
  list : mg "list" = none
  max : mg "max" = none
  min : mg "min" = none
  range : mg "range" = none
  sorted : mg "sorted" = none
  str : mg "str" = none
  tuple : mg "tuple" = none
  zip : mg "zip" = none
  kREPLICAS : ∃ t, mg "REPLICAS" = some (.int 8 t)
  fInserted : Addr
  fdInserted : FuncData
  DInserted : DefN K mg "inserted" sInserted ["replica", "deed"] fInserted fdInserted
  fLawMix : Addr
  fdLawMix : FuncData
  DLawMix : DefN K mg "_law_mix" sLawMix ["cell", "k"] fLawMix fdLawMix
  fLawDraws : Addr
  fdLawDraws : FuncData
  DLawDraws : DefN K mg "_law_draws" sLawDraws ["script"] fLawDraws fdLawDraws
  fLawAt : Addr
  fdLawAt : FuncData
  DLawAt : DefN K mg "_law_at" sLawAt ["draws", "index"] fLawAt fdLawAt
  fLawIsInteger : Addr
  fdLawIsInteger : FuncData
  DLawIsInteger : DefN K mg "_law_is_integer" sLawIsInteger ["actual"] fLawIsInteger fdLawIsInteger
  fLawSame : Addr
  fdLawSame : FuncData
  DLawSame : DefN K mg "_law_same" sLawSame ["actual", "expected"] fLawSame fdLawSame
  fLawIsDict : Addr
  fdLawIsDict : FuncData
  DLawIsDict : DefN K mg "_law_is_dict" sLawIsDict ["actual", "expected"] fLawIsDict fdLawIsDict
  fLawNext : Addr
  fdLawNext : FuncData
  DLawNext : DefN K mg "_law_next" sLawNext ["state", "limit"] fLawNext fdLawNext
  fLawWord : Addr
  fdLawWord : FuncData
  DLawWord : DefN K mg "_law_word" sLawWord ["state"] fLawWord fdLawWord
  fLawTextOf : Addr
  fdLawTextOf : FuncData
  DLawTextOf : DefN K mg "_law_text_of" sLawTextOf ["state"] fLawTextOf fdLawTextOf
  fLawBig : Addr
  fdLawBig : FuncData
  DLawBig : DefN K mg "_law_big" sLawBig ["state"] fLawBig fdLawBig
  fLawValue : Addr
  fdLawValue : FuncData
  DLawValue : DefN K mg "_law_value" sLawValue ["state", "depth"] fLawValue fdLawValue
  fLawOutcome : Addr
  fdLawOutcome : FuncData
  DLawOutcome : DefN K mg "_law_outcome" sLawOutcome ["state"] fLawOutcome fdLawOutcome
  fLawShapeKind : Addr
  fdLawShapeKind : FuncData
  DLawShapeKind : DefN K mg "_law_shape_kind" sLawShapeKind ["state"] fLawShapeKind fdLawShapeKind
  fLawCell : Addr
  fdLawCell : FuncData
  DLawCell : DefN K mg "_law_cell" sLawCell ["state", "name"] fLawCell fdLawCell
  fLawAnyDeed : Addr
  fdLawAnyDeed : FuncData
  DLawAnyDeed : DefN K mg "_law_any_deed" sLawAnyDeed ["state"] fLawAnyDeed fdLawAnyDeed
  fLawBaseData : Addr
  fdLawBaseData : FuncData
  DLawBaseData : DefN K mg "_law_base_data" sLawBaseData ["rows", "held", "commits"] fLawBaseData fdLawBaseData
  fLawGroup : Addr
  fdLawGroup : FuncData
  DLawGroup : DefN K mg "_law_group" sLawGroup ["state", "rows"] fLawGroup fdLawGroup
  fLawGrown : Addr
  fdLawGrown : FuncData
  DLawGrown : DefN K mg "_law_grown" sLawGrown ["rows", "held", "group"] fLawGrown fdLawGrown
  fLawSpoil : Addr
  fdLawSpoil : FuncData
  DLawSpoil : DefN K mg "_law_spoil" sLawSpoil ["base"] fLawSpoil fdLawSpoil
  fLaw : Addr
  fdLaw : FuncData
  DLaw : DefN K mg "law" sLaw ["script"] fLaw fdLaw
  cDeeds : Addr
  cBase : Addr
  fDeedsInit : Addr
  fdDeedsInit : FuncData
  DDeedsInit : DefI K "Deeds.__init__" sDeedsInit ["self"] fDeedsInit fdDeedsInit
  CDeeds : ClsN K mg "Deeds" cDeeds fDeedsInit
  fDeedsAdd : Addr
  fdDeedsAdd : FuncData
  DDeedsAdd : DefM K cDeeds "add" "Deeds.add" sDeedsAdd ["self", "replica", "deed"] fDeedsAdd fdDeedsAdd
  fDeedsCopy : Addr
  fdDeedsCopy : FuncData
  DDeedsCopy : DefM K cDeeds "copy" "Deeds.copy" sDeedsCopy ["self"] fDeedsCopy fdDeedsCopy
  fBaseInit : Addr
  fdBaseInit : FuncData
  DBaseInit : DefI K "Base.__init__" sBaseInit ["self"] fBaseInit fdBaseInit
  CBase : ClsN K mg "Base" cBase fBaseInit
  fBaseCopy : Addr
  fdBaseCopy : FuncData
  DBaseCopy : DefM K cBase "copy" "Base.copy" sBaseCopy ["self"] fBaseCopy fdBaseCopy
  fBaseData : Addr
  fdBaseData : FuncData
  DBaseData : DefM K cBase "data" "Base.data" sBaseData ["self"] fBaseData fdBaseData
  fBaseCells : Addr
  fdBaseCells : FuncData
  DBaseCells : DefM K cBase "cells" "Base.cells" sBaseCells ["self"] fBaseCells fdBaseCells
  fBaseGrown : Addr
  fdBaseGrown : FuncData
  DBaseGrown : DefM K cBase "grown" "Base.grown" sBaseGrown ["self", "triples", "cells"] fBaseGrown fdBaseGrown
  fBaseTake : Addr
  fdBaseTake : FuncData
  DBaseTake : DefM K cBase "take" "Base.take" sBaseTake ["self", "triples", "cells"] fBaseTake fdBaseTake
  fBaseHold : Addr
  fdBaseHold : FuncData
  DBaseHold : DefM K cBase "hold" "Base.hold" sBaseHold ["self", "cells"] fBaseHold fdBaseHold
  nDeeds_rows : NoAttr K cDeeds "rows"
  nDeeds_marks : NoAttr K cDeeds "_marks"
  nDeeds_ends : NoAttr K cDeeds "_ends"
  nBase_commits : NoAttr K cBase "commits"
  nBase_deeds : NoAttr K cBase "deeds"
  nBase_held : NoAttr K cBase "held"
end Q44
namespace Q44
open PySem PySem.Spec PyProof.Rows L2 SX HL
section
variable {P : Program} {w : World} {K : PySem.W.Frag} {mg : Str → Option Value} {base : Heap}
/-! ### _law_mix -/
def spMix : Sp := fun vs H Q _ => ∃ (c k : Int), vs = [.int c, .int k] ∧ ∀ v, 0 ≤ v → v < 9973 → Q (.int v) H
theorem ok_mix {k : Nat} (Z : Defs K mg) : FnOk P w K mg base CX0 (k + 1) Z.fLawMix Z.fdLawMix ["cell", "k"] spMix := by
  refine Z.DLawMix.F.ok scLawMix (fun vs H Q E h => ?_) (fun cdv A outer s H vs Q E hr h => ?_)
  · obtain ⟨c, k, rfl, _⟩ := h
    rfl
  · obtain ⟨c, k, rfl, qq⟩ := h
    refine ⟨_, (pss_cons (ps_set (i := 2) scLawMix.nd rfl (.inl rfl) (pe_op op_mod (pe_callTy call_int1 (by rfl) Z.int HL.boot_int (pa_cons (pe_op op_add (pe_op op_add (pe_op op_mul (pe_callTy call_int1 (by rfl) Z.int HL.boot_int (pa_cons (pv 0) pa_nil)) pe_int) (pe_op op_mul (pv 1) pe_int)) pe_int) pa_nil)) pe_int))
        (pss_cons (ps_set (i := 2) scLawMix.nd rfl (.inl rfl) (pe_op op_mod (pe_callTy call_int1 (by rfl) Z.int HL.boot_int (pa_cons (pe_op op_add (pe_op op_add (pe_op op_mul (pv 2) (pv 2)) (pe_op op_mul (pv 1) pe_int)) pe_int) pa_nil)) pe_int))
        (pss_one (ps_ret (pe_op op_mod (pe_op op_fdiv (pv 2) pe_int) pe_int))))), ?_⟩
    refine ⟨_, rfl, .inl ⟨c, rfl, _, _, rfl, rfl, .inr ⟨by decide, by decide⟩, _, rfl, _, _, rfl, rfl, .inr ⟨by decide, by decide⟩, _, _, rfl, rfl, _, _, rfl, rfl, .inl ⟨_, rfl, _, _, rfl, rfl, (by show (0 : Int) < 2147483647; decide), ?_⟩⟩⟩
    have v0 := Int.emod_nonneg (c * 48271 + k * 69621 + 12345) (show (2147483647 : Int) ≠ 0 by decide)
    have v1 := Int.emod_lt_of_pos (c * 48271 + k * 69621 + 12345) (show (0 : Int) < 2147483647 by decide)
    revert v0 v1
    dsimp only
    generalize (c * 48271 + k * 69621 + 12345) % 2147483647 = v
    intro v0 v1
    refine ⟨_, rfl, _, rfl, v, v, rfl, rfl, .inl ⟨by omega, by omega⟩, _, rfl, _, _, rfl, rfl, .inr ⟨by decide, by decide⟩, _, _, rfl, rfl, _, _, rfl, rfl, .inl ⟨_, rfl, _, _, rfl, rfl, (by show (0 : Int) < 2147483399; decide), ?_⟩⟩
    refine ⟨_, rfl, _, _, rfl, rfl, ⟨by decide, by decide⟩, _, _, rfl, rfl, (by show (0 : Int) < 9973; decide), qq _ (Int.emod_nonneg _ (by decide)) (Int.emod_lt_of_pos _ (by decide))⟩
end
end Q44
namespace Q44
open PySem PySem.Spec PyProof.Rows L2 SX HL
section
variable {P : Program} {w : World} {K : PySem.W.Frag} {mg : Str → Option Value} {base : Heap}
/-! ### _law_draws -/
def Draws (ds : List Int) : Prop := ∀ x ∈ ds, 0 ≤ x ∧ x < 9973
def spDraws (K : PySem.W.Frag) : Sp := fun vs H Q _ => ∃ (a : Addr) (ns : List Int), vs = [.ref a] ∧ SqL K H a (ns.map V.int) ∧ ns.length ≤ 63 ∧
  ∀ d H' ds, H d = none → Same H H' → H' d = some (.lst (ds.map V.int)) → ds.length ≤ 4000 → Draws ds → Q (.ref d) H'
theorem ok_draws {k : Nat} (Z : Defs K mg) : FnOk P w K mg base CX0 (k + 2) Z.fLawDraws Z.fdLawDraws ["script"] (spDraws K) := by
  have GLawMix : FnOk P w K mg base CX0 (k + 1) Z.fLawMix Z.fdLawMix ["cell", "k"] spMix := ok_mix Z
  refine Z.DLawDraws.F.ok scLawDraws (fun vs H Q E h => ?_) (fun cdv A outer s H vs Q E hr h => ?_)
  · obtain ⟨a, ns, rfl, _⟩ := h
    rfl
  · obtain ⟨a, ns, rfl, hS, hl, qq⟩ := h
    refine ⟨_, (pss_cons (ps_set (i := 1) scLawDraws.nd rfl (.inl rfl) (pe_lst pa_nil))
        (pss_cons (ps_for PassesOwn.never rfl (pi_range1 (by rfl) Z.range (pa_cons (pe_callB (call_min2 rfl) (by rfl) Z.min (by decide +kernel) (pa_cons pe_int (pa_cons (pe_callB call_len_seq (by rfl) Z.len PySem.boot_len (pa_cons (pv 0) pa_nil)) pa_nil))) pa_nil)) (pg_name (i := 2) scLawDraws.nd rfl (.inl rfl)) (pss_cons (ps_set (i := 3) scLawDraws.nd rfl (.inl rfl) (pe_callTy call_int1 (by rfl) Z.int HL.boot_int (pa_cons (pe_ix ix_list (pv 0) (pv 2) (fun _ _ => rfl)) pa_nil)))
        (pss_one (ps_if (pt_cmpR op_lt (pv 3) (pe_op op_pow pe_int pe_int) (nomark _)) (pss_one (ps_expr (pe_bm PySem.F.plainAttrs_list PySem.F.slot_list_append PySem.F.type_list_append mt_append (pv 1) (pa_cons (pe_call GLawMix (hr.mono (by omega)) (by rfl) Z.DLawMix.g Z.DLawMix.F.kp Z.DLawMix.b .nil pass0 (pa_cons (pv 3) (pa_cons (pv 2) pa_nil))) pa_nil)))) (pss_one (ps_for PassesOwn.never rfl (pi_range1 (by rfl) Z.range (pa_cons pe_int pa_nil)) (pg_name (i := 4) scLawDraws.nd rfl (.inl rfl)) (pss_one (ps_if (pt_cmpR op_gt (pv 3) pe_int (nomark _)) (pss_cons (ps_expr (pe_bm PySem.F.plainAttrs_list PySem.F.slot_list_append PySem.F.type_list_append mt_append (pv 1) (pa_cons (pe_op op_mod (pe_callTy call_int1 (by rfl) Z.int HL.boot_int (pa_cons (pv 3) pa_nil)) pe_int) pa_nil)))
        (pss_one (ps_set (i := 3) scLawDraws.nd rfl (.inl rfl) (pe_op op_fdiv (pv 3) pe_int)))) pss_nil))))))))
        (pss_one (ps_ret (pv 1))))), ?_⟩
    refine ⟨Nat.zero_le _, fun D0 hD => ⟨_, rfl, a, _, rfl, .inl ((same_upd hD).seq hS), 63, _, rfl, _, rfl, ?_⟩⟩
    have hlen : (ns.map V.int).length = ns.length := List.length_map _
    rw [hlen]
    have nn : (if (ns.length : Int) < 63 then (ns.length : Int) else 63) = (ns.length : Int) := by
      split <;> omega
    rw [nn]
    refine ⟨by omega, by omega, ?_⟩
    have ap : ∀ {H' : Hp} {ds : List Int} {v : Int}, Same H H' → Same H (upd H' D0 (.lst (ds.map V.int ++ [.int v]))) := fun s b o hb => by
      rw [upd_ne (ne_of_none hb hD)]
      exact s b o hb
    refine for_range (lo := 0) (n := ns.length) (fun i σ H' => ∃ (ds : List Int) (y2 y3 y4 : Option V), σ = [some (.ref a), some (.ref D0), y2, y3, y4] ∧ Same H H' ∧ H' D0 = some (.lst (ds.map V.int)) ∧ ds.length ≤ 60 * i ∧ Draws ds)
      ⟨[], none, none, none, rfl, same_upd hD, upd_same, Nat.zero_le _, fun _ h => nomatch h⟩ ?_ ?_
    · rintro i σ H' hi ⟨ds, y2, y3, y4, rfl, sm, hd, hdl, hdr⟩
      have hg : atI (ns.map V.int) ((0 : Int) + (i : Int)) = some (.int (ns.getD i 0)) := by
        rw [Int.zero_add]
        refine atI_nat ?_
        simp [hi]
      generalize ns.getD i 0 = x at hg
      refine ⟨_, rfl, _, rfl, a, _, _, _, rfl, rfl, sm.seq hS, hg, .inl ⟨x, rfl, ?_⟩⟩
      refine ⟨_, rfl, 10, 18, rfl, rfl, ⟨by decide, by decide, by decide⟩, _, _, rfl, rfl, _, rfl, ite2 (fun _ => ?_) (fun e => ?_)⟩
      · refine ⟨_, rfl, .inl ⟨rfl, _, SqL.of hd⟩, _, rfl, _, rfl, x, _, rfl, fun v v0 v1 => ⟨D0, _, _, rfl, rfl, hd, ?_, ?_⟩⟩
        · rw [List.length_map]
          exact Nat.lt_of_le_of_lt (show ds.length ≤ 4000 by omega) (by decide)
        · refine ⟨ds ++ [v], _, _, _, rfl, ap sm, by rw [upd_same]; simp, by simp; omega, fun y hy => ?_⟩
          rcases List.mem_append.mp hy with hy | hy
          · exact hdr y hy
          · rw [List.mem_singleton.mp hy]
            exact ⟨v0, v1⟩
      · refine ⟨60, rfl, by decide, by decide, ?_⟩
        refine for_range (lo := 0) (n := 60) (fun j σ H' => ∃ (ds2 : List Int) (x : Int) (y4 : Option V), σ = [some (.ref a), some (.ref D0), some (.int (0 + (i : Int))), some (.int x), y4] ∧ Same H H' ∧ H' D0 = some (.lst (ds2.map V.int)) ∧ ds2.length ≤ 60 * i + j ∧ Draws ds2)
          ⟨ds, x, y4, rfl, sm, hd, hdl, hdr⟩ ?_ ?_
        · rintro j σ H2 hj ⟨ds2, x, y4, rfl, sm2, hd2, hdl2, hdr2⟩
          refine ⟨_, rfl, x, 0, rfl, rfl, _, rfl, ite2 (fun e => ?_) (fun e => ?_)⟩
          · refine ⟨_, rfl, .inl ⟨rfl, _, SqL.of hd2⟩, _, rfl, .inl ⟨x, rfl, x, 9973, rfl, rfl, (by show (0 : Int) < 9973; decide), D0, _, _, rfl, rfl, hd2, ?_, ?_⟩⟩
            · rw [List.length_map]
              exact Nat.lt_of_le_of_lt (show ds2.length ≤ 4000 by omega) (by decide)
            · refine ⟨_, rfl, x, 9973, rfl, rfl, ⟨by decide, by decide⟩, ds2 ++ [x % 9973], x / 9973, _, rfl, ap sm2, by rw [upd_same]; simp, by simp; omega, fun y hy => ?_⟩
              rcases List.mem_append.mp hy with hy | hy
              · exact hdr2 y hy
              · rw [List.mem_singleton.mp hy]
                exact ⟨Int.emod_nonneg _ (by decide), Int.emod_lt_of_pos _ (by decide)⟩
          · exact ⟨ds2, x, _, rfl, sm2, hd2, by omega, hdr2⟩
        · rintro σ H2 ⟨ds2, x, y4, rfl, sm2, hd2, hdl2, hdr2⟩
          exact ⟨ds2, _, _, _, rfl, sm2, hd2, by omega, hdr2⟩
    · rintro σ H' ⟨ds, y2, y3, y4, rfl, sm, hd, hdl, hdr⟩
      exact ⟨_, rfl, qq D0 H' ds hD sm hd (by omega) hdr⟩
/-! ### _law_at -/
def spAt : Sp := fun vs H Q _ => ∃ (d : Addr) (ds : List Int) (i : Int), vs = [.ref d, .int i] ∧ H d = some (.lst (ds.map V.int)) ∧ Draws ds ∧ 0 ≤ i ∧ ∀ v, 0 ≤ v → v < 9973 → Q (.int v) H
theorem ok_at {k : Nat} (Z : Defs K mg) : FnOk P w K mg base CX0 (k + 2) Z.fLawAt Z.fdLawAt ["draws", "index"] spAt := by
  have GLawMix : FnOk P w K mg base CX0 (k + 1) Z.fLawMix Z.fdLawMix ["cell", "k"] spMix := ok_mix Z
  refine Z.DLawAt.F.ok scLawAt (fun vs H Q E h => ?_) (fun cdv A outer s H vs Q E hr h => ?_)
  · obtain ⟨a, ns, i, rfl, _⟩ := h
    rfl
  · obtain ⟨d, ds, i, rfl, hd, hD, i0, qq⟩ := h
    refine ⟨_, (pss_cons (ps_if (pt_cmpR op_lt (pv 1) (pe_callB call_len_seq (by rfl) Z.len PySem.boot_len (pa_cons (pv 0) pa_nil)) (nomark _)) (pss_one (ps_ret (pe_ix ix_list (pv 0) (pv 1) (fun _ _ => rfl)))) pss_nil)
        (pss_cons (ps_if (pt_cmpR op_eq (pe_callB call_len_seq (by rfl) Z.len PySem.boot_len (pa_cons (pv 0) pa_nil)) pe_int (nomark _)) (pss_one (ps_ret (pe_call GLawMix (hr.mono (by omega)) (by rfl) Z.DLawMix.g Z.DLawMix.F.kp Z.DLawMix.b .nil pass0 (pa_cons (pv 1) (pa_cons pe_int pa_nil))))) pss_nil)
        (pss_one (ps_ret (pe_call GLawMix (hr.mono (by omega)) (by rfl) Z.DLawMix.g Z.DLawMix.F.kp Z.DLawMix.b .nil pass0 (pa_cons (pe_op op_add (pe_ix ix_list (pv 0) (pe_op op_mod (pe_callTy call_int1 (by rfl) Z.int HL.boot_int (pa_cons (pv 1) pa_nil)) (pe_callB call_len_seq (by rfl) Z.len PySem.boot_len (pa_cons (pv 0) pa_nil))) (fun _ _ => rfl)) (pe_op op_mul (pv 1) pe_int)) (pa_cons (pv 1) pa_nil))))))), ?_⟩
    have hlen : (ds.map V.int).length = ds.length := List.length_map _
    refine ⟨_, rfl, _, rfl, d, _, rfl, .inl (SqL.of hd), _, _, rfl, rfl, _, rfl, ite2 (fun e => ?_) (fun e => ?_)⟩
    · have e2 : i < ((ds.map V.int).length : Int) := of_decide_eq_true e
      rw [hlen] at e2
      have hi : i.toNat < ds.length := by omega
      have hg : atI (ds.map V.int) i = some (.int ds[i.toNat]) := by
        have h0 := atI_nat (xs := ds.map V.int) (j := i.toNat) (v := .int ds[i.toNat]) (by simp [hi])
        have : ((i.toNat : Nat) : Int) = i := by omega
        rwa [this] at h0
      have hb := hD _ (List.getElem_mem hi)
      exact ⟨_, rfl, _, rfl, d, _, i, _, rfl, rfl, SqL.of hd, hg, qq _ hb.1 hb.2⟩
    · refine ⟨_, rfl, d, _, rfl, .inl (SqL.of hd), rfl, _, rfl, ite2 (fun e2 => ?_) (fun e2 => ?_)⟩
      · exact ⟨_, rfl, i, 77, rfl, qq⟩
      · have hp : 0 < ds.length := by
          rcases Nat.eq_zero_or_pos ds.length with z | z
          · exact absurd (decide_eq_true (by rw [hlen, z]; rfl)) e2
          · exact z
        have m0 := Int.emod_nonneg i (show (ds.length : Int) ≠ 0 by omega)
        have m1 := Int.emod_lt_of_pos i (show (0 : Int) < (ds.length : Int) by omega)
        have hi : (i % (ds.length : Int)).toNat < ds.length := by omega
        have hg : atI (ds.map V.int) (i % (ds.length : Int)) = some (.int ds[(i % (ds.length : Int)).toNat]) := by
          have h0 := atI_nat (xs := ds.map V.int) (j := (i % (ds.length : Int)).toNat) (v := .int ds[(i % (ds.length : Int)).toNat]) (by simp [hi])
          have : (((i % (ds.length : Int)).toNat : Nat) : Int) = i % (ds.length : Int) := by omega
          rwa [this] at h0
        generalize ds[(i % (ds.length : Int)).toNat] = x at hg
        refine ⟨_, rfl, _, rfl, .inl ⟨i, rfl, _, rfl, d, _, rfl, .inl (SqL.of hd), ?_⟩⟩
        rw [hlen]
        refine ⟨_, _, rfl, rfl, (by show (0 : Int) < (ds.length : Int); omega), d, _, _, _, rfl, rfl, SqL.of hd, hg, _, rfl, i, 131, rfl, rfl, .inr ⟨by decide, by decide⟩, _, _, rfl, rfl, _, rfl, _, _, rfl, qq⟩
end
end Q44
namespace Q44
open PySem PySem.Spec PyProof.Rows L2 SX HL
section
variable {P : Program} {w : World} {K : PySem.W.Frag} {mg : Str → Option Value} {base : Heap}
/-! ### _law_is_integer -/
def spIsInt : Sp := fun vs H Q _ => ∃ i : Int, vs = [.int i] ∧ Q (.bl true) H
theorem ok_isint {k : Nat} (Z : Defs K mg) : FnOk P w K mg base CX0 (k + 1) Z.fLawIsInteger Z.fdLawIsInteger ["actual"] spIsInt := by
  refine Z.DLawIsInteger.F.ok scLawIsInteger (fun vs H Q E h => ?_) (fun cdv A outer s H vs Q E hr h => ?_)
  · obtain ⟨i, rfl, _⟩ := h
    rfl
  · obtain ⟨i, rfl, q⟩ := h
    refine ⟨_, (pss_one (ps_ret (pe_and (pe_callB call_isB (by rfl) Z.isinstance HL.boot_isinstance (pa_cons (pv 0) (pa_cons (pe_bltn (v := .ty "int") (by rfl) Z.int HL.boot_int rfl) pa_nil))) (pe_one (pe_not (pe_callB call_isB (by rfl) Z.isinstance HL.boot_isinstance (pa_cons (pv 0) (pa_cons (pe_bltn (v := .ty "bool") (by rfl) Z.bool HL.boot_bool rfl) pa_nil)))))))), ?_⟩
    refine ⟨_, rfl, _, "int", "int", true, rfl, .base (.int i), by decide +kernel, true, rfl, iteT ?_⟩
    exact ⟨_, rfl, _, "int", "bool", false, rfl, .base (.int i), by decide +kernel, false, rfl, q⟩
/-! ### _law_same -/
def spLess (K : PySem.W.Frag) : Nat → Sp
  | 0 => fun _ _ _ _ => False
  | n + 1 => spSameG K n
theorem same_step {n : Nat} (Z : Defs K mg)
    (GLawSame : FnOk P w K mg base CX0 (n + 1) Z.fLawSame Z.fdLawSame ["actual", "expected"] (spLess K n)) : FnOk P w K mg base CX0 (n + 2) Z.fLawSame Z.fdLawSame ["actual", "expected"] (spSameG K n) := by
  have GLawIsInteger : FnOk P w K mg base CX0 1 Z.fLawIsInteger Z.fdLawIsInteger ["actual"] spIsInt := ok_isint (k := 0) Z
  refine Z.DLawSame.F.ok scLawSame (fun vs H Q E h => ?_) (fun cdv A outer s H vs Q E hr h => ?_)
  · obtain ⟨x, y, rfl, _⟩ := h
    rfl
  · obtain ⟨x, y, rfl, hs, q⟩ := h
    refine ⟨_, (pss_cons (ps_if (pt_val (pe_callB call_isiT (by rfl) Z.isinstance HL.boot_isinstance (pa_cons (pv 1) (pa_cons (pe_tup (pa_cons (pe_bltn (v := .ty "list") (by rfl) Z.list HL.boot_list rfl) (pa_cons (pe_bltn (v := .ty "tuple") (by rfl) Z.tuple HL.boot_tuple rfl) pa_nil))) pa_nil)))) (pss_cons (ps_if (PW.pt (pw_or (pt_cmpR op_ne (pe_callB call_isB (by rfl) Z.isinstance HL.boot_isinstance (pa_cons (pv 1) (pa_cons (pe_bltn (v := .ty "list") (by rfl) Z.list HL.boot_list rfl) pa_nil))) (pe_callB call_isB (by rfl) Z.isinstance HL.boot_isinstance (pa_cons (pv 0) (pa_cons (pe_bltn (v := .ty "list") (by rfl) Z.list HL.boot_list rfl) pa_nil))) (nomark _)) (pw_or1 (pt_cmpR op_ne (pe_callB call_isB (by rfl) Z.isinstance HL.boot_isinstance (pa_cons (pv 1) (pa_cons (pe_bltn (v := .ty "tuple") (by rfl) Z.tuple HL.boot_tuple rfl) pa_nil))) (pe_callB call_isB (by rfl) Z.isinstance HL.boot_isinstance (pa_cons (pv 0) (pa_cons (pe_bltn (v := .ty "tuple") (by rfl) Z.tuple HL.boot_tuple rfl) pa_nil))) (nomark _))))) (pss_one (ps_ret pe_bl)) pss_nil)
        (pss_cons (ps_if (pt_cmpR op_ne (pe_callB call_len_seq (by rfl) Z.len PySem.boot_len (pa_cons (pv 0) pa_nil)) (pe_callB call_len_seq (by rfl) Z.len PySem.boot_len (pa_cons (pv 1) pa_nil)) (nomark _)) (pss_one (ps_ret pe_bl)) pss_nil)
        (pss_cons (ps_for PassesOwn.never rfl (pi_range1 (by rfl) Z.range (pa_cons (pe_callB call_len_seq (by rfl) Z.len PySem.boot_len (pa_cons (pv 1) pa_nil)) pa_nil)) (pg_name (i := 2) scLawSame.nd rfl (.inl rfl)) (pss_one (ps_if (pt_not (pt_val (pe_call GLawSame (hr.mono (by omega)) (by rfl) Z.DLawSame.g Z.DLawSame.F.kp Z.DLawSame.b .nil pass0 (pa_cons (pe_ix ix_seq (pv 0) (pv 2) (fun _ _ => rfl)) (pa_cons (pe_ix ix_seq (pv 1) (pv 2) (fun _ _ => rfl)) pa_nil))))) (pss_one (ps_ret pe_bl)) pss_nil)))
        (pss_one (ps_ret pe_bl))))) pss_nil)
        (pss_cons (ps_if (pt_cmp (pc_isN (pv 1))) (pss_one (ps_ret (pe_cmp (pc_isN (pv 0)) rfl))) pss_nil)
        (pss_cons (ps_if (pt_val (pe_callB call_isB (by rfl) Z.isinstance HL.boot_isinstance (pa_cons (pv 1) (pa_cons (pe_bltn (v := .ty "bool") (by rfl) Z.bool HL.boot_bool rfl) pa_nil)))) (pss_one (ps_ret (pe_and (pe_callB call_isB (by rfl) Z.isinstance HL.boot_isinstance (pa_cons (pv 0) (pa_cons (pe_bltn (v := .ty "bool") (by rfl) Z.bool HL.boot_bool rfl) pa_nil))) (pe_one (pe_cmpR op_eq (pv 0) (pv 1) (nomark _)))))) pss_nil)
        (pss_cons (ps_if (pt_val (pe_callB call_isB (by rfl) Z.isinstance HL.boot_isinstance (pa_cons (pv 1) (pa_cons (pe_bltn (v := .ty "int") (by rfl) Z.int HL.boot_int rfl) pa_nil)))) (pss_one (ps_ret (pe_and (pe_call GLawIsInteger (hr.mono (by omega)) (by rfl) Z.DLawIsInteger.g Z.DLawIsInteger.F.kp Z.DLawIsInteger.b .nil pass0 (pa_cons (pv 0) pa_nil)) (pe_one (pe_cmpR op_eq (pv 0) (pv 1) (nomark _)))))) pss_nil)
        (pss_one (ps_ret (pe_and (pe_callB call_isB (by rfl) Z.isinstance HL.boot_isinstance (pa_cons (pv 0) (pa_cons (pe_bltn (v := .ty "str") (by rfl) Z.str HL.boot_str rfl) pa_nil))) (pe_one (pe_cmpR op_eq (pv 0) (pv 1) (nomark _)))))))))), ?_⟩
    have t2 : 2 ≤ sizeLine := by decide
    have hs : (Leaf x ∧ x = y) ∨ ∃ (m : Nat) (t : String) (a b : Addr) (xs ys : List V), n = m + 1 ∧ x = .ref a ∧ y = .ref b ∧ IsSeq K H t a xs ∧ IsSeq K H t b ys ∧ xs.length = ys.length ∧ ys.length ≤ 1000000 ∧
        ∀ (i : Nat) (u v : V), xs[i]? = some u → ys[i]? = some v → SameD K H m u v := by
      cases n with
      | zero => exact .inl hs
      | succ m =>
        rcases hs with h | ⟨t, a, b, xs, ys, h⟩
        · exact .inl h
        · exact .inr ⟨m, t, a, b, xs, ys, rfl, h⟩
    rcases hs with ⟨lf, rfl⟩ | ⟨m, t, a, b, xs, ys, rfl, rfl, rfl, h1, h2, el, hz, hh⟩
    · cases x with
      | int i =>
        refine ⟨_, rfl, t2, fun p hp => ⟨_, p, _, .type "int", _, _, rfl, upd_same, .cons (.ty _) (.cons (.ty _) .nil), .base (.int i), kit_two (by decide +kernel : kitB "int" "list" = some false) (by decide +kernel : kitB "int" "tuple" = some false), _, rfl, iteF ?_⟩⟩
        refine ⟨_, rfl, _, rfl, iteF ?_⟩
        refine ⟨_, rfl, _, "int", "bool", false, rfl, .base (.int i), by decide +kernel, false, rfl, iteF ?_⟩
        refine ⟨_, rfl, _, "int", "int", true, rfl, .base (.int i), by decide +kernel, true, rfl, iteT ?_⟩
        refine ⟨_, rfl, i, rfl, true, rfl, iteT ⟨_, rfl, _, rfl, rfl, ?_⟩⟩
        rw [decide_eq_true rfl]
        exact q _ (same_upd hp)
      | str z =>
        refine ⟨_, rfl, t2, fun p hp => ⟨_, p, _, .type "str", _, _, rfl, upd_same, .cons (.ty _) (.cons (.ty _) .nil), .base (.str z), kit_two (by decide +kernel : kitB "str" "list" = some false) (by decide +kernel : kitB "str" "tuple" = some false), _, rfl, iteF ?_⟩⟩
        refine ⟨_, rfl, _, rfl, iteF ?_⟩
        refine ⟨_, rfl, _, "str", "bool", false, rfl, .base (.str z), by decide +kernel, false, rfl, iteF ?_⟩
        refine ⟨_, rfl, _, "str", "int", false, rfl, .base (.str z), by decide +kernel, false, rfl, iteF ?_⟩
        refine ⟨_, rfl, _, "str", "str", true, rfl, .base (.str z), by decide +kernel, true, rfl, iteT ?_⟩
        refine ⟨_, rfl, _, rfl, rfl, ?_⟩
        rw [decide_eq_true rfl]
        exact q _ (same_upd hp)
      | bl b =>
        refine ⟨_, rfl, t2, fun p hp => ⟨_, p, _, .type "bool", _, _, rfl, upd_same, .cons (.ty _) (.cons (.ty _) .nil), .base (.bl b), kit_two (by decide +kernel : kitB "bool" "list" = some false) (by decide +kernel : kitB "bool" "tuple" = some false), _, rfl, iteF ?_⟩⟩
        refine ⟨_, rfl, _, rfl, iteF ?_⟩
        refine ⟨_, rfl, _, "bool", "bool", true, rfl, .base (.bl b), by decide +kernel, true, rfl, iteT ?_⟩
        refine ⟨_, rfl, _, "bool", "bool", true, rfl, .base (.bl b), by decide +kernel, true, rfl, iteT ?_⟩
        refine ⟨_, rfl, _, rfl, rfl, ?_⟩
        rw [decide_eq_true rfl]
        exact q _ (same_upd hp)
      | non =>
        refine ⟨_, rfl, t2, fun p hp => ⟨_, p, _, .type "NoneType", _, _, rfl, upd_same, .cons (.ty _) (.cons (.ty _) .nil), .base .non, kit_two (by decide +kernel : kitB "NoneType" "list" = some false) (by decide +kernel : kitB "NoneType" "tuple" = some false), _, rfl, iteF ?_⟩⟩
        refine ⟨_, rfl, _, rfl, iteT ?_⟩
        exact ⟨_, rfl, q _ (same_upd hp)⟩
      | _ => exact (show False from lf).elim
    · have rest : ∀ (i : Nat) (u v : V), xs[i]? = some u → ys[i]? = some v → atI xs ((0 : Int) + (i : Int)) = some u ∧ atI ys ((0 : Int) + (i : Int)) = some v := fun i u v hu hv => by
        rw [Int.zero_add]
        exact ⟨atI_nat hu, atI_nat hv⟩
      have turn : ∀ i : Nat, i < (ys.length : Int).toNat → ∃ u v, xs[i]? = some u ∧ ys[i]? = some v := fun i hi => by
        have i1 : i < ys.length := by omega
        have i2 : i < xs.length := by omega
        exact ⟨_, _, List.getElem?_eq_getElem i2, List.getElem?_eq_getElem i1⟩
      rcases h1 with ⟨rfl, s1, t1⟩ | ⟨rfl, s1, t1⟩
      · rcases h2 with ⟨_, s2, t2'⟩ | ⟨z, _⟩
        · refine ⟨_, rfl, t2, fun p hp => ⟨_, p, _, .type "tuple", _, _, rfl, upd_same, .cons (.ty _) (.cons (.ty _) .nil), tyx_same (same_upd hp) t2', kit_two (by decide +kernel : kitB "tuple" "list" = some false) (by decide +kernel : kitB "tuple" "tuple" = some true), _, rfl, iteT ?_⟩⟩
          have s10 := s1
          have s20 := s2
          have s1 := seqT_same (same_upd (o := .tup [.ty "list", .ty "tuple"]) hp) s1
          have s2 := seqT_same (same_upd (o := .tup [.ty "list", .ty "tuple"]) hp) s2
          refine ⟨_, rfl, _, "tuple", "list", false, rfl, tyx_same (same_upd hp) t2', by decide +kernel, _, rfl, _, "tuple", "list", false, rfl, tyx_same (same_upd hp) t1, by decide +kernel, rfl, _, rfl, iteNS rfl ?_⟩
          refine ⟨_, rfl, _, "tuple", "tuple", true, rfl, tyx_same (same_upd hp) t2', by decide +kernel, _, rfl, _, "tuple", "tuple", true, rfl, tyx_same (same_upd hp) t1, by decide +kernel, rfl, _, rfl, iteNS rfl ?_⟩
          refine ⟨_, rfl, a, xs, rfl, .inr s1, _, rfl, b, ys, rfl, .inr s2, rfl, _, rfl, iteNS (by rw [el]) ?_⟩
          refine ⟨_, rfl, b, ys, rfl, .inr s2, _, rfl, by omega, by omega, ?_⟩
          refine for_range (lo := 0) (n := (ys.length : Int).toNat) (fun i σ H' => Same H H' ∧ ∃ y, σ = [some (.ref a), some (.ref b), y]) ⟨same_upd hp, none, rfl⟩ ?_ ?_
          · rintro i σ H' hi ⟨sm, y, rfl⟩
            obtain ⟨u, v, hu, hv⟩ := turn i hi
            obtain ⟨r1, r2⟩ := rest i u v hu hv
            exact ⟨_, rfl, _, rfl, .inr (.inl ⟨a, xs, _, u, rfl, rfl, seqT_same sm s10, r1, _, rfl, _, rfl, .inr (.inl ⟨b, ys, _, v, rfl, rfl, seqT_same sm s20, r2, u, v, rfl, sameD_same sm (hh i u v hu hv), fun H2 s2 => ⟨true, rfl, iteF ⟨sm.trans s2, _, rfl⟩⟩⟩)⟩)⟩
          · rintro σ H' ⟨sm, y, rfl⟩
            exact q _ sm
        · exact absurd z (by decide)
      · rcases h2 with ⟨z, _⟩ | ⟨_, s2, t2'⟩
        · exact absurd z (by decide)
        · refine ⟨_, rfl, t2, fun p hp => ⟨_, p, _, .type "list", _, _, rfl, upd_same, .cons (.ty _) (.cons (.ty _) .nil), tyx_same (same_upd hp) t2', kit_two (by decide +kernel : kitB "list" "list" = some true) (by decide +kernel : kitB "list" "tuple" = some false), _, rfl, iteT ?_⟩⟩
          have s10 := s1
          have s20 := s2
          have s1 := (same_upd (o := .tup [.ty "list", .ty "tuple"]) hp).seq s1
          have s2 := (same_upd (o := .tup [.ty "list", .ty "tuple"]) hp).seq s2
          refine ⟨_, rfl, _, "list", "list", true, rfl, tyx_same (same_upd hp) t2', by decide +kernel, _, rfl, _, "list", "list", true, rfl, tyx_same (same_upd hp) t1, by decide +kernel, rfl, _, rfl, iteNS rfl ?_⟩
          refine ⟨_, rfl, _, "list", "tuple", false, rfl, tyx_same (same_upd hp) t2', by decide +kernel, _, rfl, _, "list", "tuple", false, rfl, tyx_same (same_upd hp) t1, by decide +kernel, rfl, _, rfl, iteNS rfl ?_⟩
          refine ⟨_, rfl, a, xs, rfl, .inl s1, _, rfl, b, ys, rfl, .inl s2, rfl, _, rfl, iteNS (by rw [el]) ?_⟩
          refine ⟨_, rfl, b, ys, rfl, .inl s2, _, rfl, by omega, by omega, ?_⟩
          refine for_range (lo := 0) (n := (ys.length : Int).toNat) (fun i σ H' => Same H H' ∧ ∃ y, σ = [some (.ref a), some (.ref b), y]) ⟨same_upd hp, none, rfl⟩ ?_ ?_
          · rintro i σ H' hi ⟨sm, y, rfl⟩
            obtain ⟨u, v, hu, hv⟩ := turn i hi
            obtain ⟨r1, r2⟩ := rest i u v hu hv
            exact ⟨_, rfl, _, rfl, .inl ⟨a, xs, _, u, rfl, rfl, sm.seq s10, r1, _, rfl, _, rfl, .inl ⟨b, ys, _, v, rfl, rfl, sm.seq s20, r2, u, v, rfl, sameD_same sm (hh i u v hu hv), fun H2 s2 => ⟨true, rfl, iteF ⟨sm.trans s2, _, rfl⟩⟩⟩⟩⟩
          · rintro σ H' ⟨sm, y, rfl⟩
            exact q _ sm
theorem ok_same (Z : Defs K mg) : ∀ n, FnOk P w K mg base CX0 (n + 2) Z.fLawSame Z.fdLawSame ["actual", "expected"] (spSameG K n)
  | 0 => same_step Z (Z.DLawSame.F.ok scLawSame (fun vs H Q E h => (show False from h).elim) (fun cdv A outer s H vs Q E hr h => (show False from h).elim))
  | n + 1 => same_step Z (ok_same Z n)
end
end Q44
namespace Q44
open PySem PySem.Spec PyProof.Rows L2 SX HL
section
variable {P : Program} {w : World} {K : PySem.W.Frag} {mg : Str → Option Value} {base : Heap}
/-! ### _law_next -/
def StN (H : Hp) (p q : Addr) (ds : List Int) : Prop := H q = some (.lst (ds.map V.int)) ∧ Draws ds ∧ ∃ i : Int, 0 ≤ i ∧ H p = some (.lst [.ref q, .int i])
theorem StN.ne {H : Hp} {p q : Addr} {ds : List Int} (h : StN H p q ds) : q ≠ p := by
  obtain ⟨h1, _, i, _, h2⟩ := h
  intro e
  subst e
  rw [h1] at h2
  have e2 := HO.lst.inj (Option.some.inj h2)
  cases ds with
  | nil => cases e2
  | cons x r => cases e2
theorem StN.same {H H' : Hp} {p q : Addr} {ds : List Int} (h : StN H p q ds) (s : ∀ b o, b = p ∨ b = q → H b = some o → H' b = some o) : StN H' p q ds := by
  obtain ⟨h1, h3, i, h0, h2⟩ := h
  exact ⟨s _ _ (.inr rfl) h1, h3, i, h0, s _ _ (.inl rfl) h2⟩
def spNext : Sp := fun vs H Q _ => ∃ (p q : Addr) (ds : List Int) (lim : Int), vs = [.ref p, .int lim] ∧ StN H p q ds ∧ 0 < lim ∧
  ∀ H' v, StN H' p q ds → But H H' p → 0 ≤ v → v < lim → Q (.int v) H'
theorem ok_next {k : Nat} (Z : Defs K mg) : FnOk P w K mg base CX0 (k + 3) Z.fLawNext Z.fdLawNext ["state", "limit"] spNext := by
  have GLawAt : FnOk P w K mg base CX0 (k + 2) Z.fLawAt Z.fdLawAt ["draws", "index"] spAt := ok_at Z
  refine Z.DLawNext.F.ok scLawNext (fun vs H Q E h => ?_) (fun cdv A outer s H vs Q E hr h => ?_)
  · obtain ⟨p, q, ns, lim, rfl, _⟩ := h
    rfl
  · obtain ⟨p, q, ds, lim, rfl, hS, l0, qq⟩ := h
    refine ⟨_, (pss_cons (ps_augS (pv 0) pe_int pget_list pe_int ip_add set_list)
        (pss_one (ps_ret (pe_op op_mod (pe_call GLawAt (hr.mono (by omega)) (by rfl) Z.DLawAt.g Z.DLawAt.F.kp Z.DLawAt.b .nil pass0 (pa_cons (pe_ix ix_list (pv 0) pe_int (fun _ _ => rfl)) (pa_cons (pe_ix ix_list (pv 0) pe_int (fun _ _ => rfl)) pa_nil))) (pv 1))))), ?_⟩
    have ne := hS.ne
    obtain ⟨hq, hD, i, hi, hp⟩ := id hS
    refine ⟨.ref p, rfl, p, _, 1, .int i, rfl, rfl, SqL.of hp, by decide, rfl, i, 1, rfl, rfl, p, _, 1, 1, rfl, rfl, hp, rfl, ?_⟩
    have hq' : upd H p (.lst ([.ref q, .int i].set 1 (.int (i + 1)))) q = some (.lst (ds.map V.int)) := by rw [upd_ne ne]; exact hq
    refine ⟨.ref p, rfl, p, _, 0, .ref q, rfl, rfl, SqL.of upd_same, rfl, .ref p, rfl, p, _, 1, .int (i + 1), rfl, rfl, SqL.of upd_same, rfl, q, ds, i + 1, rfl, hq', hD, by omega, fun v v0 v1 => ⟨.int lim, rfl, v, lim, rfl, rfl, l0, ?_⟩⟩
    exact qq _ _ ⟨hq', hD, i + 1, by omega, upd_same⟩ but_upd (Int.emod_nonneg _ (by omega)) (Int.emod_lt_of_pos _ l0)
end
end Q44
namespace Q44
open PySem PySem.Spec PyProof.Rows L2 SX HL DM
/-- .. and what the program tells -/
def EntP (H : Hp) (x : V) (e : Ent) : Prop := ∃ t a bx, x = .ref t ∧ H t = some (.tup [a, .str (S [e.2.2]), bx]) ∧ MkAt H a e.1 ∧ OMk H bx e.2.1
theorem EntP.keep {H H' : Hp} {x : V} {e : Ent} (h : EntP H x e) (k : TupK H H') : EntP H' x e := by
  obtain ⟨t, a, bx, e1, ht, hm, hb⟩ := h
  exact ⟨t, a, bx, e1, k _ _ ht, hm.keep k, hb.keep k⟩
section
variable {P : Program} {w : World} {K : PySem.W.Frag} {mg : Str → Option Value} {base : Heap}
def spIns (R : Hp → V → Ent → Prop) : Sp := fun vs H Q _ => ∃ (r : Nat) (dx : V) (m : List Nat) (rem : List Mark) (b : Option Mark) (n : Nat) (t : List Nat), vs = [vi r, dx] ∧ DeedAt H dx (.change m rem b n t) ∧ t.length ≤ 400 ∧
  ∀ H' l us, Same H H' → H l = none → H' l = some (.lst us) → All2 (R H') us (ins r n b t) → Q (.ref l) H'
/-! ### inserted of the program -/
theorem ok_inserted {k : Nat} (Z : Defs K mg) : FnOk P w K mg base CX0 (k + 1) Z.fInserted Z.fdInserted ["replica", "deed"] (spIns EntP) := by
  refine Z.DInserted.F.ok scInserted (fun vs H Q E h => ?_) (fun cdv A outer s H vs Q E hr h => ?_)
  · obtain ⟨r, dx, m, rem, b, n, t, rfl, _⟩ := h
    rfl
  · obtain ⟨r, dx, m, rem, b, n, t, rfl, hd, htl, qq⟩ := h
    refine ⟨_, (pss_cons (ps_asg (pv 1) (pg_tup rfl (pgs_cons (pg_name (i := 2) scInserted.nd rfl (.inl rfl)) (pgs_cons (pg_name (i := 2) scInserted.nd rfl (.inl rfl)) (pgs_cons (pg_name (i := 2) scInserted.nd rfl (.inl rfl)) (pgs_cons (pg_name (i := 3) scInserted.nd rfl (.inl rfl)) (pgs_cons (pg_name (i := 4) scInserted.nd rfl (.inl rfl)) (pgs_cons (pg_name (i := 5) scInserted.nd rfl (.inl rfl)) pgs_nil))))))))
        (pss_cons (ps_set (i := 6) scInserted.nd rfl (.inl rfl) (pe_lst pa_nil))
        (pss_cons (ps_for PassesOwn.never rfl (HE.pi_enumS (by rfl) Z.enumerate (pa_cons (pv 5) pa_nil)) (pg_tup rfl (pgs_cons (pg_name (i := 7) scInserted.nd rfl (.inl rfl)) (pgs_cons (pg_name (i := 8) scInserted.nd rfl (.inl rfl)) pgs_nil))) (pss_cons (ps_set (i := 9) scInserted.nd rfl (.inl rfl) (pe_tup (pa_cons (pe_op op_add (pv 4) (pv 7)) (pa_cons (pv 0) pa_nil))))
        (pss_cons (ps_expr (pe_bm PySem.F.plainAttrs_list PySem.F.slot_list_append PySem.F.type_list_append mt_append (pv 6) (pa_cons (pe_tup (pa_cons (pv 9) (pa_cons (pv 8) (pa_cons (pv 3) pa_nil)))) pa_nil)))
        (pss_one (ps_set (i := 3) scInserted.nd rfl (.inl rfl) (pv 9))))))
        (pss_one (ps_ret (pv 6)))))), ?_⟩
    obtain ⟨td, tr, um, bx, rfl, htd, htr, hm, hb⟩ := hd
    refine ⟨_, rfl, td, _, rfl, SqT.of htd, rfl, _, _, rfl, _, _, rfl, _, _, rfl, _, _, rfl, _, _, rfl, _, _, rfl, rfl, ?_⟩
    refine ⟨Nat.zero_le _, fun l hl0 => ?_⟩
    have s0 : Same H (upd H l (.lst [])) := same_upd hl0
    have hsz : (S t).cps.size = t.length := by simp [S]
    refine ⟨_, rfl, S t, rfl, ?_⟩
    refine for_it HE.walk_enumS (fun i σ H' => ∃ (us : List V) (b' : V) (y7 y8 y9 : Option V), σ = [some (vi r), some (.ref td), some (.ref tr), some b', some (vi n), some (.str (S t)), some (.ref l), y7, y8, y9] ∧ Same H H' ∧ H' l = some (.lst us) ∧ All2 (EntP H') us ((ins r n b t).take i) ∧ OMk H' b' (if i = 0 then b else some (n + i - 1, r)))
      ⟨[], bx, none, none, none, rfl, s0, upd_same, .nil, hb.keep (Same.tk s0)⟩ (fun _ _ _ _ _ => True.intro) ?_ ?_
    · rintro i x σ H1 H1' hi ⟨us, b', y7, y8, y9, rfl, s1, hl1, hus, hb'⟩ ⟨T, x1, x2, rfl, hT, rfl, e1, e2⟩
      obtain rfl : V.int (i : Nat) = x1 := Option.some.inj e1
      have hit : i < t.length := by omega
      have hg := ins_get r t n b i hit
      have hgc : (S t).cps[i]? = some (t.getD i 0) := by
        show t.toArray[i]? = _
        rw [List.getElem?_toArray, List.getD_eq_getElem?_getD, List.getElem?_eq_getElem hit]
        rfl
      have e2 : (S t).cps[i]?.map (fun c => V.str ⟨#[c]⟩) = some x2 := e2
      rw [hgc] at e2
      obtain rfl : V.str (S [t.getD i 0]) = x2 := Option.some.inj e2
      have sT : Same H1 (upd H1 T (.tup [.int (i : Nat), .str (S [t.getD i 0])])) := same_upd hT
      have gT : upd H1 T (.tup [.int (i : Nat), .str (S [t.getD i 0])]) T = some (.tup [.int (i : Nat), .str (S [t.getD i 0])]) := upd_same
      have s1T := Same.tr s1 sT
      have hl2 := sT _ _ hl1
      have hus2 := hus.mono fun v e h => h.keep (Same.tk sT)
      have hb2 := hb'.keep (Same.tk sT)
      generalize upd H1 T (.tup [.int (i : Nat), .str (S [t.getD i 0])]) = H2 at gT s1T hl2 hus2 hb2
      have hul : us.length ≤ 400 := by
        rw [hus.len, List.length_take, ins_len]
        omega
      refine ⟨T, _, rfl, SqT.of gT, rfl, _, _, rfl, _, _, rfl, rfl, ?_⟩
      refine ⟨_, rfl, _, rfl, _, _, rfl, rfl, _, rfl, (by show 2 ≤ sizeLine; decide), fun m1 hm1 => ?_⟩
      have g2 : upd H2 m1 (.tup [.int ((n : Int) + ((i : Nat) : Int)), vi r]) m1 = some (.tup [vi (n + i), vi r]) := by rw [upd_same]; rfl
      have s2 : Same H2 (upd H2 m1 (.tup [.int ((n : Int) + ((i : Nat) : Int)), vi r])) := same_upd hm1
      have l3 := s2 _ _ hl2
      generalize upd H2 m1 (.tup [.int ((n : Int) + ((i : Nat) : Int)), vi r]) = H3 at g2 s2 l3
      refine ⟨_, rfl, .inl ⟨rfl, _, SqL.of l3⟩, _, rfl, _, rfl, _, rfl, (by show 3 ≤ sizeLine; decide), fun t1 ht1 => ?_⟩
      have s3 : Same H3 (upd H3 t1 (.tup [.ref m1, .str (S [t.getD i 0]), b'])) := same_upd ht1
      have g3 : upd H3 t1 (.tup [.ref m1, .str (S [t.getD i 0]), b']) t1 = some (.tup [.ref m1, .str (S [t.getD i 0]), b']) := upd_same
      generalize upd H3 t1 (.tup [.ref m1, .str (S [t.getD i 0]), b']) = H4 at g3 s3
      have l4 := s3 _ _ l3
      refine ⟨l, _, _, rfl, rfl, l4, Nat.lt_of_le_of_lt hul (by decide), ?_⟩
      have k4 : TupK H4 (upd H4 l (.lst (us ++ [.ref t1]))) := tk_upd fun xs e => by rw [l4] at e; cases e
      have k24 : TupK H2 (upd H4 l (.lst (us ++ [.ref t1]))) := (Same.tk (Same.tr s2 s3)).trans k4
      have sH4 : Same H (upd H4 l (.lst (us ++ [.ref t1]))) := fun z o hz => by
        rw [upd_ne (ne_of_none hz hl0)]
        exact s3 _ _ (s2 _ _ (s1T _ _ hz))
      refine ⟨_, rfl, us ++ [.ref t1], .ref m1, _, _, _, rfl, sH4, upd_same, ?_, ?_⟩
      · rw [take_snoc hg]
        exact (hus2.mono fun v e h => h.keep k24).snoc ⟨t1, .ref m1, b', rfl, k4 _ _ g3, ⟨m1, rfl, k4 _ _ (s3 _ _ g2)⟩, hb2.keep k24⟩
      · rw [if_neg (Nat.succ_ne_zero i)]
        have e2 : n + (i + 1) - 1 = n + i := by omega
        rw [e2]
        exact ⟨m1, rfl, k4 _ _ (s3 _ _ g2)⟩
    · rintro σ H1 ⟨us, b', y7, y8, y9, rfl, s1, hl1, hus, hb'⟩
      have e : (S t).cps.size = (ins r n b t).length := by rw [ins_len, hsz]
      rw [e, List.take_of_length_le (Nat.le_refl _)] at hus
      exact ⟨_, rfl, qq H1 l us s1 hl0 hl1 hus⟩
end
end Q44
namespace DM
open PySem PySem.Spec PyProof.Rows L2 SX HL
structure DSt4 (cD : Addr) (H : Hp) (p dx A mk en : Addr) (rs : List Addr) (kvs : List (Key × V)) (es : List Nat) (R : Rows) (k : Nat) (N : Addr → Prop) : Prop where
  hp : H p = some (.ins cD dx (dflds A mk en))
  hr : RowsAt H A rs R
  nd : rs.Nodup
  nA : ∀ a ∈ rs, a ≠ A ∧ a ≠ en
  ne : A ≠ en
  hm : H mk = some (.dK kvs)
  km : kvs.length ≤ k
  mv : ∀ kv ∈ kvs, ∃ b ps, kv.2 = .ref b ∧ H b = some (.dT ps) ∧ ps.length ≤ 400 * k ∧ N b
  he : H en = some (.lst (es.map vi))
  le : es.length = 8
  Np : N p
  NA : N A
  Nm : N mk
  Ne : N en
  Nr : ∀ a ∈ rs, N a
  nt : ∀ z, N z → ∃ o, H z = some o ∧ ∀ xs, o ≠ .tup xs
  len : ∀ r, (R r).length ≤ k
section
variable {cD : Addr} {H H' : Hp} {p dx A mk en : Addr} {rs : List Addr} {kvs : List (Key × V)} {es : List Nat} {R : Rows} {k : Nat} {N : Addr → Prop}
/-- what N does not hold stays: so tuples stay -/
theorem DSt4.tk (S : DSt4 cD H p dx A mk en rs kvs es R k N) (f : ∀ z o, H z = some o → ¬ N z → H' z = some o) : TupK H H' := fun a xs h => f a _ h fun n => by
  obtain ⟨o, h1, h2⟩ := S.nt a n
  rw [h] at h1
  cases h1
  exact h2 _ rfl
theorem DSt4.stay (S : DSt4 cD H p dx A mk en rs kvs es R k N) (f : ∀ z o, H z = some o → N z → H' z = some o) (t : TupK H H') : DSt4 cD H' p dx A mk en rs kvs es R k N := by
  refine ⟨f _ _ S.hp S.Np, ⟨f _ _ S.hr.h S.NA, S.hr.n, fun i a h => ?_⟩, S.nd, S.nA, S.ne, f _ _ S.hm S.Nm, S.km, fun kv hkv => ?_, f _ _ S.he S.Ne, S.le, S.Np, S.NA, S.Nm, S.Ne, S.Nr, fun z hz => ?_, S.len⟩
  · obtain ⟨us, h1, h2⟩ := S.hr.r i a h
    exact ⟨us, f _ _ h1 (S.Nr a (List.mem_of_getElem? h)), h2.mono fun v d h => h.keep t⟩
  · obtain ⟨b, ps, h1, h2, h3, h4⟩ := S.mv kv hkv
    exact ⟨b, ps, h1, f _ _ h2 h4, h3, h4⟩
  · obtain ⟨o, h1, h2⟩ := S.nt z hz
    exact ⟨o, f _ _ h1 hz, h2⟩
theorem DSt4.same (S : DSt4 cD H p dx A mk en rs kvs es R k N) (s : Same H H') : DSt4 cD H' p dx A mk en rs kvs es R k N := S.stay (fun z o h _ => s z o h) (Same.tk s)
theorem DSt4.row (S : DSt4 cD H p dx A mk en rs kvs es R k N) {r : Nat} {ra : Addr} {us : List V} {x : V} {δ : Deed} (hra : rs[r]? = some ra) (hu : H ra = some (.lst us)) (hx : DeedAt H x δ) :
    DSt4 cD (upd H ra (.lst (us ++ [x]))) p dx A mk en rs kvs es (addR R r δ) (k + 1) N := by
  have hm := List.mem_of_getElem? hra
  obtain ⟨n1, n2⟩ := S.nA ra hm
  have t : TupK H (upd H ra (.lst (us ++ [x]))) := tk_upd fun xs e => by rw [hu] at e; cases e
  have f : ∀ z o, H z = some o → z ≠ ra → (upd H ra (.lst (us ++ [x]))) z = some o := fun z o h n => by rw [upd_ne n]; exact h
  refine ⟨f _ _ S.hp (fun e => by rw [← e, S.hp] at hu; cases hu), ⟨f _ _ S.hr.h fun e => n1 e.symm, S.hr.n, fun i a h => ?_⟩, S.nd, S.nA, S.ne, f _ _ S.hm (fun e => by rw [← e, S.hm] at hu; cases hu), Nat.le_succ_of_le S.km, fun kv hkv => ?_, f _ _ S.he fun e => n2 e.symm, S.le, S.Np, S.NA, S.Nm, S.Ne, S.Nr, fun z hz => ?_, fun q => ?_⟩
  · obtain ⟨us', h1, h2⟩ := S.hr.r i a h
    unfold addR
    by_cases e : i = r
    · subst e
      rw [hra] at h
      cases h
      rw [hu] at h1
      cases h1
      rw [if_pos rfl]
      exact ⟨_, upd_same, (h2.mono fun v d h => h.keep t).snoc (hx.keep t)⟩
    · rw [if_neg e]
      have : a ≠ ra := fun z => e (by
        subst z
        exact (List.getElem?_inj (List.getElem?_eq_some_iff.mp h).1 S.nd).mp (h.trans hra.symm))
      exact ⟨us', f _ _ h1 this, h2.mono fun v d h => h.keep t⟩
  · obtain ⟨b, ps, h1, h2, h3, h4⟩ := S.mv kv hkv
    exact ⟨b, ps, h1, f _ _ h2 (fun e => by rw [← e, h2] at hu; cases hu), by omega, h4⟩
  · obtain ⟨o, h1, h2⟩ := S.nt z hz
    by_cases e : z = ra
    · subst e
      exact ⟨_, upd_same, fun xs z => by cases z⟩
    · exact ⟨o, f _ _ h1 e, h2⟩
  · unfold addR
    have h1 := S.len q
    have h2 := S.len r
    split
    · rw [List.length_append]; exact Nat.succ_le_succ h2
    · omega
theorem DSt4.dict (S : DSt4 cD H p dx A mk en rs kvs es R k N) {b : Addr} {ps ps' : List (List Key × V)} (hb : H b = some (.dT ps)) (f : ∀ z o, H z = some o → z ≠ b → H' z = some o) (hb' : H' b = some (.dT ps')) (hl : ps'.length ≤ 400 * k) :
    DSt4 cD H' p dx A mk en rs kvs es R k N := by
  have t : TupK H H' := fun z o h => f z _ h fun e => by rw [e, hb] at h; cases h
  refine ⟨f _ _ S.hp (fun e => by rw [← e, S.hp] at hb; cases hb), ⟨f _ _ S.hr.h (fun e => by rw [← e, S.hr.h] at hb; cases hb), S.hr.n, fun i a h => ?_⟩, S.nd, S.nA, S.ne, f _ _ S.hm (fun e => by rw [← e, S.hm] at hb; cases hb), S.km, fun kv hkv => ?_, f _ _ S.he (fun e => by rw [← e, S.he] at hb; cases hb), S.le, S.Np, S.NA, S.Nm, S.Ne, S.Nr, fun z hz => ?_, S.len⟩
  · obtain ⟨us', h1, h2⟩ := S.hr.r i a h
    exact ⟨us', f _ _ h1 (fun e => by rw [← e, h1] at hb; cases hb), h2.mono fun v d h => h.keep t⟩
  · obtain ⟨b', qs, h1, h2, h3, h4⟩ := S.mv kv hkv
    by_cases e : b' = b
    · subst e
      exact ⟨b', ps', h1, hb', hl, h4⟩
    · exact ⟨b', qs, h1, f _ _ h2 e, h3, h4⟩
  · obtain ⟨o, h1, h2⟩ := S.nt z hz
    by_cases e : z = b
    · subst e
      exact ⟨_, hb', fun xs z => by cases z⟩
    · exact ⟨o, f _ _ h1 e, h2⟩
theorem DSt4.key (S : DSt4 cD H p dx A mk en rs kvs es R k N) {b : Addr} {key : Key} (hb : H b = none) (hk : kvs.length + 1 ≤ k) :
    DSt4 cD (upd (upd H b (.dT [])) mk (.dK (putK kvs key (.ref b)))) p dx A mk en rs (putK kvs key (.ref b)) es R k (fun z => N z ∨ z = b) := by
  have f : ∀ z o, H z = some o → z ≠ mk → (upd (upd H b (.dT [])) mk (.dK (putK kvs key (.ref b)))) z = some o := fun z o h n => by
    rw [upd_ne n, upd_ne (ne_of_none h hb)]
    exact h
  have hbm : b ≠ mk := fun e => by rw [e, S.hm] at hb; cases hb
  have gb : (upd (upd H b (.dT [])) mk (.dK (putK kvs key (.ref b)))) b = some (.dT []) := by rw [upd_ne hbm]; exact upd_same
  have t : TupK H (upd (upd H b (.dT [])) mk (.dK (putK kvs key (.ref b)))) := fun z o h => f z _ h fun e => by rw [e, S.hm] at h; cases h
  have hm := S.hm
  refine ⟨f _ _ S.hp (fun e => by rw [← e, S.hp] at hm; cases hm), ⟨f _ _ S.hr.h (fun e => by rw [← e, S.hr.h] at hm; cases hm), S.hr.n, fun i a h => ?_⟩, S.nd, S.nA, S.ne, upd_same, Nat.le_trans putK_len hk, fun kv hkv => ?_, f _ _ S.he (fun e => by rw [← e, S.he] at hm; cases hm), S.le, .inl S.Np, .inl S.NA, .inl S.Nm, .inl S.Ne, fun a h => .inl (S.Nr a h), fun z hz => ?_, S.len⟩
  · obtain ⟨us', h1, h2⟩ := S.hr.r i a h
    exact ⟨us', f _ _ h1 (fun e => by rw [← e, h1] at hm; cases hm), h2.mono fun v d h => h.keep t⟩
  · rcases mem_putK hkv with e | hkv
    · exact ⟨b, [], e, gb, Nat.zero_le _, .inr rfl⟩
    · obtain ⟨b', qs, h1, h2, h3, h4⟩ := S.mv kv hkv
      exact ⟨b', qs, h1, f _ _ h2 (fun e => by rw [← e, h2] at hm; cases hm), h3, .inl h4⟩
  · rcases hz with hz | hz
    · obtain ⟨o, h1, h2⟩ := S.nt z hz
      by_cases e : z = mk
      · subst e
        exact ⟨_, upd_same, fun xs z => by cases z⟩
      · exact ⟨o, f _ _ h1 e, h2⟩
    · rw [hz]
      exact ⟨_, gb, fun xs z => by cases z⟩
theorem DSt4.ends (S : DSt4 cD H p dx A mk en rs kvs es R k N) {es' : List Nat} (hl : es'.length = 8) : DSt4 cD (upd H en (.lst (es'.map vi))) p dx A mk en rs kvs es' R k N := by
  have f : ∀ z o, H z = some o → z ≠ en → (upd H en (.lst (es'.map vi))) z = some o := fun z o h n => by rw [upd_ne n]; exact h
  have he := S.he
  have t : TupK H (upd H en (.lst (es'.map vi))) := fun z o h => f z _ h fun e => by rw [e, S.he] at h; cases h
  refine ⟨f _ _ S.hp (fun e => by rw [← e, S.hp] at he; cases he), ⟨f _ _ S.hr.h S.ne, S.hr.n, fun i a h => ?_⟩, S.nd, S.nA, S.ne, f _ _ S.hm (fun e => by rw [← e, S.hm] at he; cases he), S.km, fun kv hkv => ?_, upd_same, hl, S.Np, S.NA, S.Nm, S.Ne, S.Nr, fun z hz => ?_, S.len⟩
  · obtain ⟨us', h1, h2⟩ := S.hr.r i a h
    exact ⟨us', f _ _ h1 (S.nA a (List.mem_of_getElem? h)).2, h2.mono fun v d h => h.keep t⟩
  · obtain ⟨b', qs, h1, h2, h3, h4⟩ := S.mv kv hkv
    exact ⟨b', qs, h1, f _ _ h2 (fun e => by rw [← e, h2] at he; cases he), h3, h4⟩
  · obtain ⟨o, h1, h2⟩ := S.nt z hz
    by_cases e : z = en
    · subst e
      exact ⟨_, upd_same, fun xs z => by cases z⟩
    · exact ⟨o, f _ _ h1 e, h2⟩
end
end DM
namespace Q44
open PySem PySem.Spec PyProof.Rows L2 SX HL DM
section
variable {P : Program} {w : World} {K : PySem.W.Frag} {mg : Str → Option Value} {base : Heap}
/-! ### the class -/
def TOk (d : Deed) : Prop := ∀ m x b n t, d = .change m x b n t → t.length ≤ 400 ∧ x.length ≤ 1000
/-- an object with these rows; N holds what it may change -/
def DeAt (cD : Addr) (H : Hp) (p : Addr) (R : Rows) (k : Nat) (N : Addr → Prop) : Prop := ∃ dx A mk en rs kvs es, DSt4 cD H p dx A mk en rs kvs es R k N
def spInit (cD : Addr) : Sp := fun vs H Q _ => ∃ (p dx : Addr), vs = [.ref p] ∧ H p = some (.ins cD dx []) ∧
  ∀ H' N, (∀ z o, H z = some o → z ≠ p → H' z = some o) → DeAt cD H' p (fun _ => []) 0 N → (∀ z, N z → z = p ∨ H z = none) → Q .non H'
theorem ok_init {k : Nat} (Z : Defs K mg) : FnOk P w K mg base CX0 (k + 1) Z.fDeedsInit Z.fdDeedsInit ["self"] (spInit Z.cDeeds) := by
  refine Z.DDeedsInit.F.ok scDeedsInit (fun vs H Q E h => ?_) (fun cdv A outer s H vs Q E hr h => ?_)
  · obtain ⟨p, dx, rfl, _⟩ := h
    rfl
  · obtain ⟨p, dx, rfl, hp, qq⟩ := h
    refine ⟨_, (pss_cons (ps_fld (pv 0) (pe_lc (own := [("_", 1)]) (g := (gName 1)) (by rfl) scDeedsInit.nd (pi_range1 (by rfl) Z.range (pa_cons (pe_gint rfl Z.kREPLICAS) pa_nil)) (blkOk_by (own := [("_", 1)]) (N := ["self", "_"]) (sc := defScope sDeedsInit) (by decide +kernel)) (fun _ _ _ _ _ => (pg_name (i := 1) scDeedsInit.nd rfl (Or.inl rfl))) (fun _ _ _ _ _ => pts_nil) (fun _ _ _ _ _ => (pe_lst pa_nil))) rfl)
        (pss_cons (ps_fld (pv 0) pe_dnewK rfl)
        (pss_one (ps_fld (pv 0) (pe_lc (own := [("_", 1)]) (g := (gName 1)) (by rfl) scDeedsInit.nd (pi_range1 (by rfl) Z.range (pa_cons (pe_gint rfl Z.kREPLICAS) pa_nil)) (blkOk_by (own := [("_", 1)]) (N := ["self", "_"]) (sc := defScope sDeedsInit) (by decide +kernel)) (fun _ _ _ _ _ => (pg_name (i := 1) scDeedsInit.nd rfl (Or.inl rfl))) (fun _ _ _ _ _ => pts_nil) (fun _ _ _ _ _ => pe_int)) rfl)))), ?_⟩
    refine ⟨8, rfl, by decide, by decide, fun A hA => ?_⟩
    refine lc_range (lo := 0) (n := 8) (fun i H' => Same H H' ∧ ∃ rs : List Addr, H' A = some (.lst (rs.map V.ref)) ∧ rs.length = i ∧ rs.Nodup ∧ ∀ a ∈ rs, a ≠ A ∧ H' a = some (.lst []) ∧ H a = none) ⟨same_upd hA, [], upd_same, rfl, List.Pairwise.nil, fun a h => by cases h⟩ ?_ ?_
    · rintro i H1 hi ⟨s1, rs, hA1, hrl, hnd, hrs⟩
      refine ⟨rfl, lc_yes ⟨Nat.zero_le _, fun a ha => ?_⟩⟩
      have naA : a ≠ A := fun e => by rw [e, hA1] at ha; cases ha
      have haH : H a = none := by
        cases e : H a with
        | none => rfl
        | some o => rw [s1 _ _ e] at ha; cases ha
      have old : ∀ b ∈ rs, b ≠ a := fun b hb e => by have := (hrs b hb).2.1; rw [e, ha] at this; cases this
      refine ⟨_, by rw [upd_ne (fun e => naA e.symm)]; exact hA1, by rw [List.length_map, hrl]; exact Nat.lt_of_lt_of_le hi (by decide), fun z o hz => by rw [upd_ne (ne_of_none hz hA), upd_ne (ne_of_none hz haH)]; exact s1 _ _ hz, rs ++ [a], by rw [upd_same, List.map_append]; rfl, by rw [List.length_append, hrl]; rfl, ?_, fun b hb => ?_⟩
      · refine List.pairwise_append.mpr ⟨hnd, List.pairwise_singleton .., fun x hx y hy => ?_⟩
        rw [List.mem_singleton.mp hy]
        exact old x hx
      · rcases List.mem_append.mp hb with hb | hb
        · obtain ⟨h1, h2, h3⟩ := hrs b hb
          exact ⟨h1, by rw [upd_ne h1, upd_ne (old b hb)]; exact h2, h3⟩
        · rw [List.mem_singleton.mp hb]
          exact ⟨naA, by rw [upd_ne naA, upd_same], haH⟩
    · rintro H1 ⟨s1, rs, hA1, hrl, hnd, hrs⟩
      have npA : p ≠ A := ne_of_none hp hA
      have np : ∀ b ∈ rs, b ≠ p := fun b hb e => by have := (hrs b hb).2.2; rw [e, hp] at this; cases this
      refine ⟨_, rfl, p, Z.cDeeds, dx, [], rfl, s1 _ _ hp, Z.CDeeds.cl, Z.nDeeds_rows, (by show 0 < 1000; decide), ?_⟩
      have b2 : ∀ z o, H1 z = some o → z ≠ p → (upd H1 p (.ins Z.cDeeds dx (putF "rows" (.ref A) []))) z = some o := fun z o h n => by rw [upd_ne n]; exact h
      have g2 : upd H1 p (.ins Z.cDeeds dx (putF "rows" (.ref A) [])) p = some (.ins Z.cDeeds dx (putF "rows" (.ref A) [])) := upd_same
      generalize upd H1 p (.ins Z.cDeeds dx (putF "rows" (.ref A) [])) = H2 at b2 g2
      refine fun mk hmk => ?_
      have s3 : Same H2 (upd H2 mk (.dK [])) := same_upd hmk
      have g3 : upd H2 mk (.dK []) mk = some (.dK []) := upd_same
      generalize upd H2 mk (.dK []) = H3 at s3 g3
      have npm : mk ≠ p := fun e => by rw [e, g2] at hmk; cases hmk
      refine ⟨_, rfl, p, Z.cDeeds, dx, _, rfl, s3 _ _ g2, Z.CDeeds.cl, Z.nDeeds_marks, (by show 1 < 1000; decide), ?_⟩
      have b4 : ∀ z o, H3 z = some o → z ≠ p → (upd H3 p (.ins Z.cDeeds dx (putF "_marks" (.ref mk) (putF "rows" (.ref A) [])))) z = some o := fun z o h n => by rw [upd_ne n]; exact h
      have g4 : upd H3 p (.ins Z.cDeeds dx (putF "_marks" (.ref mk) (putF "rows" (.ref A) []))) p = some (.ins Z.cDeeds dx (putF "_marks" (.ref mk) (putF "rows" (.ref A) []))) := upd_same
      generalize upd H3 p (.ins Z.cDeeds dx (putF "_marks" (.ref mk) (putF "rows" (.ref A) []))) = H4 at b4 g4
      refine ⟨8, rfl, by decide, by decide, fun en hen => ?_⟩
      refine lc_range (lo := 0) (n := 8) (fun i H' => Same H4 H' ∧ H' en = some (.lst ((List.replicate i 0).map vi))) ⟨same_upd hen, upd_same⟩ ?_ ?_
      · rintro j H5 hj ⟨s5, h5⟩
        refine ⟨rfl, lc_yes ⟨_, h5, by rw [List.length_map, List.length_replicate]; exact Nat.lt_of_lt_of_le hj (by decide), fun z o hz => by rw [upd_ne (ne_of_none hz hen)]; exact s5 _ _ hz, ?_⟩⟩
        rw [upd_same, List.replicate_succ', List.map_append]
        rfl
      · rintro H5 ⟨s5, h5⟩
        refine ⟨_, rfl, p, Z.cDeeds, dx, _, rfl, s5 _ _ g4, Z.CDeeds.cl, Z.nDeeds_ends, (by show 2 < 1000; decide), ?_⟩
        have ef : putF "_ends" (.ref en) (putF "_marks" (.ref mk) (putF "rows" (.ref A) [])) = dflds A mk en := by
          rw [putF_nil, putF_ne f12, putF_nil, putF_ne f13, putF_ne f23, putF_nil]
          rfl
        rw [ef]
        have npe : en ≠ p := fun e => by rw [e, g4] at hen; cases hen
        have old : ∀ z o, H1 z = some o → z ≠ p → (upd H5 p (.ins Z.cDeeds dx (dflds A mk en))) z = some o := fun z o h n => by
          rw [upd_ne n]
          exact s5 _ _ (b4 _ _ (s3 _ _ (b2 _ _ h n)) n)
        have ole : ∀ z o, H1 z = some o → z ≠ p → z ≠ en := fun z o h n => ne_of_none (b4 _ _ (s3 _ _ (b2 _ _ h n)) n) hen
        have olm : ∀ z o, H1 z = some o → z ≠ p → z ≠ mk := fun z o h n => ne_of_none (b2 _ _ h n) hmk
        have gA := old _ _ hA1 (fun e => npA e.symm)
        have gm : upd H5 p (.ins Z.cDeeds dx (dflds A mk en)) mk = some (.dK []) := by rw [upd_ne npm]; exact s5 _ _ (b4 _ _ g3 npm)
        have ge : upd H5 p (.ins Z.cDeeds dx (dflds A mk en)) en = some (.lst ((List.replicate 8 0).map vi)) := by rw [upd_ne npe]; exact h5
        refine qq _ (fun z => z = p ∨ z = A ∨ z = mk ∨ z = en ∨ z ∈ rs) (fun z o h n => old z o (s1 _ _ h) n) ⟨dx, A, mk, en, rs, [], List.replicate 8 0, upd_same, ⟨gA, hrl, fun i a h => ⟨[], old _ _ (hrs a (List.mem_of_getElem? h)).2.1 (np a (List.mem_of_getElem? h)), .nil⟩⟩, hnd,
          fun a h => ⟨(hrs a h).1, ole _ _ (hrs a h).2.1 (np a h)⟩, ole _ _ hA1 (fun e => npA e.symm), gm, Nat.le_refl _, (fun kv h => by cases h), ge, List.length_replicate .., .inl rfl, .inr (.inl rfl), .inr (.inr (.inl rfl)), .inr (.inr (.inr (.inl rfl))), fun a h => .inr (.inr (.inr (.inr h))), fun z hz => ?_, fun _ => Nat.le_refl _⟩ fun z hz => ?_
        · rcases hz with rfl | rfl | rfl | rfl | hz
          · exact ⟨_, upd_same, fun xs e => by cases e⟩
          · exact ⟨_, gA, fun xs e => by cases e⟩
          · exact ⟨_, gm, fun xs e => by cases e⟩
          · exact ⟨_, ge, fun xs e => by cases e⟩
          · exact ⟨_, old _ _ (hrs z hz).2.1 (np z hz), fun xs e => by cases e⟩
        · have key : ∀ z, (∀ o, H1 z = some o → z ≠ p → False) → z = p ∨ H z = none := fun z h => by
            by_cases e : z = p
            · exact .inl e
            · refine .inr ?_
              cases hz : H z with
              | none => rfl
              | some o => exact absurd e (fun n => h o (s1 _ _ hz) n)
          rcases hz with rfl | rfl | rfl | rfl | hz
          · exact .inl rfl
          · exact .inr hA
          · exact key _ fun o h n => olm _ _ h n rfl
          · exact key _ fun o h n => ole _ _ h n rfl
          · exact .inr (hrs z hz).2.2
theorem ixN_nat {n j : Nat} (h : j < n) : ixN n (j : Int) = some j := by
  unfold ixN
  rw [if_pos (by omega), if_pos (by omega)]
  rfl
theorem valV_mem {kvs : List (Key × V)} {key : Key} {v : V} (h : valV kvs key = some v) : ∃ kv ∈ kvs, kv.2 = v := by
  unfold valV at h
  cases e : kvs.find? fun kv => decide (kv.1 = key) with
  | none => rw [e] at h; cases h
  | some kv =>
    rw [e] at h
    exact ⟨kv, List.mem_of_find?_eq_some e, Option.some.inj h⟩
def spAdd (cD : Addr) : Sp := fun vs H Q _ => ∃ (p : Addr) (r : Nat) (R : Rows) (k : Nat) (N : Addr → Prop) (dx : V) (δ : Deed), vs = [.ref p, vi r, dx] ∧ DeAt cD H p R k N ∧ DeedAt H dx δ ∧ TOk δ ∧ r < 8 ∧ k ≤ 1000 ∧
  ∀ H' N', (∀ z o, H z = some o → ¬ N z → H' z = some o) → DeAt cD H' p (addR R r δ) (k + 1) N' → (∀ z, N' z → N z ∨ H z = none) → Q .non H'
theorem ok_add {k : Nat} (Z : Defs K mg) : FnOk P w K mg base CX0 (k + 2) Z.fDeedsAdd Z.fdDeedsAdd ["self", "replica", "deed"] (spAdd Z.cDeeds) := by
  have GInserted : FnOk P w K mg base CX0 (k + 1) Z.fInserted Z.fdInserted ["replica", "deed"] (spIns EntP) := ok_inserted Z
  refine Z.DDeedsAdd.F.ok scDeedsAdd (fun vs H Q E h => ?_) (fun cdv A outer s H vs Q E hr h => ?_)
  · obtain ⟨p, r, R, kk, N, dx, δ, rfl, _⟩ := h
    rfl
  · obtain ⟨p, r, R, kk, N, dx, δ, rfl, ⟨du, A0, mk, en, rs, kvs, es, S⟩, hdx, hok, hr8, hkk, qq⟩ := h
    refine ⟨_, (pss_cons (ps_expr (pe_bm PySem.F.plainAttrs_list PySem.F.slot_list_append PySem.F.type_list_append mt_append (pe_ix ix_list (pe_fld (pv 0) rfl) (pv 1) (fun _ _ => rfl)) (pa_cons (pv 2) pa_nil)))
        (pss_one (ps_if (pt_cmpR op_eq (pe_ix ix_tup (pv 2) pe_int (fun _ _ => rfl)) pe_str (nomark _)) (pss_cons (ps_asg (pv 2) (pg_tup rfl (pgs_cons (pg_name (i := 3) scDeedsAdd.nd rfl (.inl rfl)) (pgs_cons (pg_name (i := 4) scDeedsAdd.nd rfl (.inl rfl)) (pgs_cons (pg_name (i := 3) scDeedsAdd.nd rfl (.inl rfl)) (pgs_cons (pg_name (i := 3) scDeedsAdd.nd rfl (.inl rfl)) (pgs_cons (pg_name (i := 5) scDeedsAdd.nd rfl (.inl rfl)) (pgs_cons (pg_name (i := 6) scDeedsAdd.nd rfl (.inl rfl)) pgs_nil))))))))
        (C8.pss_cut (ps_set (i := 7) scDeedsAdd.nd rfl (.inl rfl) (pe_dsetd (pe_fld (pv 0) rfl) (pv 4) pe_dnewT ⟨rfl, rfl, rfl, rfl⟩))
        (pss_cons (ps_for PassesOwn.never rfl (pi_list (pe_call GInserted (hr.mono (by omega)) (by rfl) Z.DInserted.g Z.DInserted.F.kp Z.DInserted.b .nil pass0 (pa_cons (pv 1) (pa_cons (pv 2) pa_nil)))) (pg_tup rfl (pgs_cons (pg_name (i := 8) scDeedsAdd.nd rfl (.inl rfl)) (pgs_cons (pg_name (i := 3) scDeedsAdd.nd rfl (.inl rfl)) (pgs_cons (pg_name (i := 3) scDeedsAdd.nd rfl (.inl rfl)) pgs_nil)))) (pss_one (ps_dput (hu_of hr) (pv 7) (pv 8) pe_bl rfl)))
        (pss_one (ps_asg (pe_callB (call_max2 rfl) (by rfl) Z.max (by decide +kernel) (pa_cons (pe_ix ix_list (pe_fld (pv 0) rfl) (pv 1) (fun _ _ => rfl)) (pa_cons (pe_op op_add (pv 5) (pe_callB call_len_str (by rfl) Z.len PySem.boot_len (pa_cons (pv 6) pa_nil))) pa_nil))) (pg_sub (pe_fld (pv 0) rfl) (pv 1) set_list)))))) pss_nil))), ?_⟩
    obtain ⟨ra, us, hra, hrv, hu, hus⟩ := S.hr.get hr8
    have gr : atI (rs.map V.ref) (r : Int) = some (.ref ra) := atI_nat hrv
    have hsz : 801000 ≤ sizeLine := by decide
    refine ⟨_, rfl, p, Z.cDeeds, du, _, _, rfl, S.hp, Z.CDeeds.cl, Z.nDeeds_rows, dflds_rows _ _ _, _, rfl, A0, _, _, _, rfl, rfl, SqL.of S.hr.h, gr, .inl ⟨rfl, _, SqL.of hu⟩, _, rfl, ra, _, _, rfl, rfl, hu, by rw [hus.len]; have := S.len r; omega, ?_⟩
    have S1 := S.row hra hu hdx
    have hdx1 : DeedAt (upd H ra (.lst (us ++ [dx]))) dx δ := hdx.keep (tk_upd fun xs e => by rw [hu] at e; cases e)
    have f1 : ∀ z o, H z = some o → z ≠ ra → (upd H ra (.lst (us ++ [dx]))) z = some o := fun z o h n => by rw [upd_ne n]; exact h
    have f1' : ∀ z, (upd H ra (.lst (us ++ [dx]))) z = none → H z = none := fun z h => by
      by_cases e : z = ra
      · rw [e, upd_same] at h; cases h
      · rw [upd_ne e] at h; exact h
    have hNra : N ra := S.Nr _ (List.mem_of_getElem? hra)
    have mv0 : ∀ kv ∈ kvs, ∃ b ps, kv.2 = .ref b ∧ (upd H ra (.lst (us ++ [dx]))) b = some (.dT ps) ∧ ps.length ≤ 400 * kk ∧ N b := fun kv hkv => by
      obtain ⟨b, ps, h1, h2, h3, h4⟩ := S.mv kv hkv
      exact ⟨b, ps, h1, f1 _ _ h2 (fun e => by rw [e, hu] at h2; cases h2), h3, h4⟩
    have km0 := S.km
    generalize upd H ra (.lst (us ++ [dx])) = H1 at S1 hdx1 f1 f1' mv0
    have fN : ∀ z o, H z = some o → ¬ N z → H1 z = some o := fun z o h n => f1 z o h fun e => n (by rw [e]; exact hNra)
    clear f1 hNra hdx hu hus S gr hrv hra
    cases δ with
    | back q =>
      obtain ⟨td, rfl, htd⟩ := hdx1
      exact ⟨_, rfl, td, _, 0, _, rfl, rfl, SqT.of htd, rfl, rfl, _, rfl, iteF (qq H1 N fN ⟨_, _, _, _, _, _, _, S1⟩ fun z h => .inl h)⟩
    | change m rem b n t =>
      have htl := (hok _ _ _ _ _ rfl).1
      have hdx1' := hdx1
      obtain ⟨td, tr, um, bx, rfl, htd, htr, hm, hb⟩ := hdx1
      refine ⟨_, rfl, td, _, 0, _, rfl, rfl, SqT.of htd, rfl, rfl, _, rfl, iteT ?_⟩
      refine ⟨_, rfl, td, _, rfl, SqT.of htd, rfl, _, _, rfl, _, _, rfl, _, _, rfl, _, _, rfl, _, _, rfl, _, _, rfl, rfl, ?_⟩
      refine ⟨fun σ' H' => ∃ (bm : Addr) (ps : List (List Key × V)) (kvs : List (Key × V)) (N' : Addr → Prop), σ' = [some (.ref p), some (vi r), some (.ref td), some bx, some (.str (S m)), some (vi n), some (.str (S t)), some (.ref bm), none] ∧ DSt4 Z.cDeeds H' p du A0 mk en rs kvs es (addR R r (.change m rem b n t)) (kk + 1) N' ∧ H' bm = some (.dT ps) ∧ N' bm ∧ ps.length ≤ 400 * kk ∧ (∀ z o, H1 z = some o → ¬ N z → H' z = some o) ∧ (∀ z, N' z → N z ∨ H1 z = none), ?_, ?_⟩
      · refine ⟨_, rfl, p, Z.cDeeds, du, _, _, rfl, S1.hp, Z.CDeeds.cl, Z.nDeeds_marks, dflds_marks _ _ _, mk, rfl, .inl ⟨kvs, .inl S1.hm⟩, _, rfl, fun bn hbn => ?_⟩
        have s2 : Same H1 (upd H1 bn (.dT [])) := same_upd hbn
        refine ⟨kvs, .inr (S m), s2 _ _ S1.hm, rfl, by omega, fun v hv => ?_, fun hn => ?_⟩
        · obtain ⟨kv, hkv, rfl⟩ := valV_mem hv
          obtain ⟨bm, ps, e1, h2, h3, h4⟩ := mv0 kv hkv
          rw [e1]
          exact ⟨bm, ps, kvs, N, rfl, S1.same s2, s2 _ _ h2, h4, h3, fun z o h _ => s2 _ _ h, fun z h => .inl h⟩
        · have nbm : bn ≠ mk := fun e => by rw [e, S1.hm] at hbn; cases hbn
          refine ⟨bn, [], _, _, rfl, S1.key hbn (by omega), by rw [upd_ne nbm]; exact upd_same, .inr rfl, Nat.zero_le _, fun z o h n => ?_, fun z h => ?_⟩
          · rw [upd_ne (fun e => n (by rw [e]; exact S1.Nm)), upd_ne (ne_of_none h hbn)]
            exact h
          · rcases h with h | h
            · exact .inl h
            · exact .inr (by rw [h]; exact hbn)
      · rintro σ H2 ⟨bm, ps, kvs, N', rfl, S2, hbm, hNb, hps, f2, n2⟩
        have hdx2 : DeedAt H2 (.ref td) (.change m rem b n t) := hdx1'.keep (S1.tk f2)
        refine ⟨_, rfl, _, rfl, r, .ref td, m, rem, b, n, t, rfl, hdx2, htl, fun H3 il ius s23 hil2 hil hius => ⟨il, rfl, ⟨_, SqL.of hil⟩, ?_⟩⟩
        have hbm3 := s23 _ _ hbm
        have nib : il ≠ bm := fun e => by rw [e, hbm] at hil2; cases hil2
        refine for_it walk_list (fun j σ H' => ∃ (y3 y8 : Option V) (ps : List (List Key × V)), σ = [some (.ref p), some (vi r), some (.ref td), y3, some (.str (S m)), some (vi n), some (.str (S t)), some (.ref bm), y8] ∧ (∀ z o, H3 z = some o → z ≠ bm → H' z = some o) ∧ H' bm = some (.dT ps) ∧ ps.length ≤ 400 * kk + j)
          ⟨_, _, ps, rfl, fun z o h _ => h, hbm3, hps⟩ (fun j σ H' _ ⟨_, _, _, _, f, _⟩ => SqL.of (f _ _ hil nib)) ?_ ?_
        · rintro j x σ H4' H4 hj ⟨y3, y8, ps, rfl, f4, hb4, hp4⟩ ⟨rfl, hx⟩
          obtain ⟨e, he, hex⟩ := hius.get hx
          have hj100 : j < 400 := by rw [hius.len, ins_len] at hj; omega
          obtain ⟨te, a, bx', rfl, hte, hma, hmb⟩ := hex.keep (show TupK H3 H4 from fun z o h => f4 z _ h fun e => by rw [e, hbm3] at h; cases h)
          obtain ⟨ta, rfl, hta⟩ : MkAt _ a e.1 := hma
          refine ⟨te, _, rfl, SqT.of hte, rfl, _, _, rfl, _, _, rfl, _, _, rfl, rfl, ?_⟩
          refine ⟨_, rfl, _, rfl, bm, _, rfl, .inr ⟨ps, [.inl (e.1.1 : Nat), .inl (e.1.2 : Nat)], ta, hb4, rfl, hta, by omega, rfl⟩, ?_⟩
          refine ⟨_, _, _, rfl, fun z o h n => by rw [upd_ne n]; exact f4 z o h n, upd_same, Nat.le_trans putK_len (Nat.succ_le_succ hp4)⟩
        · rintro σ H4 ⟨y3, y8, ps4, rfl, f4, hb4, hp4⟩
          have hjl : ius.length ≤ 400 := by rw [hius.len, ins_len]; exact htl
          have S4 := (S2.same s23).dict hbm3 f4 hb4 (by omega)
          obtain ⟨e0, he0⟩ : ∃ e0, es[r]? = some e0 := ⟨_, List.getElem?_eq_getElem (by rw [S4.le]; exact hr8)⟩
          have ge : atI (es.map vi) (r : Int) = some (vi e0) := atI_nat (by rw [List.getElem?_map, he0]; rfl)
          have hl : (S t).length = t.length := S_len t
          have em : (if ((n : Int) + ((S t).length : Int)) > (e0 : Int) then ((n : Int) + ((S t).length : Int)) else (e0 : Int)) = ((max e0 (n + t.length) : Nat) : Int) := by
            rw [hl]
            split <;> omega
          have e5 : (es.map vi).set r (V.int (if ((n : Int) + ((S t).length : Int)) > (e0 : Int) then ((n : Int) + ((S t).length : Int)) else (e0 : Int))) = (es.set r (max e0 (n + t.length))).map vi := by
            rw [List.map_set, em]
            rfl
          refine ⟨_, rfl, p, Z.cDeeds, du, _, _, rfl, S4.hp, Z.CDeeds.cl, Z.nDeeds_ends, dflds_ends _ _ _, _, rfl, en, _, _, _, rfl, rfl, SqL.of S4.he, ge, _, rfl, _, rfl, S t, rfl, by rw [hl]; omega, _, _, rfl, rfl, _, _, rfl, _, rfl, p, Z.cDeeds, du, _, _, rfl, S4.hp, Z.CDeeds.cl, Z.nDeeds_ends, dflds_ends _ _ _, _, rfl, en, _, _, r, rfl, rfl, S4.he, ixN_nat (by rw [List.length_map, S4.le]; exact hr8), ?_⟩
          show Q .non (upd H4 en (.lst ((es.map vi).set r (V.int (if ((n : Int) + ((S t).length : Int)) > (e0 : Int) then ((n : Int) + ((S t).length : Int)) else (e0 : Int))))))
          rw [e5]
          refine qq _ N' (fun z o h nz => ?_) ⟨_, _, _, _, _, _, _, S4.ends (by rw [List.length_set]; exact S4.le)⟩ fun z h => ?_
          · have h1 := fN z o h nz
            rw [upd_ne (fun e => by
              rcases n2 en S4.Ne with h | h
              · exact nz (by rw [e]; exact h)
              · rw [e, h] at h1; cases h1)]
            refine f4 _ _ (s23 _ _ (f2 _ _ h1 nz)) fun e => ?_
            rcases n2 bm hNb with h | h
            · exact nz (by rw [e]; exact h)
            · rw [e, h] at h1; cases h1
          · rcases n2 z h with h | h
            · exact .inl h
            · exact .inr (f1' z h)
/-- how many deeds there are -/
def tot (R : Rows) : Nat := (R 0).length + (R 1).length + (R 2).length + (R 3).length + (R 4).length + (R 5).length + (R 6).length + (R 7).length
theorem tot_add {R : Rows} {r : Nat} {δ : Deed} (hr : r < 8) : tot (addR R r δ) = tot R + 1 := by
  have h : r = 0 ∨ r = 1 ∨ r = 2 ∨ r = 3 ∨ r = 4 ∨ r = 5 ∨ r = 6 ∨ r = 7 := by omega
  have e : ∀ q, (addR R r δ q).length = (R q).length + (if q = r then 1 else 0) := fun q => by
    unfold addR
    by_cases e : q = r
    · subst e
      rw [if_pos rfl, if_pos rfl, List.length_append]
      rfl
    · rw [if_neg e, if_neg e]
      rfl
  unfold tot
  rw [e, e, e, e, e, e, e, e]
  rcases h with h | h | h | h | h | h | h | h <;> subst h <;> simp <;> omega
theorem tot_congr {R R' : Rows} (h : ∀ r, r < 8 → R' r = R r) : tot R' = tot R := by
  unfold tot
  rw [h 0 (by decide), h 1 (by decide), h 2 (by decide), h 3 (by decide), h 4 (by decide), h 5 (by decide), h 6 (by decide), h 7 (by decide)]
theorem tot_nil : tot (fun _ => []) = 0 := rfl
theorem DeAt.congr {cD : Addr} {H : Hp} {p : Addr} {R R' : Rows} {k : Nat} {N : Addr → Prop} (D : DeAt cD H p R' k N) (h : ∀ r, r < 8 → R' r = R r) (hl : ∀ r, (R r).length ≤ k) : DeAt cD H p R k N := by
  obtain ⟨dx, A, mk, en, rs, kvs, es, S⟩ := D
  refine ⟨dx, A, mk, en, rs, kvs, es, S.hp, ⟨S.hr.h, S.hr.n, fun i a e => ?_⟩, S.nd, S.nA, S.ne, S.hm, S.km, S.mv, S.he, S.le, S.Np, S.NA, S.Nm, S.Ne, S.Nr, S.nt, hl⟩
  have hi : i < 8 := by
    have := (List.getElem?_eq_some_iff.mp e).1
    rw [S.hr.n] at this
    exact this
  rw [← h i hi]
  exact S.hr.r i a e
theorem DeAt.same {cD : Addr} {H H' : Hp} {p : Addr} {R : Rows} {k : Nat} {N : Addr → Prop} (D : DeAt cD H p R k N) (s : Same H H') : DeAt cD H' p R k N := by
  obtain ⟨du, A0, mk, en, rs, kvs, es, S1⟩ := D
  exact ⟨du, A0, mk, en, rs, kvs, es, S1.same s⟩
def spCopy (cD : Addr) : Sp := fun vs H Q _ => ∃ (p : Addr) (R : Rows) (N : Addr → Prop), vs = [.ref p] ∧ DeAt cD H p R (tot R) N ∧ tot R ≤ 1000 ∧ (∀ r, r < 8 → ∀ d ∈ R r, TOk d) ∧
  ∀ H' q N', Same H H' → DeAt cD H' q R (tot R) N' → (∀ z, N' z → H z = none) → Q (.ref q) H'
def partC (R : Rows) (i j : Nat) : Rows := fun r => if r < i then R r else if r = i then (R r).take j else []
theorem partC_next {R : Rows} {i j : Nat} {d : Deed} (h : (R i)[j]? = some d) : addR (partC R i j) i d = partC R i (j + 1) := by
  funext r
  unfold addR partC
  by_cases e : r = i
  · subst e
    rw [if_pos rfl, if_neg (Nat.lt_irrefl _), if_pos rfl, if_neg (Nat.lt_irrefl _), if_pos rfl, take_snoc h]
  · rw [if_neg e]
    simp only [e, if_false]
theorem partC_row {R : Rows} {i : Nat} : partC R i (R i).length = partC R (i + 1) 0 := by
  funext r
  unfold partC
  by_cases e : r = i
  · subst e
    rw [if_neg (Nat.lt_irrefl _), if_pos rfl, if_pos (Nat.lt_succ_self _), List.take_length]
  · by_cases h : r < i
    · rw [if_pos h, if_pos (by omega)]
    · rw [if_neg h, if_neg e, if_neg (by omega)]
      by_cases e2 : r = i + 1
      · rw [if_pos e2, List.take_zero]
      · rw [if_neg e2]
theorem partC_zero {R : Rows} : partC R 0 0 = fun _ => [] := by
  funext r
  unfold partC
  rw [if_neg (Nat.not_lt_zero _)]
  split
  · exact List.take_zero ..
  · rfl
theorem partC_len {R : Rows} (i j r : Nat) : (partC R i j r).length ≤ (R r).length := by
  unfold partC
  split
  · exact Nat.le_refl _
  · split
    · rw [List.length_take]; exact Nat.min_le_right ..
    · exact Nat.zero_le _
theorem tot_partC {R : Rows} (i j : Nat) : tot (partC R i j) ≤ tot R := by
  unfold tot
  have h := fun r => partC_len (R := R) i j r
  have h0 := h 0; have h1 := h 1; have h2 := h 2; have h3 := h 3; have h4 := h 4; have h5 := h 5; have h6 := h 6; have h7 := h 7
  omega
theorem ok_copy {k : Nat} (Z : Defs K mg) : FnOk P w K mg base CX0 (k + 3) Z.fDeedsCopy Z.fdDeedsCopy ["self"] (spCopy Z.cDeeds) := by
  have GDeedsInit : FnOk P w K mg base CX0 (k + 1) Z.fDeedsInit Z.fdDeedsInit ["self"] (spInit Z.cDeeds) := ok_init Z
  have GDeedsAdd : FnOk P w K mg base CX0 (k + 2) Z.fDeedsAdd Z.fdDeedsAdd ["self", "replica", "deed"] (spAdd Z.cDeeds) := ok_add Z
  refine Z.DDeedsCopy.F.ok scDeedsCopy (fun vs H Q E h => ?_) (fun cdv A outer s H vs Q E hr h => ?_)
  · obtain ⟨p, R, N, rfl, _⟩ := h
    rfl
  · obtain ⟨p, R, N, rfl, ⟨du, A0, mk, en, rs, kvs, es, S⟩, hkk, hok, qq⟩ := h
    refine ⟨_, (pss_cons (ps_set (i := 1) scDeedsCopy.nd rfl (.inl rfl) (pe_make0 Z.CDeeds.make GDeedsInit (hr.mono (by omega)) rfl Z.CDeeds.g Z.DDeedsInit.b .nil pass0))
        (pss_cons (ps_for PassesOwn.never rfl (pi_enum (by rfl) Z.enumerate (pa_cons (pe_fld (pv 0) rfl) pa_nil)) (pg_tup rfl (pgs_cons (pg_name (i := 2) scDeedsCopy.nd rfl (.inl rfl)) (pgs_cons (pg_name (i := 3) scDeedsCopy.nd rfl (.inl rfl)) pgs_nil))) (pss_one (ps_for PassesOwn.never rfl (pi_list (pv 3)) (pg_name (i := 4) scDeedsCopy.nd rfl (.inl rfl)) (pss_one (ps_expr (pe_meth (pv 1) Z.CDeeds.cl Z.DDeedsAdd.m GDeedsAdd (hr.mono (by omega)) Z.DDeedsAdd.b .nil pass0 (pa_cons (pv 2) (pa_cons (pv 4) pa_nil))))))))
        (pss_one (ps_ret (pv 1))))), ?_⟩
    refine fun q dq hq hdq ndq => ⟨q, dq, rfl, upd_same, fun H1 N1 f1 D1 n1 => ⟨rfl, ?_⟩⟩
    have s1 : Same H H1 := fun z o h => f1 _ _ (by rw [upd_ne (ne_of_none h hq), upd_ne (ne_of_none h hdq)]; exact h) (ne_of_none h hq)
    have n1' : ∀ z, N1 z → H z = none := fun z h => by
      rcases n1 z h with e | e
      · rw [e]; exact hq
      · by_cases e1 : z = q
        · rw [e1]; exact hq
        · rw [upd_ne e1] at e
          by_cases e2 : z = dq
          · rw [e2]; exact hdq
          · rw [upd_ne e2] at e; exact e
    refine ⟨_, rfl, p, Z.cDeeds, du, _, _, rfl, s1 _ _ S.hp, Z.CDeeds.cl, Z.nDeeds_rows, dflds_rows _ _ _, A0, _, rfl, SqL.of (s1 _ _ S.hr.h), ?_⟩
    refine for_it walk_enum (fun i σ H' => ∃ (y2 y3 y4 : Option V) (N' : Addr → Prop), σ = [some (.ref p), some (.ref q), y2, y3, y4] ∧ Same H H' ∧ DeAt Z.cDeeds H' q (partC R i 0) (tot (partC R i 0)) N' ∧ (∀ z, N' z → H z = none))
      ⟨none, none, none, N1, rfl, s1, by rw [partC_zero]; exact D1, n1'⟩ (fun i σ H' _ ⟨_, _, _, _, _, s, _⟩ => SqL.of (s _ _ S.hr.h)) ?_ ?_
    · rintro i x σ H2 H2' hi ⟨y2, y3, y4, N', rfl, s2, D2, n2⟩ ⟨T, x1, x2, rfl, hT, rfl, e1, e2⟩
      obtain rfl : V.int (i : Nat) = x1 := Option.some.inj e1
      obtain ⟨ra, hra, rfl⟩ : ∃ ra, rs[i]? = some ra ∧ x2 = .ref ra := by
        have e2 : (rs.map V.ref)[i]? = some x2 := e2
        rw [List.getElem?_map] at e2
        cases e : rs[i]? with
        | none => rw [e] at e2; cases e2
        | some t => rw [e] at e2; cases e2; exact ⟨t, rfl, rfl⟩
      have hi8 : i < 8 := by have := (List.getElem?_eq_some_iff.mp hra).1; rw [S.hr.n] at this; exact this
      obtain ⟨us, hu, hus⟩ := S.hr.r i ra hra
      have sT : Same H2 (upd H2 T (.tup [.int (i : Nat), .ref ra])) := same_upd hT
      have gT : upd H2 T (.tup [.int (i : Nat), .ref ra]) T = some (.tup [.int (i : Nat), .ref ra]) := upd_same
      have s2T := Same.tr s2 sT
      have D2T := DeAt.same D2 sT
      generalize upd H2 T (.tup [.int (i : Nat), .ref ra]) = H3 at gT s2T D2T
      refine ⟨T, _, rfl, SqT.of gT, rfl, _, _, rfl, _, _, rfl, rfl, ?_⟩
      refine ⟨_, rfl, ra, rfl, ⟨_, SqL.of (s2T _ _ hu)⟩, ?_⟩
      refine for_it walk_list (fun j σ H' => ∃ (y4 : Option V) (N' : Addr → Prop), σ = [some (.ref p), some (.ref q), some (.int (i : Nat)), some (.ref ra), y4] ∧ Same H H' ∧ DeAt Z.cDeeds H' q (partC R i j) (tot (partC R i j)) N' ∧ (∀ z, N' z → H z = none))
        ⟨y4, N', rfl, s2T, D2T, n2⟩ (fun j σ H' _ ⟨_, _, _, s, _⟩ => SqL.of (s _ _ hu)) ?_ ?_
      · rintro j x σ H4' H4 hj ⟨y4, N', rfl, s4, D4, n4⟩ ⟨rfl, hx⟩
        obtain ⟨du4, A4, mk4, en4, rs4, kvs4, es4, S4⟩ := id D4
        have hpl : tot (partC R i j) ≤ tot R := tot_partC i j
        obtain ⟨d, hd, hdx⟩ := hus.get hx
        have hj2 : j < (R i).length := (List.getElem?_eq_some_iff.mp hd).1
        refine ⟨_, rfl, q, du4, _, rfl, S4.hp, dflds_no _ _ _ (by decide +kernel) (by decide +kernel) (by decide +kernel), _, rfl, _, rfl, q, i, partC R i j, tot (partC R i j), N', x, d, rfl, D4, hdx.keep (Same.tk s4), hok i hi8 d (List.mem_of_getElem? hd), hi8, by omega, fun H5 N5 f5 D5 n5 => ?_⟩
        refine ⟨_, N5, rfl, fun z o h => f5 _ _ (s4 _ _ h) (fun n => by rw [n4 z n] at h; cases h), by rw [← partC_next hd, tot_add hi8]; exact D5, fun z h => ?_⟩
        rcases n5 z h with h | h
        · exact n4 z h
        · cases e : H z with
          | none => rfl
          | some o => rw [s4 _ _ e] at h; cases h
      · rintro σ H4 ⟨y4, N', rfl, s4, D4, n4⟩
        rw [hus.len, partC_row] at D4
        exact ⟨_, _, _, N', rfl, s4, D4, n4⟩
    · rintro σ H2 ⟨y2, y3, y4, N', rfl, s2, D2, n2⟩
      rw [List.length_map, S.hr.n] at D2
      have e8 : ∀ r, r < 8 → partC R 8 0 r = R r := fun r hr => if_pos hr
      rw [tot_congr e8] at D2
      exact ⟨_, rfl, qq H2 q N' s2 (D2.congr e8 S.len) n2⟩
end
end Q44
namespace Q44
open PySem PySem.Spec PyProof.Rows L2 SX HL DM
/-- nested tuples, of at most n levels -/
def Tr (H : Hp) : Nat → V → Prop
  | 0, x => Leaf x
  | n + 1, x => Leaf x ∨ ∃ t us, x = .ref t ∧ H t = some (.tup us) ∧ us.length ≤ 1000000 ∧ ∀ u ∈ us, Tr H n u
theorem Tr.leaf {H : Hp} {n : Nat} {x : V} (h : Leaf x) : Tr H n x := by
  cases n with
  | zero => exact h
  | succ n => exact .inl h
theorem Tr.tup {H : Hp} {n : Nat} {t : Addr} {us : List V} (h : H t = some (.tup us)) (hl : us.length ≤ 1000000) (hu : ∀ u ∈ us, Tr H n u) : Tr H (n + 1) (.ref t) := .inr ⟨t, us, rfl, h, hl, hu⟩
theorem Tr.keep {H H' : Hp} (k : TupK H H') : ∀ {n : Nat} {x : V}, Tr H n x → Tr H' n x
  | 0, _, h => h
  | n + 1, _, h => by
    rcases h with h | ⟨t, us, e, ht, hl, hu⟩
    · exact .inl h
    · exact .inr ⟨t, us, e, k _ _ ht, hl, fun u m => Tr.keep k (hu u m)⟩
theorem Tr.succ {H : Hp} : ∀ {n : Nat} {x : V}, Tr H n x → Tr H (n + 1) x
  | 0, _, h => .inl h
  | n + 1, _, h => by
    rcases h with h | ⟨t, us, e, ht, hl, hu⟩
    · exact .inl h
    · exact .inr ⟨t, us, e, ht, hl, fun u m => Tr.succ (hu u m)⟩
theorem Tr.mono {H : Hp} {n m : Nat} {x : V} (h : Tr H n x) (hm : n ≤ m) : Tr H m x := by
  induction m with
  | zero =>
    have : n = 0 := by omega
    subst this
    exact h
  | succ m ih =>
    by_cases e : n = m + 1
    · subst e
      exact h
    · exact (ih (by omega)).succ
theorem Tr.same {K : PySem.W.Frag} {H : Hp} : ∀ {n : Nat} {x : V}, Tr H n x → SameD K H n x x
  | 0, _, h => .leaf h
  | n + 1, _, h => by
    rcases h with h | ⟨t, us, rfl, ht, hl, hu⟩
    · exact .leaf h
    · exact .seq (.tup ht) (.tup ht) rfl hl fun i u v h1 h2 => by
        rw [h1] at h2
        cases h2
        exact Tr.same (hu u (List.mem_of_getElem? h1))
/-- all but p stays, new objects may come -/
def Bt (H H' : Hp) (p : Addr) : Prop := ∀ z o, H z = some o → z ≠ p → H' z = some o
theorem Bt.of {H H' : Hp} {p : Addr} (b : But H H' p) : Bt H H' p := fun z o h n => (b z n).trans h
theorem Bt.refl {H : Hp} {p : Addr} : Bt H H p := fun _ _ h _ => h
theorem Bt.tr {H H1 H2 : Hp} {p : Addr} (a : Bt H H1 p) (b : Bt H1 H2 p) : Bt H H2 p := fun z o h n => b z o (a z o h n) n
theorem Bt.same {H H' : Hp} {p : Addr} (s : Same H H') : Bt H H' p := fun z o h _ => s z o h
theorem Bt.tk {H H' : Hp} {p q : Addr} {ds : List Int} (b : Bt H H' p) (S : StN H p q ds) : TupK H H' := fun a xs h => b _ _ h fun e => by
  obtain ⟨_, _, i, _, h2⟩ := S
  rw [e, h2] at h
  cases h
theorem StN.at {H : Hp} {p q : Addr} {ds : List Int} (S : StN H p q ds) : ∃ i : Int, H p = some (.lst [.ref q, .int i]) := by
  obtain ⟨_, _, i, _, h2⟩ := S
  exact ⟨i, h2⟩
theorem StN.sm {H H' : Hp} {p q : Addr} {ds : List Int} (S : StN H p q ds) (s : Same H H') : StN H' p q ds := S.same fun b o _ h => s b o h
/-- what is new is not the state -/
theorem StN.nn {H : Hp} {p q a : Addr} {ds : List Int} (S : StN H p q ds) (h : H a = none) : a ≠ p := fun e => by
  obtain ⟨i, h2⟩ := S.at
  rw [e, h2] at h
  cases h
theorem str_S (z : Str) : ∃ l, z = S l := ⟨z.cps.toList, by
  show z = ⟨z.cps.toList.toArray⟩
  rw [Array.toArray_toList]⟩
section
variable {P : Program} {w : World} {K : PySem.W.Frag} {mg : Str → Option Value} {base : Heap}
/-! ### _law_word -/
def spGenS : Sp := fun vs H Q _ => ∃ (p q : Addr) (ds : List Int), vs = [.ref p] ∧ StN H p q ds ∧ ∀ H' m, StN H' p q ds → Bt H H' p → Q (.str (S m)) H'
theorem ok_word {k : Nat} (Z : Defs K mg) : FnOk P w K mg base CX0 (k + 4) Z.fLawWord Z.fdLawWord ["state"] spGenS := by
  have GLawNext : FnOk P w K mg base CX0 (k + 3) Z.fLawNext Z.fdLawNext ["state", "limit"] spNext := ok_next Z
  refine Z.DLawWord.F.ok scLawWord (fun vs H Q E h => ?_) (fun cdv A outer s H vs Q E hr h => ?_)
  · obtain ⟨p, q, ds, rfl, _⟩ := h
    rfl
  · obtain ⟨p, q, ds, rfl, hS, qq⟩ := h
    refine ⟨_, (pss_cons (ps_set (i := 1) scLawWord.nd rfl (.inl rfl) (pe_lst (pa_cons pe_str (pa_cons pe_str (pa_cons pe_str (pa_cons pe_str (pa_cons (pe_op op_mul_strR pe_str pe_int) (pa_cons pe_str (pa_cons pe_str (pa_cons pe_str pa_nil))))))))))
        (pss_one (ps_ret (pe_ix ix_list (pv 1) (pe_call GLawNext (hr.mono (by omega)) (by rfl) Z.DLawNext.g Z.DLawNext.F.kp Z.DLawNext.b .nil pass0 (pa_cons (pv 0) (pa_cons pe_int pa_nil))) (fun _ _ => rfl))))), ?_⟩
    refine ⟨[120], 130, rfl, rfl, by decide, by decide, by decide, by decide, (by show 8 ≤ sizeLine; decide), fun l hl => ?_⟩
    generalize hws : [V.str "a", V.str "b2", V.str "Leaf", V.str "Node_2", V.str (S (List.replicate 130 [120]).flatten), V.str "", V.str "it's [1]", V.str "d"] = ws
    have s1 : Same H (upd H l (.lst ws)) := same_upd hl
    have g1 : upd H l (.lst ws) l = some (.lst ws) := upd_same
    have hx : ∀ i : Nat, i < 8 → ∃ m, ws[i]? = some (.str (S m)) := fun i hi => by
      rw [← hws]
      obtain ⟨z, hz⟩ : ∃ z : Str, [V.str "a", V.str "b2", V.str "Leaf", V.str "Node_2", V.str (S (List.replicate 130 [120]).flatten), V.str "", V.str "it's [1]", V.str "d"][i]? = some (.str z) := by
        have h : i = 0 ∨ i = 1 ∨ i = 2 ∨ i = 3 ∨ i = 4 ∨ i = 5 ∨ i = 6 ∨ i = 7 := by omega
        rcases h with h | h | h | h | h | h | h | h <;> subst h <;> exact ⟨_, rfl⟩
      obtain ⟨m, rfl⟩ := str_S z
      exact ⟨m, hz⟩
    generalize upd H l (.lst ws) = H1 at s1 g1
    have S1 := hS.sm s1
    refine ⟨_, rfl, _, rfl, p, q, ds, 8, rfl, S1, by decide, fun H2 v S2 b2 v0 v1 => ?_⟩
    obtain ⟨i, rfl⟩ := Int.eq_ofNat_of_zero_le v0
    obtain ⟨m, hm⟩ := hx i (by omega)
    exact ⟨l, _, _, _, rfl, rfl, SqL.of (Bt.of b2 _ _ g1 (hS.nn hl)), atI_nat hm, qq H2 m S2 (Bt.tr (Bt.same s1) (Bt.of b2))⟩
/-! ### _law_text_of -/
def spTxt : Sp := fun vs H Q _ => ∃ (p q : Addr) (ds : List Int), vs = [.ref p] ∧ StN H p q ds ∧ ∀ H' m, StN H' p q ds → Bt H H' p → m.length ≤ 400 → Q (.str (S m)) H'
theorem ones_join (l : List Nat) : Txt.join "" (l.map fun c => S [c]) = S l := by
  have e : (l.map fun c => S [c]) = (l.map fun c => [c]).map S := by rw [List.map_map]; rfl
  have e2 : ("" : Str) = S [] := rfl
  rw [e, e2, join_S, joinL_nil]
  congr 1
  clear e e2
  induction l with
  | nil => rfl
  | cons a l ih =>
    show a :: (l.map fun c => [c]).flatten = a :: l
    rw [ih]
theorem ones_sum (l : List Nat) : ((l.map fun c => S [c]).map (·.length)).sum = l.length := by
  induction l with
  | nil => rfl
  | cons a l ih =>
    rw [List.map_cons, List.map_cons, List.sum_cons, ih, List.length_cons]
    have : (S [a]).length = 1 := S_len [a]
    omega
theorem ok_textOf {k : Nat} (Z : Defs K mg) : FnOk P w K mg base CX0 (k + 4) Z.fLawTextOf Z.fdLawTextOf ["state"] spTxt := by
  have GLawNext : FnOk P w K mg base CX0 (k + 3) Z.fLawNext Z.fdLawNext ["state", "limit"] spNext := ok_next Z
  refine Z.DLawTextOf.F.ok scLawTextOf (fun vs H Q E h => ?_) (fun cdv A outer s H vs Q E hr h => ?_)
  · obtain ⟨p, q, ds, rfl, _⟩ := h
    rfl
  · obtain ⟨p, q, ds, rfl, hS, qq⟩ := h
    refine ⟨_, (pss_cons (ps_set (i := 1) scLawTextOf.nd rfl (.inr rfl) pe_str)
        (pss_cons (ps_set (i := 2) scLawTextOf.nd rfl (.inl rfl) (pe_call GLawNext (hr.mono (by omega)) (by rfl) Z.DLawNext.g Z.DLawNext.F.kp Z.DLawNext.b .nil pass0 (pa_cons (pv 0) (pa_cons pe_int pa_nil))))
        (C8.pss_cut (ps_if (pt_cmpR op_eq (pe_call GLawNext (hr.mono (by omega)) (by rfl) Z.DLawNext.g Z.DLawNext.F.kp Z.DLawNext.b .nil pass0 (pa_cons (pv 0) (pa_cons pe_int pa_nil))) pe_int (nomark _)) (pss_one (ps_set (i := 2) scLawTextOf.nd rfl (.inl rfl) (pe_op op_add pe_int (pe_call GLawNext (hr.mono (by omega)) (by rfl) Z.DLawNext.g Z.DLawNext.F.kp Z.DLawNext.b .nil pass0 (pa_cons (pv 0) (pa_cons pe_int pa_nil)))))) pss_nil)
        (pss_cons (ps_set (i := 3) scLawTextOf.nd rfl (.inr rfl) (pe_call GLawNext (hr.mono (by omega)) (by rfl) Z.DLawNext.g Z.DLawNext.F.kp Z.DLawNext.b .nil pass0 (pa_cons (pv 0) (pa_cons pe_int pa_nil))))
        (pss_one (ps_ret (pe_join pe_str (pe_lc (own := [("k", 4)]) (g := (gName 4)) (by rfl) scLawTextOf.nd (pi_range1 (by rfl) Z.range (pa_cons (pv 2) pa_nil)) (blkOk_by (own := [("k", 4)]) (N := ["state", "chars", "count", "start", "k"]) (sc := defScope sLawTextOf) (by decide +kernel)) (fun _ _ _ _ _ => (pg_name (i := 4) scLawTextOf.nd rfl (Or.inl rfl))) (fun _ _ _ _ _ => pts_nil) (fun _ _ _ _ _ => (pe_ix ix_str (pv 1) (pe_op op_mod (pe_op op_add (pv 3) (pe_op op_mul pe_int (pv 4))) pe_int) (fun _ _ => rfl))))))))))), ?_⟩
    obtain ⟨cl, hcl, hc95⟩ : ∃ cl : List Nat, S cl = (" !\"#$&'()*+,-./0123456789:;<=>?@ABCDEFGHIJKLMNOPQRSTUVWXYZ[\\]^_`abcdefghijklmnopqrstuvwxyz{|}~\n" : Str) ∧ cl.length = 95 := ⟨_, rfl, by decide +kernel⟩
    rw [← hcl]
    refine ⟨_, rfl, p, q, ds, 5, rfl, hS, by decide, fun H1 c S1 b1 c0 c1 => ?_⟩
    refine ⟨fun σ' H' => ∃ n : Nat, σ' = [some (.ref p), some (.str (S cl)), some (vi n), none, none] ∧ n ≤ 400 ∧ StN H' p q ds ∧ Bt H H' p, ?_, ?_⟩
    · refine ⟨_, rfl, p, q, ds, 12, rfl, S1, by decide, fun H2 v S2 b2 v0 v1 => ⟨rfl, _, rfl, ite2 (fun e => ?_) (fun e => ?_)⟩⟩
      · refine ⟨_, rfl, p, q, ds, 200, rfl, S2, by decide, fun H3 u S3 b3 u0 u1 => ⟨120, _, rfl, rfl, (120 + u).toNat, ?_, by omega, S3, Bt.tr (Bt.of b1) (Bt.tr (Bt.of b2) (Bt.of b3))⟩⟩
        have : (120 : Int) + u = (((120 + u).toNat : Nat) : Int) := by omega
        show [some (V.ref p), some (.str (S cl)), some (V.int (120 + u)), none, none] = _
        rw [this]
        rfl
      · refine ⟨c.toNat, ?_, by omega, S2, Bt.tr (Bt.of b1) (Bt.of b2)⟩
        have : c = ((c.toNat : Nat) : Int) := by omega
        show [some (V.ref p), some (.str (S cl)), some (V.int c), none, none] = _
        rw [this]
        rfl
    · rintro σ H2 ⟨n, rfl, hn, S2, b2⟩
      refine ⟨_, rfl, p, q, ds, 95, rfl, S2, by decide, fun H3 st S3 b3 st0 st1 => ?_⟩
      refine ⟨⟨_, rfl⟩, _, rfl, _, rfl, by omega, by omega, fun D hD => ?_⟩
      have b3' := Bt.tr b2 (Bt.of b3)
      have s4 : Same H3 (upd H3 D (.lst [])) := same_upd hD
      refine lc_range (lo := 0) (n := (n : Int).toNat) (fun i H' => Same H3 H' ∧ ∃ ls : List Nat, H' D = some (.lst ((ls.map fun c => S [c]).map V.str)) ∧ ls.length = i) ⟨s4, [], upd_same, rfl⟩ ?_ ?_
      · rintro i H4 hi ⟨b4, ls, hD4, hls⟩
        have hi4 : i < 400 := by omega
        have hm0 : 0 ≤ (st + 37 * (0 + (i : Int))) % 95 := Int.emod_nonneg _ (by decide)
        have hm1 : (st + 37 * (0 + (i : Int))) % 95 < 95 := Int.emod_lt_of_pos _ (by decide)
        obtain ⟨j, hj⟩ := Int.eq_ofNat_of_zero_le hm0
        have hj95 : j < cl.length := by omega
        have gj : atI (S cl).cps.toList ((st + 37 * (0 + (i : Int))) % 95) = some (cl.getD j 0) := by
          rw [hj]
          exact sign_at hj95
        have hsl : (S cl).length ≤ sizeLine := by rw [S_len, hc95]; decide
        refine ⟨rfl, lc_yes ⟨_, rfl, _, rfl, _, rfl, 37, _, rfl, rfl, (by unfold CMul; omega), _, _, rfl, rfl, _, 95, rfl, rfl, (by show (0 : Int) < 95; decide), S cl, _, _, rfl, rfl, hsl, gj, _, hD4, by rw [List.length_map, List.length_map, hls]; exact Nat.lt_of_lt_of_le hi4 (by decide), ?_, ls ++ [cl.getD j 0], ?_, by rw [List.length_append, hls]; rfl⟩⟩
        · intro z o hz
          rw [upd_ne (ne_of_none hz hD)]
          exact b4 _ _ hz
        · rw [upd_same, List.map_append, List.map_append]
          rfl
      · rintro H4 ⟨b4, ls, hD4, hls⟩
        have hl4 : ls.length ≤ 400 := by omega
        refine ⟨S [], D, ls.map fun c => S [c], rfl, rfl, .inl (SqL.of hD4), ?_, ?_⟩
        · rw [ones_sum, List.length_map]
          have e : (S []).length = 0 := rfl
          rw [e]
          omega
        · have e := ones_join ls
          show Q (.str (Txt.join "" _)) H4
          rw [e]
          exact qq H4 ls (S3.sm b4) (Bt.tr b3' (Bt.same b4)) hl4
end
end Q44
namespace Q44
open PySem PySem.Spec PyProof.Rows L2 SX HL DM
theorem StN.nq {H : Hp} {p q a : Addr} {ds : List Int} (S : StN H p q ds) (h : H a = none) : a ≠ q := fun e => by
  have := S.1
  rw [e, this] at h
  cases h
theorem StN.up {H : Hp} {p q D : Addr} {ds : List Int} {o : HO} (S : StN H p q ds) (h1 : D ≠ p) (h2 : D ≠ q) : StN (upd H D o) p q ds := S.same fun b x hb h => by
  rw [upd_ne]
  · exact h
  · rcases hb with rfl | rfl
    · exact fun e => h1 e.symm
    · exact fun e => h2 e.symm
theorem Bt.up {H0 H : Hp} {p D : Addr} {o : HO} (b : Bt H0 H p) (h : H0 D = none) : Bt H0 (upd H D o) p := fun z x e n => by
  rw [upd_ne (ne_of_none e h)]
  exact b z x e n
section
variable {P : Program} {w : World} {K : PySem.W.Frag} {mg : Str → Option Value} {base : Heap}
/-! ### _law_big -/
def spBig : Sp := fun vs H Q _ => ∃ (p q : Addr) (ds : List Int), vs = [.ref p] ∧ StN H p q ds ∧ ∀ H' n, StN H' p q ds → Bt H H' p → Q (vi n) H'
theorem ok_big {k : Nat} (Z : Defs K mg) : FnOk P w K mg base CX0 (k + 4) Z.fLawBig Z.fdLawBig ["state"] spBig := by
  have GLawNext : FnOk P w K mg base CX0 (k + 3) Z.fLawNext Z.fdLawNext ["state", "limit"] spNext := ok_next Z
  refine Z.DLawBig.F.ok scLawBig (fun vs H Q E h => ?_) (fun cdv A outer s H vs Q E hr h => ?_)
  · obtain ⟨p, q, ds, rfl, _⟩ := h
    rfl
  · obtain ⟨p, q, ds, rfl, hS, qq⟩ := h
    refine ⟨_, (pss_cons (ps_set (i := 1) scLawBig.nd rfl (.inl rfl) (pe_call GLawNext (hr.mono (by omega)) (by rfl) Z.DLawNext.g Z.DLawNext.F.kp Z.DLawNext.b .nil pass0 (pa_cons (pv 0) (pa_cons pe_int pa_nil))))
        (pss_cons (ps_if (pt_cmpR op_lt (pv 1) pe_int (nomark _)) (pss_one (ps_ret (pe_ix ix_list (pe_lst (pa_cons pe_int (pa_cons pe_int (pa_cons pe_int (pa_cons pe_int (pa_cons pe_int (pa_cons pe_int (pa_cons pe_int pa_nil)))))))) (pe_call GLawNext (hr.mono (by omega)) (by rfl) Z.DLawNext.g Z.DLawNext.F.kp Z.DLawNext.b .nil pass0 (pa_cons (pv 0) (pa_cons pe_int pa_nil))) (fun _ _ => rfl)))) pss_nil)
        (pss_cons (ps_set (i := 2) scLawBig.nd rfl (.inl rfl) pe_int)
        (pss_cons (ps_for PassesOwn.never rfl (pi_range1 (by rfl) Z.range (pa_cons (pe_op op_add pe_int (pe_call GLawNext (hr.mono (by omega)) (by rfl) Z.DLawNext.g Z.DLawNext.F.kp Z.DLawNext.b .nil pass0 (pa_cons (pv 0) (pa_cons pe_int pa_nil)))) pa_nil)) (pg_name (i := 3) scLawBig.nd rfl (.inl rfl)) (pss_one (ps_set (i := 2) scLawBig.nd rfl (.inl rfl) (pe_op op_add (pe_op op_mul (pv 2) pe_int) (pe_call GLawNext (hr.mono (by omega)) (by rfl) Z.DLawNext.g Z.DLawNext.F.kp Z.DLawNext.b .nil pass0 (pa_cons (pv 0) (pa_cons pe_int pa_nil)))))))
        (pss_one (ps_ret (pv 2))))))), ?_⟩
    refine ⟨_, rfl, p, q, ds, 5, rfl, hS, by decide, fun H1 c S1 b1 c0 c1 => ⟨_, rfl, _, 3, rfl, rfl, _, rfl, ite2 (fun e => ?_) (fun e => ?_)⟩⟩
    · refine ⟨(by show 7 ≤ sizeLine; decide), fun l hl => ?_⟩
      generalize hws : [V.int 0, V.int 1, V.int 127, V.int 128, V.int 300, V.int 16383, V.int 16384] = ws
      have s2 : Same H1 (upd H1 l (.lst ws)) := same_upd hl
      have g2 : upd H1 l (.lst ws) l = some (.lst ws) := upd_same
      have hx : ∀ i : Nat, i < 7 → ∃ n : Nat, ws[i]? = some (vi n) := fun i hi => by
        rw [← hws]
        have h : i = 0 ∨ i = 1 ∨ i = 2 ∨ i = 3 ∨ i = 4 ∨ i = 5 ∨ i = 6 := by omega
        rcases h with h | h | h | h | h | h | h <;> subst h
        · exact ⟨0, rfl⟩
        · exact ⟨1, rfl⟩
        · exact ⟨127, rfl⟩
        · exact ⟨128, rfl⟩
        · exact ⟨300, rfl⟩
        · exact ⟨16383, rfl⟩
        · exact ⟨16384, rfl⟩
      generalize upd H1 l (.lst ws) = H2 at s2 g2
      have S2 := S1.sm s2
      refine ⟨_, rfl, p, q, ds, 7, rfl, S2, by decide, fun H3 v S3 b3 v0 v1 => ?_⟩
      obtain ⟨i, rfl⟩ := Int.eq_ofNat_of_zero_le v0
      obtain ⟨n, hn⟩ := hx i (by omega)
      exact ⟨l, _, _, _, rfl, rfl, SqL.of (Bt.of b3 _ _ g2 (S1.nn hl)), atI_nat hn, qq H3 n S3 (Bt.tr (Bt.of b1) (Bt.tr (Bt.same s2) (Bt.of b3)))⟩
    · refine ⟨_, rfl, p, q, ds, 10, rfl, S1, by decide, fun H2 u S2 b2 u0 u1 => ⟨1, _, rfl, rfl, ?_⟩⟩
      refine ⟨1 + u, rfl, by omega, by omega, ?_⟩
      refine for_range (lo := 0) (n := (1 + u).toNat) (fun i σ H' => ∃ (y1 : Option V) (n : Nat) (y3 : Option V), σ = [some (.ref p), y1, some (vi n), y3] ∧ StN H' p q ds ∧ Bt H H' p) ⟨_, 0, none, rfl, S2, Bt.tr (Bt.of b1) (Bt.of b2)⟩ ?_ ?_
      · rintro i σ H3 hi ⟨y1, n, y3, rfl, S3, b3⟩
        refine ⟨_, rfl, _, 9973, rfl, rfl, (by unfold CMul; omega), _, rfl, p, q, ds, 9973, rfl, S3, by decide, fun H4 v S4 b4 v0 v1 => ⟨_, _, rfl, rfl, ?_⟩⟩
        obtain ⟨j, rfl⟩ := Int.eq_ofNat_of_zero_le v0
        exact ⟨_, n * 9973 + j, _, rfl, S4, Bt.tr b3 (Bt.of b4)⟩
      · rintro σ H3 ⟨y1, n, y3, rfl, S3, b3⟩
        exact ⟨_, rfl, qq H3 n S3 b3⟩
end
end Q44
namespace Q44
open PySem PySem.Spec PyProof.Rows L2 SX HL DM
section
variable {P : Program} {w : World} {K : PySem.W.Frag} {mg : Str → Option Value} {base : Heap}
/-! ### _law_value -/
def vd (d : Nat) : Nat := if d = 0 then 2 else 72 + 2 * d
theorem vd_ge (d : Nat) : 2 ≤ vd d := by unfold vd; split <;> omega
theorem vd_pos {d : Nat} (h : d ≠ 0) : vd d = 72 + 2 * d := if_neg h
def spVal (n : Nat) : Sp := fun vs H Q _ => ∃ (p q : Addr) (ds : List Int) (d : Nat), vs = [.ref p, vi d] ∧ d ≤ n ∧ d ≤ 3 ∧ StN H p q ds ∧ ∀ H' x, StN H' p q ds → Bt H H' p → Tr H' (vd d) x → Q x H'
def spVL : Nat → Sp
  | 0 => fun _ _ _ _ => False
  | n + 1 => spVal n
theorem value_step {n : Nat} (Z : Defs K mg) (GLawValue : FnOk P w K mg base CX0 (n + 5) Z.fLawValue Z.fdLawValue ["state", "depth"] (spVL n)) : FnOk P w K mg base CX0 (n + 6) Z.fLawValue Z.fdLawValue ["state", "depth"] (spVal n) := by
  have GLawNext : FnOk P w K mg base CX0 3 Z.fLawNext Z.fdLawNext ["state", "limit"] spNext := ok_next Z
  have GLawBig : FnOk P w K mg base CX0 4 Z.fLawBig Z.fdLawBig ["state"] spBig := ok_big Z
  have GLawTextOf : FnOk P w K mg base CX0 4 Z.fLawTextOf Z.fdLawTextOf ["state"] spTxt := ok_textOf Z
  have GLawWord : FnOk P w K mg base CX0 4 Z.fLawWord Z.fdLawWord ["state"] spGenS := ok_word Z
  refine Z.DLawValue.F.ok scLawValue (fun vs H Q E h => ?_) (fun cdv A outer s H vs Q E hr h => ?_)
  · obtain ⟨p, q, ds, d, rfl, _⟩ := h
    rfl
  · obtain ⟨p, q, ds, d, rfl, hdn, hd3, hS, qq⟩ := h
    refine ⟨_, (pss_cons (ps_set (i := 2) scLawValue.nd rfl (.inl rfl) (pe_call GLawNext (hr.mono (by omega)) (by rfl) Z.DLawNext.g Z.DLawNext.F.kp Z.DLawNext.b .nil pass0 (pa_cons (pv 0) (pa_cons pe_int pa_nil))))
        (pss_cons (ps_if (pt_cmpR op_lt (pv 2) pe_int (nomark _)) (pss_one (ps_ret (pe_op op_mul (pe_call GLawBig (hr.mono (by omega)) (by rfl) Z.DLawBig.g Z.DLawBig.F.kp Z.DLawBig.b .nil pass0 (pa_cons (pv 0) pa_nil)) (pe_ix ix_list (pe_lst (pa_cons pe_int (pa_cons (pe_un un_neg pe_int) pa_nil))) (pe_call GLawNext (hr.mono (by omega)) (by rfl) Z.DLawNext.g Z.DLawNext.F.kp Z.DLawNext.b .nil pass0 (pa_cons (pv 0) (pa_cons pe_int pa_nil))) (fun _ _ => rfl))))) pss_nil)
        (pss_cons (ps_if (pt_cmpR op_eq (pv 2) pe_int (nomark _)) (pss_one (ps_ret (pe_call GLawTextOf (hr.mono (by omega)) (by rfl) Z.DLawTextOf.g Z.DLawTextOf.F.kp Z.DLawTextOf.b .nil pass0 (pa_cons (pv 0) pa_nil)))) pss_nil)
        (pss_cons (ps_if (pt_cmpR op_eq (pv 2) pe_int (nomark _)) (pss_one (ps_ret (pe_cmpR op_eq (pe_call GLawNext (hr.mono (by omega)) (by rfl) Z.DLawNext.g Z.DLawNext.F.kp Z.DLawNext.b .nil pass0 (pa_cons (pv 0) (pa_cons pe_int pa_nil))) pe_int (nomark _)))) pss_nil)
        (pss_cons (ps_if (pt_cmpR op_eq (pv 1) pe_int (nomark _)) (pss_one (ps_ret (pe_tup (pa_cons pe_str (pa_cons (pe_tup pa_nil) pa_nil))))) pss_nil)
        (pss_cons (ps_if (pt_cmpR op_eq (pv 2) pe_int (nomark _)) (pss_cons (ps_set (i := 3) scLawValue.nd rfl (.inl rfl) (pe_call GLawValue (hr.mono (by omega)) (by rfl) Z.DLawValue.g Z.DLawValue.F.kp Z.DLawValue.b .nil pass0 (pa_cons (pv 0) (pa_cons pe_int pa_nil))))
        (pss_cons (ps_for PassesOwn.never rfl (pi_range1 (by rfl) Z.range (pa_cons (pe_call GLawNext (hr.mono (by omega)) (by rfl) Z.DLawNext.g Z.DLawNext.F.kp Z.DLawNext.b .nil pass0 (pa_cons (pv 0) (pa_cons (pe_op op_add pe_int (pv 1)) pa_nil))) pa_nil)) (pg_name (i := 4) scLawValue.nd rfl (.inl rfl)) (pss_one (ps_set (i := 3) scLawValue.nd rfl (.inl rfl) (pe_ix ix_list (pe_lst (pa_cons (pe_tup (pa_cons pe_str (pa_cons (pe_tup (pa_cons (pv 3) pa_nil)) pa_nil))) (pa_cons (pe_tup (pa_cons pe_str (pa_cons pe_str (pa_cons (pe_tup (pa_cons (pv 3) pa_nil)) pa_nil)))) pa_nil))) (pe_call GLawNext (hr.mono (by omega)) (by rfl) Z.DLawNext.g Z.DLawNext.F.kp Z.DLawNext.b .nil pass0 (pa_cons (pv 0) (pa_cons pe_int pa_nil))) (fun _ _ => rfl)))))
        (pss_one (ps_ret (pv 3))))) pss_nil)
        (pss_cons (ps_set (i := 5) scLawValue.nd rfl (.inl rfl) (pe_callTy call_tuple_of (by rfl) Z.tuple HL.boot_tuple (pa_cons (pe_lc (own := [("k", 4)]) (g := (gName 4)) (by rfl) scLawValue.nd (pi_range1 (by rfl) Z.range (pa_cons (pe_call GLawNext (hr.mono (by omega)) (by rfl) Z.DLawNext.g Z.DLawNext.F.kp Z.DLawNext.b .nil pass0 (pa_cons (pv 0) (pa_cons pe_int pa_nil))) pa_nil)) (blkOk_by (own := [("k", 4)]) (N := ["state", "depth", "pick", "value", "k", "parts"]) (sc := defScope sLawValue) (by decide +kernel)) (fun _ _ _ _ _ => (pg_name (i := 4) scLawValue.nd rfl (Or.inl rfl))) (fun _ _ _ _ _ => pts_nil) (fun _ _ _ _ _ => (pe_call GLawValue (hr.mono (by omega)) (by rfl) Z.DLawValue.g Z.DLawValue.F.kp Z.DLawValue.b .nil pass0 (pa_cons (pv 0) (pa_cons (pe_op op_sub (pv 1) pe_int) pa_nil))))) pa_nil)))
        (pss_cons (ps_if (pt_cmpR op_lt (pv 2) pe_int (nomark _)) (pss_one (ps_ret (pe_tup (pa_cons pe_str (pa_cons (pv 5) pa_nil))))) pss_nil)
        (pss_one (ps_ret (pe_tup (pa_cons pe_str (pa_cons (pe_call GLawWord (hr.mono (by omega)) (by rfl) Z.DLawWord.g Z.DLawWord.F.kp Z.DLawWord.b .nil pass0 (pa_cons (pv 0) pa_nil)) (pa_cons (pv 5) pa_nil)))))))))))))), ?_⟩
    refine ⟨_, rfl, p, q, ds, 9, rfl, hS, by decide, fun H1 c S1 b1 c0 c1 => ?_⟩
    have B1 := Bt.of b1
    clear b1
    refine ⟨_, rfl, _, 2, rfl, rfl, _, rfl, ite2 (fun e => ?_) (fun e => ?_)⟩
    · refine ⟨_, rfl, p, q, ds, rfl, S1, fun H2 m S2 b2 => ?_⟩
      refine ⟨1, rfl, (by show 2 ≤ sizeLine; decide), fun l hl => ?_⟩
      have s3 : Same H2 (upd H2 l (.lst [.int 1, .int (-1)])) := same_upd hl
      have g3 : upd H2 l (.lst [.int 1, .int (-1)]) l = some (.lst [.int 1, .int (-1)]) := upd_same
      generalize upd H2 l (.lst [.int 1, .int (-1)]) = H3 at s3 g3
      refine ⟨_, rfl, p, q, ds, 2, rfl, S2.sm s3, by decide, fun H4 v S4 b4 v0 v1 => ?_⟩
      have hz : ∃ z : Int, atI [V.int 1, V.int (-1)] v = some (.int z) ∧ -(2 ^ 64) < z ∧ z < 2 ^ 64 := by
        have h : v = 0 ∨ v = 1 := by omega
        rcases h with rfl | rfl
        · exact ⟨1, rfl, by decide, by decide⟩
        · exact ⟨-1, rfl, by decide, by decide⟩
      obtain ⟨z, gz, z0, z1⟩ := hz
      exact ⟨l, _, _, _, rfl, rfl, SqL.of (Bt.of b4 _ _ g3 (S2.nn hl)), gz, _, _, rfl, rfl, .inr ⟨z0, z1⟩, qq H4 _ S4 (Bt.tr B1 (Bt.tr b2 (Bt.tr (Bt.same s3) (Bt.of b4)))) (Tr.leaf True.intro)⟩
    · refine ⟨_, rfl, rfl, _, rfl, ite2 (fun e => ?_) (fun e => ?_)⟩
      · refine ⟨_, rfl, p, q, ds, rfl, S1, fun H2 m S2 b2 hm => ?_⟩
        exact qq H2 _ S2 (Bt.tr B1 b2) (Tr.leaf True.intro)
      · refine ⟨_, rfl, rfl, _, rfl, ite2 (fun e => ?_) (fun e => ?_)⟩
        · refine ⟨_, rfl, p, q, ds, 2, rfl, S1, by decide, fun H2 v S2 b2 v0 v1 => ?_⟩
          exact ⟨rfl, qq H2 _ S2 (Bt.tr B1 (Bt.of b2)) (Tr.leaf True.intro)⟩
        · refine ⟨_, rfl, rfl, _, rfl, ite2 (fun e => ?_) (fun e => ?_)⟩
          · refine ⟨Nat.zero_le _, fun t1 ht1 => ⟨(by show 2 ≤ sizeLine; decide), fun t2 ht2 => ?_⟩⟩
            have s2 := Same.tr (same_upd (o := .tup []) ht1) (same_upd (o := .tup [.str "list", .ref t1]) ht2)
            have g1 := same_upd (o := .tup [.str "list", .ref t1]) ht2 _ _ (upd_same (H := H1) (a := t1) (o := .tup []))
            refine qq _ _ (S1.sm s2) (Bt.tr B1 (Bt.same s2)) (Tr.mono (n := 2) (Tr.tup upd_same (by show 2 ≤ 1000000; decide) fun u hu => ?_) (vd_ge d))
            rcases List.mem_cons.mp hu with rfl | hu
            · exact Tr.leaf True.intro
            · rw [List.mem_singleton.mp hu]
              exact Tr.tup g1 (Nat.zero_le _) fun u hu => by cases hu
          · have hd0 : d ≠ 0 := fun h => e (by rw [h]; exact decide_eq_true rfl)
            rw [vd_pos hd0] at qq
            cases n with
            | zero => exact absurd hdn (by omega)
            | succ n' =>
            refine ⟨_, rfl, rfl, _, rfl, ite2 (fun e => ?_) (fun e => ?_)⟩
            · refine ⟨_, rfl, p, q, ds, 0, rfl, Nat.zero_le _, Nat.zero_le _, S1, fun H2 x S2 b2 hx => ?_⟩
              have hx : Tr H2 2 x := hx
              refine ⟨_, rfl, _, rfl, 36, _, rfl, rfl, p, q, ds, 36 + (d : Int), rfl, S2, by omega, fun H3 v S3 b3 v0 v1 => ⟨v, rfl, by omega, by omega, ?_⟩⟩
              have B3 := Bt.tr B1 (Bt.tr b2 (Bt.of b3))
              refine for_range (lo := 0) (n := v.toNat) (fun i σ H' => ∃ (x : V) (y4 : Option V), σ = [some (.ref p), some (vi d), some (.int c), some x, y4, none] ∧ StN H' p q ds ∧ Bt H H' p ∧ Tr H' (2 + 2 * i) x) ⟨x, none, rfl, S3, B3, hx.keep (Bt.tk (Bt.of b3) S2)⟩ ?_ ?_
              · rintro i σ H4 hi ⟨x, y4, rfl, S4, B4, hx4⟩
                refine ⟨_, rfl, (by show 1 ≤ sizeLine; decide), fun t1 ht1 => ⟨(by show 2 ≤ sizeLine; decide), fun t2 ht2 => ⟨_, rfl, (by show 1 ≤ sizeLine; decide), fun t3 ht3 => ⟨(by show 3 ≤ sizeLine; decide), fun t4 ht4 => ⟨(by show 2 ≤ sizeLine; decide), fun l hl => ?_⟩⟩⟩⟩⟩
                have s1 := same_upd (o := .tup [x]) ht1
                have g1 : upd H4 t1 (.tup [x]) t1 = some (.tup [x]) := upd_same
                generalize upd H4 t1 (.tup [x]) = G1 at *
                have s2 := same_upd (o := .tup [.str "list", .ref t1]) ht2
                have g2 : upd G1 t2 (.tup [.str "list", .ref t1]) t2 = some (.tup [.str "list", .ref t1]) := upd_same
                generalize upd G1 t2 (.tup [.str "list", .ref t1]) = G2 at *
                have s3 := same_upd (o := .tup [x]) ht3
                have g3 : upd G2 t3 (.tup [x]) t3 = some (.tup [x]) := upd_same
                generalize upd G2 t3 (.tup [x]) = G3 at *
                have s4 := same_upd (o := .tup [.str "make", .str "N", .ref t3]) ht4
                have g4 : upd G3 t4 (.tup [.str "make", .str "N", .ref t3]) t4 = some (.tup [.str "make", .str "N", .ref t3]) := upd_same
                generalize upd G3 t4 (.tup [.str "make", .str "N", .ref t3]) = G4 at *
                have s5 := same_upd (o := .lst [.ref t2, .ref t4]) hl
                have g5 : upd G4 l (.lst [.ref t2, .ref t4]) l = some (.lst [.ref t2, .ref t4]) := upd_same
                generalize upd G4 l (.lst [.ref t2, .ref t4]) = G5 at *
                have s15 : Same G1 G5 := Same.tr s2 (Same.tr s3 (Same.tr s4 s5))
                have s05 := Same.tr s1 s15
                have hx5 := hx4.keep (Same.tk s05)
                have r1 : Tr G5 (2 + 2 * i + 2) (.ref t2) := Tr.tup (s5 _ _ (s4 _ _ (s3 _ _ g2))) (by show 2 ≤ 1000000; decide) fun u hu => by
                  rcases List.mem_cons.mp hu with rfl | hu
                  · exact Tr.leaf True.intro
                  · rw [List.mem_singleton.mp hu]
                    exact Tr.tup (s15 _ _ g1) (by show 1 ≤ 1000000; decide) fun u hu => by rw [List.mem_singleton.mp hu]; exact hx5
                have r2 : Tr G5 (2 + 2 * i + 2) (.ref t4) := Tr.tup (s5 _ _ g4) (by show 3 ≤ 1000000; decide) fun u hu => by
                  rcases List.mem_cons.mp hu with rfl | hu
                  · exact Tr.leaf True.intro
                  · rcases List.mem_cons.mp hu with rfl | hu
                    · exact Tr.leaf True.intro
                    · rw [List.mem_singleton.mp hu]
                      exact Tr.tup (s5 _ _ (s4 _ _ g3)) (by show 1 ≤ 1000000; decide) fun u hu => by rw [List.mem_singleton.mp hu]; exact hx5
                have S5 := S4.sm s05
                refine ⟨_, rfl, p, q, ds, 2, rfl, S5, by decide, fun H6 u S6 b6 u0 u1 => ?_⟩
                have B6 := Bt.tr B4 (Bt.tr (Bt.same s05) (Bt.of b6))
                have k6 := Bt.tk (Bt.of b6) S5
                have g6 : H6 l = some (.lst [.ref t2, .ref t4]) := Bt.of b6 _ _ g5 fun e => by
                  obtain ⟨i, h2⟩ := S4.at
                  rw [← e, Same.none (Same.tr s1 (Same.tr s2 (Same.tr s3 s4))) hl] at h2
                  cases h2
                have hy : ∃ y, atI [V.ref t2, V.ref t4] u = some y ∧ Tr G5 (2 + 2 * i + 2) y := by
                  have h : u = 0 ∨ u = 1 := by omega
                  rcases h with rfl | rfl
                  · exact ⟨_, rfl, r1⟩
                  · exact ⟨_, rfl, r2⟩
                obtain ⟨y, gy, ry⟩ := hy
                exact ⟨l, _, _, _, rfl, rfl, SqL.of g6, gy, y, _, rfl, S6, B6, ry.keep k6⟩
              · rintro σ H4 ⟨x, y4, rfl, S4, B4, hx4⟩
                exact ⟨_, rfl, qq H4 x S4 B4 (hx4.mono (by omega))⟩
            · refine ⟨_, rfl, p, q, ds, 4, rfl, S1, by decide, fun H2 v S2 b2 v0 v1 => ⟨v, rfl, by omega, by omega, fun D hD => ?_⟩⟩
              have B2 := Bt.tr B1 (Bt.of b2)
              have sD := same_upd (o := .lst []) hD
              refine lc_range (lo := 0) (n := v.toNat) (fun i H' => StN H' p q ds ∧ Bt H2 H' p ∧ ∃ acc, H' D = some (.lst acc) ∧ acc.length = i ∧ ∀ x ∈ acc, Tr H' (vd (d - 1)) x) ⟨S2.sm sD, Bt.same sD, [], upd_same, rfl, fun x h => by cases h⟩ ?_ ?_
              · rintro i H3 hi ⟨S3, b3, acc, hD3, hl3, hacc⟩
                have ed : V.int ((d : Int) - 1) = vi (d - 1) := congrArg V.int (by omega)
                refine ⟨rfl, lc_yes ⟨_, rfl, _, rfl, _, 1, rfl, rfl, p, q, ds, d - 1, ?_, by omega, by omega, S3, fun H4 x S4 b4 hx => ?_⟩⟩
                · show [V.ref p, V.int ((d : Int) - 1)] = _
                  rw [ed]
                have hD4 : H4 D = some (.lst acc) := b4 _ _ hD3 (S2.nn hD)
                have k4 := Bt.tk b4 S3
                have kD : TupK H4 (upd H4 D (.lst (acc ++ [x]))) := tk_upd fun xs e => by rw [hD4] at e; cases e
                refine ⟨acc, hD4, by rw [hl3]; exact Nat.lt_of_lt_of_le (show i < 4 by omega) (by decide), S4.up (S2.nn hD) (S2.nq hD), Bt.up (Bt.tr b3 b4) hD, acc ++ [x], upd_same, by rw [List.length_append, hl3]; rfl, fun u hu => ?_⟩
                rcases List.mem_append.mp hu with hu | hu
                · exact ((hacc u hu).keep k4).keep kD
                · rw [List.mem_singleton.mp hu]
                  exact hx.keep kD
              · rintro H3 ⟨S3, b3, acc, hD3, hl3, hacc⟩
                have hl4 : acc.length ≤ 4 := by omega
                refine ⟨D, _, rfl, .inl ⟨SqL.of hD3, fun t ht => ?_⟩⟩
                have s4 := same_upd (o := .tup acc) ht
                have g4 : upd H3 t (.tup acc) t = some (.tup acc) := upd_same
                generalize upd H3 t (.tup acc) = H4 at s4 g4
                have S4 := S3.sm s4
                have B4 := Bt.tr B2 (Bt.tr b3 (Bt.same s4))
                have hvd : vd (d - 1) + 2 ≤ 72 + 2 * d := by
                  unfold vd
                  split <;> omega
                have ht4 : Tr H4 (vd (d - 1) + 1) (.ref t) := Tr.tup g4 (by omega) fun u hu => (hacc u hu).keep (Same.tk s4)
                refine ⟨_, rfl, _, 7, rfl, rfl, _, rfl, ite2 (fun e => ?_) (fun e => ?_)⟩
                · refine ⟨_, rfl, (by show 2 ≤ sizeLine; decide), fun t2 ht2 => ?_⟩
                  have s5 := same_upd (o := .tup [.str "list", .ref t]) ht2
                  refine qq _ _ (S4.sm s5) (Bt.tr B4 (Bt.same s5)) (Tr.mono (n := vd (d - 1) + 1 + 1) (Tr.tup upd_same (by show 2 ≤ 1000000; decide) fun u hu => ?_) hvd)
                  rcases List.mem_cons.mp hu with rfl | hu
                  · exact Tr.leaf True.intro
                  · rw [List.mem_singleton.mp hu]
                    exact ht4.keep (Same.tk s5)
                · refine ⟨_, rfl, p, q, ds, rfl, S4, fun H5 m S5 b5 => ⟨_, rfl, (by show 3 ≤ sizeLine; decide), fun t2 ht2 => ?_⟩⟩
                  have k5 := Bt.tk b5 S4
                  have s6 := same_upd (o := .tup [.str "make", .str (S m), .ref t]) ht2
                  refine qq _ _ (S5.sm s6) (Bt.tr B4 (Bt.tr b5 (Bt.same s6))) (Tr.mono (n := vd (d - 1) + 1 + 1) (Tr.tup upd_same (by show 3 ≤ 1000000; decide) fun u hu => ?_) hvd)
                  rcases List.mem_cons.mp hu with rfl | hu
                  · exact Tr.leaf True.intro
                  · rcases List.mem_cons.mp hu with rfl | hu
                    · exact Tr.leaf True.intro
                    · rw [List.mem_singleton.mp hu]
                      exact (ht4.keep k5).keep (Same.tk s6)
theorem ok_value (Z : Defs K mg) : ∀ n, FnOk P w K mg base CX0 (n + 6) Z.fLawValue Z.fdLawValue ["state", "depth"] (spVal n)
  | 0 => value_step Z (Z.DLawValue.F.ok scLawValue (fun vs H Q E h => (show False from h).elim) (fun cdv A outer s H vs Q E hr h => (show False from h).elim))
  | n + 1 => value_step Z (ok_value Z n)
end
end Q44
namespace Q44
open PySem PySem.Spec PyProof.Rows L2 SX HL DM
section
variable {P : Program} {w : World} {K : PySem.W.Frag} {mg : Str → Option Value} {base : Heap}
/-! ### _law_outcome, _law_shape_kind, _law_cell -/
def spTr (n : Nat) : Sp := fun vs H Q _ => ∃ (p q : Addr) (ds : List Int), vs = [.ref p] ∧ StN H p q ds ∧ ∀ H' x, StN H' p q ds → Bt H H' p → Tr H' n x → Q x H'
theorem Tr.pair {H : Hp} {n : Nat} {t : Addr} {a b : V} (h : H t = some (.tup [a, b])) (ha : Tr H n a) (hb : Tr H n b) : Tr H (n + 1) (.ref t) := Tr.tup h (by show 2 ≤ 1000000; decide) fun u hu => by
  rcases List.mem_cons.mp hu with rfl | hu
  · exact ha
  · rw [List.mem_singleton.mp hu]
    exact hb
theorem ok_outcome (Z : Defs K mg) : FnOk P w K mg base CX0 10 Z.fLawOutcome Z.fdLawOutcome ["state"] (spTr 80) := by
  have GLawNext : FnOk P w K mg base CX0 3 Z.fLawNext Z.fdLawNext ["state", "limit"] spNext := ok_next Z
  have GLawWord : FnOk P w K mg base CX0 4 Z.fLawWord Z.fdLawWord ["state"] spGenS := ok_word Z
  have GLawValue : FnOk P w K mg base CX0 9 Z.fLawValue Z.fdLawValue ["state", "depth"] (spVal 3) := ok_value Z 3
  refine Z.DLawOutcome.F.ok scLawOutcome (fun vs H Q E h => ?_) (fun cdv A outer s H vs Q E hr h => ?_)
  · obtain ⟨p, q, ds, rfl, _⟩ := h
    rfl
  · obtain ⟨p, q, ds, rfl, hS, qq⟩ := h
    refine ⟨_, (pss_cons (ps_set (i := 1) scLawOutcome.nd rfl (.inl rfl) (pe_call GLawNext (hr.mono (by omega)) (by rfl) Z.DLawNext.g Z.DLawNext.F.kp Z.DLawNext.b .nil pass0 (pa_cons (pv 0) (pa_cons pe_int pa_nil))))
        (pss_cons (ps_if (pt_cmpR op_gt (pv 1) pe_int (nomark _)) (pss_one (ps_ret (pe_tup (pa_cons pe_str (pa_cons (pe_call GLawValue (hr.mono (by omega)) (by rfl) Z.DLawValue.g Z.DLawValue.F.kp Z.DLawValue.b .nil pass0 (pa_cons (pv 0) (pa_cons pe_int pa_nil))) pa_nil))))) pss_nil)
        (pss_cons (ps_if (pt_cmpR op_eq (pv 1) pe_int (nomark _)) (pss_one (ps_ret (pe_tup (pa_cons pe_str (pa_cons (pe_tup (pa_cons pe_str (pa_cons (pe_call GLawWord (hr.mono (by omega)) (by rfl) Z.DLawWord.g Z.DLawWord.F.kp Z.DLawWord.b .nil pass0 (pa_cons (pv 0) pa_nil)) pa_nil))) pa_nil))))) pss_nil)
        (pss_one (ps_ret (pe_tup (pa_cons pe_str (pa_cons (pe_tup (pa_cons (pe_ix ix_list (pe_lst (pa_cons pe_str (pa_cons pe_str (pa_cons pe_str (pa_cons pe_str (pa_cons pe_str (pa_cons pe_str pa_nil))))))) (pv 1) (fun _ _ => rfl)) pa_nil)) pa_nil)))))))), ?_⟩
    refine ⟨_, rfl, p, q, ds, 12, rfl, hS, by decide, fun H1 c S1 b1 c0 c1 => ?_⟩
    have B1 := Bt.of b1
    clear b1
    refine ⟨_, rfl, _, 5, rfl, rfl, _, rfl, ite2 (fun e => ?_) (fun e => ?_)⟩
    · refine ⟨_, rfl, p, q, ds, 3, rfl, Nat.le_refl _, Nat.le_refl _, S1, fun H2 x S2 b2 hx => ⟨(by show 2 ≤ sizeLine; decide), fun t ht => ?_⟩⟩
      have s3 := same_upd (o := .tup [.str "value", x]) ht
      exact qq _ _ (S2.sm s3) (Bt.tr B1 (Bt.tr b2 (Bt.same s3))) (Tr.mono (n := 79) (Tr.pair upd_same (Tr.leaf True.intro) (hx.keep (Same.tk s3))) (by decide))
    · have hc5 : c ≤ 5 := by
        have : ¬ c > 5 := fun h => e (decide_eq_true h)
        omega
      refine ⟨_, rfl, rfl, _, rfl, ite2 (fun e => ?_) (fun e => ?_)⟩
      · refine ⟨_, rfl, p, q, ds, rfl, S1, fun H2 m S2 b2 => ⟨(by show 2 ≤ sizeLine; decide), fun t ht => ⟨(by show 2 ≤ sizeLine; decide), fun t2 ht2 => ?_⟩⟩⟩
        have s3 := same_upd (o := .tup [.str "missing", .str (S m)]) ht
        have g3 : upd H2 t (.tup [.str "missing", .str (S m)]) t = some (.tup [.str "missing", .str (S m)]) := upd_same
        generalize upd H2 t (.tup [.str "missing", .str (S m)]) = H3 at *
        have s4 := same_upd (o := .tup [.str "fault", .ref t]) ht2
        have s34 := Same.tr s3 s4
        exact qq _ _ (S2.sm s34) (Bt.tr B1 (Bt.tr b2 (Bt.same s34))) (Tr.mono (n := 2) (Tr.pair upd_same (Tr.leaf True.intro) (Tr.pair (s4 _ _ g3) (Tr.leaf True.intro) (Tr.leaf True.intro))) (by decide))
      · refine ⟨(by show 6 ≤ sizeLine; decide), fun l hl => ?_⟩
        generalize hws : [V.str "division", V.str "deep", V.str "large", V.str "", V.str "stuck", V.str "long"] = ws
        have s2 : Same H1 (upd H1 l (.lst ws)) := same_upd hl
        have g2 : upd H1 l (.lst ws) l = some (.lst ws) := upd_same
        generalize upd H1 l (.lst ws) = H2 at *
        obtain ⟨y, hy, hyl⟩ : ∃ y, atI ws c = some y ∧ Leaf y := by
          rw [← hws]
          have h : c = 0 ∨ c = 1 ∨ c = 2 ∨ c = 3 ∨ c = 4 ∨ c = 5 := by omega
          rcases h with h | h | h | h | h | h <;> subst h <;> exact ⟨_, rfl, True.intro⟩
        refine ⟨_, rfl, l, _, _, _, rfl, rfl, SqL.of g2, hy, (by show 1 ≤ sizeLine; decide), fun t ht => ⟨(by show 2 ≤ sizeLine; decide), fun t2 ht2 => ?_⟩⟩
        have s3 := same_upd (o := .tup [y]) ht
        have g3 : upd H2 t (.tup [y]) t = some (.tup [y]) := upd_same
        generalize upd H2 t (.tup [y]) = H3 at *
        have s4 := same_upd (o := .tup [.str "fault", .ref t]) ht2
        have s14 := Same.tr s2 (Same.tr s3 s4)
        refine qq _ _ (S1.sm s14) (Bt.tr B1 (Bt.same s14)) (Tr.mono (n := 2) (Tr.pair upd_same (Tr.leaf True.intro) (Tr.tup (s4 _ _ g3) (by show 1 ≤ 1000000; decide) fun u hu => ?_)) (by decide))
        rw [List.mem_singleton.mp hu]
        exact Tr.leaf hyl
theorem ok_shapeKind (Z : Defs K mg) : FnOk P w K mg base CX0 4 Z.fLawShapeKind Z.fdLawShapeKind ["state"] (spTr 1) := by
  have GLawNext : FnOk P w K mg base CX0 3 Z.fLawNext Z.fdLawNext ["state", "limit"] spNext := ok_next Z
  refine Z.DLawShapeKind.F.ok scLawShapeKind (fun vs H Q E h => ?_) (fun cdv A outer s H vs Q E hr h => ?_)
  · obtain ⟨p, q, ds, rfl, _⟩ := h
    rfl
  · obtain ⟨p, q, ds, rfl, hS, qq⟩ := h
    refine ⟨_, (pss_one (ps_ret (pe_tup (pa_cons (pe_ix ix_list (pe_lst (pa_cons pe_int (pa_cons pe_int (pa_cons pe_int (pa_cons pe_int (pa_cons pe_int pa_nil)))))) (pe_call GLawNext (hr.mono (by omega)) (by rfl) Z.DLawNext.g Z.DLawNext.F.kp Z.DLawNext.b .nil pass0 (pa_cons (pv 0) (pa_cons pe_int pa_nil))) (fun _ _ => rfl)) (pa_cons (pe_ix ix_list (pe_lst (pa_cons pe_str (pa_cons pe_str (pa_cons pe_str (pa_cons pe_str (pa_cons pe_str pa_nil)))))) (pe_call GLawNext (hr.mono (by omega)) (by rfl) Z.DLawNext.g Z.DLawNext.F.kp Z.DLawNext.b .nil pass0 (pa_cons (pv 0) (pa_cons pe_int pa_nil))) (fun _ _ => rfl)) pa_nil))))), ?_⟩
    refine ⟨(by show 5 ≤ sizeLine; decide), fun l hl => ?_⟩
    generalize hws : [V.int 0, V.int 1, V.int 2, V.int 12, V.int 130] = ws
    have s1 : Same H (upd H l (.lst ws)) := same_upd hl
    have g1 : upd H l (.lst ws) l = some (.lst ws) := upd_same
    generalize upd H l (.lst ws) = H1 at *
    have S1 := hS.sm s1
    refine ⟨_, rfl, p, q, ds, 5, rfl, S1, by decide, fun H2 c S2 b2 c0 c1 => ?_⟩
    obtain ⟨y, hy, hyl⟩ : ∃ y, atI ws c = some y ∧ Leaf y := by
      rw [← hws]
      have h : c = 0 ∨ c = 1 ∨ c = 2 ∨ c = 3 ∨ c = 4 := by omega
      rcases h with h | h | h | h | h <;> subst h <;> exact ⟨_, rfl, True.intro⟩
    refine ⟨l, _, _, _, rfl, rfl, SqL.of (Bt.of b2 _ _ g1 (hS.nn hl)), hy, (by show 5 ≤ sizeLine; decide), fun l2 hl2 => ?_⟩
    generalize hws2 : [V.str "num", V.str "text", V.str "bool", V.str "d", V.str "tree_2"] = ws2
    have s3 : Same H2 (upd H2 l2 (.lst ws2)) := same_upd hl2
    have g3 : upd H2 l2 (.lst ws2) l2 = some (.lst ws2) := upd_same
    generalize upd H2 l2 (.lst ws2) = H3 at *
    have S3 := S2.sm s3
    refine ⟨_, rfl, p, q, ds, 5, rfl, S3, by decide, fun H4 c S4 b4 c0 c1 => ?_⟩
    obtain ⟨z, hz, hzl⟩ : ∃ y, atI ws2 c = some y ∧ Leaf y := by
      rw [← hws2]
      have h : c = 0 ∨ c = 1 ∨ c = 2 ∨ c = 3 ∨ c = 4 := by omega
      rcases h with h | h | h | h | h <;> subst h <;> exact ⟨_, rfl, True.intro⟩
    refine ⟨l2, _, _, _, rfl, rfl, SqL.of (Bt.of b4 _ _ g3 (S2.nn hl2)), hz, (by show 2 ≤ sizeLine; decide), fun t ht => ?_⟩
    have s5 := same_upd (o := .tup [y, z]) ht
    exact qq _ _ (S4.sm s5) (Bt.tr (Bt.same s1) (Bt.tr (Bt.of b2) (Bt.tr (Bt.same s3) (Bt.tr (Bt.of b4) (Bt.same s5))))) (Tr.pair upd_same (Tr.leaf hyl) (Tr.leaf hzl))
end
end Q44
namespace Q44
open PySem PySem.Spec PyProof.Rows L2 SX HL DM
section
variable {P : Program} {w : World} {K : PySem.W.Frag} {mg : Str → Option Value} {base : Heap}
/-! ### _law_cell, _law_any_deed -/
def spCell : Sp := fun vs H Q _ => ∃ (p q : Addr) (ds : List Int) (nm : Str), vs = [.ref p, .str nm] ∧ StN H p q ds ∧
  ∀ H' t s o, StN H' p q ds → Bt H H' p → H' t = some (.tup [.str nm, s, o]) → Tr H' 90 s → Tr H' 90 o → Q (.ref t) H'
theorem ok_cell (Z : Defs K mg) : FnOk P w K mg base CX0 11 Z.fLawCell Z.fdLawCell ["state", "name"] spCell := by
  have GLawNext : FnOk P w K mg base CX0 3 Z.fLawNext Z.fdLawNext ["state", "limit"] spNext := ok_next Z
  have GLawWord : FnOk P w K mg base CX0 4 Z.fLawWord Z.fdLawWord ["state"] spGenS := ok_word Z
  have GLawShapeKind : FnOk P w K mg base CX0 4 Z.fLawShapeKind Z.fdLawShapeKind ["state"] (spTr 1) := ok_shapeKind Z
  have GLawOutcome : FnOk P w K mg base CX0 10 Z.fLawOutcome Z.fdLawOutcome ["state"] (spTr 80) := ok_outcome Z
  refine Z.DLawCell.F.ok scLawCell (fun vs H Q E h => ?_) (fun cdv A outer s H vs Q E hr h => ?_)
  · obtain ⟨p, q, ds, nm, rfl, _⟩ := h
    rfl
  · obtain ⟨p, q, ds, nm, rfl, hS, qq⟩ := h
    refine ⟨_, (pss_cons (ps_set (i := 2) scLawCell.nd rfl (.inl rfl) (pe_lst pa_nil))
        (pss_cons (ps_for PassesOwn.never rfl (pi_range1 (by rfl) Z.range (pa_cons (pe_call GLawNext (hr.mono (by omega)) (by rfl) Z.DLawNext.g Z.DLawNext.F.kp Z.DLawNext.b .nil pass0 (pa_cons (pv 0) (pa_cons pe_int pa_nil))) pa_nil)) (pg_name (i := 3) scLawCell.nd rfl (.inl rfl)) (pss_cons (ps_set (i := 4) scLawCell.nd rfl (.inl rfl) (pe_lst pa_nil))
        (pss_cons (ps_for PassesOwn.never rfl (pi_range1 (by rfl) Z.range (pa_cons (pe_call GLawNext (hr.mono (by omega)) (by rfl) Z.DLawNext.g Z.DLawNext.F.kp Z.DLawNext.b .nil pass0 (pa_cons (pv 0) (pa_cons pe_int pa_nil))) pa_nil)) (pg_name (i := 5) scLawCell.nd rfl (.inl rfl)) (pss_cons (ps_set (i := 6) scLawCell.nd rfl (.inl rfl) (pe_callTy call_tuple_of (by rfl) Z.tuple HL.boot_tuple (pa_cons (pe_lc (own := [("i", 7)]) (g := (gName 7)) (by rfl) scLawCell.nd (pi_range1 (by rfl) Z.range (pa_cons (pe_call GLawNext (hr.mono (by omega)) (by rfl) Z.DLawNext.g Z.DLawNext.F.kp Z.DLawNext.b .nil pass0 (pa_cons (pv 0) (pa_cons pe_int pa_nil))) pa_nil)) (blkOk_by (own := [("i", 7)]) (N := ["state", "name", "data", "k", "makers", "j", "kinds", "i"]) (sc := defScope sLawCell) (by decide +kernel)) (fun _ _ _ _ _ => (pg_name (i := 7) scLawCell.nd rfl (Or.inl rfl))) (fun _ _ _ _ _ => pts_nil) (fun _ _ _ _ _ => (pe_call GLawShapeKind (hr.mono (by omega)) (by rfl) Z.DLawShapeKind.g Z.DLawShapeKind.F.kp Z.DLawShapeKind.b .nil pass0 (pa_cons (pv 0) pa_nil)))) pa_nil)))
        (pss_one (ps_expr (pe_bm PySem.F.plainAttrs_list PySem.F.slot_list_append PySem.F.type_list_append mt_append (pv 4) (pa_cons (pe_tup (pa_cons (pe_call GLawWord (hr.mono (by omega)) (by rfl) Z.DLawWord.g Z.DLawWord.F.kp Z.DLawWord.b .nil pass0 (pa_cons (pv 0) pa_nil)) (pa_cons (pv 6) pa_nil))) pa_nil))))))
        (pss_one (ps_expr (pe_bm PySem.F.plainAttrs_list PySem.F.slot_list_append PySem.F.type_list_append mt_append (pv 2) (pa_cons (pe_tup (pa_cons (pe_call GLawWord (hr.mono (by omega)) (by rfl) Z.DLawWord.g Z.DLawWord.F.kp Z.DLawWord.b .nil pass0 (pa_cons (pv 0) pa_nil)) (pa_cons (pe_callTy call_tuple_of (by rfl) Z.tuple HL.boot_tuple (pa_cons (pv 4) pa_nil)) pa_nil))) pa_nil)))))))
        (pss_one (ps_ret (pe_tup (pa_cons (pv 1) (pa_cons (pe_tup (pa_cons (pe_call GLawShapeKind (hr.mono (by omega)) (by rfl) Z.DLawShapeKind.g Z.DLawShapeKind.F.kp Z.DLawShapeKind.b .nil pass0 (pa_cons (pv 0) pa_nil)) (pa_cons (pe_callTy call_tuple_of (by rfl) Z.tuple HL.boot_tuple (pa_cons (pv 2) pa_nil)) pa_nil))) (pa_cons (pe_call GLawOutcome (hr.mono (by omega)) (by rfl) Z.DLawOutcome.g Z.DLawOutcome.F.kp Z.DLawOutcome.b .nil pass0 (pa_cons (pv 0) pa_nil)) pa_nil)))))))), ?_⟩
    refine ⟨Nat.zero_le _, fun D hD => ?_⟩
    have s1 : Same H (upd H D (.lst [])) := same_upd hD
    have g1 : upd H D (.lst []) D = some (.lst []) := upd_same
    generalize upd H D (.lst []) = H1 at s1 g1
    have S1 := hS.sm s1
    have nDp : D ≠ p := hS.nn hD
    have nDq : D ≠ q := hS.nq hD
    refine ⟨_, rfl, p, q, ds, 3, rfl, S1, by decide, fun H2 c S2 b2 c0 c1 => ⟨c, rfl, by omega, by omega, ?_⟩⟩
    have B2 := Bt.tr (Bt.same s1) (Bt.of b2)
    have g2 := Bt.of b2 _ _ g1 nDp
    clear s1 g1 S1 b2
    refine for_range (lo := 0) (n := c.toNat) (fun i σ H' => ∃ (y3 y4 y5 y6 y7 : Option V) (acc : List V), σ = [some (.ref p), some (.str nm), some (.ref D), y3, y4, y5, y6, y7] ∧ StN H' p q ds ∧ Bt H H' p ∧ H' D = some (.lst acc) ∧ acc.length = i ∧ ∀ x ∈ acc, Tr H' 5 x) ⟨none, none, none, none, none, [], rfl, S2, B2, g2, rfl, fun x h => by cases h⟩ ?_ ?_
    · rintro i σ H3 hi ⟨y3, y4, y5, y6, y7, acc, rfl, S3, B3, hD3, hl3, hacc⟩
      refine ⟨Nat.zero_le _, fun M hM => ?_⟩
      have nMp := S3.nn hM
      have nMq := S3.nq hM
      have nMD : M ≠ D := fun e => by rw [e, hD3] at hM; cases hM
      have sM : Same H3 (upd H3 M (.lst [])) := same_upd hM
      have gM : upd H3 M (.lst []) M = some (.lst []) := upd_same
      generalize upd H3 M (.lst []) = H4 at sM gM
      have S4 := S3.sm sM
      refine ⟨_, rfl, p, q, ds, 3, rfl, S4, by decide, fun H5 e S5 b5 e0 e1 => ⟨e, rfl, by omega, by omega, ?_⟩⟩
      have B5 : Bt H3 H5 p := Bt.tr (Bt.same sM) (Bt.of b5)
      refine for_range (lo := 0) (n := e.toNat) (fun j σ H' => ∃ (y5 y6 y7 : Option V) (mac : List V), σ = [some (.ref p), some (.str nm), some (.ref D), some (V.int (0 + (i : Int))), some (.ref M), y5, y6, y7] ∧ StN H' p q ds ∧ Bt H3 H' p ∧ H' M = some (.lst mac) ∧ mac.length = j ∧ ∀ x ∈ mac, Tr H' 3 x) ⟨_, _, _, [], rfl, S5, B5, Bt.of b5 _ _ gM nMp, rfl, fun x h => by cases h⟩ ?_ ?_
      · rintro j σ H6 hj ⟨y5, y6, y7, mac, rfl, S6, B6, hM6, hl6, hmac⟩
        refine ⟨_, rfl, p, q, ds, 3, rfl, S6, by decide, fun H7 g S7 b7 g0 g1 => ⟨g, rfl, by omega, by omega, fun L hL => ?_⟩⟩
        have nLp := S7.nn hL
        have nLq := S7.nq hL
        have sL := same_upd (o := .lst []) hL
        refine lc_range (lo := 0) (n := g.toNat) (fun n H' => StN H' p q ds ∧ Bt H7 H' p ∧ ∃ kac, H' L = some (.lst kac) ∧ kac.length = n ∧ ∀ x ∈ kac, Tr H' 1 x) ⟨S7.sm sL, Bt.same sL, [], upd_same, rfl, fun x h => by cases h⟩ ?_ ?_
        · rintro n H8 hn ⟨S8, B8, kac, hL8, hl8, hkac⟩
          refine ⟨rfl, lc_yes ⟨_, rfl, p, q, ds, rfl, S8, fun H9 x S9 B9 hx => ?_⟩⟩
          have hL9 := B9 _ _ hL8 nLp
          have kL : TupK H9 (upd H9 L (.lst (kac ++ [x]))) := tk_upd fun xs e => by rw [hL9] at e; cases e
          refine ⟨kac, hL9, by rw [hl8]; exact Nat.lt_of_lt_of_le (show n < 4 by omega) (by decide), S9.up nLp nLq, Bt.up (Bt.tr B8 B9) hL, kac ++ [x], upd_same, by rw [List.length_append, hl8]; rfl, fun u hu => ?_⟩
          rcases List.mem_append.mp hu with hu | hu
          · exact ((hkac u hu).keep (Bt.tk B9 S8)).keep kL
          · rw [List.mem_singleton.mp hu]
            exact hx.keep kL
        · rintro H8 ⟨S8, B8, kac, hL8, hl8, hkac⟩
          refine ⟨L, _, rfl, .inl ⟨SqL.of hL8, fun t ht => ?_⟩⟩
          have st := same_upd (o := .tup kac) ht
          have gt : upd H8 t (.tup kac) t = some (.tup kac) := upd_same
          generalize upd H8 t (.tup kac) = H9 at st gt
          have S9 := S8.sm st
          have B79 := Bt.tr B8 (Bt.same st)
          have B69 : Bt H6 H9 p := Bt.tr (Bt.of b7) B79
          have rt : Tr H9 2 (.ref t) := Tr.tup gt (by omega) fun u hu => (hkac u hu).keep (Same.tk st)
          have hM9 := B69 _ _ hM6 nMp
          refine ⟨_, rfl, .inl ⟨rfl, _, SqL.of hM9⟩, _, rfl, p, q, ds, rfl, S9, fun H10 m S10 B10 => ⟨_, rfl, (by show 2 ≤ sizeLine; decide), fun t2 ht2 => ?_⟩⟩
          have s2 := same_upd (o := .tup [.str (S m), .ref t]) ht2
          have g2 : upd H10 t2 (.tup [.str (S m), .ref t]) t2 = some (.tup [.str (S m), .ref t]) := upd_same
          generalize upd H10 t2 (.tup [.str (S m), .ref t]) = H11 at s2 g2
          have S11 := S10.sm s2
          have B9_11 := Bt.tr B10 (Bt.same s2)
          have k9 := (Bt.tk B10 S9).trans (Same.tk s2)
          have r2 : Tr H11 3 (.ref t2) := Tr.pair g2 (Tr.leaf True.intro) (rt.keep k9)
          have hM11 := B9_11 _ _ hM9 nMp
          have k6 := (Bt.tk B69 S6).trans k9
          have kM : TupK H11 (upd H11 M (.lst (mac ++ [.ref t2]))) := tk_upd fun xs e => by rw [hM11] at e; cases e
          refine ⟨M, _, _, rfl, rfl, hM11, by rw [hl6]; exact Nat.lt_of_lt_of_le (show j < 4 by omega) (by decide), ?_⟩
          refine ⟨_, _, _, mac ++ [.ref t2], rfl, S11.up nMp nMq, Bt.up (Bt.tr B6 (Bt.tr B69 B9_11)) hM, upd_same, by rw [List.length_append, hl6]; rfl, fun u hu => ?_⟩
          rcases List.mem_append.mp hu with hu | hu
          · exact ((hmac u hu).keep k6).keep kM
          · rw [List.mem_singleton.mp hu]
            exact r2.keep kM
      · rintro σ H6 ⟨y5, y6, y7, mac, rfl, S6, B6, hM6, hl6, hmac⟩
        have hD6 := B6 _ _ hD3 nDp
        refine ⟨_, rfl, .inl ⟨rfl, _, SqL.of hD6⟩, _, rfl, p, q, ds, rfl, S6, fun H7 m S7 B7 => ?_⟩
        have hM7 := B7 _ _ hM6 nMp
        refine ⟨_, rfl, M, _, rfl, .inl ⟨SqL.of hM7, fun t ht => ⟨(by show 2 ≤ sizeLine; decide), fun t2 ht2 => ?_⟩⟩⟩
        have st := same_upd (o := .tup mac) ht
        have gt : upd H7 t (.tup mac) t = some (.tup mac) := upd_same
        generalize upd H7 t (.tup mac) = H8 at *
        have s2 := same_upd (o := .tup [.str (S m), .ref t]) ht2
        have g2 : upd H8 t2 (.tup [.str (S m), .ref t]) t2 = some (.tup [.str (S m), .ref t]) := upd_same
        generalize upd H8 t2 (.tup [.str (S m), .ref t]) = H9 at s2 g2
        have s79 := Same.tr st s2
        have S9 := S7.sm s79
        have k69 := (Bt.tk B7 S6).trans (Same.tk s79)
        have rt : Tr H9 4 (.ref t) := Tr.tup (s2 _ _ gt) (by omega) fun u hu => (hmac u hu).keep k69
        have r2 : Tr H9 5 (.ref t2) := Tr.pair g2 (Tr.leaf True.intro) rt
        have B69 := Bt.tr B7 (Bt.same s79)
        have hD9 := B69 _ _ hD6 nDp
        have k39 := (Bt.tk B6 S3).trans k69
        have kD : TupK H9 (upd H9 D (.lst (acc ++ [.ref t2]))) := tk_upd fun xs e => by rw [hD9] at e; cases e
        refine ⟨D, _, _, rfl, rfl, hD9, by rw [hl3]; exact Nat.lt_of_lt_of_le (show i < 4 by omega) (by decide), ?_⟩
        refine ⟨_, _, _, _, _, acc ++ [.ref t2], rfl, S9.up nDp nDq, Bt.up (Bt.tr B3 (Bt.tr B6 B69)) hD, upd_same, by rw [List.length_append, hl3]; rfl, fun u hu => ?_⟩
        rcases List.mem_append.mp hu with hu | hu
        · exact ((hacc u hu).keep k39).keep kD
        · rw [List.mem_singleton.mp hu]
          exact r2.keep kD
    · rintro σ H3 ⟨y3, y4, y5, y6, y7, acc, rfl, S3, B3, hD3, hl3, hacc⟩
      refine ⟨_, rfl, _, rfl, p, q, ds, rfl, S3, fun H4 x S4 B4 hx => ?_⟩
      have hD4 := B4 _ _ hD3 nDp
      refine ⟨_, rfl, D, _, rfl, .inl ⟨SqL.of hD4, fun t ht => ⟨(by show 2 ≤ sizeLine; decide), fun t2 ht2 => ?_⟩⟩⟩
      have st := same_upd (o := .tup acc) ht
      have gt : upd H4 t (.tup acc) t = some (.tup acc) := upd_same
      generalize upd H4 t (.tup acc) = H5 at *
      have s2 := same_upd (o := .tup [x, .ref t]) ht2
      have g2 : upd H5 t2 (.tup [x, .ref t]) t2 = some (.tup [x, .ref t]) := upd_same
      generalize upd H5 t2 (.tup [x, .ref t]) = H6 at s2 g2
      have s46 := Same.tr st s2
      have S6 := S4.sm s46
      have rt : Tr H6 6 (.ref t) := Tr.tup (s2 _ _ gt) (by omega) fun u hu => ((hacc u hu).keep ((Bt.tk B4 S3).trans (Same.tk s46))).mono (by decide)
      have r2 : Tr H6 7 (.ref t2) := Tr.pair g2 ((hx.keep (Same.tk s46)).mono (by decide)) rt
      refine ⟨_, rfl, p, q, ds, rfl, S6, fun H7 o S7 B7 ho => ⟨(by show 3 ≤ sizeLine; decide), fun t3 ht3 => ?_⟩⟩
      have s3 := same_upd (o := .tup [.str nm, .ref t2, o]) ht3
      exact qq _ _ _ _ (S7.sm s3) (Bt.tr B3 (Bt.tr B4 (Bt.tr (Bt.same s46) (Bt.tr B7 (Bt.same s3))))) upd_same (((r2.keep (Bt.tk B7 S6)).keep (Same.tk s3)).mono (by decide)) ((ho.keep (Same.tk s3)).mono (by decide))
end
end Q44
namespace Q44
open PySem PySem.Spec PyProof.Rows L2 SX HL DM
section
variable {P : Program} {w : World} {K : PySem.W.Frag} {mg : Str → Option Value} {base : Heap}
/-! ### _law_any_deed -/
def spAny : Sp := fun vs H Q _ => ∃ (p q : Addr) (ds : List Int), vs = [.ref p] ∧ StN H p q ds ∧ ∀ H' x δ, StN H' p q ds → Bt H H' p → DeedAt H' x δ → TOk δ → Q x H'
theorem ok_anyDeed (Z : Defs K mg) : FnOk P w K mg base CX0 5 Z.fLawAnyDeed Z.fdLawAnyDeed ["state"] spAny := by
  have GLawNext : FnOk P w K mg base CX0 3 Z.fLawNext Z.fdLawNext ["state", "limit"] spNext := ok_next Z
  have GLawWord : FnOk P w K mg base CX0 4 Z.fLawWord Z.fdLawWord ["state"] spGenS := ok_word Z
  have GLawBig : FnOk P w K mg base CX0 4 Z.fLawBig Z.fdLawBig ["state"] spBig := ok_big Z
  have GLawTextOf : FnOk P w K mg base CX0 4 Z.fLawTextOf Z.fdLawTextOf ["state"] spTxt := ok_textOf Z
  refine Z.DLawAnyDeed.F.ok scLawAnyDeed (fun vs H Q E h => ?_) (fun cdv A outer s H vs Q E hr h => ?_)
  · obtain ⟨p, q, ds, rfl, _⟩ := h
    rfl
  · obtain ⟨p, q, ds, rfl, hS, qq⟩ := h
    refine ⟨_, (pss_cons (ps_if (pt_cmpR op_eq (pe_call GLawNext (hr.mono (by omega)) (by rfl) Z.DLawNext.g Z.DLawNext.F.kp Z.DLawNext.b .nil pass0 (pa_cons (pv 0) (pa_cons pe_int pa_nil))) pe_int (nomark _)) (pss_one (ps_ret (pe_tup (pa_cons pe_str (pa_cons (pe_call GLawBig (hr.mono (by omega)) (by rfl) Z.DLawBig.g Z.DLawBig.F.kp Z.DLawBig.b .nil pass0 (pa_cons (pv 0) pa_nil)) pa_nil))))) pss_nil)
        (pss_cons (ps_setLc (i := 1) (own := [("k", 3)]) (g := (gName 3)) (by rfl) scLawAnyDeed.nd rfl rfl (sw_true rfl rfl rfl (by decide +kernel)) (pi_range1 (by rfl) Z.range (pa_cons (pe_call GLawNext (hr.mono (by omega)) (by rfl) Z.DLawNext.g Z.DLawNext.F.kp Z.DLawNext.b .nil pass0 (pa_cons (pv 0) (pa_cons pe_int pa_nil))) pa_nil)) (blkOk_by (own := [("k", 3)]) (N := ["state", "removed", "behind", "k"]) (sc := defScope sLawAnyDeed) (by decide +kernel)) (fun _ _ _ _ _ => (pg_name (i := 3) scLawAnyDeed.nd rfl (Or.inl rfl))) (fun _ _ _ _ _ => pts_nil) (fun _ _ _ _ _ => (pe_tup (pa_cons (pe_call GLawBig (hr.mono (by omega)) (by rfl) Z.DLawBig.g Z.DLawBig.F.kp Z.DLawBig.b .nil pass0 (pa_cons (pv 0) pa_nil)) (pa_cons (pe_call GLawNext (hr.mono (by omega)) (by rfl) Z.DLawNext.g Z.DLawNext.F.kp Z.DLawNext.b .nil pass0 (pa_cons (pv 0) (pa_cons pe_int pa_nil))) pa_nil)))))
        (C8.pss_cut (ps_if (pt_cmpR op_eq (pe_call GLawNext (hr.mono (by omega)) (by rfl) Z.DLawNext.g Z.DLawNext.F.kp Z.DLawNext.b .nil pass0 (pa_cons (pv 0) (pa_cons pe_int pa_nil))) pe_int (nomark _)) (pss_one (ps_setLc (i := 1) (own := [("k", 3)]) (g := (gName 3)) (by rfl) scLawAnyDeed.nd rfl rfl (sw_true rfl rfl rfl (by decide +kernel)) (pi_range1 (by rfl) Z.range (pa_cons pe_int pa_nil)) (blkOk_by (own := [("k", 3)]) (N := ["state", "removed", "behind", "k"]) (sc := defScope sLawAnyDeed) (by decide +kernel)) (fun _ _ _ _ _ => (pg_name (i := 3) scLawAnyDeed.nd rfl (Or.inl rfl))) (fun _ _ _ _ _ => pts_nil) (fun _ _ _ _ _ => (pe_tup (pa_cons (pe_op op_add (pv 3) pe_int) (pa_cons pe_int pa_nil)))))) pss_nil)
        (pss_cons (ps_set (i := 2) scLawAnyDeed.nd rfl (.inl rfl) (pe_ix ix_list (pe_lst (pa_cons pe_non (pa_cons (pe_tup (pa_cons (pe_call GLawBig (hr.mono (by omega)) (by rfl) Z.DLawBig.g Z.DLawBig.F.kp Z.DLawBig.b .nil pass0 (pa_cons (pv 0) pa_nil)) (pa_cons (pe_call GLawNext (hr.mono (by omega)) (by rfl) Z.DLawNext.g Z.DLawNext.F.kp Z.DLawNext.b .nil pass0 (pa_cons (pv 0) (pa_cons pe_int pa_nil))) pa_nil))) pa_nil))) (pe_call GLawNext (hr.mono (by omega)) (by rfl) Z.DLawNext.g Z.DLawNext.F.kp Z.DLawNext.b .nil pass0 (pa_cons (pv 0) (pa_cons pe_int pa_nil))) (fun _ _ => rfl)))
        (pss_one (ps_ret (pe_tup (pa_cons pe_str (pa_cons (pe_call GLawWord (hr.mono (by omega)) (by rfl) Z.DLawWord.g Z.DLawWord.F.kp Z.DLawWord.b .nil pass0 (pa_cons (pv 0) pa_nil)) (pa_cons (pe_callTy call_tuple_of (by rfl) Z.tuple HL.boot_tuple (pa_cons (pv 1) pa_nil)) (pa_cons (pv 2) (pa_cons (pe_call GLawBig (hr.mono (by omega)) (by rfl) Z.DLawBig.g Z.DLawBig.F.kp Z.DLawBig.b .nil pass0 (pa_cons (pv 0) pa_nil)) (pa_cons (pe_call GLawTextOf (hr.mono (by omega)) (by rfl) Z.DLawTextOf.g Z.DLawTextOf.F.kp Z.DLawTextOf.b .nil pass0 (pa_cons (pv 0) pa_nil)) pa_nil))))))))))))), ?_⟩
    refine ⟨_, rfl, p, q, ds, 4, rfl, hS, by decide, fun H1 c S1 b1 c0 c1 => ⟨rfl, _, rfl, ite2 (fun e => ?_) (fun e => ?_)⟩⟩
    · refine ⟨_, rfl, p, q, ds, rfl, S1, fun H2 n S2 b2 => ⟨(by show 2 ≤ sizeLine; decide), fun t ht => ?_⟩⟩
      have s3 := same_upd (o := .tup [.str "back", vi n]) ht
      exact qq _ _ (.back n) (S2.sm s3) (Bt.tr (Bt.of b1) (Bt.tr b2 (Bt.same s3))) ⟨t, rfl, upd_same⟩ fun _ _ _ _ _ e => by cases e
    · refine ⟨_, rfl, p, q, ds, 4, rfl, S1, by decide, fun H2 v S2 b2 v0 v1 => ⟨v, rfl, by omega, by omega, fun D hD => ?_⟩⟩
      have B2 := Bt.tr (Bt.of b1) (Bt.of b2)
      have nDp := S2.nn hD
      have nDq := S2.nq hD
      have sD := same_upd (o := .lst []) hD
      refine lc_range (lo := 0) (n := v.toNat) (fun i H' => StN H' p q ds ∧ Bt H2 H' p ∧ ∃ us rem, H' D = some (.lst us) ∧ us.length = i ∧ All2 (MkAt H') us rem) ⟨S2.sm sD, Bt.same sD, [], [], upd_same, rfl, .nil⟩ ?_ ?_
      · rintro i H3 hi ⟨S3, B3, us, rem, hD3, hl3, hus⟩
        refine ⟨rfl, lc_yes ⟨_, rfl, p, q, ds, rfl, S3, fun H4 n S4 B4 => ⟨_, rfl, p, q, ds, 9, rfl, S4, by decide, fun H5 u S5 b5 u0 u1 => ⟨(by show 2 ≤ sizeLine; decide), fun t ht => ?_⟩⟩⟩⟩
        obtain ⟨j, rfl⟩ := Int.eq_ofNat_of_zero_le u0
        have st := same_upd (o := .tup [vi n, .int ((j : Nat) : Int)]) ht
        have gt : upd H5 t (.tup [vi n, .int ((j : Nat) : Int)]) t = some (.tup [vi n, .int ((j : Nat) : Int)]) := upd_same
        have B36 := Bt.tr B4 (Bt.tr (Bt.of b5) (Bt.same st))
        have S6 := S5.sm st
        generalize upd H5 t (.tup [vi n, .int ((j : Nat) : Int)]) = H6 at *
        have hD6 := B36 _ _ hD3 nDp
        have kD : TupK H6 (upd H6 D (.lst (us ++ [.ref t]))) := tk_upd fun xs e => by rw [hD6] at e; cases e
        have k36 := Bt.tk B36 S3
        refine ⟨us, hD6, by rw [hl3]; exact Nat.lt_of_lt_of_le (show i < 4 by omega) (by decide), S6.up nDp nDq, Bt.up (Bt.tr B3 B36) hD, us ++ [.ref t], rem ++ [(n, j)], upd_same, by rw [List.length_append, hl3]; rfl, ?_⟩
        exact (hus.mono fun v e h => (h.keep k36).keep kD).snoc (show MkAt _ (.ref t) (n, j) from ⟨t, rfl, kD _ _ gt⟩)
      · rintro H3 ⟨S3, B3, us, rem, hD3, hl3, hus⟩
        have B3' := Bt.tr B2 B3
        refine ⟨fun σ' H' => ∃ (D : Addr) (us : List V) (rem : List Mark), σ' = [some (.ref p), some (.ref D), none, none] ∧ StN H' p q ds ∧ Bt H H' p ∧ D ≠ p ∧ H' D = some (.lst us) ∧ All2 (MkAt H') us rem ∧ rem.length ≤ 1000, ?_, ?_⟩
        · refine ⟨_, rfl, p, q, ds, 20, rfl, S3, by decide, fun H4 u S4 b4 u0 u1 => ⟨rfl, _, rfl, ite2 (fun e => ?_) (fun e => ?_)⟩⟩
          · refine ⟨130, rfl, by decide, by decide, fun D2 hD2 => ?_⟩
            have s5 := same_upd (o := .lst []) hD2
            refine lc_range (lo := 0) (n := 130) (fun i H' => Same H4 H' ∧ ∃ us rem, H' D2 = some (.lst us) ∧ us.length = i ∧ All2 (MkAt H') us rem) ⟨s5, [], [], upd_same, rfl, .nil⟩ ?_ ?_
            · rintro i H5 hi ⟨s5, us, rem, hD5, hl5, hus5⟩
              refine ⟨rfl, lc_yes ⟨_, rfl, _, 1, rfl, rfl, (by show 2 ≤ sizeLine; decide), fun t ht => ?_⟩⟩
              have et : V.int (0 + (i : Int) + 1) = vi (i + 1) := congrArg V.int (by omega)
              have st := same_upd (o := .tup [.int (0 + (i : Int) + 1), .int 0]) ht
              have gt : upd H5 t (.tup [.int (0 + (i : Int) + 1), .int 0]) t = some (.tup [vi (i + 1), vi 0]) := by rw [upd_same, et]; rfl
              show ∃ acc, upd H5 t (.tup [.int (0 + (i : Int) + 1), .int 0]) D2 = some (.lst acc) ∧ _
              generalize upd H5 t (.tup [.int (0 + (i : Int) + 1), .int 0]) = H6 at st gt ⊢
              have hD6 := st _ _ hD5
              have kD : TupK H6 (upd H6 D2 (.lst (us ++ [.ref t]))) := tk_upd fun xs e => by rw [hD6] at e; cases e
              refine ⟨us, hD6, by rw [hl5]; exact Nat.lt_of_lt_of_le hi (by decide), fun z o hz => by rw [upd_ne (ne_of_none hz hD2)]; exact st _ _ (s5 _ _ hz), us ++ [.ref t], rem ++ [(i + 1, 0)], upd_same, by rw [List.length_append, hl5]; rfl, ?_⟩
              exact (hus5.mono fun v e h => (h.keep (Same.tk st)).keep kD).snoc ⟨t, rfl, kD _ _ gt⟩
            · rintro H5 ⟨s5, us, rem, hD5, hl5, hus5⟩
              exact ⟨D2, us, rem, rfl, S4.sm s5, Bt.tr B3' (Bt.tr (Bt.of b4) (Bt.same s5)), S4.nn hD2, hD5, hus5, by rw [← hus5.len, hl5]; decide⟩
          · exact ⟨D, us, rem, rfl, S4, Bt.tr B3' (Bt.of b4), nDp, Bt.of b4 _ _ hD3 nDp, hus.mono fun v e h => h.keep (Bt.tk (Bt.of b4) S3), by rw [← hus.len, hl3]; omega⟩
        · clear hus hl3 hD3 B3' B3 S3 B2 nDp nDq sD hD
          rintro σ H4 ⟨D, us, rem, rfl, S4, B4, nDp, hD4, hus, hrl⟩
          refine ⟨_, rfl, p, q, ds, rfl, S4, fun H5 n S5 B5 => ⟨_, rfl, p, q, ds, 9, rfl, S5, by decide, fun H6 u S6 b6 u0 u1 => ⟨(by show 2 ≤ sizeLine; decide), fun t ht => ⟨(by show 2 ≤ sizeLine; decide), fun l hl => ?_⟩⟩⟩⟩
          obtain ⟨j, rfl⟩ := Int.eq_ofNat_of_zero_le u0
          have st := same_upd (o := .tup [vi n, .int ((j : Nat) : Int)]) ht
          have gt : upd H6 t (.tup [vi n, .int ((j : Nat) : Int)]) t = some (.tup [vi n, .int ((j : Nat) : Int)]) := upd_same
          generalize upd H6 t (.tup [vi n, .int ((j : Nat) : Int)]) = H7 at *
          have sl := same_upd (o := .lst [.non, .ref t]) hl
          have gl : upd H7 l (.lst [.non, .ref t]) l = some (.lst [.non, .ref t]) := upd_same
          generalize upd H7 l (.lst [.non, .ref t]) = H8 at *
          have S7 := S6.sm st
          have S8 := S7.sm sl
          refine ⟨_, rfl, p, q, ds, 2, rfl, S8, by decide, fun H9 c S9 b9 c0 c1 => ?_⟩
          have gl9 := Bt.of b9 _ _ gl (S7.nn hl)
          have k89 := Bt.tk (Bt.of b9) S8
          obtain ⟨bx, b, gb, hb⟩ : ∃ bx b, atI [V.non, V.ref t] c = some bx ∧ OMk H9 bx b := by
            have h : c = 0 ∨ c = 1 := by omega
            rcases h with rfl | rfl
            · exact ⟨.non, none, rfl, rfl⟩
            · exact ⟨.ref t, some (n, j), rfl, ⟨t, rfl, k89 _ _ (sl _ _ gt)⟩⟩
          have B49 := Bt.tr B5 (Bt.tr (Bt.of b6) (Bt.tr (Bt.same st) (Bt.tr (Bt.same sl) (Bt.of b9))))
          have hus9 := hus.mono fun v e h => h.keep (Bt.tk B49 S4)
          have hD9 := B49 _ _ hD4 nDp
          refine ⟨l, _, _, _, rfl, rfl, SqL.of gl9, gb, ?_⟩
          refine ⟨_, rfl, p, q, ds, rfl, S9, fun H10 m S10 B10 => ?_⟩
          have hD10 := B10 _ _ hD9 nDp
          refine ⟨_, rfl, D, _, rfl, .inl ⟨SqL.of hD10, fun tr htr => ?_⟩⟩
          have s11 := same_upd (o := .tup us) htr
          have g11 : upd H10 tr (.tup us) tr = some (.tup us) := upd_same
          generalize upd H10 tr (.tup us) = H11 at *
          have S11 := S10.sm s11
          have k11 := (Bt.tk B10 S9).trans (Same.tk s11)
          have hus11 := hus9.mono fun v e h => h.keep k11
          have hb11 := hb.keep k11
          refine ⟨_, rfl, _, rfl, p, q, ds, rfl, S11, fun H12 nn S12 B12 => ?_⟩
          refine ⟨_, rfl, p, q, ds, rfl, S12, fun H13 tx S13 B13 htx => ⟨(by show 6 ≤ sizeLine; decide), fun tt htt => ?_⟩⟩
          have s14 := same_upd (o := .tup [.str "change", .str (S m), .ref tr, bx, vi nn, .str (S tx)]) htt
          have k14 := (Bt.tk B12 S11).trans ((Bt.tk B13 S12).trans (Same.tk s14))
          refine qq _ _ (.change m rem b nn tx) (S13.sm s14) (Bt.tr B4 (Bt.tr B49 (Bt.tr B10 (Bt.tr (Bt.same s11) (Bt.tr B12 (Bt.tr B13 (Bt.same s14))))))) ⟨tt, tr, us, bx, rfl, upd_same, k14 _ _ g11, hus11.mono fun v e h => h.keep k14, hb11.keep k14⟩ fun _ _ _ _ _ e => ?_
          cases e
          exact ⟨htx, hrl⟩
end
end Q44
namespace SS
open PySem PySem.Spec PyProof.Rows L2 SX HL
/-! ## sorted texts -/
def nlt (a b : Str) : Prop := a.cps.toList < b.cps.toList
theorem nlt_irrefl (a : Str) : ¬ nlt a a := fun h => List.lt_irrefl _ h
theorem nlt_trans {a b c : Str} (h : nlt a b) (k : nlt b c) : nlt a c := List.lt_trans h k
theorem ltc (a b : List Nat) : ltCps a b = decide (a < b) := by
  induction a generalizing b with
  | nil =>
    cases b with
    | nil => rfl
    | cons y b => simp [ltCps]
  | cons x a ih =>
    cases b with
    | nil => simp [ltCps]
    | cons y b =>
      simp only [ltCps]
      rw [ih]
      rw [Bool.eq_iff_iff]
      simp only [Bool.or_eq_true, Bool.and_eq_true, decide_eq_true_eq, beq_iff_eq, List.cons_lt_cons_iff]
theorem sorted_nlt {ys : List Str} (nd : ys.Nodup) (hs : sortedS ys = true) : ys.Pairwise nlt := by
  have key : ∀ (l : List Str) (x : Str), risingS x l = true → (∀ y ∈ l, ¬ nlt y x) ∧ l.Pairwise (fun a b => ¬ nlt b a) := by
    intro l
    induction l with
    | nil => exact fun x _ => ⟨fun _ h => by (cases h), List.Pairwise.nil⟩
    | cons y l ih =>
      intro x h
      have h' : (!ltCps y.cps.toList x.cps.toList && risingS y l) = true := h
      rw [Bool.and_eq_true, ltc, Bool.not_eq_true', decide_eq_false_iff_not] at h'
      obtain ⟨g1, g2⟩ := ih y h'.2
      refine ⟨fun z hz => ?_, List.pairwise_cons.mpr ⟨g1, g2⟩⟩
      rcases List.mem_cons.mp hz with rfl | hz
      · exact h'.1
      · have a1 : y.cps.toList ≤ z.cps.toList := List.not_lt.mp (g1 z hz)
        have a2 : x.cps.toList ≤ y.cps.toList := List.not_lt.mp h'.1
        exact List.not_lt.mpr (List.le_trans a2 a1)
  have hw : ys.Pairwise (fun a b => ¬ nlt b a) := by
    cases ys with
    | nil => exact List.Pairwise.nil
    | cons x l =>
      obtain ⟨g1, g2⟩ := key l x hs
      exact List.pairwise_cons.mpr ⟨g1, g2⟩
  refine List.Pairwise.imp ?_ (List.Pairwise.and hw nd)
  rintro a b ⟨h1, h2⟩
  by_cases h : a.cps.toList < b.cps.toList
  · exact h
  · have e : a.cps.toList = b.cps.toList := List.le_antisymm (List.not_lt.mp h1) (List.not_lt.mp h)
    exact absurd (show a = b by cases a; cases b; simpa using e) h2
theorem rise_uniq : ∀ {ys zs : List Str}, ys.Perm zs → ys.Pairwise nlt → zs.Pairwise nlt → ys = zs
  | [], zs, h, _, _ => h.nil_eq
  | y :: ys, [], h, _, _ => absurd h.length_eq (by simp)
  | y :: ys, z :: zs, h, h1, h2 => by
    have e : y = z := by
      rcases List.mem_cons.mp (h.mem_iff.mp (List.mem_cons_self ..)) with q | q
      · exact q
      · rcases List.mem_cons.mp (h.mem_iff.mpr (List.mem_cons_self (a := z) ..)) with q' | q'
        · exact q'.symm
        · exact (nlt_irrefl _ (nlt_trans ((List.pairwise_cons.mp h1).1 z q') ((List.pairwise_cons.mp h2).1 y q))).elim
    subst e
    rw [rise_uniq h.cons_inv (List.pairwise_cons.mp h1).2 (List.pairwise_cons.mp h2).2]
theorem uniq {ys zs : List Str} (h : ys.Perm zs) (nd : ys.Nodup) (h1 : sortedS ys = true) (h2 : sortedS zs = true) : ys = zs :=
  rise_uniq h (sorted_nlt nd h1) (sorted_nlt (h.nodup_iff.mp nd) h2)
end SS
namespace Q44
open PySem PySem.Spec PyProof.Rows L2 SX HL DM
/-! ### what is held, told -/
abbrev HC := Str × V × V
def HRel (H : Hp) (kv : Key × V) (h : HC) : Prop := kv.1 = .inr h.1 ∧ ∃ t, kv.2 = .ref t ∧ H t = some (.tup [h.2.1, h.2.2])
theorem HRel.keep {H H' : Hp} {kv : Key × V} {h : HC} (r : HRel H kv h) (k : TupK H H') : HRel H' kv h := by
  obtain ⟨e, t, e2, ht⟩ := r
  exact ⟨e, t, e2, k _ _ ht⟩
def putH (hs : List HC) (nm : Str) (s o : V) : List HC := if (hs.any fun h => decide (h.1 = nm)) = true then hs.map (fun h => if h.1 = nm then (h.1, s, o) else h) else hs ++ [(nm, s, o)]
def lkH (hs : List HC) (nm : Str) : Option (V × V) := (hs.find? fun h => decide (h.1 = nm)).map (·.2)
theorem inr_eq {a b : Str} : ((Sum.inr a : Key) = .inr b) ↔ a = b := ⟨fun h => Sum.inr.inj h, fun h => by rw [h]⟩
theorem hrel_any {H : Hp} {nm : Str} : ∀ {kvs : List (Key × V)} {hs : List HC}, All2 (HRel H) kvs hs → (kvs.any fun kv => decide (kv.1 = Sum.inr nm)) = hs.any fun h => decide (h.1 = nm)
  | _, _, .nil => rfl
  | kv :: kvs, h :: hs, .cons r rs => by
    have e : decide (kv.1 = Sum.inr nm) = decide (h.1 = nm) := by rw [r.1]; exact decide_eq_decide.mpr inr_eq
    rw [List.any_cons, List.any_cons, e, hrel_any rs]
theorem hrel_map {H : Hp} {nm : Str} {t : Addr} {s o : V} (ht : H t = some (.tup [s, o])) : ∀ {kvs : List (Key × V)} {hs : List HC}, All2 (HRel H) kvs hs → All2 (HRel H) (kvs.map fun kv => if kv.1 = Sum.inr nm then (kv.1, .ref t) else kv) (hs.map fun h => if h.1 = nm then (h.1, s, o) else h)
  | _, _, .nil => .nil
  | kv :: kvs, h :: hs, .cons r rs => by
    refine .cons ?_ (hrel_map ht rs)
    show HRel H (if kv.1 = Sum.inr nm then (kv.1, .ref t) else kv) (if h.1 = nm then (h.1, s, o) else h)
    by_cases e : h.1 = nm
    · have e2 : kv.1 = Sum.inr nm := by rw [r.1, e]
      rw [if_pos e, if_pos e2]
      exact ⟨r.1, t, rfl, ht⟩
    · have e2 : ¬ kv.1 = Sum.inr nm := fun z => e (by rw [r.1] at z; exact inr_eq.mp z)
      rw [if_neg e, if_neg e2]
      exact r
theorem hrel_put {H : Hp} {nm : Str} {t : Addr} {s o : V} {kvs : List (Key × V)} {hs : List HC} (r : All2 (HRel H) kvs hs) (ht : H t = some (.tup [s, o])) : All2 (HRel H) (putK kvs (.inr nm) (.ref t)) (putH hs nm s o) := by
  unfold putK putH
  rw [hrel_any r]
  split
  · exact hrel_map ht r
  · exact r.snoc ⟨rfl, t, rfl, ht⟩
theorem hrel_get {H : Hp} {nm : Str} : ∀ {kvs : List (Key × V)} {hs : List HC}, All2 (HRel H) kvs hs → (∀ s o, lkH hs nm = some (s, o) → ∃ t, valV kvs (.inr nm) = some (.ref t) ∧ H t = some (.tup [s, o])) ∧ (lkH hs nm = none → valV kvs (.inr nm) = none)
  | _, _, .nil => ⟨fun s o h => (by cases h), fun _ => rfl⟩
  | kv :: kvs, h :: hs, .cons r rs => by
    obtain ⟨i1, i2⟩ := hrel_get (nm := nm) rs
    by_cases e : h.1 = nm
    · have e2 : kv.1 = Sum.inr nm := by rw [r.1, e]
      have l1 : lkH (h :: hs) nm = some h.2 := by
        unfold lkH
        rw [List.find?_cons_of_pos (by exact decide_eq_true e)]
        rfl
      have l2 : valV (kv :: kvs) (.inr nm) = some kv.2 := by
        unfold valV
        rw [List.find?_cons_of_pos (by exact decide_eq_true e2)]
        rfl
      obtain ⟨t, e3, ht⟩ := r.2
      rw [l1, l2, e3]
      refine ⟨fun s o hh => ⟨t, rfl, ?_⟩, fun h => by cases h⟩
      have : h.2 = (s, o) := Option.some.inj hh
      rw [this] at ht
      exact ht
    · have e2 : ¬ kv.1 = Sum.inr nm := fun z => e (by rw [r.1] at z; exact inr_eq.mp z)
      have l1 : lkH (h :: hs) nm = lkH hs nm := by
        unfold lkH
        rw [List.find?_cons_of_neg (by simpa using e)]
      have l2 : valV (kv :: kvs) (.inr nm) = valV kvs (.inr nm) := by
        unfold valV
        rw [List.find?_cons_of_neg (by simpa using e2)]
      rw [l1, l2]
      exact ⟨i1, i2⟩
theorem hrel_keys {H : Hp} : ∀ {kvs : List (Key × V)} {hs : List HC}, All2 (HRel H) kvs hs → kvs.map (·.1) = (hs.map (·.1)).map Sum.inr
  | _, _, .nil => rfl
  | kv :: kvs, h :: hs, .cons r rs => by
    rw [List.map_cons, List.map_cons, List.map_cons, r.1, hrel_keys rs]
theorem lkH_mem {hs : List HC} {nm : Str} (h : nm ∈ hs.map (·.1)) : ∃ s o, lkH hs nm = some (s, o) ∧ (nm, s, o) ∈ hs := by
  obtain ⟨x, hx, rfl⟩ := List.mem_map.mp h
  unfold lkH
  cases e : hs.find? fun h => decide (h.1 = x.1) with
  | none =>
    have := List.find?_eq_none.mp e x hx
    simp at this
  | some y =>
    have h1 := List.find?_some e
    have h2 := List.mem_of_find?_eq_some e
    have h3 : y.1 = x.1 := of_decide_eq_true h1
    exact ⟨y.2.1, y.2.2, rfl, by rw [← h3]; exact h2⟩
structure HOk (H : Hp) (hs : List HC) : Prop where
  tr : ∀ h ∈ hs, Tr H 90 h.2.1 ∧ Tr H 90 h.2.2
  nd : (hs.map (·.1)).Nodup
  le : hs.length ≤ 50
theorem HOk.keep {H H' : Hp} {hs : List HC} (h : HOk H hs) (k : TupK H H') : HOk H' hs := ⟨fun x hx => ⟨(h.tr x hx).1.keep k, (h.tr x hx).2.keep k⟩, h.nd, h.le⟩
theorem putH_names {hs : List HC} {nm : Str} {s o : V} : (putH hs nm s o).map (·.1) = if nm ∈ hs.map (·.1) then hs.map (·.1) else hs.map (·.1) ++ [nm] := by
  unfold putH
  have e : ((hs.any fun h => decide (h.1 = nm)) = true) ↔ nm ∈ hs.map (·.1) := by
    rw [List.any_eq_true]
    constructor
    · rintro ⟨x, hx, h⟩
      rw [← of_decide_eq_true h]
      exact List.mem_map_of_mem hx
    · intro h
      obtain ⟨x, hx, e⟩ := List.mem_map.mp h
      exact ⟨x, hx, decide_eq_true e⟩
  by_cases c : nm ∈ hs.map (·.1)
  · rw [if_pos (e.mpr c), if_pos c, List.map_map]
    refine List.map_congr_left fun x _ => ?_
    show (if x.1 = nm then (x.1, s, o) else x).1 = x.1
    split <;> rfl
  · rw [if_neg (fun h => c (e.mp h)), if_neg c, List.map_append]
    rfl
theorem putH_mem {hs : List HC} {nm : Str} {s o : V} {x : HC} (h : x ∈ putH hs nm s o) : x ∈ hs ∨ (x.2.1 = s ∧ x.2.2 = o) := by
  unfold putH at h
  split at h
  · obtain ⟨y, hy, e⟩ := List.mem_map.mp h
    split at e
    · rw [← e]; exact .inr ⟨rfl, rfl⟩
    · rw [← e]; exact .inl hy
  · rcases List.mem_append.mp h with h | h
    · exact .inl h
    · rw [List.mem_singleton.mp h]; exact .inr ⟨rfl, rfl⟩
theorem HOk.put {H : Hp} {hs : List HC} {nm : Str} {s o : V} (h : HOk H hs) (hs' : Tr H 90 s) (ho : Tr H 90 o) (hl : hs.length + 1 ≤ 50) : HOk H (putH hs nm s o) := by
  refine ⟨fun x hx => ?_, ?_, ?_⟩
  · rcases putH_mem hx with hx | ⟨e1, e2⟩
    · exact h.tr x hx
    · rw [e1, e2]; exact ⟨hs', ho⟩
  · rw [putH_names]
    split
    · exact h.nd
    · rename_i c
      rw [List.nodup_append]
      refine ⟨h.nd, by simp, fun a ha b hb e => ?_⟩
      rw [List.mem_singleton.mp hb] at e
      exact c (e ▸ ha)
  · have : (putH hs nm s o).length = ((putH hs nm s o).map (·.1)).length := by rw [List.length_map]
    rw [this, putH_names]
    split
    · rw [List.length_map]; omega
    · rw [List.length_append, List.length_map]; exact hl
def HeldAt (H : Hp) (a : Addr) (hs : List HC) : Prop := ∃ kvs, H a = some (.dK kvs) ∧ All2 (HRel H) kvs hs
theorem HeldAt.keep {H H' : Hp} {a : Addr} {hs : List HC} (h : HeldAt H a hs) (k : TupK H H') (e : ∀ o, H a = some o → H' a = some o) : HeldAt H' a hs := by
  obtain ⟨kvs, h1, h2⟩ := h
  exact ⟨kvs, e _ h1, h2.mono fun kv h r => r.keep k⟩
def CellP (hs : List HC) (H : Hp) (x : V) (z : Str) : Prop := ∃ t s o, x = .ref t ∧ H t = some (.tup [.str z, s, o]) ∧ lkH hs z = some (s, o)
theorem CellP.keep {H H' : Hp} {hs : List HC} {x : V} {z : Str} (h : CellP hs H x z) (k : TupK H H') : CellP hs H' x z := by
  obtain ⟨t, s, o, e, ht, hl⟩ := h
  exact ⟨t, s, o, e, k _ _ ht, hl⟩
def RowT (H : Hp) (x : V) (row : List Deed) : Prop := ∃ t us, x = .ref t ∧ H t = some (.tup us) ∧ All2 (DeedAt H) us row
theorem RowT.keep {H H' : Hp} {x : V} {row : List Deed} (h : RowT H x row) (k : TupK H H') : RowT H' x row := by
  obtain ⟨t, us, e, ht, hu⟩ := h
  exact ⟨t, us, e, k _ _ ht, hu.mono fun v d h => h.keep k⟩
def DataAt (H : Hp) (x : V) (R : Rows) (hs : List HC) (n : Nat) : Prop := ∃ t rt ct rus cus zs, x = .ref t ∧ H t = some (.tup [vi n, .ref rt, .ref ct]) ∧ H rt = some (.tup rus) ∧ All2 (RowT H) rus ((List.range 8).map R) ∧ H ct = some (.tup cus) ∧ All2 (CellP hs H) cus zs ∧ zs.Perm (hs.map (·.1)) ∧ sortedS zs = true
theorem DataAt.keep {H H' : Hp} {x : V} {R : Rows} {hs : List HC} {n : Nat} (h : DataAt H x R hs n) (k : TupK H H') : DataAt H' x R hs n := by
  obtain ⟨t, rt, ct, rus, cus, zs, e, h1, h2, h3, h4, h5, h6⟩ := h
  exact ⟨t, rt, ct, rus, cus, zs, e, k _ _ h1, k _ _ h2, h3.mono fun v r h => h.keep k, k _ _ h4, h5.mono fun v z h => h.keep k, h6⟩
def FewT (R : Rows) : Prop := ∀ r, r < 8 → (R r).length ≤ 1000 ∧ ∀ d ∈ R r, TOk d
theorem deed_same {K : PySem.W.Frag} {H : Hp} {n : Nat} {x y : V} {d : Deed} (hd : TOk d) (h : DeedAt H x d) (h' : DeedAt H y d) : SameD K H (n + 3) x y := by
  cases d with
  | back n =>
    obtain ⟨t, rfl, ht⟩ := h
    obtain ⟨u, rfl, hu⟩ := h'
    exact .row ht hu (by show 2 ≤ 1000000; decide) fun x hx => by
      simp at hx
      rcases hx with e | e <;> rw [e] <;> exact True.intro
  | change m rem beh num txt =>
    obtain ⟨t, tr, us, bx, rfl, ht, hr, hm, hb⟩ := h
    obtain ⟨t', tr', us', bx', rfl, ht', hr', hm', hb'⟩ := h'
    have hx := (hd _ _ _ _ _ rfl).2
    refine .seq (.tup ht) (.tup ht') rfl (by show 6 ≤ 1000000; decide) fun i u v hu hv => ?_
    match i, hu, hv with
    | 0, hu, hv => cases hu; cases hv; exact .leaf True.intro
    | 1, hu, hv => cases hu; cases hv; exact .leaf True.intro
    | 2, hu, hv =>
      cases hu
      cases hv
      exact .seq (.tup hr) (.tup hr') (by rw [hm.len, hm'.len]) (by rw [hm'.len]; omega) (all_same (R := MkAt H) (fun x y a h k => MkAt.same h k) hm hm')
    | 3, hu, hv => cases hu; cases hv; exact OMk.same hb hb'
    | 4, hu, hv => cases hu; cases hv; exact .leaf True.intro
    | 5, hu, hv => cases hu; cases hv; exact .leaf True.intro
    | i + 6, hu, _ => cases hu
theorem deeds_same {K : PySem.W.Frag} {H : Hp} {n : Nat} {xs ys : List V} {row : List Deed} (hd : ∀ d ∈ row, TOk d) (h : All2 (DeedAt H) xs row) (h' : All2 (DeedAt H) ys row) (i : Nat) (u v : V) (hu : xs[i]? = some u) (hv : ys[i]? = some v) : SameD K H (n + 3) u v := by
  obtain ⟨a, ha, r⟩ := h.get hu
  obtain ⟨b, hb, r'⟩ := h'.get hv
  rw [ha] at hb
  cases hb
  exact deed_same (hd a (List.mem_of_getElem? ha)) r r'
theorem data_same {K : PySem.W.Frag} {H : Hp} {x y : V} {R : Rows} {hs : List HC} {n : Nat} (hF : FewT R) (hk : HOk H hs) (h : DataAt H x R hs n) (h' : DataAt H y R hs n) : SameD K H 93 x y := by
  obtain ⟨t, rt, ct, rus, cus, zs, rfl, h1, h2, h3, h4, h5, h6, h7⟩ := h
  obtain ⟨t', rt', ct', rus', cus', zs', rfl, h1', h2', h3', h4', h5', h6', h7'⟩ := h'
  have ez : zs = zs' := SS.uniq (h6.trans h6'.symm) (h6.nodup_iff.mpr hk.nd) h7 h7'
  subst ez
  have hzl : zs.length ≤ 50 := by rw [h6.length_eq, List.length_map]; exact hk.le
  refine .seq (.tup h1) (.tup h1') rfl (by show 3 ≤ 1000000; decide) fun i u v hu hv => ?_
  match i, hu, hv with
  | 0, hu, hv => cases hu; cases hv; exact .leaf True.intro
  | 1, hu, hv =>
    cases hu; cases hv
    have e8 : ((List.range 8).map R).length = 8 := by rw [List.length_map, List.length_range]
    refine .seq (.tup h2) (.tup h2') (by rw [h3.len, h3'.len]) (by rw [h3'.len, e8]; decide) fun j u v hu hv => ?_
    obtain ⟨r, hr, ru⟩ := h3.get hu
    obtain ⟨r', hr', ru'⟩ := h3'.get hv
    rw [hr] at hr'
    cases hr'
    obtain ⟨i, hi, rfl⟩ := List.mem_map.mp (List.mem_of_getElem? hr)
    obtain ⟨a, us, rfl, ha, hus⟩ := ru
    obtain ⟨b, vs, rfl, hb, hvs⟩ := ru'
    obtain ⟨f1, f2⟩ := hF i (List.mem_range.mp hi)
    exact .seq (.tup ha) (.tup hb) (by rw [hus.len, hvs.len]) (by rw [hvs.len]; omega) (deeds_same f2 hus hvs)
  | 2, hu, hv =>
    cases hu; cases hv
    refine .seq (.tup h4) (.tup h4') (by rw [h5.len, h5'.len]) (by rw [h5'.len]; omega) fun j u v hu hv => ?_
    obtain ⟨z, hz, c⟩ := h5.get hu
    obtain ⟨z', hz', c'⟩ := h5'.get hv
    rw [hz] at hz'
    cases hz'
    obtain ⟨a, s, o, rfl, ha, hl⟩ := c
    obtain ⟨b, s', o', rfl, hb, hl'⟩ := c'
    rw [hl] at hl'
    cases hl'
    have hzm : z ∈ hs.map (·.1) := h6.mem_iff.mp (List.mem_of_getElem? hz)
    obtain ⟨s2, o2, hl2, hm⟩ := lkH_mem hzm
    rw [hl] at hl2
    cases hl2
    obtain ⟨g1, g2⟩ := hk.tr _ hm
    refine .seq (.tup ha) (.tup hb) rfl (by show 3 ≤ 1000000; decide) fun i u v hu hv => ?_
    match i, hu, hv with
    | 0, hu, hv => cases hu; cases hv; exact .leaf True.intro
    | 1, hu, hv => cases hu; cases hv; exact g1.same
    | 2, hu, hv => cases hu; cases hv; exact g2.same
    | i + 3, hu, _ => cases hu
  | i + 3, hu, _ => cases hu
end Q44
namespace Q44
open PySem PySem.Spec PyProof.Rows L2 SX HL DM
/-! ### an object of Base -/
theorem g12 : ¬ (("commits" : Str) = "deeds") := by decide +kernel
theorem g13 : ¬ (("commits" : Str) = "held") := by decide +kernel
theorem g23 : ¬ (("deeds" : Str) = "held") := by decide +kernel
def bflds (c : V) (dq hd : Addr) : List (Str × V) := [("commits", c), ("deeds", .ref dq), ("held", .ref hd)]
theorem bflds_commits (c : V) (dq hd : Addr) : (bflds c dq hd).lookup ("commits" : Str) = some c := lkF_eq _ _ _
theorem bflds_deeds (c : V) (dq hd : Addr) : (bflds c dq hd).lookup ("deeds" : Str) = some (.ref dq) := by
  unfold bflds
  rw [lkF_ne (fun e => g12 e.symm), lkF_eq]
theorem bflds_held (c : V) (dq hd : Addr) : (bflds c dq hd).lookup ("held" : Str) = some (.ref hd) := by
  unfold bflds
  rw [lkF_ne (fun e => g13 e.symm), lkF_ne (fun e => g23 e.symm), lkF_eq]
theorem bflds_no (c : V) (dq hd : Addr) {m : Str} (h1 : ¬ m = "commits") (h2 : ¬ m = "deeds") (h3 : ¬ m = "held") : (bflds c dq hd).lookup m = none := by
  unfold bflds
  rw [lkF_ne h1, lkF_ne h2, lkF_ne h3]
  rfl
/-- an object with these rows and what it holds; N holds what it may change -/
structure BSt (cD cB : Addr) (H : Hp) (p dx dq hd : Addr) (R : Rows) (hs : List HC) (n : Nat) (Nd N : Addr → Prop) : Prop where
  hp : H p = some (.ins cB dx (bflds (vi n) dq hd))
  dd : DeAt cD H dq R (tot R) Nd
  he : HeldAt H hd hs
  Np : N p
  Nh : N hd
  Nu : ∀ z, Nd z → N z
  nt : ∀ z, N z → ∃ o, H z = some o ∧ ∀ xs, o ≠ .tup xs
  dh : ¬ Nd hd
  dp : ¬ Nd p
def BaseAt (cD cB : Addr) (H : Hp) (p : Addr) (R : Rows) (hs : List HC) (n : Nat) (N : Addr → Prop) : Prop := ∃ dx dq hd Nd, BSt cD cB H p dx dq hd R hs n Nd N
section
variable {cD cB : Addr} {H H' : Hp} {p dx dq hd : Addr} {R : Rows} {hs : List HC} {n : Nat} {Nd N : Addr → Prop}
theorem DeAt.stay {k : Nat} (D : DeAt cD H p R k N) (f : ∀ z o, H z = some o → N z → H' z = some o) (t : TupK H H') : DeAt cD H' p R k N := by
  obtain ⟨dx, A, mk, en, rs, kvs, es, S⟩ := D
  exact ⟨dx, A, mk, en, rs, kvs, es, S.stay f t⟩
theorem DeAt.tk {k : Nat} (D : DeAt cD H p R k N) (f : ∀ z o, H z = some o → ¬ N z → H' z = some o) : TupK H H' := by
  obtain ⟨dx, A, mk, en, rs, kvs, es, S⟩ := D
  exact S.tk f
theorem BSt.tk (B : BSt cD cB H p dx dq hd R hs n Nd N) (f : ∀ z o, H z = some o → ¬ N z → H' z = some o) : TupK H H' := fun a xs h => f a _ h fun m => by
  obtain ⟨o, h1, h2⟩ := B.nt a m
  rw [h] at h1
  cases h1
  exact h2 _ rfl
theorem BSt.stay (B : BSt cD cB H p dx dq hd R hs n Nd N) (f : ∀ z o, H z = some o → N z → H' z = some o) (t : TupK H H') : BSt cD cB H' p dx dq hd R hs n Nd N :=
  ⟨f _ _ B.hp B.Np, B.dd.stay (fun z o h m => f z o h (B.Nu z m)) t, B.he.keep t fun o h => f _ _ h B.Nh, B.Np, B.Nh, B.Nu, fun z hz => by obtain ⟨o, h1, h2⟩ := B.nt z hz; exact ⟨o, f _ _ h1 hz, h2⟩, B.dh, B.dp⟩
theorem BSt.same (B : BSt cD cB H p dx dq hd R hs n Nd N) (s : Same H H') : BSt cD cB H' p dx dq hd R hs n Nd N := B.stay (fun z o h _ => s z o h) (Same.tk s)
theorem BaseAt.same (B : BaseAt cD cB H p R hs n N) (s : Same H H') : BaseAt cD cB H' p R hs n N := by
  obtain ⟨dx, dq, hd, Nd, B⟩ := B
  exact ⟨dx, dq, hd, Nd, B.same s⟩
theorem BaseAt.stay (B : BaseAt cD cB H p R hs n N) (f : ∀ z o, H z = some o → N z → H' z = some o) (t : TupK H H') : BaseAt cD cB H' p R hs n N := by
  obtain ⟨dx, dq, hd, Nd, B⟩ := B
  exact ⟨dx, dq, hd, Nd, B.stay f t⟩
theorem BaseAt.tk (B : BaseAt cD cB H p R hs n N) (f : ∀ z o, H z = some o → ¬ N z → H' z = some o) : TupK H H' := by
  obtain ⟨dx, dq, hd, Nd, B⟩ := B
  exact B.tk f
theorem BaseAt.old (B : BaseAt cD cB H p R hs n N) {z : Addr} (h : H z = none) : ¬ N z := fun m => by
  obtain ⟨dx, dq, hd, Nd, B⟩ := B
  obtain ⟨o, h1, _⟩ := B.nt z m
  rw [h] at h1
  cases h1
end
section
variable {P : Program} {w : World} {K : PySem.W.Frag} {mg : Str → Option Value} {base : Heap}
def spBInit (cD cB : Addr) : Sp := fun vs H Q _ => ∃ (p dx : Addr), vs = [.ref p] ∧ H p = some (.ins cB dx []) ∧
  ∀ H' N, (∀ z o, H z = some o → z ≠ p → H' z = some o) → BaseAt cD cB H' p (fun _ => []) [] 0 N → (∀ z, N z → z = p ∨ H z = none) → Q .non H'
theorem ok_binit {k : Nat} (Z : Defs K mg) : FnOk P w K mg base CX0 (k + 3) Z.fBaseInit Z.fdBaseInit ["self"] (spBInit Z.cDeeds Z.cBase) := by
  have GDeedsInit : FnOk P w K mg base CX0 (k + 1) Z.fDeedsInit Z.fdDeedsInit ["self"] (spInit Z.cDeeds) := ok_init Z
  refine Z.DBaseInit.F.ok scBaseInit (fun vs H Q E h => ?_) (fun cdv A outer s H vs Q E hr h => ?_)
  · obtain ⟨p, dx, rfl, _⟩ := h
    rfl
  · obtain ⟨p, dx, rfl, hp, qq⟩ := h
    refine ⟨_, (pss_cons (ps_fld (pv 0) pe_int rfl)
        (pss_cons (ps_fld (pv 0) (pe_make0 Z.CDeeds.make GDeedsInit (hr.mono (by omega)) rfl Z.CDeeds.g Z.DDeedsInit.b .nil pass0) rfl)
        (pss_one (ps_fld (pv 0) pe_dnewK rfl)))), ?_⟩
    refine ⟨_, rfl, p, Z.cBase, dx, [], rfl, hp, Z.CBase.cl, Z.nBase_commits, (by show 0 < 1000; decide), ?_⟩
    have b1 : ∀ z o, H z = some o → z ≠ p → (upd H p (.ins Z.cBase dx (putF "commits" (.int 0) []))) z = some o := fun z o h n => by rw [upd_ne n]; exact h
    have g1 : upd H p (.ins Z.cBase dx (putF "commits" (.int 0) [])) p = some (.ins Z.cBase dx (putF "commits" (.int 0) [])) := upd_same
    have b1n : ∀ z, upd H p (.ins Z.cBase dx (putF "commits" (.int 0) [])) z = none → H z = none := fun z h => by
      by_cases e : z = p
      · rw [e, upd_same] at h; cases h
      · rw [upd_ne e] at h; exact h
    generalize upd H p (.ins Z.cBase dx (putF "commits" (.int 0) [])) = H1 at b1 g1 b1n
    refine fun dq ddx hdq hddx ndx => ⟨dq, ddx, rfl, upd_same, fun H2 Nd f2 D2 n2 => ⟨rfl, ?_⟩⟩
    have s2 : Same H1 H2 := fun z o h => f2 _ _ (by rw [upd_ne (ne_of_none h hdq), upd_ne (ne_of_none h hddx)]; exact h) (ne_of_none h hdq)
    have n2' : ∀ z, Nd z → H1 z = none := fun z h => by
      rcases n2 z h with e | e
      · rw [e]; exact hdq
      · by_cases e1 : z = dq
        · rw [e1]; exact hdq
        · rw [upd_ne e1] at e
          by_cases e2 : z = ddx
          · rw [e2]; exact hddx
          · rw [upd_ne e2] at e; exact e
    have npd : ¬ Nd p := fun h => by rw [n2' p h] at g1; cases g1
    have g2 := s2 _ _ g1
    refine ⟨_, rfl, p, Z.cBase, dx, _, rfl, g2, Z.CBase.cl, Z.nBase_deeds, (by show 1 < 1000; decide), ?_⟩
    have b3 : ∀ z o, H2 z = some o → z ≠ p → (upd H2 p (.ins Z.cBase dx (putF "deeds" (.ref dq) (putF "commits" (.int 0) [])))) z = some o := fun z o h n => by rw [upd_ne n]; exact h
    have g3 : upd H2 p (.ins Z.cBase dx (putF "deeds" (.ref dq) (putF "commits" (.int 0) []))) p = some (.ins Z.cBase dx (putF "deeds" (.ref dq) (putF "commits" (.int 0) []))) := upd_same
    generalize upd H2 p (.ins Z.cBase dx (putF "deeds" (.ref dq) (putF "commits" (.int 0) []))) = H3 at b3 g3
    have D3 : DeAt Z.cDeeds H3 dq (fun _ => []) 0 Nd := D2.stay (fun z o h m => b3 z o h fun e => npd (by rw [← e]; exact m)) fun a xs h => b3 _ _ h fun e => by rw [e, g2] at h; cases h
    refine fun hd hhd => ?_
    have s4 : Same H3 (upd H3 hd (.dK [])) := same_upd hhd
    have g4 : upd H3 hd (.dK []) hd = some (.dK []) := upd_same
    generalize upd H3 hd (.dK []) = H4 at s4 g4
    have nph : hd ≠ p := fun e => by rw [e, g3] at hhd; cases hhd
    have g5 := s4 _ _ g3
    have D4 := D3.same s4
    have ndh : ¬ Nd hd := fun h => by
      obtain ⟨_, _, _, _, _, _, _, S⟩ := D3
      obtain ⟨o, ho, _⟩ := S.nt hd h
      rw [hhd] at ho
      cases ho
    refine ⟨_, rfl, p, Z.cBase, dx, _, rfl, g5, Z.CBase.cl, Z.nBase_held, (by show 2 < 1000; decide), ?_⟩
    have ef : putF "held" (.ref hd) (putF "deeds" (.ref dq) (putF "commits" (.int 0) [])) = bflds (.int 0) dq hd := by
      rw [putF_nil, putF_ne g12, putF_nil, putF_ne g13, putF_ne g23, putF_nil]
      rfl
    rw [ef]
    have b6 : ∀ z o, H4 z = some o → z ≠ p → (upd H4 p (.ins Z.cBase dx (bflds (.int 0) dq hd))) z = some o := fun z o h n => by rw [upd_ne n]; exact h
    have hdn : H hd = none := by
      cases e : H hd with
      | none => rfl
      | some o =>
        have := b3 _ _ (s2 _ _ (b1 _ _ e nph)) nph
        rw [hhd] at this
        cases this
    have D6 : DeAt Z.cDeeds (upd H4 p (.ins Z.cBase dx (bflds (.int 0) dq hd))) dq (fun _ => []) 0 Nd := D4.stay (fun z o h m => b6 z o h fun e => npd (by rw [← e]; exact m)) fun a xs h => b6 _ _ h fun e => by rw [e, g5] at h; cases h
    have g6 : upd H4 p (.ins Z.cBase dx (bflds (.int 0) dq hd)) hd = some (.dK []) := b6 _ _ g4 nph
    refine qq _ (fun z => z = p ∨ z = hd ∨ Nd z) (fun z o h n => b6 _ _ (s4 _ _ (b3 _ _ (s2 _ _ (b1 _ _ h n)) n)) n) ⟨dx, dq, hd, Nd, upd_same, D6, ⟨[], g6, .nil⟩, .inl rfl, .inr (.inl rfl), fun z h => .inr (.inr h), fun z hz => ?_, ndh, npd⟩ fun z hz => ?_
    · rcases hz with rfl | rfl | hz
      · exact ⟨_, upd_same, fun xs e => by cases e⟩
      · exact ⟨_, g6, fun xs e => by cases e⟩
      · obtain ⟨_, _, _, _, _, _, _, S⟩ := D6
        exact S.nt z hz
    · rcases hz with rfl | rfl | hz
      · exact .inl rfl
      · exact .inr hdn
      · exact .inr (b1n z (n2' z hz))
end
end Q44
namespace Q44
open PySem PySem.Spec PyProof.Rows L2 SX HL DM
section
variable {P : Program} {w : World} {K : PySem.W.Frag} {mg : Str → Option Value} {base : Heap}
/-! ### copy -/
theorem putF_commits (c c' : V) (dq hd : Addr) : putF "commits" c (bflds c' dq hd) = bflds c dq hd := by
  unfold bflds
  rw [putF_eq]
theorem putF_deeds (c : V) (dq dq' hd : Addr) : putF "deeds" (.ref dq) (bflds c dq' hd) = bflds c dq hd := by
  unfold bflds
  rw [putF_ne g12, putF_eq]
theorem putF_held (c : V) (dq hd hd' : Addr) : putF "held" (.ref hd) (bflds c dq hd') = bflds c dq hd := by
  unfold bflds
  rw [putF_ne g13, putF_ne g23, putF_eq]
def spBCopy (cD cB : Addr) : Sp := fun vs H Q _ => ∃ (p : Addr) (R : Rows) (hs : List HC) (n : Nat) (N : Addr → Prop), vs = [.ref p] ∧ BaseAt cD cB H p R hs n N ∧ tot R ≤ 1000 ∧ FewT R ∧
  ∀ H' q N', Same H H' → BaseAt cD cB H' q R hs n N' → (∀ z, N' z → H z = none) → Q (.ref q) H'
theorem ok_bcopy {k : Nat} (Z : Defs K mg) : FnOk P w K mg base CX0 (k + 5) Z.fBaseCopy Z.fdBaseCopy ["self"] (spBCopy Z.cDeeds Z.cBase) := by
  have GBaseInit : FnOk P w K mg base CX0 (k + 3) Z.fBaseInit Z.fdBaseInit ["self"] (spBInit Z.cDeeds Z.cBase) := ok_binit Z
  have GDeedsCopy : FnOk P w K mg base CX0 (k + 3) Z.fDeedsCopy Z.fdDeedsCopy ["self"] (spCopy Z.cDeeds) := ok_copy Z
  refine Z.DBaseCopy.F.ok scBaseCopy (fun vs H Q E h => ?_) (fun cdv A outer s H vs Q E hr h => ?_)
  · obtain ⟨p, R, hs, n, N, rfl, _⟩ := h
    rfl
  · obtain ⟨p, R, hs, n, N, rfl, ⟨dx, dq, hd, Nd, B⟩, htot, hF, qq⟩ := h
    refine ⟨_, (pss_cons (ps_set (i := 1) scBaseCopy.nd rfl (.inl rfl) (pe_make0 Z.CBase.make GBaseInit (hr.mono (by omega)) rfl Z.CBase.g Z.DBaseInit.b .nil pass0))
        (pss_cons (ps_fld (pv 1) (pe_fld (pv 0) rfl) rfl)
        (pss_cons (ps_fld (pv 1) (pe_meth0 (pe_fld (pv 0) rfl) Z.CDeeds.cl Z.DDeedsCopy.m GDeedsCopy (hr.mono (by omega)) Z.DDeedsCopy.b .nil pass0) rfl)
        (pss_cons (ps_fld (pv 1) (pe_callTy call_dictD (by rfl) Z.dict HL.boot_dict (pa_cons (pe_fld (pv 0) rfl) pa_nil)) rfl)
        (pss_one (ps_ret (pv 1))))))), ?_⟩
    refine fun q qx hq hqx nqx => ⟨q, qx, rfl, upd_same, fun H1 N1 f1 B1 n1 => ⟨rfl, ?_⟩⟩
    have s1 : Same H H1 := fun z o h => f1 _ _ (by rw [upd_ne (ne_of_none h hq), upd_ne (ne_of_none h hqx)]; exact h) (ne_of_none h hq)
    obtain ⟨qx1, dq1, hd1, Nd1, Bq⟩ := B1
    have hq1 := Bq.hp
    clear Bq n1 f1 hqx nqx
    have BB1 := B.same s1
    refine ⟨_, rfl, p, Z.cBase, dx, _, _, rfl, BB1.hp, Z.CBase.cl, Z.nBase_commits, bflds_commits _ _ _, _, rfl, q, Z.cBase, qx1, _, rfl, hq1, Z.CBase.cl, Z.nBase_commits, (by show 3 < 1000; decide), ?_⟩
    rw [putF_commits]
    have s2 : Same H (upd H1 q (.ins Z.cBase qx1 (bflds (vi n) dq1 hd1))) := fun z o h => by rw [upd_ne (ne_of_none h hq)]; exact s1 _ _ h
    have g2 : upd H1 q (.ins Z.cBase qx1 (bflds (vi n) dq1 hd1)) q = some (.ins Z.cBase qx1 (bflds (vi n) dq1 hd1)) := upd_same
    generalize upd H1 q (.ins Z.cBase qx1 (bflds (vi n) dq1 hd1)) = H2 at s2 g2
    have B2 := B.same s2
    obtain ⟨du, DA, mk, en, drs, kvs, es0, S2⟩ := id B2.dd
    refine ⟨_, rfl, p, Z.cBase, dx, _, _, rfl, B2.hp, Z.CBase.cl, Z.nBase_deeds, bflds_deeds _ _ _, dq, du, _, rfl, S2.hp, dflds_no _ _ _ (by decide +kernel) (by decide +kernel) (by decide +kernel), dq, R, Nd, rfl, B2.dd, htot, fun r hr => (hF r hr).2, fun H3 dq3 Nd3 s23 D3 n3 => ?_⟩
    have g3 := s23 _ _ g2
    refine ⟨_, rfl, q, Z.cBase, qx1, _, rfl, g3, Z.CBase.cl, Z.nBase_deeds, (by show 3 < 1000; decide), ?_⟩
    rw [putF_deeds]
    have s3 : Same H H3 := Same.tr s2 s23
    have nq3 : ¬ Nd3 q := fun h => by rw [n3 q h] at g2; cases g2
    have D4 : DeAt Z.cDeeds (upd H3 q (.ins Z.cBase qx1 (bflds (vi n) dq3 hd1))) dq3 R (tot R) Nd3 := D3.stay (fun z o h m => by rw [upd_ne (fun e => nq3 (by rw [← e]; exact m))]; exact h) (tk_upd fun xs e => by rw [g3] at e; cases e)
    have s4 : Same H (upd H3 q (.ins Z.cBase qx1 (bflds (vi n) dq3 hd1))) := fun z o h => by rw [upd_ne (ne_of_none h hq)]; exact s3 _ _ h
    have g4 : upd H3 q (.ins Z.cBase qx1 (bflds (vi n) dq3 hd1)) q = some (.ins Z.cBase qx1 (bflds (vi n) dq3 hd1)) := upd_same
    generalize upd H3 q (.ins Z.cBase qx1 (bflds (vi n) dq3 hd1)) = H4 at s4 g4 D4
    have n3' : ∀ z, Nd3 z → H z = none := fun z h => Same.none s2 (n3 z h)
    have B4 := B.same s4
    obtain ⟨kv, hkv, hrel⟩ := B4.he
    refine ⟨_, rfl, p, Z.cBase, dx, _, _, rfl, B4.hp, Z.CBase.cl, Z.nBase_held, bflds_held _ _ _, hd, kv, rfl, .inl hkv, fun nh hnh => ?_⟩
    have s5 : Same H4 (upd H4 nh (.dK kv)) := same_upd hnh
    have g5 : upd H4 nh (.dK kv) nh = some (.dK kv) := upd_same
    have nhq : nh ≠ q := fun e => by rw [e, g4] at hnh; cases hnh
    generalize upd H4 nh (.dK kv) = H5 at s5 g5
    have g5q := s5 _ _ g4
    have hnhH : H nh = none := Same.none s4 hnh
    refine ⟨_, rfl, q, Z.cBase, qx1, _, rfl, g5q, Z.CBase.cl, Z.nBase_held, (by show 3 < 1000; decide), ?_⟩
    rw [putF_held]
    have k6 : TupK H5 (upd H5 q (.ins Z.cBase qx1 (bflds (vi n) dq3 nh))) := tk_upd fun xs e => by rw [g5q] at e; cases e
    have D6 : DeAt Z.cDeeds (upd H5 q (.ins Z.cBase qx1 (bflds (vi n) dq3 nh))) dq3 R (tot R) Nd3 := (D4.same s5).stay (fun z o h m => by rw [upd_ne (fun e => nq3 (by rw [← e]; exact m))]; exact h) k6
    have s6 : Same H (upd H5 q (.ins Z.cBase qx1 (bflds (vi n) dq3 nh))) := fun z o h => by rw [upd_ne (ne_of_none h hq)]; exact s5 _ _ (s4 _ _ h)
    have g6 : upd H5 q (.ins Z.cBase qx1 (bflds (vi n) dq3 nh)) nh = some (.dK kv) := by rw [upd_ne nhq]; exact g5
    have ndh : ¬ Nd3 nh := fun h => by
      obtain ⟨_, _, _, _, _, _, _, S⟩ := D4
      obtain ⟨o, ho, _⟩ := S.nt nh h
      rw [hnh] at ho
      cases ho
    refine ⟨_, rfl, qq _ q (fun z => z = q ∨ z = nh ∨ Nd3 z) s6 ⟨qx1, dq3, nh, Nd3, upd_same, D6, ⟨kv, g6, hrel.mono fun a b r => (r.keep (Same.tk s5)).keep k6⟩, .inl rfl, .inr (.inl rfl), fun z h => .inr (.inr h), fun z hz => ?_, ndh, nq3⟩ fun z hz => ?_⟩
    · rcases hz with rfl | rfl | hz
      · exact ⟨_, upd_same, fun xs e => by cases e⟩
      · exact ⟨_, g6, fun xs e => by cases e⟩
      · obtain ⟨_, _, _, _, _, _, _, S⟩ := D6
        exact S.nt z hz
    · rcases hz with rfl | rfl | hz
      · exact hq
      · exact hnhH
      · exact n3' z hz
end
end Q44
namespace KX
open PySem PySem.Spec PyProof.Rows L2 SX HL
/-! ### more rules within comprehensions: K is told -/
section
variable {X : Cx} {K : PySem.W.Frag}
theorem pa_starK {e : Expr} {es : List Expr} {te : TE} {t : TA} {p : Pos} (h : X.K = K) (he : PE X e te) (hr : PA X es t) (hs : starEach (.Starred e p :: es) X.env = (true, eval e X.env) :: starEach es X.env := by rfl) : PA X (.Starred e p :: es) (StX.tStar K te t) := by
  subst h
  exact StX.pa_star he hr hs
theorem call_tuple_ofK (h : X.K = K) : CallR X (.type "tuple") (fun xs H Q => ∃ p ys, xs = [.ref p] ∧ ((SqL K H p ys ∧ ∀ l, H l = none → Q (.ref l) (upd H l (.tup ys))) ∨ (SqT K H p ys ∧ Q (.ref p) H))) := by
  subst h
  exact call_tuple_of
theorem pe_fldK {e : Expr} {ta : TE} {f : Str} {pos : Pos} (h : X.K = K) (he : PE X e ta) (hb : attributeBase e f X.env (eval e X.env) = eval e X.env) : PE X (.Attribute e f pos) (tFld K ta f) := by
  subst h
  exact pe_fld he hb
theorem op_catTK (h : X.K = K) : OpR X (binaryOp .Add) (rCatT K) := by
  subst h
  exact op_catT
end
end KX
namespace Q44
open PySem PySem.Spec PyProof.Rows L2 SX HL DM
section
variable {P : Program} {w : World} {K : PySem.W.Frag} {mg : Str → Option Value} {base : Heap}
/-! ### cells, data -/
def CellsAt (H : Hp) (us : List V) (hs : List HC) : Prop := ∃ zs, All2 (CellP hs H) us zs ∧ zs.Perm (hs.map (·.1)) ∧ sortedS zs = true
def spBCells (cD cB : Addr) : Sp := fun vs H Q _ => ∃ (p : Addr) (R : Rows) (hs : List HC) (n : Nat) (N : Addr → Prop), vs = [.ref p] ∧ BaseAt cD cB H p R hs n N ∧ hs.length ≤ 50 ∧
  ∀ H' l us, Same H H' → H' l = some (.lst us) → CellsAt H' us hs → Q (.ref l) H'
theorem ok_bcells {k : Nat} (Z : Defs K mg) : FnOk P w K mg base CX0 (k + 1) Z.fBaseCells Z.fdBaseCells ["self"] (spBCells Z.cDeeds Z.cBase) := by
  refine Z.DBaseCells.F.ok scBaseCells (fun vs H Q E h => ?_) (fun cdv A outer s H vs Q E hr h => ?_)
  · obtain ⟨p, R, hs, n, N, rfl, _⟩ := h
    rfl
  · obtain ⟨p, R, hs, n, N, rfl, ⟨dx, dq, hd, Nd, B⟩, hl50, qq⟩ := h
    refine ⟨_, (pss_one (ps_ret (pe_lc (own := [("name", 1)]) (g := (gName 1)) (by rfl) scBaseCells.nd (pi_list (pe_callB (call_sortedD rfl) (by rfl) Z.sorted PyProof.Rows.boot_sorted (pa_cons (pe_fld (pv 0) rfl) pa_nil))) (blkOk_by (own := [("name", 1)]) (N := ["self", "name"]) (sc := defScope sBaseCells) (by decide +kernel)) (fun _ _ _ _ _ => (pg_name (i := 1) scBaseCells.nd rfl (Or.inl rfl))) (fun _ _ _ _ _ => pts_nil) (fun _ _ _ _ _ => (pe_tup (pa_cons (pv 1) (KX.pa_starK (K := K) rfl (pe_dget (hu_of hr) (KX.pe_fldK (K := K) rfl (pv 0) rfl) (pv 1) (fun _ _ => rfl)) pa_nil))))))), ?_⟩
    obtain ⟨kv, hkv, hrel⟩ := B.he
    have hsz : 1000000 ≤ sizeLine := by decide
    refine ⟨_, rfl, p, Z.cBase, dx, _, _, rfl, B.hp, Z.CBase.cl, Z.nBase_held, bflds_held _ _ _, hd, kv, hs.map (·.1), rfl, .inl hkv, hrel_keys hrel, by rw [List.length_map]; omega, fun zs sl hperm hsort hsl => ?_⟩
    have s1 : Same H (upd H sl (.lst (zs.map V.str))) := same_upd hsl
    have g1 : upd H sl (.lst (zs.map V.str)) sl = some (.lst (zs.map V.str)) := upd_same
    generalize upd H sl (.lst (zs.map V.str)) = H1 at s1 g1
    have hzl : zs.length ≤ 50 := by rw [hperm.length_eq, List.length_map]; exact hl50
    refine ⟨sl, rfl, ⟨_, SqL.of g1⟩, fun D hD => ?_⟩
    refine lc_list (K := K) (xs := zs.map V.str) (fun i H' => Same H1 H' ∧ ∃ us, H' D = some (.lst us) ∧ All2 (CellP hs H') us (zs.take i)) ⟨same_upd hD, [], upd_same, .nil⟩ (fun i H' _ q => SqL.of (q.1 _ _ g1)) ?_ ?_
    · rintro i x H2 hx ⟨s2, us, hD2, hus⟩
      obtain ⟨z, hz, rfl⟩ : ∃ z, zs[i]? = some z ∧ .str z = x := by
        rw [List.getElem?_map] at hx
        cases e : zs[i]? with
        | none => rw [e] at hx; cases hx
        | some m => rw [e] at hx; exact ⟨m, rfl, Option.some.inj hx⟩
      have hil : i < zs.length := (List.getElem?_eq_some_iff.mp hz).1
      have hul := hus.len
      rw [List.length_take] at hul
      have hzm : z ∈ hs.map (·.1) := hperm.mem_iff.mp (List.mem_of_getElem? hz)
      obtain ⟨s, o, hlk, _⟩ := lkH_mem hzm
      obtain ⟨t, hv, ht⟩ := (hrel_get (nm := z) hrel).1 s o hlk
      have s02 := Same.tr s1 s2
      have B2 := B.same s02
      have hg : DGet H2 hd (.str z) (some (.ref t)) := .inl ⟨kv, .inr z, .inl (s02 _ _ hkv), rfl, hv.symm⟩
      refine ⟨rfl, lc_yes ⟨_, rfl, _, rfl, p, Z.cBase, dx, _, _, rfl, B2.hp, Z.CBase.cl, Z.nBase_held, bflds_held _ _ _, _, rfl, hd, .ref t, rfl, hg, t, _, rfl, .inl (SqT.of (s02 _ _ ht)), (by show 3 ≤ sizeLine; decide), fun tt htt => ?_⟩⟩
      have s3 := same_upd (o := .tup [.str z, s, o]) htt
      have g3 : upd H2 tt (.tup [.str z, s, o]) tt = some (.tup [.str z, s, o]) := upd_same
      show ∃ acc, upd H2 tt (.tup (V.str z :: ([s, o] ++ []))) D = some (.lst acc) ∧ _
      rw [show (V.str z :: ([s, o] ++ ([] : List V))) = [V.str z, s, o] from rfl]
      generalize upd H2 tt (.tup [.str z, s, o]) = H3 at s3 g3 ⊢
      have hD3 := s3 _ _ hD2
      have kD : TupK H3 (upd H3 D (.lst (us ++ [.ref tt]))) := tk_upd fun xs e => by rw [hD3] at e; cases e
      refine ⟨us, hD3, by omega, fun y o hy => by rw [upd_ne (ne_of_none hy hD)]; exact s3 _ _ (s2 _ _ hy), us ++ [.ref tt], upd_same, ?_⟩
      rw [take_snoc hz]
      exact (hus.mono fun v e h => (h.keep (Same.tk s3)).keep kD).snoc ⟨tt, s, o, rfl, kD _ _ g3, hlk⟩
    · rintro H2 ⟨s2, us, hD2, hus⟩
      rw [List.length_map, List.take_length] at hus
      exact qq H2 D us (Same.tr s1 s2) hD2 ⟨zs, hus, hperm, hsort⟩
def spBData (cD cB : Addr) : Sp := fun vs H Q _ => ∃ (p : Addr) (R : Rows) (hs : List HC) (n : Nat) (N : Addr → Prop), vs = [.ref p] ∧ BaseAt cD cB H p R hs n N ∧ hs.length ≤ 50 ∧
  ∀ H' x, Same H H' → DataAt H' x R hs n → Q x H'
theorem ok_bdata {k : Nat} (Z : Defs K mg) : FnOk P w K mg base CX0 (k + 2) Z.fBaseData Z.fdBaseData ["self"] (spBData Z.cDeeds Z.cBase) := by
  have GBaseCells : FnOk P w K mg base CX0 (k + 1) Z.fBaseCells Z.fdBaseCells ["self"] (spBCells Z.cDeeds Z.cBase) := ok_bcells Z
  refine Z.DBaseData.F.ok scBaseData (fun vs H Q E h => ?_) (fun cdv A outer s H vs Q E hr h => ?_)
  · obtain ⟨p, R, hs, n, N, rfl, _⟩ := h
    rfl
  · obtain ⟨p, R, hs, n, N, rfl, B0, hl50, qq⟩ := h
    obtain ⟨dx, dq, hd, Nd, B⟩ := id B0
    refine ⟨_, (pss_one (ps_ret (pe_tup (pa_cons (pe_fld (pv 0) rfl) (pa_cons (pe_callTy call_tuple_of (by rfl) Z.tuple HL.boot_tuple (pa_cons (pe_lc (own := [("deeds", 1)]) (g := (gName 1)) (by rfl) scBaseData.nd (pi_list (KX.pe_fldK (K := K) rfl (KX.pe_fldK (K := K) rfl (pv 0) rfl) rfl)) (blkOk_by (own := [("deeds", 1)]) (N := ["self", "deeds"]) (sc := defScope sBaseData) (by decide +kernel)) (fun _ _ _ _ _ => (pg_name (i := 1) scBaseData.nd rfl (Or.inl rfl))) (fun _ _ _ _ _ => pts_nil) (fun _ _ _ _ _ => (pe_callTy (KX.call_tuple_ofK (K := K) rfl) (by rfl) Z.tuple HL.boot_tuple (pa_cons (pv 1) pa_nil)))) pa_nil)) (pa_cons (pe_callTy call_tuple_of (by rfl) Z.tuple HL.boot_tuple (pa_cons (pe_meth0 (pv 0) Z.CBase.cl Z.DBaseCells.m GBaseCells (hr.mono (by omega)) Z.DBaseCells.b .nil pass0) pa_nil)) pa_nil)))))), ?_⟩
    obtain ⟨du, DA, mk, en, drs, kvs, es0, S⟩ := id B.dd
    refine ⟨_, rfl, p, Z.cBase, dx, _, _, rfl, B.hp, Z.CBase.cl, Z.nBase_commits, bflds_commits _ _ _, ?_⟩
    refine ⟨_, rfl, p, Z.cBase, dx, _, _, rfl, B.hp, Z.CBase.cl, Z.nBase_deeds, bflds_deeds _ _ _, dq, Z.cDeeds, du, _, _, rfl, S.hp, Z.CDeeds.cl, Z.nDeeds_rows, dflds_rows _ _ _, DA, rfl, ⟨_, SqL.of S.hr.h⟩, fun D hD => ?_⟩
    refine lc_list (K := K) (xs := drs.map V.ref) (fun i H' => Same H H' ∧ ∃ us, H' D = some (.lst us) ∧ All2 (RowT H') us (((List.range 8).map R).take i)) ⟨same_upd hD, [], upd_same, .nil⟩ (fun j H' _ q => SqL.of (q.1 _ _ S.hr.h)) ?_ ?_
    · rintro i x H1 hx ⟨s1, us, hD1, hus⟩
      obtain ⟨ra, hra, rfl⟩ : ∃ ra, drs[i]? = some ra ∧ x = .ref ra := by
        rw [List.getElem?_map] at hx
        cases e : drs[i]? with
        | none => rw [e] at hx; cases hx
        | some t => rw [e] at hx; cases hx; exact ⟨t, rfl, rfl⟩
      obtain ⟨rus, hru, hrus⟩ := S.hr.r i ra hra
      have hi8 : i < 8 := by have := (List.getElem?_eq_some_iff.mp hra).1; rw [S.hr.n] at this; exact this
      have hul := hus.len
      rw [List.length_take] at hul
      have hR : ((List.range 8).map R)[i]? = some (R i) := by rw [List.getElem?_map, List.getElem?_range hi8]; rfl
      refine ⟨rfl, lc_yes ⟨_, rfl, ra, _, rfl, .inl ⟨SqL.of (s1 _ _ hru), fun t ht => ?_⟩⟩⟩
      have s2 := same_upd (o := .tup rus) ht
      have g2 : upd H1 t (.tup rus) t = some (.tup rus) := upd_same
      show ∃ acc, upd H1 t (.tup rus) D = some (.lst acc) ∧ _
      generalize upd H1 t (.tup rus) = H2 at s2 g2 ⊢
      have hD2 := s2 _ _ hD1
      have kD : TupK H2 (upd H2 D (.lst (us ++ [.ref t]))) := tk_upd fun xs e => by rw [hD2] at e; cases e
      refine ⟨us, hD2, Nat.lt_of_le_of_lt (show us.length ≤ 8 by omega) (by decide), fun y o hy => by rw [upd_ne (ne_of_none hy hD)]; exact s2 _ _ (s1 _ _ hy), us ++ [.ref t], upd_same, ?_⟩
      rw [take_snoc hR]
      exact (hus.mono fun v e h => (h.keep (Same.tk s2)).keep kD).snoc ⟨t, rus, rfl, kD _ _ g2, hrus.mono fun v d h => ((h.keep (Same.tk s1)).keep (Same.tk s2)).keep kD⟩
    · rintro H1 ⟨s1, us, hD1, hus⟩
      rw [List.length_map, S.hr.n] at hus
      have e8 : ((List.range 8).map R).take 8 = (List.range 8).map R := rfl
      rw [e8] at hus
      refine ⟨D, _, rfl, .inl ⟨SqL.of hD1, fun rt hrt => ?_⟩⟩
      have s2 := same_upd (o := .tup us) hrt
      have g2 : upd H1 rt (.tup us) rt = some (.tup us) := upd_same
      generalize upd H1 rt (.tup us) = H2 at s2 g2
      have s02 := Same.tr s1 s2
      have B2 := B0.same s02
      obtain ⟨dx2, dq2, hd2, Nd2, BB2⟩ := id B2
      refine ⟨_, rfl, p, dx2, _, rfl, BB2.hp, bflds_no _ _ _ (by decide +kernel) (by decide +kernel) (by decide +kernel), p, R, hs, n, N, rfl, B2, hl50, fun H3 l cus s3 hl hcs => ?_⟩
      refine ⟨l, _, rfl, .inl ⟨SqL.of hl, fun ct hct => ⟨(by show 3 ≤ sizeLine; decide), fun tt htt => ?_⟩⟩⟩
      have s4 := same_upd (o := .tup cus) hct
      have g4 : upd H3 ct (.tup cus) ct = some (.tup cus) := upd_same
      generalize upd H3 ct (.tup cus) = H4 at *
      have s5 := same_upd (o := .tup [vi n, .ref rt, .ref ct]) htt
      have g5 : upd H4 tt (.tup [vi n, .ref rt, .ref ct]) tt = some (.tup [vi n, .ref rt, .ref ct]) := upd_same
      generalize upd H4 tt (.tup [vi n, .ref rt, .ref ct]) = H5 at *
      have s35 := Same.tr s4 s5
      have s25 := Same.tr s3 s35
      obtain ⟨zs, h1, h2, h3⟩ := hcs
      exact qq H5 _ (Same.tr s02 s25) ⟨tt, rt, ct, us, cus, zs, rfl, g5, s25 _ _ g2, hus.mono fun v r h => h.keep (Same.tk (Same.tr s2 s25)), s5 _ _ g4, h1.mono fun v z h => h.keep (Same.tk s35), h2, h3⟩
end
end Q44
namespace Q44
open PySem PySem.Spec PyProof.Rows L2 SX HL DM
/-! ### hold, take, grown -/
def CellT (H : Hp) (x : V) (c : HC) : Prop := ∃ t, x = .ref t ∧ H t = some (.tup [.str c.1, c.2.1, c.2.2])
theorem CellT.keep {H H' : Hp} {x : V} {c : HC} (h : CellT H x c) (k : TupK H H') : CellT H' x c := by
  obtain ⟨t, e, ht⟩ := h
  exact ⟨t, e, k _ _ ht⟩
def putAll (hs cs : List HC) : List HC := cs.foldl (fun a c => putH a c.1 c.2.1 c.2.2) hs
theorem putAll_snoc {hs cs : List HC} {c : HC} : putAll hs (cs ++ [c]) = putH (putAll hs cs) c.1 c.2.1 c.2.2 := by
  unfold putAll
  rw [List.foldl_append]
  rfl
theorem putH_len {hs : List HC} {nm : Str} {s o : V} : (putH hs nm s o).length ≤ hs.length + 1 := by
  unfold putH
  split
  · rw [List.length_map]; omega
  · rw [List.length_append]; exact Nat.le_refl _
theorem putAll_len {hs : List HC} : ∀ {cs : List HC}, (putAll hs cs).length ≤ hs.length + cs.length := by
  intro cs
  induction cs generalizing hs with
  | nil => exact Nat.le_refl _
  | cons c cs ih =>
    have h1 := ih (hs := putH hs c.1 c.2.1 c.2.2)
    have h2 := putH_len (hs := hs) (nm := c.1) (s := c.2.1) (o := c.2.2)
    show (putAll (putH hs c.1 c.2.1 c.2.2) cs).length ≤ _
    rw [List.length_cons]
    omega
theorem hok_all {H : Hp} : ∀ {cs hs : List HC}, HOk H hs → (∀ c ∈ cs, Tr H 90 c.2.1 ∧ Tr H 90 c.2.2) → hs.length + cs.length ≤ 50 → HOk H (putAll hs cs)
  | [], _, h, _, _ => h
  | c :: cs, hs, h, ht, hl => by
    rw [List.length_cons] at hl
    have h1 := putH_len (hs := hs) (nm := c.1) (s := c.2.1) (o := c.2.2)
    obtain ⟨t1, t2⟩ := ht c (List.mem_cons_self ..)
    exact hok_all (cs := cs) (hs := putH hs c.1 c.2.1 c.2.2) (h.put (nm := c.1) t1 t2 (by omega)) (fun x hx => ht x (List.mem_cons_of_mem _ hx)) (by omega)
abbrev Trip := Nat × Nat × Deed
def TripAt (H : Hp) (x : V) (t : Trip) : Prop := ∃ a dx, x = .ref a ∧ H a = some (.tup [vi t.1, vi t.2.1, dx]) ∧ DeedAt H dx t.2.2
theorem TripAt.keep {H H' : Hp} {x : V} {t : Trip} (h : TripAt H x t) (k : TupK H H') : TripAt H' x t := by
  obtain ⟨a, dx, e, ha, hd⟩ := h
  exact ⟨a, dx, e, k _ _ ha, hd.keep k⟩
def addAll (R : Rows) (ts : List Trip) : Rows := ts.foldl (fun R t => addR R t.1 t.2.2) R
theorem addAll_snoc {R : Rows} {ts : List Trip} {t : Trip} : addAll R (ts ++ [t]) = addR (addAll R ts) t.1 t.2.2 := by
  unfold addAll
  rw [List.foldl_append]
  rfl
def TsOk (ts : List Trip) : Prop := ∀ t ∈ ts, t.1 < 8 ∧ TOk t.2.2
theorem tot_all {R : Rows} : ∀ {ts : List Trip}, TsOk ts → tot (addAll R ts) = tot R + ts.length := by
  intro ts
  induction ts generalizing R with
  | nil => intro _; rfl
  | cons t ts ih =>
    intro h
    have h1 := ih (R := addR R t.1 t.2.2) fun x hx => h x (List.mem_cons_of_mem _ hx)
    have h2 := tot_add (R := R) (r := t.1) (δ := t.2.2) (h t (List.mem_cons_self ..)).1
    show tot (addAll (addR R t.1 t.2.2) ts) = _
    rw [h1, h2, List.length_cons]
    omega
theorem len_tot {R : Rows} {r : Nat} (h : r < 8) : (R r).length ≤ tot R := by
  have : r = 0 ∨ r = 1 ∨ r = 2 ∨ r = 3 ∨ r = 4 ∨ r = 5 ∨ r = 6 ∨ r = 7 := by omega
  unfold tot
  rcases this with h | h | h | h | h | h | h | h <;> subst h <;> omega
theorem fewT_add {R : Rows} {r : Nat} {δ : Deed} (h : ∀ q, q < 8 → ∀ d ∈ R q, TOk d) (hd : TOk δ) : ∀ q, q < 8 → ∀ d ∈ addR R r δ q, TOk d := fun q hq d hm => by
  unfold addR at hm
  split at hm
  · rename_i e
    subst e
    rcases List.mem_append.mp hm with hm | hm
    · exact h q hq d hm
    · rw [List.mem_singleton.mp hm]
      exact hd
  · exact h q hq d hm
theorem fewT_all : ∀ {ts : List Trip} {R : Rows}, (∀ q, q < 8 → ∀ d ∈ R q, TOk d) → TsOk ts → ∀ q, q < 8 → ∀ d ∈ addAll R ts q, TOk d
  | [], _, h, _ => h
  | t :: ts, R, h, ht => fewT_all (R := addR R t.1 t.2.2) (fewT_add h (ht t (List.mem_cons_self ..)).2) fun x hx => ht x (List.mem_cons_of_mem _ hx)
section
variable {cD cB : Addr} {H H' : Hp} {p dx dq hd : Addr} {R : Rows} {hs : List HC} {n : Nat} {Nd N : Addr → Prop}
theorem BSt.addD (B : BSt cD cB H p dx dq hd R hs n Nd N) {r : Nat} {δ : Deed} {Nd' : Addr → Prop} (hr : r < 8) (f : ∀ z o, H z = some o → ¬ Nd z → H' z = some o) (D : DeAt cD H' dq (addR R r δ) (tot R + 1) Nd') (n' : ∀ z, Nd' z → Nd z ∨ H z = none) :
    BSt cD cB H' p dx dq hd (addR R r δ) hs n Nd' (fun z => (N z ∧ ¬ Nd z) ∨ Nd' z) := by
  have k := B.dd.tk f
  have hg : ∀ o, H hd = some o → ¬ Nd' hd := fun o h m => by
    rcases n' hd m with h1 | h1
    · exact B.dh h1
    · rw [h] at h1; cases h1
  obtain ⟨kvs, hk, hr2⟩ := B.he
  refine ⟨f _ _ B.hp B.dp, by rw [tot_add hr]; exact D, B.he.keep k fun o h => f _ _ h B.dh, .inl ⟨B.Np, B.dp⟩, .inl ⟨B.Nh, B.dh⟩, fun z h => .inr h, fun z hz => ?_, hg _ hk, fun m => ?_⟩
  · rcases hz with ⟨hz, h2⟩ | hz
    · obtain ⟨o, h1, h3⟩ := B.nt z hz
      exact ⟨o, f _ _ h1 h2, h3⟩
    · obtain ⟨_, _, _, _, _, _, _, S⟩ := D
      exact S.nt z hz
  · rcases n' p m with h1 | h1
    · exact B.dp h1
    · rw [B.hp] at h1; cases h1
end
section
variable {P : Program} {w : World} {K : PySem.W.Frag} {mg : Str → Option Value} {base : Heap}
def spHold (cD cB : Addr) : Sp := fun vs H Q _ => ∃ (p l : Addr) (us : List V) (cs : List HC) (R : Rows) (hs : List HC) (n : Nat) (N : Addr → Prop), vs = [.ref p, .ref l] ∧ BaseAt cD cB H p R hs n N ∧ H l = some (.lst us) ∧ All2 (CellT H) us cs ∧ ¬ N l ∧ hs.length + cs.length ≤ 50 ∧
  ∀ H', (∀ z o, H z = some o → ¬ N z → H' z = some o) → BaseAt cD cB H' p R (putAll hs cs) n N → Q .non H'
theorem ok_bhold {k : Nat} (Z : Defs K mg) : FnOk P w K mg base CX0 (k + 1) Z.fBaseHold Z.fdBaseHold ["self", "cells"] (spHold Z.cDeeds Z.cBase) := by
  refine Z.DBaseHold.F.ok scBaseHold (fun vs H Q E h => ?_) (fun cdv A outer s H vs Q E hr h => ?_)
  · obtain ⟨p, l, us, cs, R, hs, n, N, rfl, _⟩ := h
    rfl
  · obtain ⟨p, l, us, cs, R, hs, n, N, rfl, B, hl, hus, hNl, h50, qq⟩ := h
    refine ⟨_, (pss_one (ps_for PassesOwn.never rfl (pi_list (pv 1)) (pg_tup rfl (pgs_cons (pg_name (i := 2) scBaseHold.nd rfl (.inl rfl)) (pgs_cons (pg_name (i := 3) scBaseHold.nd rfl (.inl rfl)) (pgs_cons (pg_name (i := 4) scBaseHold.nd rfl (.inl rfl)) pgs_nil)))) (pss_one (ps_dput (hu_of hr) (pe_fld (pv 0) rfl) (pv 2) (pe_tup (pa_cons (pv 3) (pa_cons (pv 4) pa_nil))) rfl)))), ?_⟩
    have hsz : 1000 ≤ sizeLine := by decide
    refine ⟨_, rfl, l, rfl, ⟨_, SqL.of hl⟩, ?_⟩
    refine for_it walk_list (fun i σ H' => ∃ (y2 y3 y4 : Option V), σ = [some (.ref p), some (.ref l), y2, y3, y4] ∧ (∀ z o, H z = some o → ¬ N z → H' z = some o) ∧ BaseAt Z.cDeeds Z.cBase H' p R (putAll hs (cs.take i)) n N)
      ⟨none, none, none, rfl, fun z o h _ => h, by rw [List.take_zero]; exact B⟩ (fun i σ H' _ ⟨_, _, _, _, f, _⟩ => SqL.of (f _ _ hl hNl)) ?_ ?_
    · rintro i x σ H1' H1 hi ⟨y2, y3, y4, rfl, f1, dx, dq, hd, Nd, B1⟩ ⟨rfl, hx⟩
      obtain ⟨c, hc, hxc⟩ := hus.get hx
      obtain ⟨t, rfl, ht⟩ := hxc.keep (B.tk f1)
      have hil := (List.getElem?_eq_some_iff.mp hc).1
      refine ⟨t, _, rfl, SqT.of ht, rfl, _, _, rfl, _, _, rfl, _, _, rfl, rfl, ?_⟩
      refine ⟨_, rfl, _, rfl, (by show 2 ≤ sizeLine; decide), fun tt htt => ?_⟩
      have s2 := same_upd (o := .tup [c.2.1, c.2.2]) htt
      have g2 : upd H1 tt (.tup [c.2.1, c.2.2]) tt = some (.tup [c.2.1, c.2.2]) := upd_same
      generalize upd H1 tt (.tup [c.2.1, c.2.2]) = H2 at s2 g2
      have B2 := B1.same s2
      obtain ⟨kvs, hk, hrel⟩ := B2.he
      have hkl : kvs.length < sizeLine := by
        have h1 := hrel.len
        have h2 := putAll_len (hs := hs) (cs := cs.take i)
        rw [List.length_take] at h2
        omega
      refine ⟨_, rfl, p, Z.cBase, dx, _, _, rfl, B2.hp, Z.CBase.cl, Z.nBase_held, bflds_held _ _ _, _, rfl, hd, _, rfl, .inl ⟨kvs, .inr c.1, hk, rfl, hkl, rfl⟩, ?_⟩
      have k3 : TupK H2 (upd H2 hd (.dK (putK kvs (.inr c.1) (.ref tt)))) := tk_upd fun xs e => by rw [hk] at e; cases e
      have u3 : ∀ z o, H2 z = some o → z ≠ hd → (upd H2 hd (.dK (putK kvs (.inr c.1) (.ref tt)))) z = some o := fun z o h n => by rw [upd_ne n]; exact h
      refine ⟨_, _, _, rfl, fun z o h hn => u3 _ _ (s2 _ _ (f1 _ _ h hn)) fun e => hn (by rw [e]; exact B1.Nh), dx, dq, hd, Nd, ?_⟩
      rw [take_snoc hc, putAll_snoc]
      refine ⟨u3 _ _ B2.hp (fun e => by have := B2.hp; rw [e, hk] at this; cases this), B2.dd.stay (fun z o h m => u3 _ _ h fun e => B2.dh (by rw [← e]; exact m)) k3, ⟨_, upd_same, hrel_put (hrel.mono fun a b r => r.keep k3) (k3 _ _ g2)⟩, B2.Np, B2.Nh, B2.Nu, fun z hz => ?_, B2.dh, B2.dp⟩
      obtain ⟨o, h1, h2⟩ := B2.nt z hz
      by_cases e : z = hd
      · rw [e]
        exact ⟨_, upd_same, fun xs e => by cases e⟩
      · exact ⟨o, u3 _ _ h1 e, h2⟩
    · rintro σ H1 ⟨y2, y3, y4, rfl, f1, B1⟩
      rw [hus.len, List.take_length] at B1
      exact qq H1 f1 B1
def spTake (cD cB : Addr) : Sp := fun vs H Q _ => ∃ (p l1 l2 : Addr) (us1 us2 : List V) (ts : List Trip) (cs : List HC) (R : Rows) (hs : List HC) (n : Nat) (N : Addr → Prop), vs = [.ref p, .ref l1, .ref l2] ∧ BaseAt cD cB H p R hs n N ∧ H l1 = some (.lst us1) ∧ All2 (TripAt H) us1 ts ∧ H l2 = some (.lst us2) ∧ All2 (CellT H) us2 cs ∧ ¬ N l1 ∧ ¬ N l2 ∧ hs.length + cs.length ≤ 50 ∧ TsOk ts ∧ tot R + ts.length ≤ 1000 ∧
  ∀ H' N', (∀ z o, H z = some o → ¬ N z → H' z = some o) → BaseAt cD cB H' p (addAll R ts) (putAll hs cs) (n + 1) N' → (∀ z, N' z → N z ∨ H z = none) → Q .non H'
theorem ok_btake {k : Nat} (Z : Defs K mg) : FnOk P w K mg base CX0 (k + 3) Z.fBaseTake Z.fdBaseTake ["self", "triples", "cells"] (spTake Z.cDeeds Z.cBase) := by
  have GDeedsAdd : FnOk P w K mg base CX0 (k + 2) Z.fDeedsAdd Z.fdDeedsAdd ["self", "replica", "deed"] (spAdd Z.cDeeds) := ok_add Z
  have GBaseHold : FnOk P w K mg base CX0 (k + 1) Z.fBaseHold Z.fdBaseHold ["self", "cells"] (spHold Z.cDeeds Z.cBase) := ok_bhold Z
  refine Z.DBaseTake.F.ok scBaseTake (fun vs H Q E h => ?_) (fun cdv A outer s H vs Q E hr h => ?_)
  · obtain ⟨p, l1, l2, us1, us2, ts, cs, R, hs, n, N, rfl, _⟩ := h
    rfl
  · obtain ⟨p, l1, l2, us1, us2, ts, cs, R, hs, n, N, rfl, ⟨dx, dq, hd, Nd, B⟩, h1, hu1, h2, hu2, n1, n2, h50, hts, htot, qq⟩ := h
    refine ⟨_, (pss_cons (ps_fldaug (pv 0) pe_int in_add)
        (pss_cons (ps_for PassesOwn.never rfl (pi_list (pv 1)) (pg_tup rfl (pgs_cons (pg_name (i := 3) scBaseTake.nd rfl (.inl rfl)) (pgs_cons (pg_name (i := 4) scBaseTake.nd rfl (.inl rfl)) (pgs_cons (pg_name (i := 5) scBaseTake.nd rfl (.inl rfl)) pgs_nil)))) (pss_one (ps_expr (pe_meth (pe_fld (pv 0) rfl) Z.CDeeds.cl Z.DDeedsAdd.m GDeedsAdd (hr.mono (by omega)) Z.DDeedsAdd.b .nil pass0 (pa_cons (pv 3) (pa_cons (pv 5) pa_nil))))))
        (pss_one (ps_expr (pe_meth (pv 0) Z.CBase.cl Z.DBaseHold.m GBaseHold (hr.mono (by omega)) Z.DBaseHold.b .nil pass0 (pa_cons (pv 2) pa_nil)))))), ?_⟩
    refine ⟨_, rfl, p, Z.cBase, dx, _, _, rfl, B.hp, Z.CBase.cl, Z.nBase_commits, bflds_commits _ _ _, _, 1, rfl, rfl, dx, _, B.hp, (by show 3 < 1000; decide), ?_⟩
    rw [putF_commits]
    have en : V.int ((n : Int) + 1) = vi (n + 1) := congrArg V.int (by omega)
    rw [en]
    have k1 : TupK H (upd H p (.ins Z.cBase dx (bflds (vi (n + 1)) dq hd))) := tk_upd fun xs e => by rw [B.hp] at e; cases e
    have u1 : ∀ z o, H z = some o → z ≠ p → (upd H p (.ins Z.cBase dx (bflds (vi (n + 1)) dq hd))) z = some o := fun z o h m => by rw [upd_ne m]; exact h
    have B1 : BSt Z.cDeeds Z.cBase (upd H p (.ins Z.cBase dx (bflds (vi (n + 1)) dq hd))) p dx dq hd R hs (n + 1) Nd N := by
      refine ⟨upd_same, B.dd.stay (fun z o h m => u1 _ _ h fun e => B.dp (by rw [← e]; exact m)) k1, ?_, B.Np, B.Nh, B.Nu, fun z hz => ?_, B.dh, B.dp⟩
      · exact B.he.keep k1 fun o h => u1 _ _ h fun e => by
          obtain ⟨kvs, hk, _⟩ := B.he
          rw [e, B.hp] at hk
          cases hk
      · obtain ⟨o, e1, e2⟩ := B.nt z hz
        by_cases e : z = p
        · rw [e]; exact ⟨_, upd_same, fun xs e => by cases e⟩
        · exact ⟨o, u1 _ _ e1 e, e2⟩
    have f1 : ∀ z o, H z = some o → ¬ N z → (upd H p (.ins Z.cBase dx (bflds (vi (n + 1)) dq hd))) z = some o := fun z o h m => u1 _ _ h fun e => m (by rw [e]; exact B.Np)
    have f1n : ∀ z, (upd H p (.ins Z.cBase dx (bflds (vi (n + 1)) dq hd))) z = none → H z = none := fun z h => by
      by_cases e : z = p
      · rw [e, upd_same] at h; cases h
      · rw [upd_ne e] at h; exact h
    generalize upd H p (.ins Z.cBase dx (bflds (vi (n + 1)) dq hd)) = H1 at B1 f1 f1n k1
    clear u1
    have h11 := f1 _ _ h1 n1
    have hu11 := hu1.mono fun v e h => h.keep k1
    refine ⟨_, rfl, l1, rfl, ⟨_, SqL.of h11⟩, ?_⟩
    refine for_it walk_list (fun i σ H' => ∃ (y3 y4 y5 : Option V) (Nd' N' : Addr → Prop), σ = [some (.ref p), some (.ref l1), some (.ref l2), y3, y4, y5] ∧ (∀ z o, H z = some o → ¬ N z → H' z = some o) ∧ BSt Z.cDeeds Z.cBase H' p dx dq hd (addAll R (ts.take i)) hs (n + 1) Nd' N' ∧ (∀ z, N' z → N z ∨ H z = none))
      ⟨none, none, none, Nd, N, rfl, f1, B1, fun z h => .inl h⟩ (fun i σ H' _ ⟨_, _, _, _, _, _, f, _⟩ => SqL.of (f _ _ h1 n1)) ?_ ?_
    · rintro i x σ H2' H2 hi ⟨y3, y4, y5, Nd2, N2, rfl, f2, B2, m2⟩ ⟨rfl, hx⟩
      obtain ⟨t, ht, hxt⟩ := hu1.get hx
      obtain ⟨ta, ddx, rfl, hta, hdx⟩ := hxt.keep (B.tk f2)
      obtain ⟨hr8, hok⟩ := hts t (List.mem_of_getElem? ht)
      have hil := (List.getElem?_eq_some_iff.mp ht).1
      have htk : tot (addAll R (ts.take i)) ≤ 1000 := by
        rw [tot_all fun x hx => hts x (List.mem_of_mem_take hx), List.length_take]
        omega
      refine ⟨ta, _, rfl, SqT.of hta, rfl, _, _, rfl, _, _, rfl, _, _, rfl, rfl, ?_⟩
      obtain ⟨du, DA, mk, en, drs, kvs, es0, S2⟩ := id B2.dd
      refine ⟨_, rfl, p, Z.cBase, dx, _, _, rfl, B2.hp, Z.CBase.cl, Z.nBase_deeds, bflds_deeds _ _ _, dq, du, _, rfl, S2.hp, dflds_no _ _ _ (by decide +kernel) (by decide +kernel) (by decide +kernel), _, rfl, _, rfl, dq, t.1, addAll R (ts.take i), _, Nd2, ddx, t.2.2, rfl, B2.dd, hdx, hok, hr8, htk, fun H3 Nd3 f3 D3 m3 => ?_⟩
      have B3 := B2.addD hr8 f3 D3 m3
      refine ⟨_, _, _, Nd3, _, rfl, fun z o h hn => f3 _ _ (f2 _ _ h hn) fun hd2 => ?_, by rw [take_snoc ht, addAll_snoc]; exact B3, fun z hz => ?_⟩
      · rcases m2 z (B2.Nu z hd2) with h3 | h3
        · exact hn h3
        · rw [h] at h3; cases h3
      · rcases hz with ⟨hz, _⟩ | hz
        · exact m2 z hz
        · rcases m3 z hz with h3 | h3
          · exact m2 z (B2.Nu z h3)
          · by_cases hN : N z
            · exact .inl hN
            · refine .inr ?_
              cases e : H z with
              | none => rfl
              | some o => rw [f2 _ _ e hN] at h3; cases h3
    · rintro σ H2 ⟨y3, y4, y5, Nd2, N2, rfl, f2, B2, m2⟩
      rw [hu1.len, List.take_length] at B2
      have h22 := f2 _ _ h2 n2
      have hu22 := hu2.mono fun v e h => h.keep (B.tk f2)
      have n22 : ¬ N2 l2 := fun h => by
        rcases m2 l2 h with h3 | h3
        · exact n2 h3
        · rw [h2] at h3; cases h3
      refine ⟨_, rfl, p, dx, _, rfl, B2.hp, bflds_no _ _ _ (by decide +kernel) (by decide +kernel) (by decide +kernel), _, rfl, p, l2, us2, cs, addAll R ts, hs, n + 1, N2, rfl, ⟨dx, dq, hd, Nd2, B2⟩, h22, hu22, n22, h50, fun H3 f3 B3 => ?_⟩
      refine qq H3 N2 (fun z o h hn => f3 _ _ (f2 _ _ h hn) fun h3 => ?_) B3 m2
      rcases m2 z h3 with h4 | h4
      · exact hn h4
      · rw [h] at h4; cases h4
def spGrown (cD cB : Addr) : Sp := fun vs H Q _ => ∃ (p l1 l2 : Addr) (us1 us2 : List V) (ts : List Trip) (cs : List HC) (R : Rows) (hs : List HC) (n : Nat) (N : Addr → Prop), vs = [.ref p, .ref l1, .ref l2] ∧ BaseAt cD cB H p R hs n N ∧ H l1 = some (.lst us1) ∧ All2 (TripAt H) us1 ts ∧ H l2 = some (.lst us2) ∧ All2 (CellT H) us2 cs ∧ hs.length + cs.length ≤ 50 ∧ TsOk ts ∧ tot R + ts.length ≤ 1000 ∧ FewT R ∧
  ∀ H' q N', Same H H' → BaseAt cD cB H' q (addAll R ts) (putAll hs cs) (n + 1) N' → (∀ z, N' z → H z = none) → Q (.ref q) H'
theorem ok_bgrown {k : Nat} (Z : Defs K mg) : FnOk P w K mg base CX0 (k + 6) Z.fBaseGrown Z.fdBaseGrown ["self", "triples", "cells"] (spGrown Z.cDeeds Z.cBase) := by
  have GBaseCopy : FnOk P w K mg base CX0 (k + 5) Z.fBaseCopy Z.fdBaseCopy ["self"] (spBCopy Z.cDeeds Z.cBase) := ok_bcopy Z
  have GBaseTake : FnOk P w K mg base CX0 (k + 3) Z.fBaseTake Z.fdBaseTake ["self", "triples", "cells"] (spTake Z.cDeeds Z.cBase) := ok_btake Z
  refine Z.DBaseGrown.F.ok scBaseGrown (fun vs H Q E h => ?_) (fun cdv A outer s H vs Q E hr h => ?_)
  · obtain ⟨p, l1, l2, us1, us2, ts, cs, R, hs, n, N, rfl, _⟩ := h
    rfl
  · obtain ⟨p, l1, l2, us1, us2, ts, cs, R, hs, n, N, rfl, B, h1, hu1, h2, hu2, h50, hts, htot, hF, qq⟩ := h
    refine ⟨_, (pss_cons (ps_set (i := 3) scBaseGrown.nd rfl (.inl rfl) (pe_meth0 (pv 0) Z.CBase.cl Z.DBaseCopy.m GBaseCopy (hr.mono (by omega)) Z.DBaseCopy.b .nil pass0))
        (pss_cons (ps_expr (pe_meth (pv 3) Z.CBase.cl Z.DBaseTake.m GBaseTake (hr.mono (by omega)) Z.DBaseTake.b .nil pass0 (pa_cons (pv 1) (pa_cons (pv 2) pa_nil))))
        (pss_one (ps_ret (pv 3))))), ?_⟩
    obtain ⟨dx, dq, hd, Nd, BB⟩ := id B
    refine ⟨_, rfl, p, dx, _, rfl, BB.hp, bflds_no _ _ _ (by decide +kernel) (by decide +kernel) (by decide +kernel), p, R, hs, n, N, rfl, B, by omega, hF, fun H1 q N1 s1 B1 m1 => ?_⟩
    obtain ⟨qx, dq1, hd1, Nd1, BB1⟩ := id B1
    refine ⟨_, rfl, q, qx, _, rfl, BB1.hp, bflds_no _ _ _ (by decide +kernel) (by decide +kernel) (by decide +kernel), _, rfl, _, rfl, q, l1, l2, us1, us2, ts, cs, R, hs, n, N1, rfl, B1, s1 _ _ h1, hu1.mono (fun v e h => h.keep (Same.tk s1)), s1 _ _ h2, hu2.mono (fun v e h => h.keep (Same.tk s1)), (fun h => by rw [m1 _ h] at h1; cases h1), (fun h => by rw [m1 _ h] at h2; cases h2), h50, hts, htot, fun H2 N2 f2 B2 m2 => ?_⟩
    refine ⟨_, rfl, qq H2 q N2 (fun z o h => f2 _ _ (s1 _ _ h) fun hn => by rw [m1 z hn] at h; cases h) B2 fun z hz => ?_⟩
    rcases m2 z hz with h3 | h3
    · exact m1 z h3
    · exact Same.none s1 h3
end
end Q44
namespace Q44
open PySem PySem.Spec PyProof.Rows L2 SX HL DM
section
variable {P : Program} {w : World} {K : PySem.W.Frag} {mg : Str → Option Value} {base : Heap}
/-! ### _law_spoil, _law_base_data, _law_is_dict -/
def spSpoil (cD cB : Addr) : Sp := fun vs H Q _ => ∃ (p : Addr) (R : Rows) (hs : List HC) (n : Nat) (N : Addr → Prop), vs = [.ref p] ∧ BaseAt cD cB H p R hs n N ∧ tot R ≤ 1000 ∧ hs.length ≤ 50 ∧
  ∀ H', (∀ z o, H z = some o → ¬ N z → H' z = some o) → Q .non H'
theorem ok_spoil {k : Nat} (Z : Defs K mg) : FnOk P w K mg base CX0 (k + 3) Z.fLawSpoil Z.fdLawSpoil ["base"] (spSpoil Z.cDeeds Z.cBase) := by
  have GDeedsAdd : FnOk P w K mg base CX0 (k + 2) Z.fDeedsAdd Z.fdDeedsAdd ["self", "replica", "deed"] (spAdd Z.cDeeds) := ok_add Z
  refine Z.DLawSpoil.F.ok scLawSpoil (fun vs H Q E h => ?_) (fun cdv A outer s H vs Q E hr h => ?_)
  · obtain ⟨p, R, hs, n, N, rfl, _⟩ := h
    rfl
  · obtain ⟨p, R, hs, n, N, rfl, ⟨dx, dq, hd, Nd, B⟩, htot, h50, qq⟩ := h
    refine ⟨_, (pss_cons (ps_expr (pe_meth (pe_fld (pv 0) rfl) Z.CDeeds.cl Z.DDeedsAdd.m GDeedsAdd (hr.mono (by omega)) Z.DDeedsAdd.b .nil pass0 (pa_cons pe_int (pa_cons (pe_tup (pa_cons pe_str (pa_cons pe_int pa_nil))) pa_nil))))
        (pss_cons (ps_set (i := 1) scLawSpoil.nd rfl (.inl rfl) (pe_fld (pv 0) rfl))
        (pss_one (ps_dput (hu_of hr) (pv 1) pe_str (pe_tup (pa_cons (pe_tup (pa_cons pe_int (pa_cons pe_str pa_nil))) (pa_cons (pe_tup (pa_cons pe_str (pa_cons pe_int pa_nil))) pa_nil))) rfl)))), ?_⟩
    have hsz : 1000 ≤ sizeLine := by decide
    obtain ⟨du, DA, mk, en, drs, kvs, es0, S⟩ := id B.dd
    refine ⟨_, rfl, p, Z.cBase, dx, _, _, rfl, B.hp, Z.CBase.cl, Z.nBase_deeds, bflds_deeds _ _ _, dq, du, _, rfl, S.hp, dflds_no _ _ _ (by decide +kernel) (by decide +kernel) (by decide +kernel), (by show 2 ≤ sizeLine; decide), fun t ht => ?_⟩
    have s1 := same_upd (o := .tup [.str "back", .int 1]) ht
    have g1 : upd H t (.tup [.str "back", .int 1]) t = some (.tup [.str "back", .int 1]) := upd_same
    generalize upd H t (.tup [.str "back", .int 1]) = H1 at s1 g1
    have B1 := B.same s1
    refine ⟨dq, 3, R, tot R, Nd, .ref t, .back 1, rfl, B1.dd, ⟨t, rfl, g1⟩, (fun _ _ _ _ _ e => by cases e), by decide, htot, fun H2 Nd2 f2 D2 m2 => ?_⟩
    have B2 := B1.addD (by decide : 3 < 8) f2 D2 m2
    have f02 : ∀ z o, H z = some o → ¬ N z → H2 z = some o := fun z o h hn => f2 _ _ (s1 _ _ h) fun hd => hn (B.Nu z hd)
    refine ⟨_, rfl, p, Z.cBase, dx, _, _, rfl, B2.hp, Z.CBase.cl, Z.nBase_held, bflds_held _ _ _, ?_⟩
    refine ⟨(by show 2 ≤ sizeLine; decide), fun t1 ht1 => ⟨(by show 2 ≤ sizeLine; decide), fun t2 ht2 => ⟨(by show 2 ≤ sizeLine; decide), fun t3 ht3 => ?_⟩⟩⟩
    have s3 := same_upd (o := .tup [.int 0, .str "num"]) ht1
    generalize upd H2 t1 (.tup [.int 0, .str "num"]) = H3 at *
    have s4 := same_upd (o := .tup [.str "value", .int 1]) ht2
    generalize upd H3 t2 (.tup [.str "value", .int 1]) = H4 at *
    have s5 := same_upd (o := .tup [.ref t1, .ref t2]) ht3
    generalize upd H4 t3 (.tup [.ref t1, .ref t2]) = H5 at *
    have s25 := Same.tr s3 (Same.tr s4 s5)
    obtain ⟨kvs, hk, hrel⟩ := (B2.same s25).he
    have hl := hrel.len
    refine ⟨_, rfl, hd, _, rfl, .inl ⟨kvs, .inr "zz", hk, rfl, by omega, rfl⟩, ?_⟩
    refine qq _ fun z o h hn => ?_
    rw [upd_ne fun e => hn (by rw [e]; exact B.Nh)]
    exact s25 _ _ (f02 _ _ h hn)
theorem nodup_inj : ∀ {hs : List HC}, (hs.map (·.1)).Nodup → ∀ {x y : HC}, x ∈ hs → y ∈ hs → x.1 = y.1 → x = y
  | [], _, x, _, h, _, _ => by cases h
  | h :: hs, nd, x, y, hx, hy, e => by
    obtain ⟨n1, n2⟩ := List.nodup_cons.mp nd
    rcases List.mem_cons.mp hx with rfl | hx'
    · rcases List.mem_cons.mp hy with rfl | hy'
      · rfl
      · exact (n1 (List.mem_map.mpr ⟨y, hy', e.symm⟩)).elim
    · rcases List.mem_cons.mp hy with rfl | hy'
      · exact (n1 (List.mem_map.mpr ⟨x, hx', e⟩)).elim
      · exact nodup_inj n2 hx' hy' e
def spIsDict : Sp := fun vs H Q _ => ∃ (a b : Addr) (hs : List HC), vs = [.ref a, .ref b] ∧ a ≠ b ∧ HeldAt H a hs ∧ HeldAt H b hs ∧ HOk H hs ∧ ∀ H', Same H H' → Q (.bl true) H'
theorem ok_isDict (Z : Defs K mg) : FnOk P w K mg base CX0 98 Z.fLawIsDict Z.fdLawIsDict ["actual", "expected"] spIsDict := by
  have GLawSame : FnOk P w K mg base CX0 97 Z.fLawSame Z.fdLawSame ["actual", "expected"] (spSameG K 95) := ok_same Z 95
  refine Z.DLawIsDict.F.ok scLawIsDict (fun vs H Q E h => ?_) (fun cdv A outer s H vs Q E hr h => ?_)
  · obtain ⟨a, b, hs, rfl, _⟩ := h
    rfl
  · obtain ⟨a, b, hs, rfl, ne, ⟨ka, ha, ra⟩, ⟨kb, hb, rb⟩, hk, qq⟩ := h
    refine ⟨_, (pss_cons (ps_if (PW.pt (pw_or (pt_not (pt_val (pe_callB call_isB (by rfl) Z.isinstance HL.boot_isinstance (pa_cons (pv 0) (pa_cons (pe_bltn (v := .ty "dict") (by rfl) Z.dict HL.boot_dict rfl) pa_nil))))) (pw_or1 (pt_cmpR op_ne (pe_callB call_lenD (by rfl) Z.len PySem.boot_len (pa_cons (pv 0) pa_nil)) (pe_callB call_lenD (by rfl) Z.len PySem.boot_len (pa_cons (pv 1) pa_nil)) (nomark _))))) (pss_one (ps_ret pe_bl)) pss_nil)
        (pss_cons (ps_lock (ps_for PassesOwn.never rfl (pi_keys (pv 1)) (pg_name (i := 2) scLawIsDict.nd rfl (.inl rfl)) (pss_one (ps_if (PW.pt (pw_or (pt_cmp (pc_dnotin (hu_of hr) (pv 2) (pv 0))) (pw_or1 (pt_not (pt_val (pe_call GLawSame (hr.mono (by omega)) (by rfl) Z.DLawSame.g Z.DLawSame.F.kp Z.DLawSame.b .nil pass0 (pa_cons (pe_dget (hu_of hr) (pv 0) (pv 2) (fun _ _ => rfl)) (pa_cons (pe_dget (hu_of hr) (pv 1) (pv 2) (fun _ _ => rfl)) pa_nil)))))))) (pss_one (ps_ret pe_bl)) pss_nil))))
        (pss_one (ps_ret pe_bl)))), ?_⟩
    have hl : ka.length = kb.length := by rw [ra.len, rb.len]
    refine ⟨_, rfl, _, "dict", "dict", true, rfl, .base (.dK ha), by decide +kernel, true, rfl, iteF ?_⟩
    refine ⟨_, rfl, a, ka, rfl, ha, _, rfl, b, kb, rfl, hb, rfl, _, rfl, iteNS (by rw [hl]) ?_⟩
    refine ⟨b, _, hb, True.intro, fun od => ⟨_, rfl, b, od, rfl, .inl ⟨kb, upd_same, ?_⟩⟩⟩
    have e1 : upd H b (.frz od (.dK kb)) a = some (.dK ka) := by rw [upd_ne ne]; exact ha
    have kl : TupK H (upd H b (.frz od (.dK kb))) := tk_upd fun xs e => by rw [hb] at e; cases e
    refine for_it walk_keys (fun i σ H' => Same (upd H b (.frz od (.dK kb))) H' ∧ ∃ y, σ = [some (.ref a), some (.ref b), y]) ⟨fun _ _ z => z, none, rfl⟩ (fun i σ H' _ p => p.1 _ _ upd_same) ?_ ?_
    · rintro i x σ H' H2 hi ⟨sm, y, rfl⟩ ⟨rfl, k, v, hkv, rfl⟩
      obtain ⟨h, hh, hr1, t2, rfl, ht2⟩ := rb.get hkv
      obtain ⟨kva, hka, hr2, t1, ev1, ht1⟩ := ra.getR hh
      have hm := List.mem_of_getElem? hh
      obtain ⟨q1, q2⟩ := hk.tr _ hm
      obtain rfl : k = .inr h.1 := hr1
      have gk : lkH hs h.1 = some (h.2.1, h.2.2) := by
        obtain ⟨s, o, e, hm2⟩ := lkH_mem (hs := hs) (nm := h.1) (List.mem_map_of_mem hm)
        have e3 : (h.1, s, o) = h := by
          exact nodup_inj hk.nd hm2 hm rfl
        rw [e, ← e3]
      obtain ⟨u1, hv1, hu1⟩ := (hrel_get (nm := h.1) ra).1 _ _ gk
      obtain ⟨u2, hv2, hu2⟩ := (hrel_get (nm := h.1) rb).1 _ _ gk
      have g1 := sm _ _ e1
      have g2 := sm _ _ upd_same
      have k' : TupK H H2 := kl.trans (Same.tk sm)
      refine ⟨_, rfl, _, rfl, a, some (.ref u1), rfl, by rw [← hv1]; exact DGet.k g1, _, rfl, iteF ?_⟩
      refine ⟨_, rfl, _, rfl, a, .ref u1, rfl, by rw [← hv1]; exact DGet.k g1, _, rfl, _, rfl, b, .ref u2, rfl, by rw [← hv2]; exact .inl ⟨kb, .inr h.1, .inr ⟨od, g2⟩, rfl, rfl⟩, .ref u1, .ref u2, rfl, ?_, fun H3 s3 => ⟨true, rfl, iteF ⟨Same.tr sm s3, _, rfl⟩⟩⟩
      refine .seq (.tup (k' _ _ hu1)) (.tup (k' _ _ hu2)) rfl (by show 2 ≤ 1000000; decide) fun i u v hu hv => ?_
      match i, hu, hv with
      | 0, hu, hv => cases hu; cases hv; exact ((q1.keep k').mono (by decide)).same
      | 1, hu, hv => cases hu; cases hv; exact ((q2.keep k').mono (by decide)).same
      | i + 2, hu, _ => cases hu
    · rintro σ H' ⟨sm, y, rfl⟩
      exact ⟨sm _ _ upd_same, qq _ (unlock hb sm)⟩
end
end Q44
namespace Q44
open PySem PySem.Spec PyProof.Rows L2 SX HL DM
section
variable {P : Program} {w : World} {K : PySem.W.Frag} {mg : Str → Option Value} {base : Heap}
/-! ### _law_base_data, _law_group, _law_grown -/
def spLData : Sp := fun vs H Q _ => ∃ (A ha : Addr) (rs : List Addr) (R : Rows) (hs : List HC) (n : Nat), vs = [.ref A, .ref ha, vi n] ∧ RowsAt H A rs R ∧ HeldAt H ha hs ∧ hs.length ≤ 50 ∧
  ∀ H' x, Same H H' → DataAt H' x R hs n → Q x H'
theorem ok_ldata {k : Nat} (Z : Defs K mg) : FnOk P w K mg base CX0 (k + 1) Z.fLawBaseData Z.fdLawBaseData ["rows", "held", "commits"] spLData := by
  refine Z.DLawBaseData.F.ok scLawBaseData (fun vs H Q E h => ?_) (fun cdv A outer s H vs Q E hr h => ?_)
  · obtain ⟨A, ha, rs, R, hs, n, rfl, _⟩ := h
    rfl
  · obtain ⟨A0, ha, rs, R, hs, n, rfl, hR, ⟨kv, hkv, hrel⟩, hl50, qq⟩ := h
    refine ⟨_, (pss_cons (ps_set (i := 3) scLawBaseData.nd rfl (.inl rfl) (pe_callTy call_tuple_of (by rfl) Z.tuple HL.boot_tuple (pa_cons (pe_lc (own := [("name", 4)]) (g := (gName 4)) (by rfl) scLawBaseData.nd (pi_list (pe_callB cr_sortedS (by rfl) Z.sorted (by decide +kernel) (pa_cons (pe_callTy (call_listD rfl) (by rfl) Z.list HL.boot_list (pa_cons (pv 1) pa_nil)) pa_nil))) (blkOk_by (own := [("name", 4)]) (N := ["rows", "held", "commits", "cells", "name", "row"]) (sc := defScope sLawBaseData) (by decide +kernel)) (fun _ _ _ _ _ => (pg_name (i := 4) scLawBaseData.nd rfl (Or.inl rfl))) (fun _ _ _ _ _ => pts_nil) (fun _ _ _ _ _ => (pe_op (KX.op_catTK (K := K) rfl) (pe_tup (pa_cons (pv 4) pa_nil)) (pe_dget (hu_of hr) (pv 1) (pv 4) (fun _ _ => rfl))))) pa_nil)))
        (pss_one (ps_ret (pe_tup (pa_cons (pv 2) (pa_cons (pe_callTy call_tuple_of (by rfl) Z.tuple HL.boot_tuple (pa_cons (pe_lc (own := [("row", 5)]) (g := (gName 5)) (by rfl) scLawBaseData.nd (pi_list (pv 0)) (blkOk_by (own := [("row", 5)]) (N := ["rows", "held", "commits", "cells", "name", "row"]) (sc := defScope sLawBaseData) (by decide +kernel)) (fun _ _ _ _ _ => (pg_name (i := 5) scLawBaseData.nd rfl (Or.inl rfl))) (fun _ _ _ _ _ => pts_nil) (fun _ _ _ _ _ => (pe_callTy (KX.call_tuple_ofK (K := K) rfl) (by rfl) Z.tuple HL.boot_tuple (pa_cons (pv 5) pa_nil)))) pa_nil)) (pa_cons (pv 3) pa_nil))))))), ?_⟩
    have hsz : 1000000 ≤ sizeLine := by decide
    have ek : (kv.map fun kv => kV kv.1) = (hs.map (·.1)).map V.str := by
      have h1 := hrel_keys hrel
      have h2 : (kv.map fun kv => kV kv.1) = (kv.map (·.1)).map kV := by rw [List.map_map]; rfl
      rw [h2, h1, List.map_map]
      rfl
    refine ⟨_, rfl, ha, kv, rfl, .inl hkv, fun kl hkl => ?_⟩
    rw [ek]
    have s0 : Same H (upd H kl (.lst ((hs.map (·.1)).map V.str))) := same_upd hkl
    have g0 : upd H kl (.lst ((hs.map (·.1)).map V.str)) kl = some (.lst ((hs.map (·.1)).map V.str)) := upd_same
    generalize upd H kl (.lst ((hs.map (·.1)).map V.str)) = H0 at s0 g0
    refine ⟨kl, hs.map (·.1), rfl, SqL.of g0, by rw [List.length_map]; omega, fun zs sl hperm hsort hsl => ?_⟩
    have s1' : Same H0 (upd H0 sl (.lst (zs.map V.str))) := same_upd hsl
    have g1 : upd H0 sl (.lst (zs.map V.str)) sl = some (.lst (zs.map V.str)) := upd_same
    generalize upd H0 sl (.lst (zs.map V.str)) = H1 at s1' g1
    have s1 := Same.tr s0 s1'
    have hzl : zs.length ≤ 50 := by rw [hperm.length_eq, List.length_map]; exact hl50
    refine ⟨sl, rfl, ⟨_, SqL.of g1⟩, fun D hD => ?_⟩
    refine lc_list (K := K) (xs := zs.map V.str) (fun i H' => Same H1 H' ∧ ∃ us, H' D = some (.lst us) ∧ All2 (CellP hs H') us (zs.take i)) ⟨same_upd hD, [], upd_same, .nil⟩ (fun i H' _ q => SqL.of (q.1 _ _ g1)) ?_ ?_
    · rintro i x H2 hx ⟨s2, us, hD2, hus⟩
      obtain ⟨z, hz, rfl⟩ : ∃ z, zs[i]? = some z ∧ .str z = x := by
        rw [List.getElem?_map] at hx
        cases e : zs[i]? with
        | none => rw [e] at hx; cases hx
        | some m => rw [e] at hx; exact ⟨m, rfl, Option.some.inj hx⟩
      have hil : i < zs.length := (List.getElem?_eq_some_iff.mp hz).1
      have hul := hus.len
      rw [List.length_take] at hul
      have hzm : z ∈ hs.map (·.1) := hperm.mem_iff.mp (List.mem_of_getElem? hz)
      obtain ⟨s, o, hlk, _⟩ := lkH_mem hzm
      obtain ⟨t, hv, ht⟩ := (hrel_get (nm := z) hrel).1 s o hlk
      have s02 := Same.tr s1 s2
      refine ⟨rfl, lc_yes ⟨_, rfl, (by show 1 ≤ sizeLine; decide), fun t1 ht1 => ?_⟩⟩
      have s3 := same_upd (o := .tup [.str z]) ht1
      have g3 : upd H2 t1 (.tup [.str z]) t1 = some (.tup [.str z]) := upd_same
      generalize upd H2 t1 (.tup [.str z]) = H3 at s3 g3 ⊢
      have s03 := Same.tr s02 s3
      have hg : DGet H3 ha (.str z) (some (.ref t)) := .inl ⟨kv, .inr z, .inl (s03 _ _ hkv), rfl, hv.symm⟩
      refine ⟨_, rfl, _, rfl, ha, .ref t, rfl, hg, t1, t, _, _, rfl, rfl, SqT.of g3, SqT.of (s03 _ _ ht), (fun e => by cases e), (by show 3 ≤ sizeLine; decide), (fun e => by cases e), fun _ tt htt => ?_⟩
      have s4 := same_upd (o := .tup [.str z, s, o]) htt
      have g4 : upd H3 tt (.tup [.str z, s, o]) tt = some (.tup [.str z, s, o]) := upd_same
      show ∃ acc, upd H3 tt (.tup ([.str z] ++ [s, o])) D = some (.lst acc) ∧ _
      rw [show ([V.str z] ++ [s, o]) = [V.str z, s, o] from rfl]
      generalize upd H3 tt (.tup [.str z, s, o]) = H4 at s4 g4 ⊢
      have s24 := Same.tr s3 s4
      have hD4 := s24 _ _ hD2
      have kD : TupK H4 (upd H4 D (.lst (us ++ [.ref tt]))) := tk_upd fun xs e => by rw [hD4] at e; cases e
      refine ⟨us, hD4, by omega, fun y o hy => by rw [upd_ne (ne_of_none hy hD)]; exact s24 _ _ (s2 _ _ hy), us ++ [.ref tt], upd_same, ?_⟩
      rw [take_snoc hz]
      exact (hus.mono fun v e h => (h.keep (Same.tk s24)).keep kD).snoc ⟨tt, s, o, rfl, kD _ _ g4, hlk⟩
    · rintro H2 ⟨s2, cus, hD2, hcus⟩
      rw [List.length_map, List.take_length] at hcus
      have s02 := Same.tr s1 s2
      refine ⟨D, _, rfl, .inl ⟨SqL.of hD2, fun ct hct => ?_⟩⟩
      have s3 := same_upd (o := .tup cus) hct
      have g3 : upd H2 ct (.tup cus) ct = some (.tup cus) := upd_same
      generalize upd H2 ct (.tup cus) = H3 at s3 g3
      have s03 := Same.tr s02 s3
      have hc3 := hcus.mono fun v z h => h.keep (Same.tk s3)
      have R3 := hR.keep s03
      refine ⟨_, rfl, _, rfl, A0, rfl, ⟨_, SqL.of R3.h⟩, fun E2 hE => ?_⟩
      refine lc_list (K := K) (xs := rs.map V.ref) (fun i H' => Same H3 H' ∧ ∃ us, H' E2 = some (.lst us) ∧ All2 (RowT H') us (((List.range 8).map R).take i)) ⟨same_upd hE, [], upd_same, .nil⟩ (fun j H' _ q => SqL.of (q.1 _ _ R3.h)) ?_ ?_
      · rintro i x H4 hx ⟨s4, us, hD4, hus⟩
        obtain ⟨ra, hra, rfl⟩ : ∃ ra, rs[i]? = some ra ∧ x = .ref ra := by
          rw [List.getElem?_map] at hx
          cases e : rs[i]? with
          | none => rw [e] at hx; cases hx
          | some t => rw [e] at hx; cases hx; exact ⟨t, rfl, rfl⟩
        obtain ⟨rus, hru, hrus⟩ := R3.r i ra hra
        have hi8 : i < 8 := by have := (List.getElem?_eq_some_iff.mp hra).1; rw [R3.n] at this; exact this
        have hul := hus.len
        rw [List.length_take] at hul
        have hRi : ((List.range 8).map R)[i]? = some (R i) := by rw [List.getElem?_map, List.getElem?_range hi8]; rfl
        refine ⟨rfl, lc_yes ⟨_, rfl, ra, _, rfl, .inl ⟨SqL.of (s4 _ _ hru), fun t ht => ?_⟩⟩⟩
        have s5 := same_upd (o := .tup rus) ht
        have g5 : upd H4 t (.tup rus) t = some (.tup rus) := upd_same
        show ∃ acc, upd H4 t (.tup rus) E2 = some (.lst acc) ∧ _
        generalize upd H4 t (.tup rus) = H5 at s5 g5 ⊢
        have hD5 := s5 _ _ hD4
        have kD : TupK H5 (upd H5 E2 (.lst (us ++ [.ref t]))) := tk_upd fun xs e => by rw [hD5] at e; cases e
        refine ⟨us, hD5, Nat.lt_of_le_of_lt (show us.length ≤ 8 by omega) (by decide), fun y o hy => by rw [upd_ne (ne_of_none hy hE)]; exact s5 _ _ (s4 _ _ hy), us ++ [.ref t], upd_same, ?_⟩
        rw [take_snoc hRi]
        exact (hus.mono fun v e h => (h.keep (Same.tk s5)).keep kD).snoc ⟨t, rus, rfl, kD _ _ g5, hrus.mono fun v d h => ((h.keep (Same.tk s4)).keep (Same.tk s5)).keep kD⟩
      · rintro H4 ⟨s4, us, hD4, hus⟩
        rw [List.length_map, R3.n] at hus
        have e8 : ((List.range 8).map R).take 8 = (List.range 8).map R := rfl
        rw [e8] at hus
        refine ⟨E2, _, rfl, .inl ⟨SqL.of hD4, fun rt hrt => ⟨_, rfl, (by show 3 ≤ sizeLine; decide), fun tt htt => ?_⟩⟩⟩
        have s5 := same_upd (o := .tup us) hrt
        have g5 : upd H4 rt (.tup us) rt = some (.tup us) := upd_same
        generalize upd H4 rt (.tup us) = H5 at *
        have s6 := same_upd (o := .tup [vi n, .ref rt, .ref ct]) htt
        have g6 : upd H5 tt (.tup [vi n, .ref rt, .ref ct]) tt = some (.tup [vi n, .ref rt, .ref ct]) := upd_same
        generalize upd H5 tt (.tup [vi n, .ref rt, .ref ct]) = H6 at *
        have s46 := Same.tr s5 s6
        have s36 := Same.tr s4 s46
        exact qq H6 _ (Same.tr s03 s36) ⟨tt, rt, ct, us, cus, zs, rfl, g6, s6 _ _ g5, hus.mono fun v r h => h.keep (Same.tk s46), s36 _ _ g3, hc3.mono fun v z h => h.keep (Same.tk s36), hperm, hsort⟩
def spGroup : Sp := fun vs H Q _ => ∃ (p q A : Addr) (ds : List Int) (rs : List Addr) (R : Rows), vs = [.ref p, .ref A] ∧ StN H p q ds ∧ RowsAt H A rs R ∧ (∀ r, r < 8 → (R r).length ≤ 1000) ∧
  ∀ H' g l1 l2 us1 us2 ts cs, StN H' p q ds → Bt H H' p → H' g = some (.lst [.ref l1, .ref l2]) → H' l1 = some (.lst us1) → All2 (TripAt H') us1 ts → H' l2 = some (.lst us2) → All2 (CellT H') us2 cs → TsOk ts → (∀ c ∈ cs, Tr H' 90 c.2.1 ∧ Tr H' 90 c.2.2) → ts.length ≤ 4 → cs.length ≤ 3 → Q (.ref g) H'
theorem RowsAt.bt {H H' : Hp} {p A : Addr} {rs : List Addr} {R : Rows} (S : RowsAt H A rs R) (b : Bt H H' p) (k : TupK H H') (n1 : A ≠ p) (n2 : ∀ a ∈ rs, a ≠ p) : RowsAt H' A rs R := by
  refine ⟨b _ _ S.h n1, S.n, fun i a h => ?_⟩
  obtain ⟨us, h1, h2⟩ := S.r i a h
  exact ⟨us, b _ _ h1 (n2 a (List.mem_of_getElem? h)), h2.mono fun v d h => h.keep k⟩
theorem ok_group (Z : Defs K mg) : FnOk P w K mg base CX0 12 Z.fLawGroup Z.fdLawGroup ["state", "rows"] spGroup := by
  have GLawNext : FnOk P w K mg base CX0 3 Z.fLawNext Z.fdLawNext ["state", "limit"] spNext := ok_next Z
  have GLawAnyDeed : FnOk P w K mg base CX0 5 Z.fLawAnyDeed Z.fdLawAnyDeed ["state"] spAny := ok_anyDeed Z
  have GLawCell : FnOk P w K mg base CX0 11 Z.fLawCell Z.fdLawCell ["state", "name"] spCell := ok_cell Z
  refine Z.DLawGroup.F.ok scLawGroup (fun vs H Q E h => ?_) (fun cdv A outer s H vs Q E hr h => ?_)
  · obtain ⟨p, q, A, ds, rs, R, rfl, _⟩ := h
    rfl
  · obtain ⟨p, q, A0, ds, rs, R, rfl, hS, hR, hlen, qq⟩ := h
    refine ⟨_, (pss_cons (ps_setLc (i := 2) (own := [("row", 7)]) (g := (gName 7)) (by rfl) scLawGroup.nd rfl rfl (sw_true rfl rfl rfl (by decide +kernel)) (pi_list (pv 1)) (blkOk_by (own := [("row", 7)]) (N := ["state", "rows", "counts", "triples", "k", "replica", "cells", "row"]) (sc := defScope sLawGroup) (by decide +kernel)) (fun _ _ _ _ _ => (pg_name (i := 7) scLawGroup.nd rfl (Or.inl rfl))) (fun _ _ _ _ _ => pts_nil) (fun _ _ _ _ _ => (pe_callB (HX.call_len_seqK (K := K) rfl) (by rfl) Z.len PySem.boot_len (pa_cons (pv 7) pa_nil))))
        (pss_cons (ps_set (i := 3) scLawGroup.nd rfl (.inl rfl) (pe_lst pa_nil))
        (pss_cons (ps_for PassesOwn.never rfl (pi_range1 (by rfl) Z.range (pa_cons (pe_call GLawNext (hr.mono (by omega)) (by rfl) Z.DLawNext.g Z.DLawNext.F.kp Z.DLawNext.b .nil pass0 (pa_cons (pv 0) (pa_cons pe_int pa_nil))) pa_nil)) (pg_name (i := 4) scLawGroup.nd rfl (.inl rfl)) (pss_cons (ps_set (i := 5) scLawGroup.nd rfl (.inl rfl) (pe_call GLawNext (hr.mono (by omega)) (by rfl) Z.DLawNext.g Z.DLawNext.F.kp Z.DLawNext.b .nil pass0 (pa_cons (pv 0) (pa_cons pe_int pa_nil))))
        (pss_cons (ps_asg (pe_op op_add (pe_ix ix_list (pv 2) (pv 5) (fun _ _ => rfl)) pe_int) (pg_sub (pv 2) (pv 5) set_list))
        (pss_one (ps_expr (pe_bm PySem.F.plainAttrs_list PySem.F.slot_list_append PySem.F.type_list_append mt_append (pv 3) (pa_cons (pe_tup (pa_cons (pv 5) (pa_cons (pe_ix ix_list (pv 2) (pv 5) (fun _ _ => rfl)) (pa_cons (pe_call GLawAnyDeed (hr.mono (by omega)) (by rfl) Z.DLawAnyDeed.g Z.DLawAnyDeed.F.kp Z.DLawAnyDeed.b .nil pass0 (pa_cons (pv 0) pa_nil)) pa_nil)))) pa_nil)))))))
        (pss_cons (ps_set (i := 6) scLawGroup.nd rfl (.inl rfl) (pe_lst pa_nil))
        (pss_cons (ps_for PassesOwn.never rfl (pi_range1 (by rfl) Z.range (pa_cons (pe_call GLawNext (hr.mono (by omega)) (by rfl) Z.DLawNext.g Z.DLawNext.F.kp Z.DLawNext.b .nil pass0 (pa_cons (pv 0) (pa_cons pe_int pa_nil))) pa_nil)) (pg_name (i := 4) scLawGroup.nd rfl (.inl rfl)) (pss_one (ps_expr (pe_bm PySem.F.plainAttrs_list PySem.F.slot_list_append PySem.F.type_list_append mt_append (pv 6) (pa_cons (pe_call GLawCell (hr.mono (by omega)) (by rfl) Z.DLawCell.g Z.DLawCell.F.kp Z.DLawCell.b .nil pass0 (pa_cons (pv 0) (pa_cons (pe_ix ix_list (pe_lst (pa_cons pe_str (pa_cons pe_str (pa_cons pe_str (pa_cons pe_str pa_nil))))) (pe_call GLawNext (hr.mono (by omega)) (by rfl) Z.DLawNext.g Z.DLawNext.F.kp Z.DLawNext.b .nil pass0 (pa_cons (pv 0) (pa_cons pe_int pa_nil))) (fun _ _ => rfl)) pa_nil))) pa_nil)))))
        (pss_one (ps_ret (pe_lst (pa_cons (pv 3) (pa_cons (pv 6) pa_nil)))))))))), ?_⟩
    have hsz : 1000000 ≤ sizeLine := by decide
    refine ⟨_, rfl, A0, rfl, ⟨_, SqL.of hR.h⟩, fun C hC => ?_⟩
    refine lc_list (K := K) (xs := rs.map V.ref) (fun i H' => Same H H' ∧ ∃ ns : List Nat, H' C = some (.lst (ns.map vi)) ∧ ns.length = i) ⟨same_upd hC, [], upd_same, rfl⟩ (fun j H' _ q => SqL.of (q.1 _ _ hR.h)) ?_ ?_
    · rintro i x H1 hx ⟨s1, ns, hC1, hns⟩
      obtain ⟨ra, hra, rfl⟩ : ∃ ra, rs[i]? = some ra ∧ x = .ref ra := by
        rw [List.getElem?_map] at hx
        cases e : rs[i]? with
        | none => rw [e] at hx; cases hx
        | some t => rw [e] at hx; cases hx; exact ⟨t, rfl, rfl⟩
      obtain ⟨rus, hru, hrus⟩ := hR.r i ra hra
      have hi8 : i < 8 := by have := (List.getElem?_eq_some_iff.mp hra).1; rw [hR.n] at this; exact this
      refine ⟨rfl, lc_yes ⟨_, rfl, ra, rus, rfl, .inl (SqL.of (s1 _ _ hru)), _, hC1, by rw [List.length_map]; omega, fun z o hz => by rw [upd_ne (ne_of_none hz hC)]; exact s1 _ _ hz, ns ++ [rus.length], by rw [upd_same, List.map_append]; rfl, by rw [List.length_append, hns]; rfl⟩⟩
    · rintro H1 ⟨s1, ns, hC1, hns⟩
      rw [List.length_map, hR.n] at hns
      have S1 := hS.sm s1
      have nCp := hS.nn hC
      refine ⟨Nat.zero_le _, fun T hT => ?_⟩
      have s2 := same_upd (o := .lst []) hT
      have g2 : upd H1 T (.lst []) T = some (.lst []) := upd_same
      generalize upd H1 T (.lst []) = H2 at s2 g2
      have S2 := S1.sm s2
      have nTp := S1.nn hT
      have nTq := S1.nq hT
      have nCq := hS.nq hC
      have nTC : T ≠ C := fun e => by rw [e, hC1] at hT; cases hT
      have hTH : H T = none := Same.none s1 hT
      have hC2 := s2 _ _ hC1
      refine ⟨_, rfl, p, q, ds, 4, rfl, S2, by decide, fun H3 v S3 b3 v0 v1 => ⟨v, rfl, by omega, by omega, ?_⟩⟩
      have B3 : Bt H H3 p := Bt.tr (Bt.same (Same.tr s1 s2)) (Bt.of b3)
      refine for_range (lo := 0) (n := v.toNat) (fun i σ H' => ∃ (y4 y5 y6 y7 : Option V) (ns : List Nat) (us : List V) (ts : List Trip), σ = [some (.ref p), some (.ref A0), some (.ref C), some (.ref T), y4, y5, y6, y7] ∧ StN H' p q ds ∧ Bt H H' p ∧ H' C = some (.lst (ns.map vi)) ∧ ns.length = 8 ∧ H' T = some (.lst us) ∧ All2 (TripAt H') us ts ∧ ts.length = i ∧ TsOk ts)
        ⟨none, none, none, none, ns, [], [], rfl, S3, B3, Bt.of b3 _ _ hC2 nCp, hns, Bt.of b3 _ _ g2 nTp, .nil, rfl, fun t h => by cases h⟩ ?_ ?_
      · rintro i σ H4 hi ⟨y4, y5, y6, y7, ns, us, ts, rfl, S4, B4, hC4, hn4, hT4, hus, hl4, hts⟩
        refine ⟨_, rfl, p, q, ds, 8, rfl, S4, by decide, fun H5 r S5 b5 r0 r1 => ?_⟩
        obtain ⟨rn, rfl⟩ := Int.eq_ofNat_of_zero_le r0
        have hr8 : rn < 8 := by omega
        have hC5 := Bt.of b5 _ _ hC4 nCp
        have hT5 := Bt.of b5 _ _ hT4 nTp
        have k5 := Bt.tk (Bt.of b5) S4
        obtain ⟨c, hc⟩ : ∃ c, ns[rn]? = some c := ⟨_, List.getElem?_eq_getElem (by omega)⟩
        have gc : atI (ns.map vi) ((rn : Nat) : Int) = some (vi c) := atI_nat (by rw [List.getElem?_map, hc]; rfl)
        refine ⟨_, rfl, _, rfl, C, _, _, _, rfl, rfl, SqL.of hC5, gc, (c : Int), 1, rfl, rfl, _, rfl, _, rfl, C, _, _, rn, rfl, rfl, hC5, ixN_nat (by rw [List.length_map]; omega), ?_⟩
        have ec : (ns.map vi).set rn (V.int ((c : Int) + 1)) = (ns.set rn (c + 1)).map vi := by
          rw [List.map_set]
          have : V.int ((c : Int) + 1) = vi (c + 1) := congrArg V.int (by omega)
          rw [this]
        rw [ec]
        have k6 : TupK H5 (upd H5 C (.lst ((ns.set rn (c + 1)).map vi))) := tk_upd fun xs e => by rw [hC5] at e; cases e
        have S6 : StN (upd H5 C (.lst ((ns.set rn (c + 1)).map vi))) p q ds := S5.up nCp nCq
        have B6 : Bt H (upd H5 C (.lst ((ns.set rn (c + 1)).map vi))) p := Bt.up (Bt.tr B4 (Bt.of b5)) hC
        have g6 : upd H5 C (.lst ((ns.set rn (c + 1)).map vi)) C = some (.lst ((ns.set rn (c + 1)).map vi)) := upd_same
        have gT6 : upd H5 C (.lst ((ns.set rn (c + 1)).map vi)) T = some (.lst us) := by rw [upd_ne nTC]; exact hT5
        generalize upd H5 C (.lst ((ns.set rn (c + 1)).map vi)) = H6 at *
        have gc6 : atI ((ns.set rn (c + 1)).map vi) ((rn : Nat) : Int) = some (vi (c + 1)) := atI_nat (by rw [List.getElem?_map, List.getElem?_set, if_pos rfl, if_pos (by omega)]; rfl)
        refine ⟨_, rfl, .inl ⟨rfl, _, SqL.of gT6⟩, _, rfl, _, rfl, _, rfl, C, _, _, _, rfl, rfl, SqL.of g6, gc6, _, rfl, p, q, ds, rfl, S6, fun H7 x δ S7 B7 hx hok => ⟨(by show 3 ≤ sizeLine; decide), fun tt htt => ?_⟩⟩
        have s8 := same_upd (o := .tup [.int ((rn : Nat) : Int), vi (c + 1), x]) htt
        have g8 : upd H7 tt (.tup [.int ((rn : Nat) : Int), vi (c + 1), x]) tt = some (.tup [.int ((rn : Nat) : Int), vi (c + 1), x]) := upd_same
        generalize upd H7 tt (.tup [.int ((rn : Nat) : Int), vi (c + 1), x]) = H8 at *
        have B68 := Bt.tr B7 (Bt.same s8)
        have gT8 := B68 _ _ gT6 nTp
        have gC8 := B68 _ _ g6 nCp
        have k68 := (Bt.tk B7 S6).trans (Same.tk s8)
        have k48 := k5.trans (k6.trans k68)
        have S8 := S7.sm s8
        have hul := hus.len
        refine ⟨T, _, _, rfl, rfl, gT8, by omega, ?_⟩
        have kT : TupK H8 (upd H8 T (.lst (us ++ [.ref tt]))) := tk_upd fun xs e => by rw [gT8] at e; cases e
        refine ⟨_, _, _, _, ns.set rn (c + 1), us ++ [.ref tt], ts ++ [(rn, c + 1, δ)], rfl, S8.up nTp nTq, Bt.up (Bt.tr B6 B68) hTH, by rw [upd_ne (fun e => nTC e.symm)]; exact gC8, by rw [List.length_set]; exact hn4, upd_same, (hus.mono fun v e h => (h.keep k48).keep kT).snoc (show TripAt _ (.ref tt) (rn, c + 1, δ) from ⟨tt, x, rfl, kT _ _ g8, (hx.keep (Same.tk s8)).keep kT⟩), by rw [List.length_append, hl4]; rfl, fun t ht => ?_⟩
        rcases List.mem_append.mp ht with h | h
        · exact hts t h
        · rw [List.mem_singleton.mp h]
          exact ⟨hr8, hok⟩
      · rintro σ H4 ⟨y4, y5, y6, y7, ns, us, ts, rfl, S4, B4, hC4, hn4, hT4, hus, hl4, hts⟩
        have hl4' : ts.length ≤ 4 := by omega
        refine ⟨Nat.zero_le _, fun M hM => ?_⟩
        have s5 := same_upd (o := .lst []) hM
        have g5 : upd H4 M (.lst []) M = some (.lst []) := upd_same
        generalize upd H4 M (.lst []) = H5 at s5 g5
        have S5 := S4.sm s5
        have nMp := S4.nn hM
        have nMq := S4.nq hM
        have nMT : M ≠ T := fun e => by rw [e, hT4] at hM; cases hM
        have hT5 := s5 _ _ hT4
        have hus5 := hus.mono fun v e h => h.keep (Same.tk s5)
        refine ⟨_, rfl, p, q, ds, 3, rfl, S5, by decide, fun H6 e S6 b6 e0 e1 => ⟨e, rfl, by omega, by omega, ?_⟩⟩
        have B6 : Bt H4 H6 p := Bt.tr (Bt.same s5) (Bt.of b6)
        refine for_range (lo := 0) (n := e.toNat) (fun i σ H' => ∃ (y4 y5 y7 : Option V) (ms : List V) (cs : List HC), σ = [some (.ref p), some (.ref A0), some (.ref C), some (.ref T), y4, y5, some (.ref M), y7] ∧ StN H' p q ds ∧ Bt H4 H' p ∧ H' M = some (.lst ms) ∧ All2 (CellT H') ms cs ∧ cs.length = i ∧ ∀ c ∈ cs, Tr H' 90 c.2.1 ∧ Tr H' 90 c.2.2)
          ⟨_, _, _, [], [], rfl, S6, B6, Bt.of b6 _ _ g5 nMp, .nil, rfl, fun c h => by cases h⟩ ?_ ?_
        · rintro i σ H7 hi ⟨y4, y5, y7, ms, cs, rfl, S7, B7, hM7, hms, hl7, hcs⟩
          refine ⟨_, rfl, .inl ⟨rfl, _, SqL.of hM7⟩, _, rfl, (by show 4 ≤ sizeLine; decide), fun l hl => ?_⟩
          generalize hws : [V.str "c", V.str "m", V.str "b2", V.str "a"] = ws
          have s8 : Same H7 (upd H7 l (.lst ws)) := same_upd hl
          have g8 : upd H7 l (.lst ws) l = some (.lst ws) := upd_same
          generalize upd H7 l (.lst ws) = H8 at s8 g8
          have S8 := S7.sm s8
          refine ⟨_, rfl, p, q, ds, 4, rfl, S8, by decide, fun H9 u S9 b9 u0 u1 => ?_⟩
          obtain ⟨nm, hnm⟩ : ∃ nm : Str, atI ws u = some (.str nm) := by
            rw [← hws]
            have h : u = 0 ∨ u = 1 ∨ u = 2 ∨ u = 3 := by omega
            rcases h with h | h | h | h <;> subst h <;> exact ⟨_, rfl⟩
          refine ⟨l, _, _, _, rfl, rfl, SqL.of (Bt.of b9 _ _ g8 (S7.nn hl)), hnm, p, q, ds, nm, rfl, S9, fun H10 t s o S10 B10 ht hts' hto => ?_⟩
          have B710 := Bt.tr (Bt.same s8) (Bt.tr (Bt.of b9) B10)
          have hM10 := B710 _ _ hM7 nMp
          have k10 := Bt.tk B710 S7
          have hml := hms.len
          refine ⟨M, _, _, rfl, rfl, hM10, by omega, ?_⟩
          have kM : TupK H10 (upd H10 M (.lst (ms ++ [.ref t]))) := tk_upd fun xs e => by rw [hM10] at e; cases e
          refine ⟨_, _, _, ms ++ [.ref t], cs ++ [(nm, s, o)], rfl, S10.up nMp nMq, Bt.up (Bt.tr B7 B710) hM, upd_same, (hms.mono fun v e h => (h.keep k10).keep kM).snoc (show CellT _ (.ref t) (nm, s, o) from ⟨t, rfl, kM _ _ ht⟩), by rw [List.length_append, hl7]; rfl, fun c hc => ?_⟩
          rcases List.mem_append.mp hc with h | h
          · exact ⟨((hcs c h).1.keep k10).keep kM, ((hcs c h).2.keep k10).keep kM⟩
          · rw [List.mem_singleton.mp h]
            exact ⟨hts'.keep kM, hto.keep kM⟩
        · rintro σ H7 ⟨y4, y5, y7, ms, cs, rfl, S7, B7, hM7, hms, hl7, hcs⟩
          refine ⟨_, rfl, _, rfl, (by show 2 ≤ sizeLine; decide), fun g hg => ?_⟩
          have s8 := same_upd (o := .lst [.ref T, .ref M]) hg
          have k8 := Same.tk s8
          refine qq _ g T M us ms ts cs (S7.sm s8) (Bt.tr B4 (Bt.tr B7 (Bt.same s8))) upd_same (s8 _ _ (B7 _ _ hT4 nTp)) (hus.mono fun v e h => (h.keep (Bt.tk B7 S4)).keep k8) (s8 _ _ hM7) (hms.mono fun v e h => h.keep k8) hts (fun c hc => ⟨(hcs c hc).1.keep k8, (hcs c hc).2.keep k8⟩) hl4' (by omega)
end
end Q44
namespace Q44
open PySem PySem.Spec PyProof.Rows L2 SX HL DM
section
variable {P : Program} {w : World} {K : PySem.W.Frag} {mg : Str → Option Value} {base : Heap}
/-! ### _law_grown -/
theorem RowsAt.app {H : Hp} {A : Addr} {rs : List Addr} {R : Rows} (S : RowsAt H A rs R) (nd : rs.Nodup) (nA : ∀ a ∈ rs, a ≠ A) {r : Nat} {ra : Addr} {us : List V} {x : V} {δ : Deed} (hra : rs[r]? = some ra) (hu : H ra = some (.lst us)) (hx : DeedAt H x δ) :
    RowsAt (upd H ra (.lst (us ++ [x]))) A rs (addR R r δ) := by
  have hm := List.mem_of_getElem? hra
  have n1 := nA ra hm
  have t : TupK H (upd H ra (.lst (us ++ [x]))) := tk_upd fun xs e => by rw [hu] at e; cases e
  have f : ∀ z o, H z = some o → z ≠ ra → (upd H ra (.lst (us ++ [x]))) z = some o := fun z o h n => by rw [upd_ne n]; exact h
  refine ⟨f _ _ S.h fun e => n1 e.symm, S.n, fun i a h => ?_⟩
  obtain ⟨us', h1, h2⟩ := S.r i a h
  unfold addR
  by_cases e : i = r
  · subst e
    rw [hra] at h
    cases h
    rw [hu] at h1
    cases h1
    rw [if_pos rfl]
    exact ⟨_, upd_same, (h2.mono fun v d h => h.keep t).snoc (hx.keep t)⟩
  · rw [if_neg e]
    have : a ≠ ra := fun z => e (by
      subst z
      exact (List.getElem?_inj (List.getElem?_eq_some_iff.mp h).1 nd).mp (h.trans hra.symm))
    exact ⟨us', f _ _ h1 this, h2.mono fun v d h => h.keep t⟩
def spLGrown : Sp := fun vs H Q _ => ∃ (A ha g l1 l2 : Addr) (rs : List Addr) (R : Rows) (hs : List HC) (us1 us2 : List V) (ts : List Trip) (cs : List HC), vs = [.ref A, .ref ha, .ref g] ∧ RowsAt H A rs R ∧ HeldAt H ha hs ∧ H g = some (.lst [.ref l1, .ref l2]) ∧ H l1 = some (.lst us1) ∧ All2 (TripAt H) us1 ts ∧ H l2 = some (.lst us2) ∧ All2 (CellT H) us2 cs ∧ TsOk ts ∧ hs.length + cs.length ≤ 50 ∧ tot R + ts.length ≤ 1000 ∧
  ∀ H' r A' rs' ha', Same H H' → H' r = some (.lst [.ref A', .ref ha']) → RowsAt H' A' rs' (addAll R ts) → HeldAt H' ha' (putAll hs cs) → H ha' = none → H A' = none → (∀ a ∈ rs', H a = none) → Q (.ref r) H'
theorem ok_lgrown {k : Nat} (Z : Defs K mg) : FnOk P w K mg base CX0 (k + 1) Z.fLawGrown Z.fdLawGrown ["rows", "held", "group"] spLGrown := by
  refine Z.DLawGrown.F.ok scLawGrown (fun vs H Q E h => ?_) (fun cdv A outer s H vs Q E hr h => ?_)
  · obtain ⟨A, ha, g, l1, l2, rs, R, hs, us1, us2, ts, cs, rfl, _⟩ := h
    rfl
  · obtain ⟨A0, ha, g, l1, l2, rs, R, hs, us1, us2, ts, cs, rfl, hR, hh, hg, h1, hu1, h2, hu2, hts, h50, htot, qq⟩ := h
    refine ⟨_, (pss_cons (ps_setLc (i := 3) (own := [("row", 11)]) (g := (gName 11)) (by rfl) scLawGrown.nd rfl rfl (sw_true rfl rfl rfl (by decide +kernel)) (pi_list (pv 0)) (blkOk_by (own := [("row", 11)]) (N := ["rows", "held", "group", "more", "replica", "place", "deed", "holds", "name", "shape", "outcome", "row"]) (sc := defScope sLawGrown) (by decide +kernel)) (fun _ _ _ _ _ => (pg_name (i := 11) scLawGrown.nd rfl (Or.inl rfl))) (fun _ _ _ _ _ => pts_nil) (fun _ _ _ _ _ => (pe_callTy (HX.call_list_ofK (K := K) rfl) (by rfl) Z.list HL.boot_list (pa_cons (pv 11) pa_nil))))
        (pss_cons (ps_for PassesOwn.never rfl (pi_list (pe_ix ix_list (pv 2) pe_int (fun _ _ => rfl))) (pg_tup rfl (pgs_cons (pg_name (i := 4) scLawGrown.nd rfl (.inl rfl)) (pgs_cons (pg_name (i := 5) scLawGrown.nd rfl (.inl rfl)) (pgs_cons (pg_name (i := 6) scLawGrown.nd rfl (.inl rfl)) pgs_nil)))) (pss_one (ps_expr (pe_bm PySem.F.plainAttrs_list PySem.F.slot_list_append PySem.F.type_list_append mt_append (pe_ix ix_list (pv 3) (pv 4) (fun _ _ => rfl)) (pa_cons (pv 6) pa_nil)))))
        (pss_cons (ps_set (i := 7) scLawGrown.nd rfl (.inl rfl) (pe_callTy call_dictD (by rfl) Z.dict HL.boot_dict (pa_cons (pv 1) pa_nil)))
        (pss_cons (ps_for PassesOwn.never rfl (pi_list (pe_ix ix_list (pv 2) pe_int (fun _ _ => rfl))) (pg_tup rfl (pgs_cons (pg_name (i := 8) scLawGrown.nd rfl (.inl rfl)) (pgs_cons (pg_name (i := 9) scLawGrown.nd rfl (.inl rfl)) (pgs_cons (pg_name (i := 10) scLawGrown.nd rfl (.inl rfl)) pgs_nil)))) (pss_one (ps_dput (hu_of hr) (pv 7) (pv 8) (pe_tup (pa_cons (pv 9) (pa_cons (pv 10) pa_nil))) rfl)))
        (pss_one (ps_ret (pe_lst (pa_cons (pv 3) (pa_cons (pv 7) pa_nil))))))))), ?_⟩
    have hsz : 1000000 ≤ sizeLine := by decide
    refine ⟨_, rfl, A0, rfl, ⟨_, SqL.of hR.h⟩, fun D hD => ?_⟩
    refine lc_list (K := K) (xs := rs.map V.ref) (fun i H' => Same H H' ∧ ∃ ns : List Addr, H' D = some (.lst (ns.map V.ref)) ∧ ns.length = i ∧ ns.Nodup ∧ (∀ a ∈ ns, a ≠ D ∧ H a = none) ∧ ∀ (j : Nat) (a : Addr), ns[j]? = some a → ∃ us, H' a = some (.lst us) ∧ All2 (DeedAt H') us (R j))
      ⟨same_upd hD, [], upd_same, rfl, .nil, (fun a h => by cases h), fun j a h => by cases h⟩ (fun j H' _ q => SqL.of (q.1 _ _ hR.h)) ?_ ?_
    · rintro i x H1 hx ⟨s1, ns, hD1, hnl, hnd, hnn, hns⟩
      obtain ⟨ra, hra, rfl⟩ : ∃ ra, rs[i]? = some ra ∧ x = .ref ra := by
        rw [List.getElem?_map] at hx
        cases e : rs[i]? with
        | none => rw [e] at hx; cases hx
        | some t => rw [e] at hx; cases hx; exact ⟨t, rfl, rfl⟩
      obtain ⟨rus, hru, hrus⟩ := hR.r i ra hra
      have hi8 : i < 8 := by have := (List.getElem?_eq_some_iff.mp hra).1; rw [hR.n] at this; exact this
      refine ⟨rfl, lc_yes ⟨_, rfl, ra, rus, rfl, .inl (SqL.of (s1 _ _ hru)), fun l hl => ?_⟩⟩
      have s2 := same_upd (o := .lst rus) hl
      have g2 : upd H1 l (.lst rus) l = some (.lst rus) := upd_same
      show ∃ acc, upd H1 l (.lst rus) D = some (.lst acc) ∧ _
      have hlH : H l = none := Same.none s1 hl
      have nlD : l ≠ D := fun e => by rw [e, hD1] at hl; cases hl
      have nold : ∀ a ∈ ns, a ≠ l := fun a ha' e => by
        obtain ⟨j, hj⟩ := List.mem_iff_getElem?.mp ha'
        obtain ⟨us, hu, _⟩ := hns j a hj
        rw [e, hl] at hu
        cases hu
      generalize upd H1 l (.lst rus) = H2 at s2 g2 ⊢
      have hD2 := s2 _ _ hD1
      have kD : TupK H2 (upd H2 D (.lst (ns.map V.ref ++ [.ref l]))) := tk_upd fun xs e => by rw [hD2] at e; cases e
      have k2 := Same.tk s2
      refine ⟨_, hD2, by rw [List.length_map, hnl]; omega, fun z o hz => by rw [upd_ne (ne_of_none hz hD)]; exact s2 _ _ (s1 _ _ hz), ns ++ [l], by rw [upd_same, List.map_append]; rfl, by rw [List.length_append, hnl]; rfl, ?_, fun a ha' => ?_, fun j a hj => ?_⟩
      · rw [List.nodup_append]
        refine ⟨hnd, by simp, fun a ha' b hb e => ?_⟩
        rw [List.mem_singleton.mp hb] at e
        exact nold a ha' e
      · rcases List.mem_append.mp ha' with h | h
        · exact hnn a h
        · rw [List.mem_singleton.mp h]; exact ⟨nlD, hlH⟩
      · by_cases hji : j < i
        · rw [List.getElem?_append_left (by omega)] at hj
          obtain ⟨us, hu, hus⟩ := hns j a hj
          exact ⟨us, by rw [upd_ne (hnn a (List.mem_of_getElem? hj)).1]; exact s2 _ _ hu, hus.mono fun v d h => (h.keep k2).keep kD⟩
        · have hlt := (List.getElem?_eq_some_iff.mp hj).1
          rw [List.length_append, List.length_singleton] at hlt
          have hji' : j = i := by omega
          subst hji'
          rw [List.getElem?_append_right (by omega), hnl, Nat.sub_self] at hj
          obtain rfl : l = a := Option.some.inj hj
          exact ⟨rus, by rw [upd_ne nlD]; exact g2, hrus.mono fun v d h => ((h.keep (Same.tk s1)).keep k2).keep kD⟩
    · rintro H1 ⟨s1, ns, hD1, hnl, hnd, hnn, hns⟩
      rw [List.length_map, hR.n] at hnl
      have R1 : RowsAt H1 D ns R := ⟨hD1, hnl, hns⟩
      have hg1 := s1 _ _ hg
      have h11 := s1 _ _ h1
      refine ⟨_, rfl, g, _, 0, _, rfl, rfl, SqL.of hg1, rfl, l1, rfl, ⟨_, SqL.of h11⟩, ?_⟩
      refine for_it walk_list (fun i σ H' => ∃ (y4 y5 y6 y7 y8 y9 y10 y11 : Option V), σ = [some (.ref A0), some (.ref ha), some (.ref g), some (.ref D), y4, y5, y6, y7, y8, y9, y10, y11] ∧ Same H H' ∧ RowsAt H' D ns (addAll R (ts.take i)))
        ⟨none, none, none, none, none, none, none, none, rfl, s1, by rw [List.take_zero]; exact R1⟩ (fun i σ H' _ ⟨_, _, _, _, _, _, _, _, _, s, _⟩ => SqL.of (s _ _ h1)) ?_ ?_
      · rintro i x σ H2' H2 hi ⟨y4, y5, y6, y7, y8, y9, y10, y11, rfl, s2, R2⟩ ⟨rfl, hx⟩
        obtain ⟨t, ht, htx⟩ := hu1.get hx
        obtain ⟨ta, dx, rfl, hta, hdx⟩ := htx.keep (Same.tk s2)
        obtain ⟨hr8, hok⟩ := hts t (List.mem_of_getElem? ht)
        have hil := (List.getElem?_eq_some_iff.mp ht).1
        obtain ⟨ra, ru, hra, hrv, hu, hus⟩ := R2.get hr8
        have gr : atI (ns.map V.ref) (t.1 : Int) = some (.ref ra) := atI_nat hrv
        have hrl := len_tot (R := addAll R (ts.take i)) hr8
        rw [tot_all fun x hx => hts x (List.mem_of_mem_take hx), List.length_take] at hrl
        have hul := hus.len
        refine ⟨ta, _, rfl, SqT.of hta, rfl, _, _, rfl, _, _, rfl, _, _, rfl, rfl, ?_⟩
        refine ⟨_, rfl, _, rfl, D, _, _, _, rfl, rfl, SqL.of R2.h, gr, .inl ⟨rfl, _, SqL.of hu⟩, _, rfl, ra, _, _, rfl, rfl, hu, by omega, ?_⟩
        have R3 := RowsAt.app R2 hnd (fun a h => (hnn a h).1) hra hu hdx
        refine ⟨_, _, _, _, _, _, _, _, rfl, fun z o h => by rw [upd_ne (ne_of_none h (hnn _ (List.mem_of_getElem? hra)).2)]; exact s2 _ _ h, ?_⟩
        rw [take_snoc ht, addAll_snoc]
        exact R3
      · rintro σ H2 ⟨y4, y5, y6, y7, y8, y9, y10, y11, rfl, s2, R2⟩
        rw [hu1.len, List.take_length] at R2
        obtain ⟨kv, hkv, hrel⟩ := hh
        refine ⟨_, rfl, ha, kv, rfl, .inl (s2 _ _ hkv), fun nh hnh => ?_⟩
        have s3 := same_upd (o := .dK kv) hnh
        have g3 : upd H2 nh (.dK kv) nh = some (.dK kv) := upd_same
        have hnhH : H nh = none := Same.none s2 hnh
        generalize upd H2 nh (.dK kv) = H3 at s3 g3
        have s03 := Same.tr s2 s3
        have R3 := R2.keep s3
        have B3 : HeldAt H3 nh hs := ⟨kv, g3, hrel.mono fun a b r => r.keep (Same.tk s03)⟩
        have nhD : nh ≠ D := fun e => by rw [e, R2.h] at hnh; cases hnh
        have nhn : ∀ a ∈ ns, a ≠ nh := fun a ha' e => by
          obtain ⟨j, hj⟩ := List.mem_iff_getElem?.mp ha'
          obtain ⟨us, hu, _⟩ := R2.r j a hj
          rw [e, hnh] at hu
          cases hu
        refine ⟨_, rfl, g, _, 1, _, rfl, rfl, SqL.of (s03 _ _ hg), rfl, l2, rfl, ⟨_, SqL.of (s03 _ _ h2)⟩, ?_⟩
        refine for_it walk_list (fun i σ H' => ∃ (y4 y5 y6 y8 y9 y10 y11 : Option V), σ = [some (.ref A0), some (.ref ha), some (.ref g), some (.ref D), y4, y5, y6, some (.ref nh), y8, y9, y10, y11] ∧ Same H H' ∧ RowsAt H' D ns (addAll R ts) ∧ HeldAt H' nh (putAll hs (cs.take i)))
          ⟨_, _, _, _, _, _, _, rfl, s03, R3, by rw [List.take_zero]; exact B3⟩ (fun i σ H' _ ⟨_, _, _, _, _, _, _, _, s, _⟩ => SqL.of (s _ _ h2)) ?_ ?_
        · rintro i x σ H4' H4 hi ⟨y4, y5, y6, y8, y9, y10, y11, rfl, s4, R4, kv4, hk4, hrel4⟩ ⟨rfl, hx⟩
          obtain ⟨c, hc, hxc⟩ := hu2.get hx
          obtain ⟨t, rfl, ht⟩ := hxc.keep (Same.tk s4)
          have hil := (List.getElem?_eq_some_iff.mp hc).1
          refine ⟨t, _, rfl, SqT.of ht, rfl, _, _, rfl, _, _, rfl, _, _, rfl, rfl, ?_⟩
          refine ⟨_, rfl, _, rfl, (by show 2 ≤ sizeLine; decide), fun tt htt => ?_⟩
          have s5 := same_upd (o := .tup [c.2.1, c.2.2]) htt
          have g5 : upd H4 tt (.tup [c.2.1, c.2.2]) tt = some (.tup [c.2.1, c.2.2]) := upd_same
          generalize upd H4 tt (.tup [c.2.1, c.2.2]) = H5 at s5 g5
          have hk5 := s5 _ _ hk4
          have hkl : kv4.length < sizeLine := by
            have h1 := hrel4.len
            have h2 := putAll_len (hs := hs) (cs := cs.take i)
            rw [List.length_take] at h2
            omega
          refine ⟨_, rfl, _, rfl, nh, _, rfl, .inl ⟨kv4, .inr c.1, hk5, rfl, hkl, rfl⟩, ?_⟩
          have k6 : TupK H5 (upd H5 nh (.dK (putK kv4 (.inr c.1) (.ref tt)))) := tk_upd fun xs e => by rw [hk5] at e; cases e
          have R5 := R4.keep s5
          refine ⟨_, _, _, _, _, _, _, rfl, fun z o h => by rw [upd_ne (ne_of_none h hnhH)]; exact s5 _ _ (s4 _ _ h), ⟨by rw [upd_ne fun e => nhD e.symm]; exact R5.h, R5.n, fun j a hj => ?_⟩, ⟨_, upd_same, ?_⟩⟩
          · obtain ⟨us, hu, hus⟩ := R5.r j a hj
            exact ⟨us, by rw [upd_ne (nhn a (List.mem_of_getElem? hj))]; exact hu, hus.mono fun v d h => h.keep k6⟩
          · rw [take_snoc hc, putAll_snoc]
            exact hrel_put (hrel4.mono fun a b r => (r.keep (Same.tk s5)).keep k6) (k6 _ _ g5)
        · rintro σ H4 ⟨y4, y5, y6, y8, y9, y10, y11, rfl, s4, R4, B4⟩
          rw [hu2.len, List.take_length] at B4
          refine ⟨_, rfl, _, rfl, (by show 2 ≤ sizeLine; decide), fun r hr' => ?_⟩
          have s5 := same_upd (o := .lst [.ref D, .ref nh]) hr'
          exact qq _ r D ns nh (Same.tr s4 s5) upd_same (R4.keep s5) (B4.keep (Same.tk s5) fun o h => s5 _ _ h) hnhH hD fun a h => (hnn a h).2
end
end Q44
namespace Q44
open PySem PySem.Spec PyProof.Rows L2 SX HL DM
/-! ### law -/
theorem deed_tr {H : Hp} {x : V} {d : Deed} (hd : TOk d) (h : DeedAt H x d) : Tr H 3 x := by
  have mk : ∀ {y : V} {m : Mark}, MkAt H y m → Tr H 1 y := fun {y m} h => by
    obtain ⟨t, rfl, ht⟩ := h
    exact Tr.pair ht (Tr.leaf True.intro) (Tr.leaf True.intro)
  cases d with
  | back n =>
    obtain ⟨t, rfl, ht⟩ := h
    exact Tr.pair ht (Tr.leaf True.intro) (Tr.leaf True.intro)
  | change m rem b n t =>
    obtain ⟨td, tr, us, bx, rfl, ht, hr, hm, hb⟩ := h
    have hx := (hd _ _ _ _ _ rfl).2
    have hul := hm.len
    refine Tr.tup ht (by show 6 ≤ 1000000; decide) fun u hu => ?_
    rcases List.mem_cons.mp hu with rfl | hu
    · exact Tr.leaf True.intro
    rcases List.mem_cons.mp hu with rfl | hu
    · exact Tr.leaf True.intro
    rcases List.mem_cons.mp hu with rfl | hu
    · refine Tr.tup hr (by omega) fun v hv => ?_
      obtain ⟨i, hi⟩ := List.mem_iff_getElem?.mp hv
      obtain ⟨y, _, hy⟩ := hm.get hi
      exact mk hy
    rcases List.mem_cons.mp hu with rfl | hu
    · cases b with
      | none =>
        obtain rfl : u = V.non := hb
        exact Tr.leaf True.intro
      | some y => exact (mk hb).mono (by decide)
    rcases List.mem_cons.mp hu with rfl | hu
    · exact Tr.leaf True.intro
    rw [List.mem_singleton.mp hu]
    exact Tr.leaf True.intro
theorem trip_tr {H : Hp} {x : V} {t : Trip} (hd : TOk t.2.2) (h : TripAt H x t) : Tr H 4 x := by
  obtain ⟨a, dx, rfl, ha, hdx⟩ := h
  refine Tr.tup ha (by show 3 ≤ 1000000; decide) fun u hu => ?_
  rcases List.mem_cons.mp hu with rfl | hu
  · exact Tr.leaf True.intro
  rcases List.mem_cons.mp hu with rfl | hu
  · exact Tr.leaf True.intro
  rw [List.mem_singleton.mp hu]
  exact deed_tr hd hdx
theorem cell_tr {H : Hp} {x : V} {c : HC} (hc : Tr H 90 c.2.1 ∧ Tr H 90 c.2.2) (h : CellT H x c) : Tr H 91 x := by
  obtain ⟨t, rfl, ht⟩ := h
  refine Tr.tup ht (by show 3 ≤ 1000000; decide) fun u hu => ?_
  rcases List.mem_cons.mp hu with rfl | hu
  · exact Tr.leaf True.intro
  rcases List.mem_cons.mp hu with rfl | hu
  · exact hc.1
  rw [List.mem_singleton.mp hu]
  exact hc.2
theorem group_same {K : PySem.W.Frag} {H : Hp} {g g' l1 l2 m1 m2 : Addr} {us1 us2 : List V} {ts : List Trip} {cs : List HC} (hg : H g = some (.lst [.ref l1, .ref l2])) (hg' : H g' = some (.lst [.ref m1, .ref m2])) (h1 : H l1 = some (.lst us1)) (h2 : H l2 = some (.lst us2)) (k1 : H m1 = some (.lst us1)) (k2 : H m2 = some (.lst us2))
    (hu1 : All2 (TripAt H) us1 ts) (hu2 : All2 (CellT H) us2 cs) (hts : TsOk ts) (hcs : ∀ c ∈ cs, Tr H 90 c.2.1 ∧ Tr H 90 c.2.2) (ht : ts.length ≤ 4) (hc : cs.length ≤ 3) : SameD K H 93 (.ref g') (.ref g) := by
  have e1 := hu1.len
  have e2 := hu2.len
  refine .seq (.lst hg') (.lst hg) rfl (by show 2 ≤ 1000000; decide) fun i u v hu hv => ?_
  match i, hu, hv with
  | 0, hu, hv =>
    cases hu; cases hv
    refine .seq (.lst k1) (.lst h1) rfl (by omega) fun j u v hu hv => ?_
    rw [hu] at hv
    cases hv
    obtain ⟨t, ht, hx⟩ := hu1.get hu
    exact ((trip_tr (hts t (List.mem_of_getElem? ht)).2 hx).mono (by decide : 4 ≤ 91)).same
  | 1, hu, hv =>
    cases hu; cases hv
    refine .seq (.lst k2) (.lst h2) rfl (by omega) fun j u v hu hv => ?_
    rw [hu] at hv
    cases hv
    obtain ⟨c, hc', hx⟩ := hu2.get hu
    exact (cell_tr (hcs c (List.mem_of_getElem? hc')) hx).same
  | i + 2, hu, _ => cases hu
theorem rows_same {K : PySem.W.Frag} {H : Hp} {A B : Addr} {rs ss : List Addr} {R : Rows} (h1 : RowsAt H A rs R) (h2 : RowsAt H B ss R) (hF : FewT R) : SameD K H 93 (.ref A) (.ref B) := by
  refine .seq (.lst h1.h) (.lst h2.h) (by rw [List.length_map, List.length_map, h1.n, h2.n]) (by rw [List.length_map, h2.n]; decide) fun i u v hu hv => ?_
  rw [List.getElem?_map] at hu hv
  cases e1 : rs[i]? with
  | none => rw [e1] at hu; cases hu
  | some a =>
    cases e2 : ss[i]? with
    | none => rw [e2] at hv; cases hv
    | some b =>
      rw [e1] at hu
      rw [e2] at hv
      cases hu
      cases hv
      obtain ⟨us, ha, hus⟩ := h1.r i a e1
      obtain ⟨vs, hb, hvs⟩ := h2.r i b e2
      have hi8 : i < 8 := by have := (List.getElem?_eq_some_iff.mp e1).1; rw [h1.n] at this; exact this
      obtain ⟨f1, f2⟩ := hF i hi8
      exact .seq (.lst ha) (.lst hb) (by rw [hus.len, hvs.len]) (by rw [hvs.len]; omega) (deeds_same (n := 88) f2 hus hvs)
theorem RowsAt.np {H : Hp} {p q A : Addr} {ds : List Int} {rs : List Addr} {R : Rows} (S : StN H p q ds) (r : RowsAt H A rs R) : A ≠ p ∧ ∀ a ∈ rs, a ≠ p := by
  obtain ⟨i, hp⟩ := S.at
  refine ⟨fun e => ?_, fun a ha e => ?_⟩
  · have h := r.h
    rw [e, hp] at h
    have h2 := HO.lst.inj (Option.some.inj h)
    have := congrArg List.length h2
    rw [List.length_map, r.n] at this
    cases this
  · obtain ⟨j, hj⟩ := List.mem_iff_getElem?.mp ha
    obtain ⟨us, hu, hus⟩ := r.r j a hj
    rw [e, hp] at hu
    cases hu
    obtain ⟨d, _, hd⟩ := hus.get (i := 1) rfl
    cases d with
    | back n => obtain ⟨t, e, _⟩ := hd; cases e
    | change m x b n t => obtain ⟨td, tr, um, bx, e, _⟩ := hd; cases e
structure LI (cD cB p q A ha b : Addr) (ds : List Int) (rs : List Addr) (R : Rows) (hs : List HC) (n : Nat) (N : Addr → Prop) (H : Hp) : Prop where
  st : StN H p q ds
  r : RowsAt H A rs R
  he : HeldAt H ha hs
  ba : BaseAt cD cB H b R hs n N
  hk : HOk H hs
  ok : ∀ r, r < 8 → ∀ d ∈ R r, TOk d
  le : tot R ≤ 4 * n
  lh : hs.length ≤ 3 * n
  np : ¬ N p
  nq : ¬ N q
theorem HeldAt.np {H : Hp} {p q ha : Addr} {ds : List Int} {hs : List HC} (S : StN H p q ds) (h : HeldAt H ha hs) : ha ≠ p := fun e => by
  obtain ⟨i, hp⟩ := S.at
  obtain ⟨kv, hk, _⟩ := h
  rw [e, hp] at hk
  cases hk
section
variable {cD cB p q A ha b : Addr} {ds : List Int} {rs : List Addr} {R : Rows} {hs : List HC} {n : Nat} {N : Addr → Prop} {H H' : Hp}
theorem LI.same (I : LI cD cB p q A ha b ds rs R hs n N H) (s : Same H H') : LI cD cB p q A ha b ds rs R hs n N H' :=
  ⟨I.st.sm s, I.r.keep s, I.he.keep (Same.tk s) fun o h => s _ _ h, I.ba.same s, I.hk.keep (Same.tk s), I.ok, I.le, I.lh, I.np, I.nq⟩
theorem LI.bt (I : LI cD cB p q A ha b ds rs R hs n N H) (B : Bt H H' p) (S : StN H' p q ds) : LI cD cB p q A ha b ds rs R hs n N H' := by
  have k := Bt.tk B I.st
  obtain ⟨n1, n2⟩ := RowsAt.np I.st I.r
  exact ⟨S, RowsAt.bt I.r B k n1 n2, I.he.keep k fun o h => B _ _ h (HeldAt.np I.st I.he), I.ba.stay (fun z o h m => B _ _ h fun e => I.np (by rw [← e]; exact m)) k, I.hk.keep k, I.ok, I.le, I.lh, I.np, I.nq⟩
theorem LI.few (I : LI cD cB p q A ha b ds rs R hs n N H) (hn : n ≤ 20) : FewT R := fun r hr => ⟨by have := len_tot (R := R) hr; have := I.le; omega, I.ok r hr⟩
end
section
variable {P : Program} {w : World} {K : PySem.W.Frag} {mg : Str → Option Value} {base : Heap}
def spLaw (K : PySem.W.Frag) : Sp := fun vs H Q _ => ∃ (a : Addr) (ns : List Int), vs = [.ref a] ∧ SqL K H a (ns.map V.int) ∧ ns.length ≤ 63 ∧ ∀ H', Q (.bl true) H'
theorem ok_law (Z : Defs K mg) : FnOk P w K mg base CX0 99 Z.fLaw Z.fdLaw ["script"] (spLaw K) := by
  have GLawDraws : FnOk P w K mg base CX0 2 Z.fLawDraws Z.fdLawDraws ["script"] (spDraws K) := ok_draws Z
  have GLawNext : FnOk P w K mg base CX0 3 Z.fLawNext Z.fdLawNext ["state", "limit"] spNext := ok_next Z
  have GLawSame : FnOk P w K mg base CX0 95 Z.fLawSame Z.fdLawSame ["actual", "expected"] (spSameG K 93) := ok_same Z 93
  have GLawIsDict : FnOk P w K mg base CX0 98 Z.fLawIsDict Z.fdLawIsDict ["actual", "expected"] spIsDict := ok_isDict Z
  have GLawGroup : FnOk P w K mg base CX0 12 Z.fLawGroup Z.fdLawGroup ["state", "rows"] spGroup := ok_group Z
  have GLawBaseData : FnOk P w K mg base CX0 1 Z.fLawBaseData Z.fdLawBaseData ["rows", "held", "commits"] spLData := ok_ldata Z
  have GLawGrown : FnOk P w K mg base CX0 1 Z.fLawGrown Z.fdLawGrown ["rows", "held", "group"] spLGrown := ok_lgrown Z
  have GLawSpoil : FnOk P w K mg base CX0 3 Z.fLawSpoil Z.fdLawSpoil ["base"] (spSpoil Z.cDeeds Z.cBase) := ok_spoil Z
  have GBaseInit : FnOk P w K mg base CX0 3 Z.fBaseInit Z.fdBaseInit ["self"] (spBInit Z.cDeeds Z.cBase) := ok_binit Z
  have GBaseCopy : FnOk P w K mg base CX0 5 Z.fBaseCopy Z.fdBaseCopy ["self"] (spBCopy Z.cDeeds Z.cBase) := ok_bcopy Z
  have GBaseData : FnOk P w K mg base CX0 2 Z.fBaseData Z.fdBaseData ["self"] (spBData Z.cDeeds Z.cBase) := ok_bdata Z
  have GBaseGrown : FnOk P w K mg base CX0 6 Z.fBaseGrown Z.fdBaseGrown ["self", "triples", "cells"] (spGrown Z.cDeeds Z.cBase) := ok_bgrown Z
  refine Z.DLaw.F.ok scLaw (fun vs H Q E h => ?_) (fun cdv A outer s H vs Q E hr h => ?_)
  · obtain ⟨a, ns, rfl, _⟩ := h
    rfl
  · obtain ⟨a, ns, rfl, hS, hl, qq⟩ := h
    refine ⟨_, (pss_cons (ps_set (i := 1) scLaw.nd rfl (.inl rfl) (pe_lst (pa_cons (pe_call GLawDraws (hr.mono (by omega)) (by rfl) Z.DLawDraws.g Z.DLawDraws.F.kp Z.DLawDraws.b .nil pass0 (pa_cons (pv 0) pa_nil)) (pa_cons pe_int pa_nil))))
        (pss_cons (ps_setLc (i := 2) (own := [("k", 5)]) (g := (gName 5)) (by rfl) scLaw.nd rfl rfl (sw_true rfl rfl rfl (by decide +kernel)) (pi_range1 (by rfl) Z.range (pa_cons pe_int pa_nil)) (blkOk_by (own := [("k", 5)]) (N := ["script", "state", "rows", "held", "base", "k", "group", "passed", "before", "grown", "due", "other"]) (sc := defScope sLaw) (by decide +kernel)) (fun _ _ _ _ _ => (pg_name (i := 5) scLaw.nd rfl (Or.inl rfl))) (fun _ _ _ _ _ => pts_nil) (fun _ _ _ _ _ => (pe_lst pa_nil)))
        (pss_cons (ps_set (i := 3) scLaw.nd rfl (.inl rfl) pe_dnewK)
        (pss_cons (ps_set (i := 4) scLaw.nd rfl (.inl rfl) (pe_make0 Z.CBase.make GBaseInit (hr.mono (by omega)) rfl Z.CBase.g Z.DBaseInit.b .nil pass0))
        (pss_cons (ps_if (PW.pt (pw_or (pt_not (pt_val (pe_call GLawSame (hr.mono (by omega)) (by rfl) Z.DLawSame.g Z.DLawSame.F.kp Z.DLawSame.b .nil pass0 (pa_cons (pe_meth0 (pv 4) Z.CBase.cl Z.DBaseData.m GBaseData (hr.mono (by omega)) Z.DBaseData.b .nil pass0) (pa_cons (pe_call GLawBaseData (hr.mono (by omega)) (by rfl) Z.DLawBaseData.g Z.DLawBaseData.F.kp Z.DLawBaseData.b .nil pass0 (pa_cons (pv 2) (pa_cons (pv 3) (pa_cons pe_int pa_nil)))) pa_nil))))) (pw_or1 (pt_not (pt_val (pe_call GLawSame (hr.mono (by omega)) (by rfl) Z.DLawSame.g Z.DLawSame.F.kp Z.DLawSame.b .nil pass0 (pa_cons (pe_fld (pv 4) rfl) (pa_cons pe_int pa_nil)))))))) (pss_one (ps_ret pe_bl)) pss_nil)
        (pss_cons (ps_for PassesOwn.never rfl (pi_range1 (by rfl) Z.range (pa_cons (pe_call GLawNext (hr.mono (by omega)) (by rfl) Z.DLawNext.g Z.DLawNext.F.kp Z.DLawNext.b .nil pass0 (pa_cons (pv 1) (pa_cons pe_int pa_nil))) pa_nil)) (pg_name (i := 5) scLaw.nd rfl (.inl rfl)) (pss_cons (ps_set (i := 6) scLaw.nd rfl (.inl rfl) (pe_call GLawGroup (hr.mono (by omega)) (by rfl) Z.DLawGroup.g Z.DLawGroup.F.kp Z.DLawGroup.b .nil pass0 (pa_cons (pv 1) (pa_cons (pv 2) pa_nil))))
        (pss_cons (ps_set (i := 7) scLaw.nd rfl (.inl rfl) (pe_lst (pa_cons (pe_callTy call_list_of (by rfl) Z.list HL.boot_list (pa_cons (pe_ix ix_list (pv 6) pe_int (fun _ _ => rfl)) pa_nil)) (pa_cons (pe_callTy call_list_of (by rfl) Z.list HL.boot_list (pa_cons (pe_ix ix_list (pv 6) pe_int (fun _ _ => rfl)) pa_nil)) pa_nil))))
        (pss_cons (ps_set (i := 8) scLaw.nd rfl (.inl rfl) (pe_call GLawBaseData (hr.mono (by omega)) (by rfl) Z.DLawBaseData.g Z.DLawBaseData.F.kp Z.DLawBaseData.b .nil pass0 (pa_cons (pv 2) (pa_cons (pv 3) (pa_cons (pv 5) pa_nil)))))
        (pss_cons (ps_set (i := 9) scLaw.nd rfl (.inl rfl) (pe_meth (pv 4) Z.CBase.cl Z.DBaseGrown.m GBaseGrown (hr.mono (by omega)) Z.DBaseGrown.b .nil pass0 (pa_cons (pe_ix ix_list (pv 7) pe_int (fun _ _ => rfl)) (pa_cons (pe_ix ix_list (pv 7) pe_int (fun _ _ => rfl)) pa_nil))))
        (pss_cons (ps_if (PW.pt (pw_or (pt_not (pt_val (pe_call GLawSame (hr.mono (by omega)) (by rfl) Z.DLawSame.g Z.DLawSame.F.kp Z.DLawSame.b .nil pass0 (pa_cons (pe_meth0 (pv 4) Z.CBase.cl Z.DBaseData.m GBaseData (hr.mono (by omega)) Z.DBaseData.b .nil pass0) (pa_cons (pv 8) pa_nil))))) (pw_or1 (pt_not (pt_val (pe_call GLawSame (hr.mono (by omega)) (by rfl) Z.DLawSame.g Z.DLawSame.F.kp Z.DLawSame.b .nil pass0 (pa_cons (pv 7) (pa_cons (pv 6) pa_nil)))))))) (pss_one (ps_ret pe_bl)) pss_nil)
        (pss_cons (ps_asg (pe_call GLawGrown (hr.mono (by omega)) (by rfl) Z.DLawGrown.g Z.DLawGrown.F.kp Z.DLawGrown.b .nil pass0 (pa_cons (pv 2) (pa_cons (pv 3) (pa_cons (pv 6) pa_nil)))) (pg_unl rfl (pgs_cons (pg_name (i := 2) scLaw.nd rfl (.inl rfl)) (pgs_cons (pg_name (i := 3) scLaw.nd rfl (.inl rfl)) pgs_nil))))
        (pss_cons (ps_set (i := 10) scLaw.nd rfl (.inl rfl) (pe_call GLawBaseData (hr.mono (by omega)) (by rfl) Z.DLawBaseData.g Z.DLawBaseData.F.kp Z.DLawBaseData.b .nil pass0 (pa_cons (pv 2) (pa_cons (pv 3) (pa_cons (pe_op op_add (pv 5) pe_int) pa_nil)))))
        (pss_cons (ps_if (PW.pt (pw_or (pt_not (pt_val (pe_call GLawSame (hr.mono (by omega)) (by rfl) Z.DLawSame.g Z.DLawSame.F.kp Z.DLawSame.b .nil pass0 (pa_cons (pe_meth0 (pv 9) Z.CBase.cl Z.DBaseData.m GBaseData (hr.mono (by omega)) Z.DBaseData.b .nil pass0) (pa_cons (pv 10) pa_nil))))) (pw_or1 (pt_not (pt_val (pe_call GLawSame (hr.mono (by omega)) (by rfl) Z.DLawSame.g Z.DLawSame.F.kp Z.DLawSame.b .nil pass0 (pa_cons (pe_fld (pv 9) rfl) (pa_cons (pe_op op_add (pv 5) pe_int) pa_nil)))))))) (pss_one (ps_ret pe_bl)) pss_nil)
        (pss_cons (ps_if (PW.pt (pw_or (pt_not (pt_val (pe_call GLawSame (hr.mono (by omega)) (by rfl) Z.DLawSame.g Z.DLawSame.F.kp Z.DLawSame.b .nil pass0 (pa_cons (pe_fld (pe_fld (pv 9) rfl) rfl) (pa_cons (pv 2) pa_nil))))) (pw_or1 (pt_not (pt_val (pe_call GLawIsDict (hr.mono (by omega)) (by rfl) Z.DLawIsDict.g Z.DLawIsDict.F.kp Z.DLawIsDict.b .nil pass0 (pa_cons (pe_fld (pv 9) rfl) (pa_cons (pv 3) pa_nil)))))))) (pss_one (ps_ret pe_bl)) pss_nil)
        (pss_cons (ps_set (i := 11) scLaw.nd rfl (.inl rfl) (pe_meth0 (pv 9) Z.CBase.cl Z.DBaseCopy.m GBaseCopy (hr.mono (by omega)) Z.DBaseCopy.b .nil pass0))
        (pss_cons (ps_if (pt_not (pt_val (pe_call GLawSame (hr.mono (by omega)) (by rfl) Z.DLawSame.g Z.DLawSame.F.kp Z.DLawSame.b .nil pass0 (pa_cons (pe_meth0 (pv 11) Z.CBase.cl Z.DBaseData.m GBaseData (hr.mono (by omega)) Z.DBaseData.b .nil pass0) (pa_cons (pv 10) pa_nil))))) (pss_one (ps_ret pe_bl)) pss_nil)
        (pss_cons (ps_expr (pe_call GLawSpoil (hr.mono (by omega)) (by rfl) Z.DLawSpoil.g Z.DLawSpoil.F.kp Z.DLawSpoil.b .nil pass0 (pa_cons (pe_ix ix_list (pe_lst (pa_cons (pv 4) (pa_cons (pv 11) pa_nil))) (pe_call GLawNext (hr.mono (by omega)) (by rfl) Z.DLawNext.g Z.DLawNext.F.kp Z.DLawNext.b .nil pass0 (pa_cons (pv 1) (pa_cons pe_int pa_nil))) (fun _ _ => rfl)) pa_nil)))
        (pss_cons (ps_if (pt_not (pt_val (pe_call GLawSame (hr.mono (by omega)) (by rfl) Z.DLawSame.g Z.DLawSame.F.kp Z.DLawSame.b .nil pass0 (pa_cons (pe_meth0 (pv 9) Z.CBase.cl Z.DBaseData.m GBaseData (hr.mono (by omega)) Z.DBaseData.b .nil pass0) (pa_cons (pv 10) pa_nil))))) (pss_one (ps_ret pe_bl)) pss_nil)
        (pss_cons (ps_set (i := 11) scLaw.nd rfl (.inl rfl) (pe_meth0 (pv 9) Z.CBase.cl Z.DBaseCopy.m GBaseCopy (hr.mono (by omega)) Z.DBaseCopy.b .nil pass0))
        (pss_cons (ps_expr (pe_call GLawSpoil (hr.mono (by omega)) (by rfl) Z.DLawSpoil.g Z.DLawSpoil.F.kp Z.DLawSpoil.b .nil pass0 (pa_cons (pv 9) pa_nil)))
        (pss_cons (ps_if (pt_not (pt_val (pe_call GLawSame (hr.mono (by omega)) (by rfl) Z.DLawSame.g Z.DLawSame.F.kp Z.DLawSame.b .nil pass0 (pa_cons (pe_meth0 (pv 11) Z.CBase.cl Z.DBaseData.m GBaseData (hr.mono (by omega)) Z.DBaseData.b .nil pass0) (pa_cons (pv 10) pa_nil))))) (pss_one (ps_ret pe_bl)) pss_nil)
        (pss_one (ps_set (i := 4) scLaw.nd rfl (.inl rfl) (pv 11))))))))))))))))))))
        (pss_one (ps_ret pe_bl)))))))), ?_⟩
    have hsz : 1000000 ≤ sizeLine := by decide
    refine ⟨_, rfl, a, ns, rfl, hS, hl, fun q H1 ds hd0 s1 hd hdl hD => ⟨(by show 2 ≤ sizeLine; decide), fun p hp => ?_⟩⟩
    have s2 := same_upd (o := .lst [.ref q, .int 20]) hp
    have g2 : upd H1 p (.lst [.ref q, .int 20]) p = some (.lst [.ref q, .int 20]) := upd_same
    generalize upd H1 p (.lst [.ref q, .int 20]) = H2 at s2 g2
    have S2 : StN H2 p q ds := ⟨s2 _ _ hd, hD, 20, by decide, g2⟩
    refine ⟨8, rfl, by decide, by decide, fun A0 hA0 => ?_⟩
    refine lc_range (lo := 0) (n := 8) (fun i H' => Same H2 H' ∧ ∃ rs : List Addr, H' A0 = some (.lst (rs.map V.ref)) ∧ rs.length = i ∧ ∀ a ∈ rs, a ≠ A0 ∧ H' a = some (.lst [])) ⟨same_upd hA0, [], upd_same, rfl, fun a h => by cases h⟩ ?_ ?_
    · rintro i H3 hi ⟨s3, rs, hA3, hrl, hrs⟩
      refine ⟨rfl, lc_yes ⟨Nat.zero_le _, fun r hr' => ?_⟩⟩
      have nrA : r ≠ A0 := fun e => by rw [e, hA3] at hr'; cases hr'
      have old : ∀ b ∈ rs, b ≠ r := fun b hb e => by have := (hrs b hb).2; rw [e, hr'] at this; cases this
      refine ⟨_, by rw [upd_ne (fun e => nrA e.symm)]; exact hA3, by rw [List.length_map, hrl]; omega, fun z o hz => by rw [upd_ne (ne_of_none hz hA0), upd_ne (ne_of_none (s3 _ _ hz) hr')]; exact s3 _ _ hz, rs ++ [r], by rw [upd_same, List.map_append]; rfl, by rw [List.length_append, hrl]; rfl, fun b hb => ?_⟩
      rcases List.mem_append.mp hb with hb | hb
      · obtain ⟨h1, h2⟩ := hrs b hb
        exact ⟨h1, by rw [upd_ne h1, upd_ne (old b hb)]; exact h2⟩
      · rw [List.mem_singleton.mp hb]
        exact ⟨nrA, by rw [upd_ne nrA, upd_same]⟩
    · rintro H3 ⟨s3, rs, hA3, hrl, hrs⟩
      have R3 : RowsAt H3 A0 rs (fun _ => []) := ⟨hA3, hrl, fun i a h => ⟨[], (hrs a (List.mem_of_getElem? h)).2, .nil⟩⟩
      have S3 := S2.sm s3
      refine fun ha hha => ?_
      have s4 := same_upd (o := .dK []) hha
      have g4 : upd H3 ha (.dK []) ha = some (.dK []) := upd_same
      generalize upd H3 ha (.dK []) = H4 at s4 g4
      have S4 := S3.sm s4
      refine fun b bx hb hbx nbx => ⟨b, bx, rfl, upd_same, fun H5 N f5 B5 n5 => ⟨rfl, ?_⟩⟩
      have s5 : Same H4 H5 := fun z o h => f5 _ _ (by rw [upd_ne (ne_of_none h hb), upd_ne (ne_of_none h hbx)]; exact h) (ne_of_none h hb)
      have n5' : ∀ z, N z → H4 z = none := fun z h => by
        rcases n5 z h with e | e
        · rw [e]; exact hb
        · by_cases e1 : z = b
          · rw [e1]; exact hb
          · rw [upd_ne e1] at e
            by_cases e2 : z = bx
            · rw [e2]; exact hbx
            · rw [upd_ne e2] at e; exact e
      have S5 := S4.sm s5
      have I5 : LI Z.cDeeds Z.cBase p q A0 ha b ds rs (fun _ => []) [] 0 N H5 := by
        obtain ⟨i0, hp4⟩ := S4.at
        refine ⟨S5, (R3.keep s4).keep s5, ⟨[], s5 _ _ g4, .nil⟩, B5, ⟨(fun h e => by cases e), .nil, Nat.zero_le _⟩, (fun r _ d h => by cases h), Nat.le_refl _, Nat.zero_le _, fun h => ?_, fun h => ?_⟩
        · rw [n5' p h] at hp4; cases hp4
        · have := S4.1; rw [n5' q h] at this; cases this
      clear s5 n5' n5 f5 B5 S5 nbx hbx hb S4 g4 s4 hha S3 R3 hrs hrl hA3 s3 hA0 S2 g2 s2 hp hd hdl s1 hd0
      have hF0 : FewT (fun _ => []) := I5.few (by decide)
      obtain ⟨dx, dq, hd, Nd, BB⟩ := id I5.ba
      refine ⟨_, rfl, b, dx, _, rfl, BB.hp, bflds_no _ _ _ (by decide +kernel) (by decide +kernel) (by decide +kernel), b, _, [], 0, N, rfl, I5.ba, Nat.zero_le _, fun H6 x s6 hx => ?_⟩
      have I6 := I5.same s6
      refine ⟨_, rfl, _, rfl, A0, ha, rs, _, [], 0, rfl, I6.r, I6.he, Nat.zero_le _, fun H7 y s7 hy => ?_⟩
      have I7 := I6.same s7
      refine ⟨x, y, rfl, data_same hF0 I7.hk (hx.keep (Same.tk s7)) hy, fun H8 s8 => ⟨_, rfl, iteF ?_⟩⟩
      have I8 := I7.same s8
      obtain ⟨dx8, dq8, hd8, Nd8, BB8⟩ := id I8.ba
      refine ⟨_, rfl, b, Z.cBase, dx8, _, _, rfl, BB8.hp, Z.CBase.cl, Z.nBase_commits, bflds_commits _ _ _, vi 0, .int 0, rfl, .leaf True.intro, fun H9 s9 => ⟨_, rfl, iteF ?_⟩⟩
      have I9 := I8.same s9
      clear I5 I6 I7 I8 BB BB8 hx hy s6 s7 s8 s9 hF0
      refine ⟨_, rfl, p, q, ds, 10, rfl, I9.st, by decide, fun H10 v S10 b10 v0 v1 => ⟨v, rfl, by omega, by omega, ?_⟩⟩
      have I10 := I9.bt (Bt.of b10) S10
      clear I9
      refine for_range (lo := 0) (n := v.toNat) (fun i σ H' => ∃ (A ha b : Addr) (rs : List Addr) (R : Rows) (hs : List HC) (N : Addr → Prop) (y5 y6 y7 y8 y9 y10 y11 : Option V), σ = [some (.ref a), some (.ref p), some (.ref A), some (.ref ha), some (.ref b), y5, y6, y7, y8, y9, y10, y11] ∧ LI Z.cDeeds Z.cBase p q A ha b ds rs R hs i N H')
        ⟨A0, ha, b, rs, _, [], N, _, _, _, _, _, _, _, rfl, I10⟩ ?_ ?_
      · clear I10
        rintro k σ H11 hk ⟨A, ha, b, rs, R, hs, N, y5, y6, y7, y8, y9, y10, y11, rfl, I⟩
        have hk9 : k ≤ 8 := by omega
        have hF := I.few (by omega)
        have htot := I.le
        have hlh := I.lh
        rw [show V.int (0 + (k : Int)) = vi k from congrArg V.int (by omega)]
        refine ⟨_, rfl, _, rfl, p, q, A, ds, rs, R, rfl, I.st, I.r, fun r hr' => (hF r hr').1, fun H12 g l1 l2 us1 us2 ts cs S12 B12 hg h1 hu1 h2 hu2 hts hcs htl hcl => ?_⟩
        have I12 := I.bt B12 S12
        clear I
        refine ⟨_, rfl, g, _, 0, _, rfl, rfl, SqL.of hg, rfl, l1, us1, rfl, .inl (SqL.of h1), fun m1 hm1 => ?_⟩
        have s13 := same_upd (o := .lst us1) hm1
        have gm1 : upd H12 m1 (.lst us1) m1 = some (.lst us1) := upd_same
        generalize upd H12 m1 (.lst us1) = H13 at s13 gm1
        refine ⟨_, rfl, g, _, 1, _, rfl, rfl, SqL.of (s13 _ _ hg), rfl, l2, us2, rfl, .inl (SqL.of (s13 _ _ h2)), fun m2 hm2 => ?_⟩
        have s14 := same_upd (o := .lst us2) hm2
        have gm2 : upd H13 m2 (.lst us2) m2 = some (.lst us2) := upd_same
        generalize upd H13 m2 (.lst us2) = H14 at s14 gm2
        refine ⟨(by show 2 ≤ sizeLine; decide), fun ps hps => ?_⟩
        have s15 := same_upd (o := .lst [.ref m1, .ref m2]) hps
        have gps : upd H14 ps (.lst [.ref m1, .ref m2]) ps = some (.lst [.ref m1, .ref m2]) := upd_same
        generalize upd H14 ps (.lst [.ref m1, .ref m2]) = H15 at s15 gps
        have s1215 := Same.tr s13 (Same.tr s14 s15)
        have I15 := I12.same s1215
        have k15 := Same.tk s1215
        have G15 : H15 g = some (.lst [.ref l1, .ref l2]) ∧ H15 l1 = some (.lst us1) ∧ H15 l2 = some (.lst us2) ∧ H15 m1 = some (.lst us1) ∧ H15 m2 = some (.lst us2) ∧ H15 ps = some (.lst [.ref m1, .ref m2]) := ⟨s1215 _ _ hg, s1215 _ _ h1, s1215 _ _ h2, s15 _ _ (s14 _ _ gm1), s15 _ _ gm2, gps⟩
        have hu1' := hu1.mono fun v e h => h.keep k15
        have hu2' := hu2.mono fun v e h => h.keep k15
        have hcs' : ∀ c ∈ cs, Tr H15 90 c.2.1 ∧ Tr H15 90 c.2.2 := fun c hc => ⟨(hcs c hc).1.keep k15, (hcs c hc).2.keep k15⟩
        clear hu1 hu2 hcs k15 I12 s1215 gps s15 gm2 s14 gm1 s13 hg h1 h2 hps hm2 hm1 B12 S12
        refine ⟨_, rfl, _, rfl, _, rfl, A, ha, rs, R, hs, k, rfl, I15.r, I15.he, by omega, fun H16 bf s16 hbf => ?_⟩
        have I16 := I15.same s16
        obtain ⟨dx, dq, hd, Nd, BB⟩ := id I16.ba
        refine ⟨_, rfl, b, dx, _, rfl, BB.hp, bflds_no _ _ _ (by decide +kernel) (by decide +kernel) (by decide +kernel), _, rfl, ps, _, 0, _, rfl, rfl, SqL.of (s16 _ _ G15.2.2.2.2.2), rfl, _, rfl, ps, _, 1, _, rfl, rfl, SqL.of (s16 _ _ G15.2.2.2.2.2), rfl, ?_⟩
        have hhl : hs.length + cs.length ≤ 50 := by omega
        have htl' : tot R + ts.length ≤ 1000 := by omega
        refine ⟨b, m1, m2, us1, us2, ts, cs, R, hs, k, N, rfl, I16.ba, s16 _ _ G15.2.2.2.1, hu1'.mono (fun v e h => h.keep (Same.tk s16)), s16 _ _ G15.2.2.2.2.1, hu2'.mono (fun v e h => h.keep (Same.tk s16)), hhl, hts, htl', hF, fun H17 gb Ng s17 Bg ng => ?_⟩
        have I17 := I16.same s17
        obtain ⟨dx, dq, hd, Nd, BB⟩ := id I17.ba
        refine ⟨_, rfl, b, dx, _, rfl, BB.hp, bflds_no _ _ _ (by decide +kernel) (by decide +kernel) (by decide +kernel), b, R, hs, k, N, rfl, I17.ba, by omega, fun H18 x s18 hx => ?_⟩
        have s1518 := Same.tr s16 (Same.tr s17 s18)
        refine ⟨_, rfl, x, bf, rfl, data_same hF (I17.same s18).hk hx (hbf.keep (Same.tk (Same.tr s17 s18))), fun H19 s19 => ⟨_, rfl, iteF ?_⟩⟩
        have s1519 := Same.tr s1518 s19
        have k19 := Same.tk s1519
        have gsame : SameD K H19 93 (.ref ps) (.ref g) := group_same (s1519 _ _ G15.1) (s1519 _ _ G15.2.2.2.2.2) (s1519 _ _ G15.2.1) (s1519 _ _ G15.2.2.1) (s1519 _ _ G15.2.2.2.1) (s1519 _ _ G15.2.2.2.2.1) (hu1'.mono fun v e h => h.keep k19) (hu2'.mono fun v e h => h.keep k19) hts (fun c hc => ⟨(hcs' c hc).1.keep k19, (hcs' c hc).2.keep k19⟩) htl hcl
        refine ⟨_, rfl, _, rfl, .ref ps, .ref g, rfl, gsame, fun H20 s20 => ⟨_, rfl, iteF ?_⟩⟩
        have s1520 := Same.tr s1519 s20
        have s1620 := Same.tr s17 (Same.tr s18 (Same.tr s19 s20))
        have I20 := I15.same s1520
        have Bg20 := Bg.same (Same.tr s18 (Same.tr s19 s20))
        have ng16 : ∀ z, Ng z → H16 z = none := ng
        have k20 := Same.tk s1520
        refine ⟨_, rfl, _, rfl, _, rfl, A, ha, g, l1, l2, rs, R, hs, us1, us2, ts, cs, rfl, I20.r, I20.he, s1520 _ _ G15.1, s1520 _ _ G15.2.1, hu1'.mono (fun v e h => h.keep k20), s1520 _ _ G15.2.2.1, hu2'.mono (fun v e h => h.keep k20), hts, hhl, htl', fun H21 r A' rs' ha' s21 hr' R21 He21 nha nA nrs => ?_⟩
        have st21 := I20.st.sm s21
        have hcs20 : ∀ c ∈ cs, Tr H20 90 c.2.1 ∧ Tr H20 90 c.2.2 := fun c hc => ⟨(hcs' c hc).1.keep k20, (hcs' c hc).2.keep k20⟩
        have hk21 : HOk H21 (putAll hs cs) := (hok_all I20.hk hcs20 hhl).keep (Same.tk s21)
        have hok' := fewT_all I20.ok hts
        have htot' : tot (addAll R ts) ≤ 4 * (k + 1) := by rw [tot_all hts]; omega
        have hlh' : (putAll hs cs).length ≤ 3 * (k + 1) := by have := putAll_len (hs := hs) (cs := cs); omega
        have hF' : FewT (addAll R ts) := fun r hr' => ⟨by have := len_tot (R := addAll R ts) hr'; omega, hok' r hr'⟩
        have Bb21 := I20.ba.same s21
        have Bg21 := Bg20.same s21
        have nbN : ¬ N ha' ∧ ¬ N A' ∧ ∀ a ∈ rs', ¬ N a := ⟨I20.ba.old nha, I20.ba.old nA, fun a h => I20.ba.old (nrs a h)⟩
        have nbG : ¬ Ng ha' ∧ ¬ Ng A' ∧ ∀ a ∈ rs', ¬ Ng a := ⟨Bg20.old nha, Bg20.old nA, fun a h => Bg20.old (nrs a h)⟩
        have nNp := I20.np
        have nNq := I20.nq
        have st16 := I16.st
        have nGp : ¬ Ng p := fun h => by obtain ⟨i0, h0⟩ := st16.at; rw [ng16 p h] at h0; cases h0
        have nGq : ¬ Ng q := fun h => by have := st16.1; rw [ng16 q h] at this; cases this
        have nNG : ∀ z, Ng z → ¬ N z := fun z h1 h2 => I16.ba.old (ng16 z h1) h2
        refine ⟨r, _, rfl, SqL.of hr', rfl, _, _, rfl, _, _, rfl, rfl, ?_⟩
        have I21 : HOk H21 (putAll hs cs) := hk21
        have hl50 : (putAll hs cs).length ≤ 50 := by omega
        have h1000 : tot (addAll R ts) ≤ 1000 := by omega
        refine ⟨_, rfl, _, rfl, _, rfl, _, 1, rfl, rfl, A', ha', rs', addAll R ts, putAll hs cs, k + 1, ?_, R21, He21, hl50, fun H22 du s22 hdu => ?_⟩
        · show [V.ref A', V.ref ha', V.int ((k : Int) + 1)] = _
          rw [show V.int ((k : Int) + 1) = vi (k + 1) from congrArg V.int (by omega)]
        have Bg22 := Bg21.same s22
        have hk22 := hk21.keep (Same.tk s22)
        obtain ⟨gx, gq, gd, Ngd, GG⟩ := id Bg22
        refine ⟨_, rfl, gb, gx, _, rfl, GG.hp, bflds_no _ _ _ (by decide +kernel) (by decide +kernel) (by decide +kernel), gb, _, _, k + 1, Ng, rfl, Bg22, hl50, fun H23 x s23 hx => ?_⟩
        have k23 := Same.tk s23
        refine ⟨_, rfl, x, du, rfl, data_same hF' (hk22.keep k23) hx (hdu.keep k23), fun H24 s24 => ⟨_, rfl, iteF ?_⟩⟩
        have s2224 := Same.tr s23 s24
        have GG24 := GG.same s2224
        refine ⟨_, rfl, gb, Z.cBase, gx, _, _, rfl, GG24.hp, Z.CBase.cl, Z.nBase_commits, bflds_commits _ _ _, _, rfl, (k : Int), 1, rfl, rfl, vi (k + 1), .int ((k : Int) + 1), rfl, ?_, fun H25 s25 => ⟨_, rfl, iteF ?_⟩⟩
        · rw [show V.int ((k : Int) + 1) = vi (k + 1) from congrArg V.int (by omega)]
          exact .leaf True.intro
        have s2225 := Same.tr s2224 s25
        have GG25 := GG.same s2225
        have s2125 := Same.tr s22 s2225
        obtain ⟨du5, DA5, mk5, en5, drs5, kvs5, es5, S5⟩ := id GG25.dd
        refine ⟨_, rfl, gb, Z.cBase, gx, _, _, rfl, GG25.hp, Z.CBase.cl, Z.nBase_deeds, bflds_deeds _ _ _, gq, Z.cDeeds, du5, _, _, rfl, S5.hp, Z.CDeeds.cl, Z.nDeeds_rows, dflds_rows _ _ _, _, rfl, .ref DA5, .ref A', rfl, rows_same S5.hr (R21.keep s2125) hF', fun H26 s26 => ⟨_, rfl, iteF ?_⟩⟩
        have s2226 := Same.tr s2225 s26
        have GG26 := GG.same s2226
        have s2126 := Same.tr s22 s2226
        refine ⟨_, rfl, gb, Z.cBase, gx, _, _, rfl, GG26.hp, Z.CBase.cl, Z.nBase_held, bflds_held _ _ _, _, rfl, gd, ha', putAll hs cs, rfl, (fun e => nbG.1 (by rw [← e]; exact GG26.Nh)), GG26.he, He21.keep (Same.tk s2126) (fun o h => s2126 _ _ h), hk21.keep (Same.tk s2126), fun H27 s27 => ⟨_, rfl, iteF ?_⟩⟩
        have s2227 := Same.tr s2226 s27
        have s2127 := Same.tr s22 s2227
        have Bg27 := Bg22.same s2227
        have GG27 := GG.same s2227
        refine ⟨_, rfl, gb, gx, _, rfl, GG27.hp, bflds_no _ _ _ (by decide +kernel) (by decide +kernel) (by decide +kernel), gb, _, _, k + 1, Ng, rfl, Bg27, h1000, hF', fun H28 ob No s28 Bo no => ?_⟩
        obtain ⟨ox, oq, od, Nod, OO⟩ := id Bo
        refine ⟨_, rfl, ob, ox, _, rfl, OO.hp, bflds_no _ _ _ (by decide +kernel) (by decide +kernel) (by decide +kernel), ob, _, _, k + 1, No, rfl, Bo, hl50, fun H29 x s29 hx => ?_⟩
        have s2229 := Same.tr s2227 (Same.tr s28 s29)
        have k29 := Same.tk s2229
        refine ⟨_, rfl, x, du, rfl, data_same hF' (hk22.keep k29) hx (hdu.keep k29), fun H30 s30 => ⟨_, rfl, iteF ?_⟩⟩
        have s2130 := Same.tr s22 (Same.tr s2229 s30)
        have R30 := R21.keep s2130
        have He30 := He21.keep (Same.tk s2130) (fun o h => s2130 _ _ h)
        have hk30 := hk21.keep (Same.tk s2130)
        have Bg30 := Bg21.same s2130
        have Bb30 := Bb21.same s2130
        have Bo30 := Bo.same (Same.tr s29 s30)
        have hdu30 := hdu.keep (Same.tk (Same.tr s2229 s30))
        have st30 := st21.sm s2130
        have np' := RowsAt.np st30 R30
        have hp' := HeldAt.np st30 He30
        have st27 := st21.sm s2127
        have nOp : ¬ No p := fun h => by obtain ⟨i0, h0⟩ := st27.at; rw [no p h] at h0; cases h0
        have nOq : ¬ No q := fun h => by have := st27.1; rw [no q h] at this; cases this
        have nOG : ∀ z, Ng z → ¬ No z := fun z h1 h2 => Bg27.old (no z h2) h1
        have R27 := R21.keep s2127
        have nOA : ¬ No A' := fun h => by have := R27.h; rw [no _ h] at this; cases this
        have nOr : ∀ a ∈ rs', ¬ No a := fun a ha2 h => by
          obtain ⟨j, hj⟩ := List.mem_iff_getElem?.mp ha2
          obtain ⟨us, hu, _⟩ := R27.r j a hj
          rw [no _ h] at hu
          cases hu
        have nOh : ¬ No ha' := fun h => by
          obtain ⟨kv, hkv, _⟩ := He21.keep (Same.tk s2127) (fun o h => s2127 _ _ h)
          rw [no _ h] at hkv
          cases hkv
        clear s2130 s30 k29 s2229 s29 hx OO s28 Bg27 GG27 s2127 s2227 s27 GG26 s2126 s2226 s26 S5 GG25 s2125 s2225 s25 GG24 s2224 s24 k23 s23 GG Bg22 hk22 hdu s22 st27 R27
        refine ⟨_, rfl, _, rfl, (by show 2 ≤ sizeLine; decide), fun sl hsl => ?_⟩
        have s31 := same_upd (o := .lst [.ref b, .ref ob]) hsl
        have g31 : upd H30 sl (.lst [.ref b, .ref ob]) sl = some (.lst [.ref b, .ref ob]) := upd_same
        generalize upd H30 sl (.lst [.ref b, .ref ob]) = H31 at s31 g31
        have st31 := st30.sm s31
        refine ⟨_, rfl, p, q, ds, 2, rfl, st31, by decide, fun H32 u st32 b32 u0 u1 => ?_⟩
        have B32 := Bt.tr (Bt.same s31) (Bt.of b32)
        have g32 := Bt.of b32 _ _ g31 (st30.nn hsl)
        have k32 := Bt.tk B32 st30
        have R32 : RowsAt H32 A' rs' (addAll R ts) := RowsAt.bt R30 B32 k32 np'.1 np'.2
        have He32 := He30.keep k32 fun o h => B32 _ _ h hp'
        have Bg32 := Bg30.stay (fun z o h m => B32 _ _ h fun e => nGp (by rw [← e]; exact m)) k32
        have hdu32 := hdu30.keep k32
        have hk32 := hk30.keep k32
        obtain ⟨xb, Rx, hsx, nx, Nx, gx, Bx, hx1, hx2, xp, xq, xA, xr, xh, xG⟩ : ∃ (xb : Addr) (Rx : Rows) (hsx : List HC) (nx : Nat) (Nx : Addr → Prop), atI [V.ref b, V.ref ob] u = some (.ref xb) ∧ BaseAt Z.cDeeds Z.cBase H32 xb Rx hsx nx Nx ∧ tot Rx ≤ 1000 ∧ hsx.length ≤ 50 ∧ ¬ Nx p ∧ ¬ Nx q ∧ ¬ Nx A' ∧ (∀ a ∈ rs', ¬ Nx a) ∧ ¬ Nx ha' ∧ ∀ z, Ng z → ¬ Nx z := by
          have h : u = 0 ∨ u = 1 := by omega
          rcases h with rfl | rfl
          · exact ⟨b, R, hs, k, N, rfl, Bb30.stay (fun z o h m => B32 _ _ h fun e => nNp (by rw [← e]; exact m)) k32, by omega, by omega, nNp, nNq, nbN.2.1, nbN.2.2, nbN.1, nNG⟩
          · exact ⟨ob, addAll R ts, putAll hs cs, k + 1, No, rfl, Bo30.stay (fun z o h m => B32 _ _ h fun e => nOp (by rw [← e]; exact m)) k32, h1000, hl50, nOp, nOq, nOA, nOr, nOh, nOG⟩
        clear R30 He30 Bg30 Bb30 Bo30 hdu30 hk30 B32 k32 st31 s31 hsl np' hp' st30
        refine ⟨sl, _, _, _, rfl, rfl, SqL.of g32, gx, xb, Rx, hsx, nx, Nx, rfl, Bx, hx1, hx2, fun H33 f33 => ?_⟩
        have k33 := Bx.tk f33
        have st33 : StN H33 p q ds := st32.same fun z o hz h => f33 _ _ h fun m => by
          rcases hz with rfl | rfl
          · exact xp m
          · exact xq m
        have R33 : RowsAt H33 A' rs' (addAll R ts) := ⟨f33 _ _ R32.h xA, R32.n, fun i a h => by
          obtain ⟨us, h1, h2⟩ := R32.r i a h
          exact ⟨us, f33 _ _ h1 (xr a (List.mem_of_getElem? h)), h2.mono fun v d h => h.keep k33⟩⟩
        have He33 := He32.keep k33 fun o h => f33 _ _ h xh
        have Bg33 := Bg32.stay (fun z o h m => f33 _ _ h (xG z m)) k33
        have hdu33 := hdu32.keep k33
        have hk33 := hk32.keep k33
        clear f33 k33 Bx gx g32 R32 He32 Bg32 hdu32 hk32 st32
        obtain ⟨gx, gq, gd, Ngd, GG⟩ := id Bg33
        refine ⟨_, rfl, gb, gx, _, rfl, GG.hp, bflds_no _ _ _ (by decide +kernel) (by decide +kernel) (by decide +kernel), gb, _, _, k + 1, Ng, rfl, Bg33, hl50, fun H34 x s34 hx => ?_⟩
        refine ⟨_, rfl, x, du, rfl, data_same hF' (hk33.keep (Same.tk s34)) hx (hdu33.keep (Same.tk s34)), fun H35 s35 => ⟨_, rfl, iteF ?_⟩⟩
        have s3335 := Same.tr s34 s35
        have Bg35 := Bg33.same s3335
        have GG35 := GG.same s3335
        refine ⟨_, rfl, gb, gx, _, rfl, GG35.hp, bflds_no _ _ _ (by decide +kernel) (by decide +kernel) (by decide +kernel), gb, _, _, k + 1, Ng, rfl, Bg35, h1000, hF', fun H36 o2 N2 s36 B2 n2 => ?_⟩
        have s3336 := Same.tr s3335 s36
        have Bg36 := Bg35.same s36
        have st36 := st33.sm s3336
        have R36 := R33.keep s3336
        have He36 := He33.keep (Same.tk s3336) fun o h => s3336 _ _ h
        have hdu36 := hdu33.keep (Same.tk s3336)
        have hk36 := hk33.keep (Same.tk s3336)
        have st35 := st33.sm s3335
        have n2p : ¬ N2 p := fun h => by obtain ⟨i0, h0⟩ := st35.at; rw [n2 p h] at h0; cases h0
        have n2q : ¬ N2 q := fun h => by have := st35.1; rw [n2 q h] at this; cases this
        have n2G : ∀ z, N2 z → ¬ Ng z := fun z h1 h2 => Bg35.old (n2 z h1) h2
        refine ⟨_, rfl, gb, addAll R ts, putAll hs cs, k + 1, Ng, rfl, Bg36, h1000, hl50, fun H37 f37 => ?_⟩
        have k37 := Bg36.tk f37
        have I37 : LI Z.cDeeds Z.cBase p q A' ha' o2 ds rs' (addAll R ts) (putAll hs cs) (k + 1) N2 H37 := by
          refine ⟨st36.same fun z o hz h => f37 _ _ h fun m => ?_, ⟨f37 _ _ R36.h nbG.2.1, R36.n, fun i a h => ?_⟩, He36.keep k37 fun o h => f37 _ _ h nbG.1, B2.stay (fun z o h m => f37 _ _ h (n2G z m)) k37, hk36.keep k37, hok', htot', hlh', n2p, n2q⟩
          · rcases hz with rfl | rfl
            · exact nGp m
            · exact nGq m
          · obtain ⟨us, h1, h2⟩ := R36.r i a h
            exact ⟨us, f37 _ _ h1 (nbG.2.2 a (List.mem_of_getElem? h)), h2.mono fun v d h => h.keep k37⟩
        have hdu37 := hdu36.keep k37
        obtain ⟨ox, oq, od, Nod, OO⟩ := id I37.ba
        refine ⟨_, rfl, o2, ox, _, rfl, OO.hp, bflds_no _ _ _ (by decide +kernel) (by decide +kernel) (by decide +kernel), o2, _, _, k + 1, N2, rfl, I37.ba, hl50, fun H38 x s38 hx => ?_⟩
        refine ⟨_, rfl, x, du, rfl, data_same hF' (I37.same s38).hk hx (hdu37.keep (Same.tk s38)), fun H39 s39 => ⟨_, rfl, iteF ?_⟩⟩
        exact ⟨_, rfl, A', ha', o2, rs', addAll R ts, putAll hs cs, N2, _, _, _, _, _, _, _, rfl, I37.same (Same.tr s38 s39)⟩
      · rintro σ H11 ⟨A, ha, b, rs, R, hs, N, y5, y6, y7, y8, y9, y10, y11, rfl, I⟩
        exact qq _
end
end Q44
namespace Q44
open PySem PySem.Spec PyProof.Rows L2 SX HL
theorem all_mk {l : PySem.W.OpenLaw} {w : World} {K : PySem.W.Frag} {h : Heap} {mg : Str → Option Value} {fa f1 f2 f3 f4 f5 f6 f7 f8 f9 f10 f11 f12 f13 f14 f15 f16 f17 f18 f19 f20 f21 : Addr} (X : K.In h) (G : h.Ns mainGlobals mg) (hfa : mg "law" = some (.ref fa))
    {od1 an1 od2 an2 od3 an3 od4 an4 od5 an5 od6 an6 od7 an7 od8 an8 od9 an9 od10 an10 od11 an11 od12 an12 od13 an13 od14 an14 od15 an15 od16 an16 od17 an17 od18 an18 od19 an19 od20 an20 od21 an21 : Option Addr} {sl1 sl2 sl3 sl4 sl5 sl6 sl7 sl8 sl9 sl10 sl11 sl12 sl13 sl14 sl15 sl16 sl17 sl18 sl19 sl20 sl21 : Array (Option Value)} {oc1 kV1 dc1 pm1 cd1 ct1 oc2 kV2 dc2 pm2 cd2 ct2 oc3 kV3 dc3 pm3 cd3 ct3 oc4 kV4 dc4 pm4 cd4 ct4 oc5 kV5 dc5 pm5 cd5 ct5 oc6 kV6 dc6 pm6 cd6 ct6 oc7 kV7 dc7 pm7 cd7 ct7 oc8 kV8 dc8 pm8 cd8 ct8 oc9 kV9 dc9 pm9 cd9 ct9 oc10 kV10 dc10 pm10 cd10 ct10 oc11 kV11 dc11 pm11 cd11 ct11 oc12 kV12 dc12 pm12 cd12 ct12 oc13 kV13 dc13 pm13 cd13 ct13 oc14 kV14 dc14 pm14 cd14 ct14 oc15 kV15 dc15 pm15 cd15 ct15 oc16 kV16 dc16 pm16 cd16 ct16 oc17 kV17 dc17 pm17 cd17 ct17 oc18 kV18 dc18 pm18 cd18 ct18 oc19 kV19 dc19 pm19 cd19 ct19 oc20 kV20 dc20 pm20 cd20 ct20 oc21 kV21 dc21 pm21 cd21 ct21 : Value}
    {cDeeds cBase g1 g2 g3 g4 g5 g6 g7 g8 g9 g10 : Addr} {Od1 An1 Od2 An2 Od3 An3 Od4 An4 Od5 An5 Od6 An6 Od7 An7 Od8 An8 Od9 An9 Od10 An10 : Option Addr} {Sl1 Sl2 Sl3 Sl4 Sl5 Sl6 Sl7 Sl8 Sl9 Sl10 : Array (Option Value)} {Oc1 KV1 Dc1 Pm1 Cd1 Ct1 Oc2 KV2 Dc2 Pm2 Cd2 Ct2 Oc3 KV3 Dc3 Pm3 Cd3 Ct3 Oc4 KV4 Dc4 Pm4 Cd4 Ct4 Oc5 KV5 Dc5 Pm5 Cd5 Ct5 Oc6 KV6 Dc6 Pm6 Cd6 Ct6 Oc7 KV7 Dc7 Pm7 Cd7 Ct7 Oc8 KV8 Dc8 Pm8 Cd8 Ct8 Oc9 KV9 Dc9 Pm9 Cd9 Ct9 Oc10 KV10 Dc10 Pm10 Cd10 Ct10 : Value}
    {tREPLICAS : Tok}
    (a1 : PySem.W.nsIn K mainGlobals "inserted" = some (some (.ref f1)))
    (l1 : K.lookup f1 = some ⟨oc1, od1, .func (PySem.W.fnOf "inserted" "inserted" (defArgs sInserted) (defBody sInserted) (defScope sInserted) .none kV1 dc1 pm1 an1 cd1 ct1), sl1⟩)
    (c1 : PySem.W.codeIn K cd1 "inserted" = true)
    (k1 : PySem.W.keepIn K (.ref f1) = true)
    (a2 : PySem.W.nsIn K mainGlobals "_law_mix" = some (some (.ref f2)))
    (l2 : K.lookup f2 = some ⟨oc2, od2, .func (PySem.W.fnOf "_law_mix" "_law_mix" (defArgs sLawMix) (defBody sLawMix) (defScope sLawMix) .none kV2 dc2 pm2 an2 cd2 ct2), sl2⟩)
    (c2 : PySem.W.codeIn K cd2 "_law_mix" = true)
    (k2 : PySem.W.keepIn K (.ref f2) = true)
    (a3 : PySem.W.nsIn K mainGlobals "_law_draws" = some (some (.ref f3)))
    (l3 : K.lookup f3 = some ⟨oc3, od3, .func (PySem.W.fnOf "_law_draws" "_law_draws" (defArgs sLawDraws) (defBody sLawDraws) (defScope sLawDraws) .none kV3 dc3 pm3 an3 cd3 ct3), sl3⟩)
    (c3 : PySem.W.codeIn K cd3 "_law_draws" = true)
    (k3 : PySem.W.keepIn K (.ref f3) = true)
    (a4 : PySem.W.nsIn K mainGlobals "_law_at" = some (some (.ref f4)))
    (l4 : K.lookup f4 = some ⟨oc4, od4, .func (PySem.W.fnOf "_law_at" "_law_at" (defArgs sLawAt) (defBody sLawAt) (defScope sLawAt) .none kV4 dc4 pm4 an4 cd4 ct4), sl4⟩)
    (c4 : PySem.W.codeIn K cd4 "_law_at" = true)
    (k4 : PySem.W.keepIn K (.ref f4) = true)
    (a5 : PySem.W.nsIn K mainGlobals "_law_is_integer" = some (some (.ref f5)))
    (l5 : K.lookup f5 = some ⟨oc5, od5, .func (PySem.W.fnOf "_law_is_integer" "_law_is_integer" (defArgs sLawIsInteger) (defBody sLawIsInteger) (defScope sLawIsInteger) .none kV5 dc5 pm5 an5 cd5 ct5), sl5⟩)
    (c5 : PySem.W.codeIn K cd5 "_law_is_integer" = true)
    (k5 : PySem.W.keepIn K (.ref f5) = true)
    (a6 : PySem.W.nsIn K mainGlobals "_law_same" = some (some (.ref f6)))
    (l6 : K.lookup f6 = some ⟨oc6, od6, .func (PySem.W.fnOf "_law_same" "_law_same" (defArgs sLawSame) (defBody sLawSame) (defScope sLawSame) .none kV6 dc6 pm6 an6 cd6 ct6), sl6⟩)
    (c6 : PySem.W.codeIn K cd6 "_law_same" = true)
    (k6 : PySem.W.keepIn K (.ref f6) = true)
    (a7 : PySem.W.nsIn K mainGlobals "_law_is_dict" = some (some (.ref f7)))
    (l7 : K.lookup f7 = some ⟨oc7, od7, .func (PySem.W.fnOf "_law_is_dict" "_law_is_dict" (defArgs sLawIsDict) (defBody sLawIsDict) (defScope sLawIsDict) .none kV7 dc7 pm7 an7 cd7 ct7), sl7⟩)
    (c7 : PySem.W.codeIn K cd7 "_law_is_dict" = true)
    (k7 : PySem.W.keepIn K (.ref f7) = true)
    (a8 : PySem.W.nsIn K mainGlobals "_law_next" = some (some (.ref f8)))
    (l8 : K.lookup f8 = some ⟨oc8, od8, .func (PySem.W.fnOf "_law_next" "_law_next" (defArgs sLawNext) (defBody sLawNext) (defScope sLawNext) .none kV8 dc8 pm8 an8 cd8 ct8), sl8⟩)
    (c8 : PySem.W.codeIn K cd8 "_law_next" = true)
    (k8 : PySem.W.keepIn K (.ref f8) = true)
    (a9 : PySem.W.nsIn K mainGlobals "_law_word" = some (some (.ref f9)))
    (l9 : K.lookup f9 = some ⟨oc9, od9, .func (PySem.W.fnOf "_law_word" "_law_word" (defArgs sLawWord) (defBody sLawWord) (defScope sLawWord) .none kV9 dc9 pm9 an9 cd9 ct9), sl9⟩)
    (c9 : PySem.W.codeIn K cd9 "_law_word" = true)
    (k9 : PySem.W.keepIn K (.ref f9) = true)
    (a10 : PySem.W.nsIn K mainGlobals "_law_text_of" = some (some (.ref f10)))
    (l10 : K.lookup f10 = some ⟨oc10, od10, .func (PySem.W.fnOf "_law_text_of" "_law_text_of" (defArgs sLawTextOf) (defBody sLawTextOf) (defScope sLawTextOf) .none kV10 dc10 pm10 an10 cd10 ct10), sl10⟩)
    (c10 : PySem.W.codeIn K cd10 "_law_text_of" = true)
    (k10 : PySem.W.keepIn K (.ref f10) = true)
    (a11 : PySem.W.nsIn K mainGlobals "_law_big" = some (some (.ref f11)))
    (l11 : K.lookup f11 = some ⟨oc11, od11, .func (PySem.W.fnOf "_law_big" "_law_big" (defArgs sLawBig) (defBody sLawBig) (defScope sLawBig) .none kV11 dc11 pm11 an11 cd11 ct11), sl11⟩)
    (c11 : PySem.W.codeIn K cd11 "_law_big" = true)
    (k11 : PySem.W.keepIn K (.ref f11) = true)
    (a12 : PySem.W.nsIn K mainGlobals "_law_value" = some (some (.ref f12)))
    (l12 : K.lookup f12 = some ⟨oc12, od12, .func (PySem.W.fnOf "_law_value" "_law_value" (defArgs sLawValue) (defBody sLawValue) (defScope sLawValue) .none kV12 dc12 pm12 an12 cd12 ct12), sl12⟩)
    (c12 : PySem.W.codeIn K cd12 "_law_value" = true)
    (k12 : PySem.W.keepIn K (.ref f12) = true)
    (a13 : PySem.W.nsIn K mainGlobals "_law_outcome" = some (some (.ref f13)))
    (l13 : K.lookup f13 = some ⟨oc13, od13, .func (PySem.W.fnOf "_law_outcome" "_law_outcome" (defArgs sLawOutcome) (defBody sLawOutcome) (defScope sLawOutcome) .none kV13 dc13 pm13 an13 cd13 ct13), sl13⟩)
    (c13 : PySem.W.codeIn K cd13 "_law_outcome" = true)
    (k13 : PySem.W.keepIn K (.ref f13) = true)
    (a14 : PySem.W.nsIn K mainGlobals "_law_shape_kind" = some (some (.ref f14)))
    (l14 : K.lookup f14 = some ⟨oc14, od14, .func (PySem.W.fnOf "_law_shape_kind" "_law_shape_kind" (defArgs sLawShapeKind) (defBody sLawShapeKind) (defScope sLawShapeKind) .none kV14 dc14 pm14 an14 cd14 ct14), sl14⟩)
    (c14 : PySem.W.codeIn K cd14 "_law_shape_kind" = true)
    (k14 : PySem.W.keepIn K (.ref f14) = true)
    (a15 : PySem.W.nsIn K mainGlobals "_law_cell" = some (some (.ref f15)))
    (l15 : K.lookup f15 = some ⟨oc15, od15, .func (PySem.W.fnOf "_law_cell" "_law_cell" (defArgs sLawCell) (defBody sLawCell) (defScope sLawCell) .none kV15 dc15 pm15 an15 cd15 ct15), sl15⟩)
    (c15 : PySem.W.codeIn K cd15 "_law_cell" = true)
    (k15 : PySem.W.keepIn K (.ref f15) = true)
    (a16 : PySem.W.nsIn K mainGlobals "_law_any_deed" = some (some (.ref f16)))
    (l16 : K.lookup f16 = some ⟨oc16, od16, .func (PySem.W.fnOf "_law_any_deed" "_law_any_deed" (defArgs sLawAnyDeed) (defBody sLawAnyDeed) (defScope sLawAnyDeed) .none kV16 dc16 pm16 an16 cd16 ct16), sl16⟩)
    (c16 : PySem.W.codeIn K cd16 "_law_any_deed" = true)
    (k16 : PySem.W.keepIn K (.ref f16) = true)
    (a17 : PySem.W.nsIn K mainGlobals "_law_base_data" = some (some (.ref f17)))
    (l17 : K.lookup f17 = some ⟨oc17, od17, .func (PySem.W.fnOf "_law_base_data" "_law_base_data" (defArgs sLawBaseData) (defBody sLawBaseData) (defScope sLawBaseData) .none kV17 dc17 pm17 an17 cd17 ct17), sl17⟩)
    (c17 : PySem.W.codeIn K cd17 "_law_base_data" = true)
    (k17 : PySem.W.keepIn K (.ref f17) = true)
    (a18 : PySem.W.nsIn K mainGlobals "_law_group" = some (some (.ref f18)))
    (l18 : K.lookup f18 = some ⟨oc18, od18, .func (PySem.W.fnOf "_law_group" "_law_group" (defArgs sLawGroup) (defBody sLawGroup) (defScope sLawGroup) .none kV18 dc18 pm18 an18 cd18 ct18), sl18⟩)
    (c18 : PySem.W.codeIn K cd18 "_law_group" = true)
    (k18 : PySem.W.keepIn K (.ref f18) = true)
    (a19 : PySem.W.nsIn K mainGlobals "_law_grown" = some (some (.ref f19)))
    (l19 : K.lookup f19 = some ⟨oc19, od19, .func (PySem.W.fnOf "_law_grown" "_law_grown" (defArgs sLawGrown) (defBody sLawGrown) (defScope sLawGrown) .none kV19 dc19 pm19 an19 cd19 ct19), sl19⟩)
    (c19 : PySem.W.codeIn K cd19 "_law_grown" = true)
    (k19 : PySem.W.keepIn K (.ref f19) = true)
    (a20 : PySem.W.nsIn K mainGlobals "_law_spoil" = some (some (.ref f20)))
    (l20 : K.lookup f20 = some ⟨oc20, od20, .func (PySem.W.fnOf "_law_spoil" "_law_spoil" (defArgs sLawSpoil) (defBody sLawSpoil) (defScope sLawSpoil) .none kV20 dc20 pm20 an20 cd20 ct20), sl20⟩)
    (c20 : PySem.W.codeIn K cd20 "_law_spoil" = true)
    (k20 : PySem.W.keepIn K (.ref f20) = true)
    (a21 : PySem.W.nsIn K mainGlobals "law" = some (some (.ref f21)))
    (l21 : K.lookup f21 = some ⟨oc21, od21, .func (PySem.W.fnOf "law" "law" (defArgs sLaw) (defBody sLaw) (defScope sLaw) .none kV21 dc21 pm21 an21 cd21 ct21), sl21⟩)
    (c21 : PySem.W.codeIn K cd21 "law" = true)
    (k21 : PySem.W.keepIn K (.ref f21) = true)
    (caDeeds : PySem.W.nsIn K mainGlobals "Deeds" = some (some (.ref cDeeds)))
    (caBase : PySem.W.nsIn K mainGlobals "Base" = some (some (.ref cBase)))
    (ma1 : PySem.W.findIn K (.ref cDeeds) "__init__" = some (some (.ref g1)))
    (mi1 : PySem.W.isFn K (.ref g1) = true)
    (ml1 : K.lookup g1 = some ⟨Oc1, Od1, .func (PySem.W.fnOf "__init__" "Deeds.__init__" (defArgs sDeedsInit) (defBody sDeedsInit) (defScope sDeedsInit) .none KV1 Dc1 Pm1 An1 Cd1 Ct1), Sl1⟩)
    (mc1 : PySem.W.codeIn K Cd1 "Deeds.__init__" = true)
    (mk1 : PySem.W.keepIn K (.ref g1) = true)
    (ma2 : PySem.W.findIn K (.ref cDeeds) "add" = some (some (.ref g2)))
    (mi2 : PySem.W.isFn K (.ref g2) = true)
    (ml2 : K.lookup g2 = some ⟨Oc2, Od2, .func (PySem.W.fnOf "add" "Deeds.add" (defArgs sDeedsAdd) (defBody sDeedsAdd) (defScope sDeedsAdd) .none KV2 Dc2 Pm2 An2 Cd2 Ct2), Sl2⟩)
    (mc2 : PySem.W.codeIn K Cd2 "Deeds.add" = true)
    (mk2 : PySem.W.keepIn K (.ref g2) = true)
    (ma3 : PySem.W.findIn K (.ref cDeeds) "copy" = some (some (.ref g3)))
    (mi3 : PySem.W.isFn K (.ref g3) = true)
    (ml3 : K.lookup g3 = some ⟨Oc3, Od3, .func (PySem.W.fnOf "copy" "Deeds.copy" (defArgs sDeedsCopy) (defBody sDeedsCopy) (defScope sDeedsCopy) .none KV3 Dc3 Pm3 An3 Cd3 Ct3), Sl3⟩)
    (mc3 : PySem.W.codeIn K Cd3 "Deeds.copy" = true)
    (mk3 : PySem.W.keepIn K (.ref g3) = true)
    (ma4 : PySem.W.findIn K (.ref cBase) "__init__" = some (some (.ref g4)))
    (mi4 : PySem.W.isFn K (.ref g4) = true)
    (ml4 : K.lookup g4 = some ⟨Oc4, Od4, .func (PySem.W.fnOf "__init__" "Base.__init__" (defArgs sBaseInit) (defBody sBaseInit) (defScope sBaseInit) .none KV4 Dc4 Pm4 An4 Cd4 Ct4), Sl4⟩)
    (mc4 : PySem.W.codeIn K Cd4 "Base.__init__" = true)
    (mk4 : PySem.W.keepIn K (.ref g4) = true)
    (ma5 : PySem.W.findIn K (.ref cBase) "copy" = some (some (.ref g5)))
    (mi5 : PySem.W.isFn K (.ref g5) = true)
    (ml5 : K.lookup g5 = some ⟨Oc5, Od5, .func (PySem.W.fnOf "copy" "Base.copy" (defArgs sBaseCopy) (defBody sBaseCopy) (defScope sBaseCopy) .none KV5 Dc5 Pm5 An5 Cd5 Ct5), Sl5⟩)
    (mc5 : PySem.W.codeIn K Cd5 "Base.copy" = true)
    (mk5 : PySem.W.keepIn K (.ref g5) = true)
    (ma6 : PySem.W.findIn K (.ref cBase) "data" = some (some (.ref g6)))
    (mi6 : PySem.W.isFn K (.ref g6) = true)
    (ml6 : K.lookup g6 = some ⟨Oc6, Od6, .func (PySem.W.fnOf "data" "Base.data" (defArgs sBaseData) (defBody sBaseData) (defScope sBaseData) .none KV6 Dc6 Pm6 An6 Cd6 Ct6), Sl6⟩)
    (mc6 : PySem.W.codeIn K Cd6 "Base.data" = true)
    (mk6 : PySem.W.keepIn K (.ref g6) = true)
    (ma7 : PySem.W.findIn K (.ref cBase) "cells" = some (some (.ref g7)))
    (mi7 : PySem.W.isFn K (.ref g7) = true)
    (ml7 : K.lookup g7 = some ⟨Oc7, Od7, .func (PySem.W.fnOf "cells" "Base.cells" (defArgs sBaseCells) (defBody sBaseCells) (defScope sBaseCells) .none KV7 Dc7 Pm7 An7 Cd7 Ct7), Sl7⟩)
    (mc7 : PySem.W.codeIn K Cd7 "Base.cells" = true)
    (mk7 : PySem.W.keepIn K (.ref g7) = true)
    (ma8 : PySem.W.findIn K (.ref cBase) "grown" = some (some (.ref g8)))
    (mi8 : PySem.W.isFn K (.ref g8) = true)
    (ml8 : K.lookup g8 = some ⟨Oc8, Od8, .func (PySem.W.fnOf "grown" "Base.grown" (defArgs sBaseGrown) (defBody sBaseGrown) (defScope sBaseGrown) .none KV8 Dc8 Pm8 An8 Cd8 Ct8), Sl8⟩)
    (mc8 : PySem.W.codeIn K Cd8 "Base.grown" = true)
    (mk8 : PySem.W.keepIn K (.ref g8) = true)
    (ma9 : PySem.W.findIn K (.ref cBase) "take" = some (some (.ref g9)))
    (mi9 : PySem.W.isFn K (.ref g9) = true)
    (ml9 : K.lookup g9 = some ⟨Oc9, Od9, .func (PySem.W.fnOf "take" "Base.take" (defArgs sBaseTake) (defBody sBaseTake) (defScope sBaseTake) .none KV9 Dc9 Pm9 An9 Cd9 Ct9), Sl9⟩)
    (mc9 : PySem.W.codeIn K Cd9 "Base.take" = true)
    (mk9 : PySem.W.keepIn K (.ref g9) = true)
    (ma10 : PySem.W.findIn K (.ref cBase) "hold" = some (some (.ref g10)))
    (mi10 : PySem.W.isFn K (.ref g10) = true)
    (ml10 : K.lookup g10 = some ⟨Oc10, Od10, .func (PySem.W.fnOf "hold" "Base.hold" (defArgs sBaseHold) (defBody sBaseHold) (defScope sBaseHold) .none KV10 Dc10 Pm10 An10 Cd10 Ct10), Sl10⟩)
    (mc10 : PySem.W.codeIn K Cd10 "Base.hold" = true)
    (mk10 : PySem.W.keepIn K (.ref g10) = true)
    (cpgDeeds : PySem.W.plainGet K cDeeds Str.empty = true)
    (chdDeeds : PySem.W.hasDictIn K cDeeds = true)
    (cpoDeeds : PySem.W.plainOver K cDeeds = true)
    (csaDeeds : PySem.W.findIn K (.ref cDeeds) "__setattr__" = some (some (.builtin "object.__setattr__")))
    (cmkDeeds : PySem.W.makesIn K cDeeds = true)
    (ckcDeeds : PySem.W.keepIn K (.ref cDeeds) = true)
    (cnDeeds_0 : PySem.W.findIn K (.ref cDeeds) "rows" = some none)
    (cnDeeds_1 : PySem.W.findIn K (.ref cDeeds) "_marks" = some none)
    (cnDeeds_2 : PySem.W.findIn K (.ref cDeeds) "_ends" = some none)
    (cpgBase : PySem.W.plainGet K cBase Str.empty = true)
    (chdBase : PySem.W.hasDictIn K cBase = true)
    (cpoBase : PySem.W.plainOver K cBase = true)
    (csaBase : PySem.W.findIn K (.ref cBase) "__setattr__" = some (some (.builtin "object.__setattr__")))
    (cmkBase : PySem.W.makesIn K cBase = true)
    (ckcBase : PySem.W.keepIn K (.ref cBase) = true)
    (cnBase_0 : PySem.W.findIn K (.ref cBase) "commits" = some none)
    (cnBase_1 : PySem.W.findIn K (.ref cBase) "deeds" = some none)
    (cnBase_2 : PySem.W.findIn K (.ref cBase) "held" = some none)
    (z_bool : PySem.W.nsIn K mainGlobals "bool" = some none)
    (z_dict : PySem.W.nsIn K mainGlobals "dict" = some none)
    (z_enumerate : PySem.W.nsIn K mainGlobals "enumerate" = some none)
    (z_int : PySem.W.nsIn K mainGlobals "int" = some none)
    (z_isinstance : PySem.W.nsIn K mainGlobals "isinstance" = some none)
    (z_len : PySem.W.nsIn K mainGlobals "len" = some none)
    (z_list : PySem.W.nsIn K mainGlobals "list" = some none)
    (z_max : PySem.W.nsIn K mainGlobals "max" = some none)
    (z_min : PySem.W.nsIn K mainGlobals "min" = some none)
    (z_range : PySem.W.nsIn K mainGlobals "range" = some none)
    (z_sorted : PySem.W.nsIn K mainGlobals "sorted" = some none)
    (z_str : PySem.W.nsIn K mainGlobals "str" = some none)
    (z_tuple : PySem.W.nsIn K mainGlobals "tuple" = some none)
    (z_zip : PySem.W.nsIn K mainGlobals "zip" = some none)
    (g_REPLICAS : PySem.W.nsIn K mainGlobals "REPLICAS" = some (some (.int 8 tREPLICAS)))
    : ∃ fd : FuncData, (∀ (s : Shared) (v : Value), BindsTo s fd ⟨[v], []⟩ [("script", v)]) ∧ ∀ base : Heap, K.In base → base.Ns mainGlobals mg → FnOk l.prog w K mg base CX0 99 fa fd ["script"] (spLaw K) := by
  have e := hfa.symm.trans (PySem.W.mg_of X G a21)
  cases e
  have F1 := fun_mk (st := sInserted) l1 c1 k1
  have b1 := F1.binds (ps := ["replica", "deed"]) fun _ _ _ _ _ _ us hl => match us, hl with | [_, _], _ => rfl
  have F2 := fun_mk (st := sLawMix) l2 c2 k2
  have b2 := F2.binds (ps := ["cell", "k"]) fun _ _ _ _ _ _ us hl => match us, hl with | [_, _], _ => rfl
  have F3 := fun_mk (st := sLawDraws) l3 c3 k3
  have b3 := F3.binds (ps := ["script"]) fun _ _ _ _ _ _ us hl => match us, hl with | [_], _ => rfl
  have F4 := fun_mk (st := sLawAt) l4 c4 k4
  have b4 := F4.binds (ps := ["draws", "index"]) fun _ _ _ _ _ _ us hl => match us, hl with | [_, _], _ => rfl
  have F5 := fun_mk (st := sLawIsInteger) l5 c5 k5
  have b5 := F5.binds (ps := ["actual"]) fun _ _ _ _ _ _ us hl => match us, hl with | [_], _ => rfl
  have F6 := fun_mk (st := sLawSame) l6 c6 k6
  have b6 := F6.binds (ps := ["actual", "expected"]) fun _ _ _ _ _ _ us hl => match us, hl with | [_, _], _ => rfl
  have F7 := fun_mk (st := sLawIsDict) l7 c7 k7
  have b7 := F7.binds (ps := ["actual", "expected"]) fun _ _ _ _ _ _ us hl => match us, hl with | [_, _], _ => rfl
  have F8 := fun_mk (st := sLawNext) l8 c8 k8
  have b8 := F8.binds (ps := ["state", "limit"]) fun _ _ _ _ _ _ us hl => match us, hl with | [_, _], _ => rfl
  have F9 := fun_mk (st := sLawWord) l9 c9 k9
  have b9 := F9.binds (ps := ["state"]) fun _ _ _ _ _ _ us hl => match us, hl with | [_], _ => rfl
  have F10 := fun_mk (st := sLawTextOf) l10 c10 k10
  have b10 := F10.binds (ps := ["state"]) fun _ _ _ _ _ _ us hl => match us, hl with | [_], _ => rfl
  have F11 := fun_mk (st := sLawBig) l11 c11 k11
  have b11 := F11.binds (ps := ["state"]) fun _ _ _ _ _ _ us hl => match us, hl with | [_], _ => rfl
  have F12 := fun_mk (st := sLawValue) l12 c12 k12
  have b12 := F12.binds (ps := ["state", "depth"]) fun _ _ _ _ _ _ us hl => match us, hl with | [_, _], _ => rfl
  have F13 := fun_mk (st := sLawOutcome) l13 c13 k13
  have b13 := F13.binds (ps := ["state"]) fun _ _ _ _ _ _ us hl => match us, hl with | [_], _ => rfl
  have F14 := fun_mk (st := sLawShapeKind) l14 c14 k14
  have b14 := F14.binds (ps := ["state"]) fun _ _ _ _ _ _ us hl => match us, hl with | [_], _ => rfl
  have F15 := fun_mk (st := sLawCell) l15 c15 k15
  have b15 := F15.binds (ps := ["state", "name"]) fun _ _ _ _ _ _ us hl => match us, hl with | [_, _], _ => rfl
  have F16 := fun_mk (st := sLawAnyDeed) l16 c16 k16
  have b16 := F16.binds (ps := ["state"]) fun _ _ _ _ _ _ us hl => match us, hl with | [_], _ => rfl
  have F17 := fun_mk (st := sLawBaseData) l17 c17 k17
  have b17 := F17.binds (ps := ["rows", "held", "commits"]) fun _ _ _ _ _ _ us hl => match us, hl with | [_, _, _], _ => rfl
  have F18 := fun_mk (st := sLawGroup) l18 c18 k18
  have b18 := F18.binds (ps := ["state", "rows"]) fun _ _ _ _ _ _ us hl => match us, hl with | [_, _], _ => rfl
  have F19 := fun_mk (st := sLawGrown) l19 c19 k19
  have b19 := F19.binds (ps := ["rows", "held", "group"]) fun _ _ _ _ _ _ us hl => match us, hl with | [_, _, _], _ => rfl
  have F20 := fun_mk (st := sLawSpoil) l20 c20 k20
  have b20 := F20.binds (ps := ["base"]) fun _ _ _ _ _ _ us hl => match us, hl with | [_], _ => rfl
  have F21 := fun_mk (st := sLaw) l21 c21 k21
  have b21 := F21.binds (ps := ["script"]) fun _ _ _ _ _ _ us hl => match us, hl with | [_], _ => rfl
  have E1 := fun_mk (st := sDeedsInit) ml1 mc1 mk1
  have e1 := E1.binds (ps := ["self"]) fun _ _ _ _ _ _ us hl => match us, hl with | [_], _ => rfl
  have E2 := fun_mk (st := sDeedsAdd) ml2 mc2 mk2
  have e2 := E2.binds (ps := ["self", "replica", "deed"]) fun _ _ _ _ _ _ us hl => match us, hl with | [_, _, _], _ => rfl
  have E3 := fun_mk (st := sDeedsCopy) ml3 mc3 mk3
  have e3 := E3.binds (ps := ["self"]) fun _ _ _ _ _ _ us hl => match us, hl with | [_], _ => rfl
  have E4 := fun_mk (st := sBaseInit) ml4 mc4 mk4
  have e4 := E4.binds (ps := ["self"]) fun _ _ _ _ _ _ us hl => match us, hl with | [_], _ => rfl
  have E5 := fun_mk (st := sBaseCopy) ml5 mc5 mk5
  have e5 := E5.binds (ps := ["self"]) fun _ _ _ _ _ _ us hl => match us, hl with | [_], _ => rfl
  have E6 := fun_mk (st := sBaseData) ml6 mc6 mk6
  have e6 := E6.binds (ps := ["self"]) fun _ _ _ _ _ _ us hl => match us, hl with | [_], _ => rfl
  have E7 := fun_mk (st := sBaseCells) ml7 mc7 mk7
  have e7 := E7.binds (ps := ["self"]) fun _ _ _ _ _ _ us hl => match us, hl with | [_], _ => rfl
  have E8 := fun_mk (st := sBaseGrown) ml8 mc8 mk8
  have e8 := E8.binds (ps := ["self", "triples", "cells"]) fun _ _ _ _ _ _ us hl => match us, hl with | [_, _, _], _ => rfl
  have E9 := fun_mk (st := sBaseTake) ml9 mc9 mk9
  have e9 := E9.binds (ps := ["self", "triples", "cells"]) fun _ _ _ _ _ _ us hl => match us, hl with | [_, _, _], _ => rfl
  have E10 := fun_mk (st := sBaseHold) ml10 mc10 mk10
  have e10 := E10.binds (ps := ["self", "cells"]) fun _ _ _ _ _ _ us hl => match us, hl with | [_, _], _ => rfl
  let Z : Defs K mg :=
    { bool := PySem.W.mg_none_of X G z_bool,
      dict := PySem.W.mg_none_of X G z_dict,
      enumerate := PySem.W.mg_none_of X G z_enumerate,
      int := PySem.W.mg_none_of X G z_int,
      isinstance := PySem.W.mg_none_of X G z_isinstance,
      len := PySem.W.mg_none_of X G z_len,
      list := PySem.W.mg_none_of X G z_list,
      max := PySem.W.mg_none_of X G z_max,
      min := PySem.W.mg_none_of X G z_min,
      range := PySem.W.mg_none_of X G z_range,
      sorted := PySem.W.mg_none_of X G z_sorted,
      str := PySem.W.mg_none_of X G z_str,
      tuple := PySem.W.mg_none_of X G z_tuple,
      zip := PySem.W.mg_none_of X G z_zip,
      kREPLICAS := ⟨_, PySem.W.mg_of X G g_REPLICAS⟩,
      fInserted := f1,
      fdInserted := _,
      DInserted := ⟨F1, b1, PySem.W.mg_of X G a1⟩,
      fLawMix := f2,
      fdLawMix := _,
      DLawMix := ⟨F2, b2, PySem.W.mg_of X G a2⟩,
      fLawDraws := f3,
      fdLawDraws := _,
      DLawDraws := ⟨F3, b3, PySem.W.mg_of X G a3⟩,
      fLawAt := f4,
      fdLawAt := _,
      DLawAt := ⟨F4, b4, PySem.W.mg_of X G a4⟩,
      fLawIsInteger := f5,
      fdLawIsInteger := _,
      DLawIsInteger := ⟨F5, b5, PySem.W.mg_of X G a5⟩,
      fLawSame := f6,
      fdLawSame := _,
      DLawSame := ⟨F6, b6, PySem.W.mg_of X G a6⟩,
      fLawIsDict := f7,
      fdLawIsDict := _,
      DLawIsDict := ⟨F7, b7, PySem.W.mg_of X G a7⟩,
      fLawNext := f8,
      fdLawNext := _,
      DLawNext := ⟨F8, b8, PySem.W.mg_of X G a8⟩,
      fLawWord := f9,
      fdLawWord := _,
      DLawWord := ⟨F9, b9, PySem.W.mg_of X G a9⟩,
      fLawTextOf := f10,
      fdLawTextOf := _,
      DLawTextOf := ⟨F10, b10, PySem.W.mg_of X G a10⟩,
      fLawBig := f11,
      fdLawBig := _,
      DLawBig := ⟨F11, b11, PySem.W.mg_of X G a11⟩,
      fLawValue := f12,
      fdLawValue := _,
      DLawValue := ⟨F12, b12, PySem.W.mg_of X G a12⟩,
      fLawOutcome := f13,
      fdLawOutcome := _,
      DLawOutcome := ⟨F13, b13, PySem.W.mg_of X G a13⟩,
      fLawShapeKind := f14,
      fdLawShapeKind := _,
      DLawShapeKind := ⟨F14, b14, PySem.W.mg_of X G a14⟩,
      fLawCell := f15,
      fdLawCell := _,
      DLawCell := ⟨F15, b15, PySem.W.mg_of X G a15⟩,
      fLawAnyDeed := f16,
      fdLawAnyDeed := _,
      DLawAnyDeed := ⟨F16, b16, PySem.W.mg_of X G a16⟩,
      fLawBaseData := f17,
      fdLawBaseData := _,
      DLawBaseData := ⟨F17, b17, PySem.W.mg_of X G a17⟩,
      fLawGroup := f18,
      fdLawGroup := _,
      DLawGroup := ⟨F18, b18, PySem.W.mg_of X G a18⟩,
      fLawGrown := f19,
      fdLawGrown := _,
      DLawGrown := ⟨F19, b19, PySem.W.mg_of X G a19⟩,
      fLawSpoil := f20,
      fdLawSpoil := _,
      DLawSpoil := ⟨F20, b20, PySem.W.mg_of X G a20⟩,
      fLaw := fa,
      fdLaw := _,
      DLaw := ⟨F21, b21, PySem.W.mg_of X G a21⟩,
      cDeeds := cDeeds,
      cBase := cBase,
      fDeedsInit := g1,
      fdDeedsInit := _,
      DDeedsInit := ⟨E1, e1⟩,
      CDeeds := ⟨PySem.W.mg_of X G caDeeds, ⟨cpgDeeds, chdDeeds, cpoDeeds, csaDeeds⟩, ⟨cmkDeeds, ma1, mi1, ckcDeeds⟩⟩,
      fDeedsAdd := g2,
      fdDeedsAdd := _,
      DDeedsAdd := ⟨E2, e2, ⟨ma2, mi2, mk2⟩⟩,
      fDeedsCopy := g3,
      fdDeedsCopy := _,
      DDeedsCopy := ⟨E3, e3, ⟨ma3, mi3, mk3⟩⟩,
      fBaseInit := g4,
      fdBaseInit := _,
      DBaseInit := ⟨E4, e4⟩,
      CBase := ⟨PySem.W.mg_of X G caBase, ⟨cpgBase, chdBase, cpoBase, csaBase⟩, ⟨cmkBase, ma4, mi4, ckcBase⟩⟩,
      fBaseCopy := g5,
      fdBaseCopy := _,
      DBaseCopy := ⟨E5, e5, ⟨ma5, mi5, mk5⟩⟩,
      fBaseData := g6,
      fdBaseData := _,
      DBaseData := ⟨E6, e6, ⟨ma6, mi6, mk6⟩⟩,
      fBaseCells := g7,
      fdBaseCells := _,
      DBaseCells := ⟨E7, e7, ⟨ma7, mi7, mk7⟩⟩,
      fBaseGrown := g8,
      fdBaseGrown := _,
      DBaseGrown := ⟨E8, e8, ⟨ma8, mi8, mk8⟩⟩,
      fBaseTake := g9,
      fdBaseTake := _,
      DBaseTake := ⟨E9, e9, ⟨ma9, mi9, mk9⟩⟩,
      fBaseHold := g10,
      fdBaseHold := _,
      DBaseHold := ⟨E10, e10, ⟨ma10, mi10, mk10⟩⟩,
      nDeeds_rows := cnDeeds_0,
      nDeeds_marks := cnDeeds_1,
      nDeeds_ends := cnDeeds_2,
      nBase_commits := cnBase_0,
      nBase_deeds := cnBase_1,
      nBase_held := cnBase_2 }
  exact ⟨PySem.W.fnOf "law" "law" (defArgs sLaw) (defBody sLaw) (defScope sLaw) .none kV21 dc21 pm21 an21 cd21 ct21, fun s v => .of_eq rfl, fun base _ _ => ok_law Z⟩
end Q44
open PySem PySem.W PyProof.Rows
set_option maxHeartbeats 0 in
theorem PySem.Challenge.cw_quillrun_k44_bases_grow_by_commits_holds : PySem.Challenge.rw_quillrun_k44_bases_grow_by_commits.Holds := by
  w_on; o_law; k_head; (case hw => w_witness2)
  k_fill
  refine L2.walk_of (l := PySem.Challenge.rw_quillrun_k44_bases_grow_by_commits) (n := 63) (k := 99) (x := "script") (CX := fun _ => L2.CX0) (sp := fun w => Q44.spLaw _) rfl (by decide) rfl ⟨rfl, by decide, by decide⟩ (fun w h Y => PySem.W.kIn_of Y) ?F (fun _ _ a ns hl _ hS => ⟨a, ns, rfl, hS, hl, fun _ => rfl⟩) (fun _ _ _ _ _ h => h)
  case F =>
    intro w mg fa h KX G hmg
    refine' Q44.all_mk KX G hmg ?a1 ?l1 ?c1 ?k1 ?a2 ?l2 ?c2 ?k2 ?a3 ?l3 ?c3 ?k3 ?a4 ?l4 ?c4 ?k4 ?a5 ?l5 ?c5 ?k5 ?a6 ?l6 ?c6 ?k6 ?a7 ?l7 ?c7 ?k7 ?a8 ?l8 ?c8 ?k8 ?a9 ?l9 ?c9 ?k9 ?a10 ?l10 ?c10 ?k10 ?a11 ?l11 ?c11 ?k11 ?a12 ?l12 ?c12 ?k12 ?a13 ?l13 ?c13 ?k13 ?a14 ?l14 ?c14 ?k14 ?a15 ?l15 ?c15 ?k15 ?a16 ?l16 ?c16 ?k16 ?a17 ?l17 ?c17 ?k17 ?a18 ?l18 ?c18 ?k18 ?a19 ?l19 ?c19 ?k19 ?a20 ?l20 ?c20 ?k20 ?a21 ?l21 ?c21 ?k21 ?caDeeds ?caBase ?ma1 ?mi1 ?ml1 ?mc1 ?mk1 ?ma2 ?mi2 ?ml2 ?mc2 ?mk2 ?ma3 ?mi3 ?ml3 ?mc3 ?mk3 ?ma4 ?mi4 ?ml4 ?mc4 ?mk4 ?ma5 ?mi5 ?ml5 ?mc5 ?mk5 ?ma6 ?mi6 ?ml6 ?mc6 ?mk6 ?ma7 ?mi7 ?ml7 ?mc7 ?mk7 ?ma8 ?mi8 ?ml8 ?mc8 ?mk8 ?ma9 ?mi9 ?ml9 ?mc9 ?mk9 ?ma10 ?mi10 ?ml10 ?mc10 ?mk10 ?cpgDeeds ?chdDeeds ?cpoDeeds ?csaDeeds ?cmkDeeds ?ckcDeeds ?cnDeeds_0 ?cnDeeds_1 ?cnDeeds_2 ?cpgBase ?chdBase ?cpoBase ?csaBase ?cmkBase ?ckcBase ?cnBase_0 ?cnBase_1 ?cnBase_2 ?z_bool ?z_dict ?z_enumerate ?z_int ?z_isinstance ?z_len ?z_list ?z_max ?z_min ?z_range ?z_sorted ?z_str ?z_tuple ?z_zip ?g_REPLICAS
    (case a1 => k_is)
    (case l1 => k_is)
    (case c1 => k_is)
    (case k1 => k_is)
    (case a2 => k_is)
    (case l2 => k_is)
    (case c2 => k_is)
    (case k2 => k_is)
    (case a3 => k_is)
    (case l3 => k_is)
    (case c3 => k_is)
    (case k3 => k_is)
    (case a4 => k_is)
    (case l4 => k_is)
    (case c4 => k_is)
    (case k4 => k_is)
    (case a5 => k_is)
    (case l5 => k_is)
    (case c5 => k_is)
    (case k5 => k_is)
    (case a6 => k_is)
    (case l6 => k_is)
    (case c6 => k_is)
    (case k6 => k_is)
    (case a7 => k_is)
    (case l7 => k_is)
    (case c7 => k_is)
    (case k7 => k_is)
    (case a8 => k_is)
    (case l8 => k_is)
    (case c8 => k_is)
    (case k8 => k_is)
    (case a9 => k_is)
    (case l9 => k_is)
    (case c9 => k_is)
    (case k9 => k_is)
    (case a10 => k_is)
    (case l10 => k_is)
    (case c10 => k_is)
    (case k10 => k_is)
    (case a11 => k_is)
    (case l11 => k_is)
    (case c11 => k_is)
    (case k11 => k_is)
    (case a12 => k_is)
    (case l12 => k_is)
    (case c12 => k_is)
    (case k12 => k_is)
    (case a13 => k_is)
    (case l13 => k_is)
    (case c13 => k_is)
    (case k13 => k_is)
    (case a14 => k_is)
    (case l14 => k_is)
    (case c14 => k_is)
    (case k14 => k_is)
    (case a15 => k_is)
    (case l15 => k_is)
    (case c15 => k_is)
    (case k15 => k_is)
    (case a16 => k_is)
    (case l16 => k_is)
    (case c16 => k_is)
    (case k16 => k_is)
    (case a17 => k_is)
    (case l17 => k_is)
    (case c17 => k_is)
    (case k17 => k_is)
    (case a18 => k_is)
    (case l18 => k_is)
    (case c18 => k_is)
    (case k18 => k_is)
    (case a19 => k_is)
    (case l19 => k_is)
    (case c19 => k_is)
    (case k19 => k_is)
    (case a20 => k_is)
    (case l20 => k_is)
    (case c20 => k_is)
    (case k20 => k_is)
    (case a21 => k_is)
    (case l21 => k_is)
    (case c21 => k_is)
    (case k21 => k_is)
    (case caDeeds => k_is)
    (case caBase => k_is)
    (case ma1 => k_is)
    (case mi1 => k_is)
    (case ml1 => k_is)
    (case mc1 => k_is)
    (case mk1 => k_is)
    (case ma2 => k_is)
    (case mi2 => k_is)
    (case ml2 => k_is)
    (case mc2 => k_is)
    (case mk2 => k_is)
    (case ma3 => k_is)
    (case mi3 => k_is)
    (case ml3 => k_is)
    (case mc3 => k_is)
    (case mk3 => k_is)
    (case ma4 => k_is)
    (case mi4 => k_is)
    (case ml4 => k_is)
    (case mc4 => k_is)
    (case mk4 => k_is)
    (case ma5 => k_is)
    (case mi5 => k_is)
    (case ml5 => k_is)
    (case mc5 => k_is)
    (case mk5 => k_is)
    (case ma6 => k_is)
    (case mi6 => k_is)
    (case ml6 => k_is)
    (case mc6 => k_is)
    (case mk6 => k_is)
    (case ma7 => k_is)
    (case mi7 => k_is)
    (case ml7 => k_is)
    (case mc7 => k_is)
    (case mk7 => k_is)
    (case ma8 => k_is)
    (case mi8 => k_is)
    (case ml8 => k_is)
    (case mc8 => k_is)
    (case mk8 => k_is)
    (case ma9 => k_is)
    (case mi9 => k_is)
    (case ml9 => k_is)
    (case mc9 => k_is)
    (case mk9 => k_is)
    (case ma10 => k_is)
    (case mi10 => k_is)
    (case ml10 => k_is)
    (case mc10 => k_is)
    (case mk10 => k_is)
    (case cpgDeeds => k_is)
    (case chdDeeds => k_is)
    (case cpoDeeds => k_is)
    (case csaDeeds => k_is)
    (case cmkDeeds => k_is)
    (case ckcDeeds => k_is)
    (case cnDeeds_0 => k_is)
    (case cnDeeds_1 => k_is)
    (case cnDeeds_2 => k_is)
    (case cpgBase => k_is)
    (case chdBase => k_is)
    (case cpoBase => k_is)
    (case csaBase => k_is)
    (case cmkBase => k_is)
    (case ckcBase => k_is)
    (case cnBase_0 => k_is)
    (case cnBase_1 => k_is)
    (case cnBase_2 => k_is)
    (case z_bool => k_is)
    (case z_dict => k_is)
    (case z_enumerate => k_is)
    (case z_int => k_is)
    (case z_isinstance => k_is)
    (case z_len => k_is)
    (case z_list => k_is)
    (case z_max => k_is)
    (case z_min => k_is)
    (case z_range => k_is)
    (case z_sorted => k_is)
    (case z_str => k_is)
    (case z_tuple => k_is)
    (case z_zip => k_is)
    (case g_REPLICAS => k_is)
#print axioms PySem.Challenge.cw_quillrun_k44_bases_grow_by_commits_holds
