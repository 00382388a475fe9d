import PyProof.Rows.All
import Wide.All
import OpenK.AllK
import Wide.FinOn
import PyProof.Rows.All
import HandS.ForMost
import HandS.ForExc
import HandS.IsInst
import HandS.Codes
import HandS.Walk
import HandS.Star
import HandS.TryOnly
import HandS.ExcOwn
import HandS.Defaults
import HandS.Deep
import HandS.Comp
import HandS.DictComp
import PyProof.Draws
import HandS.Rev
import HandS.RevTup
import KE.KRevIter
import PyProof.RulesMatchSeq
import PyProof.Rows.MatchSeqLen
import HandS.Zip
import PyProof.AutoSeq1
import KE.KRevSl
import HandS.ExcIs
import KE.GoesEnumKw
import KE.GoesMore
import PyProof.EqAt
import PyProof.EqKinds
import PyProof.TupleCall
import PyProof.Rows.CallKwBuiltin
import PyProof.Rows.CallKw2
import KE.KLam
import KE.SortKeyHeap
import HandS.Base
import HandS.Call
import HandS.List
import HandS.Exc
import HandS.ExcValue
import HandS.OwnEq
import HandS.Lambda
import HandS.Words
import HandS.Dict
import HandS.Iter
import HandS.ListItems
import HandS.ClsMeth
import KE.KItemsList
import HandS.FStr
import HandS.StrMore
import HandS.NoneIn
import HandS.SetKeys
import HandS.More
import HandS.RaiseMore
import HandS.Strs
import HandS.Replace
import KE.RegKIsAll
import PySem.Challenge.RW_quillrun_k40_bytes_of_data
set_option Elab.async false
set_option linter.all false
set_option maxRecDepth 100000
set_option maxHeartbeats 4000000
namespace HL
open PySem PySem.Spec PyProof.Rows L2 SX
/-! ## short words of my own, over the hand layer -/
theorem boot_isinstance : bootBuiltins "isinstance" = some (.builtin "isinstance") := by decide +kernel
theorem boot_bool : bootBuiltins "bool" = some (.type "bool") := by decide +kernel
theorem boot_int : bootBuiltins "int" = some (.type "int") := by decide +kernel
theorem boot_str : bootBuiltins "str" = some (.type "str") := by decide +kernel
theorem boot_tuple : bootBuiltins "tuple" = some (.type "tuple") := by decide +kernel
theorem boot_list : bootBuiltins "list" = some (.type "list") := by decide +kernel
theorem boot_dict : bootBuiltins "dict" = some (.type "dict") := by decide +kernel
/-- a def of the module: its body, its arguments, its name -/
structure DefN (K : PySem.W.Frag) (mg : Str → Option Value) (x : Str) (st : Stmt) (ps : List Str) (f : Addr) (fd : FuncData) : Prop where
  F : Fun K x x st f fd
  b : Binds K fd ps []
  g : mg x = some (.ref f)
theorem small (n : Nat) (h : n ≤ 1000000) : n ≤ sizeLine := Nat.le_trans h (by decide)
theorem same_upd {H : Hp} {p : Addr} {o : HO} (h : H p = none) : Same H (upd H p o) := fun b x e => by
  rw [upd_ne (ne_of_none e h)]
  exact e
theorem S_app (a b : List Nat) : (S a ++ S b : Str) = S (a ++ b) := S_cat a b
theorem sign_at {t : List Nat} {k : Nat} (h : k < t.length) : atI (S t).cps.toList (k : Int) = some (t.getD k 0) := by
  show atI t.toArray.toList (k : Int) = _
  refine atI_nat ?_
  simp [List.getD_eq_getElem?_getD, h]
theorem cutS_nat (t : List Nat) (a b : Nat) (h : a ≤ b) (h2 : b ≤ t.length) : cutS (S t) (some (a : Int)) (some (b : Int)) = S ((t.drop a).take (b - a)) := by
  unfold cutS
  rw [S_len, HT.sIx_nat, HT.sIx_nat]
  have e1 : min a t.length = a := by omega
  have e2 : min b t.length = b := by omega
  rw [e1, e2]
/-- ends beyond the end -/
theorem cutS_any (t : List Nat) (a b : Nat) : cutS (S t) (some (a : Int)) (some (b : Int)) = S ((t.drop a).take (b - a)) := by
  unfold cutS
  rw [S_len, HT.sIx_nat, HT.sIx_nat]
  congr 2
  show List.take _ (List.drop _ t) = _
  by_cases ha : a ≤ t.length
  · have e1 : min a t.length = a := by omega
    rw [e1]
    by_cases hb : b ≤ t.length
    · have e2 : min b t.length = b := by omega
      rw [e2]
    · have e2 : min b t.length = t.length := by omega
      rw [e2, List.take_of_length_le (by rw [List.length_drop]; omega), List.take_of_length_le (by rw [List.length_drop]; omega)]
  · have e1 : min a t.length = t.length := by omega
    rw [e1, List.drop_of_length_le (Nat.le_refl _), List.drop_of_length_le (show t.length ≤ a by omega)]
    simp
theorem joinL_nil : ∀ C : List (List Nat), TL.joinL [] C = C.flatten
  | [] => rfl
  | [c] => by simp [TL.joinL]
  | c :: d :: r => by
    show c ++ ([] ++ TL.joinL [] (d :: r)) = _
    rw [joinL_nil (d :: r)]
    simp
/-- a test whose answer is known -/
theorem iteNo {c A B : Prop} [Decidable c] (h : ¬ c) (hb : B) : if c then A else B := by
  rw [if_neg h]
  exact hb
theorem iteYes {c A B : Prop} [Decidable c] (h : c) (ha : A) : if c then A else B := by
  rw [if_pos h]
  exact ha
/-- a comprehension without a test -/
theorem lc_yes {te : TE} {σ : L2.St} {H : Hp} {R : VK} {B : Hp → Prop} (h : te σ H R) : tYes σ H (fun b H3 => if b = true then te σ H3 R else B H3) := by
  show (if true = true then te σ H R else B H)
  rw [if_pos rfl]
  exact h
/-- all but p is as it was -/
def But (H H' : Hp) (p : Addr) : Prop := ∀ b, b ≠ p → H' b = H b
theorem but_upd {H : Hp} {p : Addr} {o : HO} : But H (upd H p o) p := fun _ h => upd_ne h
theorem But.refl {H : Hp} {p : Addr} : But H H p := fun _ _ => rfl
theorem But.trans {H H1 H2 : Hp} {p : Addr} (a : But H H1 p) (b : But H1 H2 p) : But H H2 p := fun c h => (b c h).trans (a c h)
/-- all but p, and what is new, is as it was -/
def Kept (H H' : Hp) (p : Addr) : Prop := ∀ b o, b ≠ p → H b = some o → H' b = some o
theorem Kept.refl {H : Hp} {p : Addr} : Kept H H p := fun _ _ _ h => h
theorem Kept.trans {H H1 H2 : Hp} {p : Addr} (a : Kept H H1 p) (b : Kept H1 H2 p) : Kept H H2 p := fun c o n h => b c o n (a c o n h)
theorem But.kept {H H' : Hp} {p : Addr} (b : But H H' p) : Kept H H' p := fun c o n h => (b c n).trans h
theorem _root_.L2.Same.kept {H H' : Hp} (s : Same H H') (p : Addr) : Kept H H' p := fun c o _ h => s c o h
section
variable {X : Cx}
/-- a constant of the module: a text, a number -/
theorem pe_gstr {x z : Str} {pos : Pos} (hg : Gl X x) (hm : ∃ t, X.mg x = some (.str z t)) (hd : (x == ("__debug__" : Str)) = false := by decide) : PE X (.Name x pos) (tC (.str z)) := by
  obtain ⟨t, h⟩ := hm
  exact pe_glob hg h ⟨t, rfl⟩ hd
theorem pe_gint {x : Str} {i : Int} {pos : Pos} (hg : Gl X x) (hm : ∃ t, X.mg x = some (.int i t)) (hd : (x == ("__debug__" : Str)) = false := by decide) : PE X (.Name x pos) (tC (.int i)) := by
  obtain ⟨t, h⟩ := hm
  exact pe_glob hg h ⟨t, rfl⟩ hd
/-- within a comprehension -/
theorem ix_listK {K : PySem.W.Frag} (h : X.K = K) : IxR X (rIxL K) := by
  subst h
  exact ix_list
theorem ix_tupK {K : PySem.W.Frag} (h : X.K = K) : IxR X (rIxT K) := by
  subst h
  exact ix_tup
/-- o[i] of a list, for o[i] op= e -/
def rGetL (K : PySem.W.Frag) : V → V → Hp → VK → Prop := fun x y H Q => ∃ p xs i v, x = .ref p ∧ y = .int i ∧ SqL K H p xs ∧ 0 ≤ i ∧ atI xs i = some v ∧ Q v H
theorem pget_list : PGet X (rGetL X.K) := by
  intro pins s σ H x y v u Q I rx ry h
  obtain ⟨p, xs, i, z, rfl, rfl, hq, h0, he, q⟩ := h
  cases rx
  obtain ⟨t, rfl⟩ := ry
  obtain ⟨its, r, pl, hz⟩ := I.list hq
  obtain ⟨j, h1, h2, h3, h4, h5⟩ := atI_get he
  obtain ⟨w, ew, rw'⟩ := r.get h2
  have hl := r.length
  have hn := line63
  have hj : i.toNat = j := by
    rw [seqIndex_of h0 h5] at h1
    exact Option.some.inj h1
  exact wpAny_getItem_list pl.isList h0 (by omega) (by rw [hj]; simpa using ew) ⟨z, H, I, rw', q⟩
/-- isinstance(x, T), T a built-in class -/
def rIsB (K : PySem.W.Frag) : List V → Hp → VK → Prop := fun xs H Q => ∃ (x : V) (T n : String) (b : Bool), xs = [x, .ty n] ∧ TyX K H x (.type T) ∧ kitB T n = some b ∧ Q (.bl b) H
theorem call_isB : CallR X (.builtin "isinstance") (rIsB X.K) := by
  intro pins s σ H xs us Q I r h
  obtain ⟨x, T, n, b, rfl, ty, e, q⟩ := h
  exact call_isi pins s σ H _ us Q I r ⟨x, .ty n, .type T, .type n, b, rfl, .ty n, ty, kit_ty e, q⟩
/-- a text, n times -/
theorem rep_fold (z : Str) : ∀ n : Nat, ((List.replicate n z.cps).foldl (· ++ ·) (#[] : Array Nat)).toList = (List.replicate n z.cps.toList).flatten := by
  have h : ∀ (l : List (Array Nat)) (a : Array Nat), (l.foldl (· ++ ·) a).toList = a.toList ++ (l.map (·.toList)).flatten := by
    intro l
    induction l with
    | nil => intro a; simp
    | cons x l ih => intro a; rw [List.foldl_cons, ih]; simp
  intro n
  rw [h]
  simp
theorem op_mul_strR : OpR X (binaryOp .Mult) (fun x y H Q => ∃ (l : List Nat) (n : Nat), x = .str (S l) ∧ y = .int (n : Int) ∧ 2 ≤ n ∧ n ≤ 1000 ∧ 1 ≤ l.length ∧ l.length ≤ 1000 ∧ Q (.str (S (List.replicate n l).flatten)) H) := by
  intro pins s σ H x y v u Q I rx ry h
  obtain ⟨l, n, rfl, rfl, h2, h3, h4, h5, q⟩ := h
  obtain ⟨t, rfl⟩ := rx
  obtain ⟨t', rfl⟩ := ry
  have hl : (S l).length = l.length := S_len l
  have e1 : ((n : Int) == 1 || (S l).length == 0) = false := by
    rw [hl]
    have a1 : ((n : Int) == 1) = false := by simp; omega
    have a2 : (l.length == 0) = false := by simp; intro z; rw [z] at h4; simp at h4
    rw [a1, a2]; rfl
  have hsz : l.length * n ≤ 1000000 := Nat.le_trans (Nat.mul_le_mul h5 h3) (by decide)
  refine PySem.P.mul_str ?_ (fun _ _ => ?_) (fun _ _ => ?_) ?_
  · have b1 : decide ((n : Int) < -(2 ^ 63 : Int)) = false := decide_eq_false (by omega)
    have b2 : decide ((n : Int) ≥ 2 ^ 63) = false := decide_eq_false (by omega)
    rw [b1, b2]; rfl
  · rw [hl]
    have hp : (l.length : Int) * (n : Int) ≤ 1000000 := by
      have := Int.ofNat_le.mpr hsz
      rw [Int.natCast_mul] at this
      exact this
    have := Int.le_ediv_of_mul_le (show (0 : Int) < (n : Int) by omega) (show (l.length : Int) * (n : Int) ≤ 2 ^ 63 - 1 from Int.le_trans hp (by decide))
    omega
  · rw [hl]
    exact decide_eq_false (by rw [sizeLine_eq, Int.toNat_natCast]; omega)
  · rw [if_neg (by omega), if_neg (by rw [e1]; simp)]
    have ef : (⟨(List.replicate (n : Int).toNat (S l).cps).foldl (· ++ ·) #[]⟩ : Str) = S (List.replicate n l).flatten := by
      have : ((List.replicate (n : Int).toNat (S l).cps).foldl (· ++ ·) (#[] : Array Nat)) = ((List.replicate n l).flatten).toArray := by
        apply Array.ext'
        rw [rep_fold]
        simp
      rw [this]
    rw [ef]
    refine ⟨?_, .str _, H, I.tok _, ⟨_, rfl⟩, q⟩
    rw [S_len, sizeLine_eq]
    simp
    rw [Nat.mul_comm]
    omega
end
/-! ### data that are told the same: _law_same -/
/-- the type of a list or a tuple that is read -/
def IsSeq (K : PySem.W.Frag) (H : Hp) (t : String) (a : Addr) (xs : List V) : Prop := (t = "tuple" ∧ SqT K H a xs ∧ TyX K H (.ref a) (.type "tuple")) ∨ (t = "list" ∧ SqL K H a xs ∧ TyX K H (.ref a) (.type "list"))
theorem IsSeq.tup {K : PySem.W.Frag} {H : Hp} {a : Addr} {xs : List V} (h : H a = some (.tup xs)) : IsSeq K H "tuple" a xs := .inl ⟨rfl, SqT.of h, .base (.tup h)⟩
theorem IsSeq.lst {K : PySem.W.Frag} {H : Hp} {a : Addr} {xs : List V} (h : H a = some (.lst xs)) : IsSeq K H "list" a xs := .inr ⟨rfl, SqL.of h, .base (.lst h)⟩
/-- a number, a text, a truth, None -/
def Leaf : V → Prop
  | .int _ => True
  | .str _ => True
  | .bl _ => True
  | .non => True
  | _ => False
def SameD (K : PySem.W.Frag) (H : Hp) : Nat → V → V → Prop
  | 0, x, y => Leaf x ∧ x = y
  | n + 1, x, y => (Leaf x ∧ x = y) ∨ ∃ (t : String) (a b : Addr) (xs ys : List V), x = .ref a ∧ y = .ref b ∧ IsSeq K H t a xs ∧ IsSeq K H t b ys ∧ xs.length = ys.length ∧ ys.length ≤ 1000000 ∧
      ∀ (i : Nat) (u v : V), xs[i]? = some u → ys[i]? = some v → SameD K H n u v
theorem SameD.leaf {K : PySem.W.Frag} {H : Hp} {n : Nat} {x : V} (h : Leaf x) : SameD K H n x x := by
  cases n with
  | zero => exact ⟨h, rfl⟩
  | succ n => exact .inl ⟨h, rfl⟩
theorem SameD.seq {K : PySem.W.Frag} {H : Hp} {n : Nat} {t : String} {a b : Addr} {xs ys : List V} (h1 : IsSeq K H t a xs) (h2 : IsSeq K H t b ys) (hl : xs.length = ys.length) (hz : ys.length ≤ 1000000)
    (h : ∀ (i : Nat) (u v : V), xs[i]? = some u → ys[i]? = some v → SameD K H n u v) : SameD K H (n + 1) (.ref a) (.ref b) := .inr ⟨t, a, b, xs, ys, rfl, rfl, h1, h2, hl, hz, h⟩
/-- rows of leaves -/
theorem SameD.row {K : PySem.W.Frag} {H : Hp} {n : Nat} {a b : Addr} {xs : List V} (h1 : H a = some (.tup xs)) (h2 : H b = some (.tup xs)) (hz : xs.length ≤ 1000000) (h : ∀ x ∈ xs, Leaf x) : SameD K H (n + 1) (.ref a) (.ref b) :=
  .seq (.tup h1) (.tup h2) rfl hz fun i u v hu hv => by
    rw [hu] at hv
    cases hv
    exact .leaf (h u (List.mem_of_getElem? hu))
def spSame (K : PySem.W.Frag) (n : Nat) : Sp := fun vs H Q _ => ∃ x y : V, vs = [x, y] ∧ SameD K H n x y ∧ Q (.bl true) H
end HL
namespace HL
open PySem PySem.Spec PyProof.Rows L2 SX
/-- isinstance of two built-in classes -/
theorem kit_two {K : PySem.W.Frag} {T a b : String} {x y : Bool} (h1 : kitB T a = some x) (h2 : kitB T b = some y) : PySem.W.kitAny K (.type T) [.type a, .type b] = some (x || y) := by
  have e1 := kit_ty (K := K) h1
  have e2 := kit_ty (K := K) h2
  simp only [PySem.W.kitAny, e1, e2]
  cases x <;> cases y <;> rfl
theorem tyx_same {K : PySem.W.Frag} {H H' : Hp} {x : V} {t : Value} (s : Same H H') (h : TyX K H x t) : TyX K H' x t := by
  cases h with
  | base b =>
    cases b with
    | non => exact .base .non
    | bl y => exact .base (.bl y)
    | int i => exact .base (.int i)
    | str y => exact .base (.str y)
    | flt y => exact .base (.flt y)
    | lst e => exact .base (.lst (s _ _ e))
    | frz e => exact .base (.frz (s _ _ e))
    | tup e => exact .base (.tup (s _ _ e))
    | dK e => exact .base (.dK (s _ _ e))
    | dT e => exact .base (.dT (s _ _ e))
    | ins e h1 h2 h3 h4 h5 => exact .base (.ins (s _ _ e) h1 h2 h3 h4 h5)
  | byt y => exact .byt y
  | set e => exact .set (s _ _ e)
  | kList e c => exact .kList e c
  | kTuple e c => exact .kTuple e c
  | kDict e c => exact .kDict e c
  | fTuple e => exact .fTuple (s _ _ e)
  | fDict e => exact .fDict (s _ _ e)
theorem seqT_same {K : PySem.W.Frag} {H H' : Hp} {a : Addr} {xs : List V} (e : Same H H') (h : SqT K H a xs) : SqT K H' a xs := by
  rcases h with (h | ⟨o, h⟩) | h
  · exact .inl (.inl (e _ _ h))
  · exact .inl (.inr ⟨o, e _ _ h⟩)
  · exact .inr h
theorem isSeq_same {K : PySem.W.Frag} {H H' : Hp} {t : String} {a : Addr} {xs : List V} (s : Same H H') (h : IsSeq K H t a xs) : IsSeq K H' t a xs := by
  rcases h with ⟨e, h1, h2⟩ | ⟨e, h1, h2⟩
  · exact .inl ⟨e, seqT_same s h1, tyx_same s h2⟩
  · exact .inr ⟨e, s.seq h1, tyx_same s h2⟩
theorem sameD_same {K : PySem.W.Frag} {H H' : Hp} (s : Same H H') : ∀ {n : Nat} {x y : V}, SameD K H n x y → SameD K H' n x y
  | 0, x, y, h => h
  | n + 1, x, y, h => by
    rcases h with h | ⟨t, a, b, xs, ys, e1, e2, h1, h2, el, hz, hh⟩
    · exact .inl h
    · exact .inr ⟨t, a, b, xs, ys, e1, e2, isSeq_same s h1, isSeq_same s h2, el, hz, fun i u v hu hv => sameD_same s (hh i u v hu hv)⟩
/-- told the same; the heap may grow -/
def spSameG (K : PySem.W.Frag) (n : Nat) : Sp := fun vs H Q _ => ∃ x y : V, vs = [x, y] ∧ SameD K H n x y ∧ ∀ H', Same H H' → Q (.bl true) H'
end HL
namespace HL
open PySem PySem.Spec PyProof.Rows L2 SX
/-- a list or a tuple, also a locked one -/
def Seqo : HO → Prop
  | .lst _ => True
  | .tup _ => True
  | .frz _ (.lst _) => True
  | .frz _ (.tup _) => True
  | _ => False
def SeqKept (H H' : Hp) : Prop := ∀ a o, H a = some o → Seqo o → H' a = some o
theorem _root_.L2.Same.seqKept {H H' : Hp} (s : Same H H') : SeqKept H H' := fun a o h _ => s a o h
theorem SeqKept.seqT {K : PySem.W.Frag} {H H' : Hp} {a : Addr} {xs : List V} (e : SeqKept H H') (h : SqT K H a xs) : SqT K H' a xs := by
  rcases h with (h | ⟨o, h⟩) | h
  · exact .inl (.inl (e _ _ h True.intro))
  · exact .inl (.inr ⟨o, e _ _ h True.intro⟩)
  · exact .inr h
theorem SeqKept.seq {K : PySem.W.Frag} {H H' : Hp} {a : Addr} {xs : List V} (e : SeqKept H H') (h : SqL K H a xs) : SqL K H' a xs := by
  rcases h with (h | ⟨o, h⟩) | h
  · exact .inl (.inl (e _ _ h True.intro))
  · exact .inl (.inr ⟨o, e _ _ h True.intro⟩)
  · exact .inr h
theorem tyx_tup {K : PySem.W.Frag} {H H' : Hp} {x : V} {t : Value} (s : SeqKept H H') (ht : t = .type "tuple" ∨ t = .type "list") (h : TyX K H x t) : TyX K H' x t := by
  cases h with
  | base b =>
    cases b with
    | non => exact .base .non
    | bl y => exact .base (.bl y)
    | int i => exact .base (.int i)
    | str y => exact .base (.str y)
    | flt y => exact .base (.flt y)
    | lst e => exact .base (.lst (s _ _ e True.intro))
    | frz e => exact .base (.frz (s _ _ e True.intro))
    | tup e => exact .base (.tup (s _ _ e True.intro))
    | dK e => rcases ht with z | z <;> exact absurd (Value.type.inj z) (by decide)
    | dT e => rcases ht with z | z <;> exact absurd (Value.type.inj z) (by decide)
    | ins e h1 h2 h3 h4 h5 => rcases ht with z | z <;> cases z
  | byt y => exact .byt y
  | set e => rcases ht with z | z <;> exact absurd (Value.type.inj z) (by decide)
  | kList e c => exact .kList e c
  | kTuple e c => exact .kTuple e c
  | kDict e c => exact .kDict e c
  | fTuple e => exact .fTuple (s _ _ e True.intro)
  | fDict e => rcases ht with z | z <;> exact absurd (Value.type.inj z) (by decide)
theorem isSeq_kept {K : PySem.W.Frag} {H H' : Hp} {t : String} {a : Addr} {xs : List V} (s : SeqKept H H') (h : IsSeq K H t a xs) : IsSeq K H' t a xs := by
  rcases h with ⟨e, h1, h2⟩ | ⟨e, h1, h2⟩
  · exact .inl ⟨e, s.seqT h1, tyx_tup s (.inl rfl) h2⟩
  · exact .inr ⟨e, s.seq h1, tyx_tup s (.inr rfl) h2⟩
theorem sameD_kept {K : PySem.W.Frag} {H H' : Hp} (s : SeqKept H H') : ∀ {n : Nat} {x y : V}, SameD K H n x y → SameD K H' n x y
  | 0, x, y, h => h
  | n + 1, x, y, h => by
    rcases h with h | ⟨t, a, b, xs, ys, e1, e2, h1, h2, el, hz, hh⟩
    · exact .inl h
    · exact .inr ⟨t, a, b, xs, ys, e1, e2, isSeq_kept s h1, isSeq_kept s h2, el, hz, fun i u v hu hv => sameD_kept s (hh i u v hu hv)⟩
/-- a dict locked, and the way back -/
theorem seqKept_lock {H : Hp} {d : Addr} {kvs : List (Key × V)} {o : HO} (h : H d = some (.dK kvs)) : SeqKept H (upd H d o) := fun a x hx hs => by
  have ne : a ≠ d := fun e => by
    rw [e, h] at hx
    cases hx
    exact hs
  rw [upd_ne ne]
  exact hx
theorem unlock {H H' : Hp} {d : Addr} {u o : HO} (h : H d = some u) (s : Same (upd H d o) H') : Same H (upd H' d u) := fun a x hx => by
  by_cases e : a = d
  · subst e
    rw [upd_same, ← h, hx]
  · rw [upd_ne e]
    exact s a x (by rw [upd_ne e]; exact hx)
end HL
namespace HL
open PySem PySem.Spec PyProof.Rows L2 SX
/-! ### methods, classes -/
/-- a method of the class at C -/
structure DefM (K : PySem.W.Frag) (C : Addr) (x q : Str) (st : Stmt) (ps : List Str) (f : Addr) (fd : FuncData) : Prop where
  F : Fun K x q st f fd
  b : Binds K fd ps []
  m : Meth K C x f
/-- its __init__ -/
structure DefI (K : PySem.W.Frag) (q : Str) (st : Stmt) (ps : List Str) (f : Addr) (fd : FuncData) : Prop where
  F : Fun K "__init__" q st f fd
  b : Binds K fd ps []
structure ClsN (K : PySem.W.Frag) (mg : Str → Option Value) (x : Str) (C fI : Addr) : Prop where
  g : mg x = some (.ref C)
  cl : Cls K C
  make : Mk K C fI
/-- an own exception without an __init__, under ValueError -/
structure ExcN (K : PySem.W.Frag) (mg : Str → Option Value) (x : Str) (C : Addr) : Prop where
  g : mg x = some (.ref C)
  ex : PySem.W.excIn K C [.type "ValueError", .type "Exception", .type "BaseException", .type "object"] "ValueError.__new__" = true
  kp : PySem.W.keepIn K (.ref C) = true
  sub : PySem.W.subIn K (.ref C) (.type "BaseException") = some true
  ty : PySem.W.typeIn K (.ref C) = some (.type "type")
  te : PySem.W.exmOne K (.ref C) (.ref C) = some true
/-- its class is caught by its name -/
theorem exm_of {K : PySem.W.Frag} {S : Addr} (h1 : PySem.W.subIn K (.ref S) (.type "BaseException") = some true) (h2 : PySem.W.isClsIn K S = true) (h3 : PySem.W.typeIn K (.ref S) = some (.type "type")) (h4 : PySem.W.subIn K (.ref S) (.ref S) = some true) :
    PySem.W.exmOne K (.ref S) (.ref S) = some true := by
  have e1 : (PySem.W.subIn K (.ref S) (.type "BaseException") == some true) = true := by rw [h1] <;> rfl
  have e2 : ((PySem.W.clsIn K S).isSome && PySem.W.typeIn K (.ref S) == some (.type "type")) = true := by
    have h2' : (PySem.W.clsIn K S).isSome = true := h2
    rw [h2', h3] <;> rfl
  show (if (PySem.W.subIn K (.ref S) (.type "BaseException") == some true) = true then (if ((PySem.W.clsIn K S).isSome && PySem.W.typeIn K (.ref S) == some (.type "type")) = true then PySem.W.subIn K (.ref S) (.ref S) else none) else none) = some true
  rw [if_pos e1, if_pos e2]
  exact h4
/-! ### fields -/
theorem putF_nil (f : Str) (v : V) : putF f v [] = [(f, v)] := rfl
theorem putF_eq (f : Str) (v x : V) (r : List (Str × V)) : putF f v ((f, x) :: r) = (f, v) :: r := if_pos rfl
theorem putF_ne {f g : Str} (h : ¬ g = f) (v x : V) (r : List (Str × V)) : putF f v ((g, x) :: r) = (g, x) :: putF f v r := if_neg h
theorem lkF_eq (f : Str) (v : V) (r : List (Str × V)) : List.lookup f ((f, v) :: r) = some v := by
  have h : (f == f) = true := beq_iff_eq.mpr rfl
  simp only [List.lookup, h]
theorem lkF_ne {f g : Str} (h : ¬ g = f) (v : V) (r : List (Str × V)) : List.lookup g ((f, v) :: r) = List.lookup g r := by
  have h' : (g == f) = false := beq_eq_false_iff_ne.mpr h
  simp only [List.lookup, h']
/-! ### two lists, item by item -/
inductive All2 {α β : Type _} (R : α → β → Prop) : List α → List β → Prop
  | nil : All2 R [] []
  | cons {x : α} {y : β} {xs : List α} {ys : List β} : R x y → All2 R xs ys → All2 R (x :: xs) (y :: ys)
namespace All2
variable {α β γ : Type _} {R S : α → β → Prop}
theorem len {xs : List α} {ys : List β} (h : All2 R xs ys) : xs.length = ys.length := by
  induction h with
  | nil => rfl
  | cons _ _ ih => simp [ih]
theorem mono {xs : List α} {ys : List β} (h : All2 R xs ys) (f : ∀ x y, R x y → S x y) : All2 S xs ys := by
  induction h with
  | nil => exact .nil
  | cons a _ ih => exact .cons (f _ _ a) ih
theorem app {xs xs' : List α} {ys ys' : List β} (h : All2 R xs ys) (h' : All2 R xs' ys') : All2 R (xs ++ xs') (ys ++ ys') := by
  induction h with
  | nil => exact h'
  | cons a _ ih => exact .cons a ih
theorem one {x : α} {y : β} (h : R x y) : All2 R [x] [y] := .cons h .nil
theorem snoc {xs : List α} {ys : List β} {x : α} {y : β} (h : All2 R xs ys) (a : R x y) : All2 R (xs ++ [x]) (ys ++ [y]) := h.app (one a)
theorem take {xs : List α} {ys : List β} (h : All2 R xs ys) (n : Nat) : All2 R (xs.take n) (ys.take n) := by
  induction h generalizing n with
  | nil => simp; exact .nil
  | cons a _ ih =>
    cases n with
    | zero => exact .nil
    | succ n => exact .cons a (ih n)
theorem drop {xs : List α} {ys : List β} (h : All2 R xs ys) (n : Nat) : All2 R (xs.drop n) (ys.drop n) := by
  induction h generalizing n with
  | nil => simp; exact .nil
  | cons a hb ih =>
    cases n with
    | zero => exact .cons a hb
    | succ n => exact ih n
theorem get {xs : List α} {ys : List β} (h : All2 R xs ys) {i : Nat} {x : α} (e : xs[i]? = some x) : ∃ y, ys[i]? = some y ∧ R x y := by
  induction h generalizing i with
  | nil => simp at e
  | cons a _ ih =>
    cases i with
    | zero =>
      simp at e
      subst e
      exact ⟨_, rfl, a⟩
    | succ i => exact ih (by simpa using e)
theorem getR {xs : List α} {ys : List β} (h : All2 R xs ys) {i : Nat} {y : β} (e : ys[i]? = some y) : ∃ x, xs[i]? = some x ∧ R x y := by
  induction h generalizing i with
  | nil => simp at e
  | cons a _ ih =>
    cases i with
    | zero =>
      simp at e
      subst e
      exact ⟨_, rfl, a⟩
    | succ i => exact ih (by simpa using e)
theorem of_at {xs : List α} {ys : List β} (hl : xs.length = ys.length) (h : ∀ (i : Nat) (x : α) (y : β), xs[i]? = some x → ys[i]? = some y → R x y) : All2 R xs ys := by
  induction xs generalizing ys with
  | nil =>
    cases ys with
    | nil => exact .nil
    | cons _ _ => simp at hl
  | cons x xs ih =>
    cases ys with
    | nil => simp at hl
    | cons y ys => exact .cons (h 0 x y rfl rfl) (ih (by simpa using hl) fun i a b ha hb => h (i + 1) a b (by simpa using ha) (by simpa using hb))
end All2
/-- a row: at v stands a tuple of what f tells -/
def IsRow {α : Type _} (f : α → List V) (H : Hp) (v : V) (x : α) : Prop := ∃ t, v = .ref t ∧ H t = some (.tup (f x))
theorem IsRow.same {α : Type _} {f : α → List V} {H H' : Hp} {v : V} {x : α} (h : IsRow f H v x) (s : ∀ t o, H t = some (.tup o) → H' t = some (.tup o)) : IsRow f H' v x := by
  obtain ⟨t, e, ht⟩ := h
  exact ⟨t, e, s _ _ ht⟩
/-- slices with an end -/
theorem cut_to (xs : List V) (n : Nat) : cutV xs none (some (n : Int)) = xs.take n := by
  unfold cutV
  rw [HT.sIx_none, HT.sIx_nat, Nat.sub_zero, List.drop_zero]
  by_cases h : n ≤ xs.length
  · rw [Nat.min_eq_left h]
  · have h' : xs.length ≤ n := by omega
    rw [Nat.min_eq_right h', List.take_of_length_le (Nat.le_refl _), List.take_of_length_le h']
theorem cut_from (xs : List V) (n : Nat) : cutV xs (some (n : Int)) none = xs.drop n := by
  unfold cutV
  rw [HT.sIx_none, HT.sIx_nat]
  by_cases h : n ≤ xs.length
  · rw [Nat.min_eq_left h, List.take_of_length_le]
    rw [List.length_drop]
    exact Nat.le_refl _
  · have h' : xs.length ≤ n := by omega
    rw [Nat.min_eq_right h', Nat.sub_self, List.take_zero, List.drop_of_length_le h']
theorem cut_mid (xs : List V) (a b : Nat) : cutV xs (some (a : Int)) (some (b : Int)) = (xs.drop a).take (b - a) := by
  unfold cutV
  rw [HT.sIx_nat, HT.sIx_nat]
  by_cases ha : a ≤ xs.length
  · rw [Nat.min_eq_left ha]
    by_cases hb : b ≤ xs.length
    · rw [Nat.min_eq_left hb]
    · have hb' : xs.length ≤ b := by omega
      rw [Nat.min_eq_right hb', List.take_of_length_le (by rw [List.length_drop]; omega), List.take_of_length_le (by rw [List.length_drop]; omega)]
  · have ha' : xs.length ≤ a := by omega
    rw [Nat.min_eq_right ha', List.drop_of_length_le (Nat.le_refl _), List.drop_of_length_le ha']
    simp
/-- a natural number -/
def vi (n : Nat) : V := .int (n : Int)
theorem vi_inj {a b : Nat} (h : vi a = vi b) : a = b := by
  have := V.int.inj h
  omega
theorem map_vi (l : List Nat) : l.map vi = (l.map fun n : Nat => (n : Int)).map V.int := by
  rw [List.map_map]
  rfl
theorem get_vi {l : List Nat} {i : Nat} {x : V} (h : (l.map vi)[i]? = some x) : ∃ n, l[i]? = some n ∧ x = vi n := by
  rw [List.getElem?_map] at h
  cases e : l[i]? with
  | none => rw [e] at h; cases h
  | some n => rw [e] at h; exact ⟨n, rfl, (Option.some.inj h).symm⟩
theorem take_snoc {α : Type _} {l : List α} {i : Nat} {x : α} (h : l[i]? = some x) : l.take (i + 1) = l.take i ++ [x] := by
  rw [List.take_add_one, h]
  rfl
theorem same_list {K : PySem.W.Frag} {H : Hp} {n : Nat} {a b : Addr} {xs : List Nat} (h1 : H a = some (.lst (xs.map vi))) (h2 : H b = some (.lst (xs.map vi))) (hl : xs.length ≤ 1000000) : SameD K H (n + 1) (.ref a) (.ref b) :=
  .seq (.lst h1) (.lst h2) rfl (by rw [List.length_map]; omega) fun i u v hu hv => by
    rw [hu] at hv
    cases hv
    obtain ⟨k, _, rfl⟩ := get_vi hu
    exact .leaf True.intro
theorem Same.none {H H' : Hp} (s : Same H H') {b : Addr} (h : H' b = none) : H b = none := by
  cases e : H b with
  | none => rfl
  | some o => rw [s _ _ e] at h; cases h
theorem Same.tr {H H1 H2 : Hp} (a : Same H H1) (b : Same H1 H2) : Same H H2 := fun c o h => b c o (a c o h)
/-- lists of natural numbers as data -/
def di (n : Nat) : PyData := .int (n : Int)
theorem dp_vis {K : PySem.W.Frag} {H : Hp} : ∀ xs : List Nat, DpAll K H (xs.map vi) (xs.map di)
  | [] => .nil
  | n :: xs => .cons (.int (n : Int)) (dp_vis xs)
theorem dis_can : ∀ xs : List Nat, PyData.canLayAll0 (xs.map di) = true
  | [] => rfl
  | n :: xs => by
    show (true && PyData.canLayAll0 (xs.map di)) = true
    rw [dis_can xs]
    rfl
theorem dis_depth : ∀ xs : List Nat, PyData.depthAll (xs.map di) ≤ 1
  | [] => Nat.zero_le _
  | n :: xs => by
    have := dis_depth xs
    simp only [List.map_cons, PyData.depthAll, di, PyData.depth] at this ⊢
    omega
theorem shaped_ints (xs : List Nat) : SeqAt.shaped (.list (xs.map di)) = true := by
  have h1 := dis_can xs
  have h2 := dis_depth xs
  simp only [SeqAt.shaped, PyData.canLay0, PyData.depth, Bool.and_eq_true, decide_eq_true_eq]
  exact ⟨h1, decide_eq_true (by omega)⟩
theorem eqv_ints (xs ys : List Nat) : PyData.eqv (.list (xs.map di)) (.list (ys.map di)) = decide (xs = ys) := by
  have h : ∀ xs ys : List Nat, PyData.eqvAll (xs.map di) (ys.map di) = decide (xs = ys) := by
    intro xs
    induction xs with
    | nil =>
      intro ys
      cases ys with
      | nil => rfl
      | cons y ys => simp [PyData.eqvAll]
    | cons x xs ih =>
      intro ys
      cases ys with
      | nil => simp [PyData.eqvAll]
      | cons y ys =>
        show (PyData.eqv (di x) (di y) && PyData.eqvAll (xs.map di) (ys.map di)) = _
        rw [ih ys]
        by_cases e : x = y
        · subst e
          simp [PyData.eqv, di]
        · have h' : ¬ (x : Int) = (y : Int) := by omega
          simp [PyData.eqv, di, e, h']
  show PyData.eqvAll (xs.map di) (ys.map di) = _
  exact h xs ys
theorem dp_list {K : PySem.W.Frag} {H : Hp} {a : Addr} {xs : List Nat} (h : H a = some (.lst (xs.map vi))) : Dp K H (.ref a) (.list (xs.map di)) := .lst (SqL.of h) (dp_vis xs)
end HL
namespace HX
open PySem PySem.Spec PyProof.Rows L2 SX HL
section
variable {Y : Cx} {cx : CXT} {n : Nat} {g cl : Addr} {gd : FuncData} {qs : List Str} {pr : Sp} {Ex : L2.St → XK} {nm : Str} {p0 q0 r0 : Pos} {a0 o0 : Expr} {as : List Expr} {to_ : TE} {ar : TA}
/-- a method called where what it lets out is wanted by the slots -/
def tMethS (cl : Addr) (nm : Str) (pr : Sp) (Ex : L2.St → XK) (to_ : TE) (ar : TA) : TE := fun σ H Q => to_ σ H fun x H1 => ∃ a dx fs, x = .ref a ∧ H1 a = some (.ins cl dx fs) ∧ fs.lookup nm = none ∧
  ar σ H1 fun vs H2 => pr (x :: vs) H2 Q (Ex σ)
theorem pe_methS1 {pl : Sem Bool} (ho : PE Y o0 to_) (cc : Cls Y.K cl) (mm : Meth Y.K cl nm g) (G : FnOk Y.prog Y.w Y.K Y.mg Y.base cx n g gd qs pr) (room : Room n Y.A) (bb : Binds Y.K gd qs []) (hx : ∀ σ, PassesAt cx Y σ (Ex σ)) (ha : PA Y (a0 :: as) ar)
    (hst : starEach (a0 :: as) Y.env = (false, eval a0 Y.env) :: starEach as Y.env := by rfl) (hpl : (backTo p0 (starEach as Y.env)).any (·.1) = false := by rfl)
    (ht : eval (.Call (.Attribute o0 nm r0) (a0 :: as) [] p0) Y.env = (do
      let ob ← eval o0 Y.env
      standAt r0.atName
      let (fn, fst) ← holding [ob] (getMethod ob nm pl)
      callWith p0 fn fst (backTo p0 (starEach (a0 :: as) Y.env)) (backToKw p0 (keywordEach [] Y.env))) := by rfl) :
    PE Y (.Call (.Attribute o0 nm r0) (a0 :: as) [] p0) (tMethS cl nm pr Ex to_ ar) := by
  refine ⟨fun pins s σ H Q I0 h0 => PySem.W.methodCall_KW (pl := pl) (thn (ho.run pins s σ H _ I0 h0) fun u s1 ⟨x, H1, I1, rx, a, dx, fs, ex, ea, l, q⟩ => ?_) ht⟩
  subst ex
  obtain rfl : u = Value.ref a := rx
  refine getmeth_ok I1 ea cc mm l (PySem.W.callWith_K (first := [.ref a]) (h₀ := Y.base) I1.ok.mod.kin mm.kp (thn (ha.run p0 pins s1 σ H1 _ I1 q) fun us s2 ⟨vs, H2, I2, r, q2⟩ => ⟨I2.kIn, ?_⟩) hst hpl)
  exact run_fnS (us := .ref a :: us) (vs := .ref a :: vs) G room bb (hx σ) I2 (.cons rfl r) q2
theorem pe_methS0 {pl : Sem Bool} (ho : PE Y o0 to_) (cc : Cls Y.K cl) (mm : Meth Y.K cl nm g) (G : FnOk Y.prog Y.w Y.K Y.mg Y.base cx n g gd qs pr) (room : Room n Y.A) (bb : Binds Y.K gd qs []) (hx : ∀ σ, PassesAt cx Y σ (Ex σ))
    (ht : eval (.Call (.Attribute o0 nm r0) [] [] p0) Y.env = (do
      let ob ← eval o0 Y.env
      standAt r0.atName
      let (fn, fst) ← holding [ob] (getMethod ob nm pl)
      callWith p0 fn fst (backTo p0 (starEach [] Y.env)) (backToKw p0 (keywordEach [] Y.env))) := by rfl) :
    PE Y (.Call (.Attribute o0 nm r0) [] [] p0) (tMethS cl nm pr Ex to_ tNil) := by
  refine ⟨fun pins s σ H Q I0 h0 => PySem.W.methodCall_KW (pl := pl) (thn (ho.run pins s σ H _ I0 h0) fun u s1 ⟨x, H1, I1, rx, a, dx, fs, ex, ea, l, q⟩ => ?_) ht⟩
  subst ex
  obtain rfl : u = Value.ref a := rx
  exact getmeth_ok I1 ea cc mm l (PySem.W.callWith_K0 (first := [.ref a]) I1.kIn mm.kp (run_fnS (us := [.ref a]) (vs := [.ref a]) G room bb (hx σ) I1 (.cons rfl .nil) q))
theorem pe_callS0 (G : FnOk Y.prog Y.w Y.K Y.mg Y.base cx n g gd qs pr) (room : Room n Y.A) (hg : Gl Y nm) (hm : Y.mg nm = some (.ref g)) (hk : PySem.W.keepIn Y.K (.ref g) = true) (bb : Binds Y.K gd qs []) (hx : ∀ σ, PassesAt cx Y σ (Ex σ))
    (hdb : (nm == ("__debug__" : Str)) = false := by decide) : PE Y (.Call (.Name nm q0) [] [] p0) (tCallS pr Ex tNil) := by
  refine ⟨fun pins s σ H Q I0 h0 => wpAny_Call_Name_kw (ld_glob I0 hg hm ?_ hdb)⟩
  exact PySem.W.callWith_K0 I0.kIn hk (run_fnS (us := []) G room bb (hx σ) I0 .nil h0)
end
end HX
namespace HX
open PySem PySem.Spec PyProof.Rows L2 SX HL
theorem bd_full {K : PySem.W.Frag} {fd : FuncData} {ps : List Str} (h : ∃ ds, Vals [] ds ∧ Binds K fd ps ds) : Binds K fd ps [] := by
  obtain ⟨ds, v, b⟩ := h
  cases v
  exact b
/-- a method whose last parameters have defaults -/
structure DefMD (K : PySem.W.Frag) (C : Addr) (x q : Str) (st : Stmt) (ps : List Str) (dvs : List V) (f : Addr) (fd : FuncData) : Prop where
  F : FunD K x q (defArgs st) (defBody st) (defScope st) dvs [] f fd
  m : Meth K C x f
  bd : ∃ ds, Vals dvs ds ∧ Binds K fd ps ds
  b : Binds K fd ps []
end HX
namespace HX
open PySem PySem.Spec PyProof.Rows L2 SX HL
/-! ### rules within comprehensions: K is told -/
section
variable {X : Cx} {K : PySem.W.Frag}
theorem call_len_seqK (h : X.K = K) : CallR X (.builtin "len") (fun xs H Q => ∃ p ys, xs = [.ref p] ∧ (SqL K H p ys ∨ SqT K H p ys) ∧ Q (.int ys.length) H) := by
  subst h
  exact call_len_seq
theorem op_eqDK (h : X.K = K) (hu : X.A.units + 64 < cLine) : OpR X (compareOp .Eq) (rEqD K) := by
  subst h
  exact op_eqD hu
theorem op_neDK (h : X.K = K) (hu : X.A.units + 64 < cLine) : OpR X (compareOp .NotEq) (rNeD K) := by
  subst h
  exact op_neD hu
theorem sl_listK (h : X.K = K) : SlR X (rSlL K) := by
  subst h
  exact sl_list
theorem ix_seqK (h : X.K = K) : IxR X (rIx K) := by
  subst h
  exact ix_seq
theorem op_inDK (h : X.K = K) (hu : X.A.units + 65 < cLine) : OpR X (compareOp .In) (rInD K) := by
  subst h
  exact op_inD hu
theorem op_notInDK (h : X.K = K) (hu : X.A.units + 65 < cLine) : OpR X (compareOp .NotIn) (rNotInD K) := by
  subst h
  exact op_notInD hu
theorem call_list_ofK (h : X.K = K) : CallR X (.type "list") (fun xs H Q => ∃ p ys, xs = [.ref p] ∧ (SqL K H p ys ∨ SqT K H p ys) ∧ ∀ l, H l = none → Q (.ref l) (upd H l (.lst ys))) := by
  subst h
  exact call_list_of
theorem call_isBK (h : X.K = K) : CallR X (.builtin "isinstance") (rIsB K) := by
  subst h
  exact call_isB
end
end HX
namespace HE
open PySem PySem.Spec PyProof.Rows L2 SX HL
/-! ## enumerate of a text, of a dict's keys -/
section
variable {prog : Program} {w : World} {A : Around} {E : Value → Shared → Prop} {s : Shared}
theorem keys_item {it d : Addr} {i n ep : Nat} {od : Obj} {es : Array DictEntry} {en : DictEntry} {Q : Value → Shared → Prop} (hit : s.heap.IsKeyIter it d i n ep) (hod : s.heap.get? d = some od) (hdd : od.data = .dict es ep) (hn : es.size = n) (hx : es[i]? = some en)
    (q : ∀ h', h'.IsKeyIter it d (i + 1) n ep → Heap.SameBut it s.heap h' → Q en.key { s with heap := h' }) : wpAny (model prog w) A (Builtin.SmallTypes.nextOf (.ref it)) Q E s := by
  obtain ⟨o, ho, oc, hd⟩ := id hit
  unfold Builtin.SmallTypes.nextOf
  refine wpAny_bind (wpAny_callSpecial?_slot (name := Str.ofString "__next__") hit.typeIs F.slot_dict_keyiterator_next (wpAny_call_entry F.slot_dict_keyiterator_next hit.typeIs F.entry_dict_keyiterator_next ?_ (F.args_dict_keyiterator_next_1 _)))
  refine wpAny_bind (wpAny_pure (wpAny_bind (wpAny_bind ?_)))
  first | refine wpAny_bind (wpAny_typeNameOfWhole_keyiter hit.typeIs (wpAny_pure (wpAny_bind (wpAny_fieldsOf ho hd ?_)))) | refine wpAny_bind (wpAny_typeNameOf_keyiter hit.typeIs (wpAny_pure (wpAny_bind (wpAny_fieldsOf ho hd ?_))))
  have own : Builtin.Dict_items.ownsTuple "dict_keyiterator" = false := by decide
  simp only [own, Bool.false_eq_true, if_false]
  show wpAny _ A.in1 (if (Value.ref d == Value.none) = true then _ else _) _ _ s
  rw [if_neg (show ¬ (Value.ref d == Value.none) = true from Bool.false_ne_true)]; refine wpAny_bind (wpAny_pure (wpAny_bind (wpAny_dictEntries hod hdd ?_)))
  rw [if_neg (by rw [hn]; simp)]; refine wpAny_bind (wpAny_pure (wpAny_bind (wpAny_dictEpoch hod hdd ?_)))
  rw [if_neg (by simp)]; refine wpAny_pure ?_
  obtain ⟨lt, he⟩ := Array.getElem?_eq_some_iff.mp hx
  simp only [show ¬ ((i : Int) < 0) from by omega, if_false, Int.toNat_natCast, Array.getElem?_eq_getElem lt]; refine wpAny_bind ?_
  first | refine wpAny_bind (wpAny_typeNameOfWhole_keyiter hit.typeIs (wpAny_pure (wpAny_bind (wpAny_isOneOf_keyiter hit.typeIs ?_)))) | refine wpAny_bind (wpAny_typeNameOf_keyiter hit.typeIs (wpAny_pure (wpAny_bind (wpAny_isOneOf_keyiter hit.typeIs ?_))))
  show wpAny _ _ (setField (.ref it) 1 (rawInt ((i : Int) + 1)) >>= _) _ _ s
  refine wpAny_bind (wpAny_setField ho hd (by simp) ?_)
  have it2 : (s.heap.update it (Obj.mapFields (·.setIfInBounds 1 (rawInt ((i : Int) + 1))))).IsKeyIter it d (i + 1) n ep := ⟨_, Heap.get?_update_self _ ho (Obj.isFreed_of_fields (Obj.data_mapFields hd _)), (Obj.cls_mapFields ..).trans oc, by rw [Obj.data_mapFields hd]; simp [rawInt]⟩
  refine wpAny_bind (wpAny_holding (wpAny_bind (wpAny_isOneOf_keyiter (s := { s with heap := s.heap.update it (Obj.mapFields (·.setIfInBounds 1 (rawInt ((i : Int) + 1)))) }) it2.typeIs ?_)))
  show wpAny _ A.in1 (pure es[i].key) _ _ _
  rw [he]; exact wpAny_pure (wpAny_pure ⟨_, rfl, wpAny_pure (q _ it2 (Heap.SameBut.update ..))⟩)
theorem keys_end {it d : Addr} {i n ep : Nat} {od : Obj} {es : Array DictEntry} {Q : Value → Shared → Prop} (hh : A.handled = none) (hit : s.heap.IsKeyIter it d i n ep) (hod : s.heap.get? d = some od) (hdd : od.data = .dict es ep) (hn : es.size = n) (hge : n ≤ i)
    (q : ∀ h' x, Heap.ExtBut it s.heap h' → (∃ o, h'.get? x = some o ∧ o.cls = .type "StopIteration") → E (.ref x) { s with heap := h' }) : wpAny (model prog w) A (Builtin.SmallTypes.nextOf (.ref it)) Q E s := by
  obtain ⟨o, ho, oc, hd⟩ := id hit
  unfold Builtin.SmallTypes.nextOf
  refine wpAny_bind (wpAny_callSpecial?_slot (name := Str.ofString "__next__") hit.typeIs F.slot_dict_keyiterator_next (wpAny_call_entry F.slot_dict_keyiterator_next hit.typeIs F.entry_dict_keyiterator_next ?_ (F.args_dict_keyiterator_next_1 _)))
  refine wpAny_bind (wpAny_pure (wpAny_bind (wpAny_bind ?_)))
  first | refine wpAny_bind (wpAny_typeNameOfWhole_keyiter hit.typeIs (wpAny_pure (wpAny_bind (wpAny_fieldsOf ho hd ?_)))) | refine wpAny_bind (wpAny_typeNameOf_keyiter hit.typeIs (wpAny_pure (wpAny_bind (wpAny_fieldsOf ho hd ?_))))
  have own : Builtin.Dict_items.ownsTuple "dict_keyiterator" = false := by decide
  simp only [own, Bool.false_eq_true, if_false]
  show wpAny _ A.in1 (if (Value.ref d == Value.none) = true then _ else _) _ _ s
  rw [if_neg (show ¬ (Value.ref d == Value.none) = true from Bool.false_ne_true)]; refine wpAny_bind (wpAny_pure (wpAny_bind (wpAny_dictEntries hod hdd ?_)))
  rw [if_neg (by rw [hn]; simp)]; refine wpAny_bind (wpAny_pure (wpAny_bind (wpAny_dictEpoch hod hdd ?_)))
  rw [if_neg (by simp)]; refine wpAny_pure ?_
  have ge : es.size ≤ i := by rw [hn]; exact hge
  simp only [show ¬ ((i : Int) < 0) from by omega, if_false, Int.toNat_natCast, Array.getElem?_eq_none ge]; refine wpAny_bind ?_
  first | refine wpAny_bind (wpAny_typeNameOfWhole_keyiter hit.typeIs (wpAny_pure ?_)) | refine wpAny_bind (wpAny_typeNameOf_keyiter hit.typeIs (wpAny_pure ?_))
  show wpAny _ A.in1 (setField (.ref it) 0 .none >>= _) _ _ s
  refine wpAny_bind (wpAny_setField ho hd (by simp) ?_)
  show wpAny _ A.in1 (newExc (.type "StopIteration") [] >>= _) _ _ _
  refine wpAny_bind ?_
  simp only [newExc, newTuple]; refine wpAny_bind (wpAny_newObj_type ?_ (by size_fits))
  refine wpAny_bind (m := firstArgMember _ _) (wpAny_of_eq (a := Value.none) (by first | rfl | (simp only [firstArgMember]; rfl)) (wpAny_newObj_type ?_ (by size_fits)))
  simp only [raiseNew]; refine wpAny_bind (wpAny_handled ?_)
  first | rw [show A.in1.handled = none from hh] | rw [hh]
  refine wpAny_bind (wpAny_pure (wpAny_throw ?_))
  exact q _ _ (((Heap.SameBut.update ..).extBut.push _).push _) ⟨_, Heap.get?_push_size _ rfl, rfl⟩
theorem draws_keys (hh : A.handled = none) (it d : Addr) (hne : d ≠ it) {od : Obj} {es : Array DictEntry} {ep : Nat} (hdd : od.data = .dict es ep) :
    Draws prog w A it [it, d] es.size (fun i v => ∃ en, es[i]? = some en ∧ v = en.key) (fun i h => h.IsKeyIter it d i es.size ep ∧ h.get? d = some od) where
  live := fun _ _ st => let ⟨o, ho, _⟩ := st.1; ⟨o, ho⟩
  frame := fun _ _ _ st k => ⟨st.1.at fun o e => k it (by simp) o e, k d (by simp) _ st.2⟩
  item := fun i s Q E hi st q => by
    refine keys_item st.1 st.2 hdd rfl (en := es[i]) (Array.getElem?_eq_getElem hi) fun h' it' sb => ?_
    exact q _ h' s.toks ⟨_, Array.getElem?_eq_getElem hi, rfl⟩ ⟨it', (sb.2 d hne).trans st.2⟩ sb
  done := fun s Q E st q => keys_end hh st.1 st.2 hdd rfl (Nat.le_refl _) q
end
open AutoSeq1 (wpAny_loadPart')
theorem meets_keys (d : Addr) (o : Obj) (es : Array DictEntry) (ep : Nat) (hd : (d == sysModules) = false) (hc : o.ExactDict) (hdat : o.data = .dict es ep) :
    Meets (Builtin.«enumerate.__new__» ⟨[.type "enumerate", .ref d], []⟩) (fun _ R s => s.heap.get? d = some o ∧
      R (.ok (.ret (.ref (s.heap.push { cls := .type "dict_keyiterator", data := .fields #[.ref d, .int 0 0, .int es.size 0, .int ep 0] }).objs.size)))
        { s with heap := (s.heap.push { cls := .type "dict_keyiterator", data := .fields #[.ref d, .int 0 0, .int es.size 0, .int ep 0] }).push { cls := .type "enumerate", data := .fields #[.none, .bool false, .ref s.heap.objs.size, rawInt 0, .none, .none] } }) :=
  .of_wp fun prog w A R s h => by
    obtain ⟨hp, g, dr, tk, os⟩ := s
    obtain ⟨ho, h⟩ := h
    have hsub := sub_enumerate
    have ik : ∀ {A : Around} {E : Value → Shared → Prop} {Q : Value → Shared → Prop}, Q (.ref hp.objs.size) ⟨hp.push { cls := .type "dict_keyiterator", data := .fields #[.ref d, .int 0 0, .int es.size 0, .int ep 0] }, g, dr, tk, os⟩ → wpAny (model prog w) A (pyIter (.ref d)) Q E ⟨hp, g, dr, tk, os⟩ := fun q => iter_keys (s := ⟨hp, g, dr, tk, os⟩) hd ho hc hdat q
    wp_walk using wpAny_loadPart' ho
    refine wpAny_stack_any fun st => wpAny_pure ?_
    split
    · rename_i c _ _ _ _ _
      cases (c == Value.type "enumerate") <;> (wp_walk using wpAny_loadPart' ho, ik; exact ⟨_, rfl, h⟩)
    · wp_walk using wpAny_loadPart' ho, ik
      exact ⟨_, rfl, h⟩
theorem call_enum_keys {prog : Program} {w : World} {A : Around} {E : Value → Shared → Prop} {s : Shared} {d : Addr} {o : Obj} {es : Array DictEntry} {ep : Nat} {Q : Value → Shared → Prop} (hd : (d == sysModules) = false) (ho : s.heap.get? d = some o) (hc : o.ExactDict) (hdat : o.data = .dict es ep)
    (q : ∀ h', IsEnum h' (s.heap.objs.size + 1) s.heap.objs.size 0 .none → h'.IsKeyIter s.heap.objs.size d 0 es.size ep → (∀ b x, s.heap.get? b = some x → h'.get? b = some x) → Q (.ref (s.heap.objs.size + 1)) { s with heap := h' }) :
    wpAny (model prog w) A (call (.type "enumerate") [.ref d]) Q E s := by
  refine callType_new F.called_enumerate (by decide) (F.typeCall_enumerate_1 _) (F.newCall_enumerate_1 _) (fun obj => F.args_object_init_2 obj _) F.entry_enumerate_new (meets_keys d o es ep hd hc hdat) ⟨ho, ?_⟩
  have hz : (s.heap.push { cls := .type "dict_keyiterator", data := .fields #[.ref d, .int 0 0, .int es.size 0, .int ep 0] }).objs.size = s.heap.objs.size + 1 := Heap.size_push ..
  show _ ∧ _
  rw [hz]
  have he : IsEnum ((s.heap.push { cls := .type "dict_keyiterator", data := .fields #[.ref d, .int 0 0, .int es.size 0, .int ep 0] }).push { cls := .type "enumerate", data := .fields #[.none, .bool false, .ref s.heap.objs.size, rawInt 0, .none, .none] }) (s.heap.objs.size + 1) s.heap.objs.size 0 .none := by
    have := Heap.get?_push_size (s.heap.push { cls := .type "dict_keyiterator", data := .fields #[.ref d, .int 0 0, .int es.size 0, .int ep 0] }) (o := { cls := .type "enumerate", data := .fields #[.none, .bool false, .ref s.heap.objs.size, rawInt 0, .none, .none] }) rfl
    rwa [hz] at this
  exact ⟨⟨_, he, rfl⟩, q _ he ⟨_, Heap.get?_push_of_some _ (Heap.get?_push_size _ rfl), rfl, rfl⟩ fun b x e => Heap.get?_push_of_some _ (Heap.get?_push_of_some _ e)⟩
/-- (0, key), (1, key), ..: the locked dict at d -/
def Itek (d : Addr) (o : Obj) (kvs : List (Key × V)) : It :=
  ⟨fun i H => H d = some (.frz o (.dK kvs)) ∧ i < kvs.length, fun i H v H' => ∃ T k x, kvs[i]? = some (k, x) ∧ v = .ref T ∧ H T = none ∧ H' = upd H T (.tup [.int (i : Nat), kV k]), fun i H => H d = some (.frz o (.dK kvs)) ∧ kvs.length ≤ i⟩
theorem turn_enumK {P : Program} {w : World} {K : PySem.W.Frag} {elts : List Expr} {kk : Nat} {tpos : Pos} {d : Addr} {o : Obj} {kvs : List (Key × V)} {es : Array DictEntry} {ep : Nat} (e it : Addr) (hod : o.data = .dict es ep) :
    Turn P w K (.Tuple elts kk tpos) (Itek d o kvs) [e, it] e (fun i h => (∃ old, IsEnum h e it ((i : Nat) : Int) old) ∧ h.IsKeyIter it d i kvs.length ep ∧ e ≠ it ∧ i ≤ kvs.length) where
  mem := by simp
  obj := fun i h st b hb => by
    obtain ⟨⟨old, he⟩, ⟨o', ho, hc, hd⟩, _⟩ := st
    rcases (show b = e ∨ b = it by simpa using hb) with z | z
    · rw [z]; exact ⟨_, he, fun v q => nomatch q⟩
    · rw [z]; exact ⟨o', ho, fun v q => by rw [hd] at q; cases q⟩
  keep := fun i h h' st k => let ⟨⟨old, he⟩, hi, hne, hle⟩ := st; ⟨⟨old, k e (by simp) _ he⟩, hi.at fun o q => k it (by simp) o q, hne, hle⟩
  item := by
    intro X hP hw hK hc i pins s σ H E I hf st hg
    subst hP hw hK
    obtain ⟨⟨old, he⟩, hit, hne, hle⟩ := st
    obtain ⟨hd, hi⟩ := hg
    obtain ⟨hs, hgd, hx, es', ep', vs, hdt, hsz, kv, hm⟩ := I.frzK hd
    obtain ⟨rfl, rfl⟩ := dict_ep hod hdt
    have hel : e < s.heap.objs.size := Heap.lt_size he
    have hil : it < s.heap.objs.size := by obtain ⟨_, q, _⟩ := hit; exact Heap.lt_size q
    have nd : ∀ b, FpOk X pins H b → d ≠ b := fun b hb z => by rw [← z] at hb; have := hb.1; rw [hd] at this; cases this
    have ndi := nd it (hf it (by simp))
    have nde := nd e (hf e (by simp))
    obtain ⟨⟨k, v⟩, hkv⟩ : ∃ p, kvs[i]? = some p := ⟨kvs[i], List.getElem?_eq_getElem hi⟩
    have D := draws_keys (prog := X.prog) (w := X.w) (A := X.A.in1) (I.ok.hd hc) it d ndi hdt
    rw [← hsz] at hit hi
    refine wpAny_pyNext_enum_itemD D he ⟨hit, hgd⟩ hi hne (by simp [hne, nde.symm]) fun x h' tk hP ho st' hT hsz' hk => ?_
    obtain ⟨en, hen, rfl⟩ := hP
    refine ⟨_, rfl, wpAny_letOwnedTupleGo_enum (s := { s with heap := h', toks := tk + 1 }) ho fun h'' he' sb => ?_⟩
    have hT2 : h''.get? s.heap.objs.size = some { cls := .type "tuple", data := .seq #[.int i tk, en.key] } := (sb.2 _ (Nat.ne_of_gt hel)).trans hT
    have rk : RelV (kV k) en.key := by
      obtain ⟨u, hu, _⟩ := kv_get kv hkv
      obtain ⟨od, es2, hod2, hcd, hdd, hks, hp, hnn⟩ := id hm
      rw [hgd] at hod2
      cases hod2
      rw [hdt] at hdd
      cases hdd
      exact relV_key (hp.get? (by simpa using hen) hu).1
    have new : ObjOk X.prog X.w (upd H s.heap.objs.size (.tup [.int (i : Nat), kV k])) h'' s.heap.objs.size (.tup [.int (i : Nat), kV k]) :=
      ⟨by show 2 ≤ sizeLine; decide, [.int i tk, en.key], .cons ⟨_, rfl⟩ (.cons rk .nil), ⟨_, hT2, rfl, _, rfl⟩⟩
    have I1 : Inv X pins σ (upd H s.heap.objs.size (.tup [.int (i : Nat), kV k])) { s with heap := h'', toks := tk + 1 } :=
      I.turnedNew (ch := [e, it]) (fun b ob hb q => (sb.2 b (fun z => hb (by simp [z]))).trans (hk b ob (fun z => hb (by simp [z])) (fun z => hb (by simp [z])) q)) hf (Nat.le_refl _) new
    refine ⟨.ref s.heap.objs.size, _, I1, rfl, ⟨_, k, v, hkv, rfl, I.hok.fresh (Nat.le_refl _), rfl⟩, ⟨⟨en.key, ?_⟩, ?_, hne, by omega⟩, fun b hb => ?_⟩
    · have e1 : ((i + 1 : Nat) : Int) = (i : Int) + 1 := by omega
      rw [e1]; exact he'
    · rw [← hsz]
      exact st'.1.at fun o q => (sb.2 it (Ne.symm hne)).trans q
    · have hb' : b < s.heap.objs.size := by
        rcases (show b = e ∨ b = it by simpa using hb) with z | z
        · rw [z]; exact hel
        · rw [z]; exact hil
      rw [upd_ne (Nat.ne_of_lt hb')]
      exact (hf b hb).1
  done := by
    intro X hP hw hK hc i pins s σ H E I hf st hg
    subst hP hw hK
    obtain ⟨⟨old, he⟩, hit, hne, hle⟩ := st
    obtain ⟨hd, hi⟩ := hg
    obtain ⟨hs, hgd, hx, es', ep', vs, hdt, hsz, kv, hm⟩ := I.frzK hd
    obtain ⟨rfl, rfl⟩ := dict_ep hod hdt
    obtain ⟨f0, f1, f2, f3, f4, f5⟩ := hf it (by simp)
    have nd : d ≠ it := fun z => by rw [← z, hd] at f0; cases f0
    have nde : d ≠ e := fun z => by have := (hf e (by simp)).1; rw [← z, hd] at this; cases this
    have ei : i = es'.size := by omega
    have D := draws_keys (prog := X.prog) (w := X.w) (A := X.A.in1) (I.ok.hd hc) it d nd hdt
    rw [← hsz, ei] at hit
    rw [ei] at he
    exact wpAny_pyNext_enum_endD D he ⟨hit, hgd⟩ fun h' eb => ⟨rfl, I.turned (t' := s.toks) (fun b o hb q => eb b o hb q) f0 f1 f3 f4 f5⟩
  self := fun A i s Q E st h => let ⟨⟨_, he⟩, _⟩ := st; wpAny_pyIter_enum he h
def iEnumK (ta : TA) : TI := fun σ H R => ta σ H fun vs H1 => ∃ d o kvs, vs = [.ref d] ∧ H1 d = some (.frz o (.dK kvs)) ∧ R (Itek d o kvs) H1
/-- for i, k in enumerate(d), d locked -/
theorem pi_enumK {X : Cx} {e : Expr} {ta : TA} {p pos tpos : Pos} {elts : List Expr} {kk : Nat} (hg : Gl X "enumerate") (hm : X.mg "enumerate" = none) (ha : PA X [e] ta) (hs : starEach [e] X.env = [(false, eval e X.env)] := by rfl) :
    PI X (.Tuple elts kk tpos) (.Call (.Name "enumerate" p) [e] [] pos) (iEnumK ta) := by
  refine ⟨fun pins s σ H R I h => Call_ (ld_blt I hg hm boot_enumerate (PyProof.Rows.callWith_type1 (thn (ha.run pos pins s σ H _ I h) fun us s1 ⟨vs, H1, I1, r1, q1⟩ => ?_) hs rfl))⟩
  obtain ⟨d, o, kvs, ex, hd, q⟩ := q1
  subst ex
  cases r1 with
  | cons r rr =>
    cases rr
    cases r
    obtain ⟨hsm, hgd, hx, es, ep, vs, hdt, hsz, kv, hmm⟩ := I1.frzK hd
    refine call_enum_keys hsm hgd hx hdt fun h' he hit hk => wpAny_pyIter_enum he ?_
    have I2 : Inv X pins σ H1 { s1 with heap := h' } := I1.kept (t' := s1.toks) hk
    rw [hsz] at hit
    refine ⟨s1.heap.objs.size + 1, [s1.heap.objs.size + 1, s1.heap.objs.size], _, _, H1, rfl, I2, turn_enumK (s1.heap.objs.size + 1) s1.heap.objs.size hdt, ⟨⟨.none, he⟩, hit, Nat.succ_ne_self _, Nat.zero_le _⟩, fun b hb => ?_, q⟩
    have hle : s1.heap.objs.size ≤ b := by
      rcases (show b = s1.heap.objs.size + 1 ∨ b = s1.heap.objs.size by simpa using hb) with z | z
      · rw [z]; exact Nat.le_add_right _ _
      · rw [z]; exact Nat.le_refl _
    exact I1.fpOk hle (I1.hok.fresh hle)
/-- (0, sign), (1, sign), ..: a text -/
def Ites (z : Str) : It :=
  ⟨fun i _ => i < z.cps.size, fun i H v H' => ∃ T c, z.cps[i]? = some c ∧ v = .ref T ∧ H T = none ∧ H' = upd H T (.tup [.int (i : Nat), .str ⟨#[c]⟩]), fun i _ => z.cps.size ≤ i⟩
theorem draws_str {prog : Program} {w : World} {A : Around} (hh : A.handled = none) (it : Addr) (x : Str) (t : Tok) : Draws prog w A it [it] x.cps.size (fun i v => ∃ c u, x.cps[i]? = some c ∧ v = .str ⟨#[c]⟩ u) (fun i h => h.IsStrIter it (strIterType x) x t i) := by
  unfold strIterType
  split
  · exact Draws.strAscii hh it x t
  · exact Draws.strWide hh it x t
theorem turn_enumS {P : Program} {w : World} {K : PySem.W.Frag} {elts : List Expr} {kk : Nat} {tpos : Pos} {z : Str} {t : Tok} (e it : Addr) :
    Turn P w K (.Tuple elts kk tpos) (Ites z) [e, it] e (fun i h => (∃ old, IsEnum h e it ((i : Nat) : Int) old) ∧ h.IsStrIter it (strIterType z) z t i ∧ e ≠ it ∧ i ≤ z.cps.size) where
  mem := by simp
  obj := fun i h st b hb => by
    obtain ⟨⟨old, he⟩, ⟨o', ho, hc, hd⟩, _⟩ := st
    rcases (show b = e ∨ b = it by simpa using hb) with y | y
    · rw [y]; exact ⟨_, he, fun v q => nomatch q⟩
    · rw [y]; exact ⟨o', ho, fun v q => by rw [hd] at q; cases q⟩
  keep := fun i h h' st k => let ⟨⟨old, he⟩, ⟨o, ho, r⟩, hne, hle⟩ := st; ⟨⟨old, k e (by simp) _ he⟩, ⟨o, k it (by simp) o ho, r⟩, hne, hle⟩
  item := by
    intro X hP hw hK hc i pins s σ H E I hf st hi
    subst hP hw hK
    obtain ⟨⟨old, he⟩, hit, hne, hle⟩ := st
    have hel : e < s.heap.objs.size := Heap.lt_size he
    have hil : it < s.heap.objs.size := by obtain ⟨_, q, _⟩ := hit; exact Heap.lt_size q
    have D := draws_str (prog := X.prog) (w := X.w) (A := X.A.in1) (I.ok.hd hc) it z t
    refine wpAny_pyNext_enum_itemD D he hit hi hne (by simp [hne]) fun x h' tk hP ho st' hT hsz' hk => ?_
    obtain ⟨c, u, hcu, rfl⟩ := hP
    refine ⟨_, rfl, wpAny_letOwnedTupleGo_enum (s := { s with heap := h', toks := tk + 1 }) ho fun h'' he' sb => ?_⟩
    have hT2 : h''.get? s.heap.objs.size = some { cls := .type "tuple", data := .seq #[.int i tk, .str ⟨#[c]⟩ u] } := (sb.2 _ (Nat.ne_of_gt hel)).trans hT
    have new : ObjOk X.prog X.w (upd H s.heap.objs.size (.tup [.int (i : Nat), .str ⟨#[c]⟩])) h'' s.heap.objs.size (.tup [.int (i : Nat), .str ⟨#[c]⟩]) :=
      ⟨by show 2 ≤ sizeLine; decide, [.int i tk, .str ⟨#[c]⟩ u], .cons ⟨_, rfl⟩ (.cons ⟨_, rfl⟩ .nil), ⟨_, hT2, rfl, _, rfl⟩⟩
    have I1 : Inv X pins σ (upd H s.heap.objs.size (.tup [.int (i : Nat), .str ⟨#[c]⟩])) { s with heap := h'', toks := tk + 1 } :=
      I.turnedNew (ch := [e, it]) (fun b ob hb q => (sb.2 b (fun z => hb (by simp [z]))).trans (hk b ob (fun z => hb (by simp [z])) (fun z => hb (by simp [z])) q)) hf (Nat.le_refl _) new
    have hi' : i < z.cps.size := hi
    refine ⟨.ref s.heap.objs.size, _, I1, rfl, ⟨_, c, hcu, rfl, I.hok.fresh (Nat.le_refl _), rfl⟩, ⟨⟨.str ⟨#[c]⟩ u, ?_⟩, ?_, hne, by omega⟩, fun b hb => ?_⟩
    · have e1 : ((i + 1 : Nat) : Int) = (i : Int) + 1 := by omega
      rw [e1]; exact he'
    · obtain ⟨o, ho', r⟩ := st'
      exact ⟨o, (sb.2 it (Ne.symm hne)).trans ho', r⟩
    · have hb' : b < s.heap.objs.size := by
        rcases (show b = e ∨ b = it by simpa using hb) with y | y
        · rw [y]; exact hel
        · rw [y]; exact hil
      rw [upd_ne (Nat.ne_of_lt hb')]
      exact (hf b hb).1
  done := by
    intro X hP hw hK hc i pins s σ H E I hf st hi
    subst hP hw hK
    obtain ⟨⟨old, he⟩, hit, hne, hle⟩ := st
    obtain ⟨f0, f1, f2, f3, f4, f5⟩ := hf it (by simp)
    have hi' : z.cps.size ≤ i := hi
    have ei : i = z.cps.size := by omega
    have D := draws_str (prog := X.prog) (w := X.w) (A := X.A.in1) (I.ok.hd hc) it z t
    rw [ei] at hit he
    exact wpAny_pyNext_enum_endD D he hit fun h' eb => ⟨rfl, I.turned (t' := s.toks) (fun b o hb q => eb b o hb q) f0 f1 f3 f4 f5⟩
  self := fun A i s Q E st h => let ⟨⟨_, he⟩, _⟩ := st; wpAny_pyIter_enum he h
def iEnumS (ta : TA) : TI := fun σ H R => ta σ H fun vs H1 => ∃ z, vs = [.str z] ∧ R (Ites z) H1
/-- for i, c in enumerate(text) -/
theorem pi_enumS {X : Cx} {e : Expr} {ta : TA} {p pos tpos : Pos} {elts : List Expr} {kk : Nat} (hg : Gl X "enumerate") (hm : X.mg "enumerate" = none) (ha : PA X [e] ta) (hs : starEach [e] X.env = [(false, eval e X.env)] := by rfl) :
    PI X (.Tuple elts kk tpos) (.Call (.Name "enumerate" p) [e] [] pos) (iEnumS ta) := by
  refine ⟨fun pins s σ H R I h => Call_ (ld_blt I hg hm boot_enumerate (PyProof.Rows.callWith_type1 (thn (ha.run pos pins s σ H _ I h) fun us s1 ⟨vs, H1, I1, r1, q1⟩ => ?_) hs rfl))⟩
  obtain ⟨z, ex, q⟩ := q1
  subst ex
  cases r1 with
  | cons r rr =>
    cases rr
    obtain ⟨t, rfl⟩ := r
    refine call_enumerate_str fun h' he hit hsz hk => wpAny_pyIter_enum he ?_
    have I2 : Inv X pins σ H1 { s1 with heap := h' } := I1.kept (t' := s1.toks) hk
    refine ⟨s1.heap.objs.size + 1, [s1.heap.objs.size + 1, s1.heap.objs.size], _, _, H1, rfl, I2, turn_enumS (s1.heap.objs.size + 1) s1.heap.objs.size, ⟨⟨.none, he⟩, hit, Nat.succ_ne_self _, Nat.zero_le _⟩, fun b hb => ?_, q⟩
    have hle : s1.heap.objs.size ≤ b := by
      rcases (show b = s1.heap.objs.size + 1 ∨ b = s1.heap.objs.size by simpa using hb) with y | y
      · rw [y]; exact Nat.le_add_right _ _
      · rw [y]; exact Nat.le_refl _
    exact I1.fpOk hle (I1.hok.fresh hle)
/-! ## name = {k: v for ..} on one line, the name a local -/
section
variable {X : Cx}
theorem ps_setDc {i : Nat} {y : Str} {py : Pos} {kx vx tg iter : Expr} {ifs : List Expr} {scope : Scope} {own : List (Str × Nat)} {pos spos : Pos} {wi : TI} {g : TG} {tt : TT} {tk tv : TE} (hc : X.calm = true) (hN : X.N.Nodup) (hy : X.N[i]? = some y) (hyl : X.env.scope.names.lookup y = some .local)
    (hsw : swapsWith (.DictComp kx vx [⟨tg, iter, ifs, 0⟩] scope pos) (some (.Name y py)) spos.line X.env = pure true) (hi : PI X tg iter wi) (ok : BlkOk X.N X.env.scope scope own)
    (hg : ∀ (s : Shared) (H : Hp) (C : Addr) (cl : List (Str × Addr)) (fp : List Addr), PG (X.blk s H scope (compEnvC scope cl C X.env) fp) tg g) (ht : ∀ (s : Shared) (H : Hp) (C : Addr) (cl : List (Str × Addr)) (fp : List Addr), PTs (X.blk s H scope (compEnvC scope cl C X.env) fp) ifs tt)
    (hk : ∀ (s : Shared) (H : Hp) (C : Addr) (cl : List (Str × Addr)) (fp : List Addr), PE (X.blk s H scope (compEnvC scope cl C X.env) fp) kx tk)
    (he : ∀ (s : Shared) (H : Hp) (C : Addr) (cl : List (Str × Addr)) (fp : List Addr), PE (X.blk s H scope (compEnvC scope cl C X.env) fp) vx tv) (hs : ∀ x, foldedSetIterable iter X.env x = pure x := by intro _; rfl) :
    PS X (.Assign [.Name y py] (.DictComp kx vx [⟨tg, iter, ifs, 0⟩] scope pos) spos) (tAsg (tDc wi g tt tk tv (own.map (·.2))) (gName i)) := by
  refine ⟨fun pins s σ H D I h => ?_⟩
  rw [exec_Assign_Name_used _ _ _ _ hsw]
  refine wpAny_bind (wpAny_standAt (wpAny_bind ?_))
  show wpAny _ X.A (do let _ ← comprehension (.DictComp kx vx [⟨tg, iter, ifs, 0⟩] scope pos) scope X.env (firstIterPos [⟨tg, iter, ifs, 0⟩] pos) newDict false (eval iter X.env) (some (assign (.Name y py) X.env))) _ _ s
  have h : tDc wi g tt tk tv (own.map (·.2)) σ H (fun x H1 => gName i x σ H1 D.nx) := h
  refine wpAny_bind (thn (dc_core (Qf := fun _ s' => SP X pins D .next s') hc hN I hi ok hg ht hk he hs h fun L C s' m H' I' q hn f => ?_) fun _ s' hq => wpAny_pure (wpAny_pure hq))
  show wpAny _ _ (assign (.Name y py) X.env (.ref L)) _ _ _
  refine wpAny_assign_Name (store_ok2 (v := V.ref L) I' hN hy (.inl hyl) rfl (fun s2 I2 ⟨a, sb, ha⟩ => ?_) (.inr hyl))
  obtain ⟨f0, f1, f2, f3, f4, f5⟩ := f
  have haC : C ≠ a := by
    rcases ha with z | z
    · rw [z]; exact f1
    · exact fun e => f4 y a z e.symm
  refine ⟨m, hn.sameBut sb haC, fun h3 sb3 => ?_⟩
  exact ⟨_, H', I2.turned (t' := s2.toks) (fun b o hb e => (sb3.2 b hb).trans e) f0 f1 f3 f4 f5, q⟩
theorem swd_true {kx vx : Expr} {gs : List Comprehension} {scope : Scope} {pos py : Pos} {y : Str} {l : Nat} {env : Env} (hk : env.scope.kind = .function) (hy : env.scope.names.lookup y = some .local) (hl : (py.line == pos.line) = true)
    (ha : (scope.names.any fun (n, k) => n == y && (k == .local || k == .cell)) = false) : swapsWith (.DictComp kx vx gs scope pos) (some (.Name y py)) l env = pure true := by
  have ky : env.kindOf y = some .local := hy
  have hb : env.blockKind = .function := by unfold Env.blockKind; rw [hk]; rfl
  unfold swapsWith
  simp only [hb, ky, ha, Expr.pos, hl]
  rfl
end
section
theorem walk_enumK {d : Addr} {o : Obj} {kvs : List (Key × V)} : Walk (Itek d o kvs) kvs.length (fun H => H d = some (.frz o (.dK kvs))) (YPair (fun i => some (.int (i : Nat))) (fun i => kvs[i]?.map fun kv => kV kv.1)) := by
  refine ⟨fun _ _ hi q => ⟨q, hi⟩, fun _ q => ⟨q, Nat.le_refl _⟩, fun i H x H' _ _ y => ?_⟩
  obtain ⟨T, k, v, h1, h2, h3, h4⟩ := y
  exact ⟨T, .int (i : Nat), kV k, h2, h3, h4, rfl, by simp [h1]⟩
theorem walk_enumS {z : Str} : Walk (Ites z) z.cps.size (fun _ => True) (YPair (fun i => some (.int (i : Nat))) (fun i => z.cps[i]?.map fun c => V.str ⟨#[c]⟩)) := by
  refine ⟨fun _ _ hi _ => hi, fun _ _ => Nat.le_refl _, fun i H x H' _ _ y => ?_⟩
  obtain ⟨T, c, h1, h2, h3, h4⟩ := y
  exact ⟨T, .int (i : Nat), .str ⟨#[c]⟩, h2, h3, h4, rfl, by simp [h1]⟩
variable {J : It} {n : Nat} {G : Hp → Prop} {Y : Nat → Hp → V → Hp → Prop}
/-- a dict comprehension over it -/
theorem dc_it (w : Walk J n G Y) {g : TG} {tt : TT} {tk tv : TE} {vs : List Nat} {σ : L2.St} {H1 : Hp} {D : Addr} {Qd : Hp → Prop} (Pv : Nat → Hp → Prop) (h0 : Pv 0 (upd H1 D (.dK []))) (hG : ∀ i H, i ≤ n → Pv i H → G H)
    (hs : ∀ i x H H', i < n → Pv i H → Y i H x H' → g x (wipe σ vs) H' fun σ2 H2 => wipe σ2 vs = wipe σ vs ∧ tt σ2 H2 fun b H3 =>
      if b = true then tk σ2 H3 fun y H4 => tv σ2 H4 fun z H5 => ∃ kvs k, y = kV k ∧ H5 D = some (.dK kvs) ∧ kvs.length < sizeLine ∧ Pv (i + 1) (upd H5 D (.dK (putK kvs k z))) else Pv (i + 1) H3) (hd : ∀ H, Pv n H → Qd H) :
    ∃ W : Nat → Nat → Hp → Prop, (∃ m, W 0 m (upd H1 D (.dK []))) ∧ ∀ i m H, W i m H →
      (J.stop i H ∧ Qd H) ∨ (J.go i H ∧ ∃ Nx : Hp → Prop, (∀ H', Nx H' → ∃ m', m' < m ∧ W (i + 1) m' H') ∧ ∀ x H', J.yld i H x H' → g x (wipe σ vs) H' fun σ2 H2 => wipe σ2 vs = wipe σ vs ∧ tt σ2 H2 fun b H3 =>
        if b = true then tk σ2 H3 fun y H4 => tv σ2 H4 fun z H5 => ∃ kvs k, y = kV k ∧ H5 D = some (.dK kvs) ∧ kvs.length < sizeLine ∧ Nx (upd H5 D (.dK (putK kvs k z))) else Nx H3) := by
  refine ⟨fun i m H => m = n - i ∧ i ≤ n ∧ Pv i H, ⟨n, by simp, Nat.zero_le _, h0⟩, ?_⟩
  rintro i m H ⟨rfl, hi, p⟩
  have q := hG i H hi p
  by_cases hlt : i < n
  · exact .inr ⟨w.goes i H hlt q, Pv (i + 1), fun H' p' => ⟨n - (i + 1), by omega, rfl, hlt, p'⟩, fun x H' y => hs i x H H' hlt p (w.yields i H x H' hlt q y)⟩
  · have e : i = n := by omega
    subst e
    exact .inl ⟨w.stops H q, hd H p⟩
end
end HE
namespace HV
open PySem PySem.Spec PyProof.Rows L2 RT
section
variable {prog : Program} {w : World} {A : Around} {E : Value → Shared → Prop} {s : Shared}
/-- an item of reversed(tuple), asked by an iterator over it -/
theorem rt_item {it t : Addr} {i : Nat} {items : Array Value} {x : Value} {Q : Value → Shared → Prop} (hit : IsRt s.heap it t (i : Int)) (ht : IsTup s.heap t items) (hx : items[i]? = some x) (hsz : items.size ≤ sizeLine)
    (q : ∀ h', IsRt h' it t ((i : Int) - 1) → Heap.SameBut it s.heap h' → Q x { s with heap := h', toks := s.toks + 1 }) : wpAny (model prog w) A (Builtin.SmallTypes.nextOf (.ref it)) Q E s := by
  obtain ⟨o, ho, hc, hd⟩ := id hit
  have hi : i < items.size := (Array.getElem?_eq_some_iff.mp hx).1
  have hT : s.TypeIs (.ref t) "tuple" := IsTup.typeOf' ht
  rw [sizeLine_eq] at hsz
  unfold Builtin.SmallTypes.nextOf
  refine wpAny_bind (wpAny_callSpecial?_slot (name := Str.ofString "__next__") hit.typeIs slot_rt_next (wpAny_call_entry slot_rt_next hit.typeIs entry_rt_next ?_ (args_rt_next _)))
  unfold Builtin.«reversed.__next__»
  refine wpAny_bind (wpAny_of_eq (a := (Value.ref it, [])) rfl ?_)
  try dsimp only
  refine wpAny_bind (wpAny_field ho hd (x := .ref t) rfl (wpAny_bind (wpAny_field ho hd (x := rawInt (i : Int)) rfl ?_)))
  show wpAny _ _ (if (i : Int) < 0 then _ else _) _ _ s
  rw [if_neg (by omega)]
  refine wpAny_bind (wpAny_specialOf hT get_tuple ?_)
  try dsimp only
  try rw [if_neg (by decide)]
  refine wpAny_bind (wpAny_mkInt (wpAny_bind (wpAny_attempt ?_)))
  refine PyProof.Rows.getItem_tuple (s := { s with toks := s.toks + 1 }) ht (by omega) (by omega) (seqIndex_of (by omega) (by omega)) hx ?_
  try dsimp only
  refine wpAny_bind (wpAny_field (s := { s with toks := s.toks + 1 }) ho hd (x := rawInt (i : Int)) rfl ?_)
  refine wpAny_bind (wpAny_setField (s := { s with toks := s.toks + 1 }) ho hd (by simp) ?_)
  first
  | refine wpAny_pure ⟨x, rfl, wpAny_pure (q _ ?_ (Heap.SameBut.update ..))⟩
  | refine wpAny_bind (wpAny_pure (wpAny_pure ⟨x, rfl, wpAny_pure (q _ ?_ (Heap.SameBut.update ..))⟩))
  exact ⟨_, Heap.get?_update_self _ ho (Obj.isFreed_of_fields (Obj.data_mapFields hd _)), (Obj.cls_mapFields ..).trans hc, by rw [Obj.data_mapFields hd]; simp⟩
theorem rt_end {it t : Addr} {Q : Value → Shared → Prop} (hh : A.handled = none) (hit : IsRt s.heap it t (-1)) (q : ∀ h' x, Heap.ExtBut it s.heap h' → (∃ o, h'.get? x = some o ∧ o.cls = .type "StopIteration") → E (.ref x) { s with heap := h' }) :
    wpAny (model prog w) A (Builtin.SmallTypes.nextOf (.ref it)) Q E s := by
  obtain ⟨o, ho, hc, hd⟩ := id hit
  unfold Builtin.SmallTypes.nextOf
  refine wpAny_bind (wpAny_callSpecial?_slot (name := Str.ofString "__next__") hit.typeIs slot_rt_next (wpAny_call_entry slot_rt_next hit.typeIs entry_rt_next ?_ (args_rt_next _)))
  unfold Builtin.«reversed.__next__»
  refine wpAny_bind (wpAny_of_eq (a := (Value.ref it, [])) rfl ?_)
  try dsimp only
  refine wpAny_bind (wpAny_field ho hd (x := .ref t) rfl (wpAny_bind (wpAny_field ho hd (x := rawInt (-1)) rfl ?_)))
  show wpAny _ _ (if (-1 : Int) < 0 then _ else _) _ _ s
  rw [if_pos (by decide)]
  try dsimp only
  refine wpAny_bind (wpAny_rule (wpAny_bind ?_))
  wp_delta
  refine wpAny_bind (wpAny_setField ho hd (by simp) ?_)
  have ho2 := Heap.get?_update_self (Obj.mapFields (·.setIfInBounds 1 (rawInt (-1)))) ho (Obj.isFreed_of_fields (Obj.data_mapFields hd _))
  refine wpAny_setField (s := { s with heap := s.heap.update it (Obj.mapFields (·.setIfInBounds 1 (rawInt (-1)))) }) ho2 (Obj.data_mapFields hd _) (by simp) ?_
  try dsimp only
  first
  | show wpAny _ _ (newExc (.type "StopIteration") [] >>= _) _ _ _
  | (refine wpAny_bind ?_; show wpAny _ _ (newExc (.type "StopIteration") [] >>= _) _ _ _)
  | (refine wpAny_bind ?_; wp_delta; show wpAny _ _ (newExc (.type "StopIteration") [] >>= _) _ _ _)
  refine wpAny_bind ?_
  simp only [newExc, newTuple]; refine wpAny_bind (wpAny_newObj_type ?_ (by size_fits))
  refine wpAny_bind (m := firstArgMember _ _) (wpAny_of_eq (a := Value.none) (by first | rfl | (simp only [firstArgMember]; rfl)) (wpAny_newObj_type ?_ (by size_fits)))
  simp only [raiseNew]; refine wpAny_bind (wpAny_handled ?_)
  first | rw [show A.in1.handled = none from hh] | rw [hh]
  refine wpAny_bind (wpAny_pure (wpAny_throw ?_))
  refine q _ _ (((?_ : Heap.ExtBut it s.heap _).push _).push _) ⟨_, Heap.get?_push_size _ rfl, rfl⟩
  exact fun b ob hb e => (Heap.get?_update_other _ _ (Ne.symm hb)).trans ((Heap.get?_update_other _ _ (Ne.symm hb)).trans e)
theorem lri_item {it l : Addr} {i : Nat} {items : Array Value} {x : Value} {Q : Value → Shared → Prop} (hit : s.heap.IsRevIter it l (i : Int)) (hl : s.heap.IsList l items) (hx : items[i]? = some x)
    (q : ∀ h', h'.IsRevIter it l ((i : Int) - 1) → Heap.SameBut it s.heap h' → Q x { s with heap := h' }) : wpAny (model prog w) A (Builtin.SmallTypes.nextOf (.ref it)) Q E s := by
  obtain ⟨o, ho, hc, hd⟩ := id hit
  obtain ⟨ol, hol, _, nl, hdl⟩ := hl
  unfold Builtin.SmallTypes.nextOf
  refine wpAny_bind (wpAny_callSpecial?_slot (name := Str.ofString "__next__") hit.typeIs F.slot_lri_next (wpAny_call_entry F.slot_lri_next hit.typeIs F.entry_lri_next ?_ (F.args_lri_next_1 _)))
  unfold Builtin.«list_reverseiterator.__next__»
  refine wpAny_bind (wpAny_of_eq (a := (Value.ref it, [])) rfl ?_)
  try dsimp only
  refine wpAny_bind (wpAny_field ho hd (x := rawInt (i : Int)) rfl ?_)
  show wpAny _ _ (if (i : Int) < 0 then _ else _) _ _ s
  rw [if_neg (by omega)]
  show wpAny _ _ (field (.ref it) 0 >>= _) _ _ s
  refine wpAny_bind (wpAny_field ho hd (x := .ref l) rfl ?_)
  show wpAny _ _ (seqItems? (.ref l) >>= _) _ _ s
  refine wpAny_bind (wpAny_seqItems hol hdl ?_)
  simp only [Int.toNat_natCast, hx]
  refine wpAny_bind (wpAny_setField ho hd (by simp) ?_)
  first
  | refine wpAny_pure ⟨x, rfl, wpAny_pure (q _ ?_ (Heap.SameBut.update ..))⟩
  | refine wpAny_bind (wpAny_pure (wpAny_pure ⟨x, rfl, wpAny_pure (q _ ?_ (Heap.SameBut.update ..))⟩))
  exact ⟨_, Heap.get?_update_self _ ho (Obj.isFreed_of_fields (Obj.data_mapFields hd _)), (Obj.cls_mapFields ..).trans hc, by rw [Obj.data_mapFields hd]; simp⟩
theorem lri_end {it l : Addr} {Q : Value → Shared → Prop} (hh : A.handled = none) (hit : s.heap.IsRevIter it l (-1)) (q : ∀ h' x, Heap.ExtBut it s.heap h' → (∃ o, h'.get? x = some o ∧ o.cls = .type "StopIteration") → E (.ref x) { s with heap := h' }) :
    wpAny (model prog w) A (Builtin.SmallTypes.nextOf (.ref it)) Q E s := by
  obtain ⟨o, ho, hc, hd⟩ := id hit
  unfold Builtin.SmallTypes.nextOf
  refine wpAny_bind (wpAny_callSpecial?_slot (name := Str.ofString "__next__") hit.typeIs F.slot_lri_next (wpAny_call_entry F.slot_lri_next hit.typeIs F.entry_lri_next ?_ (F.args_lri_next_1 _)))
  unfold Builtin.«list_reverseiterator.__next__»
  refine wpAny_bind (wpAny_of_eq (a := (Value.ref it, [])) rfl ?_)
  try dsimp only
  refine wpAny_bind (wpAny_field ho hd (x := rawInt (-1)) rfl ?_)
  show wpAny _ _ (if (-1 : Int) < 0 then _ else _) _ _ s
  rw [if_pos (by decide)]
  refine wpAny_bind (wpAny_rule ?_)
  first
  | show wpAny _ _ (newExc (.type "StopIteration") [] >>= _) _ _ _
  | (refine wpAny_bind ?_; show wpAny _ _ (newExc (.type "StopIteration") [] >>= _) _ _ _)
  refine wpAny_bind ?_
  simp only [newExc, newTuple]; refine wpAny_bind (wpAny_newObj_type ?_ (by size_fits))
  refine wpAny_bind (m := firstArgMember _ _) (wpAny_of_eq (a := Value.none) (by first | rfl | (simp only [firstArgMember]; rfl)) (wpAny_newObj_type ?_ (by size_fits)))
  simp only [raiseNew]; refine wpAny_bind (wpAny_handled ?_)
  first | rw [show A.in1.handled = none from hh] | rw [hh]
  refine wpAny_bind (wpAny_pure (wpAny_throw ?_))
  exact q _ _ (((Heap.ExtBut.refl _ _).push _).push _) ⟨_, Heap.get?_push_size _ rfl, rfl⟩
/-- what reversed(tuple) gives, asked one by one -/
theorem draws_rt (hh : A.handled = none) (it t : Addr) (hne : t ≠ it) {items : Array Value} (hsz : items.size ≤ sizeLine) :
    Draws prog w A it [it, t] items.size (fun i v => items[items.size - 1 - i]? = some v) (fun i h => i ≤ items.size ∧ IsRt h it t ((items.size : Int) - 1 - (i : Nat)) ∧ IsTup h t items) where
  live := fun _ _ st => let ⟨o, ho, _⟩ := st.2.1; ⟨o, ho⟩
  frame := fun _ _ _ st k => ⟨st.1, st.2.1.at fun o e => k it (by simp) o e, let ⟨o, e, x⟩ := st.2.2; ⟨o, k t (by simp) o e, x⟩⟩
  item := fun i s Q E hi st q => by
    obtain ⟨_, hit, ht⟩ := st
    have e1 : (items.size : Int) - 1 - ((i : Nat) : Int) = ((items.size - 1 - i : Nat) : Int) := by omega
    rw [e1] at hit
    have hlt : items.size - 1 - i < items.size := by omega
    refine rt_item hit ht (Array.getElem?_eq_getElem hlt) hsz fun h' it' sb => ?_
    have e2 : ((items.size - 1 - i : Nat) : Int) - 1 = (items.size : Int) - 1 - ((i + 1 : Nat) : Int) := by omega
    rw [e2] at it'
    exact q _ h' (s.toks + 1) (Array.getElem?_eq_getElem hlt) ⟨hi, it', let ⟨o, e, x⟩ := ht; ⟨o, (sb.2 t hne).trans e, x⟩⟩ sb
  done := fun s Q E st q => by
    obtain ⟨_, hit, _⟩ := st
    have e1 : (items.size : Int) - 1 - ((items.size : Nat) : Int) = -1 := by omega
    rw [e1] at hit
    exact rt_end hh hit q
theorem draws_lri (hh : A.handled = none) (it l : Addr) (hne : l ≠ it) {items : Array Value} :
    Draws prog w A it [it, l] items.size (fun i v => items[items.size - 1 - i]? = some v) (fun i h => i ≤ items.size ∧ h.IsRevIter it l ((items.size : Int) - 1 - (i : Nat)) ∧ h.IsList l items) where
  live := fun _ _ st => let ⟨o, ho, _⟩ := st.2.1; ⟨o, ho⟩
  frame := fun _ _ _ st k => ⟨st.1, st.2.1.at fun o e => k it (by simp) o e, let ⟨o, e, x⟩ := st.2.2; ⟨o, k l (by simp) o e, x⟩⟩
  item := fun i s Q E hi st q => by
    obtain ⟨_, hit, ht⟩ := st
    have e1 : (items.size : Int) - 1 - ((i : Nat) : Int) = ((items.size - 1 - i : Nat) : Int) := by omega
    rw [e1] at hit
    have hlt : items.size - 1 - i < items.size := by omega
    refine lri_item hit ht (Array.getElem?_eq_getElem hlt) fun h' it' sb => ?_
    have e2 : ((items.size - 1 - i : Nat) : Int) - 1 = (items.size : Int) - 1 - ((i + 1 : Nat) : Int) := by omega
    rw [e2] at it'
    exact q _ h' s.toks (Array.getElem?_eq_getElem hlt) ⟨hi, it', let ⟨o, e, x⟩ := ht; ⟨o, (sb.2 l hne).trans e, x⟩⟩ sb
  done := fun s Q E st q => by
    obtain ⟨_, hit, _⟩ := st
    have e1 : (items.size : Int) - 1 - ((items.size : Nat) : Int) = -1 := by omega
    rw [e1] at hit
    exact lri_end hh hit q
end
open AutoSeq1 (wpAny_loadPart')
theorem meets_it (r : Addr) (o : Obj) (ik : ∀ (prog : Program) (w : World) (A : Around) (E : Value → Shared → Prop) (Q : Value → Shared → Prop) (s : Shared), s.heap.get? r = some o → Q (.ref r) s → wpAny (model prog w) A (pyIter (.ref r)) Q E s) :
    Meets (Builtin.«enumerate.__new__» ⟨[.type "enumerate", .ref r], []⟩) (fun _ R s => s.heap.get? r = some o ∧
      R (.ok (.ret (.ref s.heap.objs.size))) { s with heap := s.heap.push { cls := .type "enumerate", data := .fields #[.none, .bool false, .ref r, rawInt 0, .none, .none] } }) :=
  .of_wp fun prog w A R s h => by
    obtain ⟨hp, g, dr, tk, os⟩ := s
    obtain ⟨ho, h⟩ := h
    have hsub := sub_enumerate
    have ik2 : ∀ {A : Around} {E : Value → Shared → Prop} {Q : Value → Shared → Prop}, Q (.ref r) ⟨hp, g, dr, tk, os⟩ → wpAny (model prog w) A (pyIter (.ref r)) Q E ⟨hp, g, dr, tk, os⟩ := fun q => ik _ _ _ _ _ _ ho q
    wp_walk using wpAny_loadPart' ho
    refine wpAny_stack_any fun st => wpAny_pure ?_
    split
    · rename_i c _ _ _ _ _
      cases (c == Value.type "enumerate") <;> (wp_walk using wpAny_loadPart' ho, ik2; exact ⟨_, rfl, h⟩)
    · wp_walk using wpAny_loadPart' ho, ik2
      exact ⟨_, rfl, h⟩
theorem call_enum_it {prog : Program} {w : World} {A : Around} {E : Value → Shared → Prop} {s : Shared} {r : Addr} {o : Obj} {Q : Value → Shared → Prop} (ik : ∀ (prog : Program) (w : World) (A : Around) (E : Value → Shared → Prop) (Q : Value → Shared → Prop) (s : Shared), s.heap.get? r = some o → Q (.ref r) s → wpAny (model prog w) A (pyIter (.ref r)) Q E s) (ho : s.heap.get? r = some o)
    (q : ∀ h', IsEnum h' s.heap.objs.size r 0 .none → (∀ b x, s.heap.get? b = some x → h'.get? b = some x) → Q (.ref s.heap.objs.size) { s with heap := h' }) : wpAny (model prog w) A (call (.type "enumerate") [.ref r]) Q E s := by
  refine callType_new F.called_enumerate (by decide) (F.typeCall_enumerate_1 _) (F.newCall_enumerate_1 _) (fun obj => F.args_object_init_2 obj _) F.entry_enumerate_new (meets_it r o ik) ⟨ho, ?_⟩
  have he : IsEnum (s.heap.push { cls := .type "enumerate", data := .fields #[.none, .bool false, .ref r, rawInt 0, .none, .none] }) s.heap.objs.size r 0 .none := Heap.get?_push_size _ rfl
  exact ⟨⟨_, he, rfl⟩, q _ he fun b x e => Heap.get?_push_of_some _ e⟩
/-- (0, last), (1, the one before it), ..: reversed(tuple) of n items -/
def ItER (K : PySem.W.Frag) (a : Addr) (n : Nat) : It :=
  ⟨fun i H => i < n ∧ ∃ xs, SqT K H a xs ∧ xs.length = n, fun i H v H' => ∃ T x, v = .ref T ∧ H T = none ∧ H' = upd H T (.tup [.int (i : Nat), x]) ∧ ∀ xs, SqT K H a xs → xs[n - 1 - i]? = some x, fun i H => n ≤ i ∧ ∃ xs, SqT K H a xs ∧ xs.length = n⟩
theorem turn_er {P : Program} {w : World} {K : PySem.W.Frag} {elts : List Expr} {kk : Nat} {tpos : Pos} {a : Addr} {n : Nat} (e it : Addr) (hai : a ≠ it) (hae : a ≠ e) :
    Turn P w K (.Tuple elts kk tpos) (ItER K a n) [e, it] e (fun i h => (∃ old, IsEnum h e it ((i : Nat) : Int) old) ∧ IsRt h it a ((n : Int) - 1 - (i : Nat)) ∧ e ≠ it ∧ i ≤ n) where
  mem := by simp
  obj := fun i h st b hb => by
    obtain ⟨⟨old, he⟩, ⟨o', ho, hc, hd⟩, _⟩ := st
    rcases (show b = e ∨ b = it by simpa using hb) with z | z
    · rw [z]; exact ⟨_, he, fun v q => nomatch q⟩
    · rw [z]; exact ⟨o', ho, fun v q => by rw [hd] at q; cases q⟩
  keep := fun i h h' st k => let ⟨⟨old, he⟩, hi, hne, hle⟩ := st; ⟨⟨old, k e (by simp) _ he⟩, hi.at fun o q => k it (by simp) o q, hne, hle⟩
  item := by
    intro X hP hw hK hc i pins s σ H E I hf st hg
    subst hP hw hK
    obtain ⟨⟨old, he⟩, hit, hne, hle⟩ := st
    obtain ⟨hi, xs, hq, hxl⟩ := hg
    obtain ⟨its, rv, p, hz⟩ := I.tuple hq
    have hlen : its.toArray.size = n := by rw [List.size_toArray, ← rv.length, hxl]
    have hel : e < s.heap.objs.size := Heap.lt_size he
    have hil : it < s.heap.objs.size := by obtain ⟨_, q, _⟩ := hit; exact Heap.lt_size q
    have D := draws_rt (prog := X.prog) (w := X.w) (A := X.A.in1) (I.ok.hd hc) it a hai (items := its.toArray) (by rw [hlen, ← hxl]; exact hz)
    rw [← hlen] at hit
    refine wpAny_pyNext_enum_itemD D he ⟨by omega, hit, p⟩ (by omega) hne (by simp [hne, Ne.symm hae]) fun x h' tk hP ho st' hT hsz' hk => ?_
    refine ⟨_, rfl, wpAny_letOwnedTupleGo_enum (s := { s with heap := h', toks := tk + 1 }) ho fun h'' he' sb => ?_⟩
    have hT2 : h''.get? s.heap.objs.size = some { cls := .type "tuple", data := .seq #[.int i tk, x] } := (sb.2 _ (Nat.ne_of_gt hel)).trans hT
    have hP' : its[n - 1 - i]? = some x := by
      have h1 : its.toArray[its.toArray.size - 1 - i]? = some x := hP
      rw [hlen] at h1
      simpa using h1
    obtain ⟨v, hv, rk⟩ : ∃ v, xs[n - 1 - i]? = some v ∧ RelV v x := by
      have hlt : n - 1 - i < xs.length := by omega
      obtain ⟨u, hu, ru⟩ := rv.get (List.getElem?_eq_getElem hlt)
      rw [hP'] at hu
      cases hu
      exact ⟨_, List.getElem?_eq_getElem hlt, ru⟩
    have new : ObjOk X.prog X.w (upd H s.heap.objs.size (.tup [.int (i : Nat), v])) h'' s.heap.objs.size (.tup [.int (i : Nat), v]) :=
      ⟨by show 2 ≤ sizeLine; decide, [.int i tk, x], .cons ⟨_, rfl⟩ (.cons rk .nil), ⟨_, hT2, rfl, _, rfl⟩⟩
    have I1 : Inv X pins σ (upd H s.heap.objs.size (.tup [.int (i : Nat), v])) { s with heap := h'', toks := tk + 1 } :=
      I.turnedNew (ch := [e, it]) (fun b ob hb q => (sb.2 b (fun z => hb (by simp [z]))).trans (hk b ob (fun z => hb (by simp [z])) (fun z => hb (by simp [z])) q)) hf (Nat.le_refl _) new
    refine ⟨.ref s.heap.objs.size, _, I1, rfl, ⟨_, v, rfl, I.hok.fresh (Nat.le_refl _), rfl, fun ys hy => by rw [I.tuple_inj hy hq]; exact hv⟩, ⟨⟨x, ?_⟩, ?_, hne, by omega⟩, fun b hb => ?_⟩
    · have e1 : ((i + 1 : Nat) : Int) = (i : Int) + 1 := by omega
      rw [e1]; exact he'
    · rw [← hlen]
      exact st'.2.1.at fun o q => (sb.2 it (Ne.symm hne)).trans q
    · have hb' : b < s.heap.objs.size := by
        rcases (show b = e ∨ b = it by simpa using hb) with z | z
        · rw [z]; exact hel
        · rw [z]; exact hil
      rw [upd_ne (Nat.ne_of_lt hb')]
      exact (hf b hb).1
  done := by
    intro X hP hw hK hc i pins s σ H E I hf st hg
    subst hP hw hK
    obtain ⟨⟨old, he⟩, hit, hne, hle⟩ := st
    obtain ⟨hi, xs, hq, hxl⟩ := hg
    obtain ⟨its, rv, p, hz⟩ := I.tuple hq
    have hlen : its.toArray.size = n := by rw [List.size_toArray, ← rv.length, hxl]
    obtain ⟨f0, f1, f2, f3, f4, f5⟩ := hf it (by simp)
    have D := draws_rt (prog := X.prog) (w := X.w) (A := X.A.in1) (I.ok.hd hc) it a hai (items := its.toArray) (by rw [hlen, ← hxl]; exact hz)
    have ei : i = its.toArray.size := by omega
    rw [← hlen, ei] at hit
    rw [ei] at he
    exact wpAny_pyNext_enum_endD D he ⟨Nat.le_refl _, hit, p⟩ fun h' eb => ⟨rfl, I.turned (t' := s.toks) (fun b o hb q => eb b o hb q) f0 f1 f3 f4 f5⟩
  self := fun A i s Q E st h => let ⟨⟨_, he⟩, _⟩ := st; wpAny_pyIter_enum he h
/-- (0, last), (1, the one before it), ..: reversed(list) of n items -/
def ItEL (K : PySem.W.Frag) (a : Addr) (n : Nat) : It :=
  ⟨fun i H => i < n ∧ ∃ xs, SqL K H a xs ∧ xs.length = n, fun i H v H' => ∃ T x, v = .ref T ∧ H T = none ∧ H' = upd H T (.tup [.int (i : Nat), x]) ∧ ∀ xs, SqL K H a xs → xs[n - 1 - i]? = some x, fun i H => n ≤ i ∧ ∃ xs, SqL K H a xs ∧ xs.length = n⟩
theorem turn_el {P : Program} {w : World} {K : PySem.W.Frag} {elts : List Expr} {kk : Nat} {tpos : Pos} {a : Addr} {n : Nat} (e it : Addr) (hai : a ≠ it) (hae : a ≠ e) :
    Turn P w K (.Tuple elts kk tpos) (ItEL K a n) [e, it] e (fun i h => (∃ old, IsEnum h e it ((i : Nat) : Int) old) ∧ Heap.IsRevIter h it a ((n : Int) - 1 - (i : Nat)) ∧ e ≠ it ∧ i ≤ n) where
  mem := by simp
  obj := fun i h st b hb => by
    obtain ⟨⟨old, he⟩, ⟨o', ho, hc, hd⟩, _⟩ := st
    rcases (show b = e ∨ b = it by simpa using hb) with z | z
    · rw [z]; exact ⟨_, he, fun v q => nomatch q⟩
    · rw [z]; exact ⟨o', ho, fun v q => by rw [hd] at q; cases q⟩
  keep := fun i h h' st k => let ⟨⟨old, he⟩, hi, hne, hle⟩ := st; ⟨⟨old, k e (by simp) _ he⟩, hi.at fun o q => k it (by simp) o q, hne, hle⟩
  item := by
    intro X hP hw hK hc i pins s σ H E I hf st hg
    subst hP hw hK
    obtain ⟨⟨old, he⟩, hit, hne, hle⟩ := st
    obtain ⟨hi, xs, hq, hxl⟩ := hg
    obtain ⟨its, rv, p, hz⟩ := I.list hq
    have hlen : its.toArray.size = n := by rw [List.size_toArray, ← rv.length, hxl]
    have hel : e < s.heap.objs.size := Heap.lt_size he
    have hil : it < s.heap.objs.size := by obtain ⟨_, q, _⟩ := hit; exact Heap.lt_size q
    have D := draws_lri (prog := X.prog) (w := X.w) (A := X.A.in1) (I.ok.hd hc) it a hai (items := its.toArray)
    rw [← hlen] at hit
    refine wpAny_pyNext_enum_itemD D he ⟨by omega, hit, p.isList⟩ (by omega) hne (by simp [hne, Ne.symm hae]) fun x h' tk hP ho st' hT hsz' hk => ?_
    refine ⟨_, rfl, wpAny_letOwnedTupleGo_enum (s := { s with heap := h', toks := tk + 1 }) ho fun h'' he' sb => ?_⟩
    have hT2 : h''.get? s.heap.objs.size = some { cls := .type "tuple", data := .seq #[.int i tk, x] } := (sb.2 _ (Nat.ne_of_gt hel)).trans hT
    have hP' : its[n - 1 - i]? = some x := by
      have h1 : its.toArray[its.toArray.size - 1 - i]? = some x := hP
      rw [hlen] at h1
      simpa using h1
    obtain ⟨v, hv, rk⟩ : ∃ v, xs[n - 1 - i]? = some v ∧ RelV v x := by
      have hlt : n - 1 - i < xs.length := by omega
      obtain ⟨u, hu, ru⟩ := rv.get (List.getElem?_eq_getElem hlt)
      rw [hP'] at hu
      cases hu
      exact ⟨_, List.getElem?_eq_getElem hlt, ru⟩
    have new : ObjOk X.prog X.w (upd H s.heap.objs.size (.tup [.int (i : Nat), v])) h'' s.heap.objs.size (.tup [.int (i : Nat), v]) :=
      ⟨by show 2 ≤ sizeLine; decide, [.int i tk, x], .cons ⟨_, rfl⟩ (.cons rk .nil), ⟨_, hT2, rfl, _, rfl⟩⟩
    have I1 : Inv X pins σ (upd H s.heap.objs.size (.tup [.int (i : Nat), v])) { s with heap := h'', toks := tk + 1 } :=
      I.turnedNew (ch := [e, it]) (fun b ob hb q => (sb.2 b (fun z => hb (by simp [z]))).trans (hk b ob (fun z => hb (by simp [z])) (fun z => hb (by simp [z])) q)) hf (Nat.le_refl _) new
    refine ⟨.ref s.heap.objs.size, _, I1, rfl, ⟨_, v, rfl, I.hok.fresh (Nat.le_refl _), rfl, fun ys hy => by rw [I.list_inj hy hq]; exact hv⟩, ⟨⟨x, ?_⟩, ?_, hne, by omega⟩, fun b hb => ?_⟩
    · have e1 : ((i + 1 : Nat) : Int) = (i : Int) + 1 := by omega
      rw [e1]; exact he'
    · rw [← hlen]
      exact st'.2.1.at fun o q => (sb.2 it (Ne.symm hne)).trans q
    · have hb' : b < s.heap.objs.size := by
        rcases (show b = e ∨ b = it by simpa using hb) with z | z
        · rw [z]; exact hel
        · rw [z]; exact hil
      rw [upd_ne (Nat.ne_of_lt hb')]
      exact (hf b hb).1
  done := by
    intro X hP hw hK hc i pins s σ H E I hf st hg
    subst hP hw hK
    obtain ⟨⟨old, he⟩, hit, hne, hle⟩ := st
    obtain ⟨hi, xs, hq, hxl⟩ := hg
    obtain ⟨its, rv, p, hz⟩ := I.list hq
    have hlen : its.toArray.size = n := by rw [List.size_toArray, ← rv.length, hxl]
    obtain ⟨f0, f1, f2, f3, f4, f5⟩ := hf it (by simp)
    have D := draws_lri (prog := X.prog) (w := X.w) (A := X.A.in1) (I.ok.hd hc) it a hai (items := its.toArray)
    have ei : i = its.toArray.size := by omega
    rw [← hlen, ei] at hit
    rw [ei] at he
    exact wpAny_pyNext_enum_endD D he ⟨Nat.le_refl _, hit, p.isList⟩ fun h' eb => ⟨rfl, I.turned (t' := s.toks) (fun b o hb q => eb b o hb q) f0 f1 f3 f4 f5⟩
  self := fun A i s Q E st h => let ⟨⟨_, he⟩, _⟩ := st; wpAny_pyIter_enum he h
/-- enumerate(reversed(x)), x a tuple or a list -/
def iEnumR (K : PySem.W.Frag) (te : TE) : TI := fun σ H R => te σ H fun v H1 => ∃ (a : Addr) (xs : List V), v = .ref a ∧ ((SqL K H1 a xs ∧ R (ItEL K a xs.length) H1) ∨ (SqT K H1 a xs ∧ R (ItER K a xs.length) H1))
theorem pi_enumR {X : Cx} {e : Expr} {te : TE} {p pos p2 pos2 tpos : Pos} {elts : List Expr} {kk : Nat} (hg : Gl X "enumerate") (hm : X.mg "enumerate" = none) (hg2 : Gl X "reversed") (hm2 : X.mg "reversed" = none) (he : PE X e te)
    (hs2 : starEach [e] X.env = (false, eval e X.env) :: starEach [] X.env := by rfl) (hs : starEach [.Call (.Name "reversed" p2) [e] [] pos2] X.env = (false, eval (.Call (.Name "reversed" p2) [e] [] pos2) X.env) :: starEach [] X.env := by rfl) :
    PI X (.Tuple elts kk tpos) (.Call (.Name "enumerate" p) [.Call (.Name "reversed" p2) [e] [] pos2] [] pos) (iEnumR X.K te) := by
  refine ⟨fun pins s σ H R I h => ?_⟩
  refine Call_ (ld_blt I hg hm boot_enumerate (PyProof.Rows.callWith_type1 (args_cons (Call_ (ld_blt I hg2 hm2 PyProof.Rows.boot_reversed (PyProof.Rows.callWith_type1 (args_cons (thn (he.run pins s σ H _ I h) fun u s1 ⟨v, H1, I1, r1, q1⟩ => args_nil ?_) hs2) hs2 rfl))) hs) hs rfl))
  obtain ⟨a, xs, ev, q⟩ := q1
  subst ev
  obtain rfl : u = Value.ref a := r1
  rcases q with ⟨hq, q⟩ | ⟨hq, q⟩
  · obtain ⟨its, rv, p', hz⟩ := I1.list hq
    have hl := rv.length
    have e1 : ((its.toArray.size : Nat) : Int) - 1 = (xs.length : Int) - 1 - ((0 : Nat) : Int) := by simp only [List.size_toArray]; omega
    have hal : a < s1.heap.objs.size := by obtain ⟨o, ho, _⟩ := p'.isList; exact Heap.lt_size ho
    refine call_reversed_list p'.isList (args_nil (call_enum_it (o := revObj a ((its.toArray.size : Int) - 1)) (fun _ _ _ _ _ _ ho q => wpAny_pyIter_revIter ⟨_, ho, rfl, rfl⟩ q) (Heap.get?_push_size _ rfl) fun h' hen hk => wpAny_pyIter_enum hen ?_))
    have hsz : (s1.heap.push (revObj a ((its.toArray.size : Int) - 1))).objs.size = s1.heap.objs.size + 1 := Heap.size_push ..
    have I2 : Inv X pins σ H1 { s1 with heap := h' } := I1.kept (t' := s1.toks) fun b o q => hk b o (Heap.get?_push_of_some _ q)
    have hr := hk _ _ (Heap.get?_push_size (h := s1.heap) (o := revObj a ((its.toArray.size : Int) - 1)) rfl)
    rw [e1] at hr
    have hen' : IsEnum h' (s1.heap.objs.size + 1) s1.heap.objs.size 0 .none := by rw [← hsz]; exact hen
    show PIE X pins σ _ R (.ref (s1.heap.push (revObj a ((its.toArray.size : Int) - 1))).objs.size) _
    rw [hsz]
    refine ⟨s1.heap.objs.size + 1, [s1.heap.objs.size + 1, s1.heap.objs.size], _, _, H1, rfl, I2, turn_el (a := a) (n := xs.length) (s1.heap.objs.size + 1) s1.heap.objs.size (Nat.ne_of_lt hal) (Nat.ne_of_lt (Nat.lt_succ_of_lt hal)), ⟨⟨.none, hen'⟩, ⟨_, hr, rfl, rfl⟩, Nat.succ_ne_self _, Nat.zero_le _⟩, fun b hb => ?_, q⟩
    have hle : s1.heap.objs.size ≤ b := by
      rcases (show b = s1.heap.objs.size + 1 ∨ b = s1.heap.objs.size by simpa using hb) with z | z
      · rw [z]; exact Nat.le_add_right _ _
      · rw [z]; exact Nat.le_refl _
    exact I1.fpOk hle (I1.hok.fresh hle)
  · obtain ⟨its, rv, p', hz⟩ := I1.tuple hq
    have hl := rv.length
    have hn := line63
    have e1 : ((its.toArray.size : Nat) : Int) - 1 = (xs.length : Int) - 1 - ((0 : Nat) : Int) := by simp only [List.size_toArray]; omega
    have hal : a < s1.heap.objs.size := by obtain ⟨o, ho, _⟩ := p'; exact Heap.lt_size ho
    refine call_reversed_tup p' (fun A E Q k => len_tuple p' (by simp only [List.size_toArray] <;> omega) k) (args_nil (call_enum_it (o := rtObj a ((its.toArray.size : Int) - 1)) (fun _ _ _ _ _ _ ho q => iter_rt ⟨_, ho, rfl, rfl⟩ q) (Heap.get?_push_size _ rfl) fun h' hen hk => wpAny_pyIter_enum hen ?_))
    have hsz : (s1.heap.push (rtObj a ((its.toArray.size : Int) - 1))).objs.size = s1.heap.objs.size + 1 := Heap.size_push ..
    have I2 : Inv X pins σ H1 { s1 with heap := h', toks := s1.toks + 1 + 1 } := I1.kept (t' := s1.toks + 1 + 1) fun b o q => hk b o (Heap.get?_push_of_some _ q)
    have hr := hk _ _ (Heap.get?_push_size (h := s1.heap) (o := rtObj a ((its.toArray.size : Int) - 1)) rfl)
    rw [e1] at hr
    have hen' : IsEnum h' (s1.heap.objs.size + 1) s1.heap.objs.size 0 .none := by rw [← hsz]; exact hen
    show PIE X pins σ _ R (.ref (s1.heap.push (rtObj a ((its.toArray.size : Int) - 1))).objs.size) _
    rw [hsz]
    refine ⟨s1.heap.objs.size + 1, [s1.heap.objs.size + 1, s1.heap.objs.size], _, _, H1, rfl, I2, turn_er (a := a) (n := xs.length) (s1.heap.objs.size + 1) s1.heap.objs.size (Nat.ne_of_lt hal) (Nat.ne_of_lt (Nat.lt_succ_of_lt hal)), ⟨⟨.none, hen'⟩, ⟨_, hr, rfl, rfl⟩, Nat.succ_ne_self _, Nat.zero_le _⟩, fun b hb => ?_, q⟩
    have hle : s1.heap.objs.size ≤ b := by
      rcases (show b = s1.heap.objs.size + 1 ∨ b = s1.heap.objs.size by simpa using hb) with z | z
      · rw [z]; exact Nat.le_add_right _ _
      · rw [z]; exact Nat.le_refl _
    exact I1.fpOk hle (I1.hok.fresh hle)
theorem walk_er {K : PySem.W.Frag} {a : Addr} {xs : List V} : Walk (ItER K a xs.length) xs.length (fun H => SqT K H a xs) (YPair (fun i => some (.int (i : Nat))) (fun i => xs[xs.length - 1 - i]?)) := by
  refine ⟨fun i H hi q => ⟨hi, xs, q, rfl⟩, fun H q => ⟨Nat.le_refl _, xs, q, rfl⟩, fun i H v H' _ q y => ?_⟩
  obtain ⟨T, x, h1, h2, h3, h4⟩ := y
  exact ⟨T, .int (i : Nat), x, h1, h2, h3, rfl, h4 xs q⟩
theorem walk_el {K : PySem.W.Frag} {a : Addr} {xs : List V} : Walk (ItEL K a xs.length) xs.length (fun H => SqL K H a xs) (YPair (fun i => some (.int (i : Nat))) (fun i => xs[xs.length - 1 - i]?)) := by
  refine ⟨fun i H hi q => ⟨hi, xs, q, rfl⟩, fun H q => ⟨Nat.le_refl _, xs, q, rfl⟩, fun i H v H' _ q y => ?_⟩
  obtain ⟨T, x, h1, h2, h3, h4⟩ := y
  exact ⟨T, .int (i : Nat), x, h1, h2, h3, rfl, h4 xs q⟩
end HV
namespace HM
open PySem PySem.Spec PyProof.Rows L2 SX HL
/-! ## match: a value against constant texts; a tuple whose first item is a text against [text, names ..] -/
/-- what captures and wildcards bind, by slot -/
inductive Caps (X : Cx) : List Pattern → List (Option Nat) → Prop
  | nil : Caps X [] []
  | name {i : Nat} {x : Str} {pos : Pos} {ps : List Pattern} {cs : List (Option Nat)} : X.N[i]? = some x → Loc X.env.scope x → (X.fn x = true ∨ X.env.scope.names.lookup x = some .local) → Caps X ps cs → Caps X (.MatchAs none (some x) pos :: ps) (some i :: cs)
  | wild {pos : Pos} {ps : List Pattern} {cs : List (Option Nat)} : Caps X ps cs → Caps X (.MatchAs none none pos :: ps) (none :: cs)
def setCaps : L2.St → List (Option Nat) → List V → L2.St
  | σ, some i :: cs, v :: vs => setCaps (σ.set i (some v)) cs vs
  | σ, none :: cs, _ :: vs => setCaps σ cs vs
  | σ, _, _ => σ
def bsOf : List Pattern → List Value → List (Str × Value)
  | .MatchAs none (some n) _ :: ps, u :: us => (n, u) :: bsOf ps us
  | _ :: ps, _ :: us => bsOf ps us
  | _, _ => []
section
variable {X : Cx} {pins : List (Addr × Obj)}
theorem Caps.len {ps : List Pattern} {cs : List (Option Nat)} (h : Caps X ps cs) : ps.length = cs.length := by
  induction h with
  | nil => rfl
  | name _ _ _ _ ih => simp [ih]
  | wild _ ih => simp [ih]
theorem caps_each {M : Model} {A : Around} {E : Value → Shared → Prop} {env : Env} {ps : List Pattern} {cs : List (Option Nat)} (h : Caps X ps cs) : ∀ {us : List Value} {s : Shared} {Q : Option (List (Str × Value)) → Shared → Prop}, us.length = ps.length → Q (some (bsOf ps us)) s → wpAny M A (matchEach ps env us) Q E s := by
  induction h with
  | nil =>
    intro us s Q hl q
    cases us with
    | nil => exact wpAny_matchEach_nil q
    | cons u us => simp at hl
  | @name i x pos ps cs _ _ _ _ ih =>
    intro us s Q hl q
    cases us with
    | nil => simp at hl
    | cons u us =>
      refine wpAny_matchEach_cons (wpAny_matchPattern_Capture ?_)
      exact ih (by simpa using hl) q
  | @wild pos ps cs _ ih =>
    intro us s Q hl q
    cases us with
    | nil => simp at hl
    | cons u us =>
      refine wpAny_matchEach_cons (wpAny_matchPattern_Capture ?_)
      exact ih (by simpa using hl) q
theorem caps_assign {M : Model} {A : Around} {E : Value → Shared → Prop} {ps : List Pattern} {cs : List (Option Nat)} (hN : X.N.Nodup) (h : Caps X ps cs) : ∀ {us : List Value} {vs : List V} {σ : L2.St} {H : Hp} {s : Shared} {Q : Unit → Shared → Prop}, Vals vs us → us.length = ps.length →
    Inv X pins σ H s → (∀ s', Inv X pins (setCaps σ cs vs) H s' → Q () s') → wpAny M A (assignInOrder ((bsOf ps us).map fun p => bindName X.env p.1) ((bsOf ps us).map (·.2))) Q E s := by
  induction h with
  | nil =>
    intro us vs σ H s Q r hl I q
    cases r with
    | nil => exact assignInOrder_nil (q s I)
    | cons _ _ => simp at hl
  | @name i x pos ps cs h1 h2 h3 _ ih =>
    intro us vs σ H s Q r hl I q
    cases r with
    | nil => simp at hl
    | @cons v u vs us rv rr =>
      show wpAny M A (assignInOrder (bindName X.env x :: (bsOf ps us).map fun p => bindName X.env p.1) (u :: (bsOf ps us).map (·.2))) Q E s
      refine assignInOrder_cons (wpAny_bindName (store_ok I hN h1 h2 rv (fun s' I' => ?_) h3))
      exact ih rr (by simpa using hl) I' q
  | @wild pos ps cs _ ih =>
    intro us vs σ H s Q r hl I q
    cases r with
    | nil => simp at hl
    | @cons v u vs us rv rr =>
      show wpAny M A (assignInOrder ((bsOf ps us).map fun p => bindName X.env p.1) ((bsOf ps us).map (·.2))) Q E s
      exact ih rr (by simpa using hl) I q
/-- cases of a match: what is read of each -/
abbrev TMs := V → Ends → L2.St → Hp → Prop
structure PMs (X : Cx) (cases : List MatchCase) (t : TMs) : Prop where
  run : ∀ (first : Bool) (pins : List (Addr × Obj)) (s : Shared) (σ : L2.St) (H : Hp) (D : Ends) (v : V) (u : Value), Inv X pins σ H s → RelV v u → t v D σ H → wpAny (model X.prog X.w) X.A (matchCases cases X.env u first) (SP X pins D) X.xe s
theorem ps_match {subject : Expr} {cases : List MatchCase} {pos : Pos} {te : TE} {t : TMs} (he : PE X subject te) (hc : PMs X cases t) : PS X (.Match subject cases pos) (fun D σ H => te σ H fun v H1 => t v D σ H1) := by
  refine ⟨fun pins s σ H D I h => ?_⟩
  refine wpAny_Match (thn (he.run pins s σ H _ I h) fun u s1 ⟨v, H1, I1, r, q⟩ => ?_)
  exact hc.run true pins s1 σ H1 D v u I1 r q
/-- no case is left -/
theorem pm_nil : PMs X [] (fun _ D σ H => D.nx σ H) := ⟨fun first pins s σ H D v u I r h => wpAny_matchCases_nil ⟨σ, H, I, h⟩⟩
/-- case _: -/
theorem pm_wild {body : List Stmt} {rest : List MatchCase} {pos : Pos} {tb : TS} (hb : PSs X body tb) : PMs X (⟨.MatchAs none none pos, none, body⟩ :: rest) (fun _ D σ H => tb D σ H) := by
  refine ⟨fun first pins s σ H D v u I r h => ?_⟩
  refine wpAny_matchCases_cons (wpAny_matchPattern_Capture ?_)
  exact assignInOrder_nil (hb.run pins s σ H D I h)
/-- case 'text': -/
theorem pm_val {z : Str} {body : List Stmt} {rest : List MatchCase} {k pos : Pos} {j : Nat} {tb : TS} {t : TMs} (hb : PSs X body tb) (hr : PMs X rest t) :
    PMs X (⟨.MatchValue (.Constant (.str z) j k) pos, none, body⟩ :: rest) (fun v D σ H => ∃ y, v = .str y ∧ if y = z then tb D σ H else t v D σ H) := by
  refine ⟨fun first pins s σ H D v u I r h => ?_⟩
  obtain ⟨y, rfl, h⟩ := h
  refine wpAny_matchCases_cons (wpAny_matchPattern_Value ?_)
  refine thn ((pe_str (X := X) (x := z)).run pins s σ H (fun w H1 => w = .str z ∧ H1 = H) I ⟨rfl, rfl⟩) fun x s1 ⟨w, H1, I1, r1, e1, e2⟩ => ?_
  subst e1
  rw [e2] at I1
  refine thn (op_eq (X := X) pins s1 σ H (.str y) (.str z) u x (fun c H2 => c = .bl (decide (V.str y = V.str z)) ∧ H2 = H) I1 r r1 ⟨rfl, rfl, rfl⟩) fun c s2 ⟨w, H2, I2, r2, e3, e4⟩ => ?_
  subst e3
  rw [e4] at I2
  obtain rfl : c = .bool (decide (V.str y = V.str z)) := r2
  refine wpAny_truthy_bool ?_
  by_cases e : y = z
  · have ed : decide (V.str y = V.str z) = true := decide_eq_true (by rw [e])
    rw [if_pos e] at h
    rw [ed, if_pos rfl]
    exact assignInOrder_nil (hb.run pins s2 σ H D I2 h)
  · have ed : decide (V.str y = V.str z) = false := decide_eq_false (fun q => e (V.str.inj q))
    rw [if_neg e] at h
    rw [ed, if_neg (by simp)]
    exact hr.run false pins s2 σ H D _ u I2 r h
/-- case ['text', names ..]: -/
theorem pm_tag {z : Str} {ps : List Pattern} {cs : List (Option Nat)} {body : List Stmt} {rest : List MatchCase} {k pos pos' : Pos} {j : Nat} {tb : TS} {t : TMs} (hc : X.calm = true) (hN : X.N.Nodup) (hcap : Caps X ps cs) (hb : PSs X body tb) (hr : PMs X rest t)
    (hstar : (Pattern.MatchValue (.Constant (.str z) j k) pos :: ps).findIdx? (·.isStar) = none := by rfl) :
    PMs X (⟨.MatchSequence (.MatchValue (.Constant (.str z) j k) pos :: ps) pos', none, body⟩ :: rest) (fun v D σ H => ∃ a y xs, v = .ref a ∧ SqT X.K H a (.str y :: xs) ∧ if y = z ∧ xs.length = cs.length then tb D (setCaps σ cs xs) H else t v D σ H) := by
  refine ⟨fun first pins s σ H D v u I r h => ?_⟩
  obtain ⟨a, y, xs, rfl, hq, h⟩ := h
  obtain rfl : u = .ref a := r
  obtain ⟨its, rv, ht, hz⟩ := I.tuple hq
  cases rv with
  | @cons _ w _ us rw' rr =>
  have hlen : us.length = xs.length := rr.length.symm
  have hl : (w :: us).toArray.size = us.length + 1 := by simp
  have l63 := line63
  have hfit : (((w :: us).toArray.size : Nat) : Int) < 2 ^ 63 := by
    rw [hl, hlen]
    simp at hz
    have : (sizeLine : Int) < 2 ^ 63 := by exact_mod_cast l63
    omega
  refine wpAny_matchCases_cons ?_
  by_cases hn : us.length = ps.length
  · refine matchSeq_tuple_hit ht hfit (by rw [hl, hn]; rfl) ?_ hstar rfl
    have hsz : (Pattern.MatchValue (.Constant (.str z) j k) pos :: ps).length = (w :: us).toArray.size := by rw [hl, hn]; rfl
    rw [hsz]
    have I1 : Inv X pins σ H { s with toks := s.toks + 1 + 1 } := I.tok _
    refine unpackItems_tuple (I.ok.hd hc) ht fun h' hx => ?_
    have I2 : Inv X pins σ H { s with heap := h', toks := s.toks + 1 + 1 } := I.kept fun b o e => hx b o (Nat.ne_of_lt (Heap.lt_size e)) e
    refine wpAny_matchEach_cons (wpAny_matchPattern_Value ?_)
    refine thn ((pe_str (X := X) (x := z)).run pins _ σ H (fun w H1 => w = .str z ∧ H1 = H) I2 ⟨rfl, rfl⟩) fun x s1 ⟨w1, H1, I1, r1, e1, e2⟩ => ?_
    subst e1
    rw [e2] at I1
    refine thn (op_eq (X := X) pins s1 σ H (.str y) (.str z) w x (fun c H2 => c = .bl (decide (V.str y = V.str z)) ∧ H2 = H) I1 rw' r1 ⟨rfl, rfl, rfl⟩) fun c s2 ⟨w2, H2, I2, r2, e3, e4⟩ => ?_
    subst e3
    rw [e4] at I2
    obtain rfl : c = .bool (decide (V.str y = V.str z)) := r2
    refine wpAny_truthy_bool ?_
    by_cases e : y = z
    · have ed : decide (V.str y = V.str z) = true := decide_eq_true (by rw [e])
      rw [if_pos ⟨e, by rw [← hlen, hn, hcap.len]⟩] at h
      rw [ed, if_pos rfl]
      refine caps_each hcap hn ?_
      exact caps_assign hN hcap rr hn I2 fun s3 I3 => hb.run pins s3 _ H D I3 h
    · have ed : decide (V.str y = V.str z) = false := decide_eq_false (fun q => e (V.str.inj q))
      rw [if_neg (fun q => e q.1)] at h
      rw [ed, if_neg (by simp)]
      exact hr.run false pins s2 σ H D (.ref a) _ I2 rfl h
  · refine matchSeq_tuple_miss ht hfit (by rw [hl]; simpa using hn) ?_ hstar rfl
    rw [if_neg (fun q => hn (by rw [hlen, q.2, hcap.len]))] at h
    exact hr.run false pins _ σ H D (.ref a) _ (I.tok _) rfl h
end
end HM
namespace HC
open PySem PySem.Spec PyProof.Rows L2
section
variable {J : It} {n : Nat} {G : Hp → Prop} {Y : Nat → Hp → V → Hp → Prop}
/-- any walk, any body: for the two clauses of a comprehension -/
theorem wk_it (w : Walk J n G Y) {B : V → Hp → (Hp → Prop) → Prop} {H0 : Hp} {Qd : Hp → Prop} (Pv : Nat → Hp → Prop) (h0 : Pv 0 H0) (hG : ∀ i H, i ≤ n → Pv i H → G H)
    (hs : ∀ i x H H', i < n → Pv i H → Y i H x H' → B x H' (Pv (i + 1))) (hd : ∀ H, Pv n H → Qd H) :
    ∃ W : Nat → Nat → Hp → Prop, (∃ m, W 0 m H0) ∧ ∀ i m H, W i m H →
      (J.stop i H ∧ Qd H) ∨ (J.go i H ∧ ∃ Nx : Hp → Prop, (∀ H', Nx H' → ∃ m', m' < m ∧ W (i + 1) m' H') ∧ ∀ x H', J.yld i H x H' → B x H' Nx) := by
  refine ⟨fun i m H => m = n - i ∧ i ≤ n ∧ Pv i H, ⟨n, by simp, Nat.zero_le _, h0⟩, ?_⟩
  rintro i m H ⟨rfl, hi, p⟩
  have q := hG i H hi p
  by_cases hlt : i < n
  · exact .inr ⟨w.goes i H hlt q, Pv (i + 1), fun H' p' => ⟨n - (i + 1), by omega, rfl, hlt, p'⟩, fun x H' y => hs i x H H' hlt p (w.yields i H x H' hlt q y)⟩
  · obtain rfl : i = n := by omega
    exact .inl ⟨w.stops H q, hd H p⟩
end
theorem yes {f : Bool → Hp → Prop} {σ : L2.St} {H : Hp} (h : f true H) : tYes σ H f := h
theorem pi_zipK {K : PySem.W.Frag} {X : Cx} {e e2 : Expr} {ta : TA} {p pos tpos : Pos} {elts : List Expr} {kk : Nat} (hK : X.K = K) (hg : Gl X "zip") (hm : X.mg "zip" = none) (ha : PA X [e, e2] ta)
    (hs : starEach [e, e2] X.env = (false, eval e X.env) :: starEach [e2] X.env := by rfl) (hpl : (backTo pos (starEach [e2] X.env)).any (·.1) = false := by rfl) :
    PI X (.Tuple elts kk tpos) (.Call (.Name "zip" p) [e, e2] [] pos) (iZip K ta) := by
  subst hK
  exact pi_zip hg hm ha hs hpl
theorem pi_listK {K : PySem.W.Frag} {X : Cx} {e tg : Expr} {t : TE} (hK : X.K = K) (h : PI X tg e (iList X.K t)) : PI X tg e (iList K t) := by
  subst hK
  exact h
theorem op_ltTK {K : PySem.W.Frag} {X : Cx} (hK : X.K = K) (hu : X.A.units < cLine) : OpR X (compareOp .Lt) (rLtT K) := by
  subst hK
  exact op_ltT hu
end HC
/-! list.extend of a tuple -/
namespace HK
open PySem PySem.Spec PyProof.Rows L2 SX
open AutoSeq1
theorem ext_tup (l : Addr) (us : Array Value) (n : Nat) (b : Addr) (vs : Array Value) (m : Nat) (od : Option Addr) (sl : Array (Option Value)) (h0 : ¬ (!us.isEmpty && Builtin.List.listTooLong (us.size + vs.size)) = true) (h1 : us.size ≤ sizeLine) (h2 : us.size + vs.size ≤ sizeLine + 1) :
    Meets (Builtin.«list.extend» ⟨[.ref l, .ref b], []⟩) (fun _ R s => (s.heap.get? l = some { cls := .type "list", dict := none, data := .seq us n, slots := #[] } ∧ s.heap.get? b = some { cls := .type "tuple", dict := od, data := .seq vs m, slots := sl }) ∧
      R (.ok (.ret Value.none)) { s with heap := s.heap.update l (Obj.mapSeq fun x => x ++ vs), toks := s.toks }) :=
  .of_wp fun prog w A R s h => by
    obtain ⟨hp, g, d, tk, os⟩ := s
    obtain ⟨⟨hl, hb⟩, h⟩ := h
    have f1 := idx_int
    have f2 := AutoSeq1.sub_tuple_tuple
    have f3 := AutoSeq1.sub_list_list
    have f4 := AutoSeq1.sub_tuple_list
    have f5 := AutoSeq1.sub_list_tuple
    have hz' : (us ++ vs).size ≤ sizeLine + 1 := by
      rw [Array.size_append]
      exact h2
    wp_walk using (wpAny_updateSeq hl rfl (hz := h1) (_hz' := hz')), wpAny_loadPart' hl, wpAny_loadPart' hb
    exact ⟨_, rfl, h⟩
section
variable {X : Cx}
def rExtT (K : PySem.W.Frag) : V → List V → Hp → VK → Prop := fun x vs H Q => ∃ l b xs zs, x = .ref l ∧ vs = [.ref b] ∧ H l = some (.lst xs) ∧ SqT K H b zs ∧ xs.length + zs.length ≤ sizeLine ∧ Q .non (upd H l (.lst (xs ++ zs)))
theorem mt_extendT : MtM X "list.extend" (rExtT X.K) := by
  intro pins s σ H x vs v us Q I rx rv h
  obtain ⟨l, b, xs, zs, rfl, rfl, hH, hB, hz, q⟩ := h
  cases rx
  obtain ⟨u, rfl, ru⟩ := rv.one
  cases ru
  obtain ⟨z, its, n, r, hl, e⟩ := I.lstM hH
  obtain ⟨its2, r2, ⟨⟨oc, od, dt, sl⟩, hb, hc, m, hd⟩, z2⟩ := I.tuple hB
  cases hc
  cases hd
  have e1 := r.length
  have e2 := r2.length
  have hsz : its.toArray.size + its2.toArray.size ≤ sizeLine := by
    rw [List.size_toArray, List.size_toArray]
    omega
  have hlong : ¬ (!its.toArray.isEmpty && Builtin.List.listTooLong (its.toArray.size + its2.toArray.size)) = true := by
    rw [notLongL hsz, Bool.and_false]
    decide
  refine call_meets F.slot_list_extend ⟨_, e, rfl⟩ F.entry_list_extend (F.args_list_extend_2 _ _) (ext_tup l its.toArray n b its2.toArray m od sl hlong (by omega) (by omega)) ⟨⟨e, hb⟩, .non, _, I.lset (its' := its ++ its2) hH e (by simp) (r.append r2) (by rw [List.length_append]; omega), rfl, q⟩
theorem op_in_kdK {K : PySem.W.Frag} {w : World} {d : Addr} {es : Array DictEntry} {n : Nat} (hK : X.K = K) (hw : X.w = w) (D : KDict K w d es n) : OpR X (compareOp .In) (fun x y H Q => ∃ (z : Str) (r : Option Value), x = .str z ∧ y = .ref d ∧ PySem.W.nsIn K d z = some r ∧ Q (.bl r.isSome) H) := by
  subst hK
  subst hw
  exact op_in_kd D
theorem ix_kdictK {K : PySem.W.Frag} {w : World} (hK : X.K = K) (hw : X.w = w) : IxR X (rIxD K w) := by
  subst hK
  subst hw
  exact ix_kdict
theorem pi_tupK {K : PySem.W.Frag} {tg l : Expr} {tl : TE} (hK : X.K = K) (hl : PE X l tl) : PI X tg l (iTup K tl) := by
  subst hK
  exact pi_tup hl
end
end HK
namespace KX
open PySem PySem.Spec PyProof.Rows L2 SX HL
/-! ### more rules within comprehensions: K is told -/
section
variable {X : Cx} {K : PySem.W.Frag}
theorem pa_starK {e : Expr} {es : List Expr} {te : TE} {t : TA} {p : Pos} (h : X.K = K) (he : PE X e te) (hr : PA X es t) (hs : starEach (.Starred e p :: es) X.env = (true, eval e X.env) :: starEach es X.env := by rfl) : PA X (.Starred e p :: es) (StX.tStar K te t) := by
  subst h
  exact StX.pa_star he hr hs
theorem call_tuple_ofK (h : X.K = K) : CallR X (.type "tuple") (fun xs H Q => ∃ p ys, xs = [.ref p] ∧ ((SqL K H p ys ∧ ∀ l, H l = none → Q (.ref l) (upd H l (.tup ys))) ∨ (SqT K H p ys ∧ Q (.ref p) H))) := by
  subst h
  exact call_tuple_of
theorem pe_fldK {e : Expr} {ta : TE} {f : Str} {pos : Pos} (h : X.K = K) (he : PE X e ta) (hb : attributeBase e f X.env (eval e X.env) = eval e X.env) : PE X (.Attribute e f pos) (tFld K ta f) := by
  subst h
  exact pe_fld he hb
theorem op_catTK (h : X.K = K) : OpR X (binaryOp .Add) (rCatT K) := by
  subst h
  exact op_catT
end
end KX
namespace HR
open PySem PySem.Spec PyProof.Rows L2 SX HL
section
variable {X : Cx} {e : Expr} {te ts : TE} {p2 pos p3 p4 : Pos} {kk : Nat}
theorem vals_reverse {xs : List V} {us : List Value} (r : Vals xs us) : Vals xs.reverse us.reverse := by
  induction r with
  | nil => exact .nil
  | @cons x u xs us h r ih =>
    rw [List.reverse_cons, List.reverse_cons]
    exact ih.append (.cons h .nil)
/-- xs[::-1] of a list -/
def tRevL (K : PySem.W.Frag) (te ts : TE) : TE := fun σ H Q => te σ H fun x H1 => ts σ H1 fun y H2 => y = .int (-1) ∧ ∃ a xs, x = .ref a ∧ SqL K H2 a xs ∧ ∀ p, H2 p = none → Q (.ref p) (upd H2 p (.lst xs.reverse))
theorem pe_revL (he : PE X e te) (hst : PE X (.UnaryOp .USub (.Constant (.int 1) kk p4) p3) ts) : PE X (.Subscript e (.Slice none none (some (.UnaryOp .USub (.Constant (.int 1) kk p4) p3)) p2) pos) (tRevL X.K te ts) := by
  refine ⟨fun pins s σ H Q I0 h0 => Subscript_ (thn (he.run pins s σ H _ I0 h0) fun v s1 ⟨x, H1, I1, r1, q1⟩ => wpAny_Slice ?_)⟩
  rw [evalPart_none]
  refine wpAny_pure ?_
  refine wpAny_pure ?_
  rw [evalPart_some]
  refine thn (hst.run pins s1 σ H1 _ I1 q1) fun w s2 ⟨y, H2, I2, r2, q2⟩ => ?_
  obtain ⟨rfl, a, xs, rfl, hx, q⟩ := q2
  obtain ⟨t, rfl⟩ := r2
  obtain rfl : v = Value.ref a := r1
  have I4 : Inv X pins σ H2 { s2 with heap := s2.heap.push { cls := .type "slice", data := .fields #[.none, .none, .int (-1) t] } } := I2.kept (t' := s2.toks) fun b ob g => Heap.get?_push_of_some _ g
  obtain ⟨its, r, pl, hz⟩ := I4.list hx
  have hlen := r.length
  refine tail_any (ops := [.ref a, .ref s2.heap.objs.size]) pl.isList.typeIs slot_list_getitem.lookup ?_ (by with_unfolding_all rfl)
  refine wpAny_getItem_list_slice (lo := none) (hi := none) (st := some (-1)) pl.isList (Heap.IsSliceOf.new ..) .none .none (.int (-1) t) (by decide) ?_ (by rw [List.size_toArray]; omega)
  rw [PySem.W.krv_pick]
  refine ⟨.ref _, _, I4.laid (t' := s2.toks) (o := .lst xs.reverse) (fun b ob g => Heap.get?_push_of_some _ g) (Nat.le_refl _) ?_, rfl, q _ (I4.hok.fresh (Nat.le_refl _))⟩
  exact ⟨by rw [List.length_reverse]; omega, _, 0, vals_reverse r, Heap.get?_push_size _ rfl⟩
end
end HR
namespace TG
open PySem PySem.Spec PyProof.Rows L2 SX HL
/-- a tuple that the top has written -/
theorem sqt_tup {K : PySem.W.Frag} {a : Addr} {od : Option Addr} {its : List Value} {n : Nat} {sl : Array (Option Value)} {xs : List V} (h : K.lookup a = some ⟨.type "tuple", od, .seq its.toArray n, sl⟩) (hs : its.toArray.size ≤ sizeLine) (hv : Vals xs its.toArray.toList) (H : Hp) : SqT K H a xs :=
  .inr ⟨_, its.toArray, n, h, rfl, rfl, hs, hv⟩
end TG
namespace HL
open PySem PySem.Spec PyProof.Rows L2 SX
theorem op_in_seqK {X : Cx} {K : PySem.W.Frag} (h : X.K = K) : OpR X (compareOp .In) (rIn K false) := by
  subst h
  exact op_in_seq
theorem op_notIn_seqK {X : Cx} {K : PySem.W.Frag} (h : X.K = K) : OpR X (compareOp .NotIn) (rIn K true) := by
  subst h
  exact op_notIn_seq
end HL
namespace XI
open PySem PySem.Spec PyProof.Rows L2
/-- isinstance(e, c), e what the suite holds, of whichever class -/
def rIsX (K : PySem.W.Frag) (cls : Value) (d : Option Addr) (a : Addr) : List V → Hp → VK → Prop := fun xs H Q => ∃ (D : Addr) (c : V) (cv : Value) (b : Bool), cls = .ref D ∧ d = none ∧ ExcC K D ∧ xs = [.ref a, c] ∧ (∀ u, RelV c u → u = cv) ∧ PySem.W.kitOne K (.ref D) cv = some b ∧ Q (.bl b) H
theorem call_isX {K : PySem.W.Frag} {X : Cx} {a : Addr} {oe : Obj} {pn : List (Addr × Obj)} {cls : Value} {d : Option Addr} (hK : X.K = K) (hz : Zc cls d oe) (hf : ∃ vs, oe.data = .fields vs) : CallR (X.suite a ((a, oe) :: pn)) (.builtin "isinstance") (rIsX K cls d a) := by
  subst hK
  intro pins s σ H xs us Q I r h
  obtain ⟨D, c, cv, b, rfl, rfl, C, rfl, hcv, e, q⟩ := h
  exact call_isE C hz hf pins s σ H _ us Q I r ⟨c, cv, b, rfl, hcv, e, q⟩
end XI
namespace XI
open PySem PySem.Spec PyProof.Rows L2
/-- a class is caught by the name of one above it -/
theorem exm_of2 {K : PySem.W.Frag} {S C : Addr} (h1 : PySem.W.subIn K (.ref C) (.type "BaseException") = some true) (h2 : PySem.W.isClsIn K C = true) (h3 : PySem.W.typeIn K (.ref C) = some (.type "type")) (h4 : PySem.W.subIn K (.ref S) (.ref C) = some true) :
    PySem.W.exmOne K (.ref S) (.ref C) = some true := by
  have e1 : (PySem.W.subIn K (.ref C) (.type "BaseException") == some true) = true := by rw [h1] <;> rfl
  have e2 : ((PySem.W.clsIn K C).isSome && PySem.W.typeIn K (.ref C) == some (.type "type")) = true := by
    have h2' : (PySem.W.clsIn K C).isSome = true := h2
    rw [h2', h3] <;> rfl
  show (if (PySem.W.subIn K (.ref C) (.type "BaseException") == some true) = true then (if ((PySem.W.clsIn K C).isSome && PySem.W.typeIn K (.ref C) == some (.type "type")) = true then PySem.W.subIn K (.ref S) (.ref C) else none) else none) = some true
  rw [if_pos e1, if_pos e2]
  exact h4
end XI
/-! enumerate(tuple) -/
namespace ET
open PySem PySem.Spec PyProof.Rows L2 SX
open AutoSeq1 (wpAny_loadPart')
theorem meets_tup (t : Addr) (items : Array Value) (n : Nat) (dct : Option Addr) (sl : Array (Option Value)) :
    Meets (Builtin.«enumerate.__new__» ⟨[.type "enumerate", .ref t], []⟩) (fun _ R s => s.heap.get? t = some ⟨.type "tuple", dct, .seq items n, sl⟩ ∧
      R (.ok (.ret (.ref (s.heap.push { cls := .type "tuple_iterator", data := .fields #[.ref t, .int 0 0] }).objs.size))) { s with heap := (s.heap.push { cls := .type "tuple_iterator", data := .fields #[.ref t, .int 0 0] }).push { cls := .type "enumerate", data := .fields #[.none, .bool false, .ref s.heap.objs.size, rawInt 0, .none, .none] } }) :=
  .of_wp fun prog w A R s h => by
    obtain ⟨hp, g, dr, tk, os⟩ := s
    obtain ⟨ho, h⟩ := h
    have hsub := sub_enumerate
    have ik2 : ∀ {A : Around} {E : Value → Shared → Prop} {Q : Value → Shared → Prop}, Q (.ref hp.objs.size) ⟨hp.push { cls := .type "tuple_iterator", data := .fields #[.ref t, .int 0 0] }, g, dr, tk, os⟩ → wpAny (model prog w) A (pyIter (.ref t)) Q E ⟨hp, g, dr, tk, os⟩ := fun q => wpAny_pyIter_tuple ⟨_, ho, rfl, n, rfl⟩ q
    wp_walk using wpAny_loadPart' ho
    refine wpAny_stack_any fun st => wpAny_pure ?_
    split
    · rename_i c _ _ _ _ _
      cases (c == Value.type "enumerate") <;> (wp_walk using wpAny_loadPart' ho, ik2; exact ⟨_, rfl, h⟩)
    · wp_walk using wpAny_loadPart' ho, ik2
      exact ⟨_, rfl, h⟩
/-- (0, first), (1, the next), ..: the tuple at a, of n items -/
def ItET (K : PySem.W.Frag) (a : Addr) (n : Nat) : It :=
  ⟨fun i H => i < n ∧ ∃ xs, SqT K H a xs ∧ xs.length = n, fun i H v H' => ∃ T x, v = .ref T ∧ H T = none ∧ H' = upd H T (.tup [.int (i : Nat), x]) ∧ ∀ xs, SqT K H a xs → xs[i]? = some x, fun i H => n ≤ i ∧ ∃ xs, SqT K H a xs ∧ xs.length = n⟩
theorem turn_et {P : Program} {w : World} {K : PySem.W.Frag} {elts : List Expr} {kk : Nat} {tpos : Pos} {a : Addr} {n : Nat} (e it : Addr) (hai : a ≠ it) (hae : a ≠ e) :
    Turn P w K (.Tuple elts kk tpos) (ItET K a n) [e, it] e (fun i h => (∃ old, IsEnum h e it ((i : Nat) : Int) old) ∧ h.IsTupleIter it a i ∧ e ≠ it ∧ i ≤ n) where
  mem := by simp
  obj := fun i h st b hb => by
    obtain ⟨⟨old, he⟩, ⟨o', ho, hc, hd⟩, _⟩ := st
    rcases (show b = e ∨ b = it by simpa using hb) with z | z
    · rw [z]; exact ⟨_, he, fun v q => nomatch q⟩
    · rw [z]; exact ⟨o', ho, fun v q => by rw [hd] at q; cases q⟩
  keep := fun i h h' st k => let ⟨⟨old, he⟩, hi, hne, hle⟩ := st; ⟨⟨old, k e (by simp) _ he⟩, hi.at fun o q => k it (by simp) o q, hne, hle⟩
  item := by
    intro X hP hw hK hc i pins s σ H E I hf st hg
    subst hP hw hK
    obtain ⟨⟨old, he⟩, hit, hne, hle⟩ := st
    obtain ⟨hi, xs, hq, hxl⟩ := hg
    obtain ⟨its, rv, p, hz⟩ := I.tuple hq
    have hlen : its.toArray.size = n := by rw [List.size_toArray, ← rv.length, hxl]
    have hel : e < s.heap.objs.size := Heap.lt_size he
    have hil : it < s.heap.objs.size := by obtain ⟨_, q, _⟩ := hit; exact Heap.lt_size q
    have D := Draws.tuple (prog := X.prog) (w := X.w) (A := X.A.in1) (I.ok.hd hc) it a hai its.toArray
    refine wpAny_pyNext_enum_itemD D he ⟨hit, p⟩ (by omega) hne (by simp [hne, Ne.symm hae]) fun x h' tk hP ho st' hT hsz' hk => ?_
    refine ⟨_, rfl, wpAny_letOwnedTupleGo_enum (s := { s with heap := h', toks := tk + 1 }) ho fun h'' he' sb => ?_⟩
    have hT2 : h''.get? s.heap.objs.size = some { cls := .type "tuple", data := .seq #[.int i tk, x] } := (sb.2 _ (Nat.ne_of_gt hel)).trans hT
    have hP' : its[i]? = some x := by
      have h1 : its.toArray[i]? = some x := hP
      simpa using h1
    obtain ⟨v, hv, rk⟩ : ∃ v, xs[i]? = some v ∧ RelV v x := by
      have hlt : i < xs.length := by omega
      obtain ⟨u, hu, ru⟩ := rv.get (List.getElem?_eq_getElem hlt)
      rw [hP'] at hu
      cases hu
      exact ⟨_, List.getElem?_eq_getElem hlt, ru⟩
    have new : ObjOk X.prog X.w (upd H s.heap.objs.size (.tup [.int (i : Nat), v])) h'' s.heap.objs.size (.tup [.int (i : Nat), v]) :=
      ⟨by show 2 ≤ sizeLine; decide, [.int i tk, x], .cons ⟨_, rfl⟩ (.cons rk .nil), ⟨_, hT2, rfl, _, rfl⟩⟩
    have I1 : Inv X pins σ (upd H s.heap.objs.size (.tup [.int (i : Nat), v])) { s with heap := h'', toks := tk + 1 } :=
      I.turnedNew (ch := [e, it]) (fun b ob hb q => (sb.2 b (fun z => hb (by simp [z]))).trans (hk b ob (fun z => hb (by simp [z])) (fun z => hb (by simp [z])) q)) hf (Nat.le_refl _) new
    refine ⟨.ref s.heap.objs.size, _, I1, rfl, ⟨_, v, rfl, I.hok.fresh (Nat.le_refl _), rfl, fun ys hy => by rw [I.tuple_inj hy hq]; exact hv⟩, ⟨⟨x, ?_⟩, ?_, hne, by omega⟩, fun b hb => ?_⟩
    · have e1 : ((i + 1 : Nat) : Int) = (i : Int) + 1 := by omega
      rw [e1]; exact he'
    · exact st'.1.at fun o q => (sb.2 it (Ne.symm hne)).trans q
    · have hb' : b < s.heap.objs.size := by
        rcases (show b = e ∨ b = it by simpa using hb) with z | z
        · rw [z]; exact hel
        · rw [z]; exact hil
      rw [upd_ne (Nat.ne_of_lt hb')]
      exact (hf b hb).1
  done := by
    intro X hP hw hK hc i pins s σ H E I hf st hg
    subst hP hw hK
    obtain ⟨⟨old, he⟩, hit, hne, hle⟩ := st
    obtain ⟨hi, xs, hq, hxl⟩ := hg
    obtain ⟨its, rv, p, hz⟩ := I.tuple hq
    have hlen : its.toArray.size = n := by rw [List.size_toArray, ← rv.length, hxl]
    obtain ⟨f0, f1, f2, f3, f4, f5⟩ := hf it (by simp)
    have D := Draws.tuple (prog := X.prog) (w := X.w) (A := X.A.in1) (I.ok.hd hc) it a hai its.toArray
    have ei : i = its.toArray.size := by omega
    rw [ei] at hit
    exact wpAny_pyNext_enum_endD D he ⟨hit, p⟩ fun h' eb => ⟨rfl, I.turned (t' := s.toks) (fun b o hb q => eb b o hb q) f0 f1 f3 f4 f5⟩
  self := fun A i s Q E st h => let ⟨⟨_, he⟩, _⟩ := st; wpAny_pyIter_enum he h
def iEnumT (K : PySem.W.Frag) (ta : TA) : TI := fun σ H R => ta σ H fun vs H1 => ∃ (a : Addr) (xs : List V), vs = [.ref a] ∧ SqT K H1 a xs ∧ R (ItET K a xs.length) H1
theorem call_enum_tup {prog : Program} {w : World} {A : Around} {E : Value → Shared → Prop} {s : Shared} {t : Addr} {items : Array Value} {Q : Value → Shared → Prop} (hL : s.heap.IsTuple t items)
    (h : ∀ h', IsEnum h' (s.heap.objs.size + 1) s.heap.objs.size 0 .none → h'.IsTupleIter s.heap.objs.size t 0 → h'.objs.size = s.heap.objs.size + 2 →
      (∀ b o, s.heap.get? b = some o → h'.get? b = some o) → Q (.ref (s.heap.objs.size + 1)) { s with heap := h' }) :
    wpAny (model prog w) A (call (.type "enumerate") [.ref t]) Q E s := by
  obtain ⟨⟨c, dct, dt, sl⟩, hl, hc, n, hd⟩ := hL
  replace hc : c = .type "tuple" := hc
  replace hd : dt = .seq items n := hd
  subst hc hd
  refine callType_new F.called_enumerate (by decide) (F.typeCall_enumerate_1 _) (F.newCall_enumerate_1 _) (fun obj => F.args_object_init_2 obj _) F.entry_enumerate_new (meets_tup t items n dct sl) ⟨hl, ?_⟩
  have hz : (s.heap.push { cls := .type "tuple_iterator", data := .fields #[.ref t, .int 0 0] }).objs.size = s.heap.objs.size + 1 := Heap.size_push ..
  show _ ∧ _
  rw [hz]
  have he : IsEnum ((s.heap.push { cls := .type "tuple_iterator", data := .fields #[.ref t, .int 0 0] }).push { cls := .type "enumerate", data := .fields #[.none, .bool false, .ref s.heap.objs.size, rawInt 0, .none, .none] }) (s.heap.objs.size + 1) s.heap.objs.size 0 .none := by
    have := Heap.get?_push_size (s.heap.push { cls := .type "tuple_iterator", data := .fields #[.ref t, .int 0 0] }) (o := { cls := .type "enumerate", data := .fields #[.none, .bool false, .ref s.heap.objs.size, rawInt 0, .none, .none] }) rfl
    rw [hz] at this
    exact this
  exact ⟨⟨_, he, rfl⟩, h _ he ⟨_, Heap.get?_push_of_some _ (Heap.get?_push_size _ rfl), rfl, rfl⟩ (by rw [Heap.size_push, hz]) fun b o x => Heap.get?_push_of_some _ (Heap.get?_push_of_some _ x)⟩
/-- enumerate(x), x a tuple -/
theorem pi_enumT {X : Cx} {e : Expr} {ta : TA} {p pos tpos : Pos} {elts : List Expr} {kk : Nat} (hg : Gl X "enumerate") (hm : X.mg "enumerate" = none) (ha : PA X [e] ta) (hs : starEach [e] X.env = [(false, eval e X.env)] := by rfl) :
    PI X (.Tuple elts kk tpos) (.Call (.Name "enumerate" p) [e] [] pos) (iEnumT X.K ta) := by
  refine ⟨fun pins s σ H R I h => ?_⟩
  refine Call_ (ld_blt I hg hm boot_enumerate (PyProof.Rows.callWith_type1 (thn (ha.run pos pins s σ H _ I h) fun us s1 ⟨vs, H1, I1, r1, q1⟩ => ?_) hs rfl))
  obtain ⟨a, xs, ex, hq, q⟩ := q1
  subst ex
  cases r1 with
  | cons r rr =>
    cases rr
    cases r
    obtain ⟨its, rv, p', hz⟩ := I1.tuple hq
    have hal : a < s1.heap.objs.size := by obtain ⟨o, ho, _⟩ := p'; exact Heap.lt_size ho
    refine call_enum_tup p' fun h' he hit hsz hk => wpAny_pyIter_enum he ?_
    have I2 : Inv X pins σ H1 { s1 with heap := h' } := I1.kept (t' := s1.toks) hk
    refine ⟨s1.heap.objs.size + 1, [s1.heap.objs.size + 1, s1.heap.objs.size], _, _, H1, rfl, I2, turn_et (a := a) (n := xs.length) (s1.heap.objs.size + 1) s1.heap.objs.size (Nat.ne_of_lt hal) (Nat.ne_of_lt (Nat.lt_succ_of_lt hal)), ⟨⟨.none, he⟩, hit, Nat.succ_ne_self _, Nat.zero_le _⟩, fun b hb => ?_, q⟩
    have hle : s1.heap.objs.size ≤ b := by
      rcases (show b = s1.heap.objs.size + 1 ∨ b = s1.heap.objs.size by simpa using hb) with z | z
      · rw [z]; exact Nat.le_add_right _ _
      · rw [z]; exact Nat.le_refl _
    exact I1.fpOk hle (I1.hok.fresh hle)
theorem pi_enumTK {K : PySem.W.Frag} {X : Cx} {e : Expr} {ta : TA} {p pos tpos : Pos} {elts : List Expr} {kk : Nat} (hK : X.K = K) (hg : Gl X "enumerate") (hm : X.mg "enumerate" = none) (ha : PA X [e] ta) (hs : starEach [e] X.env = [(false, eval e X.env)] := by rfl) :
    PI X (.Tuple elts kk tpos) (.Call (.Name "enumerate" p) [e] [] pos) (iEnumT K ta) := by
  subst hK
  exact pi_enumT hg hm ha hs
theorem walk_et {K : PySem.W.Frag} {a : Addr} {xs : List V} : Walk (ItET K a xs.length) xs.length (fun H => SqT K H a xs) (YPair (fun i => some (.int (i : Nat))) (fun i => xs[i]?)) := by
  refine ⟨fun i H hi q => ⟨hi, xs, q, rfl⟩, fun H q => ⟨Nat.le_refl _, xs, q, rfl⟩, fun i H v H' _ q y => ?_⟩
  obtain ⟨T, x, h1, h2, h3, h4⟩ := y
  exact ⟨T, .int (i : Nat), x, h1, h2, h3, rfl, h4 xs q⟩
theorem pi_listK {X : Cx} {tg l : Expr} {tl : TE} {K : PySem.W.Frag} (hK : X.K = K) (hl : PE X l tl) : PI X tg l (iList K tl) := by
  subst hK
  exact pi_list hl
/-- a list or a tuple -/
def iSeq (K : PySem.W.Frag) (tl : TE) : TI := fun σ H R => tl σ H fun x H1 => ∃ a xs, x = .ref a ∧ ((SqL K H1 a xs ∧ R (Itl K a) H1) ∨ (SqT K H1 a xs ∧ R (Itt K a) H1))
theorem pi_seqK {X : Cx} {tg l : Expr} {tl : TE} {K : PySem.W.Frag} (hK : X.K = K) (hl : PE X l tl) : PI X tg l (iSeq K tl) := by
  subst hK
  refine ⟨fun pins s σ H R I h => ?_⟩
  refine thn (hl.run pins s σ H _ I h) fun v s1 ⟨x, H1, I1, r1, q1⟩ => ?_
  obtain ⟨a, xs, e, q⟩ := q1
  subst e
  cases r1
  rcases q with ⟨hq, q⟩ | ⟨hq, q⟩
  · obtain ⟨its, rv, p, hz⟩ := I1.list hq
    refine wpAny_pyIter_list p.isList ?_
    refine ⟨s1.heap.objs.size, [s1.heap.objs.size], _, _, H1, rfl, I1.kept (t' := s1.toks) fun b o e => Heap.get?_push_of_some _ e, turn_list a _, ⟨_, Heap.get?_push_size _ rfl, rfl, rfl⟩, fun b hb => ?_, q⟩
    have e : b = s1.heap.objs.size := by simpa using hb
    subst e
    exact I1.fpOk (Nat.le_refl _) (I1.hok.fresh (Nat.le_refl _))
  · obtain ⟨its, rv, p, hz⟩ := I1.tuple hq
    refine wpAny_pyIter_tuple (show s1.heap.IsTuple a its.toArray from p) ?_
    refine ⟨s1.heap.objs.size, [s1.heap.objs.size], _, _, H1, rfl, I1.kept (t' := s1.toks) fun b o e => Heap.get?_push_of_some _ e, turn_tuple a _, ⟨_, Heap.get?_push_size _ rfl, rfl, rfl⟩, fun b hb => ?_, q⟩
    have e : b = s1.heap.objs.size := by simpa using hb
    subst e
    exact I1.fpOk (Nat.le_refl _) (I1.hok.fresh (Nat.le_refl _))
end ET
namespace QT
open PySem PySem.Spec PyProof.Rows L2 SX HL
/-- a def that may raise, but does not where its promise is told for every end by an exception -/
theorem quiet {P : Program} {w : World} {K : PySem.W.Frag} {mg : Str → Option Value} {base : Heap} {k : Nat} {f : Addr} {fd : FuncData} {ps : List Str} {sp sp' : Sp}
    (F : FnOk P w K mg base (L2.CX P w) k f fd ps sp) (h : ∀ vs H Q E, sp' vs H Q E → sp vs H Q (fun _ _ _ => False)) : FnOk P w K mg base CX0 k f fd ps sp' :=
  ⟨fun vs H Q E q => F.len vs H Q _ (h vs H Q E q), fun A outer s H args us vs Q E hr he hb hv hs =>
    codeAny_mono (F.run A outer s H args us vs Q (fun _ _ _ => False) hr he hb hv (h vs H Q E hs)) fun r s' hc => by
      cases r with
      | ok o =>
        cases o with
        | ret u => exact hc
        | _ => exact hc
      | error e =>
        obtain ⟨_, _, _, _, _, _, _, _, _, _, _, _, z⟩ := hc
        exact z.elim⟩
end QT
namespace HS
open PySem PySem.Spec PyProof.Rows L2 LamX
/-! ## sorted(xs, key=lambda x: body) -/
section
variable {K : PySem.W.Frag} {H H' : Hp}
mutual
theorem dp_ext (e : Ext H H') : ∀ (d : PyData) (v : V), Dp K H v d → Dp K H' v d
  | .none, _, h => by cases h; exact .non
  | .bool b, _, h => by cases h; exact .bl b
  | .int i, _, h => by cases h; exact .int i
  | .str x, _, h => by cases h; exact .str x
  | .list ds, _, h => by
    cases h with
    | lst h1 h2 => exact .lst (h1.ext e) (dpAll_ext e ds _ h2)
  | .tuple ds, _, h => by
    cases h with
    | tup h1 h2 => exact .tup (h1.ext e) (dpAll_ext e ds _ h2)
  | .dict _, _, h => by cases h
theorem dpAll_ext (e : Ext H H') : ∀ (ds : List PyData) (vs : List V), DpAll K H vs ds → DpAll K H' vs ds
  | [], _, h => by cases h; exact .nil
  | d :: ds, _, h => by
    cases h with
    | cons h1 h2 => exact .cons (dp_ext e d _ h1) (dpAll_ext e ds _ h2)
end
theorem dpAll_len : ∀ (ds : List PyData) (vs : List V), DpAll K H vs ds → vs.length = ds.length
  | [], _, h => by cases h; rfl
  | d :: ds, _, h => by
    cases h with
    | cons h1 h2 => rw [List.length_cons, List.length_cons, dpAll_len ds _ h2]
theorem DpAll.snoc : ∀ {vs : List V} {ds : List PyData} {v : V} {d : PyData}, DpAll K H vs ds → Dp K H v d → DpAll K H (vs ++ [v]) (ds ++ [d])
  | [], _, v, d, h, q => by cases h; exact .cons q .nil
  | _ :: _, _, v, d, h, q => by
    cases h with
    | cons h1 h2 => exact .cons h1 (DpAll.snoc h2 q)
end
section
variable {X : Cx} {pins : List (Addr × Obj)} {σ : L2.St} {H : Hp} {s : Shared}
theorem dp_each (I : Inv X pins σ H s) : ∀ {vs : List V} {ds : List PyData} {us : List Value}, DpAll X.K H vs ds → Vals vs us → PySem.W.EachIs (fun v d => ∃ as, Reads s.heap v d as) us ds
  | _, _, _, .nil, r => by cases r; exact .nil
  | _, _, _, .cons h1 h2, r => by
    cases r with
    | cons r1 r2 => exact .cons (Dp.reads I _ _ _ h1 r1) (dp_each I h2 r2)
end
/-- a lambda called with values -/
theorem lam_run {CX : CXT} {P : Program} {w : World} {K : PySem.W.Frag} {mg : Str → Option Value} {base : Heap} {k : Nat} {f c' : Addr} {q : Str} {params : Arguments} {body : Expr} {scope : Scope} {pm ctv : Value} {N ps : List Str} (S : FnScope N ps scope)
    {A : Around} {outer : List Env} {s : Shared} {H : Hp} {us : List Value} {vs : List V} {Q : VK} {E : XK} (hr : Room (k + 1) A) (e0 : Env0 P w K mg base A outer s H) (hf : s.heap.get? f = some (PySem.W.kla_obj "<lambda>" q params body scope [] pm c' ctv)) (hc : H c' = some (CodeO c' q))
    (hb : bindArgs (PySem.W.kla_fn "<lambda>" q params body scope [] pm (.ref c') ctv) ⟨us, []⟩ = pure (ps.zip us)) (r : Vals vs us) (hl : vs.length = ps.length)
    (hbody : Room k (A.deeper (envOfC q scope s.heap.objs.size f (.ref c'))) → ∃ t, PE (cxOf CX P w K mg base N q scope f (.ref c') A outer s H E) body t ∧ t (L2.start N vs) H Q) :
    codeAny (model P w) A (.call (.ref f) ⟨us, []⟩) (CR CX outer P w H s Q E) s := by
  have lim : s.heap.NoLimit := e0.mod.nolimit.keeps fun b o e => (e0.bs b o e).1
  have hkind : ∀ y ∈ ps.zip us, scope.names.lookup y.1 = some .local ∨ (scope.names.lookup y.1 = some .cell ∧ ((cellsFrom (s.heap.objs.size + 1) scope.names []).lookup y.1).isSome = true) := fun ⟨n, v⟩ hy => by
    rcases S.par n (List.of_mem_zip hy).1 with q | q
    · exact .inl q
    · exact .inr ⟨q, PySem.W.cellsFrom_some _ _ _ (.inl q)⟩
  obtain ⟨⟨oc, xs, t, hoc, hdc, hvc⟩, _, _⟩ := e0.hok c' _ hc
  refine PySem.W.kla_callFunE hr.depth hf rfl S.co S.gen rfl ⟨c', oc, xs, t, rfl, hoc, hdc, hvc⟩ ?_
  rw [hb]
  refine wpAny_pure (wpAny_newFunctionEnv_cells S.kind hkind fun env he s1 x => ?_)
  subst he
  refine ⟨lim.keeps x.toInCall.keep, ?_⟩
  obtain ⟨t, ht, hq⟩ := hbody (hr.deeper _)
  have I : Inv (cxOf CX P w K mg base N q scope f (.ref c') A outer s H E) [] (L2.start N vs) H s1 := inv_start S hr.hd e0 hl r x
  refine PySem.W.kla_codeExpr (wpAny_mono (ht.run [] s1 (L2.start N vs) H Q I hq) (fun v s' hs => ?_) fun e s' hs => hs)
  obtain ⟨v', H', J, rv, q'⟩ := hs
  exact ⟨v', H', J.os, J.bare, J.base, J.hok, rv, q'⟩
section
variable {X : Cx} {pins : List (Addr × Obj)} {σ : L2.St} {H : Hp} {s : Shared}
/-- an untracked record of ours, pinned, is written -/
theorem turnedPin {h' : Heap} {t' : Nat} {it : Addr} {o o' : Obj} (I : Inv X ((it, o) :: pins) σ H s) (hs : X.s_0.heap.objs.size ≤ it) (hc : ∀ x c, X.env.cells.lookup x = some c → c ≠ it) (hp : ∀ p ∈ X.pn ++ pins, p.1 ≠ it)
    (k : ∀ b u, b ≠ it → s.heap.get? b = some u → h'.get? b = some u) (ho : h'.get? it = some o') (hd : ∀ v, o'.data ≠ .cell v) : Inv X ((it, o') :: pins) σ H { s with heap := h', toks := t' } := by
  obtain ⟨e, n, nl, nf, _⟩ := I.pin (it, o) (List.mem_append_right _ List.mem_cons_self)
  have I1 : Inv X pins σ H s := I.pins_of fun r hr => I.pin r (List.mem_append_right _ (List.mem_cons_of_mem _ hr))
  have I2 : Inv X pins σ H { s with heap := h', toks := t' } := I1.turned (it := it) k n nl (.inr hs) hc hp
  refine I2.pins_of fun p hm => ?_
  rcases List.mem_cons.mp hm with z | z
  · rw [z]
    exact ⟨ho, n, nl, nf, hd⟩
  · exact I2.pin p (List.mem_append_right _ z)
/-- the list at a and the keys' list at kS end: a is tracked from now on -/
theorem laidEnd {h' : Heap} {t' : Nat} {a kS : Addr} {oa ok : Obj} {zs : List V} {out : List Value} {c : Nat} (I : Inv X ((kS, ok) :: (a, oa) :: pins) σ H s) (hka : kS ≠ a) (ha : X.s_0.heap.objs.size ≤ a) (hk : X.s_0.heap.objs.size ≤ kS)
    (hca : ∀ x c, X.env.cells.lookup x = some c → c ≠ a ∧ c ≠ kS) (hp : ∀ p ∈ X.pn ++ pins, p.1 ≠ a ∧ p.1 ≠ kS) (k : ∀ b u, b ≠ a → b ≠ kS → s.heap.get? b = some u → h'.get? b = some u)
    (ho : h'.get? a = some (seqObj "list" out.toArray c)) (r : Vals zs out) (hz : zs.length ≤ sizeLine) : Inv X pins σ (upd H a (.lst zs)) { s with heap := h', toks := t' } := by
  obtain ⟨ek, nk, kl, kf, _⟩ := I.pin (kS, ok) (List.mem_append_right _ List.mem_cons_self)
  obtain ⟨ea, na, al, af, _⟩ := I.pin (a, oa) (List.mem_append_right _ (List.mem_cons_of_mem _ List.mem_cons_self))
  have ek : s.heap.get? kS = some ok := ek
  have ea : s.heap.get? a = some oa := ea
  have nk : H kS = none := nk
  have na : H a = none := na
  have I1 : Inv X pins σ H s := I.pins_of fun r hr => I.pin r (List.mem_append_right _ (List.mem_cons_of_mem _ (List.mem_cons_of_mem _ hr)))
  have nit : ∀ b u, H b = some u → b ≠ a ∧ b ≠ kS := fun b u e => ⟨fun z => (by rw [z, na] at e; cases e), fun z => (by rw [z, nk] at e; cases e)⟩
  have kc : ∀ b o, b ∉ [a, kS] → s.heap.get? b = some o → h'.get? b = some o := fun b o hb e => k b o (fun z => hb (by simp [z])) (fun z => hb (by simp [z])) e
  refine I1.step (g' := s.gens) (d' := s.drawn) (ch := [a, kS]) (fun b hb => ?_) (fun b o _ _ hb e _ => kc b o hb e) (fun b o _ _ hb e _ => ⟨o.slots, kc b o hb e⟩) (fun b o hb e n => ?_) (fun b o hb e => ⟨o, kc b o hb e⟩) (fun b xs e => ?_) (fun b o u e => ?_) (fun b ps e => ⟨#[], ?_⟩) (fun m hm => ?_) (fun b u e => ?_) I1.bare
  · rcases List.mem_cons.mp hb with z | z
    · rw [z]
      exact ⟨.inr ha, al, fun x c e => (hca x c e).1, fun p hm => (hp p hm).1⟩
    · have z : b = kS := by simpa using z
      rw [z]
      exact ⟨.inr hk, kl, fun x c e => (hca x c e).2, fun p hm => (hp p hm).2⟩
  · rw [upd_ne (fun z => hb (by simp [z]))]
    exact n
  · rw [upd_ne (nit b _ e).1]
    exact e
  · rw [upd_ne (nit b _ e).1]
    exact e
  · rw [upd_ne (nit b _ e).1, e]
    simp
  · obtain ⟨o, es, ep, ho, r⟩ := hm
    exact ⟨o, es, ep, k _ o (Ne.symm al) (Ne.symm kl) ho, r⟩
  · by_cases hb : b = a
    · rw [hb, upd_same] at e
      cases e
      rw [hb]
      exact ⟨hz, out, c, r, ho⟩
    · rw [upd_ne hb] at e
      refine (I1.hok b u e).stay (fun d v hd q => ?_) (fun d q => by rw [upd_ne (nit d _ q).1]; exact q) fun d xs q => by rw [upd_ne (nit d _ q).1]; exact q
      rcases hd with z | z
      · rw [z] at q ⊢
        exact k b v (nit b u e).1 (nit b u e).2 q
      · exact k d v (nit d _ z).1 (nit d _ z).2 q
end
section
variable {X : Cx} {pins : List (Addr × Obj)} {σ : L2.St} {H : Hp} {s : Shared}
theorem SortsAt_data_of {prog : Program} {w : World} {A : Around} {s : Shared} {vs : List Value} {ds : List PyData} (e : PySem.W.EachIs (fun v d => ∃ as, Reads s.heap v d as) vs ds) (hal : PySem.W.AllAlike ds) (hk : PySem.W.Sortable ds) (hu : ∀ d, d ∈ ds → A.units + d.depth < cLine) :
    PySem.W.SortsAt prog w A s (PySem.W.dataKind s.heap ds) vs := PySem.W.SortsAt.data e hal hk hu
/-- the items in the order of their keys -/
noncomputable def byKey (xs : List V) (ds : List PyData) : List V := ((xs.zip ds).mergeSort (PySem.W.dataLe false Prod.snd)).map Prod.fst
theorem zip_each : ∀ {xs : List V} {its : List Value} (ds : List PyData), Vals xs its → ds.length = xs.length → PySem.W.EachIs (fun (u : Value) (b : V × PyData) => RelV b.1 u) its (xs.zip ds)
  | [], _, ds, h, _ => by cases h; exact .nil
  | x :: xs, _, [], h, e => by cases e
  | x :: xs, _, d :: ds, h, e => by
    cases h with
    | cons h1 h2 => exact .cons h1 (zip_each ds h2 (by simpa using e))
theorem each_vals : ∀ {bs : List (V × PyData)} {us : List Value}, PySem.W.EachIs (fun (u : Value) (b : V × PyData) => RelV b.1 u) us bs → Vals (bs.map Prod.fst) us
  | _, _, .nil => .nil
  | _, _, .cons h t => .cons h (each_vals t)
theorem zip_snd : ∀ (xs : List V) (ds : List PyData), ds.length = xs.length → (xs.zip ds).map Prod.snd = ds
  | [], ds, h => by
    cases ds with
    | nil => rfl
    | cons d ds => cases h
  | x :: xs, [], h => by cases h
  | x :: xs, d :: ds, h => by
    show d :: (xs.zip ds).map Prod.snd = d :: ds
    rw [zip_snd xs ds (by simpa using h)]
theorem vals_snoc {vs : List V} {us : List Value} {v : V} {u : Value} (r : Vals vs us) (q : RelV v u) : Vals (vs ++ [v]) (us ++ [u]) := by
  induction r with
  | nil => exact .cons q .nil
  | cons h _ ih => exact .cons h ih
/-- the sort by a key of the list at a, which is new since s0 -/
theorem sort_body {s0 : Shared} {H0 : Hp} {a f : Addr} {fo : Obj} {xs : List V} {its : List Value} {ds : List PyData} {P0 : Hp → Prop} {Q : VK} {E' : Value → Shared → Prop} (I0 : Inv X pins σ H0 s0) (h0a : s0.heap.objs.size ≤ a) (hf0 : ∃ o, s0.heap.get? f = some o) (I : Inv X pins σ H s) (rv : Vals xs its) (hz : xs.length ≤ sizeLine)
    (ho : s.heap.get? a = some (seqObj "list" its.toArray 0)) (hna : H a = none) (hf : s.heap.get? f = some fo) (hfn : H f = none) (hfr : f ≠ X.env.locals ∧ f ∉ X.fs) (hfc : ∀ v, fo.data ≠ .cell v)
    (hal : PySem.W.AllAlike ds) (hk : PySem.W.Sortable ds) (hlen : ds.length = xs.length) (hu : ∀ d, d ∈ ds → X.A.units + 2 + d.depth < cLine) (p0 : P0 H)
    (turn : ∀ (i : Nat) (v : V) (u : Value) (d : PyData) (s' : Shared) (H' : Hp), xs[i]? = some v → ds[i]? = some d → RelV v u → Env0 X.prog X.w X.K X.mg X.base X.A.in1.in1 X.stack s' H' → s'.heap.get? f = some fo → Ext H H' → P0 H' →
      wpAny (model X.prog X.w) X.A.in1.in1 (call (.ref f) [u]) (CE X.stack X.prog X.w H' s' (fun kv H'' => Dp X.K H'' kv d ∧ Ext H' H'' ∧ P0 H'')) (fun _ _ => False) s')
    (q : ∀ (H' : Hp), Ext H H' → P0 H' → H' a = none → Q (.ref a) (upd H' a (.lst (byKey xs ds)))) :
    wpAny (model X.prog X.w) X.A.in1.in1 (Builtin.«list.sort» ⟨[.ref a], [(Str.ofString "key", .ref f)]⟩) (fun f s' => f = .done (.ret .none) ∧ EP X pins σ Q (.ref a) s') E' s := by
  have hzi : its.length ≤ sizeLine := by rw [← rv.length]; exact hz
  have hil : its.length = xs.length := rv.length.symm
  rw [PyProof.Rows.ksk_t1]
  have ha : @LT.lt Nat _ a s.heap.objs.size := Heap.lt_size ho
  obtain ⟨e1, ho1⟩ : ∃ e1, (s.heap.update a (Obj.mapSeq fun _ => (#[] : Array Value))).get? a = some (seqObj "list" #[] e1) := ⟨_, get?_update_seq ho fun _ => #[]⟩
  unfold PyProof.Rows.ksk_tree
  refine wpAny_bind (listItems_at ho rfl ?_)
  refine wpAny_bind (listUpdate_at ho rfl ?_ (by rw [List.size_toArray]; exact hzi) (Nat.zero_le _))
  refine wpAny_bind (seqEpoch_at ho1 rfl ?_)
  refine wpAny_bind (wpAny_newTuple ?_ (by show its.length ≤ _; exact hzi))
  refine wpAny_bind (wpAny_newList ?_ (Nat.zero_le _))
  refine wpAny_holding ?_
  have hkS : (s.heap.update a (Obj.mapSeq fun _ => (#[] : Array Value))).objs.size = s.heap.objs.size := Heap.size_update _ _ _
  generalize hks : ((s.heap.update a (Obj.mapSeq fun _ => (#[] : Array Value))).push (seqObj "tuple" its.toArray 0)).objs.size = kS
  have hka : @LT.lt Nat _ a kS := by
    rw [← hks, size_push', hkS]
    omega
  have hsk0 : s.heap.objs.size < kS := by rw [← hks, size_push', hkS]; exact Nat.lt_succ_self _
  generalize hg : (((s.heap.update a (Obj.mapSeq fun _ => (#[] : Array Value))).push (seqObj "tuple" its.toArray 0)).push (seqObj "list" #[] 0)) = h₂
  have g1 : h₂.get? kS = some (seqObj "list" #[] 0) := by rw [← hg, ← hks]; exact Heap.get?_push_size _ rfl
  have g2 : h₂.get? a = some (seqObj "list" #[] e1) := by rw [← hg]; exact Heap.get?_push_of_some _ (Heap.get?_push_of_some _ ho1)
  have g3 : ∀ b o, b ≠ a → s.heap.get? b = some o → h₂.get? b = some o := fun b o hb e => by
    rw [← hg]
    refine Heap.get?_push_of_some _ (Heap.get?_push_of_some _ ?_)
    rw [Heap.get?_update_ne _ _ _ _ hb]
    exact e
  have hcl : ∀ x c, X.env.cells.lookup x = some c → @LT.lt Nat _ c s0.heap.objs.size := fun x c e => by
    obtain ⟨v, o, z, _⟩ := I0.cell x c e
    exact Heap.lt_size z
  have hpl : ∀ p ∈ X.pn ++ pins, @LT.lt Nat _ p.1 s0.heap.objs.size := fun p hp => Heap.lt_size (I0.pin p hp).1
  have hfl : @LT.lt Nat _ f s0.heap.objs.size := Heap.lt_size hf0.choose_spec
  have hsz : X.s_0.heap.objs.size ≤ s0.heap.objs.size := I0.sz
  have hll : @LT.lt Nat _ X.env.locals s0.heap.objs.size := I0.lt
  have hcS : ∀ x c, X.env.cells.lookup x = some c → c ≠ a ∧ c ≠ kS := fun x c e => by
    have := hcl x c e
    exact ⟨Nat.ne_of_lt (by omega), Nat.ne_of_lt (by omega)⟩
  have hpS : ∀ p ∈ X.pn ++ ((f, fo) :: pins), p.1 ≠ a ∧ p.1 ≠ kS := fun p hp => by
    have : @LT.lt Nat _ p.1 s0.heap.objs.size := by
      rcases List.mem_append.mp hp with z | z
      · exact hpl p (List.mem_append_left _ z)
      · rcases List.mem_cons.mp z with z | z
        · rw [z]
          exact hfl
        · exact hpl p (List.mem_append_right _ z)
    exact ⟨Nat.ne_of_lt (by omega), Nat.ne_of_lt (by omega)⟩
  have J0 : Inv X pins σ H { s with heap := h₂ } := I.turned (it := a) (t' := s.toks) g3 hna (Nat.ne_of_gt (by omega)) (.inr (by omega)) (fun x c e => (hcS x c e).1) (fun p hp => (hpS p (by
    rcases List.mem_append.mp hp with z | z
    · exact List.mem_append_left _ z
    · exact List.mem_append_right _ (List.mem_cons_of_mem _ z))).1)
  have J1 : Inv X ((kS, seqObj "list" #[] 0) :: (a, seqObj "list" #[] e1) :: (f, fo) :: pins) σ H { s with heap := h₂ } := by
    refine J0.pins_of fun p hp => ?_
    rcases List.mem_cons.mp hp with z | hp
    · rw [z]
      exact ⟨g1, I.hok.fresh (Nat.le_of_lt hsk0), Nat.ne_of_gt (by omega), I.nofs (Nat.le_of_lt hsk0), fun v z => by cases z⟩
    rcases List.mem_cons.mp hp with z | hp
    · rw [z]
      exact ⟨g2, hna, Nat.ne_of_gt (by omega), I0.nofs h0a, fun v z => by cases z⟩
    rcases List.mem_cons.mp hp with z | hp
    · rw [z]
      exact ⟨g3 _ _ (Nat.ne_of_lt (by omega)) hf, hfn, hfr.1, hfr.2, hfc⟩
    · exact J0.pin p (List.mem_append_right _ hp)
  unfold PyProof.Rows.ksk_rest
  refine wpAny_bind (wpAny_rule ?_)
  rw [List.forIn_toArray]
  refine wpAny_bind (ksk_fold (fun i s' => ∃ H' kA e kvs, Inv X ((kS, seqObj "list" kA e) :: (a, seqObj "list" #[] e1) :: (f, fo) :: pins) σ H' s' ∧ Ext H H' ∧ P0 H' ∧ Vals kvs kA.toList ∧ DpAll X.K H' kvs (ds.take i)) its 0 _
    ⟨H, #[], 0, [], J1, Ext.rfl', p0, .nil, by rw [List.take_zero]; exact .nil⟩ ?step ?done)
  case step =>
    rintro j u s' hx ⟨H', kA, e, kvs, J, eH, hp0, rk, hD⟩
    simp only [Nat.zero_add] at hD ⊢
    have hj : j < its.length := (List.getElem?_eq_some_iff.mp hx).1
    obtain ⟨d, hdj⟩ : ∃ d, ds[j]? = some d := ⟨_, List.getElem?_eq_getElem (by omega)⟩
    obtain ⟨v, hvj⟩ : ∃ v, xs[j]? = some v := ⟨_, List.getElem?_eq_getElem (by omega)⟩
    have ruv : RelV v u := by
      obtain ⟨u2, h1, h2⟩ := rv.get hvj
      rw [hx] at h1
      rw [Option.some.inj h1]
      exact h2
    have hfs : s'.heap.get? f = some fo := (J.pin (f, fo) (List.mem_append_right _ (List.mem_cons_of_mem _ (List.mem_cons_of_mem _ List.mem_cons_self)))).1
    refine wpAny_bind (wpAny_attempt (wpAny_mono (turn j v u d s' H' hvj hdj ruv J.env0.in1.in1 hfs eH hp0) (fun w s'' he => ?_) fun _ _ hF => hF.elim))
    obtain ⟨kv, H'', J2, rw_, hd2, e2, p2⟩ := J.after he
    try dsimp only
    have n1 : s''.heap.get? kS = some (seqObj "list" kA e) := (J2.pin _ (List.mem_append_right _ List.mem_cons_self)).1
    obtain ⟨c2, hc2⟩ : ∃ c2, (s''.heap.update kS (Obj.mapSeq (·.push w))).get? kS = some (seqObj "list" (kA.push w) c2) := ⟨_, get?_update_seq n1 (·.push w)⟩
    have hlk : kA.size ≤ its.length := by
      have h1 : kvs.length = kA.size := by rw [← Array.length_toList]; exact rk.length
      have h2 : kvs.length = (ds.take j).length := dpAll_len _ _ hD
      rw [List.length_take] at h2
      omega
    refine wpAny_bind (listUpdate_at n1 rfl ?_ (Nat.le_trans hlk hzi) (Nat.le_trans (Nat.le_of_eq (Array.size_push ..)) (Nat.succ_le_succ (Nat.le_trans hlk hzi))))
    have s1 := Heap.SameBut.update s''.heap kS (Obj.mapSeq (·.push w))
    have ek : ds.take (j + 1) = ds.take j ++ [d] := by rw [List.take_add_one, hdj]; simp
    refine wpAny_pure ⟨rfl, H'', kA.push w, c2, kvs ++ [kv], ?_, eH.trans e2, p2, by rw [Array.toList_push]; exact vals_snoc rk rw_, by rw [ek]; exact DpAll.snoc (dpAll_ext e2 _ _ hD) hd2⟩
    exact turnedPin (t' := s''.toks) J2 (by omega) (fun x c e => (hcS x c e).2) (fun p hp => by
      rcases List.mem_append.mp hp with z | z
      · exact (hpS p (List.mem_append_left _ z)).2
      · rcases List.mem_cons.mp z with z | z
        · rw [z]
          exact Nat.ne_of_lt hka
        · exact (hpS p (List.mem_append_right _ z)).2) (fun b o hb e => (s1.2 b hb).trans e) hc2 (fun v z => by cases z)
  case done =>
    rintro s' ⟨H', kA, e, kvs, J, eH, hp0, rk, hD⟩
    have e3 : ds.take (0 + its.length) = ds := List.take_of_length_le (by omega)
    rw [e3] at hD
    have n1 : s'.heap.get? kS = some (seqObj "list" kA e) := (J.pin _ (List.mem_append_right _ List.mem_cons_self)).1
    have n2 : s'.heap.get? a = some (seqObj "list" #[] e1) := (J.pin (a, seqObj "list" #[] e1) (List.mem_append_right _ (List.mem_cons_of_mem _ List.mem_cons_self))).1
    have m2 : H' a = none := (J.pin (a, seqObj "list" #[] e1) (List.mem_append_right _ (List.mem_cons_of_mem _ List.mem_cons_self))).2.1
    have hE := dp_each J hD rk
    have hsz2 : kA.size = its.length := by
      have h1 := rk.length
      have h2 := hE.length
      rw [Array.length_toList] at h1 h2
      omega
    try dsimp only
    refine wpAny_bind (listItems_at n1 rfl ?_)
    obtain ⟨G, G1, G2⟩ := restrict s'.heap fun b => decide (b ≠ kS)
    have gk : ∀ b o, b ≠ kS → s'.heap.get? b = some o → G.get? b = some o := fun b o hb e => by
      rw [G1 b (decide_eq_true hb)]
      exact e
    have ga : G.get? kS = none := G2 kS (decide_eq_false fun z => z rfl)
    have gs : PySem.W.KeepsBut a G s'.heap := fun b o _ e => by
      by_cases hb : b = kS
      · rw [hb, ga] at e
        cases e
      · rw [← G1 b (decide_eq_true hb)]
        exact e
    have hcs := SortsAt_data_of (A := X.A.in1.in1) (prog := X.prog) (w := X.w) hE hal hk (fun d hd => by have := hu d hd; show X.A.units + 1 + 1 + d.depth < _; omega)
    refine PySem.W.keyH_end (κ := PySem.W.dataKind s'.heap ds) (h₁ := G) (vs := its) gs ga n1 n2 (Nat.ne_of_gt hka) hcs hsz2 hzi fun h3 tk3 c k3 n3 => ⟨rfl, ?_⟩
    have hzip := zip_each ds rv hlen
    have ko : PySem.W.KeyedOut false ((xs.zip ds).map Prod.snd) its (PySem.W.sortVals (PySem.W.dataKind s'.heap ds) false kA.toList its) := by
      rw [zip_snd xs ds hlen]
      exact ⟨s'.heap, kA.toList, hal, rfl, hE⟩
    have hout := each_vals (PySem.W.keyedOut_each Prod.snd ko hzip)
    have hlz : (byKey xs ds).length ≤ sizeLine := by
      show (List.map _ _).length ≤ _
      rw [List.length_map, List.length_mergeSort, List.length_zip]
      omega
    exact ⟨.ref a, upd H' a (.lst (byKey xs ds)), laidEnd (X := X) (pins := pins) (t' := tk3) (J.pins_of fun p hp => J.pin p (List.mem_append_right _ (by
        rcases List.mem_cons.mp hp with z | hp
        · rw [z]
          exact List.mem_cons_self
        rcases List.mem_cons.mp hp with z | hp
        · rw [z]
          exact List.mem_cons_of_mem _ List.mem_cons_self
        · exact List.mem_cons_of_mem _ (List.mem_cons_of_mem _ (List.mem_cons_of_mem _ hp))))) (Nat.ne_of_gt hka) (by omega) (by omega) hcS (fun p hp => by
          rcases List.mem_append.mp hp with z | z
          · exact hpS p (List.mem_append_left _ z)
          · exact hpS p (List.mem_append_right _ (List.mem_cons_of_mem _ z))) (fun b u h1 h2 e => k3 b u h1 (gk b u h2 e)) n3 hout hlz, rfl, q H' eH hp0 m2⟩
/-- sorted(xs, key=f): f is an object of ours, each of its calls is told -/
theorem sorted_run {l f : Addr} {fo : Obj} {xs : List V} {ds : List PyData} {P0 : Hp → Prop} {Q : VK} (I : Inv X pins σ H s) (hs : SqL X.K H l xs) (hf : s.heap.get? f = some fo) (hfn : H f = none) (hfr : f ≠ X.env.locals ∧ f ∉ X.fs) (hfc : ∀ v, fo.data ≠ .cell v)
    (hal : PySem.W.AllAlike ds) (hk : PySem.W.Sortable ds) (hlen : ds.length = xs.length) (hu : ∀ d, d ∈ ds → X.A.units + 2 + d.depth < cLine) (p0 : P0 H)
    (turn : ∀ (i : Nat) (v : V) (u : Value) (d : PyData) (s' : Shared) (H' : Hp), xs[i]? = some v → ds[i]? = some d → RelV v u → Env0 X.prog X.w X.K X.mg X.base X.A.in1.in1 X.stack s' H' → s'.heap.get? f = some fo → Ext H H' → P0 H' →
      wpAny (model X.prog X.w) X.A.in1.in1 (call (.ref f) [u]) (CE X.stack X.prog X.w H' s' (fun kv H'' => Dp X.K H'' kv d ∧ Ext H' H'' ∧ P0 H'')) (fun _ _ => False) s')
    (q : ∀ (H' : Hp) (p : Addr), Ext H H' → P0 H' → H' p = none → Q (.ref p) (upd H' p (.lst (byKey xs ds)))) :
    wpAny (model X.prog X.w) X.A (call (.builtin "sorted") [.ref l] [(Str.ofString "key", .ref f)]) (EP X pins σ Q) X.xe s := by
  obtain ⟨its, rv, hl, hz⟩ := I.list hs
  have hzi : its.length ≤ sizeLine := by rw [← rv.length]; exact hz
  have hil : its.length = xs.length := rv.length.symm
  refine PySem.W.sorted_of_sort hl.isList hzi (PyProof.Rows.ksk_s1 _ _) (fun _ => PyProof.Rows.ksk_l1 _ _) fun E' => ?_
  have hfl : @LT.lt Nat _ f s.heap.objs.size := Heap.lt_size hf
  exact sort_body (s := { s with heap := PySem.W.copyHeap s.heap its }) I (Nat.le_succ _) ⟨_, hf⟩ (I.kept (t' := s.toks) fun b o e => PySem.W.copyHeap_old e) rv hz (PySem.W.copyHeap_at s.heap its) (I.hok.fresh (Nat.le_succ _)) (PySem.W.copyHeap_old hf) hfn hfr hfc hal hk hlen hu p0 turn fun H' e1 e2 e3 => q H' _ e1 e2 e3
end
theorem sqL_extN {K : PySem.W.Frag} {H H' : Hp} {a : Addr} {xs : List V} (h : SqL K H a xs) (e : ExtN H H') : SqL K H' a xs :=
  h.elim (fun h => .inl (h.elim (fun h => .inl (e _ _ h fun _ z => nomatch z)) fun ⟨o, h⟩ => .inr ⟨o, e _ _ h fun _ z => nomatch z⟩)) fun h => .inr h
def one (R : V → Hp → Prop) : List V → Hp → Prop := fun vs H => match vs with
  | [v] => R v H
  | _ => False
theorem rel_ref {a : Addr} {u : Value} (r : RelV (.ref a) u) : u = .ref a := r
/-- sorted(xs, key=lambda x: body): the reading -/
def tSortL (K : PySem.W.Frag) (T : List (Addr × Str)) (Nl : List Str) (tb : TE) (t : TE) : TE := fun σ H Q => t σ H fun v H1 => ∃ (l : Addr) (xs : List V) (ds : List PyData) (P0 : Hp → Prop), v = .ref l ∧ SqL K H1 l xs ∧ PySem.W.AllAlike ds ∧ PySem.W.Sortable ds ∧ ds.length = xs.length ∧ (∀ d, d ∈ ds → d.depth ≤ 50) ∧ Tabs T H1 ∧
  ∀ H2, ExtN H1 H2 → Tabs T H2 → P0 H2 ∧ (∀ (i : Nat) (v : V) (d : PyData) (H' : Hp), xs[i]? = some v → ds[i]? = some d → Ext H2 H' → P0 H' → tb (L2.start Nl [v]) H' fun kv H'' => Dp K H'' kv d ∧ Ext H' H'' ∧ P0 H'') ∧
    ∀ (H' : Hp) (p : Addr), Ext H2 H' → P0 H' → H' p = none → Q (.ref p) (upd H' p (.lst (byKey xs ds)))
section
variable {X : Cx}
theorem pe_sortLam {T : List (Addr × Str)} {c P : Addr} {k : Nat} {y : Str} {e body : Expr} {params : Arguments} {scope : Scope} {p kpos lpos pos : Pos} {Nl : List Str} {t tb : TE} (hg : Gl X "sorted") (hm : X.mg "sorted" = none) (hv : bootBuiltins "sorted" = some (.builtin "sorted")) (ha : PA X [e] (tCons t tNil))
    (hfs : ∀ b, b ∉ frs X.stack → b ≠ X.env.locals ∧ b ∉ X.fs) (TB : TabB X.base X.mg c P) (hcode : X.env.code = .ref c) (hmT : (P, X.env.qual ++ "<lambda>") ∈ T) (hu : ∀ p ∈ T, p.1 = P → p.2 = X.env.qual ++ "<lambda>") (hr : Room (k + 3) X.A) (S : FnScope Nl [y] scope)
    (hdef : defaultsOf params X.env = ([], [])) (hcl : cloFrom X.env.cells scope.names [] = []) (hbind : ∀ (q : Str) (pm cv ctv u : Value), bindArgs (PySem.W.kla_fn "<lambda>" q params body scope [] pm cv ctv) ⟨[u], []⟩ = pure ([y].zip [u]))
    (hbody : ∀ (A : Around) (outer : List Env) (s : Shared) (H : Hp) (f c' : Addr), Room k (A.deeper (envOfC (X.env.qual ++ "<lambda>") scope s.heap.objs.size f (.ref c'))) →
      PE (cxOf C8.CX0 X.prog X.w X.K X.mg X.base Nl (X.env.qual ++ "<lambda>") scope f (.ref c') A outer s H C8.E0) body tb)
    (he : backTo pos (starEach [e] X.env) = (false, eval e X.env) :: backTo pos (starEach [] X.env) := by rfl) (hpl : (backTo pos (starEach [e] X.env)).any (·.1) = false := by rfl) :
    PE X (.Call (.Name "sorted" p) [e] [⟨some (Str.ofString "key"), .Lambda params body scope lpos, kpos⟩] pos) (tSortL X.K T Nl tb t) := by
  refine ⟨fun pins s σ H Q I h => ?_⟩
  refine wpAny_Call_Name_kw (ld_blt I hg hm hv ?_ (by decide) (by decide))
  refine PyProof.Rows.callWith_kw (thn (ha.run pos pins s σ H (one _) I h) fun us s1 ⟨vs, H1, I1, r1, q1⟩ => ?_) he hpl
  match vs, r1, q1 with
  | [v], .cons r1 .nil, q1 =>
    obtain ⟨l, xs, ds, P0, rfl, hs, hal, hk, hlen, hdp, hT, q⟩ := q1
    obtain rfl := rel_ref r1
    show wpAny _ _ (evalAll [(do let v ← eval (.Lambda params body scope lpos) X.env; standAt pos; pure v)]) _ _ s1
    refine wpAny_evalAll_cons (wpAny_bind (lam_make2 I1 TB hcode hmT hu hT hdef (fun y hy e => ?_) fun f c' pm' ctv H2 s' I2 eN T1 hf hfn hfr hco => wpAny_bind (wpAny_standAt (wpAny_pure (wpAny_evalAll_nil ?_)))))
    · exact absurd e (S.nofree y hy)
    rw [hcl] at hf
    obtain ⟨p0, turn, q⟩ := q H2 eN T1
    show wpAny _ _ (call (.builtin "sorted") [.ref l] [(Str.ofString "key", .ref f)]) _ _ _
    refine sorted_run (P0 := P0) I2 (sqL_extN hs eN) hf hfn (hfs f hfr) (fun v z => by cases z) hal hk hlen (fun d hd => ?_) p0 (fun i v u d s2 H' hv hd ru e0 hf2 eH hp => ?_) q
    · have h1 := hr.un
      have h2 := hdp d hd
      omega
    · have hco2 : H' c' = some (CodeO c' (X.env.qual ++ "<lambda>")) := eH _ _ hco
      have rc := lam_run (Q := fun kv H'' => Dp X.K H'' kv d ∧ Ext H' H'' ∧ P0 H'') (E := C8.E0) (CX := C8.CX0) (us := [u]) (vs := [v]) (k := k) S hr.in1.in1 e0 hf2 hco2 (hbind _ _ _ _ _) (.cons ru .nil) rfl fun hr2 => ⟨tb, hbody _ _ _ _ _ _ hr2, turn i v d H' hv hd eH hp⟩
      refine wpAny_call (codeAny_mono rc fun r s3 hq => ?_)
      cases r with
      | error e => exact (show False from hq).elim
      | ok fl =>
        cases fl with
        | ret u => exact hq
        | next => exact False.elim hq
        | brk => exact False.elim hq
        | cont => exact False.elim hq
end
/-! ## sorted(d.items(), key=lambda x: body) -/
section
variable {X : Cx} {pins : List (Addr × Obj)} {σ : L2.St} {H : Hp} {s : Shared}
theorem pairs_laid {h' : Heap} {tk : Nat} {kvs : List (Key × V)} {vs : List (Key × Value)} {as : List Addr} (I : Inv X pins σ H s) (kv : KV kvs vs) (hk : ∀ b o, s.heap.get? b = some o → h'.get? b = some o) (hl : as.length = vs.length) (hG : PySem.W.KdxG (mixKind X.prog X.w) vs s.heap.objs.size h' as) :
    ∃ H' : Hp, Ext H H' ∧ (∀ t ∈ as, H t = none ∧ s.heap.objs.size < t) ∧ (∀ b, b ∉ as → H' b = H b) ∧ Paired (fun (t : Addr) (q : Key × V) => H' t = some (.tup [kV q.1, q.2])) as kvs ∧ Inv X pins σ H' { s with heap := h', toks := tk } := by
  have lk : kvs.length = vs.length := Paired.length kv
  have nd : as.Nodup := List.Pairwise.imp (fun {a b} (h : a < b) => Nat.ne_of_lt h) hG.rise
  have new : ∀ t ∈ as, H t = none := fun t ht => I.hok.fresh (Nat.le_of_lt (hG.above t ht))
  have atP := LiI.putT_at as kvs H (by omega) nd
  have off : ∀ b, b ∉ as → LiI.putT H as kvs b = H b := fun b h1 => LiI.putT_off as kvs _ h1
  have low : ∀ b o, s.heap.get? b = some o → b ∉ as := fun b o e z => absurd (Heap.lt_size e) (Nat.not_lt.mpr (Nat.le_of_lt (hG.above b z)))
  have kp : ∀ b u, H b = some u → (LiI.putT H as kvs) b = some u := fun b u e => by
    rw [off b (fun z => by rw [new b z] at e; cases e)]
    exact e
  refine ⟨LiI.putT H as kvs, kp, fun t ht => ⟨new t ht, hG.above t ht⟩, off, atP, ?_⟩
  refine I.call' (ch := []) rfl ⟨fun b o q _ _ _ => hk b o q, fun b o q _ _ _ => ⟨o.slots, hk b o q⟩, fun b o q n _ => ?_, fun b o q _ => ⟨o, hk b o q⟩, fun b xs q => kp b _ q, fun b o u q => kp b _ q, fun b ps q => ⟨#[], by rw [kp b _ q]; simp⟩⟩ (fun b u q => ?_) I.bare fun b z => by simp at z
  · rw [off b (low b o q)]
    exact n
  · by_cases hb : b ∈ as
    · obtain ⟨j, pk, e1, e2, e3⟩ := LiI.paired_ix atP hb
      rw [e3] at q
      cases q
      obtain ⟨key, k, x, f1, f2, f3⟩ := hG.pairs j b e1
      obtain ⟨qv, g1, g2, g3⟩ := LiI.paired_get kv e2
      rw [f1] at g1
      cases g1
      have rk : RelV (kV pk.1) key := by
        rw [g2]
        exact relV_key (show keyIs k key = true from f2)
      exact ⟨by show 2 ≤ sizeLine; decide, [key, x], .cons rk (.cons g3 .nil), ⟨_, f3, rfl, _, rfl⟩⟩
    · rw [off b hb] at q
      exact (I.hok b u q).stay (fun d v _ y => hk d v y) (fun d y => kp d _ y) fun d xs y => kp d _ y
/-- sorted(v, key=f), v the view of a dict's items -/
theorem sorted_runI {r d f : Addr} {fo : Obj} {kvs : List (Key × V)} {ds : List PyData} {P0 : List Addr → Hp → Prop} {Q : VK} (hc : X.calm = true) (I : Inv X pins σ H s) (hd : H d = some (.dK kvs)) (hr : s.heap.IsItemsView r d) (hf : s.heap.get? f = some fo) (hfn : H f = none) (hfr : f ≠ X.env.locals ∧ f ∉ X.fs) (hfc : ∀ v, fo.data ≠ .cell v)
    (hal : PySem.W.AllAlike ds) (hk : PySem.W.Sortable ds) (hlen : ds.length = kvs.length) (hu : ∀ d, d ∈ ds → X.A.units + 2 + d.depth < cLine)
    (h : ∀ (H2 : Hp) (ts : List Addr), Ext H H2 → (∀ t ∈ ts, H t = none) → Paired (fun (t : Addr) (q : Key × V) => H2 t = some (.tup [kV q.1, q.2])) ts kvs → P0 ts H2 ∧
      (∀ (i : Nat) (v : V) (u : Value) (d : PyData) (s' : Shared) (H' : Hp), (ts.map V.ref)[i]? = some v → ds[i]? = some d → RelV v u → Env0 X.prog X.w X.K X.mg X.base X.A.in1.in1 X.stack s' H' → s'.heap.get? f = some fo → Ext H2 H' → P0 ts H' →
        wpAny (model X.prog X.w) X.A.in1.in1 (call (.ref f) [u]) (CE X.stack X.prog X.w H' s' (fun kv H'' => Dp X.K H'' kv d ∧ Ext H' H'' ∧ P0 ts H'')) (fun _ _ => False) s') ∧
      ∀ (H' : Hp) (p : Addr), Ext H2 H' → P0 ts H' → H' p = none → Q (.ref p) (upd H' p (.lst (byKey (ts.map V.ref) ds)))) :
    wpAny (model X.prog X.w) X.A (call (.builtin "sorted") [.ref r] [(Str.ofString "key", .ref f)]) (EP X pins σ Q) X.xe s := by
  obtain ⟨hz, hs0, vs, kv, hdo⟩ := I.hok d _ hd
  obtain ⟨ep, hat⟩ := hdo.dictAt
  have lk : kvs.length = vs.length := Paired.length kv
  refine PyProof.Rows.call_function_entry_kw PyProof.Rows.kind_sorted PyProof.Rows.plain_sorted PyProof.Rows.entry_sorted (PyProof.Rows.ksk_s1 _ _) ?_
  unfold Builtin.«sorted»
  refine wpAny_bind (m := checkCount "sorted" 1 1 _) (wpAny_pure ?_)
  refine wpAny_bind (PySem.W.kdx_collect (knd := mixKind X.prog X.w) (kvs := vs) (ep := ep) (I.ok.hd hc) hr hat (by omega) fun h' tk as hkp hl hG => ?_)
  obtain ⟨H2, e2, hn2, hoff, hP, J⟩ := pairs_laid (tk := tk) I kv hkp hl hG
  have hla : (as.map Value.ref).length ≤ sizeLine := by rw [List.length_map]; omega
  refine wpAny_bind (wpAny_newList ?_ hla)
  obtain ⟨p0, turn, q⟩ := h H2 as e2 (fun t ht => (hn2 t ht).1) hP
  have hkk : ∀ b o, h'.get? b = some o → (h'.push (seqObj "list" (as.map Value.ref).toArray 0)).get? b = some o := fun b o e => Heap.get?_push_of_some _ e
  have hfn2 : H2 f = none := by
    rw [hoff f fun z => Nat.lt_irrefl _ (Nat.lt_trans (hn2 f z).2 (Heap.lt_size hf))]
    exact hfn
  refine wpAny_bind (wpAny_holding (wpAny_call_entry_kw slot_list_sort ⟨_, Heap.get?_push_size _ rfl, rfl⟩ entry_list_sort ?body (PyProof.Rows.ksk_l1 _ _)))
  case body =>
    refine wpAny_mono (sort_body (s := { s with heap := h'.push (seqObj "list" (as.map Value.ref).toArray 0), toks := tk }) (xs := as.map V.ref) (its := as.map Value.ref) (ds := ds) (Q := Q) (E' := fun _ _ => False) J (Nat.le_refl _) ⟨_, hkp _ _ hf⟩ (J.kept (t' := tk) hkk) (LiI.vals_refs as) (by rw [List.length_map]; omega) (Heap.get?_push_size _ rfl) (J.hok.fresh (Nat.le_refl _)) (hkk _ _ (hkp _ _ hf)) hfn2 hfr hfc hal hk (by rw [List.length_map]; omega) hu p0 turn fun H' a1 a2 a3 => q H' _ a1 a2 a3) (fun f s' hf => ?_) fun _ _ e => e.elim
    obtain ⟨rfl, hq⟩ := hf
    exact ⟨_, rfl, wpAny_pure ⟨_, rfl, hq⟩⟩
end
/-- sorted(e.items(), key=lambda x: body): the reading -/
def tSortI (K : PySem.W.Frag) (T : List (Addr × Str)) (Nl : List Str) (tb : TE) (te : TE) : TE := fun σ H Q => te σ H fun v H1 => ∃ (d : Addr) (kvs : List (Key × V)) (ds : List PyData) (P0 : List Addr → Hp → Prop), v = .ref d ∧ H1 d = some (.dK kvs) ∧ PySem.W.AllAlike ds ∧ PySem.W.Sortable ds ∧ ds.length = kvs.length ∧ (∀ d, d ∈ ds → d.depth ≤ 50) ∧ Tabs T H1 ∧
  ∀ (H2 : Hp) (ts : List Addr), ExtN H1 H2 → Tabs T H2 → Paired (fun (t : Addr) (q : Key × V) => H2 t = some (.tup [kV q.1, q.2])) ts kvs → P0 ts H2 ∧
    (∀ (i : Nat) (v : V) (d : PyData) (H' : Hp), (ts.map V.ref)[i]? = some v → ds[i]? = some d → Ext H2 H' → P0 ts H' → tb (L2.start Nl [v]) H' fun kv H'' => Dp K H'' kv d ∧ Ext H' H'' ∧ P0 ts H'') ∧
    ∀ (H' : Hp) (p : Addr), Ext H2 H' → P0 ts H' → H' p = none → Q (.ref p) (upd H' p (.lst (byKey (ts.map V.ref) ds)))
section
variable {X : Cx}
theorem pe_sortLamI {T : List (Addr × Str)} {c P : Addr} {k : Nat} {y : Str} {e body : Expr} {params : Arguments} {scope : Scope} {p apos cpos kpos lpos pos : Pos} {Nl : List Str} {te tb : TE} (hca : X.calm = true) (hg : Gl X "sorted") (hm : X.mg "sorted" = none) (hv : bootBuiltins "sorted" = some (.builtin "sorted")) (hE : PE X e te)
    (hfs : ∀ b, b ∉ frs X.stack → b ≠ X.env.locals ∧ b ∉ X.fs) (TB : TabB X.base X.mg c P) (hcode : X.env.code = .ref c) (hmT : (P, X.env.qual ++ "<lambda>") ∈ T) (hu : ∀ p ∈ T, p.1 = P → p.2 = X.env.qual ++ "<lambda>") (hr : Room (k + 3) X.A) (S : FnScope Nl [y] scope)
    (hdef : defaultsOf params X.env = ([], [])) (hcl : cloFrom X.env.cells scope.names [] = []) (hbind : ∀ (q : Str) (pm cv ctv u : Value), bindArgs (PySem.W.kla_fn "<lambda>" q params body scope [] pm cv ctv) ⟨[u], []⟩ = pure ([y].zip [u]))
    (hbody : ∀ (A : Around) (outer : List Env) (s : Shared) (H : Hp) (f c' : Addr), Room k (A.deeper (envOfC (X.env.qual ++ "<lambda>") scope s.heap.objs.size f (.ref c'))) →
      PE (cxOf C8.CX0 X.prog X.w X.K X.mg X.base Nl (X.env.qual ++ "<lambda>") scope f (.ref c') A outer s H C8.E0) body tb)
    (hbase : attributeBase e "items" X.env (eval e X.env) = eval e X.env := by rfl) (hline : (apos.endLine == cpos.line) = true := by rfl)
    (hs : starEach [.Call (.Attribute e "items" apos) [] [] cpos] X.env = (false, eval (.Call (.Attribute e "items" apos) [] [] cpos) X.env) :: starEach [] X.env := by rfl)
    (he : backTo pos (starEach [.Call (.Attribute e "items" apos) [] [] cpos] X.env) = (false, eval (.Call (.Attribute e "items" apos) [] [] cpos) X.env) :: backTo pos (starEach [] X.env) := by rfl) (hpl : (backTo pos (starEach [.Call (.Attribute e "items" apos) [] [] cpos] X.env)).any (·.1) = false := by rfl) :
    PE X (.Call (.Name "sorted" p) [.Call (.Attribute e "items" apos) [] [] cpos] [⟨some (Str.ofString "key"), .Lambda params body scope lpos, kpos⟩] pos) (tSortI X.K T Nl tb te) := by
  refine ⟨fun pins s σ H Q I h => ?_⟩
  refine wpAny_Call_Name_kw (ld_blt I hg hm hv ?_ (by decide) (by decide))
  refine PyProof.Rows.callWith_kw ?_ he hpl
  rw [he]
  refine Calls.spliced_cons ?_
  refine wpAny_Call_method (T := "dict") (id := "dict.items") hbase rfl hline F.plainAttrs_dict F.slot_dict_items F.type_dict_items (thn (hE.run pins s σ H _ I h) fun u s1 ⟨x, H1, I1, rx, q1⟩ => ?_)
  obtain ⟨d, kvs, ds, P0, rfl, hd, hal, hk, hlen, hdp, hT, q⟩ := q1
  obtain rfl : u = Value.ref d := rx
  obtain ⟨hz, hs0, vs, kv, hdo⟩ := I1.hok d _ hd
  have lk : kvs.length = vs.length := Paired.length kv
  have I2 : Inv X ((s1.heap.objs.size, { cls := .type "dict_items", data := .fields #[.ref d] }) :: pins) σ H1 { s1 with heap := s1.heap.push { cls := .type "dict_items", data := .fields #[.ref d] } } := ClX.pin_new (t' := s1.toks) I1 (fun b ob q => Heap.get?_push_of_some _ q) (Nat.le_refl _) (Heap.get?_push_size _ rfl) (fun v z => by cases z)
  refine ⟨hdo.typeIs, hdo.mapOf.noDict, ?_⟩
  show wpAny _ _ (callWith cpos (.builtin "dict.items") [.ref d] [] []) _ X.xe s1
  refine method_meetsIn F.slot_dict_items F.entry_dict_items rfl (PySem.evalArgs_none ⟨rfl, hdo.typeIs, F.args_dict_items_1 _, _, meets_dict_items (mixKind X.prog X.w) d hs0, ⟨vs, hdo⟩, ?_⟩)
  refine Calls.spliced_nil ?_
  show wpAny _ _ (evalAll [(do let v ← eval (.Lambda params body scope lpos) X.env; standAt pos; pure v)]) _ _ _
  refine wpAny_evalAll_cons (wpAny_bind (lam_make2 I2 TB hcode hmT hu hT hdef (fun y hy e => ?_) fun f c' pm' ctv H2 s' I3 eN T1 hf hfn hfr hco => wpAny_bind (wpAny_standAt (wpAny_pure (wpAny_evalAll_nil ?_)))))
  · exact absurd e (S.nofree y hy)
  rw [hcl] at hf
  show wpAny _ _ (call (.builtin "sorted") [.ref s1.heap.objs.size] [(Str.ofString "key", .ref f)]) _ _ _
  have hd2 : H2 d = some (.dK kvs) := eN _ _ hd fun ps z => nomatch z
  have hview : s'.heap.IsItemsView s1.heap.objs.size d := ⟨{ cls := .type "dict_items", data := .fields #[.ref d] }, ClX.pin_at I3, rfl, rfl⟩
  refine wpAny_mono (sorted_runI (P0 := P0) (Q := Q) hca I3 hd2 hview hf hfn (hfs f hfr) (fun v z => by cases z) hal hk hlen (fun d hd => ?_) fun H3 ts e3 hts hP => ?_) (fun v s2 h2 => ClX.unpinE h2) fun _ _ e => e
  · have h1 := hr.un
    have h2 := hdp d hd
    omega
  · have T3 : Tabs T H3 := T1.ext e3
    obtain ⟨p0, turn, q⟩ := q H3 ts (eN.trans (ExtN.of e3)) T3 hP
    refine ⟨p0, fun i v u d s2 H' hv hd ru e0 hf2 eH hp => ?_, q⟩
    have hco2 : H' c' = some (CodeO c' (X.env.qual ++ "<lambda>")) := eH _ _ (e3 _ _ hco)
    have rc := lam_run (Q := fun kv H'' => Dp X.K H'' kv d ∧ Ext H' H'' ∧ P0 ts H'') (E := C8.E0) (CX := C8.CX0) (us := [u]) (vs := [v]) (k := k) S hr.in1.in1 e0 hf2 hco2 (hbind _ _ _ _ _) (.cons ru .nil) rfl fun hr2 => ⟨tb, hbody _ _ _ _ _ _ hr2, turn i v d H' hv hd eH hp⟩
    refine wpAny_call (codeAny_mono rc fun r s3 hq => ?_)
    cases r with
    | error e => exact (show False from hq).elim
    | ok fl =>
      cases fl with
      | ret u => exact hq
      | next => exact False.elim hq
      | brk => exact False.elim hq
      | cont => exact False.elim hq
end
/-! ## a def whose code object is told -/
structure DefC (K : PySem.W.Frag) (mg : Str → Option Value) (x : Str) (st : Stmt) (ps : List Str) (f : Addr) (fd : FuncData) (c : Addr) : Prop where
  ex : ∃ (oc : Value) (od : Option Addr) (kV doc pm : Value) (an : Option Addr) (ct : Value) (osl : Array (Option Value)),
    fd = PySem.W.fnOf x x (defArgs st) (defBody st) (defScope st) .none kV doc pm an (.ref c) ct ∧ K.lookup f = some ⟨oc, od, .func fd, osl⟩ ∧ PySem.W.codeIn K (.ref c) x = true
  F : Fun K x x st f fd
  b : Binds K fd ps []
  g : mg x = some (.ref f)
section
variable {P : Program} {w : World} {K : PySem.W.Frag} {mg : Str → Option Value} {base : Heap}
theorem DefC.ok {x : Str} {st : Stmt} {f c : Addr} {fd : FuncData} {N ps : List Str} {k : Nat} {sp : Sp} (D : DefC K mg x st ps f fd c) (S : FnScope N ps (defScope st)) (len : ∀ vs H Q E, sp vs H Q E → vs.length = ps.length)
    (hbody : ∀ (A : Around) (outer : List Env) (s : Shared) (H : Hp) (vs : List V) (Q : VK) (E : XK), Room k (A.deeper (envOfC x (defScope st) s.heap.objs.size f (.ref c))) → sp vs H Q E →
      ∃ t, PSs (cxOf CX0 P w K mg base N x (defScope st) f (.ref c) A outer s H E).nox (defBody st) t ∧ t { nx := fun _ H' => Q .non H', rt := Q } (start N vs) H) : FnOk P w K mg base CX0 (k + 1) f fd ps sp := by
  obtain ⟨oc, od, kV, doc, pm, an, ct, osl, rfl, lk, hcd⟩ := D.ex
  refine fn_of lk hcd S len fun A outer s H vs Q E hr hsp => ?_
  obtain ⟨t, h, q⟩ := hbody A outer s H vs Q E hr hsp
  exact ⟨t, h.nox, q⟩
end
end HS
namespace DM
open PySem PySem.Spec PyProof.Rows L2 SX HL
/-! ## deeds: the mathematics -/
abbrev Mark := Nat × Nat
inductive Deed
  | back (n : Nat)
  | change (m : List Nat) (rem : List Mark) (beh : Option Mark) (num : Nat) (txt : List Nat)
deriving DecidableEq
/-- what a change inserts -/
abbrev Ent := Mark × Option Mark × Nat
def ins (r : Nat) : Nat → Option Mark → List Nat → List Ent
  | _, _, [] => []
  | n, b, c :: t => ((n, r), b, c) :: ins r (n + 1) (some (n, r)) t
theorem ins_len (r : Nat) : ∀ (t : List Nat) (n : Nat) (b : Option Mark), (ins r n b t).length = t.length
  | [], _, _ => rfl
  | c :: t, n, b => by
    show (ins r (n + 1) (some (n, r)) t).length + 1 = _
    rw [ins_len r t]
    rfl
theorem ins_get (r : Nat) : ∀ (t : List Nat) (n : Nat) (b : Option Mark) (k : Nat), k < t.length → (ins r n b t)[k]? = some ((n + k, r), (if k = 0 then b else some (n + k - 1, r)), t.getD k 0)
  | [], _, _, k, h => absurd h (Nat.not_lt_zero _)
  | c :: t, n, b, 0, _ => rfl
  | c :: t, n, b, k + 1, h => by
    show (ins r (n + 1) (some (n, r)) t)[k]? = _
    rw [ins_get r t (n + 1) (some (n, r)) k (by simpa using h)]
    have e1 : n + 1 + k = n + (k + 1) := by omega
    rw [e1, if_neg (Nat.succ_ne_zero k)]
    by_cases hk : k = 0
    · subst hk
      rw [if_pos rfl]
      rfl
    · rw [if_neg hk]
      rfl
/-! ### which deeds are in force -/
def takes : Deed → Bool → List Nat → List Nat
  | .back n, true, t => n :: t
  | _, _, t => t
/-- place, deeds from the last one, places that are taken back -/
def fw : Nat → List Deed → List Nat → List Bool
  | _, [], _ => []
  | p, d :: r, t => (!decide (p ∈ t)) :: fw (p - 1) r (takes d (!decide (p ∈ t)) t)
def tk : Nat → List Deed → List Nat → List Nat
  | _, [], t => t
  | p, d :: r, t => tk (p - 1) r (takes d (!decide (p ∈ t)) t)
theorem fw_len : ∀ (l : List Deed) (p : Nat) (t : List Nat), (fw p l t).length = l.length
  | [], _, _ => rfl
  | d :: l, p, t => by
    show (fw _ l _).length + 1 = _
    rw [fw_len l]
    rfl
theorem fw_snoc : ∀ (l : List Deed) (p : Nat) (t : List Nat) (d : Deed), fw p (l ++ [d]) t = fw p l t ++ [!decide (p - l.length ∈ tk p l t)] ∧ tk p (l ++ [d]) t = takes d (!decide (p - l.length ∈ tk p l t)) (tk p l t)
  | [], p, t, d => ⟨rfl, rfl⟩
  | x :: l, p, t, d => by
    obtain ⟨h1, h2⟩ := fw_snoc l (p - 1) (takes x (!decide (p ∈ t)) t) d
    have e : p - 1 - l.length = p - (x :: l).length := by rw [List.length_cons]; omega
    rw [e] at h1 h2
    refine ⟨?_, h2⟩
    show _ :: fw (p - 1) (l ++ [d]) _ = _ :: (fw (p - 1) l _ ++ _)
    rw [h1]
    rfl
def forces (row : List Deed) : List Bool := (fw row.length row.reverse []).reverse
theorem forces_len (row : List Deed) : (forces row).length = row.length := by
  unfold forces
  rw [List.length_reverse, fw_len, List.length_reverse]
/-- x is taken back by one of the deeds behind -/
theorem mem_tk : ∀ (l : List Deed) (p : Nat) (t : List Nat) (x : Nat), x ∈ tk p l t ↔ x ∈ t ∨ ∃ j : Nat, (fw p l t)[j]? = some true ∧ l[j]? = some (.back x)
  | [], p, t, x => by simp [tk, fw]
  | d :: l, p, t, x => by
    show x ∈ tk (p - 1) l (takes d (!decide (p ∈ t)) t) ↔ _
    rw [mem_tk l]
    constructor
    · rintro (h | ⟨j, h1, h2⟩)
      · cases hd : d with
        | change => rw [hd] at h; exact .inl h
        | back n =>
          rw [hd] at h
          cases hp : (!decide (p ∈ t)) with
          | false => rw [hp] at h; exact .inl h
          | true =>
            rw [hp] at h
            rcases List.mem_cons.mp h with e | h
            · exact .inr ⟨0, by show some (!decide (p ∈ t)) = _; rw [hp], by rw [e]; rfl⟩
            · exact .inl h
      · exact .inr ⟨j + 1, h1, h2⟩
    · rintro (h | ⟨j, h1, h2⟩)
      · refine .inl ?_
        cases d with
        | change => exact h
        | back n =>
          cases (!decide (p ∈ t)) with
          | false => exact h
          | true => exact List.mem_cons_of_mem _ h
      · cases j with
        | zero =>
          have e1 : (!decide (p ∈ t)) = true := Option.some.inj h1
          have e2 : d = .back x := Option.some.inj h2
          rw [e1, e2]
          exact .inl (List.mem_cons_self ..)
        | succ j => exact .inr ⟨j, h1, h2⟩
/-- after the first k deeds from the last -/
theorem fw_take (row : List Deed) (k : Nat) (hk : k ≤ row.length) : (fw row.length row.reverse []).take k = fw row.length (row.reverse.take k) [] := by
  have key : ∀ (a b : List Deed) (p : Nat) (t : List Nat), (fw p (a ++ b) t).take a.length = fw p a t := by
    intro a
    induction a with
    | nil => intros; rfl
    | cons x a ih =>
      intro b p t
      show (_ :: fw (p - 1) (a ++ b) _).take (a.length + 1) = _ :: fw (p - 1) a _
      rw [List.take_succ_cons, ih]
  have h := key (row.reverse.take k) (row.reverse.drop k) row.length []
  rw [List.take_append_drop, List.length_take, List.length_reverse, Nat.min_eq_left hk] at h
  exact h
theorem fw_step (row : List Deed) (k : Nat) (d : Deed) (hd : row.reverse[k]? = some d) :
    fw row.length (row.reverse.take (k + 1)) [] = fw row.length (row.reverse.take k) [] ++ [!decide (row.length - k ∈ tk row.length (row.reverse.take k) [])] ∧
    tk row.length (row.reverse.take (k + 1)) [] = takes d (!decide (row.length - k ∈ tk row.length (row.reverse.take k) [])) (tk row.length (row.reverse.take k) []) := by
  have hk : k < row.length := by
    have := (List.getElem?_eq_some_iff.mp hd).1
    rwa [List.length_reverse] at this
  have hl : (row.reverse.take k).length = k := by rw [List.length_take, List.length_reverse]; omega
  have h := fw_snoc (row.reverse.take k) row.length [] d
  rw [hl] at h
  rw [take_snoc hd]
  exact h
/-- the law of forces: a deed is in force exactly if no later one in force takes it back -/
theorem forces_iff (row : List Deed) (i : Nat) (hi : i < row.length) : ∃ b, (forces row)[i]? = some b ∧ (b = true ↔ ¬ ∃ j : Nat, i < j ∧ (forces row)[j]? = some true ∧ row[j]? = some (.back (i + 1))) := by
  have hfl := forces_len row
  have key : ∀ j : Nat, j < row.length → (forces row)[j]? = (fw row.length row.reverse [])[row.length - 1 - j]? := fun j hj => by
    unfold forces
    rw [List.getElem?_reverse (by rw [fw_len, List.length_reverse]; exact hj), fw_len, List.length_reverse]
  have keyd : ∀ j : Nat, j < row.length → row[j]? = row.reverse[row.length - 1 - j]? := fun j hj => by
    rw [List.getElem?_reverse (by omega)]
    have : row.length - 1 - (row.length - 1 - j) = j := by omega
    rw [this]
  rw [key i hi]
  have hd : row.reverse[row.length - 1 - i]? = some row[i] := by rw [← keyd i hi]; exact List.getElem?_eq_getElem hi
  obtain ⟨h1, _⟩ := fw_step row (row.length - 1 - i) row[i] hd
  have e1 : row.length - (row.length - 1 - i) = i + 1 := by omega
  rw [e1] at h1
  have h2 := fw_take row (row.length - 1 - i + 1) (by omega)
  have h3 : (fw row.length row.reverse [])[row.length - 1 - i]? = (fw row.length (row.reverse.take (row.length - 1 - i + 1)) [])[row.length - 1 - i]? := by
    rw [← h2, List.getElem?_take, if_pos (Nat.lt_succ_self _)]
  have hl : (fw row.length (row.reverse.take (row.length - 1 - i)) []).length = row.length - 1 - i := by rw [fw_len, List.length_take, List.length_reverse]; omega
  rw [h3, h1, List.getElem?_append_right (by omega), hl, Nat.sub_self]
  refine ⟨_, rfl, ?_⟩
  have hm := mem_tk (row.reverse.take (row.length - 1 - i)) row.length [] (i + 1)
  rw [Bool.not_eq_true', decide_eq_false_iff_not]
  refine not_congr (hm.trans ?_)
  constructor
  · rintro (h | ⟨j, hj1, hj2⟩)
    · cases h
    · have hjl : j < row.length - 1 - i := by
        have := (List.getElem?_eq_some_iff.mp hj1).1
        rwa [hl] at this
      refine ⟨row.length - 1 - j, by omega, ?_, ?_⟩
      · rw [key _ (by omega)]
        have : row.length - 1 - (row.length - 1 - j) = j := by omega
        rw [this]
        rw [← fw_take row _ (by omega), List.getElem?_take, if_pos hjl] at hj1
        exact hj1
      · rw [keyd _ (by omega)]
        have : row.length - 1 - (row.length - 1 - j) = j := by omega
        rw [this]
        rw [List.getElem?_take, if_pos hjl] at hj2
        exact hj2
  · rintro ⟨j, h0, hj1, hj2⟩
    have hj : j < row.length := by
      have := (List.getElem?_eq_some_iff.mp hj2).1
      exact this
    refine .inr ⟨row.length - 1 - j, ?_, ?_⟩
    · rw [← fw_take row _ (by omega), List.getElem?_take, if_pos (by omega), ← key j hj]
      exact hj1
    · rw [List.getElem?_take, if_pos (by omega), ← keyd j hj]
      exact hj2
end DM
namespace DM
open PySem PySem.Spec PyProof.Rows L2 SX HL
/-! ## rows of deeds -/
abbrev Rows := Nat → List Deed
def isCh (m : List Nat) : Deed → Bool
  | .change m' _ _ _ _ => decide (m' = m)
  | .back _ => false
def entD (r : Nat) : Deed → List Ent
  | .change _ _ b n t => ins r n b t
  | .back _ => []
def remD : Deed → List Mark
  | .change _ x _ _ _ => x
  | .back _ => []
/-- the marks that a deed names -/
def nam : Deed → List Mark
  | .change _ x b _ _ => x ++ b.toList
  | .back _ => []
def numD : Deed → Nat
  | .change _ _ _ n _ => n
  | .back _ => 0
def endD : Deed → Nat
  | .change _ _ _ n t => n + t.length
  | .back _ => 0
abbrev Chg := Nat × Deed × Bool
abbrev EntF := Mark × Option Mark × Nat × Bool
def chR (rows : Rows) (m : List Nat) (r : Nat) : List Chg := (((rows r).zip (forces (rows r))).filter fun df => isCh m df.1).map fun df => (r, df.1, df.2)
def changes (rows : Rows) (m : List Nat) : List Chg := (List.range 8).flatMap (chR rows m)
def entF (c : Chg) : List EntF := (entD c.1 c.2.1).map fun e => (e.1, e.2.1, e.2.2, c.2.2)
def found (rows : Rows) (m : List Nat) : List EntF := (changes rows m).flatMap entF
def removed (rows : Rows) (m : List Nat) : List Mark := (changes rows m).flatMap fun c => if c.2.2 then remD c.2.1 else []
def marks (rows : Rows) (m : List Nat) : List Mark := (found rows m).map (·.1)
theorem zip_fst {α β : Type _} : ∀ (l : List α) (k : List β), l.length = k.length → (l.zip k).map Prod.fst = l
  | [], [], _ => rfl
  | x :: l, y :: k, h => by
    show x :: (l.zip k).map Prod.fst = _
    rw [zip_fst l k (by simpa using h)]
theorem zip_forces (row : List Deed) : (row.zip (forces row)).map Prod.fst = row := zip_fst _ _ (forces_len row).symm
theorem mem_changes {rows : Rows} {m : List Nat} {c : Chg} (h : c ∈ changes rows m) : c.1 < 8 ∧ c.2.1 ∈ rows c.1 ∧ isCh m c.2.1 = true := by
  obtain ⟨r, hr, h⟩ := List.mem_flatMap.mp h
  obtain ⟨df, hdf, rfl⟩ := List.mem_map.mp h
  obtain ⟨h1, h2⟩ := List.mem_filter.mp hdf
  refine ⟨List.mem_range.mp hr, ?_, h2⟩
  have := List.mem_map_of_mem (f := Prod.fst) h1
  rwa [zip_forces] at this
theorem changes_has {rows : Rows} {m : List Nat} {r : Nat} {d : Deed} (hr : r < 8) (hd : d ∈ rows r) (hm : isCh m d = true) : ∃ f, (r, d, f) ∈ changes rows m := by
  rw [← zip_forces (rows r)] at hd
  obtain ⟨⟨d', f⟩, h1, h2⟩ := List.mem_map.mp hd
  cases h2
  exact ⟨f, List.mem_flatMap.mpr ⟨r, List.mem_range.mpr hr, List.mem_map.mpr ⟨(d', f), List.mem_filter.mpr ⟨h1, hm⟩, rfl⟩⟩⟩
theorem mem_marks {rows : Rows} {m : List Nat} {x : Mark} : x ∈ marks rows m ↔ ∃ r d, r < 8 ∧ d ∈ rows r ∧ isCh m d = true ∧ x ∈ (entD r d).map (·.1) := by
  constructor
  · intro h
    obtain ⟨e, he, rfl⟩ := List.mem_map.mp h
    obtain ⟨c, hc, he⟩ := List.mem_flatMap.mp he
    obtain ⟨e', he', rfl⟩ := List.mem_map.mp he
    obtain ⟨h1, h2, h3⟩ := mem_changes hc
    exact ⟨c.1, c.2.1, h1, h2, h3, List.mem_map.mpr ⟨e', he', rfl⟩⟩
  · rintro ⟨r, d, hr, hd, hm, hx⟩
    obtain ⟨f, hc⟩ := changes_has hr hd hm
    obtain ⟨e, he, rfl⟩ := List.mem_map.mp hx
    exact List.mem_map.mpr ⟨(e.1, e.2.1, e.2.2, f), List.mem_flatMap.mpr ⟨_, hc, List.mem_map.mpr ⟨e, he, rfl⟩⟩, rfl⟩
theorem marks_mono {rows rows' : Rows} (h : ∀ r, r < 8 → ∀ d ∈ rows r, d ∈ rows' r) {m : List Nat} {x : Mark} (hx : x ∈ marks rows m) : x ∈ marks rows' m := by
  obtain ⟨r, d, hr, hd, hm, hx⟩ := mem_marks.mp hx
  exact mem_marks.mpr ⟨r, d, hr, h r hr d hd, hm, hx⟩
theorem mem_entD {r : Nat} {d : Deed} {e : Ent} (h : e ∈ entD r d) : ∃ m x b n t k, d = .change m x b n t ∧ k < t.length ∧ e = ((n + k, r), (if k = 0 then b else some (n + k - 1, r)), t.getD k 0) := by
  cases d with
  | back => cases h
  | change m x b n t =>
    obtain ⟨k, hk, he⟩ := List.mem_iff_getElem.mp h
    have hk' : k < t.length := by
      have : (entD r (.change m x b n t)).length = t.length := ins_len r t n b
      omega
    have h2 := ins_get r t n b k hk'
    have h3 : (ins r n b t)[k]? = some e := by
      rw [← he]
      exact List.getElem?_eq_getElem hk
    rw [h3] at h2
    exact ⟨m, x, b, n, t, k, rfl, hk', Option.some.inj h2⟩
theorem entD_has {r : Nat} {m : List Nat} {x : List Mark} {b : Option Mark} {n k : Nat} {t : List Nat} (hk : k < t.length) : (n + k, r) ∈ (entD r (.change m x b n t)).map (·.1) := by
  have h := ins_get r t n b k hk
  exact List.mem_map.mpr ⟨_, List.mem_of_getElem? h, rfl⟩
/-! ### rows as deeds make them -/
def mlt (a b : Mark) : Prop := a.1 < b.1 ∨ (a.1 = b.1 ∧ a.2 < b.2)
structure Good (rows : Rows) : Prop where
  num : ∀ r, r < 8 → (rows r).Pairwise fun a b => (∃ m x c n t, b = .change m x c n t) → endD a ≤ numD b
  nam : ∀ r, r < 8 → ∀ m x b n t, Deed.change m x b n t ∈ rows r → ∀ y ∈ x ++ b.toList, y ∈ marks rows m ∧ y.1 < n
theorem mlt_irrefl {a : Mark} : ¬ mlt a a := by
  rintro (h | ⟨_, h⟩) <;> omega
theorem mlt_trans {a b c : Mark} (h : mlt a b) (k : mlt b c) : mlt a c := by
  unfold mlt at *
  omega
theorem mlt_total {a b : Mark} (h : a ≠ b) : mlt a b ∨ mlt b a := by
  have : ¬ (a.1 = b.1 ∧ a.2 = b.2) := fun ⟨h1, h2⟩ => h (Prod.ext h1 h2)
  unfold mlt
  omega
theorem marks_nodup {rows : Rows} (G : Good rows) (m : List Nat) : (marks rows m).Nodup := by
  unfold marks found changes
  rw [List.map_flatMap]
  refine List.pairwise_flatMap.mpr ⟨fun c hc => ?_, ?_⟩
  · -- one deed
    obtain ⟨r, _, hc⟩ := List.mem_flatMap.mp hc
    unfold entF
    rw [List.map_map]
    have e : ((fun x : EntF => x.1) ∘ fun e : Ent => (e.1, e.2.1, e.2.2, c.2.2)) = fun e : Ent => e.1 := rfl
    rw [e]
    cases hd : c.2.1 with
    | back => exact List.Pairwise.nil
    | change m' x b n t =>
      show ((ins c.1 n b t).map fun e => e.1).Nodup
      have key : ∀ (t : List Nat) (n : Nat) (b : Option Mark), ((ins c.1 n b t).map fun e => e.1).Nodup ∧ ∀ y ∈ (ins c.1 n b t).map (fun e => e.1), n ≤ y.1 := by
        intro t
        induction t with
        | nil => intro n b; exact ⟨List.Pairwise.nil, fun y h => by cases h⟩
        | cons z t ih =>
          intro n b
          obtain ⟨h1, h2⟩ := ih (n + 1) (some (n, c.1))
          refine ⟨List.nodup_cons.mpr ⟨fun h => ?_, h1⟩, fun y hy => ?_⟩
          · have := h2 _ h
            simp at this
            omega
          · rcases List.mem_cons.mp hy with e | h
            · rw [e]; exact Nat.le_refl _
            · have := h2 _ h
              omega
      exact (key t n b).1
  · refine List.pairwise_flatMap.mpr ⟨fun r hr => ?_, ?_⟩
    · unfold chR
      refine List.pairwise_map.mpr (List.Pairwise.filter _ ?_)
      have hp : ((rows r).zip (forces (rows r))).Pairwise fun a b => (∃ m x c n t, b.1 = .change m x c n t) → endD a.1 ≤ numD b.1 := by
        have := G.num r (List.mem_range.mp hr)
        rw [← zip_forces (rows r)] at this
        exact List.pairwise_map.mp this
      refine hp.imp fun {a b} hab => ?_
      rintro x hx y hy rfl
      obtain ⟨e1, he1, rfl⟩ := List.mem_map.mp hx
      obtain ⟨e2, he2, h2⟩ := List.mem_map.mp hy
      obtain ⟨f1, hf1, rfl⟩ := List.mem_map.mp he1
      obtain ⟨f2, hf2, rfl⟩ := List.mem_map.mp he2
      obtain ⟨m1, x1, b1, n1, t1, k1, d1, hk1, rfl⟩ := mem_entD hf1
      obtain ⟨m2, x2, b2, n2, t2, k2, d2, hk2, rfl⟩ := mem_entD hf2
      have := hab ⟨_, _, _, _, _, d2⟩
      have e1' : a.1 = .change m1 x1 b1 n1 t1 := d1
      have e2' : b.1 = .change m2 x2 b2 n2 t2 := d2
      rw [e1', e2'] at this
      have h3 : n2 + k2 = n1 + k1 := congrArg Prod.fst h2
      have h4 : n1 + t1.length ≤ n2 := this
      omega
    · refine List.Pairwise.imp (R := fun a b => a ≠ b) (fun {a b} hab => ?_) List.nodup_range
      rintro c hc c' hc' x hx y hy rfl
      obtain ⟨df, _, rfl⟩ := List.mem_map.mp hc
      obtain ⟨df', _, rfl⟩ := List.mem_map.mp hc'
      obtain ⟨e1, he1, rfl⟩ := List.mem_map.mp hx
      obtain ⟨e2, he2, h2⟩ := List.mem_map.mp hy
      obtain ⟨f1, hf1, rfl⟩ := List.mem_map.mp he1
      obtain ⟨f2, hf2, rfl⟩ := List.mem_map.mp he2
      obtain ⟨_, _, _, n1, _, k1, _, _, rfl⟩ := mem_entD hf1
      obtain ⟨_, _, _, n2, _, k2, _, _, rfl⟩ := mem_entD hf2
      have h3 : ((n2 + k2, b) : Mark) = (n1 + k1, a) := h2
      exact hab (congrArg Prod.snd h3).symm
/-- what stands behind a mark is a lesser mark of the module -/
theorem behind_ok {rows : Rows} (G : Good rows) {m : List Nat} {e : EntF} (he : e ∈ found rows m) {x : Mark} (hx : e.2.1 = some x) : x ∈ marks rows m ∧ mlt x e.1 := by
  obtain ⟨c, hc, he⟩ := List.mem_flatMap.mp he
  obtain ⟨f, hf, rfl⟩ := List.mem_map.mp he
  obtain ⟨h1, h2, h3⟩ := mem_changes hc
  obtain ⟨m1, x1, b1, n1, t1, k1, d1, hk1, rfl⟩ := mem_entD hf
  rw [d1] at h2 h3
  have hm : m1 = m := of_decide_eq_true h3
  subst hm
  by_cases hk : k1 = 0
  · subst hk
    have hb : b1 = some x := hx
    have := G.nam c.1 h1 m1 x1 b1 n1 t1 h2 x (by rw [hb]; simp)
    exact ⟨this.1, .inl (by show x.1 < n1 + 0; omega)⟩
  · have hb : (if k1 = 0 then b1 else some (n1 + k1 - 1, c.1)) = some x := hx
    rw [if_neg hk] at hb
    cases hb
    refine ⟨mem_marks.mpr ⟨c.1, _, h1, h2, by simp [isCh], ?_⟩, .inl (by show n1 + k1 - 1 < n1 + k1; omega)⟩
    have : n1 + k1 - 1 = n1 + (k1 - 1) := by omega
    rw [this]
    exact entD_has (by omega)
/-! ### the row of a module -/
abbrev Cel := Mark × Nat × Bool
def slot (b : Option Mark) (row : List Cel) : Nat := match b with
  | none => 0
  | some x => (row.map (·.1)).idxOf x + 1
def put (rm : List Mark) (row : List Cel) (e : EntF) : List Cel := row.insertIdx (slot e.2.1 row) (e.1, e.2.2.1, e.2.2.2 && !decide (e.1 ∈ rm))
def build (rm : List Mark) (es : List EntF) : List Cel := es.foldl (put rm) []
theorem build_snoc (rm : List Mark) (es : List EntF) (e : EntF) : build rm (es ++ [e]) = put rm (build rm es) e := by
  unfold build
  rw [List.foldl_append]
  rfl
/-- sorted, and what each one stands behind is ahead of it -/
structure Srt (rows : Rows) (m : List Nat) (es : List EntF) : Prop where
  perm : es.Perm (found rows m)
  lt : es.Pairwise fun a b => mlt a.1 b.1
theorem slot_le {b : Option Mark} {row : List Cel} (h : ∀ x, b = some x → x ∈ row.map (·.1)) : slot b row ≤ row.length := by
  cases b with
  | none => exact Nat.zero_le _
  | some x =>
    have := List.idxOf_lt_length_of_mem (h x rfl)
    rw [List.length_map] at this
    exact this
theorem put_perm {rm : List Mark} {row : List Cel} {e : EntF} (h : ∀ x, e.2.1 = some x → x ∈ row.map (·.1)) : ((put rm row e).map (·.1)).Perm (e.1 :: row.map (·.1)) := by
  unfold put
  have h1 := List.perm_insertIdx (e.1, e.2.2.1, e.2.2.2 && !decide (e.1 ∈ rm)) row (slot_le h)
  exact h1.map (·.1)
theorem build_perm {rows : Rows} {m : List Nat} {es : List EntF} (G : Good rows) (S : Srt rows m es) (rm : List Mark) : ∀ i, i ≤ es.length → ((build rm (es.take i)).map (·.1)).Perm ((es.take i).map (·.1)) ∧
    ∀ e, es[i]? = some e → ∀ x, e.2.1 = some x → x ∈ (build rm (es.take i)).map (·.1) := by
  have back : ∀ i, i ≤ es.length → ∀ e, es[i]? = some e → ∀ x, e.2.1 = some x → x ∈ (es.take i).map (·.1) := by
    intro i hi e he x hx
    have hef : e ∈ found rows m := S.perm.mem_iff.mp (List.mem_of_getElem? he)
    obtain ⟨hm, hlt⟩ := behind_ok G hef hx
    obtain ⟨e', he', rfl⟩ := List.mem_map.mp hm
    obtain ⟨j, hj⟩ := List.mem_iff_getElem?.mp (S.perm.mem_iff.mpr he')
    have hji : j < i := by
      rcases Nat.lt_trichotomy j i with h | h | h
      · exact h
      · subst h
        rw [he] at hj
        cases hj
        exact absurd hlt mlt_irrefl
      · have h1 := (List.getElem?_eq_some_iff.mp he)
        have h2 := (List.getElem?_eq_some_iff.mp hj)
        have := List.pairwise_iff_getElem.mp S.lt i j h1.1 h2.1 h
        rw [h1.2, h2.2] at this
        exact absurd (mlt_trans this hlt) mlt_irrefl
    refine List.mem_map.mpr ⟨e', ?_, rfl⟩
    refine List.mem_of_getElem? (i := j) ?_
    rw [List.getElem?_take, if_pos hji]
    exact hj
  intro i
  induction i with
  | zero => exact fun hi => ⟨List.Perm.refl _, fun e he x hx => by have := back 0 hi e he x hx; simp at this⟩
  | succ i ih =>
    intro hi
    obtain ⟨h1, h2⟩ := ih (by omega)
    have he : es[i]? = some es[i] := List.getElem?_eq_getElem (by omega)
    have hp : ((build rm (es.take (i + 1))).map (·.1)).Perm ((es.take (i + 1)).map (·.1)) := by
      rw [take_snoc he, build_snoc, List.map_append]
      refine (put_perm (h2 _ he)).trans ?_
      refine (List.Perm.cons _ h1).trans ?_
      exact (List.perm_append_singleton ..).symm
    exact ⟨hp, fun e he x hx => hp.mem_iff.mpr (back (i + 1) hi e he x hx)⟩
end DM
namespace DM
open PySem PySem.Spec PyProof.Rows L2 SX HL
/-! ## deeds in the heap -/
def TupK (H H' : Hp) : Prop := ∀ a o, H a = some (.tup o) → H' a = some (.tup o)
theorem TupK.refl {H : Hp} : TupK H H := fun _ _ h => h
theorem TupK.trans {H H1 H2 : Hp} (a : TupK H H1) (b : TupK H1 H2) : TupK H H2 := fun x o h => b x o (a x o h)
theorem Same.tk {H H' : Hp} (s : Same H H') : TupK H H' := fun a o h => s a _ h
/-- a store at something that is no tuple -/
theorem tk_upd {H : Hp} {a : Addr} {o : HO} (h : ∀ xs, ¬ H a = some (.tup xs)) : TupK H (upd H a o) := fun b xs e => by
  rw [upd_ne (fun z => h xs (by rw [← z]; exact e))]
  exact e
def MkAt (H : Hp) (x : V) (m : Mark) : Prop := IsRow (fun m : Mark => [vi m.1, vi m.2]) H x m
def OMk (H : Hp) (x : V) : Option Mark → Prop
  | none => x = .non
  | some m => MkAt H x m
def DeedAt (H : Hp) (x : V) : Deed → Prop
  | .back n => ∃ t, x = .ref t ∧ H t = some (.tup [.str "back", vi n])
  | .change m rem beh num txt => ∃ t tr us bx, x = .ref t ∧ H t = some (.tup [.str "change", .str (S m), .ref tr, bx, vi num, .str (S txt)]) ∧ H tr = some (.tup us) ∧ All2 (MkAt H) us rem ∧ OMk H bx beh
theorem MkAt.keep {H H' : Hp} {x : V} {m : Mark} (h : MkAt H x m) (k : TupK H H') : MkAt H' x m := IsRow.same h k
theorem OMk.keep {H H' : Hp} {x : V} {b : Option Mark} (h : OMk H x b) (k : TupK H H') : OMk H' x b := by
  cases b with
  | none => exact h
  | some m => exact MkAt.keep h k
theorem DeedAt.keep {H H' : Hp} {x : V} {d : Deed} (h : DeedAt H x d) (k : TupK H H') : DeedAt H' x d := by
  cases d with
  | back n =>
    obtain ⟨t, e, ht⟩ := h
    exact ⟨t, e, k _ _ ht⟩
  | change m rem beh num txt =>
    obtain ⟨t, tr, us, bx, e, ht, hr, hm, hb⟩ := h
    exact ⟨t, tr, us, bx, e, k _ _ ht, k _ _ hr, hm.mono fun v m h => h.keep k, hb.keep k⟩
theorem DeedAt.tup {H : Hp} {x : V} {d : Deed} (h : DeedAt H x d) : ∃ t xs, x = .ref t ∧ H t = some (.tup xs) := by
  cases d with
  | back n =>
    obtain ⟨t, e, ht⟩ := h
    exact ⟨t, _, e, ht⟩
  | change m rem beh num txt =>
    obtain ⟨t, tr, us, bx, e, ht, _⟩ := h
    exact ⟨t, _, e, ht⟩
/-! ### as data -/
def mD (m : Mark) : PyData := .tuple [di m.1, di m.2]
def oD : Option Mark → PyData
  | none => .none
  | some m => mD m
def pD : Deed → PyData
  | .back n => .tuple [.str "back", di n]
  | .change m rem beh num txt => .tuple [.str "change", .str (S m), .tuple (rem.map mD), oD beh, di num, .str (S txt)]
theorem MkAt.dp {K : PySem.W.Frag} {H : Hp} {x : V} {m : Mark} (h : MkAt H x m) : Dp K H x (mD m) := by
  obtain ⟨t, rfl, ht⟩ := h
  exact .tup (SqT.of ht) (.cons (.int _) (.cons (.int _) .nil))
theorem OMk.dp {K : PySem.W.Frag} {H : Hp} {x : V} {b : Option Mark} (h : OMk H x b) : Dp K H x (oD b) := by
  cases b with
  | none => obtain rfl : x = .non := h; exact .non
  | some m => exact MkAt.dp h
theorem dpAll_of {K : PySem.W.Frag} {H : Hp} {α : Type} {R : V → α → Prop} {f : α → PyData} (hf : ∀ x a, R x a → Dp K H x (f a)) : ∀ {xs : List V} {as : List α}, All2 R xs as → DpAll K H xs (as.map f)
  | _, _, .nil => .nil
  | _, _, .cons h t => .cons (hf _ _ h) (dpAll_of hf t)
theorem DeedAt.dp {K : PySem.W.Frag} {H : Hp} {x : V} {d : Deed} (h : DeedAt H x d) : Dp K H x (pD d) := by
  cases d with
  | back n =>
    obtain ⟨t, rfl, ht⟩ := h
    exact .tup (SqT.of ht) (.cons (.str _) (.cons (.int _) .nil))
  | change m rem beh num txt =>
    obtain ⟨t, tr, us, bx, rfl, ht, hr, hm, hb⟩ := h
    exact .tup (SqT.of ht) (.cons (.str _) (.cons (.str _) (.cons (.tup (SqT.of hr) (dpAll_of (fun x a h => MkAt.dp h) hm)) (.cons hb.dp (.cons (.int _) (.cons (.str _) .nil))))))
/-- codes of characters -/
def okC (l : List Nat) : Prop := ∀ c ∈ l, c < 1114112
structure DOk (d : Deed) : Prop where
  m : ∀ m x b n t, d = .change m x b n t → okC m ∧ okC t ∧ m.length ≤ 100 ∧ x.length ≤ 1000 ∧ t.length ≤ 100
theorem strOk_S {l : List Nat} (h : okC l) : PySem.PyData.strOk (S l) = true := by
  show (S l).cps.all _ = true
  rw [← Array.all_toList]
  exact List.all_eq_true.mpr fun c hc => decide_eq_true (h c hc)
theorem can_marks : ∀ l : List Mark, PyData.canLayAll0 (l.map mD) = true
  | [] => rfl
  | m :: l => by
    show (PyData.canLay0 (mD m) && PyData.canLayAll0 (l.map mD)) = true
    rw [can_marks l]
    rfl
theorem depth_marks : ∀ l : List Mark, PyData.depthAll (l.map mD) ≤ 2
  | [] => Nat.zero_le _
  | m :: l => by
    have h1 := depth_marks l
    have h2 : PyData.depth (mD m) ≤ 2 := by simp [mD, PyData.depth, PyData.depthAll, di]
    show max (PyData.depth (mD m)) (PyData.depthAll (l.map mD)) ≤ 2
    omega
theorem shaped_mark (m : Mark) : SeqAt.shaped (mD m) = true := by
  simp [SeqAt.shaped, mD, PyData.canLay0, PyData.canLayAll0, PyData.depth, PyData.depthAll, di]
theorem shaped_marks (l : List Mark) : SeqAt.shaped (.list (l.map mD)) = true := by
  have h1 := can_marks l
  have h2 := depth_marks l
  simp only [SeqAt.shaped, PyData.canLay0, PyData.depth, Bool.and_eq_true, decide_eq_true_eq]
  exact ⟨h1, decide_eq_true (by omega)⟩
theorem shaped_o (b : Option Mark) : PyData.canLay0 (oD b) = true ∧ PyData.depth (oD b) ≤ 1 := by
  cases b with
  | none => exact ⟨rfl, Nat.zero_le _⟩
  | some m => exact ⟨by simp [oD, mD, PyData.canLay0, PyData.canLayAll0, di], by simp [oD, mD, PyData.depth, PyData.depthAll, di]⟩
theorem shaped_deed {d : Deed} (h : DOk d) : SeqAt.shaped (pD d) = true := by
  cases d with
  | back n =>
    have : PySem.PyData.strOk ("back" : Str) = true := by decide +kernel
    simp [SeqAt.shaped, pD, PyData.canLay0, PyData.canLayAll0, PyData.depth, PyData.depthAll, di, this]
  | change m x b n t =>
    obtain ⟨h1, h2, _⟩ := h.m _ _ _ _ _ rfl
    have e1 := strOk_S h1
    have e2 := strOk_S h2
    have e3 : PySem.PyData.strOk ("change" : Str) = true := by decide +kernel
    have e4 := can_marks x
    have e5 := depth_marks x
    obtain ⟨e6, e7⟩ := shaped_o b
    simp only [SeqAt.shaped, pD, PyData.canLay0, PyData.canLayAll0, PyData.depth, PyData.depthAll, di, e1, e2, e3, e4, e6, Bool.and_self, Bool.and_eq_true, decide_eq_true_eq]
    refine ⟨by simp, ?_⟩
    omega
theorem eqv_mark (a b : Mark) : PyData.eqv (mD a) (mD b) = decide (a = b) := by
  obtain ⟨a1, a2⟩ := a
  obtain ⟨b1, b2⟩ := b
  rw [Bool.eq_iff_iff, decide_eq_true_iff]
  simp [mD, di, PyData.eqv, PyData.eqvAll]
  omega
theorem eqv_back (d : Deed) (p : Nat) : PyData.eqv (pD d) (pD (.back p)) = decide (d = .back p) := by
  cases d with
  | back n =>
    rw [Bool.eq_iff_iff, decide_eq_true_iff]
    simp [pD, di, PyData.eqv, PyData.eqvAll]
    omega
  | change m x b n t => simp [pD, PyData.eqv, PyData.eqvAll]
/-! ### told the same -/
theorem MkAt.same {K : PySem.W.Frag} {H : Hp} {n : Nat} {x y : V} {m : Mark} (h : MkAt H x m) (h' : MkAt H y m) : SameD K H (n + 1) x y := by
  obtain ⟨t, rfl, ht⟩ := h
  obtain ⟨u, rfl, hu⟩ := h'
  exact .row ht hu (by show 2 ≤ 1000000; decide) fun x hx => by
    simp at hx
    rcases hx with e | e <;> rw [e] <;> exact True.intro
theorem OMk.same {K : PySem.W.Frag} {H : Hp} {n : Nat} {x y : V} {b : Option Mark} (h : OMk H x b) (h' : OMk H y b) : SameD K H (n + 1) x y := by
  cases b with
  | none =>
    obtain rfl : x = .non := h
    obtain rfl : y = .non := h'
    exact .leaf True.intro
  | some m => exact MkAt.same h h'
theorem all_same {K : PySem.W.Frag} {H : Hp} {α : Type} {R : V → α → Prop} {n : Nat} (hR : ∀ x y a, R x a → R y a → SameD K H n x y) {xs ys : List V} {as : List α} (h1 : All2 R xs as) (h2 : All2 R ys as) (i : Nat) (u v : V) (hu : xs[i]? = some u) (hv : ys[i]? = some v) : SameD K H n u v := by
  obtain ⟨a, ha, h⟩ := h1.get hu
  obtain ⟨b, hb, h'⟩ := h2.get hv
  rw [ha] at hb
  cases hb
  exact hR _ _ _ h h'
theorem DeedAt.same {K : PySem.W.Frag} {H : Hp} {n : Nat} {x y : V} {d : Deed} (hd : DOk d) (h : DeedAt H x d) (h' : DeedAt H y d) : SameD K H (n + 3) x y := by
  cases d with
  | back n =>
    obtain ⟨t, rfl, ht⟩ := h
    obtain ⟨u, rfl, hu⟩ := h'
    exact .row ht hu (by show 2 ≤ 1000000; decide) fun x hx => by
      simp at hx
      rcases hx with e | e <;> rw [e] <;> exact True.intro
  | change m rem beh num txt =>
    obtain ⟨t, tr, us, bx, rfl, ht, hr, hm, hb⟩ := h
    obtain ⟨t', tr', us', bx', rfl, ht', hr', hm', hb'⟩ := h'
    obtain ⟨_, _, _, hx, _⟩ := hd.m _ _ _ _ _ rfl
    refine .seq (.tup ht) (.tup ht') rfl (by show 6 ≤ 1000000; decide) fun i u v hu hv => ?_
    match i, hu, hv with
    | 0, hu, hv => cases hu; cases hv; exact .leaf True.intro
    | 1, hu, hv => cases hu; cases hv; exact .leaf True.intro
    | 2, hu, hv =>
      cases hu
      cases hv
      exact .seq (.tup hr) (.tup hr') (by rw [hm.len, hm'.len]) (by rw [hm'.len]; omega) (all_same (R := MkAt H) (fun x y a h k => MkAt.same h k) hm hm')
    | 3, hu, hv => cases hu; cases hv; exact OMk.same hb hb'
    | 4, hu, hv => cases hu; cases hv; exact .leaf True.intro
    | 5, hu, hv => cases hu; cases hv; exact .leaf True.intro
    | i + 6, hu, _ => cases hu
/-! ### rows -/
structure RowsAt (H : Hp) (A : Addr) (rs : List Addr) (rows : Rows) : Prop where
  h : H A = some (.lst (rs.map V.ref))
  n : rs.length = 8
  r : ∀ (i : Nat) (a : Addr), rs[i]? = some a → ∃ us, H a = some (.lst us) ∧ All2 (DeedAt H) us (rows i)
theorem RowsAt.keep {H H' : Hp} {A : Addr} {rs : List Addr} {rows : Rows} (R : RowsAt H A rs rows) (s : Same H H') : RowsAt H' A rs rows :=
  ⟨s _ _ R.h, R.n, fun i a h => by obtain ⟨us, h1, h2⟩ := R.r i a h; exact ⟨us, s _ _ h1, h2.mono fun v d h => h.keep (Same.tk s)⟩⟩
theorem RowsAt.get {H : Hp} {A : Addr} {rs : List Addr} {rows : Rows} (R : RowsAt H A rs rows) {i : Nat} (hi : i < 8) : ∃ a us, rs[i]? = some a ∧ (rs.map V.ref)[i]? = some (.ref a) ∧ H a = some (.lst us) ∧ All2 (DeedAt H) us (rows i) := by
  have hl : i < rs.length := by rw [R.n]; exact hi
  have e := List.getElem?_eq_getElem hl
  obtain ⟨us, h1, h2⟩ := R.r i _ e
  exact ⟨rs[i], us, e, by rw [List.getElem?_map, e]; rfl, h1, h2⟩
/-- few deeds, of few characters -/
def Few (rows : Rows) : Prop := ∀ r, r < 8 → (rows r).length ≤ 100 ∧ ∀ d ∈ rows r, DOk d
theorem flat_len {α β : Type} {f : α → List β} {k : Nat} : ∀ {l : List α}, (∀ a ∈ l, (f a).length ≤ k) → (l.flatMap f).length ≤ l.length * k
  | [], _ => by simp
  | a :: l, h => by
    have h1 := h a (List.mem_cons_self ..)
    have h2 := flat_len (l := l) fun x hx => h x (List.mem_cons_of_mem _ hx)
    rw [List.flatMap_cons, List.length_append, List.length_cons, Nat.add_mul]
    omega
theorem changes_len {rows : Rows} (h : Few rows) (m : List Nat) : (changes rows m).length ≤ 800 := by
  have := flat_len (l := List.range 8) (f := chR rows m) (k := 100) fun r hr => by
    unfold chR
    rw [List.length_map]
    refine Nat.le_trans (List.length_filter_le ..) ?_
    rw [List.length_zip, forces_len, Nat.min_self]
    exact (h r (List.mem_range.mp hr)).1
  rw [List.length_range] at this
  exact this
theorem entF_len {rows : Rows} (h : Few rows) {m : List Nat} {c : Chg} (hc : c ∈ changes rows m) : (entF c).length ≤ 100 := by
  obtain ⟨h1, h2, h3⟩ := mem_changes hc
  unfold entF
  rw [List.length_map]
  cases hd : c.2.1 with
  | back => exact Nat.zero_le _
  | change m x b n t =>
    have := ((h c.1 h1).2 _ h2).m _ _ _ _ _ hd
    show (ins c.1 n b t).length ≤ 100
    rw [ins_len]
    exact this.2.2.2.2
theorem found_len {rows : Rows} (h : Few rows) (m : List Nat) : (found rows m).length ≤ 80000 := by
  have := flat_len (l := changes rows m) (f := entF) (k := 100) fun c hc => entF_len h hc
  have h2 := changes_len h m
  exact Nat.le_trans this (Nat.mul_le_mul_right 100 h2)
theorem removed_len {rows : Rows} (h : Few rows) (m : List Nat) : (removed rows m).length ≤ 800000 := by
  have := flat_len (l := changes rows m) (f := fun c : Chg => if c.2.2 then remD c.2.1 else []) (k := 1000) fun c hc => by
    obtain ⟨h1, h2, h3⟩ := mem_changes hc
    split
    · cases hd : c.2.1 with
      | back => exact Nat.zero_le _
      | change m x b n t => exact (((h c.1 h1).2 _ h2).m _ _ _ _ _ hd).2.2.2.1
    · exact Nat.zero_le _
  have h2 := changes_len h m
  exact Nat.le_trans this (Nat.mul_le_mul_right 1000 h2)
end DM
namespace HM
open PySem PySem.Spec PyProof.Rows L2 SX HL
section
variable {X : Cx}
/-- case number: -/
theorem pm_int {z : Int} {body : List Stmt} {rest : List MatchCase} {k pos : Pos} {j : Nat} {tb : TS} {t : TMs} (hb : PSs X body tb) (hr : PMs X rest t) :
    PMs X (⟨.MatchValue (.Constant (.int z) j k) pos, none, body⟩ :: rest) (fun v D σ H => ∃ y : Int, v = .int y ∧ if y = z then tb D σ H else t v D σ H) := by
  refine ⟨fun first pins s σ H D v u I r h => ?_⟩
  obtain ⟨y, rfl, h⟩ := h
  refine wpAny_matchCases_cons (wpAny_matchPattern_Value ?_)
  refine thn ((pe_int (X := X) (i := z)).run pins s σ H (fun w H1 => w = .int z ∧ H1 = H) I ⟨rfl, rfl⟩) fun x s1 ⟨w, H1, I1, r1, e1, e2⟩ => ?_
  subst e1
  rw [e2] at I1
  refine thn (op_eq (X := X) pins s1 σ H (.int y) (.int z) u x (fun c H2 => c = .bl (decide (V.int y = V.int z)) ∧ H2 = H) I1 r r1 ⟨rfl, rfl, rfl⟩) fun c s2 ⟨w, H2, I2, r2, e3, e4⟩ => ?_
  subst e3
  rw [e4] at I2
  obtain rfl : c = .bool (decide (V.int y = V.int z)) := r2
  refine wpAny_truthy_bool ?_
  by_cases e : y = z
  · have ed : decide (V.int y = V.int z) = true := decide_eq_true (by rw [e])
    rw [if_pos e] at h
    rw [ed, if_pos rfl]
    exact assignInOrder_nil (hb.run pins s2 σ H D I2 h)
  · have ed : decide (V.int y = V.int z) = false := decide_eq_false (fun q => e (V.int.inj q))
    rw [if_neg e] at h
    rw [ed, if_neg (by simp)]
    exact hr.run false pins s2 σ H D _ u I2 r h
end
end HM
namespace Q40
open PySem PySem.Spec PyProof.Rows L2 SX HL
def topS (i : Nat) : Stmt := PySem.Challenge.pw_quillrun_k40_bytes_of_data.main.body.getD i (.Pass ⟨0, 0, 0, 0⟩)
abbrev sWall : Stmt := topS 0
theorem scWall : FnScope ["k"] ["k"] (defScope sWall) := ⟨rfl, rfl, rfl, by decide +kernel, rfl, by decide +kernel, by decide +kernel⟩
abbrev sForm : Stmt := topS 3
theorem scForm : FnScope ["value"] ["value"] (defScope sForm) := ⟨rfl, rfl, rfl, by decide +kernel, rfl, by decide +kernel, by decide +kernel⟩
abbrev sWriteNumber : Stmt := topS 8
theorem scWriteNumber : FnScope ["number", "data"] ["number"] (defScope sWriteNumber) := ⟨rfl, rfl, rfl, by decide +kernel, rfl, by decide +kernel, by decide +kernel⟩
abbrev sWriteInteger : Stmt := topS 9
theorem scWriteInteger : FnScope ["number"] ["number"] (defScope sWriteInteger) := ⟨rfl, rfl, rfl, by decide +kernel, rfl, by decide +kernel, by decide +kernel⟩
abbrev sWriteString : Stmt := topS 10
theorem scWriteString : FnScope ["text", "character"] ["text"] (defScope sWriteString) := ⟨rfl, rfl, rfl, by decide +kernel, rfl, by decide +kernel, by decide +kernel⟩
abbrev sWriteList : Stmt := topS 11
theorem scWriteList : FnScope ["items", "item", "byte"] ["items"] (defScope sWriteList) := ⟨rfl, rfl, rfl, by decide +kernel, rfl, by decide +kernel, by decide +kernel⟩
abbrev sWriteMark : Stmt := topS 12
theorem scWriteMark : FnScope ["mark"] ["mark"] (defScope sWriteMark) := ⟨rfl, rfl, rfl, by decide +kernel, rfl, by decide +kernel, by decide +kernel⟩
abbrev sWriteDeed : Stmt := topS 13
theorem scWriteDeed : FnScope ["deed", "_", "module", "removed", "behind", "number", "text", "marks", "place", "mark"] ["deed"] (defScope sWriteDeed) := ⟨rfl, rfl, rfl, by decide +kernel, rfl, by decide +kernel, by decide +kernel⟩
abbrev sWriteTriple : Stmt := topS 14
theorem scWriteTriple : FnScope ["triple", "replica", "place", "deed"] ["triple"] (defScope sWriteTriple) := ⟨rfl, rfl, rfl, by decide +kernel, rfl, by decide +kernel, by decide +kernel⟩
abbrev sWritePacket : Stmt := topS 15
theorem scWritePacket : FnScope ["packet", "triple"] ["packet"] (defScope sWritePacket) := ⟨rfl, rfl, rfl, by decide +kernel, rfl, by decide +kernel, by decide +kernel⟩
abbrev sWriteKind : Stmt := topS 16
theorem scWriteKind : FnScope ["kind", "levels", "base", "written"] ["kind"] (defScope sWriteKind) := ⟨rfl, rfl, rfl, by decide +kernel, rfl, by decide +kernel, by decide +kernel⟩
abbrev sWriteValue : Stmt := topS 17
theorem scWriteValue : FnScope ["value"] ["value"] (defScope sWriteValue) := ⟨rfl, rfl, rfl, by decide +kernel, rfl, by decide +kernel, by decide +kernel⟩
abbrev sWriteValues : Stmt := topS 18
theorem scWriteValues : FnScope ["values", "value"] ["values"] (defScope sWriteValues) := ⟨rfl, rfl, rfl, by decide +kernel, rfl, by decide +kernel, by decide +kernel⟩
abbrev sWriteFault : Stmt := topS 19
theorem scWriteFault : FnScope ["fault", "names", "name", "byte"] ["fault"] (defScope sWriteFault) := ⟨rfl, rfl, rfl, by decide +kernel, rfl, by decide +kernel, by decide +kernel⟩
abbrev sWriteOutcome : Stmt := topS 20
theorem scWriteOutcome : FnScope ["outcome"] ["outcome"] (defScope sWriteOutcome) := ⟨rfl, rfl, rfl, by decide +kernel, rfl, by decide +kernel, by decide +kernel⟩
abbrev sWriteMaker : Stmt := topS 21
theorem scWriteMaker : FnScope ["maker", "name", "fields", "kind"] ["maker"] (defScope sWriteMaker) := ⟨rfl, rfl, rfl, by decide +kernel, rfl, by decide +kernel, by decide +kernel⟩
abbrev sWriteData : Stmt := topS 22
theorem scWriteData : FnScope ["data", "name", "makers", "maker"] ["data"] (defScope sWriteData) := ⟨rfl, rfl, rfl, by decide +kernel, rfl, by decide +kernel, by decide +kernel⟩
abbrev sWriteShape : Stmt := topS 23
theorem scWriteShape : FnScope ["shape", "kind", "reached", "data"] ["shape"] (defScope sWriteShape) := ⟨rfl, rfl, rfl, by decide +kernel, rfl, by decide +kernel, by decide +kernel⟩
abbrev sWriteCell : Stmt := topS 24
theorem scWriteCell : FnScope ["name", "shape", "outcome"] ["name", "shape", "outcome"] (defScope sWriteCell) := ⟨rfl, rfl, rfl, by decide +kernel, rfl, by decide +kernel, by decide +kernel⟩
abbrev sWriteCells : Stmt := topS 25
theorem scWriteCells : FnScope ["cells", "name", "shape", "outcome"] ["cells"] (defScope sWriteCells) := ⟨rfl, rfl, rfl, by decide +kernel, rfl, by decide +kernel, by decide +kernel⟩
abbrev sWriteGroup : Stmt := topS 26
theorem scWriteGroup : FnScope ["triples", "cells", "triple"] ["triples", "cells"] (defScope sWriteGroup) := ⟨rfl, rfl, rfl, by decide +kernel, rfl, by decide +kernel, by decide +kernel⟩
abbrev sReaderInit : Stmt := inClass (topS 33) 0
theorem scReaderInit : FnScope ["self", "data", "character"] ["self", "data"] (defScope sReaderInit) := ⟨rfl, rfl, rfl, by decide +kernel, rfl, by decide +kernel, by decide +kernel⟩
abbrev sReaderEnd : Stmt := inClass (topS 33) 1
theorem scReaderEnd : FnScope ["self"] ["self"] (defScope sReaderEnd) := ⟨rfl, rfl, rfl, by decide +kernel, rfl, by decide +kernel, by decide +kernel⟩
abbrev sReaderReadByte : Stmt := inClass (topS 33) 2
theorem scReaderReadByte : FnScope ["self", "most"] ["self", "most"] (defScope sReaderReadByte) := ⟨rfl, rfl, rfl, by decide +kernel, rfl, by decide +kernel, by decide +kernel⟩
abbrev sReaderReadBytes : Stmt := inClass (topS 33) 3
theorem scReaderReadBytes : FnScope ["self", "count"] ["self", "count"] (defScope sReaderReadBytes) := ⟨rfl, rfl, rfl, by decide +kernel, rfl, by decide +kernel, by decide +kernel⟩
abbrev sReaderExpect : Stmt := inClass (topS 33) 4
theorem scReaderExpect : FnScope ["self", "byte"] ["self", "byte"] (defScope sReaderExpect) := ⟨rfl, rfl, rfl, by decide +kernel, rfl, by decide +kernel, by decide +kernel⟩
abbrev sReaderReadNumber : Stmt := inClass (topS 33) 5
theorem scReaderReadNumber : FnScope ["self", "number", "place", "byte"] ["self"] (defScope sReaderReadNumber) := ⟨rfl, rfl, rfl, by decide +kernel, rfl, by decide +kernel, by decide +kernel⟩
abbrev sReaderReadCount : Stmt := inClass (topS 33) 6
theorem scReaderReadCount : FnScope ["self", "count"] ["self"] (defScope sReaderReadCount) := ⟨rfl, rfl, rfl, by decide +kernel, rfl, by decide +kernel, by decide +kernel⟩
abbrev sReaderReadInteger : Stmt := inClass (topS 33) 7
theorem scReaderReadInteger : FnScope ["self", "is_negative", "number"] ["self"] (defScope sReaderReadInteger) := ⟨rfl, rfl, rfl, by decide +kernel, rfl, by decide +kernel, by decide +kernel⟩
abbrev sReaderReadString : Stmt := inClass (topS 33) 8
theorem scReaderReadString : FnScope ["self", "codes", "code"] ["self"] (defScope sReaderReadString) := ⟨rfl, rfl, rfl, by decide +kernel, rfl, by decide +kernel, by decide +kernel⟩
abbrev sReaderReadMark : Stmt := inClass (topS 33) 9
theorem scReaderReadMark : FnScope ["self"] ["self"] (defScope sReaderReadMark) := ⟨rfl, rfl, rfl, by decide +kernel, rfl, by decide +kernel, by decide +kernel⟩
abbrev sReaderReadDeed : Stmt := inClass (topS 33) 10
theorem scReaderReadDeed : FnScope ["self", "module", "removed", "behind", "_"] ["self"] (defScope sReaderReadDeed) := ⟨rfl, rfl, rfl, by decide +kernel, rfl, by decide +kernel, by decide +kernel⟩
abbrev sReaderReadTriples : Stmt := inClass (topS 33) 12
theorem scReaderReadTriples : FnScope ["self", "_"] ["self"] (defScope sReaderReadTriples) := ⟨rfl, rfl, rfl, by decide +kernel, rfl, by decide +kernel, by decide +kernel⟩
abbrev sReaderReadPacket : Stmt := inClass (topS 33) 13
theorem scReaderReadPacket : FnScope ["self"] ["self"] (defScope sReaderReadPacket) := ⟨rfl, rfl, rfl, by decide +kernel, rfl, by decide +kernel, by decide +kernel⟩
abbrev sReaderReadValue : Stmt := inClass (topS 33) 14
theorem scReaderReadValue : FnScope ["self"] ["self"] (defScope sReaderReadValue) := ⟨rfl, rfl, rfl, by decide +kernel, rfl, by decide +kernel, by decide +kernel⟩
abbrev sReaderReadValueU : Stmt := inClass (topS 33) 15
theorem scReaderReadValueU : FnScope ["self", "most_depth"] ["self", "most_depth"] (defScope sReaderReadValueU) := ⟨rfl, rfl, rfl, by decide +kernel, rfl, by decide +kernel, by decide +kernel⟩
abbrev sReaderReadValues : Stmt := inClass (topS 33) 16
theorem scReaderReadValues : FnScope ["self", "most_depth", "_"] ["self", "most_depth"] (defScope sReaderReadValues) := ⟨rfl, rfl, rfl, by decide +kernel, rfl, by decide +kernel, by decide +kernel⟩
abbrev sReaderReadOutcome : Stmt := inClass (topS 33) 17
theorem scReaderReadOutcome : FnScope ["self", "word"] ["self"] (defScope sReaderReadOutcome) := ⟨rfl, rfl, rfl, by decide +kernel, rfl, by decide +kernel, by decide +kernel⟩
abbrev sReaderReadKind : Stmt := inClass (topS 33) 18
theorem scReaderReadKind : FnScope ["self", "levels", "number", "base"] ["self"] (defScope sReaderReadKind) := ⟨rfl, rfl, rfl, by decide +kernel, rfl, by decide +kernel, by decide +kernel⟩
abbrev sReaderReadMaker : Stmt := inClass (topS 33) 19
theorem scReaderReadMaker : FnScope ["self", "_"] ["self"] (defScope sReaderReadMaker) := ⟨rfl, rfl, rfl, by decide +kernel, rfl, by decide +kernel, by decide +kernel⟩
abbrev sReaderReadData : Stmt := inClass (topS 33) 20
theorem scReaderReadData : FnScope ["self", "_"] ["self"] (defScope sReaderReadData) := ⟨rfl, rfl, rfl, by decide +kernel, rfl, by decide +kernel, by decide +kernel⟩
abbrev sReaderReadShape : Stmt := inClass (topS 33) 21
theorem scReaderReadShape : FnScope ["self", "_"] ["self"] (defScope sReaderReadShape) := ⟨rfl, rfl, rfl, by decide +kernel, rfl, by decide +kernel, by decide +kernel⟩
abbrev sReaderReadCell : Stmt := inClass (topS 33) 22
theorem scReaderReadCell : FnScope ["self"] ["self"] (defScope sReaderReadCell) := ⟨rfl, rfl, rfl, by decide +kernel, rfl, by decide +kernel, by decide +kernel⟩
abbrev sReaderReadCells : Stmt := inClass (topS 33) 23
theorem scReaderReadCells : FnScope ["self", "_"] ["self"] (defScope sReaderReadCells) := ⟨rfl, rfl, rfl, by decide +kernel, rfl, by decide +kernel, by decide +kernel⟩
abbrev sReaderReadGroup : Stmt := inClass (topS 33) 24
theorem scReaderReadGroup : FnScope ["self"] ["self"] (defScope sReaderReadGroup) := ⟨rfl, rfl, rfl, by decide +kernel, rfl, by decide +kernel, by decide +kernel⟩
abbrev sLawMix : Stmt := topS 35
theorem scLawMix : FnScope ["cell", "k", "value"] ["cell", "k"] (defScope sLawMix) := ⟨rfl, rfl, rfl, by decide +kernel, rfl, by decide +kernel, by decide +kernel⟩
abbrev sLawDraws : Stmt := topS 36
theorem scLawDraws : FnScope ["script", "draws", "k", "cell", "place"] ["script"] (defScope sLawDraws) := ⟨rfl, rfl, rfl, by decide +kernel, rfl, by decide +kernel, by decide +kernel⟩
abbrev sLawAt : Stmt := topS 37
theorem scLawAt : FnScope ["draws", "index"] ["draws", "index"] (defScope sLawAt) := ⟨rfl, rfl, rfl, by decide +kernel, rfl, by decide +kernel, by decide +kernel⟩
abbrev sLawIsInteger : Stmt := topS 38
theorem scLawIsInteger : FnScope ["actual"] ["actual"] (defScope sLawIsInteger) := ⟨rfl, rfl, rfl, by decide +kernel, rfl, by decide +kernel, by decide +kernel⟩
abbrev sLawSame : Stmt := topS 39
theorem scLawSame : FnScope ["actual", "expected", "k"] ["actual", "expected"] (defScope sLawSame) := ⟨rfl, rfl, rfl, by decide +kernel, rfl, by decide +kernel, by decide +kernel⟩
abbrev sLawNext : Stmt := topS 40
theorem scLawNext : FnScope ["state", "limit"] ["state", "limit"] (defScope sLawNext) := ⟨rfl, rfl, rfl, by decide +kernel, rfl, by decide +kernel, by decide +kernel⟩
abbrev sLawNumber : Stmt := topS 41
theorem scLawNumber : FnScope ["number", "data"] ["number"] (defScope sLawNumber) := ⟨rfl, rfl, rfl, by decide +kernel, rfl, by decide +kernel, by decide +kernel⟩
abbrev sLawListed : Stmt := topS 42
theorem scLawListed : FnScope ["parts", "data", "part"] ["parts"] (defScope sLawListed) := ⟨rfl, rfl, rfl, by decide +kernel, rfl, by decide +kernel, by decide +kernel⟩
abbrev sLawString : Stmt := topS 43
theorem scLawString : FnScope ["text", "chars", "codes", "char", "code"] ["text"] (defScope sLawString) := ⟨rfl, rfl, rfl, by decide +kernel, rfl, by decide +kernel, by decide +kernel⟩
abbrev sLawMarkBytes : Stmt := topS 44
theorem scLawMarkBytes : FnScope ["mark"] ["mark"] (defScope sLawMarkBytes) := ⟨rfl, rfl, rfl, by decide +kernel, rfl, by decide +kernel, by decide +kernel⟩
abbrev sLawDeedBytes : Stmt := topS 45
theorem scLawDeedBytes : FnScope ["deed", "data", "mark"] ["deed"] (defScope sLawDeedBytes) := ⟨rfl, rfl, rfl, by decide +kernel, rfl, by decide +kernel, by decide +kernel⟩
abbrev sLawTriplesBytes : Stmt := topS 46
theorem scLawTriplesBytes : FnScope ["triples", "replica", "place", "deed"] ["triples"] (defScope sLawTriplesBytes) := ⟨rfl, rfl, rfl, by decide +kernel, rfl, by decide +kernel, by decide +kernel⟩
abbrev sLawValueBytes : Stmt := topS 47
theorem scLawValueBytes : FnScope ["value", "item"] ["value"] (defScope sLawValueBytes) := ⟨rfl, rfl, rfl, by decide +kernel, rfl, by decide +kernel, by decide +kernel⟩
abbrev sLawOutcomeBytes : Stmt := topS 48
theorem scLawOutcomeBytes : FnScope ["outcome", "faults", "data"] ["outcome"] (defScope sLawOutcomeBytes) := ⟨rfl, rfl, rfl, by decide +kernel, rfl, by decide +kernel, by decide +kernel⟩
abbrev sLawKindBytes : Stmt := topS 49
theorem scLawKindBytes : FnScope ["kind"] ["kind"] (defScope sLawKindBytes) := ⟨rfl, rfl, rfl, by decide +kernel, rfl, by decide +kernel, by decide +kernel⟩
abbrev sLawCellBytes : Stmt := topS 50
theorem scLawCellBytes : FnScope ["cell", "name", "shape", "outcome", "parts", "data", "makers", "written", "maker", "kinds", "kind"] ["cell"] (defScope sLawCellBytes) := ⟨rfl, rfl, rfl, by decide +kernel, rfl, by decide +kernel, by decide +kernel⟩
abbrev sLawGroupBytes : Stmt := topS 51
theorem scLawGroupBytes : FnScope ["triples", "cells", "cell"] ["triples", "cells"] (defScope sLawGroupBytes) := ⟨rfl, rfl, rfl, by decide +kernel, rfl, by decide +kernel, by decide +kernel⟩
abbrev sLawWord : Stmt := topS 52
theorem scLawWord : FnScope ["state", "words"] ["state"] (defScope sLawWord) := ⟨rfl, rfl, rfl, by decide +kernel, rfl, by decide +kernel, by decide +kernel⟩
abbrev sLawTextOf : Stmt := topS 53
theorem scLawTextOf : FnScope ["state", "chars", "count", "start", "k"] ["state"] (defScope sLawTextOf) := ⟨rfl, rfl, rfl, by decide +kernel, rfl, by decide +kernel, by decide +kernel⟩
abbrev sLawBig : Stmt := topS 54
theorem scLawBig : FnScope ["state", "pick", "number", "k"] ["state"] (defScope sLawBig) := ⟨rfl, rfl, rfl, by decide +kernel, rfl, by decide +kernel, by decide +kernel⟩
abbrev sLawValue : Stmt := topS 55
theorem scLawValue : FnScope ["state", "depth", "pick", "value", "k", "parts"] ["state", "depth"] (defScope sLawValue) := ⟨rfl, rfl, rfl, by decide +kernel, rfl, by decide +kernel, by decide +kernel⟩
abbrev sLawOutcome : Stmt := topS 56
theorem scLawOutcome : FnScope ["state", "pick"] ["state"] (defScope sLawOutcome) := ⟨rfl, rfl, rfl, by decide +kernel, rfl, by decide +kernel, by decide +kernel⟩
abbrev sLawShapeKind : Stmt := topS 57
theorem scLawShapeKind : FnScope ["state"] ["state"] (defScope sLawShapeKind) := ⟨rfl, rfl, rfl, by decide +kernel, rfl, by decide +kernel, by decide +kernel⟩
abbrev sLawCell : Stmt := topS 58
theorem scLawCell : FnScope ["state", "name", "data", "k", "makers", "j", "kinds", "i"] ["state", "name"] (defScope sLawCell) := ⟨rfl, rfl, rfl, by decide +kernel, rfl, by decide +kernel, by decide +kernel⟩
abbrev sLawAnyDeed : Stmt := topS 59
theorem scLawAnyDeed : FnScope ["state", "removed", "behind", "k"] ["state"] (defScope sLawAnyDeed) := ⟨rfl, rfl, rfl, by decide +kernel, rfl, by decide +kernel, by decide +kernel⟩
abbrev sLawRead : Stmt := topS 60
theorem scLawRead : FnScope ["reader", "form_v"] ["reader", "form_v"] (defScope sLawRead) := ⟨rfl, rfl, rfl, by decide +kernel, rfl, by decide +kernel, by decide +kernel⟩
abbrev sLawAsks : Stmt := topS 61
theorem scLawAsks : FnScope ["form_v", "thing", "told", "due", "tail", "data", "passed", "reader", "e"] ["form_v", "thing", "told", "due", "tail"] (defScope sLawAsks) := ⟨rfl, rfl, rfl, by decide +kernel, rfl, by decide +kernel, by decide +kernel⟩
abbrev sLaw : Stmt := topS 62
theorem scLaw : FnScope ["script", "state", "tail", "number", "each", "text", "triples", "deed", "value", "outcome", "cells", "name", "shape", "told", "k"] ["script"] (defScope sLaw) := ⟨rfl, rfl, rfl, by decide +kernel, rfl, by decide +kernel, by decide +kernel⟩
/-- what the top has written -/
structure Defs (K : PySem.W.Frag) (mg : Str → Option Value) where
  ValueError : mg "ValueError" = none
  abs : mg "abs" = none
  any : mg "any" = none
  bool : mg "bool" = none
  int : mg "int" = none
  isinstance : mg "isinstance" = none
  len : mg "len" = none
  list : mg "list" = none
  min : mg "min" = none
  ord : mg "ord" = none
  range : mg "range" = none
  str : mg "str" = none
  tuple : mg "tuple" = none
  kMOST_DEPTH : ∃ t, mg "MOST_DEPTH" = some (.int 40 t)
  kPACKET : ∃ t, mg "PACKET" = some (.int 1 t)
  kLONGEST_NUMBER : ∃ t, mg "LONGEST_NUMBER" = some (.int 60 t)
  kCHARACTERS : ∃ t, mg "CHARACTERS" = some (.str "\n !\"#$&'()*+,-./0123456789:;<=>?@ABCDEFGHIJKLMNOPQRSTUVWXYZ[\\]^_`abcdefghijklmnopqrstuvwxyz{|}~" t)
  fForm : Addr
  fdForm : FuncData
  DForm : DefN K mg "form" sForm ["value"] fForm fdForm
  fWriteNumber : Addr
  fdWriteNumber : FuncData
  DWriteNumber : DefN K mg "write_number" sWriteNumber ["number"] fWriteNumber fdWriteNumber
  fWriteInteger : Addr
  fdWriteInteger : FuncData
  DWriteInteger : DefN K mg "write_integer" sWriteInteger ["number"] fWriteInteger fdWriteInteger
  fWriteString : Addr
  fdWriteString : FuncData
  DWriteString : DefN K mg "write_string" sWriteString ["text"] fWriteString fdWriteString
  fWriteList : Addr
  fdWriteList : FuncData
  DWriteList : DefN K mg "write_list" sWriteList ["items"] fWriteList fdWriteList
  fWriteMark : Addr
  fdWriteMark : FuncData
  DWriteMark : DefN K mg "write_mark" sWriteMark ["mark"] fWriteMark fdWriteMark
  fWriteDeed : Addr
  fdWriteDeed : FuncData
  DWriteDeed : DefN K mg "write_deed" sWriteDeed ["deed"] fWriteDeed fdWriteDeed
  fWriteTriple : Addr
  fdWriteTriple : FuncData
  DWriteTriple : DefN K mg "write_triple" sWriteTriple ["triple"] fWriteTriple fdWriteTriple
  fWritePacket : Addr
  fdWritePacket : FuncData
  DWritePacket : DefN K mg "write_packet" sWritePacket ["packet"] fWritePacket fdWritePacket
  fWriteKind : Addr
  fdWriteKind : FuncData
  DWriteKind : DefN K mg "write_kind" sWriteKind ["kind"] fWriteKind fdWriteKind
  fWriteValue : Addr
  fdWriteValue : FuncData
  DWriteValue : DefN K mg "write_value" sWriteValue ["value"] fWriteValue fdWriteValue
  fWriteValues : Addr
  fdWriteValues : FuncData
  DWriteValues : DefN K mg "write_values" sWriteValues ["values"] fWriteValues fdWriteValues
  fWriteFault : Addr
  fdWriteFault : FuncData
  DWriteFault : DefN K mg "write_fault" sWriteFault ["fault"] fWriteFault fdWriteFault
  fWriteOutcome : Addr
  fdWriteOutcome : FuncData
  DWriteOutcome : DefN K mg "write_outcome" sWriteOutcome ["outcome"] fWriteOutcome fdWriteOutcome
  fWriteMaker : Addr
  fdWriteMaker : FuncData
  DWriteMaker : DefN K mg "write_maker" sWriteMaker ["maker"] fWriteMaker fdWriteMaker
  fWriteData : Addr
  fdWriteData : FuncData
  DWriteData : DefN K mg "write_data" sWriteData ["data"] fWriteData fdWriteData
  fWriteShape : Addr
  fdWriteShape : FuncData
  DWriteShape : DefN K mg "write_shape" sWriteShape ["shape"] fWriteShape fdWriteShape
  fWriteCell : Addr
  fdWriteCell : FuncData
  DWriteCell : DefN K mg "write_cell" sWriteCell ["name", "shape", "outcome"] fWriteCell fdWriteCell
  fWriteCells : Addr
  fdWriteCells : FuncData
  DWriteCells : DefN K mg "write_cells" sWriteCells ["cells"] fWriteCells fdWriteCells
  fWriteGroup : Addr
  fdWriteGroup : FuncData
  DWriteGroup : DefN K mg "write_group" sWriteGroup ["triples", "cells"] fWriteGroup fdWriteGroup
  fLawMix : Addr
  fdLawMix : FuncData
  DLawMix : DefN K mg "_law_mix" sLawMix ["cell", "k"] fLawMix fdLawMix
  fLawDraws : Addr
  fdLawDraws : FuncData
  DLawDraws : DefN K mg "_law_draws" sLawDraws ["script"] fLawDraws fdLawDraws
  fLawAt : Addr
  fdLawAt : FuncData
  DLawAt : DefN K mg "_law_at" sLawAt ["draws", "index"] fLawAt fdLawAt
  fLawIsInteger : Addr
  fdLawIsInteger : FuncData
  DLawIsInteger : DefN K mg "_law_is_integer" sLawIsInteger ["actual"] fLawIsInteger fdLawIsInteger
  fLawSame : Addr
  fdLawSame : FuncData
  DLawSame : DefN K mg "_law_same" sLawSame ["actual", "expected"] fLawSame fdLawSame
  fLawNext : Addr
  fdLawNext : FuncData
  DLawNext : DefN K mg "_law_next" sLawNext ["state", "limit"] fLawNext fdLawNext
  fLawNumber : Addr
  fdLawNumber : FuncData
  DLawNumber : DefN K mg "_law_number" sLawNumber ["number"] fLawNumber fdLawNumber
  fLawListed : Addr
  fdLawListed : FuncData
  DLawListed : DefN K mg "_law_listed" sLawListed ["parts"] fLawListed fdLawListed
  fLawString : Addr
  fdLawString : FuncData
  DLawString : DefN K mg "_law_string" sLawString ["text"] fLawString fdLawString
  fLawMarkBytes : Addr
  fdLawMarkBytes : FuncData
  DLawMarkBytes : DefN K mg "_law_mark_bytes" sLawMarkBytes ["mark"] fLawMarkBytes fdLawMarkBytes
  fLawDeedBytes : Addr
  fdLawDeedBytes : FuncData
  DLawDeedBytes : DefN K mg "_law_deed_bytes" sLawDeedBytes ["deed"] fLawDeedBytes fdLawDeedBytes
  fLawTriplesBytes : Addr
  fdLawTriplesBytes : FuncData
  DLawTriplesBytes : DefN K mg "_law_triples_bytes" sLawTriplesBytes ["triples"] fLawTriplesBytes fdLawTriplesBytes
  fLawValueBytes : Addr
  fdLawValueBytes : FuncData
  DLawValueBytes : DefN K mg "_law_value_bytes" sLawValueBytes ["value"] fLawValueBytes fdLawValueBytes
  fLawOutcomeBytes : Addr
  fdLawOutcomeBytes : FuncData
  DLawOutcomeBytes : DefN K mg "_law_outcome_bytes" sLawOutcomeBytes ["outcome"] fLawOutcomeBytes fdLawOutcomeBytes
  fLawKindBytes : Addr
  fdLawKindBytes : FuncData
  DLawKindBytes : DefN K mg "_law_kind_bytes" sLawKindBytes ["kind"] fLawKindBytes fdLawKindBytes
  fLawCellBytes : Addr
  fdLawCellBytes : FuncData
  DLawCellBytes : DefN K mg "_law_cell_bytes" sLawCellBytes ["cell"] fLawCellBytes fdLawCellBytes
  fLawGroupBytes : Addr
  fdLawGroupBytes : FuncData
  DLawGroupBytes : DefN K mg "_law_group_bytes" sLawGroupBytes ["triples", "cells"] fLawGroupBytes fdLawGroupBytes
  fLawWord : Addr
  fdLawWord : FuncData
  DLawWord : DefN K mg "_law_word" sLawWord ["state"] fLawWord fdLawWord
  fLawTextOf : Addr
  fdLawTextOf : FuncData
  DLawTextOf : DefN K mg "_law_text_of" sLawTextOf ["state"] fLawTextOf fdLawTextOf
  fLawBig : Addr
  fdLawBig : FuncData
  DLawBig : DefN K mg "_law_big" sLawBig ["state"] fLawBig fdLawBig
  fLawValue : Addr
  fdLawValue : FuncData
  DLawValue : DefN K mg "_law_value" sLawValue ["state", "depth"] fLawValue fdLawValue
  fLawOutcome : Addr
  fdLawOutcome : FuncData
  DLawOutcome : DefN K mg "_law_outcome" sLawOutcome ["state"] fLawOutcome fdLawOutcome
  fLawShapeKind : Addr
  fdLawShapeKind : FuncData
  DLawShapeKind : DefN K mg "_law_shape_kind" sLawShapeKind ["state"] fLawShapeKind fdLawShapeKind
  fLawCell : Addr
  fdLawCell : FuncData
  DLawCell : DefN K mg "_law_cell" sLawCell ["state", "name"] fLawCell fdLawCell
  fLawAnyDeed : Addr
  fdLawAnyDeed : FuncData
  DLawAnyDeed : DefN K mg "_law_any_deed" sLawAnyDeed ["state"] fLawAnyDeed fdLawAnyDeed
  fLawRead : Addr
  fdLawRead : FuncData
  DLawRead : DefN K mg "_law_read" sLawRead ["reader", "form_v"] fLawRead fdLawRead
  fLawAsks : Addr
  fdLawAsks : FuncData
  DLawAsks : DefN K mg "_law_asks" sLawAsks ["form_v", "thing", "told", "due", "tail"] fLawAsks fdLawAsks
  fLaw : Addr
  fdLaw : FuncData
  DLaw : DefN K mg "law" sLaw ["script"] fLaw fdLaw
  cReader : Addr
  fReaderInit : Addr
  fdReaderInit : FuncData
  DReaderInit : DefI K "Reader.__init__" sReaderInit ["self", "data"] fReaderInit fdReaderInit
  CReader : ClsN K mg "Reader" cReader fReaderInit
  fReaderEnd : Addr
  fdReaderEnd : FuncData
  DReaderEnd : DefM K cReader "end" "Reader.end" sReaderEnd ["self"] fReaderEnd fdReaderEnd
  fReaderReadByte : Addr
  fdReaderReadByte : FuncData
  DReaderReadByte : HX.DefMD K cReader "read_byte" "Reader.read_byte" sReaderReadByte ["self", "most"] [V.int 255] fReaderReadByte fdReaderReadByte
  fReaderReadBytes : Addr
  fdReaderReadBytes : FuncData
  DReaderReadBytes : DefM K cReader "read_bytes" "Reader.read_bytes" sReaderReadBytes ["self", "count"] fReaderReadBytes fdReaderReadBytes
  fReaderExpect : Addr
  fdReaderExpect : FuncData
  DReaderExpect : DefM K cReader "expect" "Reader.expect" sReaderExpect ["self", "byte"] fReaderExpect fdReaderExpect
  fReaderReadNumber : Addr
  fdReaderReadNumber : FuncData
  DReaderReadNumber : DefM K cReader "read_number" "Reader.read_number" sReaderReadNumber ["self"] fReaderReadNumber fdReaderReadNumber
  fReaderReadCount : Addr
  fdReaderReadCount : FuncData
  DReaderReadCount : DefM K cReader "read_count" "Reader.read_count" sReaderReadCount ["self"] fReaderReadCount fdReaderReadCount
  fReaderReadInteger : Addr
  fdReaderReadInteger : FuncData
  DReaderReadInteger : DefM K cReader "read_integer" "Reader.read_integer" sReaderReadInteger ["self"] fReaderReadInteger fdReaderReadInteger
  fReaderReadString : Addr
  fdReaderReadString : FuncData
  DReaderReadString : DefM K cReader "read_string" "Reader.read_string" sReaderReadString ["self"] fReaderReadString fdReaderReadString
  fReaderReadMark : Addr
  fdReaderReadMark : FuncData
  DReaderReadMark : DefM K cReader "read_mark" "Reader.read_mark" sReaderReadMark ["self"] fReaderReadMark fdReaderReadMark
  fReaderReadDeed : Addr
  fdReaderReadDeed : FuncData
  DReaderReadDeed : DefM K cReader "read_deed" "Reader.read_deed" sReaderReadDeed ["self"] fReaderReadDeed fdReaderReadDeed
  fReaderReadTriples : Addr
  fdReaderReadTriples : FuncData
  DReaderReadTriples : DefM K cReader "read_triples" "Reader.read_triples" sReaderReadTriples ["self"] fReaderReadTriples fdReaderReadTriples
  fReaderReadPacket : Addr
  fdReaderReadPacket : FuncData
  DReaderReadPacket : DefM K cReader "read_packet" "Reader.read_packet" sReaderReadPacket ["self"] fReaderReadPacket fdReaderReadPacket
  fReaderReadValue : Addr
  fdReaderReadValue : FuncData
  DReaderReadValue : DefM K cReader "read_value" "Reader.read_value" sReaderReadValue ["self"] fReaderReadValue fdReaderReadValue
  fReaderReadValueU : Addr
  fdReaderReadValueU : FuncData
  DReaderReadValueU : DefM K cReader "_read_value" "Reader._read_value" sReaderReadValueU ["self", "most_depth"] fReaderReadValueU fdReaderReadValueU
  fReaderReadValues : Addr
  fdReaderReadValues : FuncData
  DReaderReadValues : DefM K cReader "_read_values" "Reader._read_values" sReaderReadValues ["self", "most_depth"] fReaderReadValues fdReaderReadValues
  fReaderReadOutcome : Addr
  fdReaderReadOutcome : FuncData
  DReaderReadOutcome : DefM K cReader "read_outcome" "Reader.read_outcome" sReaderReadOutcome ["self"] fReaderReadOutcome fdReaderReadOutcome
  fReaderReadKind : Addr
  fdReaderReadKind : FuncData
  DReaderReadKind : DefM K cReader "read_kind" "Reader.read_kind" sReaderReadKind ["self"] fReaderReadKind fdReaderReadKind
  fReaderReadMaker : Addr
  fdReaderReadMaker : FuncData
  DReaderReadMaker : DefM K cReader "read_maker" "Reader.read_maker" sReaderReadMaker ["self"] fReaderReadMaker fdReaderReadMaker
  fReaderReadData : Addr
  fdReaderReadData : FuncData
  DReaderReadData : DefM K cReader "read_data" "Reader.read_data" sReaderReadData ["self"] fReaderReadData fdReaderReadData
  fReaderReadShape : Addr
  fdReaderReadShape : FuncData
  DReaderReadShape : DefM K cReader "read_shape" "Reader.read_shape" sReaderReadShape ["self"] fReaderReadShape fdReaderReadShape
  fReaderReadCell : Addr
  fdReaderReadCell : FuncData
  DReaderReadCell : DefM K cReader "read_cell" "Reader.read_cell" sReaderReadCell ["self"] fReaderReadCell fdReaderReadCell
  fReaderReadCells : Addr
  fdReaderReadCells : FuncData
  DReaderReadCells : DefM K cReader "read_cells" "Reader.read_cells" sReaderReadCells ["self"] fReaderReadCells fdReaderReadCells
  fReaderReadGroup : Addr
  fdReaderReadGroup : FuncData
  DReaderReadGroup : DefM K cReader "read_group" "Reader.read_group" sReaderReadGroup ["self"] fReaderReadGroup fdReaderReadGroup
  nReader_at : NoAttr K cReader "at"
  nReader_data : NoAttr K cReader "_data"
  nReader_characters : NoAttr K cReader "_characters"
  eQuillrunError : Addr
  EQuillrunError : ExcN K mg "QuillrunError" eQuillrunError
  eDamagedPacket : Addr
  EDamagedPacket : ExcN K mg "DamagedPacket" eDamagedPacket
  aBASES : Addr
  gBASES : mg "BASES" = some (.ref aBASES)
  sBASES : ∀ H : Hp, SqT K H aBASES [V.str "num", V.str "text", V.str "bool"]
  aFAULTS : Addr
  gFAULTS : mg "FAULTS" = some (.ref aFAULTS)
  sFAULTS : ∀ H : Hp, SqT K H aFAULTS [V.str "division", V.str "deep", V.str "large", V.str "missing", V.str "stuck", V.str "long"]
  tBASES : ∃ o, K.lookup aBASES = some o ∧ o.cls = .type "tuple" ∧ o.dict = none
  tFAULTS : ∃ o, K.lookup aFAULTS = some o ∧ o.cls = .type "tuple" ∧ o.dict = none
  XO : ExcC K eDamagedPacket
  kDD : PySem.W.kitOne K (.ref eDamagedPacket) (.ref eDamagedPacket) = some true
  kDV : PySem.W.kitOne K (.ref eDamagedPacket) (.type "ValueError") = some true
  xDQ : PySem.W.exmOne K (.ref eDamagedPacket) (.ref eQuillrunError) = some true
end Q40
namespace Q40
open PySem PySem.Spec PyProof.Rows L2 SX HL
section
variable {P : Program} {w : World} {K : PySem.W.Frag} {mg : Str → Option Value} {base : Heap}
/-! ### _law_mix -/
def spMix : Sp := fun vs H Q _ => ∃ (c k : Int), vs = [.int c, .int k] ∧ ∀ v, 0 ≤ v → v < 9973 → Q (.int v) H
theorem ok_mix {k : Nat} (Z : Defs K mg) : FnOk P w K mg base CX0 (k + 1) Z.fLawMix Z.fdLawMix ["cell", "k"] spMix := by
  refine Z.DLawMix.F.ok scLawMix (fun vs H Q E h => ?_) (fun cdv A outer s H vs Q E hr h => ?_)
  · obtain ⟨c, k, rfl, _⟩ := h
    rfl
  · obtain ⟨c, k, rfl, qq⟩ := h
    refine ⟨_, (pss_cons (ps_set (i := 2) scLawMix.nd rfl (.inl rfl) (pe_op op_mod (pe_callTy call_int1 (by rfl) Z.int HL.boot_int (pa_cons (pe_op op_add (pe_op op_add (pe_op op_mul (pe_callTy call_int1 (by rfl) Z.int HL.boot_int (pa_cons (pv 0) pa_nil)) pe_int) (pe_op op_mul (pv 1) pe_int)) pe_int) pa_nil)) pe_int))
        (pss_cons (ps_set (i := 2) scLawMix.nd rfl (.inl rfl) (pe_op op_mod (pe_callTy call_int1 (by rfl) Z.int HL.boot_int (pa_cons (pe_op op_add (pe_op op_add (pe_op op_mul (pv 2) (pv 2)) (pe_op op_mul (pv 1) pe_int)) pe_int) pa_nil)) pe_int))
        (pss_one (ps_ret (pe_op op_mod (pe_op op_fdiv (pv 2) pe_int) pe_int))))), ?_⟩
    refine ⟨_, rfl, .inl ⟨c, rfl, _, _, rfl, rfl, .inr ⟨by decide, by decide⟩, _, rfl, _, _, rfl, rfl, .inr ⟨by decide, by decide⟩, _, _, rfl, rfl, _, _, rfl, rfl, .inl ⟨_, rfl, _, _, rfl, rfl, (by show (0 : Int) < 2147483647; decide), ?_⟩⟩⟩
    have v0 := Int.emod_nonneg (c * 48271 + k * 69621 + 12345) (show (2147483647 : Int) ≠ 0 by decide)
    have v1 := Int.emod_lt_of_pos (c * 48271 + k * 69621 + 12345) (show (0 : Int) < 2147483647 by decide)
    revert v0 v1
    dsimp only
    generalize (c * 48271 + k * 69621 + 12345) % 2147483647 = v
    intro v0 v1
    refine ⟨_, rfl, _, rfl, v, v, rfl, rfl, .inl ⟨by omega, by omega⟩, _, rfl, _, _, rfl, rfl, .inr ⟨by decide, by decide⟩, _, _, rfl, rfl, _, _, rfl, rfl, .inl ⟨_, rfl, _, _, rfl, rfl, (by show (0 : Int) < 2147483399; decide), ?_⟩⟩
    refine ⟨_, rfl, _, _, rfl, rfl, ⟨by decide, by decide⟩, _, _, rfl, rfl, (by show (0 : Int) < 9973; decide), qq _ (Int.emod_nonneg _ (by decide)) (Int.emod_lt_of_pos _ (by decide))⟩
end
end Q40
namespace Q40
open PySem PySem.Spec PyProof.Rows L2 SX HL
section
variable {P : Program} {w : World} {K : PySem.W.Frag} {mg : Str → Option Value} {base : Heap}
/-! ### _law_draws -/
def Draws (ds : List Int) : Prop := ∀ x ∈ ds, 0 ≤ x ∧ x < 9973
def spDraws (K : PySem.W.Frag) : Sp := fun vs H Q _ => ∃ (a : Addr) (ns : List Int), vs = [.ref a] ∧ SqL K H a (ns.map V.int) ∧ ns.length ≤ 63 ∧
  ∀ d H' ds, H d = none → Same H H' → H' d = some (.lst (ds.map V.int)) → ds.length ≤ 4000 → Draws ds → Q (.ref d) H'
theorem ok_draws {k : Nat} (Z : Defs K mg) : FnOk P w K mg base CX0 (k + 2) Z.fLawDraws Z.fdLawDraws ["script"] (spDraws K) := by
  have GLawMix : FnOk P w K mg base CX0 (k + 1) Z.fLawMix Z.fdLawMix ["cell", "k"] spMix := ok_mix Z
  refine Z.DLawDraws.F.ok scLawDraws (fun vs H Q E h => ?_) (fun cdv A outer s H vs Q E hr h => ?_)
  · obtain ⟨a, ns, rfl, _⟩ := h
    rfl
  · obtain ⟨a, ns, rfl, hS, hl, qq⟩ := h
    refine ⟨_, (pss_cons (ps_set (i := 1) scLawDraws.nd rfl (.inl rfl) (pe_lst pa_nil))
        (pss_cons (ps_for PassesOwn.never rfl (pi_range1 (by rfl) Z.range (pa_cons (pe_callB (call_min2 rfl) (by rfl) Z.min (by decide +kernel) (pa_cons pe_int (pa_cons (pe_callB call_len_seq (by rfl) Z.len PySem.boot_len (pa_cons (pv 0) pa_nil)) pa_nil))) pa_nil)) (pg_name (i := 2) scLawDraws.nd rfl (.inl rfl)) (pss_cons (ps_set (i := 3) scLawDraws.nd rfl (.inl rfl) (pe_callTy call_int1 (by rfl) Z.int HL.boot_int (pa_cons (pe_ix ix_list (pv 0) (pv 2) (fun _ _ => rfl)) pa_nil)))
        (pss_one (ps_if (pt_cmpR op_lt (pv 3) (pe_op op_pow pe_int pe_int) (nomark _)) (pss_one (ps_expr (pe_bm PySem.F.plainAttrs_list PySem.F.slot_list_append PySem.F.type_list_append mt_append (pv 1) (pa_cons (pe_call GLawMix (hr.mono (by omega)) (by rfl) Z.DLawMix.g Z.DLawMix.F.kp Z.DLawMix.b .nil pass0 (pa_cons (pv 3) (pa_cons (pv 2) pa_nil))) pa_nil)))) (pss_one (ps_for PassesOwn.never rfl (pi_range1 (by rfl) Z.range (pa_cons pe_int pa_nil)) (pg_name (i := 4) scLawDraws.nd rfl (.inl rfl)) (pss_one (ps_if (pt_cmpR op_gt (pv 3) pe_int (nomark _)) (pss_cons (ps_expr (pe_bm PySem.F.plainAttrs_list PySem.F.slot_list_append PySem.F.type_list_append mt_append (pv 1) (pa_cons (pe_op op_mod (pe_callTy call_int1 (by rfl) Z.int HL.boot_int (pa_cons (pv 3) pa_nil)) pe_int) pa_nil)))
        (pss_one (ps_set (i := 3) scLawDraws.nd rfl (.inl rfl) (pe_op op_fdiv (pv 3) pe_int)))) pss_nil))))))))
        (pss_one (ps_ret (pv 1))))), ?_⟩
    refine ⟨Nat.zero_le _, fun D0 hD => ⟨_, rfl, a, _, rfl, .inl ((same_upd hD).seq hS), 63, _, rfl, _, rfl, ?_⟩⟩
    have hlen : (ns.map V.int).length = ns.length := List.length_map _
    rw [hlen]
    have nn : (if (ns.length : Int) < 63 then (ns.length : Int) else 63) = (ns.length : Int) := by
      split <;> omega
    rw [nn]
    refine ⟨by omega, by omega, ?_⟩
    have ap : ∀ {H' : Hp} {ds : List Int} {v : Int}, Same H H' → Same H (upd H' D0 (.lst (ds.map V.int ++ [.int v]))) := fun s b o hb => by
      rw [upd_ne (ne_of_none hb hD)]
      exact s b o hb
    refine for_range (lo := 0) (n := ns.length) (fun i σ H' => ∃ (ds : List Int) (y2 y3 y4 : Option V), σ = [some (.ref a), some (.ref D0), y2, y3, y4] ∧ Same H H' ∧ H' D0 = some (.lst (ds.map V.int)) ∧ ds.length ≤ 60 * i ∧ Draws ds)
      ⟨[], none, none, none, rfl, same_upd hD, upd_same, Nat.zero_le _, fun _ h => nomatch h⟩ ?_ ?_
    · rintro i σ H' hi ⟨ds, y2, y3, y4, rfl, sm, hd, hdl, hdr⟩
      have hg : atI (ns.map V.int) ((0 : Int) + (i : Int)) = some (.int (ns.getD i 0)) := by
        rw [Int.zero_add]
        refine atI_nat ?_
        simp [hi]
      generalize ns.getD i 0 = x at hg
      refine ⟨_, rfl, _, rfl, a, _, _, _, rfl, rfl, sm.seq hS, hg, .inl ⟨x, rfl, ?_⟩⟩
      refine ⟨_, rfl, 10, 18, rfl, rfl, ⟨by decide, by decide, by decide⟩, _, _, rfl, rfl, _, rfl, ite2 (fun _ => ?_) (fun e => ?_)⟩
      · refine ⟨_, rfl, .inl ⟨rfl, _, SqL.of hd⟩, _, rfl, _, rfl, x, _, rfl, fun v v0 v1 => ⟨D0, _, _, rfl, rfl, hd, ?_, ?_⟩⟩
        · rw [List.length_map]
          exact Nat.lt_of_le_of_lt (show ds.length ≤ 4000 by omega) (by decide)
        · refine ⟨ds ++ [v], _, _, _, rfl, ap sm, by rw [upd_same]; simp, by simp; omega, fun y hy => ?_⟩
          rcases List.mem_append.mp hy with hy | hy
          · exact hdr y hy
          · rw [List.mem_singleton.mp hy]
            exact ⟨v0, v1⟩
      · refine ⟨60, rfl, by decide, by decide, ?_⟩
        refine for_range (lo := 0) (n := 60) (fun j σ H' => ∃ (ds2 : List Int) (x : Int) (y4 : Option V), σ = [some (.ref a), some (.ref D0), some (.int (0 + (i : Int))), some (.int x), y4] ∧ Same H H' ∧ H' D0 = some (.lst (ds2.map V.int)) ∧ ds2.length ≤ 60 * i + j ∧ Draws ds2)
          ⟨ds, x, y4, rfl, sm, hd, hdl, hdr⟩ ?_ ?_
        · rintro j σ H2 hj ⟨ds2, x, y4, rfl, sm2, hd2, hdl2, hdr2⟩
          refine ⟨_, rfl, x, 0, rfl, rfl, _, rfl, ite2 (fun e => ?_) (fun e => ?_)⟩
          · refine ⟨_, rfl, .inl ⟨rfl, _, SqL.of hd2⟩, _, rfl, .inl ⟨x, rfl, x, 9973, rfl, rfl, (by show (0 : Int) < 9973; decide), D0, _, _, rfl, rfl, hd2, ?_, ?_⟩⟩
            · rw [List.length_map]
              exact Nat.lt_of_le_of_lt (show ds2.length ≤ 4000 by omega) (by decide)
            · refine ⟨_, rfl, x, 9973, rfl, rfl, ⟨by decide, by decide⟩, ds2 ++ [x % 9973], x / 9973, _, rfl, ap sm2, by rw [upd_same]; simp, by simp; omega, fun y hy => ?_⟩
              rcases List.mem_append.mp hy with hy | hy
              · exact hdr2 y hy
              · rw [List.mem_singleton.mp hy]
                exact ⟨Int.emod_nonneg _ (by decide), Int.emod_lt_of_pos _ (by decide)⟩
          · exact ⟨ds2, x, _, rfl, sm2, hd2, by omega, hdr2⟩
        · rintro σ H2 ⟨ds2, x, y4, rfl, sm2, hd2, hdl2, hdr2⟩
          exact ⟨ds2, _, _, _, rfl, sm2, hd2, by omega, hdr2⟩
    · rintro σ H' ⟨ds, y2, y3, y4, rfl, sm, hd, hdl, hdr⟩
      exact ⟨_, rfl, qq D0 H' ds hD sm hd (by omega) hdr⟩
/-! ### _law_at -/
def spAt : Sp := fun vs H Q _ => ∃ (d : Addr) (ds : List Int) (i : Int), vs = [.ref d, .int i] ∧ H d = some (.lst (ds.map V.int)) ∧ Draws ds ∧ 0 ≤ i ∧ ∀ v, 0 ≤ v → v < 9973 → Q (.int v) H
theorem ok_at {k : Nat} (Z : Defs K mg) : FnOk P w K mg base CX0 (k + 2) Z.fLawAt Z.fdLawAt ["draws", "index"] spAt := by
  have GLawMix : FnOk P w K mg base CX0 (k + 1) Z.fLawMix Z.fdLawMix ["cell", "k"] spMix := ok_mix Z
  refine Z.DLawAt.F.ok scLawAt (fun vs H Q E h => ?_) (fun cdv A outer s H vs Q E hr h => ?_)
  · obtain ⟨a, ns, i, rfl, _⟩ := h
    rfl
  · obtain ⟨d, ds, i, rfl, hd, hD, i0, qq⟩ := h
    refine ⟨_, (pss_cons (ps_if (pt_cmpR op_lt (pv 1) (pe_callB call_len_seq (by rfl) Z.len PySem.boot_len (pa_cons (pv 0) pa_nil)) (nomark _)) (pss_one (ps_ret (pe_ix ix_list (pv 0) (pv 1) (fun _ _ => rfl)))) pss_nil)
        (pss_cons (ps_if (pt_cmpR op_eq (pe_callB call_len_seq (by rfl) Z.len PySem.boot_len (pa_cons (pv 0) pa_nil)) pe_int (nomark _)) (pss_one (ps_ret (pe_call GLawMix (hr.mono (by omega)) (by rfl) Z.DLawMix.g Z.DLawMix.F.kp Z.DLawMix.b .nil pass0 (pa_cons (pv 1) (pa_cons pe_int pa_nil))))) pss_nil)
        (pss_one (ps_ret (pe_call GLawMix (hr.mono (by omega)) (by rfl) Z.DLawMix.g Z.DLawMix.F.kp Z.DLawMix.b .nil pass0 (pa_cons (pe_op op_add (pe_ix ix_list (pv 0) (pe_op op_mod (pe_callTy call_int1 (by rfl) Z.int HL.boot_int (pa_cons (pv 1) pa_nil)) (pe_callB call_len_seq (by rfl) Z.len PySem.boot_len (pa_cons (pv 0) pa_nil))) (fun _ _ => rfl)) (pe_op op_mul (pv 1) pe_int)) (pa_cons (pv 1) pa_nil))))))), ?_⟩
    have hlen : (ds.map V.int).length = ds.length := List.length_map _
    refine ⟨_, rfl, _, rfl, d, _, rfl, .inl (SqL.of hd), _, _, rfl, rfl, _, rfl, ite2 (fun e => ?_) (fun e => ?_)⟩
    · have e2 : i < ((ds.map V.int).length : Int) := of_decide_eq_true e
      rw [hlen] at e2
      have hi : i.toNat < ds.length := by omega
      have hg : atI (ds.map V.int) i = some (.int ds[i.toNat]) := by
        have h0 := atI_nat (xs := ds.map V.int) (j := i.toNat) (v := .int ds[i.toNat]) (by simp [hi])
        have : ((i.toNat : Nat) : Int) = i := by omega
        rwa [this] at h0
      have hb := hD _ (List.getElem_mem hi)
      exact ⟨_, rfl, _, rfl, d, _, i, _, rfl, rfl, SqL.of hd, hg, qq _ hb.1 hb.2⟩
    · refine ⟨_, rfl, d, _, rfl, .inl (SqL.of hd), rfl, _, rfl, ite2 (fun e2 => ?_) (fun e2 => ?_)⟩
      · exact ⟨_, rfl, i, 77, rfl, qq⟩
      · have hp : 0 < ds.length := by
          rcases Nat.eq_zero_or_pos ds.length with z | z
          · exact absurd (decide_eq_true (by rw [hlen, z]; rfl)) e2
          · exact z
        have m0 := Int.emod_nonneg i (show (ds.length : Int) ≠ 0 by omega)
        have m1 := Int.emod_lt_of_pos i (show (0 : Int) < (ds.length : Int) by omega)
        have hi : (i % (ds.length : Int)).toNat < ds.length := by omega
        have hg : atI (ds.map V.int) (i % (ds.length : Int)) = some (.int ds[(i % (ds.length : Int)).toNat]) := by
          have h0 := atI_nat (xs := ds.map V.int) (j := (i % (ds.length : Int)).toNat) (v := .int ds[(i % (ds.length : Int)).toNat]) (by simp [hi])
          have : (((i % (ds.length : Int)).toNat : Nat) : Int) = i % (ds.length : Int) := by omega
          rwa [this] at h0
        generalize ds[(i % (ds.length : Int)).toNat] = x at hg
        refine ⟨_, rfl, _, rfl, .inl ⟨i, rfl, _, rfl, d, _, rfl, .inl (SqL.of hd), ?_⟩⟩
        rw [hlen]
        refine ⟨_, _, rfl, rfl, (by show (0 : Int) < (ds.length : Int); omega), d, _, _, _, rfl, rfl, SqL.of hd, hg, _, rfl, i, 131, rfl, rfl, .inr ⟨by decide, by decide⟩, _, _, rfl, rfl, _, rfl, _, _, rfl, qq⟩
end
end Q40
namespace Q40
open PySem PySem.Spec PyProof.Rows L2 SX HL
section
variable {P : Program} {w : World} {K : PySem.W.Frag} {mg : Str → Option Value} {base : Heap}
/-! ### _law_is_integer -/
def spIsInt : Sp := fun vs H Q _ => ∃ i : Int, vs = [.int i] ∧ Q (.bl true) H
theorem ok_isint {k : Nat} (Z : Defs K mg) : FnOk P w K mg base CX0 (k + 1) Z.fLawIsInteger Z.fdLawIsInteger ["actual"] spIsInt := by
  refine Z.DLawIsInteger.F.ok scLawIsInteger (fun vs H Q E h => ?_) (fun cdv A outer s H vs Q E hr h => ?_)
  · obtain ⟨i, rfl, _⟩ := h
    rfl
  · obtain ⟨i, rfl, q⟩ := h
    refine ⟨_, (pss_one (ps_ret (pe_and (pe_callB call_isB (by rfl) Z.isinstance HL.boot_isinstance (pa_cons (pv 0) (pa_cons (pe_bltn (v := .ty "int") (by rfl) Z.int HL.boot_int rfl) pa_nil))) (pe_one (pe_not (pe_callB call_isB (by rfl) Z.isinstance HL.boot_isinstance (pa_cons (pv 0) (pa_cons (pe_bltn (v := .ty "bool") (by rfl) Z.bool HL.boot_bool rfl) pa_nil)))))))), ?_⟩
    refine ⟨_, rfl, _, "int", "int", true, rfl, .base (.int i), by decide +kernel, true, rfl, iteT ?_⟩
    exact ⟨_, rfl, _, "int", "bool", false, rfl, .base (.int i), by decide +kernel, false, rfl, q⟩
/-! ### _law_same -/
def spLess (K : PySem.W.Frag) : Nat → Sp
  | 0 => fun _ _ _ _ => False
  | n + 1 => spSameG K n
theorem same_step {n : Nat} (Z : Defs K mg)
    (GLawSame : FnOk P w K mg base CX0 (n + 1) Z.fLawSame Z.fdLawSame ["actual", "expected"] (spLess K n)) : FnOk P w K mg base CX0 (n + 2) Z.fLawSame Z.fdLawSame ["actual", "expected"] (spSameG K n) := by
  have GLawIsInteger : FnOk P w K mg base CX0 1 Z.fLawIsInteger Z.fdLawIsInteger ["actual"] spIsInt := ok_isint (k := 0) Z
  refine Z.DLawSame.F.ok scLawSame (fun vs H Q E h => ?_) (fun cdv A outer s H vs Q E hr h => ?_)
  · obtain ⟨x, y, rfl, _⟩ := h
    rfl
  · obtain ⟨x, y, rfl, hs, q⟩ := h
    refine ⟨_, (pss_cons (ps_if (pt_val (pe_callB call_isiT (by rfl) Z.isinstance HL.boot_isinstance (pa_cons (pv 1) (pa_cons (pe_tup (pa_cons (pe_bltn (v := .ty "list") (by rfl) Z.list HL.boot_list rfl) (pa_cons (pe_bltn (v := .ty "tuple") (by rfl) Z.tuple HL.boot_tuple rfl) pa_nil))) pa_nil)))) (pss_cons (ps_if (PW.pt (pw_or (pt_cmpR op_ne (pe_callB call_isB (by rfl) Z.isinstance HL.boot_isinstance (pa_cons (pv 1) (pa_cons (pe_bltn (v := .ty "list") (by rfl) Z.list HL.boot_list rfl) pa_nil))) (pe_callB call_isB (by rfl) Z.isinstance HL.boot_isinstance (pa_cons (pv 0) (pa_cons (pe_bltn (v := .ty "list") (by rfl) Z.list HL.boot_list rfl) pa_nil))) (nomark _)) (pw_or1 (pt_cmpR op_ne (pe_callB call_isB (by rfl) Z.isinstance HL.boot_isinstance (pa_cons (pv 1) (pa_cons (pe_bltn (v := .ty "tuple") (by rfl) Z.tuple HL.boot_tuple rfl) pa_nil))) (pe_callB call_isB (by rfl) Z.isinstance HL.boot_isinstance (pa_cons (pv 0) (pa_cons (pe_bltn (v := .ty "tuple") (by rfl) Z.tuple HL.boot_tuple rfl) pa_nil))) (nomark _))))) (pss_one (ps_ret pe_bl)) pss_nil)
        (pss_cons (ps_if (pt_cmpR op_ne (pe_callB call_len_seq (by rfl) Z.len PySem.boot_len (pa_cons (pv 0) pa_nil)) (pe_callB call_len_seq (by rfl) Z.len PySem.boot_len (pa_cons (pv 1) pa_nil)) (nomark _)) (pss_one (ps_ret pe_bl)) pss_nil)
        (pss_cons (ps_for PassesOwn.never rfl (pi_range1 (by rfl) Z.range (pa_cons (pe_callB call_len_seq (by rfl) Z.len PySem.boot_len (pa_cons (pv 1) pa_nil)) pa_nil)) (pg_name (i := 2) scLawSame.nd rfl (.inl rfl)) (pss_one (ps_if (pt_not (pt_val (pe_call GLawSame (hr.mono (by omega)) (by rfl) Z.DLawSame.g Z.DLawSame.F.kp Z.DLawSame.b .nil pass0 (pa_cons (pe_ix ix_seq (pv 0) (pv 2) (fun _ _ => rfl)) (pa_cons (pe_ix ix_seq (pv 1) (pv 2) (fun _ _ => rfl)) pa_nil))))) (pss_one (ps_ret pe_bl)) pss_nil)))
        (pss_one (ps_ret pe_bl))))) pss_nil)
        (pss_cons (ps_if (pt_cmp (pc_isN (pv 1))) (pss_one (ps_ret (pe_cmp (pc_isN (pv 0)) rfl))) pss_nil)
        (pss_cons (ps_if (pt_val (pe_callB call_isB (by rfl) Z.isinstance HL.boot_isinstance (pa_cons (pv 1) (pa_cons (pe_bltn (v := .ty "bool") (by rfl) Z.bool HL.boot_bool rfl) pa_nil)))) (pss_one (ps_ret (pe_and (pe_callB call_isB (by rfl) Z.isinstance HL.boot_isinstance (pa_cons (pv 0) (pa_cons (pe_bltn (v := .ty "bool") (by rfl) Z.bool HL.boot_bool rfl) pa_nil))) (pe_one (pe_cmpR op_eq (pv 0) (pv 1) (nomark _)))))) pss_nil)
        (pss_cons (ps_if (pt_val (pe_callB call_isB (by rfl) Z.isinstance HL.boot_isinstance (pa_cons (pv 1) (pa_cons (pe_bltn (v := .ty "int") (by rfl) Z.int HL.boot_int rfl) pa_nil)))) (pss_one (ps_ret (pe_and (pe_call GLawIsInteger (hr.mono (by omega)) (by rfl) Z.DLawIsInteger.g Z.DLawIsInteger.F.kp Z.DLawIsInteger.b .nil pass0 (pa_cons (pv 0) pa_nil)) (pe_one (pe_cmpR op_eq (pv 0) (pv 1) (nomark _)))))) pss_nil)
        (pss_one (ps_ret (pe_and (pe_callB call_isB (by rfl) Z.isinstance HL.boot_isinstance (pa_cons (pv 0) (pa_cons (pe_bltn (v := .ty "str") (by rfl) Z.str HL.boot_str rfl) pa_nil))) (pe_one (pe_cmpR op_eq (pv 0) (pv 1) (nomark _)))))))))), ?_⟩
    have t2 : 2 ≤ sizeLine := by decide
    have hs : (Leaf x ∧ x = y) ∨ ∃ (m : Nat) (t : String) (a b : Addr) (xs ys : List V), n = m + 1 ∧ x = .ref a ∧ y = .ref b ∧ IsSeq K H t a xs ∧ IsSeq K H t b ys ∧ xs.length = ys.length ∧ ys.length ≤ 1000000 ∧
        ∀ (i : Nat) (u v : V), xs[i]? = some u → ys[i]? = some v → SameD K H m u v := by
      cases n with
      | zero => exact .inl hs
      | succ m =>
        rcases hs with h | ⟨t, a, b, xs, ys, h⟩
        · exact .inl h
        · exact .inr ⟨m, t, a, b, xs, ys, rfl, h⟩
    rcases hs with ⟨lf, rfl⟩ | ⟨m, t, a, b, xs, ys, rfl, rfl, rfl, h1, h2, el, hz, hh⟩
    · cases x with
      | int i =>
        refine ⟨_, rfl, t2, fun p hp => ⟨_, p, _, .type "int", _, _, rfl, upd_same, .cons (.ty _) (.cons (.ty _) .nil), .base (.int i), kit_two (by decide +kernel : kitB "int" "list" = some false) (by decide +kernel : kitB "int" "tuple" = some false), _, rfl, iteF ?_⟩⟩
        refine ⟨_, rfl, _, rfl, iteF ?_⟩
        refine ⟨_, rfl, _, "int", "bool", false, rfl, .base (.int i), by decide +kernel, false, rfl, iteF ?_⟩
        refine ⟨_, rfl, _, "int", "int", true, rfl, .base (.int i), by decide +kernel, true, rfl, iteT ?_⟩
        refine ⟨_, rfl, i, rfl, true, rfl, iteT ⟨_, rfl, _, rfl, rfl, ?_⟩⟩
        rw [decide_eq_true rfl]
        exact q _ (same_upd hp)
      | str z =>
        refine ⟨_, rfl, t2, fun p hp => ⟨_, p, _, .type "str", _, _, rfl, upd_same, .cons (.ty _) (.cons (.ty _) .nil), .base (.str z), kit_two (by decide +kernel : kitB "str" "list" = some false) (by decide +kernel : kitB "str" "tuple" = some false), _, rfl, iteF ?_⟩⟩
        refine ⟨_, rfl, _, rfl, iteF ?_⟩
        refine ⟨_, rfl, _, "str", "bool", false, rfl, .base (.str z), by decide +kernel, false, rfl, iteF ?_⟩
        refine ⟨_, rfl, _, "str", "int", false, rfl, .base (.str z), by decide +kernel, false, rfl, iteF ?_⟩
        refine ⟨_, rfl, _, "str", "str", true, rfl, .base (.str z), by decide +kernel, true, rfl, iteT ?_⟩
        refine ⟨_, rfl, _, rfl, rfl, ?_⟩
        rw [decide_eq_true rfl]
        exact q _ (same_upd hp)
      | bl b =>
        refine ⟨_, rfl, t2, fun p hp => ⟨_, p, _, .type "bool", _, _, rfl, upd_same, .cons (.ty _) (.cons (.ty _) .nil), .base (.bl b), kit_two (by decide +kernel : kitB "bool" "list" = some false) (by decide +kernel : kitB "bool" "tuple" = some false), _, rfl, iteF ?_⟩⟩
        refine ⟨_, rfl, _, rfl, iteF ?_⟩
        refine ⟨_, rfl, _, "bool", "bool", true, rfl, .base (.bl b), by decide +kernel, true, rfl, iteT ?_⟩
        refine ⟨_, rfl, _, "bool", "bool", true, rfl, .base (.bl b), by decide +kernel, true, rfl, iteT ?_⟩
        refine ⟨_, rfl, _, rfl, rfl, ?_⟩
        rw [decide_eq_true rfl]
        exact q _ (same_upd hp)
      | non =>
        refine ⟨_, rfl, t2, fun p hp => ⟨_, p, _, .type "NoneType", _, _, rfl, upd_same, .cons (.ty _) (.cons (.ty _) .nil), .base .non, kit_two (by decide +kernel : kitB "NoneType" "list" = some false) (by decide +kernel : kitB "NoneType" "tuple" = some false), _, rfl, iteF ?_⟩⟩
        refine ⟨_, rfl, _, rfl, iteT ?_⟩
        exact ⟨_, rfl, q _ (same_upd hp)⟩
      | _ => exact (show False from lf).elim
    · have rest : ∀ (i : Nat) (u v : V), xs[i]? = some u → ys[i]? = some v → atI xs ((0 : Int) + (i : Int)) = some u ∧ atI ys ((0 : Int) + (i : Int)) = some v := fun i u v hu hv => by
        rw [Int.zero_add]
        exact ⟨atI_nat hu, atI_nat hv⟩
      have turn : ∀ i : Nat, i < (ys.length : Int).toNat → ∃ u v, xs[i]? = some u ∧ ys[i]? = some v := fun i hi => by
        have i1 : i < ys.length := by omega
        have i2 : i < xs.length := by omega
        exact ⟨_, _, List.getElem?_eq_getElem i2, List.getElem?_eq_getElem i1⟩
      rcases h1 with ⟨rfl, s1, t1⟩ | ⟨rfl, s1, t1⟩
      · rcases h2 with ⟨_, s2, t2'⟩ | ⟨z, _⟩
        · refine ⟨_, rfl, t2, fun p hp => ⟨_, p, _, .type "tuple", _, _, rfl, upd_same, .cons (.ty _) (.cons (.ty _) .nil), tyx_same (same_upd hp) t2', kit_two (by decide +kernel : kitB "tuple" "list" = some false) (by decide +kernel : kitB "tuple" "tuple" = some true), _, rfl, iteT ?_⟩⟩
          have s10 := s1
          have s20 := s2
          have s1 := seqT_same (same_upd (o := .tup [.ty "list", .ty "tuple"]) hp) s1
          have s2 := seqT_same (same_upd (o := .tup [.ty "list", .ty "tuple"]) hp) s2
          refine ⟨_, rfl, _, "tuple", "list", false, rfl, tyx_same (same_upd hp) t2', by decide +kernel, _, rfl, _, "tuple", "list", false, rfl, tyx_same (same_upd hp) t1, by decide +kernel, rfl, _, rfl, iteNS rfl ?_⟩
          refine ⟨_, rfl, _, "tuple", "tuple", true, rfl, tyx_same (same_upd hp) t2', by decide +kernel, _, rfl, _, "tuple", "tuple", true, rfl, tyx_same (same_upd hp) t1, by decide +kernel, rfl, _, rfl, iteNS rfl ?_⟩
          refine ⟨_, rfl, a, xs, rfl, .inr s1, _, rfl, b, ys, rfl, .inr s2, rfl, _, rfl, iteNS (by rw [el]) ?_⟩
          refine ⟨_, rfl, b, ys, rfl, .inr s2, _, rfl, by omega, by omega, ?_⟩
          refine for_range (lo := 0) (n := (ys.length : Int).toNat) (fun i σ H' => Same H H' ∧ ∃ y, σ = [some (.ref a), some (.ref b), y]) ⟨same_upd hp, none, rfl⟩ ?_ ?_
          · rintro i σ H' hi ⟨sm, y, rfl⟩
            obtain ⟨u, v, hu, hv⟩ := turn i hi
            obtain ⟨r1, r2⟩ := rest i u v hu hv
            exact ⟨_, rfl, _, rfl, .inr (.inl ⟨a, xs, _, u, rfl, rfl, seqT_same sm s10, r1, _, rfl, _, rfl, .inr (.inl ⟨b, ys, _, v, rfl, rfl, seqT_same sm s20, r2, u, v, rfl, sameD_same sm (hh i u v hu hv), fun H2 s2 => ⟨true, rfl, iteF ⟨sm.trans s2, _, rfl⟩⟩⟩)⟩)⟩
          · rintro σ H' ⟨sm, y, rfl⟩
            exact q _ sm
        · exact absurd z (by decide)
      · rcases h2 with ⟨z, _⟩ | ⟨_, s2, t2'⟩
        · exact absurd z (by decide)
        · refine ⟨_, rfl, t2, fun p hp => ⟨_, p, _, .type "list", _, _, rfl, upd_same, .cons (.ty _) (.cons (.ty _) .nil), tyx_same (same_upd hp) t2', kit_two (by decide +kernel : kitB "list" "list" = some true) (by decide +kernel : kitB "list" "tuple" = some false), _, rfl, iteT ?_⟩⟩
          have s10 := s1
          have s20 := s2
          have s1 := (same_upd (o := .tup [.ty "list", .ty "tuple"]) hp).seq s1
          have s2 := (same_upd (o := .tup [.ty "list", .ty "tuple"]) hp).seq s2
          refine ⟨_, rfl, _, "list", "list", true, rfl, tyx_same (same_upd hp) t2', by decide +kernel, _, rfl, _, "list", "list", true, rfl, tyx_same (same_upd hp) t1, by decide +kernel, rfl, _, rfl, iteNS rfl ?_⟩
          refine ⟨_, rfl, _, "list", "tuple", false, rfl, tyx_same (same_upd hp) t2', by decide +kernel, _, rfl, _, "list", "tuple", false, rfl, tyx_same (same_upd hp) t1, by decide +kernel, rfl, _, rfl, iteNS rfl ?_⟩
          refine ⟨_, rfl, a, xs, rfl, .inl s1, _, rfl, b, ys, rfl, .inl s2, rfl, _, rfl, iteNS (by rw [el]) ?_⟩
          refine ⟨_, rfl, b, ys, rfl, .inl s2, _, rfl, by omega, by omega, ?_⟩
          refine for_range (lo := 0) (n := (ys.length : Int).toNat) (fun i σ H' => Same H H' ∧ ∃ y, σ = [some (.ref a), some (.ref b), y]) ⟨same_upd hp, none, rfl⟩ ?_ ?_
          · rintro i σ H' hi ⟨sm, y, rfl⟩
            obtain ⟨u, v, hu, hv⟩ := turn i hi
            obtain ⟨r1, r2⟩ := rest i u v hu hv
            exact ⟨_, rfl, _, rfl, .inl ⟨a, xs, _, u, rfl, rfl, sm.seq s10, r1, _, rfl, _, rfl, .inl ⟨b, ys, _, v, rfl, rfl, sm.seq s20, r2, u, v, rfl, sameD_same sm (hh i u v hu hv), fun H2 s2 => ⟨true, rfl, iteF ⟨sm.trans s2, _, rfl⟩⟩⟩⟩⟩
          · rintro σ H' ⟨sm, y, rfl⟩
            exact q _ sm
theorem ok_same (Z : Defs K mg) : ∀ n, FnOk P w K mg base CX0 (n + 2) Z.fLawSame Z.fdLawSame ["actual", "expected"] (spSameG K n)
  | 0 => same_step Z (Z.DLawSame.F.ok scLawSame (fun vs H Q E h => (show False from h).elim) (fun cdv A outer s H vs Q E hr h => (show False from h).elim))
  | n + 1 => same_step Z (ok_same Z n)
end
end Q40
namespace Q40
open PySem PySem.Spec PyProof.Rows L2 SX HL
section
variable {P : Program} {w : World} {K : PySem.W.Frag} {mg : Str → Option Value} {base : Heap}
/-! ### _law_next -/
def StN (H : Hp) (p q : Addr) (ds : List Int) : Prop := H q = some (.lst (ds.map V.int)) ∧ Draws ds ∧ ∃ i : Int, 0 ≤ i ∧ H p = some (.lst [.ref q, .int i])
theorem StN.ne {H : Hp} {p q : Addr} {ds : List Int} (h : StN H p q ds) : q ≠ p := by
  obtain ⟨h1, _, i, _, h2⟩ := h
  intro e
  subst e
  rw [h1] at h2
  have e2 := HO.lst.inj (Option.some.inj h2)
  cases ds with
  | nil => cases e2
  | cons x r => cases e2
theorem StN.same {H H' : Hp} {p q : Addr} {ds : List Int} (h : StN H p q ds) (s : ∀ b o, b = p ∨ b = q → H b = some o → H' b = some o) : StN H' p q ds := by
  obtain ⟨h1, h3, i, h0, h2⟩ := h
  exact ⟨s _ _ (.inr rfl) h1, h3, i, h0, s _ _ (.inl rfl) h2⟩
def spNext : Sp := fun vs H Q _ => ∃ (p q : Addr) (ds : List Int) (lim : Int), vs = [.ref p, .int lim] ∧ StN H p q ds ∧ 0 < lim ∧
  ∀ H' v, StN H' p q ds → But H H' p → 0 ≤ v → v < lim → Q (.int v) H'
theorem ok_next {k : Nat} (Z : Defs K mg) : FnOk P w K mg base CX0 (k + 3) Z.fLawNext Z.fdLawNext ["state", "limit"] spNext := by
  have GLawAt : FnOk P w K mg base CX0 (k + 2) Z.fLawAt Z.fdLawAt ["draws", "index"] spAt := ok_at Z
  refine Z.DLawNext.F.ok scLawNext (fun vs H Q E h => ?_) (fun cdv A outer s H vs Q E hr h => ?_)
  · obtain ⟨p, q, ns, lim, rfl, _⟩ := h
    rfl
  · obtain ⟨p, q, ds, lim, rfl, hS, l0, qq⟩ := h
    refine ⟨_, (pss_cons (ps_augS (pv 0) pe_int pget_list pe_int ip_add set_list)
        (pss_one (ps_ret (pe_op op_mod (pe_call GLawAt (hr.mono (by omega)) (by rfl) Z.DLawAt.g Z.DLawAt.F.kp Z.DLawAt.b .nil pass0 (pa_cons (pe_ix ix_list (pv 0) pe_int (fun _ _ => rfl)) (pa_cons (pe_ix ix_list (pv 0) pe_int (fun _ _ => rfl)) pa_nil))) (pv 1))))), ?_⟩
    have ne := hS.ne
    obtain ⟨hq, hD, i, hi, hp⟩ := id hS
    refine ⟨.ref p, rfl, p, _, 1, .int i, rfl, rfl, SqL.of hp, by decide, rfl, i, 1, rfl, rfl, p, _, 1, 1, rfl, rfl, hp, rfl, ?_⟩
    have hq' : upd H p (.lst ([.ref q, .int i].set 1 (.int (i + 1)))) q = some (.lst (ds.map V.int)) := by rw [upd_ne ne]; exact hq
    refine ⟨.ref p, rfl, p, _, 0, .ref q, rfl, rfl, SqL.of upd_same, rfl, .ref p, rfl, p, _, 1, .int (i + 1), rfl, rfl, SqL.of upd_same, rfl, q, ds, i + 1, rfl, hq', hD, by omega, fun v v0 v1 => ⟨.int lim, rfl, v, lim, rfl, rfl, l0, ?_⟩⟩
    exact qq _ _ ⟨hq', hD, i + 1, by omega, upd_same⟩ but_upd (Int.emod_nonneg _ (by omega)) (Int.emod_lt_of_pos _ l0)
end
end Q40
namespace NM
/-! ### numbers as bytes -/
def enc (n : Nat) : List Nat := if h : n < 128 then [n] else (128 + n % 128) :: enc (n / 128)
termination_by n
decreasing_by omega
theorem enc_lt {n : Nat} (h : n < 128) : enc n = [n] := by
  rw [enc, dif_pos h]
theorem enc_ge {n : Nat} (h : 128 ≤ n) : enc n = (128 + n % 128) :: enc (n / 128) := by
  rw [enc, dif_neg (by omega)]
theorem enc_bytes (n : Nat) : ∀ b ∈ enc n, b < 256 := by
  induction n using Nat.strongRecOn with
  | ind n ih =>
    by_cases h : n < 128
    · rw [enc_lt h]
      intro b hb
      rw [List.mem_singleton.mp hb]
      omega
    · rw [enc_ge (by omega)]
      intro b hb
      rcases List.mem_cons.mp hb with e | e
      · omega
      · exact ih (n / 128) (by omega) b e
theorem enc_pos (n : Nat) : 0 < (enc n).length := by
  by_cases h : n < 128
  · rw [enc_lt h]; exact Nat.zero_lt_one
  · rw [enc_ge (by omega)]; exact Nat.succ_pos _
theorem enc_len {k : Nat} : ∀ n : Nat, n < 128 ^ (k + 1) → (enc n).length ≤ k + 1 := by
  induction k with
  | zero =>
    intro n h
    rw [enc_lt (by simpa using h)]
    exact Nat.le_refl _
  | succ k ih =>
    intro n h
    by_cases c : n < 128
    · rw [enc_lt c]
      exact Nat.succ_le_succ (Nat.zero_le _)
    · rw [enc_ge (by omega), List.length_cons]
      refine Nat.succ_le_succ (ih _ ?_)
      rw [Nat.div_lt_iff_lt_mul (by decide)]
      rwa [Nat.pow_succ] at h
/-- a number read from the front: at most so many bytes, the place, what stands already -/
def rnum : Nat → Nat → Nat → List Nat → Option (Nat × List Nat)
  | 0, _, _, _ => none
  | _ + 1, _, _, [] => none
  | f + 1, pl, acc, b :: r => if b = 0 ∧ 0 < pl then none else if b < 128 then some (acc + b % 128 * 128 ^ pl, r) else rnum f (pl + 1) (acc + b % 128 * 128 ^ pl) r
theorem mix (n p : Nat) : n % 128 * p + n / 128 * (p * 128) = n * p := by
  have e : n = 128 * (n / 128) + n % 128 := (Nat.div_add_mod n 128).symm
  have h : (128 * (n / 128) + n % 128) * p = n % 128 * p + n / 128 * (p * 128) := by
    rw [Nat.add_mul, Nat.mul_comm 128 (n / 128), Nat.mul_assoc, Nat.mul_comm 128 p]
    exact Nat.add_comm _ _
  rw [← h, ← e]
theorem rnum_enc : ∀ (f n pl acc : Nat) (rest : List Nat), n < 128 ^ (f + 1) → (0 < pl → n ≠ 0) → rnum (f + 1) pl acc (enc n ++ rest) = some (acc + n * 128 ^ pl, rest) := by
  intro f
  induction f with
  | zero =>
    intro n pl acc rest h hp
    have h1 : n < 128 := by simpa using h
    rw [enc_lt h1]
    show (if n = 0 ∧ 0 < pl then none else if n < 128 then some (acc + n % 128 * 128 ^ pl, rest) else _) = _
    rw [if_neg (fun z => hp z.2 z.1), if_pos h1, Nat.mod_eq_of_lt h1]
  | succ f ih =>
    intro n pl acc rest h hp
    by_cases c : n < 128
    · rw [enc_lt c]
      show (if n = 0 ∧ 0 < pl then none else if n < 128 then some (acc + n % 128 * 128 ^ pl, rest) else _) = _
      rw [if_neg (fun z => hp z.2 z.1), if_pos c, Nat.mod_eq_of_lt c]
    · rw [enc_ge (by omega)]
      show (if 128 + n % 128 = 0 ∧ 0 < pl then none else if 128 + n % 128 < 128 then _ else rnum (f + 1) (pl + 1) (acc + (128 + n % 128) % 128 * 128 ^ pl) (enc (n / 128) ++ rest)) = _
      have e : (128 + n % 128) % 128 = n % 128 := by omega
      have hl : n / 128 < 128 ^ (f + 1) := by
        rw [Nat.div_lt_iff_lt_mul (by decide)]
        rwa [Nat.pow_succ] at h
      rw [if_neg (fun z => absurd z.1 (by omega)), if_neg (by omega), ih _ _ _ _ hl (fun _ => by omega), e, Nat.pow_succ, Nat.add_assoc, mix]
theorem rnum_short : ∀ (f n pl acc e : Nat), e < (enc n).length → rnum f pl acc ((enc n).take e) = none := by
  intro f
  induction f with
  | zero => intros; rfl
  | succ f ih =>
    intro n pl acc e he
    cases e with
    | zero => rfl
    | succ e =>
      by_cases c : n < 128
      · rw [enc_lt c] at he
        simp at he
      · rw [enc_ge (by omega)] at he ⊢
        show (if 128 + n % 128 = 0 ∧ 0 < pl then none else if 128 + n % 128 < 128 then _ else rnum f (pl + 1) (acc + (128 + n % 128) % 128 * 128 ^ pl) ((enc (n / 128)).take e)) = _
        rw [if_neg (fun z => absurd z.1 (by omega)), if_neg (by omega)]
        exact ih _ _ _ _ (by simpa using he)
/-- the last byte goes on, and a zero -/
def encBad (n : Nat) : List Nat := (enc n).take ((enc n).length - 1) ++ [(enc n).getD ((enc n).length - 1) 0 + 128, 0]
theorem encBad_lt {n : Nat} (h : n < 128) : encBad n = [n + 128, 0] := by
  unfold encBad
  rw [enc_lt h]
  rfl
theorem encBad_ge {n : Nat} (h : 128 ≤ n) : encBad n = (128 + n % 128) :: encBad (n / 128) := by
  unfold encBad
  rw [enc_ge h]
  have hp := enc_pos (n / 128)
  obtain ⟨k, hk⟩ : ∃ k, (enc (n / 128)).length = k + 1 := ⟨(enc (n / 128)).length - 1, by omega⟩
  rw [List.length_cons, hk]
  simp
theorem rnum_bad : ∀ (f n pl acc : Nat) (rest : List Nat), rnum f pl acc (encBad n ++ rest) = none := by
  intro f
  induction f with
  | zero => intros; rfl
  | succ f ih =>
    intro n pl acc rest
    by_cases c : n < 128
    · rw [encBad_lt c]
      show (if n + 128 = 0 ∧ 0 < pl then none else if n + 128 < 128 then _ else rnum f (pl + 1) (acc + (n + 128) % 128 * 128 ^ pl) (0 :: rest)) = _
      rw [if_neg (fun z => absurd z.1 (by omega)), if_neg (by omega)]
      cases f with
      | zero => rfl
      | succ f =>
        show (if 0 = 0 ∧ 0 < pl + 1 then none else _) = _
        rw [if_pos ⟨rfl, by omega⟩]
    · rw [encBad_ge (by omega)]
      show (if 128 + n % 128 = 0 ∧ 0 < pl then none else if 128 + n % 128 < 128 then _ else rnum f (pl + 1) (acc + (128 + n % 128) % 128 * 128 ^ pl) (encBad (n / 128) ++ rest)) = _
      rw [if_neg (fun z => absurd z.1 (by omega)), if_neg (by omega)]
      exact ih _ _ _ _
theorem rnum_le : ∀ (f pl acc : Nat) (x : List Nat) (n : Nat) (r : List Nat), rnum f pl acc x = some (n, r) → r.length < x.length ∧ ∃ p, x = p ++ r ∧ p.length ≤ f := by
  intro f
  induction f with
  | zero => intro pl acc x n r h; cases h
  | succ f ih =>
    intro pl acc x n r h
    cases x with
    | nil => cases h
    | cons b s =>
      have h' : (if b = 0 ∧ 0 < pl then none else if b < 128 then some (acc + b % 128 * 128 ^ pl, s) else rnum f (pl + 1) (acc + b % 128 * 128 ^ pl) s) = some (n, r) := h
      by_cases c1 : b = 0 ∧ 0 < pl
      · rw [if_pos c1] at h'; cases h'
      · rw [if_neg c1] at h'
        by_cases c2 : b < 128
        · rw [if_pos c2] at h'
          cases h'
          exact ⟨by simp, [b], rfl, by simp⟩
        · rw [if_neg c2] at h'
          obtain ⟨h1, p, e, hl⟩ := ih _ _ _ _ _ h'
          exact ⟨by rw [List.length_cons]; omega, b :: p, by rw [e]; rfl, by rw [List.length_cons]; omega⟩
/-! ### sums -/
def M : Nat := 4294967296
def stp (t b : Nat) : Nat := (31 * t + b + 1) % M
def cks (d : List Nat) : Nat := d.foldl stp 7
theorem stp_lt (t b : Nat) : stp t b < M := Nat.mod_lt _ (by decide)
theorem fold_lt : ∀ (d : List Nat) (t : Nat), t < M → d.foldl stp t < M
  | [], _, h => h
  | b :: d, t, _ => fold_lt d (stp t b) (stp_lt t b)
theorem cks_lt (d : List Nat) : cks d < M := fold_lt d 7 (by decide)
def sum4 (t : Nat) : List Nat := [t / 16777216, t / 65536 % 256, t / 256 % 256, t % 256]
theorem sum4_bytes {t : Nat} (h : t < M) : ∀ b ∈ sum4 t, b < 256 := by
  have h' : t < 4294967296 := h
  intro b hb
  simp [sum4] at hb
  rcases hb with e | e | e | e <;> omega
theorem sum4_inj {t u : Nat} (ht : t < M) (hu : u < M) (h : sum4 t = sum4 u) : t = u := by
  have ht' : t < 4294967296 := ht
  have hu' : u < 4294967296 := hu
  simp [sum4] at h
  omega
theorem stp_inj {t u b : Nat} (ht : t < M) (hu : u < M) (h : stp t b = stp u b) : t = u := by
  have ht' : t < 4294967296 := ht
  have hu' : u < 4294967296 := hu
  have h' : (31 * t + b + 1) % 4294967296 = (31 * u + b + 1) % 4294967296 := h
  omega
theorem stp_byte {t b c : Nat} (hb : b < 256) (hc : c < 256) (h : stp t b = stp t c) : b = c := by
  have h' : (31 * t + b + 1) % 4294967296 = (31 * t + c + 1) % 4294967296 := h
  omega
theorem fold_inj : ∀ (d : List Nat) (t u : Nat), t < M → u < M → d.foldl stp t = d.foldl stp u → t = u
  | [], _, _, _, _, h => h
  | b :: d, t, u, ht, hu, h => stp_inj ht hu (fold_inj d _ _ (stp_lt t b) (stp_lt u b) h)
theorem cks_change {a c : List Nat} {x y : Nat} (hx : x < 256) (hy : y < 256) (h : cks (a ++ x :: c) = cks (a ++ y :: c)) : x = y := by
  unfold cks at h
  rw [List.foldl_append, List.foldl_append] at h
  exact stp_byte hx hy (fold_inj c _ _ (stp_lt _ _) (stp_lt _ _) h)
theorem cks_set {d : List Nat} {k x : Nat} (hk : k < d.length) (hd : ∀ b ∈ d, b < 256) (hx : x < 256) (hn : x ≠ d[k]) : cks (d.set k x) ≠ cks d := by
  intro h
  have e1 : d = d.take k ++ d[k] :: d.drop (k + 1) := by
    rw [List.getElem_cons_drop]
    exact (List.take_append_drop k d).symm
  have e2 : d.set k x = d.take k ++ x :: d.drop (k + 1) := by
    rw [List.set_eq_take_append_cons_drop, if_pos hk]
  rw [e2] at h
  have h3 : cks (d.take k ++ x :: d.drop (k + 1)) = cks (d.take k ++ d[k] :: d.drop (k + 1)) := by rw [h, ← e1]
  exact hn (cks_change hx (hd _ (List.getElem_mem hk)) h3)
/-! ### records -/
def rcd (d : List Nat) : List Nat := enc d.length ++ (d ++ sum4 (cks d))
theorem rcd_bytes {d : List Nat} (h : ∀ b ∈ d, b < 256) : ∀ b ∈ rcd d, b < 256 := by
  intro b hb
  rcases List.mem_append.mp hb with e | e
  · exact enc_bytes _ b e
  · rcases List.mem_append.mp e with e | e
    · exact h b e
    · exact sum4_bytes (cks_lt d) b e
theorem rcd_len (d : List Nat) : (rcd d).length = (enc d.length).length + d.length + 4 := by
  unfold rcd
  rw [List.length_append, List.length_append]
  show _ + (_ + 4) = _
  omega
def nextR (x : List Nat) : Option (List Nat × List Nat) := match rnum 60 0 0 x with
  | none => none
  | some (n, r) => if r.length < n + 4 then none else if (r.drop n).take 4 = sum4 (cks (r.take n)) then some (r.take n, r.drop (n + 4)) else none
theorem big {n : Nat} (h : n < 1000000) : n < 128 ^ (59 + 1) := Nat.lt_of_lt_of_le h (by decide)
theorem rnum60 {n : Nat} (h : n < 1000000) (rest : List Nat) : rnum 60 0 0 (enc n ++ rest) = some (n, rest) := by
  have := rnum_enc 59 n 0 0 rest (big h) (fun z => absurd z (by decide))
  simpa using this
theorem nextR_rcd {d : List Nat} (h : d.length < 1000000) (rest : List Nat) : nextR (rcd d ++ rest) = some (d, rest) := by
  unfold nextR rcd
  rw [List.append_assoc, rnum60 h]
  have e1 : (d ++ sum4 (cks d) ++ rest).length = d.length + 4 + rest.length := by
    rw [List.length_append, List.length_append]; rfl
  have e2 : (d ++ sum4 (cks d) ++ rest).take d.length = d := by
    rw [List.append_assoc, List.take_left]
  have e3 : (d ++ sum4 (cks d) ++ rest).drop d.length = sum4 (cks d) ++ rest := by
    rw [List.append_assoc, List.drop_left]
  have e4 : (d ++ sum4 (cks d) ++ rest).drop (d.length + 4) = rest := by
    rw [← List.drop_drop, e3]
    rfl
  show (if (d ++ sum4 (cks d) ++ rest).length < d.length + 4 then none else _) = _
  rw [if_neg (by rw [e1]; omega), e2, e3, e4]
  exact if_pos rfl
theorem nextR_short {d : List Nat} (h : d.length < 1000000) {e : Nat} (he : e < (rcd d).length) : nextR ((rcd d).take e) = none := by
  unfold nextR
  by_cases c : e < (enc d.length).length
  · have : (rcd d).take e = (enc d.length).take e := by
      unfold rcd
      rw [List.take_append_of_le_length (by omega)]
    rw [this, rnum_short _ _ _ _ _ c]
  · have e1 : (rcd d).take e = enc d.length ++ (d ++ sum4 (cks d)).take (e - (enc d.length).length) := by
      unfold rcd
      rw [List.take_append, List.take_of_length_le (by omega)]
    rw [e1, rnum60 h]
    rw [rcd_len] at he
    show (if ((d ++ sum4 (cks d)).take (e - (enc d.length).length)).length < d.length + 4 then none else _) = _
    rw [if_pos]
    rw [List.length_take]
    omega
theorem nextR_bad {d s : List Nat} (h : d.length < 1000000) (hl : s.length = 4) (hs : s ≠ sum4 (cks d)) : nextR (enc d.length ++ (d ++ s)) = none := by
  unfold nextR
  rw [rnum60 h]
  show (if (d ++ s).length < d.length + 4 then none else if ((d ++ s).drop d.length).take 4 = sum4 (cks ((d ++ s).take d.length)) then _ else none) = _
  rw [if_neg (by rw [List.length_append]; omega), List.take_left, List.drop_left, if_neg]
  rw [List.take_of_length_le (by omega)]
  exact hs
theorem nextR_needless (n : Nat) (rest : List Nat) : nextR (encBad n ++ rest) = none := by
  unfold nextR
  rw [rnum_bad]
theorem nextR_nil : nextR [] = none := rfl
theorem nextR_le {x d r : List Nat} (h : nextR x = some (d, r)) : r.length + 5 ≤ x.length ∧ d.length ≤ x.length := by
  unfold nextR at h
  cases e : rnum 60 0 0 x with
  | none => rw [e] at h; cases h
  | some p =>
    obtain ⟨n, s⟩ := p
    rw [e] at h
    obtain ⟨h1, _⟩ := rnum_le _ _ _ _ _ _ e
    have h' : (if s.length < n + 4 then none else if (s.drop n).take 4 = sum4 (cks (s.take n)) then some (s.take n, s.drop (n + 4)) else none) = some (d, r) := h
    by_cases c : s.length < n + 4
    · rw [if_pos c] at h'; cases h'
    · rw [if_neg c] at h'
      by_cases c2 : (s.drop n).take 4 = sum4 (cks (s.take n))
      · rw [if_pos c2] at h'
        cases h'
        rw [List.length_drop, List.length_take]
        omega
      · rw [if_neg c2] at h'; cases h'
theorem drop_end {A B : List Nat} : (A ++ B).drop ((A ++ B).length - B.length) = B := by
  rw [List.length_append, Nat.add_sub_cancel, List.drop_left]
theorem nextR_suf {x d r : List Nat} (h : nextR x = some (d, r)) : ∃ q, x = q ++ r := by
  unfold nextR at h
  cases e : rnum 60 0 0 x with
  | none => rw [e] at h; cases h
  | some p =>
    obtain ⟨n, s⟩ := p
    rw [e] at h
    obtain ⟨_, q, hq, _⟩ := rnum_le _ _ _ _ _ _ e
    have h' : (if s.length < n + 4 then none else if (s.drop n).take 4 = sum4 (cks (s.take n)) then some (s.take n, s.drop (n + 4)) else none) = some (d, r) := h
    by_cases c : s.length < n + 4
    · rw [if_pos c] at h'; cases h'
    · rw [if_neg c] at h'
      by_cases c2 : (s.drop n).take 4 = sum4 (cks (s.take n))
      · rw [if_pos c2] at h'
        cases h'
        exact ⟨q ++ s.take (n + 4), by rw [List.append_assoc, List.take_append_drop]; exact hq⟩
      · rw [if_neg c2] at h'; cases h'
theorem nextR_at {x d r : List Nat} {a : Nat} (h : nextR (x.drop a) = some (d, r)) : x.drop (x.length - r.length) = r := by
  obtain ⟨q, hq⟩ := nextR_suf h
  have h1 : x = (x.take a ++ q) ++ r := by rw [List.append_assoc, ← hq, List.take_append_drop]
  have h2 := drop_end (A := x.take a ++ q) (B := r)
  rwa [← h1] at h2
theorem sum_sizes (f : List Nat → List Nat) : ∀ ds : List (List Nat), (ds.map fun d => (((f d).length : Nat) : Int)).sum = (((ds.map f).flatten.length : Nat) : Int)
  | [] => rfl
  | d :: ds => by
    rw [List.map_cons, List.sum_cons, sum_sizes f ds, List.map_cons, List.flatten_cons, List.length_append]
    omega
inductive Reads : List Nat → List (List Nat) → Prop
  | stop {x : List Nat} : nextR x = none → Reads x []
  | more {x d r : List Nat} {ds : List (List Nat)} : nextR x = some (d, r) → Reads r ds → Reads x (d :: ds)
def cat (ds : List (List Nat)) : List Nat := (ds.map rcd).flatten
theorem cat_cons (d : List Nat) (ds : List (List Nat)) : cat (d :: ds) = rcd d ++ cat ds := rfl
theorem cat_app (a b : List (List Nat)) : cat (a ++ b) = cat a ++ cat b := by simp [cat]
theorem reads_cat {ds : List (List Nat)} (h : ∀ d ∈ ds, d.length < 1000000) {x : List Nat} (hx : nextR x = none) : Reads (cat ds ++ x) ds := by
  induction ds with
  | nil => exact .stop hx
  | cons d ds ih =>
    rw [cat_cons, List.append_assoc]
    exact .more (nextR_rcd (h d (List.mem_cons_self ..)) _) (ih fun y hy => h y (List.mem_cons_of_mem _ hy))
/-- so many whole records stand in the first e bytes -/
def kk : Nat → List (List Nat) → Nat
  | _, [] => 0
  | e, d :: ds => if e < (rcd d).length then 0 else kk (e - (rcd d).length) ds + 1
theorem kk_le : ∀ (ds : List (List Nat)) (e : Nat), kk e ds ≤ ds.length
  | [], _ => Nat.le_refl _
  | d :: ds, e => by
    show (if e < (rcd d).length then 0 else kk (e - (rcd d).length) ds + 1) ≤ ds.length + 1
    split
    · exact Nat.zero_le _
    · exact Nat.succ_le_succ (kk_le ds _)
theorem reads_cut : ∀ (ds : List (List Nat)) (e : Nat), (∀ d ∈ ds, d.length < 1000000) → Reads ((cat ds).take e) (ds.take (kk e ds))
  | [], e, _ => by
    have : (cat []).take e = [] := by simp [cat]
    rw [this]
    exact .stop nextR_nil
  | d :: ds, e, h => by
    have hd := h d (List.mem_cons_self ..)
    rw [cat_cons]
    show Reads _ ((d :: ds).take (if e < (rcd d).length then 0 else kk (e - (rcd d).length) ds + 1))
    by_cases c : e < (rcd d).length
    · rw [if_pos c, List.take_append_of_le_length (by omega)]
      exact .stop (nextR_short hd c)
    · rw [if_neg c, List.take_append, List.take_of_length_le (by omega), List.take_succ_cons]
      exact .more (nextR_rcd hd _) (reads_cut ds _ fun y hy => h y (List.mem_cons_of_mem _ hy))
/-- where the records end -/
def cums : Nat → List (List Nat) → List Nat
  | s, [] => [s]
  | s, d :: ds => s :: cums (s + (rcd d).length) ds
theorem cums_ge : ∀ (ds : List (List Nat)) (s : Nat), ∀ z ∈ cums s ds, s ≤ z
  | [], s, z, h => by rw [List.mem_singleton.mp h]; exact Nat.le_refl _
  | d :: ds, s, z, h => by
    rcases List.mem_cons.mp h with e | e
    · omega
    · have := cums_ge ds _ z e
      omega
theorem cums_count : ∀ (ds : List (List Nat)) (s e : Nat), ((cums s ds).filter fun z => decide (z ≤ s + e)).length = kk e ds + 1
  | [], s, e => by
    show ((([s] : List Nat).filter fun z => decide (z ≤ s + e)).length) = 1
    simp
  | d :: ds, s, e => by
    show ((s :: cums (s + (rcd d).length) ds).filter fun z => decide (z ≤ s + e)).length = (if e < (rcd d).length then 0 else kk (e - (rcd d).length) ds + 1) + 1
    rw [List.filter_cons, if_pos (by simp), List.length_cons]
    congr 1
    by_cases c : e < (rcd d).length
    · rw [if_pos c]
      have : ((cums (s + (rcd d).length) ds).filter fun z => decide (z ≤ s + e)) = [] := by
        rw [List.filter_eq_nil_iff]
        intro z hz
        have := cums_ge _ _ z hz
        simp
        omega
      rw [this]
      rfl
    · rw [if_neg c]
      have e1 : s + e = s + (rcd d).length + (e - (rcd d).length) := by omega
      rw [e1]
      exact cums_count ds _ _
theorem cums_get : ∀ (ds : List (List Nat)) (s k : Nat), k ≤ ds.length → (cums s ds)[k]? = some (s + (cat (ds.take k)).length)
  | [], s, k, h => by
    have : k = 0 := by simpa using h
    subst this
    rfl
  | d :: ds, s, 0, _ => rfl
  | d :: ds, s, k + 1, h => by
    show (cums (s + (rcd d).length) ds)[k]? = some (s + (cat (d :: ds.take k)).length)
    rw [cums_get ds _ k (by simpa using h), cat_cons, List.length_append, Nat.add_assoc]
theorem cums_len : ∀ (ds : List (List Nat)) (s : Nat), (cums s ds).length = ds.length + 1
  | [], _ => rfl
  | d :: ds, s => by
    show (cums (s + (rcd d).length) ds).length + 1 = _
    rw [cums_len ds]
    rfl
theorem cums_snoc : ∀ (ds : List (List Nat)) (d : List Nat) (s : Nat), cums s (ds ++ [d]) = cums s ds ++ [s + (cat (ds ++ [d])).length]
  | [], d, s => by
    show [s, s + (rcd d).length] = [s, s + (rcd d ++ []).length]
    rw [List.append_nil]
  | x :: ds, d, s => by
    show s :: cums (s + (rcd x).length) (ds ++ [d]) = s :: (cums (s + (rcd x).length) ds ++ [s + (rcd x ++ cat (ds ++ [d])).length])
    rw [cums_snoc ds d, List.length_append, Nat.add_assoc]
end NM
namespace NM
theorem set_shape {r : List Nat} {k z : Nat} (h : k < r.length) : r.take k ++ [z] ++ r.drop (k + 1) = r.set k z := by
  rw [List.set_eq_take_append_cons_drop, if_pos h, List.append_assoc]
  rfl
/-- a byte of the sum another one -/
theorem bad_sum {d : List Nat} (hd : d.length < 1000000) {j z : Nat} (hj : j < 4) (hz : (rcd d)[(rcd d).length - 1 - j]? ≠ some z) : nextR ((rcd d).set ((rcd d).length - 1 - j) z) = none := by
  have hl := rcd_len d
  have hs : (sum4 (cks d)).length = 4 := rfl
  unfold rcd at hz ⊢
  have e1 : (enc d.length ++ (d ++ sum4 (cks d))).length - 1 - j - (enc d.length).length - d.length = 3 - j := by
    rw [List.length_append, List.length_append, hs]
    omega
  have l1 : (enc d.length).length ≤ (enc d.length ++ (d ++ sum4 (cks d))).length - 1 - j := by
    rw [List.length_append, List.length_append, hs]
    omega
  have l2 : d.length ≤ (enc d.length ++ (d ++ sum4 (cks d))).length - 1 - j - (enc d.length).length := by
    rw [List.length_append, List.length_append, hs]
    omega
  rw [List.getElem?_append_right l1, List.getElem?_append_right l2, e1] at hz
  rw [List.set_append_right _ _ l1, List.set_append_right _ _ l2, e1]
  refine nextR_bad hd (by rw [List.length_set]; rfl) fun e => hz ?_
  rw [← e, List.getElem?_set]
  rw [if_pos rfl, if_pos (by rw [hs]; omega)]
/-- a byte of the data another one -/
theorem bad_data {d : List Nat} (hd : d.length < 1000000) (hb : ∀ b ∈ d, b < 256) {j z : Nat} (hj : j < d.length) (hz2 : z < 256) (hz : (rcd d)[(rcd d).length - 5 - j]? ≠ some z) : nextR ((rcd d).set ((rcd d).length - 5 - j) z) = none := by
  have hl := rcd_len d
  have hs : (sum4 (cks d)).length = 4 := rfl
  unfold rcd at hz ⊢
  have e1 : (enc d.length ++ (d ++ sum4 (cks d))).length - 5 - j - (enc d.length).length = d.length - 1 - j := by
    rw [List.length_append, List.length_append, hs]
    omega
  have l1 : (enc d.length).length ≤ (enc d.length ++ (d ++ sum4 (cks d))).length - 5 - j := by
    rw [List.length_append, List.length_append, hs]
    omega
  have l2 : d.length - 1 - j < d.length := by omega
  rw [List.getElem?_append_right l1, e1, List.getElem?_append_left l2, List.getElem?_eq_getElem l2] at hz
  rw [List.set_append_right _ _ l1, e1, List.set_append_left _ _ l2]
  have hn : z ≠ d[d.length - 1 - j] := fun e => hz (by rw [e])
  have hne := cks_set l2 hb hz2 hn
  have e2 : (d.set (d.length - 1 - j) z).length = d.length := List.length_set ..
  have h := nextR_bad (d := d.set (d.length - 1 - j) z) (s := sum4 (cks d)) (by rw [e2]; exact hd) rfl fun e => hne (sum4_inj (cks_lt _) (cks_lt _) e.symm)
  rwa [e2] at h
end NM
namespace NM
theorem enc_last (n : Nat) : ∀ y, (enc n)[(enc n).length - 1]? = some y → y < 128 := by
  induction n using Nat.strongRecOn with
  | ind n ih =>
    intro y h
    by_cases c : n < 128
    · rw [enc_lt c] at h
      have : n = y := by simpa using h
      omega
    · rw [enc_ge (by omega)] at h
      have hp := enc_pos (n / 128)
      obtain ⟨k, hk⟩ : ∃ k, (enc (n / 128)).length = k + 1 := ⟨(enc (n / 128)).length - 1, by omega⟩
      refine ih (n / 128) (by omega) y ?_
      rw [List.length_cons, hk] at h
      rw [hk]
      simpa using h
end NM
namespace Q40
open PySem PySem.Spec PyProof.Rows L2 SX HL NM
section
variable {P : Program} {w : World} {K : PySem.W.Frag} {mg : Str → Option Value} {base : Heap}
/-! ### numbers written -/
def spNum : Sp := fun vs H Q _ => ∃ n : Nat, vs = [vi n] ∧ (enc n).length ≤ 1000 ∧ ∀ p H', Same H H' → H p = none → H' p = some (.lst ((enc n).map vi)) → Q (.ref p) H'
theorem ok_writeNumber {k : Nat} (Z : Defs K mg) : FnOk P w K mg base CX0 (k + 1) Z.fWriteNumber Z.fdWriteNumber ["number"] spNum := by
  refine Z.DWriteNumber.F.ok scWriteNumber (fun vs H Q E h => ?_) (fun cdv A outer s H vs Q E hr h => ?_)
  · obtain ⟨n, rfl, _⟩ := h
    rfl
  · obtain ⟨n, rfl, hl, qq⟩ := h
    refine ⟨_, (pss_cons (ps_set (i := 1) scWriteNumber.nd rfl (.inl rfl) (pe_lst pa_nil))
        (pss_cons (ps_while PassesOwn.never (pt_cmpR op_ge (pv 0) pe_int (nomark _)) (pss_cons (ps_expr (pe_bm PySem.F.plainAttrs_list PySem.F.slot_list_append PySem.F.type_list_append mt_append (pv 1) (pa_cons (pe_op op_add pe_int (pe_op op_mod (pv 0) pe_int)) pa_nil)))
        (pss_one (ps_set (i := 0) scWriteNumber.nd rfl (.inl rfl) (pe_op op_fdiv (pv 0) pe_int)))))
        (pss_one (ps_ret (pe_lst (StX.pa_star (pv 1) (pa_cons (pv 0) pa_nil))))))), ?_⟩
    refine ⟨Nat.zero_le _, fun r hr0 => ?_⟩
    refine ⟨fun m σ H2 => m < 1000 ∧ ∃ (done : List Nat) (k : Nat), σ = [some (vi k), some (.ref r)] ∧ (enc k).length = m + 1 ∧ enc n = done ++ enc k ∧ Same H H2 ∧ H2 r = some (.lst (done.map vi)),
      ⟨(enc n).length - 1, by have := enc_pos n; omega, [], n, rfl, by have := enc_pos n; omega, rfl, same_upd hr0, upd_same⟩, ?_⟩
    rintro m σ H2 ⟨hm, done, k, rfl, hk, he, s2, hr2⟩
    have hd : done.length ≤ 1000 := by
      have := congrArg List.length he
      rw [List.length_append] at this
      omega
    refine ⟨_, rfl, _, _, rfl, rfl, _, rfl, ?_⟩
    by_cases c : (128 : Int) ≤ (k : Int)
    · rw [decide_eq_true c]
      have c' : 128 ≤ k := by omega
      have ek := enc_ge c'
      refine iteT ⟨fun σ' H' => ∃ (done : List Nat) (k : Nat), σ' = [some (vi k), some (.ref r)] ∧ (enc k).length = m ∧ enc n = done ++ enc k ∧ Same H H' ∧ H' r = some (.lst (done.map vi)), ?_, ?_⟩
      · rintro σ' H' ⟨d2, k2, rfl, h1, h2, h3, h4⟩
        have hp := enc_pos k2
        exact ⟨m - 1, by omega, by omega, d2, k2, rfl, by omega, h2, h3, h4⟩
      · refine ⟨_, rfl, .inl ⟨rfl, _, SqL.of hr2⟩, _, rfl, _, _, rfl, rfl, (by show (0 : Int) < 128; decide), _, _, rfl, rfl, r, _, _, rfl, rfl, hr2, (by rw [List.length_map]; exact Nat.lt_of_le_of_lt hd (by decide)), ?_⟩
        refine ⟨_, rfl, _, _, rfl, rfl, ⟨by decide, by decide⟩, ?_⟩
        refine ⟨done ++ [128 + k % 128], k / 128, rfl, ?_, ?_, fun b o hb => by rw [upd_ne (ne_of_none hb hr0)]; exact s2 b o hb, by rw [upd_same, List.map_append]; rfl⟩
        · rw [ek, List.length_cons] at hk
          omega
        · rw [he, ek, List.append_assoc]
          rfl
    · rw [decide_eq_false c]
      have ek := enc_lt (show k < 128 by omega)
      refine iteF ⟨_, rfl, r, _, rfl, .inr (SqL.of hr2), _, rfl, (by show (done.map vi ++ [vi k]).length ≤ sizeLine; rw [List.length_append, List.length_map]; exact Nat.le_trans (show done.length + 1 ≤ 10000 by omega) (by decide)), fun p hp => ?_⟩
      refine qq p _ (fun b o hb => by rw [upd_ne (ne_of_none (s2 b o hb) hp)]; exact s2 b o hb) (Same.none s2 hp) ?_
      rw [upd_same, he, ek, List.map_append]
      rfl
theorem ok_lawNumber {k : Nat} (Z : Defs K mg) : FnOk P w K mg base CX0 (k + 1) Z.fLawNumber Z.fdLawNumber ["number"] spNum := by
  refine Z.DLawNumber.F.ok scLawNumber (fun vs H Q E h => ?_) (fun cdv A outer s H vs Q E hr h => ?_)
  · obtain ⟨n, rfl, _⟩ := h
    rfl
  · obtain ⟨n, rfl, hl, qq⟩ := h
    refine ⟨_, (pss_cons (ps_set (i := 1) scLawNumber.nd rfl (.inl rfl) (pe_lst pa_nil))
        (pss_cons (ps_while PassesOwn.never (pt_cmpR op_gt (pv 0) pe_int (nomark _)) (pss_cons (ps_expr (pe_bm PySem.F.plainAttrs_list PySem.F.slot_list_append PySem.F.type_list_append mt_append (pv 1) (pa_cons (pe_op op_add pe_int (pe_op op_mod (pv 0) pe_int)) pa_nil)))
        (pss_one (ps_set (i := 0) scLawNumber.nd rfl (.inl rfl) (pe_op op_fdiv (pv 0) pe_int)))))
        (pss_one (ps_ret (pe_op op_cat (pv 1) (pe_lst (pa_cons (pv 0) pa_nil))))))), ?_⟩
    refine ⟨Nat.zero_le _, fun r hr0 => ?_⟩
    refine ⟨fun m σ H2 => m < 1000 ∧ ∃ (done : List Nat) (k : Nat), σ = [some (vi k), some (.ref r)] ∧ (enc k).length = m + 1 ∧ enc n = done ++ enc k ∧ Same H H2 ∧ H2 r = some (.lst (done.map vi)),
      ⟨(enc n).length - 1, by have := enc_pos n; omega, [], n, rfl, by have := enc_pos n; omega, rfl, same_upd hr0, upd_same⟩, ?_⟩
    rintro m σ H2 ⟨hm, done, k, rfl, hk, he, s2, hr2⟩
    have hd : done.length ≤ 1000 := by
      have := congrArg List.length he
      rw [List.length_append] at this
      omega
    refine ⟨_, rfl, _, _, rfl, rfl, _, rfl, ?_⟩
    by_cases c : (127 : Int) < (k : Int)
    · rw [decide_eq_true c]
      have c' : 128 ≤ k := by omega
      have ek := enc_ge c'
      refine iteT ⟨fun σ' H' => ∃ (done : List Nat) (k : Nat), σ' = [some (vi k), some (.ref r)] ∧ (enc k).length = m ∧ enc n = done ++ enc k ∧ Same H H' ∧ H' r = some (.lst (done.map vi)), ?_, ?_⟩
      · rintro σ' H' ⟨d2, k2, rfl, h1, h2, h3, h4⟩
        have hp := enc_pos k2
        exact ⟨m - 1, by omega, by omega, d2, k2, rfl, by omega, h2, h3, h4⟩
      · refine ⟨_, rfl, .inl ⟨rfl, _, SqL.of hr2⟩, _, rfl, _, _, rfl, rfl, (by show (0 : Int) < 128; decide), _, _, rfl, rfl, r, _, _, rfl, rfl, hr2, (by rw [List.length_map]; exact Nat.lt_of_le_of_lt hd (by decide)), ?_⟩
        refine ⟨_, rfl, _, _, rfl, rfl, ⟨by decide, by decide⟩, ?_⟩
        refine ⟨done ++ [128 + k % 128], k / 128, rfl, ?_, ?_, fun b o hb => by rw [upd_ne (ne_of_none hb hr0)]; exact s2 b o hb, by rw [upd_same, List.map_append]; rfl⟩
        · rw [ek, List.length_cons] at hk
          omega
        · rw [he, ek, List.append_assoc]
          rfl
    · rw [decide_eq_false c]
      have ek := enc_lt (show k < 128 by omega)
      refine iteF ⟨_, rfl, _, rfl, (by show 1 ≤ sizeLine; decide), fun l1 hl1 => ?_⟩
      have s3 : Same H2 (upd H2 l1 (.lst [vi k])) := same_upd hl1
      refine ⟨r, l1, _, _, rfl, rfl, s3 _ _ hr2, upd_same, ?_, fun p hp => ?_⟩
      · rw [List.length_map]
        exact Nat.le_trans (show done.length + 1 ≤ 10000 by omega) (by decide)
      · refine qq p _ (fun b o hb => by rw [upd_ne (ne_of_none (s3 _ _ (s2 b o hb)) hp)]; exact s3 _ _ (s2 b o hb)) (Same.none s2 (Same.none s3 hp)) ?_
        rw [upd_same, he, ek, List.map_append]
        rfl
end
end Q40
set_option maxRecDepth 500000
namespace Q40
open PySem PySem.Spec PyProof.Rows L2 SX HL NM
/-! ### the object -/
theorem r12 : ¬ (("at" : Str) = "_data") := by decide +kernel
theorem r13 : ¬ (("at" : Str) = "_characters") := by decide +kernel
theorem r23 : ¬ (("_data" : Str) = "_characters") := by decide +kernel
def rflds (a : Nat) (b c : Addr) : List (Str × V) := [("at", vi a), ("_data", .ref b), ("_characters", .ref c)]
theorem rflds_at (a : Nat) (b c : Addr) : (rflds a b c).lookup ("at" : Str) = some (vi a) := lkF_eq _ _ _
theorem rflds_data (a : Nat) (b c : Addr) : (rflds a b c).lookup ("_data" : Str) = some (.ref b) := by
  unfold rflds
  rw [lkF_ne (fun e => r12 e.symm), lkF_eq]
theorem rflds_chars (a : Nat) (b c : Addr) : (rflds a b c).lookup ("_characters" : Str) = some (.ref c) := by
  unfold rflds
  rw [lkF_ne (fun e => r13 e.symm), lkF_ne (fun e => r23 e.symm), lkF_eq]
theorem rflds_no (a : Nat) (b c : Addr) {m : Str} (h1 : ¬ m = "at") (h2 : ¬ m = "_data") (h3 : ¬ m = "_characters") : (rflds a b c).lookup m = none := by
  unfold rflds
  rw [lkF_ne h1, lkF_ne h2, lkF_ne h3]
  rfl
theorem rput_at (a : Nat) (b c : Addr) (a' : Nat) : putF "at" (vi a') (rflds a b c) = rflds a' b c := by
  unfold rflds
  rw [putF_eq]
def chars : List Nat := ("\n !\"#$&'()*+,-./0123456789:;<=>?@ABCDEFGHIJKLMNOPQRSTUVWXYZ[\\]^_`abcdefghijklmnopqrstuvwxyz{|}~" : Str).cps.toList
def charD (l : List Nat) : List (Key × V) := l.map fun c : Nat => ((Sum.inl (c : Int) : Key), V.str ⟨#[c]⟩)
structure RdAt (C : Addr) (H : Hp) (p b c : Addr) (x : List Nat) (a : Nat) : Prop where
  ob : ∃ dx, H p = some (.ins C dx (rflds a b c))
  da : H b = some (.lst (x.map vi))
  ch : H c = some (.dK (charD chars))
theorem RdAt.nb {C : Addr} {H : Hp} {p b c : Addr} {x : List Nat} {a : Nat} (R : RdAt C H p b c x a) : b ≠ p ∧ c ≠ p := by
  obtain ⟨⟨dx, ho⟩, hd, hc⟩ := R
  exact ⟨ne_of hd ho (by intro z; cases z), ne_of hc ho (by intro z; cases z)⟩
theorem RdAt.same {C : Addr} {H H' : Hp} {p b c : Addr} {x : List Nat} {a : Nat} (R : RdAt C H p b c x a) (s : Same H H') : RdAt C H' p b c x a := by
  obtain ⟨⟨dx, ho⟩, hd, hc⟩ := R
  exact ⟨⟨dx, s _ _ ho⟩, s _ _ hd, s _ _ hc⟩
theorem RdAt.move {C : Addr} {H : Hp} {p b c : Addr} {x : List Nat} {a : Nat} (R : RdAt C H p b c x a) {dx : Addr} (a' : Nat) : RdAt C (upd H p (.ins C dx (rflds a' b c))) p b c x a' := by
  obtain ⟨n1, n2⟩ := R.nb
  obtain ⟨_, hd, hc⟩ := R
  exact ⟨⟨dx, upd_same⟩, by rw [upd_ne n1]; exact hd, by rw [upd_ne n2]; exact hc⟩
theorem chars_len : chars.length = 95 := by decide +kernel
theorem chars_new : ∀ i : Nat, i < 95 → valV (charD (chars.take i)) (.inl ((chars.getD i 0 : Nat) : Int)) = none := by decide +kernel
section
variable {P : Program} {w : World} {K : PySem.W.Frag} {mg : Str → Option Value} {base : Heap}
/-! ### Reader -/
def spRInit (C : Addr) : Sp := fun vs H Q _ => ∃ (p dx d : Addr) (x : List Nat), vs = [.ref p, .ref d] ∧ H p = some (.ins C dx []) ∧ H d = some (.lst (x.map vi)) ∧
  ∀ b c H', RdAt C H' p b c x 0 → (∀ z o, H z = some o → z ≠ p → H' z = some o) → Q .non H'
theorem ok_rinit {k : Nat} (Z : Defs K mg) : FnOk P w K mg base CX0 (k + 1) Z.fReaderInit Z.fdReaderInit ["self", "data"] (spRInit Z.cReader) := by
  refine Z.DReaderInit.F.ok scReaderInit (fun vs H Q E h => ?_) (fun cdv A outer s H vs Q E hr h => ?_)
  · obtain ⟨p, dx, d, x, rfl, _⟩ := h
    rfl
  · obtain ⟨p, dx, d, x, rfl, hp, hd, qq⟩ := h
    refine ⟨_, (pss_cons (ps_fld (pv 0) pe_int rfl)
        (pss_cons (ps_fld (pv 0) (pe_callTy call_list_of (by rfl) Z.list HL.boot_list (pa_cons (pv 1) pa_nil)) rfl)
        (pss_one (ps_fld (pv 0) (pe_dc (own := [("character", 2)]) (g := (gName 2)) (by rfl) scReaderInit.nd (pi_str (pe_gstr rfl Z.kCHARACTERS)) (blkOk_by (own := [("character", 2)]) (N := ["self", "data", "character"]) (sc := defScope sReaderInit) (by decide +kernel)) (fun _ _ _ _ _ => (pg_name (i := 2) scReaderInit.nd rfl (Or.inl rfl))) (fun _ _ _ _ _ => pts_nil) (fun _ _ _ _ _ => (pe_callB call_ord (by rfl) Z.ord (by decide +kernel) (pa_cons (pv 2) pa_nil))) (fun _ _ _ _ _ => (pv 2))) rfl)))), ?_⟩
    have ndp : d ≠ p := ne_of hd hp (by intro z; cases z)
    refine ⟨_, rfl, p, Z.cReader, dx, [], rfl, hp, Z.CReader.cl, Z.nReader_at, (by show 0 < 1000; decide), ?_⟩
    refine ⟨_, rfl, d, _, rfl, .inl (SqL.of (by rw [upd_ne ndp]; exact hd)), fun b hb => ?_⟩
    have npb : p ≠ b := ne_of_none upd_same hb
    refine ⟨_, rfl, p, Z.cReader, dx, _, rfl, (by rw [upd_ne npb]; exact upd_same), Z.CReader.cl, Z.nReader_data, (by show 1 < 1000; decide), ?_⟩
    have f0 : putF "_data" (.ref b) (putF "at" (.int 0) []) = ([("at", vi 0), ("_data", .ref b)] : List (Str × V)) := by
      rw [putF_nil, putF_ne r12, putF_nil]
      rfl
    rw [f0]
    have g1 : ∀ z o, H z = some o → z ≠ p → (upd (upd (upd H p (.ins Z.cReader dx (putF "at" (.int 0) []))) b (.lst (x.map vi))) p (.ins Z.cReader dx [("at", vi 0), ("_data", .ref b)])) z = some o := fun z o hz nz => by
      have h1 : upd H p (.ins Z.cReader dx (putF "at" (.int 0) [])) z = some o := by rw [upd_ne nz]; exact hz
      rw [upd_ne nz, upd_ne (ne_of_none h1 hb)]
      exact h1
    have gb : (upd (upd (upd H p (.ins Z.cReader dx (putF "at" (.int 0) []))) b (.lst (x.map vi))) p (.ins Z.cReader dx [("at", vi 0), ("_data", .ref b)])) b = some (.lst (x.map vi)) := by rw [upd_ne npb.symm]; exact upd_same
    have gp : (upd (upd (upd H p (.ins Z.cReader dx (putF "at" (.int 0) []))) b (.lst (x.map vi))) p (.ins Z.cReader dx [("at", vi 0), ("_data", .ref b)])) p = some (.ins Z.cReader dx [("at", vi 0), ("_data", .ref b)]) := upd_same
    generalize upd (upd (upd H p (.ins Z.cReader dx (putF "at" (.int 0) []))) b (.lst (x.map vi))) p (.ins Z.cReader dx [("at", vi 0), ("_data", .ref b)]) = H1 at g1 gb gp
    refine ⟨_, rfl, fun c hc => ?_⟩
    refine HE.dc_it walk_str (fun i H' => Same H1 H' ∧ H' c = some (.dK (charD (chars.take i)))) ⟨same_upd hc, upd_same⟩ (fun _ _ _ _ => True.intro) ?_ ?_
    · rintro i y H' H'' hi ⟨s1, hk⟩ ⟨rfl, cc, hcc, rfl⟩
      have hget : chars[i]? = some cc := by
        rw [← hcc]
        exact Array.getElem?_toList ..
      have hi95 : i < 95 := by
        have := (List.getElem?_eq_some_iff.mp hget).1
        rw [chars_len] at this
        exact this
      have hgd : chars.getD i 0 = cc := by rw [List.getD_eq_getElem?_getD, hget]; rfl
      refine ⟨rfl, ?_⟩
      refine lc_yes ⟨_, rfl, ⟨#[cc]⟩, rfl, rfl, _, rfl, charD (chars.take i), .inl (cc : Int), rfl, hk, ?_, fun z o hz => ?_, ?_⟩
      · unfold charD
        rw [List.length_map, List.length_take]
        exact Nat.lt_of_le_of_lt (show _ ≤ 1000 by omega) (by decide)
      · rw [upd_ne (ne_of_none hz hc)]
        exact s1 _ _ hz
      · have hn := chars_new i hi95
        rw [hgd] at hn
        rw [upd_same, take_snoc hget, putK_new _ hn]
        unfold charD
        rw [List.map_append]
        rfl
    · rintro H' ⟨s1, hk⟩
      have hk' : H' c = some (.dK (charD chars)) := by
        rw [hk]
        exact congrArg (fun l => some (HO.dK (charD l))) (List.take_of_length_le (Nat.le_refl _))
      have npc : p ≠ c := ne_of_none gp hc
      have nbc : b ≠ c := ne_of_none gb hc
      refine ⟨_, rfl, p, Z.cReader, dx, _, rfl, s1 _ _ gp, Z.CReader.cl, Z.nReader_characters, (by show 2 < 1000; decide), ?_⟩
      have f1 : putF "_characters" (.ref c) [("at", vi 0), ("_data", .ref b)] = rflds 0 b c := by
        rw [putF_ne r13, putF_ne r23, putF_nil]
        rfl
      rw [f1]
      refine qq b c _ ⟨⟨dx, upd_same⟩, by rw [upd_ne npb.symm]; exact s1 _ _ gb, by rw [upd_ne npc.symm]; exact hk'⟩ fun z o hz nz => ?_
      rw [upd_ne nz]
      exact s1 _ _ (g1 z o hz nz)
theorem log_small {a : Nat} (h : a ≤ 1000000) : ((a : Int)).natAbs.log2 < 1920 := by
  rw [Int.natAbs_natCast]
  by_cases e : a = 0
  · subst e
    decide
  · exact Nat.lt_trans ((Nat.log2_lt e).mpr (Nat.lt_of_le_of_lt h (show 1000000 < 2 ^ 20 by decide))) (by decide)
/-- the words of an error fit -/
theorem msg_fits {z : Str} {a : Nat} (hz : z.length ≤ 100) (h : a ≤ 1000000) : (Str.empty ++ z ++ Str.ofString (toString (a : Int))).length ≤ sizeLine := by
  have e := int_text_length_le (a := (a : Int)) (k := 1920) (by decide) (log_small h)
  rw [PySem.Str.length_append, PySem.Str.length_append, PySem.ofString_length, sizeLine_eq]
  have e0 : Str.empty.length = 0 := rfl
  rw [e0]
  omega
theorem msg_fits2 {z u : Str} {a : Nat} (hz : z.length ≤ 100) (hu : u.length ≤ 100) (h : a ≤ 1000000) : (Str.empty ++ z ++ Str.ofString (toString (a : Int)) ++ u).length ≤ sizeLine := by
  have e := int_text_length_le (a := (a : Int)) (k := 1920) (by decide) (log_small h)
  rw [PySem.Str.length_append, PySem.Str.length_append, PySem.Str.length_append, PySem.ofString_length, sizeLine_eq]
  have e0 : Str.empty.length = 0 := rfl
  rw [e0]
  omega
/-- a byte at most so great -/
def spByte (C X : Addr) : Sp := fun vs H Q E => ∃ (p b c : Addr) (x : List Nat) (a most : Nat), vs = [.ref p, vi most] ∧ RdAt C H p b c x a ∧ x.length ≤ 500000 ∧ a ≤ x.length ∧
  ((∃ y, x[a]? = some y ∧ y ≤ most ∧ ∀ H', But H H' p → RdAt C H' p b c x (a + 1) → Q (vi y) H') ∨ ((∀ y, x[a]? = some y → most < y) ∧ E (.ref X) none H))
theorem ok_readByte {k : Nat} (Z : Defs K mg) : FnOk P w K mg base (L2.CX P w) (k + 1) Z.fReaderReadByte Z.fdReaderReadByte ["self", "most"] (spByte Z.cReader Z.eDamagedPacket) := by
  refine Z.DReaderReadByte.F.ok scReaderReadByte (fun vs H Q E h => ?_) (fun cdv A outer s H vs Q E hr h => ?_)
  · obtain ⟨p, b, c, x, a, most, rfl, _⟩ := h
    rfl
  · obtain ⟨p, b, c, x, a, most, rfl, R, hl, ha, hh⟩ := h
    refine ⟨_, (pss_cons (ps_if (PW.pt (pw_or (pt_cmpR op_ge (pe_fld (pv 0) rfl) (pe_callB call_len_seq (by rfl) Z.len PySem.boot_len (pa_cons (pe_fld (pv 0) rfl) pa_nil)) (nomark _)) (pw_or1 (pt_not (pt_chain op_le op_le pe_int (pe_ix ix_list (pe_fld (pv 0) rfl) (pe_fld (pv 0) rfl) (fun _ _ => rfl)) (pv 1)))))) (pss_one (ps_raise rfl (takes_of rfl rfl rfl rfl) (SkE.pmk_own1 PySem.F.excBase_ValueError Z.EDamagedPacket.ex Z.EDamagedPacket.g Z.EDamagedPacket.kp (raises_own Z.EDamagedPacket.sub Z.EDamagedPacket.ty) (by rfl) (pe_joined (.cons pe_str (.cons (pe_fmt (pe_fld (pv 0) rfl)) .nil)))))) pss_nil)
        (pss_cons (ps_fldaug (pv 0) pe_int in_add)
        (pss_one (ps_ret (pe_ix ix_list (pe_fld (pv 0) rfl) (pe_op op_sub (pe_fld (pv 0) rfl) pe_int) (fun _ _ => rfl)))))), ?_⟩
    obtain ⟨⟨dx, ho⟩, hd, hch⟩ := id R
    refine ⟨_, rfl, p, Z.cReader, dx, _, _, rfl, ho, Z.CReader.cl, Z.nReader_at, rflds_at _ _ _, _, rfl, p, Z.cReader, dx, _, _, rfl, ho, Z.CReader.cl, Z.nReader_data, rflds_data _ _ _, b, _, rfl, .inl (SqL.of hd), _, _, rfl, rfl, _, rfl, ?_⟩
    rw [List.length_map]
    have raise : (∀ y, x[a]? = some y → most < y) → E (.ref Z.eDamagedPacket) none H := fun hn => by
      rcases hh with ⟨y, hy, hm, _⟩ | ⟨_, e⟩
      · exact absurd (hn y hy) (by omega)
      · exact e
    refine ite2 (fun hc => ?_) (fun hc => ?_)
    · have hge : (x.length : Int) ≤ (a : Int) := of_decide_eq_true hc
      refine ⟨_, rfl, by decide, _, rfl, p, Z.cReader, dx, _, _, rfl, ho, Z.CReader.cl, Z.nReader_at, rflds_at _ _ _, .inr ⟨a, rfl, log_small (by omega), _, rfl, msg_fits (by decide) (by omega), raise fun y hy => ?_⟩⟩
      have := (List.getElem?_eq_some_iff.mp hy).1
      omega
    · have hlt : a < x.length := by
        have : ¬ ((x.length : Int) ≤ (a : Int)) := fun z => hc (decide_eq_true z)
        omega
      have hy : x[a]? = some x[a] := List.getElem?_eq_getElem hlt
      generalize x[a] = y at hy
      have hat : atI (x.map vi) (a : Int) = some (vi y) := atI_nat (by rw [List.getElem?_map, hy]; rfl)
      refine ⟨_, rfl, p, Z.cReader, dx, _, _, rfl, ho, Z.CReader.cl, Z.nReader_data, rflds_data _ _ _, _, rfl, p, Z.cReader, dx, _, _, rfl, ho, Z.CReader.cl, Z.nReader_at, rflds_at _ _ _, b, _, _, _, rfl, rfl, SqL.of hd, hat, ?_⟩
      have h0 : decide ((0 : Int) ≤ (y : Int)) = true := decide_eq_true (by omega)
      refine ⟨_, _, rfl, rfl, true, congrArg V.bl h0, iteT ⟨_, rfl, _, _, rfl, rfl, decide ((y : Int) ≤ (most : Int)), rfl, ?_⟩⟩
      by_cases hm : y ≤ most
      · rw [decide_eq_true (show (y : Int) ≤ (most : Int) by omega)]
        refine iteF ⟨_, rfl, p, Z.cReader, dx, _, _, rfl, ho, Z.CReader.cl, Z.nReader_at, rflds_at _ _ _, _, _, rfl, rfl, dx, _, ho, (by show 3 < 1000; decide), ?_⟩
        have e1 : putF "at" (.int ((a : Int) + 1)) (rflds a b c) = rflds (a + 1) b c := rput_at a b c (a + 1)
        have R2 : RdAt Z.cReader (upd H p (.ins Z.cReader dx (putF "at" (.int ((a : Int) + 1)) (rflds a b c)))) p b c x (a + 1) := by
          rw [e1]
          exact R.move (a + 1)
        obtain ⟨_, hd2, _⟩ := id R2
        obtain ⟨q1, q2⟩ : (∃ y', x[a]? = some y' ∧ y' ≤ most ∧ ∀ H', But H H' p → RdAt Z.cReader H' p b c x (a + 1) → Q (vi y') H') ∧ True := by
          rcases hh with h | ⟨h, _⟩
          · exact ⟨h, True.intro⟩
          · exact absurd (h y hy) (by omega)
        obtain ⟨y', hy', _, qq⟩ := q1
        rw [hy] at hy'
        cases hy'
        have o2 : upd H p (.ins Z.cReader dx (putF "at" (.int ((a : Int) + 1)) (rflds a b c))) p = some (.ins Z.cReader dx (rflds (a + 1) b c)) := by rw [upd_same, e1]
        refine ⟨_, rfl, p, Z.cReader, dx, _, _, rfl, o2, Z.CReader.cl, Z.nReader_data, rflds_data _ _ _, _, rfl, p, Z.cReader, dx, _, _, rfl, o2, Z.CReader.cl, Z.nReader_at, rflds_at _ _ _, _, 1, rfl, rfl, b, _, _, _, rfl, rfl, SqL.of hd2, ?_, qq _ but_upd R2⟩
        have e2 : ((a + 1 : Nat) : Int) - 1 = (a : Int) := by omega
        show atI (x.map vi) (((a + 1 : Nat) : Int) - 1) = some (vi y)
        rw [e2]
        exact hat
      · rw [decide_eq_false (show ¬ (y : Int) ≤ (most : Int) by omega)]
        refine iteT ⟨_, rfl, by decide, _, rfl, p, Z.cReader, dx, _, _, rfl, ho, Z.CReader.cl, Z.nReader_at, rflds_at _ _ _, .inr ⟨a, rfl, log_small (by omega), _, rfl, msg_fits (by decide) (by omega), raise fun z hz => ?_⟩⟩
        rw [hy] at hz
        cases hz
        omega
/-- so many bytes -/
def spBytes (C X : Addr) : Sp := fun vs H Q E => ∃ (p b c : Addr) (x : List Nat) (a n : Nat), vs = [.ref p, vi n] ∧ RdAt C H p b c x a ∧ x.length ≤ 500000 ∧ a ≤ x.length ∧
  ((a + n ≤ x.length ∧ ∀ r H', H r = none → Kept H H' p → RdAt C H' p b c x (a + n) → H' r = some (.lst (((x.drop a).take n).map vi)) → Q (.ref r) H') ∨ (x.length < a + n ∧ E (.ref X) none H))
theorem ok_readBytes {k : Nat} (Z : Defs K mg) : FnOk P w K mg base (L2.CX P w) (k + 1) Z.fReaderReadBytes Z.fdReaderReadBytes ["self", "count"] (spBytes Z.cReader Z.eDamagedPacket) := by
  refine Z.DReaderReadBytes.F.okX scReaderReadBytes (fun vs H Q E h => ?_) (fun cdv A outer s H vs Q E hr h => ?_)
  · obtain ⟨p, b, c, x, a, n, rfl, _⟩ := h
    rfl
  · obtain ⟨p, b, c, x, a, n, rfl, R, hl, ha, hh⟩ := h
    refine ⟨_, (pss_cons (ps_if (pt_cmpR op_gt (pv 1) (pe_op op_sub (pe_callB call_len_seq (by rfl) Z.len PySem.boot_len (pa_cons (pe_fld (pv 0) rfl) pa_nil)) (pe_fld (pv 0) rfl)) (nomark _)) (pss_one (ps_raise rfl (takes_of rfl rfl rfl rfl) (SkE.pmk_own1 PySem.F.excBase_ValueError Z.EDamagedPacket.ex Z.EDamagedPacket.g Z.EDamagedPacket.kp (raises_own Z.EDamagedPacket.sub Z.EDamagedPacket.ty) (by rfl) (pe_joined (.cons pe_str (.cons (pe_fmt (pe_fld (pv 0) rfl)) .nil)))))) pss_nil)
        (pss_cons (ps_fldaug (pv 0) (pv 1) in_add)
        (pss_one (ps_ret (pe_slice sl_list (pe_fld (pv 0) rfl) (po_some (pe_op op_sub (pe_fld (pv 0) rfl) (pv 1))) (po_some (pe_fld (pv 0) rfl))))))), ?_⟩
    obtain ⟨⟨dx, ho⟩, hd, hch⟩ := id R
    refine ⟨_, rfl, _, rfl, p, Z.cReader, dx, _, _, rfl, ho, Z.CReader.cl, Z.nReader_data, rflds_data _ _ _, b, _, rfl, .inl (SqL.of hd), _, rfl, p, Z.cReader, dx, _, _, rfl, ho, Z.CReader.cl, Z.nReader_at, rflds_at _ _ _, _, _, rfl, rfl, _, _, rfl, rfl, _, rfl, ?_⟩
    rw [List.length_map]
    refine ite2 (fun hc => ?_) (fun hc => ?_)
    · have hge : (x.length : Int) - (a : Int) < (n : Int) := of_decide_eq_true hc
      refine ⟨_, rfl, by decide, _, rfl, p, Z.cReader, dx, _, _, rfl, ho, Z.CReader.cl, Z.nReader_at, rflds_at _ _ _, .inr ⟨a, rfl, log_small (by omega), _, rfl, msg_fits (by decide) (by omega), ?_⟩⟩
      rcases hh with ⟨h1, _⟩ | ⟨_, e⟩
      · omega
      · exact e
    · have hle : a + n ≤ x.length := by
        have : ¬ ((x.length : Int) - (a : Int) < (n : Int)) := fun z => hc (decide_eq_true z)
        omega
      rcases hh with ⟨_, qq⟩ | ⟨h1, _⟩
      · refine ⟨_, rfl, p, Z.cReader, dx, _, _, rfl, ho, Z.CReader.cl, Z.nReader_at, rflds_at _ _ _, _, rfl, _, _, rfl, rfl, dx, _, ho, (by show 3 < 1000; decide), ?_⟩
        have e1 : putF "at" (.int ((a : Int) + (n : Int))) (rflds a b c) = rflds (a + n) b c := rput_at a b c (a + n)
        have R2 : RdAt Z.cReader (upd H p (.ins Z.cReader dx (putF "at" (.int ((a : Int) + (n : Int))) (rflds a b c)))) p b c x (a + n) := by
          rw [e1]
          exact R.move (a + n)
        obtain ⟨_, hd2, _⟩ := id R2
        have o2 : upd H p (.ins Z.cReader dx (putF "at" (.int ((a : Int) + (n : Int))) (rflds a b c))) p = some (.ins Z.cReader dx (rflds (a + n) b c)) := by rw [upd_same, e1]
        have k2 : But H (upd H p (.ins Z.cReader dx (putF "at" (.int ((a : Int) + (n : Int))) (rflds a b c)))) p := but_upd
        generalize upd H p (.ins Z.cReader dx (putF "at" (.int ((a : Int) + (n : Int))) (rflds a b c))) = H2 at R2 hd2 o2 k2
        refine ⟨_, rfl, p, Z.cReader, dx, _, _, rfl, o2, Z.CReader.cl, Z.nReader_data, rflds_data _ _ _, _, rfl, p, Z.cReader, dx, _, _, rfl, o2, Z.CReader.cl, Z.nReader_at, rflds_at _ _ _, _, rfl, _, _, rfl, rfl, (a : Int), congrArg V.int (by omega), _, rfl, p, Z.cReader, dx, _, _, rfl, o2, Z.CReader.cl, Z.nReader_at, rflds_at _ _ _, _, rfl, b, _, rfl, SqL.of hd2, fun r hr0 => ?_⟩
        rw [cut_mid]
        have nrp : p ≠ r := ne_of_none o2 hr0
        have hr1 : H r = none := by rw [k2 r nrp.symm] at hr0; exact hr0
        refine qq r _ hr1 (fun z o nz hz => ?_) (R2.same (same_upd hr0)) ?_
        · rw [upd_ne (ne_of_none hz hr1), k2 z nz]
          exact hz
        · rw [upd_same, ← List.map_drop, ← List.map_take]
          have e3 : a + n - a = n := by omega
          rw [e3]
      · omega
/-- a number -/
def spRNum (C X : Addr) : Sp := fun vs H Q E => ∃ (p b c : Addr) (x : List Nat) (a : Nat), vs = [.ref p] ∧ RdAt C H p b c x a ∧ x.length ≤ 500000 ∧ a ≤ x.length ∧ (∀ y ∈ x, y < 256) ∧
  ((∃ n r, rnum 60 0 0 (x.drop a) = some (n, r) ∧ ∀ H', But H H' p → RdAt C H' p b c x (x.length - r.length) → Q (vi n) H') ∨
   (rnum 60 0 0 (x.drop a) = none ∧ ∀ H' a', But H H' p → RdAt C H' p b c x a' → a' ≤ x.length → E (.ref X) none H'))
theorem drop_at {x : List Nat} {a : Nat} (h : a < x.length) : x.drop a = x[a] :: x.drop (a + 1) := (List.getElem_cons_drop h).symm
theorem and127 (y : Nat) : Builtin.bitAnd (y : Int) 127 = ((y % 128 : Nat) : Int) := by
  have := Bits.bitAnd_mask (x := (y : Int)) 7 (by omega)
  rw [show ((2 : Int) ^ 7 - 1) = 127 by decide, show ((2 : Int) ^ 7) = 128 by decide] at this
  rw [this]
  omega
theorem pow7 (i : Nat) : (2 : Int) ^ (7 * (0 + (i : Int))).toNat = ((128 ^ i : Nat) : Int) := by
  have e : (7 * (0 + (i : Int))).toNat = 7 * i := by omega
  rw [e, Int.pow_mul]
  rw [Int.natCast_pow]
  rfl
theorem ok_readNumber {k : Nat} (Z : Defs K mg) : FnOk P w K mg base (L2.CX P w) (k + 2) Z.fReaderReadNumber Z.fdReaderReadNumber ["self"] (spRNum Z.cReader Z.eDamagedPacket) := by
  have GReaderReadByte : FnOk P w K mg base (L2.CX P w) (k + 1) Z.fReaderReadByte Z.fdReaderReadByte ["self", "most"] (spByte Z.cReader Z.eDamagedPacket) := ok_readByte Z
  obtain ⟨ds, dVReaderReadByte, dBReaderReadByte⟩ := Z.DReaderReadByte.bd
  refine Z.DReaderReadNumber.F.okX scReaderReadNumber (fun vs H Q E h => ?_) (fun cdv A outer s H vs Q E hr h => ?_)
  · obtain ⟨p, b, c, x, a, rfl, _⟩ := h
    rfl
  · obtain ⟨p, b, c, x, a, rfl, R, hl, ha, hx, hh⟩ := h
    refine ⟨_, (pss_cons (ps_set (i := 1) scReaderReadNumber.nd rfl (.inl rfl) pe_int)
        (pss_cons (ps_for (passes_of rfl) rfl (pi_range1 (by rfl) Z.range (pa_cons (pe_gint rfl Z.kLONGEST_NUMBER) pa_nil)) (pg_name (i := 2) scReaderReadNumber.nd rfl (.inl rfl)) (pss_cons (ps_set (i := 3) scReaderReadNumber.nd rfl (.inl rfl) (pe_meth0 (pv 0) Z.CReader.cl Z.DReaderReadByte.m GReaderReadByte (hr.mono (by omega)) dBReaderReadByte dVReaderReadByte (passes_call (takes_of rfl rfl rfl rfl) (fun _ _ _ _ h => h))))
        (pss_cons (ps_aug (i := 1) scReaderReadNumber.nd rfl (.inl rfl) (pe_op op_shl (pe_op op_and (pv 3) pe_int) (pe_op op_mul pe_int (pv 2))) ip_add)
        (pss_cons (ps_if (PW.pt (pw_and (pt_cmpR op_eq (pv 3) pe_int (nomark _)) (pw_and1 (pt_cmpR op_gt (pv 2) pe_int (nomark _))))) (pss_one (ps_raise rfl (takes_of rfl rfl rfl rfl) (SkE.pmk_own1 PySem.F.excBase_ValueError Z.EDamagedPacket.ex Z.EDamagedPacket.g Z.EDamagedPacket.kp (raises_own Z.EDamagedPacket.sub Z.EDamagedPacket.ty) (by rfl) (pe_joined (.cons pe_str (.cons (pe_fmt (pe_fld (pv 0) rfl)) .nil)))))) pss_nil)
        (pss_one (ps_if (pt_cmpR op_lt (pv 3) pe_int (nomark _)) (pss_one (ps_ret (pv 1))) pss_nil))))))
        (pss_one (ps_raise rfl (takes_of rfl rfl rfl rfl) (SkE.pmk_own1 PySem.F.excBase_ValueError Z.EDamagedPacket.ex Z.EDamagedPacket.g Z.EDamagedPacket.kp (raises_own Z.EDamagedPacket.sub Z.EDamagedPacket.ty) (by rfl) (pe_joined (.cons pe_str (.cons (pe_fmt (pe_fld (pv 0) rfl)) (.cons pe_str .nil))))))))), ?_⟩
    refine ⟨60, rfl, by decide, by decide, ?_⟩
    have bad : rnum 60 0 0 (x.drop a) = none → ∀ H' a', But H H' p → RdAt Z.cReader H' p b c x a' → a' ≤ x.length → E (.ref Z.eDamagedPacket) none H' := fun e => by
      rcases hh with ⟨n, r, h, _⟩ | ⟨_, h⟩
      · rw [e] at h; cases h
      · exact h
    refine for_range (lo := 0) (n := 60) (fun i σ H' => ∃ (acc : Nat) (y2 y3 : Option V), σ = [some (.ref p), some (vi acc), y2, y3] ∧ But H H' p ∧ RdAt Z.cReader H' p b c x (a + i) ∧ a + i ≤ x.length ∧ rnum 60 0 0 (x.drop a) = rnum (60 - i) i acc (x.drop (a + i)))
      ⟨0, none, none, rfl, But.refl, R, ha, rfl⟩ ?_ ?_
    · rintro i σ H1 hi ⟨acc, y2, y3, rfl, B1, R1, ha1, hrn⟩
      obtain ⟨⟨dx1, ho1⟩, _⟩ := id R1
      refine ⟨_, rfl, p, dx1, _, rfl, ho1, rflds_no _ _ _ (by decide +kernel) (by decide +kernel) (by decide +kernel), ?_⟩
      have e60 : 60 - i = (59 - i) + 1 := by omega
      rw [e60] at hrn
      by_cases hlt : a + i < x.length
      · rw [drop_at hlt] at hrn
        have hy : x[a + i]? = some x[a + i] := List.getElem?_eq_getElem hlt
        have hy2 := hx _ (List.getElem_mem hlt)
        generalize x[a + i] = y at hy hy2 hrn
        have hrn : rnum 60 0 0 (x.drop a) = (if y = 0 ∧ 0 < i then none else if y < 128 then some (acc + y % 128 * 128 ^ i, x.drop (a + i + 1)) else rnum (59 - i) (i + 1) (acc + y % 128 * 128 ^ i) (x.drop (a + i + 1))) := hrn
        refine ⟨p, b, c, x, a + i, 255, rfl, R1, hl, ha1, .inl ⟨y, hy, by omega, fun H2 B2 R2 => ?_⟩⟩
        obtain ⟨⟨dx2, ho2⟩, _⟩ := id R2
        have B12 := B1.trans B2
        have ha2 : a + i + 1 ≤ x.length := by omega
        have raise := fun e => bad (hrn.trans e) H2 (a + i + 1) B12 R2 ha2
        refine ⟨_, rfl, _, rfl, _, _, rfl, rfl, _, rfl, 7, _, rfl, rfl, .inl ⟨by decide, by decide⟩, ((y % 128 : Nat) : Int), _, congrArg V.int (and127 y), rfl, ⟨by omega, by omega, ?_⟩, _, _, rfl, rfl, ?_⟩
        · rw [Int.natAbs_natCast]
          exact Nat.lt_of_lt_of_le (Nat.mod_lt y (by decide)) (by decide)
        have e1 : (acc : Int) + ((y % 128 : Nat) : Int) * 2 ^ (7 * (0 + (i : Int))).toNat = ((acc + y % 128 * 128 ^ i : Nat) : Int) := by
          rw [pow7, Int.natCast_add, Int.natCast_mul]
        have vI : V.int ((acc : Int) + ((y % 128 : Nat) : Int) * 2 ^ (7 * (0 + (i : Int))).toNat) = vi (acc + y % 128 * 128 ^ i) := congrArg V.int e1
        have ret : y < 128 → ¬ (y = 0 ∧ 0 < i) → Q (vi (acc + y % 128 * 128 ^ i)) H2 := fun h1 h2 => by
          rw [if_neg h2, if_pos h1] at hrn
          rcases hh with ⟨n, r, h, q⟩ | ⟨h, _⟩
          · rw [hrn] at h
            cases h
            refine q H2 B12 ?_
            have : x.length - (x.drop (a + i + 1)).length = a + i + 1 := by rw [List.length_drop]; omega
            rw [this]
            exact R2
          · rw [hrn] at h; cases h
        have retI : y < 128 → ¬ (y = 0 ∧ 0 < i) → Q (V.int ((acc : Int) + ((y % 128 : Nat) : Int) * 2 ^ (7 * (0 + (i : Int))).toNat)) H2 := fun h1 h2 => by rw [vI]; exact ret h1 h2
        refine ⟨_, rfl, rfl, _, rfl, ite2 (fun h0 => ?_) (fun h0 => ?_)⟩
        · have hy0 : y = 0 := vi_inj (of_decide_eq_true h0)
          refine ⟨_, rfl, _, _, rfl, rfl, _, rfl, ite2 (fun h1 => ?_) (fun h1 => ?_)⟩
          · have hi0 : 0 < i := by
              have := of_decide_eq_true h1
              omega
            exact ⟨_, rfl, by decide, _, rfl, p, Z.cReader, dx2, _, _, rfl, ho2, Z.CReader.cl, Z.nReader_at, rflds_at _ _ _, .inr ⟨(a + i + 1 : Nat), rfl, log_small (by omega), _, rfl, msg_fits (by decide) (by omega), raise (if_pos ⟨hy0, hi0⟩)⟩⟩
          · have hi0 : ¬ 0 < i := fun z => h1 (decide_eq_true (by omega))
            refine ⟨_, rfl, _, _, rfl, rfl, _, rfl, ite2 (fun h2 => ?_) (fun h2 => ?_)⟩
            · exact ⟨_, rfl, retI (by omega) (fun z => hi0 z.2)⟩
            · exact absurd (decide_eq_true (by omega)) h2
        · have hy0 : ¬ y = 0 := fun z => h0 (decide_eq_true (by rw [z]; rfl))
          refine ⟨_, rfl, _, _, rfl, rfl, _, rfl, ite2 (fun h2 => ?_) (fun h2 => ?_)⟩
          · have := of_decide_eq_true h2
            exact ⟨_, rfl, retI (by omega) (fun z => hy0 z.1)⟩
          · have h3 : ¬ y < 128 := fun z => h2 (decide_eq_true (by omega))
            refine ⟨acc + y % 128 * 128 ^ i, _, _, congrArg (fun z => [some (V.ref p), some z, some (V.int (0 + (i : Int))), some (vi y)]) vI, B12, R2, ha2, ?_⟩
            rw [hrn, if_neg (fun z => hy0 z.1), if_neg h3]
            have e5 : 59 - i = 60 - (i + 1) := by omega
            rw [e5]
            rfl
      · refine ⟨p, b, c, x, a + i, 255, rfl, R1, hl, ha1, .inr ⟨fun y hy => ?_, ?_⟩⟩
        · have := (List.getElem?_eq_some_iff.mp hy).1
          omega
        · rw [List.drop_of_length_le (show x.length ≤ a + i by omega)] at hrn
          exact bad hrn _ _ B1 R1 ha1
    · rintro σ H1 ⟨acc, y2, y3, rfl, B1, R1, ha1, hrn⟩
      obtain ⟨⟨dx1, ho1⟩, _⟩ := id R1
      exact ⟨_, rfl, by decide, _, rfl, p, Z.cReader, dx1, _, _, rfl, ho1, Z.CReader.cl, Z.nReader_at, rflds_at _ _ _, .inr ⟨(a + 60 : Nat), rfl, log_small (by omega), _, rfl, msg_fits (by decide) (by omega), _, rfl, msg_fits2 (by decide) (by decide) (by omega), bad hrn _ _ B1 R1 ha1⟩⟩
end
end Q40
namespace Q40
open PySem PySem.Spec PyProof.Rows L2 SX HL NM DM
/-! ### the bytes -/
def NOk (n : Nat) : Prop := n < 128 ^ 21
theorem NOk.len {n : Nat} (h : NOk n) : (enc n).length ≤ 21 := enc_len (k := 20) n h
theorem NOk.small {n : Nat} (h : n < 1000000) : NOk n := Nat.lt_of_lt_of_le h (by decide)
theorem rnum_ok {n : Nat} (h : NOk n) (rest : List Nat) : rnum 60 0 0 (enc n ++ rest) = some (n, rest) := by
  have e := rnum_enc 59 n 0 0 rest (Nat.lt_of_lt_of_le h (by decide)) (fun z => absurd z (by decide))
  rw [Nat.pow_zero, Nat.mul_one, Nat.zero_add] at e
  exact e
def encS (l : List Nat) : List Nat := enc l.length ++ l
def encL (xs : List (List Nat)) : List Nat := enc xs.length ++ xs.flatten
def encI (i : Int) : List Nat := (if i < 0 then 1 else 0) :: enc i.natAbs
def TxOk (l : List Nat) : Prop := l.length ≤ 400 ∧ ∀ c ∈ l, c ∈ chars
def Byt (l : List Nat) : Prop := ∀ b ∈ l, b < 256
theorem Byt.app {a b : List Nat} (h1 : Byt a) (h2 : Byt b) : Byt (a ++ b) := fun x h => (List.mem_append.mp h).elim (h1 x) (h2 x)
theorem Byt.cons {a : Nat} {b : List Nat} (h1 : a < 256) (h2 : Byt b) : Byt (a :: b) := fun x h => by
  rcases List.mem_cons.mp h with rfl | h
  · exact h1
  · exact h2 x h
theorem Byt.flat {xs : List (List Nat)} (h : ∀ x ∈ xs, Byt x) : Byt xs.flatten := fun b hb => by
  obtain ⟨x, hx, hb⟩ := List.mem_flatten.mp hb
  exact h x hx b hb
theorem byt_enc (n : Nat) : Byt (enc n) := enc_bytes n
theorem chars_small : ∀ c ∈ chars, c < 128 := by decide +kernel
theorem byt_S {l : List Nat} (h : TxOk l) : Byt (encS l) := (byt_enc _).app fun c hc => Nat.lt_trans (chars_small c (h.2 c hc)) (by decide)
theorem byt_L {xs : List (List Nat)} (h : ∀ x ∈ xs, Byt x) : Byt (encL xs) := (byt_enc _).app (Byt.flat h)
theorem byt_I (i : Int) : Byt (encI i) := Byt.cons (by split <;> decide) (byt_enc _)
theorem len_S {l : List Nat} (h : TxOk l) : (encS l).length ≤ 402 := by
  have h1 := (enc_len (k := 1) l.length (Nat.lt_of_le_of_lt h.1 (by decide)))
  have := h.1
  unfold encS
  rw [List.length_append]
  omega
theorem len_L {xs : List (List Nat)} {c m : Nat} (hc : xs.length ≤ c) (hcc : c < 16384) (h : ∀ x ∈ xs, x.length ≤ m) : (encL xs).length ≤ 2 + c * m := by
  have h1 := (enc_len (k := 1) xs.length (Nat.lt_of_le_of_lt hc (by omega)))
  unfold encL
  rw [List.length_append]
  have h2 : ∀ ys : List (List Nat), (∀ x ∈ ys, x.length ≤ m) → ys.flatten.length ≤ ys.length * m := by
    intro ys
    induction ys with
    | nil => intro _; exact Nat.zero_le _
    | cons a r ih =>
      intro hy
      have := hy a (List.mem_cons_self ..)
      have := ih fun x hx => hy x (List.mem_cons_of_mem _ hx)
      rw [List.flatten_cons, List.length_append, List.length_cons, Nat.succ_mul]
      omega
  have h3 := h2 xs h
  have h4 := Nat.mul_le_mul_right m hc
  omega
theorem len_I {i : Int} (h : NOk i.natAbs) : (encI i).length ≤ 22 := by
  unfold encI
  rw [List.length_cons]
  have := h.len
  omega
/-! ### the data -/
inductive Va
  | num (i : Int)
  | txt (l : List Nat)
  | bl (b : Bool)
  | lst (vs : List Va)
  | mk (m : List Nat) (vs : List Va)
def VaAt (H : Hp) : Nat → Va → V → Prop
  | 0, _, _ => False
  | _ + 1, .num i, x => x = .int i ∧ NOk i.natAbs
  | _ + 1, .txt l, x => x = .str (S l) ∧ TxOk l
  | _ + 1, .bl b, x => x = .bl b
  | n + 1, .lst vs, x => ∃ t q us, x = .ref t ∧ H t = some (.tup [.str "list", .ref q]) ∧ H q = some (.tup us) ∧ us.length ≤ 100 ∧ All2 (fun u v => VaAt H n v u) us vs
  | n + 1, .mk m vs, x => TxOk m ∧ ∃ t q us, x = .ref t ∧ H t = some (.tup [.str "make", .str (S m), .ref q]) ∧ H q = some (.tup us) ∧ us.length ≤ 100 ∧ All2 (fun u v => VaAt H n v u) us vs
def bV : Nat → Va → List Nat
  | 0, _ => []
  | _ + 1, .num i => 0 :: encI i
  | _ + 1, .txt l => 1 :: encS l
  | _ + 1, .bl b => [2, if b then 1 else 0]
  | n + 1, .lst vs => 3 :: encL (vs.map (bV n))
  | n + 1, .mk m vs => 4 :: (encS m ++ encL (vs.map (bV n)))
theorem VaAt.keep {H H' : Hp} (k : TupK H H') : ∀ {n : Nat} {v : Va} {x : V}, VaAt H n v x → VaAt H' n v x
  | 0, _, _, h => h.elim
  | _ + 1, .num _, _, h => h
  | _ + 1, .txt _, _, h => h
  | _ + 1, .bl _, _, h => h
  | n + 1, .lst vs, _, ⟨t, q, us, e, h1, h2, h3, h4⟩ => ⟨t, q, us, e, k _ _ h1, k _ _ h2, h3, h4.mono fun _ _ r => VaAt.keep k r⟩
  | n + 1, .mk m vs, _, ⟨h0, t, q, us, e, h1, h2, h3, h4⟩ => ⟨h0, t, q, us, e, k _ _ h1, k _ _ h2, h3, h4.mono fun _ _ r => VaAt.keep k r⟩
theorem all2_map {α β : Type} {f g : β → List Nat} {R : α → β → Prop} (h : ∀ a b, R a b → f b = g b) : ∀ {xs : List α} {ys : List β}, All2 R xs ys → ys.map f = ys.map g
  | _, _, .nil => rfl
  | _, _, .cons r q => by rw [List.map_cons, List.map_cons, h _ _ r, all2_map h q]
theorem VaAt.up {H : Hp} : ∀ {n : Nat} {v : Va} {x : V}, VaAt H n v x → VaAt H (n + 1) v x ∧ bV (n + 1) v = bV n v
  | 0, _, _, h => h.elim
  | _ + 1, .num _, _, h => ⟨h, rfl⟩
  | _ + 1, .txt _, _, h => ⟨h, rfl⟩
  | _ + 1, .bl _, _, h => ⟨h, rfl⟩
  | n + 1, .lst vs, _, ⟨t, q, us, e, h1, h2, h3, h4⟩ => ⟨⟨t, q, us, e, h1, h2, h3, h4.mono fun _ _ r => (VaAt.up r).1⟩, by
      show 3 :: encL (vs.map (bV (n + 1))) = 3 :: encL (vs.map (bV n))
      rw [all2_map (f := bV (n + 1)) (g := bV n) (fun _ _ r => (VaAt.up r).2) h4]⟩
  | n + 1, .mk m vs, _, ⟨h0, t, q, us, e, h1, h2, h3, h4⟩ => ⟨⟨h0, t, q, us, e, h1, h2, h3, h4.mono fun _ _ r => (VaAt.up r).1⟩, by
      show 4 :: (encS m ++ encL (vs.map (bV (n + 1)))) = 4 :: (encS m ++ encL (vs.map (bV n)))
      rw [all2_map (f := bV (n + 1)) (g := bV n) (fun _ _ r => (VaAt.up r).2) h4]⟩
theorem VaAt.le {H : Hp} {n m : Nat} {v : Va} {x : V} (h : VaAt H n v x) (hm : n ≤ m) : VaAt H m v x ∧ bV m v = bV n v := by
  induction m with
  | zero =>
    have : n = 0 := by omega
    subst this
    exact ⟨h, rfl⟩
  | succ m ih =>
    by_cases e : n = m + 1
    · subst e; exact ⟨h, rfl⟩
    · obtain ⟨h1, h2⟩ := ih (by omega)
      obtain ⟨h3, h4⟩ := h1.up
      exact ⟨h3, h4.trans h2⟩
theorem all2_memR {α β : Type} {R : α → β → Prop} : ∀ {xs : List α} {ys : List β}, All2 R xs ys → ∀ {y : β}, y ∈ ys → ∃ x, x ∈ xs ∧ R x y
  | _, _, .nil, _, h => by cases h
  | _, _, .cons r q, _, h => by
    rcases List.mem_cons.mp h with rfl | h
    · exact ⟨_, List.mem_cons_self .., r⟩
    · obtain ⟨x, hx, hr⟩ := all2_memR q h
      exact ⟨x, List.mem_cons_of_mem _ hx, hr⟩
theorem VaAt.byt {H : Hp} : ∀ {n : Nat} {v : Va} {x : V}, VaAt H n v x → Byt (bV n v)
  | 0, _, _, h => h.elim
  | _ + 1, .num i, _, h => Byt.cons (by decide) (byt_I i)
  | _ + 1, .txt l, _, h => Byt.cons (by decide) (byt_S h.2)
  | _ + 1, .bl b, _, h => Byt.cons (by decide) (Byt.cons (by cases b <;> decide) fun _ h => by cases h)
  | n + 1, .lst vs, _, ⟨t, q, us, e, h1, h2, h3, h4⟩ => Byt.cons (by decide) (byt_L fun y hy => by
      obtain ⟨v, hv, rfl⟩ := List.mem_map.mp hy
      obtain ⟨u, _, hu⟩ := all2_memR h4 hv
      exact VaAt.byt hu)
  | n + 1, .mk m vs, _, ⟨h0, t, q, us, e, h1, h2, h3, h4⟩ => Byt.cons (by decide) ((byt_S h0).app (byt_L fun y hy => by
      obtain ⟨v, hv, rfl⟩ := List.mem_map.mp hy
      obtain ⟨u, _, hu⟩ := all2_memR h4 hv
      exact VaAt.byt hu))
/-- told twice -/
theorem all2_two {α : Type} {K : PySem.W.Frag} {H : Hp} {n : Nat} {R : V → α → Prop} (h : ∀ x y a, R x a → R y a → SameD K H n x y) : ∀ {xs ys : List V} {as : List α}, All2 R xs as → All2 R ys as → All2 (SameD K H n) xs ys
  | _, _, _, .nil, .nil => .nil
  | _, _, _, .cons r q, .cons r' q' => .cons (h _ _ _ r r') (all2_two h q q')
theorem same_tup {K : PySem.W.Frag} {H : Hp} {n : Nat} {a b : Addr} {xs ys : List V} (h1 : H a = some (.tup xs)) (h2 : H b = some (.tup ys)) (h : All2 (SameD K H n) xs ys) (hl : ys.length ≤ 1000000) : SameD K H (n + 1) (.ref a) (.ref b) :=
  .seq (.tup h1) (.tup h2) h.len hl fun i u v hu hv => by
    obtain ⟨v', hv', r⟩ := h.get hu
    rw [hv] at hv'
    cases hv'
    exact r
theorem same_lst {K : PySem.W.Frag} {H : Hp} {n : Nat} {a b : Addr} {xs ys : List V} (h1 : H a = some (.lst xs)) (h2 : H b = some (.lst ys)) (h : All2 (SameD K H n) xs ys) (hl : ys.length ≤ 1000000) : SameD K H (n + 1) (.ref a) (.ref b) :=
  .seq (.lst h1) (.lst h2) h.len hl fun i u v hu hv => by
    obtain ⟨v', hv', r⟩ := h.get hu
    rw [hv] at hv'
    cases hv'
    exact r
theorem VaAt.same {K : PySem.W.Frag} {H : Hp} : ∀ {n : Nat} {v : Va} {x y : V}, VaAt H n v x → VaAt H n v y → SameD K H (2 * n) x y
  | 0, _, _, _, h, _ => h.elim
  | _ + 1, .num i, _, _, ⟨h, _⟩, ⟨h', _⟩ => by rw [h, h']; exact .leaf True.intro
  | _ + 1, .txt l, _, _, ⟨h, _⟩, ⟨h', _⟩ => by rw [h, h']; exact .leaf True.intro
  | _ + 1, .bl b, _, _, h, h' => by
    have h : _ = V.bl b := h
    have h' : _ = V.bl b := h'
    rw [h, h']; exact .leaf True.intro
  | n + 1, .lst vs, _, _, ⟨t, q, us, e, h1, h2, h3, h4⟩, ⟨t', q', us', e', h1', h2', h3', h4'⟩ => by
    rw [e, e']
    exact same_tup h1 h1' (.cons (.leaf True.intro) (.cons (same_tup h2 h2' (all2_two (R := fun u v => VaAt H n v u) (fun x y a r r' => VaAt.same r r') h4 h4') (by omega)) .nil)) (by show 2 ≤ _; decide)
  | n + 1, .mk m vs, _, _, ⟨_, t, q, us, e, h1, h2, h3, h4⟩, ⟨_, t', q', us', e', h1', h2', h3', h4'⟩ => by
    rw [e, e']
    exact same_tup h1 h1' (.cons (.leaf True.intro) (.cons (.leaf True.intro) (.cons (same_tup h2 h2' (all2_two (R := fun u v => VaAt H n v u) (fun x y a r r' => VaAt.same r r') h4 h4') (by omega)) .nil))) (by show 3 ≤ _; decide)
end Q40
namespace Q40
open PySem PySem.Spec PyProof.Rows L2 SX HL NM DM
/-- things in a tuple -/
def TupsAt {D : Type} (R : Hp → D → V → Prop) (H : Hp) (ds : List D) (x : V) : Prop := ∃ q us, x = .ref q ∧ H q = some (.tup us) ∧ us.length ≤ 200 ∧ All2 (fun u d => R H d u) us ds
theorem TupsAt.keep {D : Type} {R : Hp → D → V → Prop} {H H' : Hp} (hR : ∀ d x, R H d x → R H' d x) (k : TupK H H') {ds : List D} {x : V} (h : TupsAt R H ds x) : TupsAt R H' ds x := by
  obtain ⟨q, us, e, h1, h2, h3⟩ := h
  exact ⟨q, us, e, k _ _ h1, h2, h3.mono fun _ _ r => hR _ _ r⟩
theorem TupsAt.same {D : Type} {K : PySem.W.Frag} {R : Hp → D → V → Prop} {H : Hp} {n : Nat} (hR : ∀ x y d, R H d x → R H d y → SameD K H n x y) {ds : List D} {x y : V} (h : TupsAt R H ds x) (h' : TupsAt R H ds y) : SameD K H (n + 1) x y := by
  obtain ⟨q, us, rfl, h1, h2, h3⟩ := h
  obtain ⟨q', us', rfl, h1', h2', h3'⟩ := h'
  exact same_tup h1 h1' (all2_two (R := fun u d => R H d u) hR h3 h3') (by omega)
theorem TupsAt.byt {D : Type} {R : Hp → D → V → Prop} {H : Hp} {f : D → List Nat} (hR : ∀ x d, R H d x → Byt (f d)) {ds : List D} {x : V} (h : TupsAt R H ds x) : Byt (encL (ds.map f)) := by
  obtain ⟨q, us, e, h1, h2, h3⟩ := h
  refine byt_L fun y hy => ?_
  obtain ⟨d, hd, rfl⟩ := List.mem_map.mp hy
  obtain ⟨u, _, hu⟩ := all2_memR h3 hd
  exact hR _ _ hu
/-! ### kinds -/
abbrev Kd := Nat × List Nat
def NUM : List Nat := ("num" : Str).cps.toList
def TEXT : List Nat := ("text" : Str).cps.toList
def BOOL : List Nat := ("bool" : Str).cps.toList
def KdAt (H : Hp) (k : Kd) (x : V) : Prop := NOk k.1 ∧ TxOk k.2 ∧ ∃ t, x = .ref t ∧ H t = some (.tup [vi k.1, .str (S k.2)])
def bB (l : List Nat) : List Nat := if l = NUM then [0] else if l = TEXT then [1] else if l = BOOL then [2] else 3 :: encS l
def bK (k : Kd) : List Nat := enc k.1 ++ bB k.2
theorem KdAt.keep {H H' : Hp} (k : TupK H H') {d : Kd} {x : V} (h : KdAt H d x) : KdAt H' d x := by
  obtain ⟨h0, h1, t, e, h2⟩ := h
  exact ⟨h0, h1, t, e, k _ _ h2⟩
theorem KdAt.same {K : PySem.W.Frag} {H : Hp} {n : Nat} {d : Kd} {x y : V} (h : KdAt H d x) (h' : KdAt H d y) : SameD K H (n + 1) x y := by
  obtain ⟨_, _, t, rfl, h2⟩ := h
  obtain ⟨_, _, t', rfl, h2'⟩ := h'
  exact same_tup h2 h2' (.cons (.leaf True.intro) (.cons (.leaf True.intro) .nil)) (by show 2 ≤ _; decide)
theorem byt_B {l : List Nat} (h : TxOk l) : Byt (bB l) := by
  unfold bB
  split
  · exact Byt.cons (by decide) fun _ h => by cases h
  split
  · exact Byt.cons (by decide) fun _ h => by cases h
  split
  · exact Byt.cons (by decide) fun _ h => by cases h
  exact Byt.cons (by decide) (byt_S h)
theorem KdAt.byt {H : Hp} {d : Kd} {x : V} (h : KdAt H d x) : Byt (bK d) := (byt_enc _).app (byt_B h.2.1)
/-! ### makers, data, shapes -/
abbrev Mkr := List Nat × List Kd
def MkrAt (H : Hp) (m : Mkr) (x : V) : Prop := TxOk m.1 ∧ ∃ t y, x = .ref t ∧ H t = some (.tup [.str (S m.1), y]) ∧ TupsAt KdAt H m.2 y
def bM (m : Mkr) : List Nat := encS m.1 ++ encL (m.2.map bK)
theorem MkrAt.keep {H H' : Hp} (k : TupK H H') {d : Mkr} {x : V} (h : MkrAt H d x) : MkrAt H' d x := by
  obtain ⟨h1, t, y, e, h2, h3⟩ := h
  exact ⟨h1, t, y, e, k _ _ h2, h3.keep (fun _ _ r => r.keep k) k⟩
theorem MkrAt.same {K : PySem.W.Frag} {H : Hp} {d : Mkr} {x y : V} (h : MkrAt H d x) (h' : MkrAt H d y) : SameD K H 3 x y := by
  obtain ⟨_, t, y, rfl, h2, h3⟩ := h
  obtain ⟨_, t', y', rfl, h2', h3'⟩ := h'
  exact same_tup h2 h2' (.cons (.leaf True.intro) (.cons (h3.same (fun _ _ _ r r' => KdAt.same (n := 0) r r') h3') .nil)) (by show 2 ≤ _; decide)
theorem MkrAt.byt {H : Hp} {d : Mkr} {x : V} (h : MkrAt H d x) : Byt (bM d) := by
  obtain ⟨h1, t, y, e, h2, h3⟩ := h
  exact (byt_S h1).app (h3.byt fun _ _ r => r.byt)
abbrev Da := List Nat × List Mkr
def DaAt (H : Hp) (m : Da) (x : V) : Prop := TxOk m.1 ∧ ∃ t y, x = .ref t ∧ H t = some (.tup [.str (S m.1), y]) ∧ TupsAt MkrAt H m.2 y
def bDa (m : Da) : List Nat := encS m.1 ++ encL (m.2.map bM)
theorem DaAt.keep {H H' : Hp} (k : TupK H H') {d : Da} {x : V} (h : DaAt H d x) : DaAt H' d x := by
  obtain ⟨h1, t, y, e, h2, h3⟩ := h
  exact ⟨h1, t, y, e, k _ _ h2, h3.keep (fun _ _ r => r.keep k) k⟩
theorem DaAt.same {K : PySem.W.Frag} {H : Hp} {d : Da} {x y : V} (h : DaAt H d x) (h' : DaAt H d y) : SameD K H 5 x y := by
  obtain ⟨_, t, y, rfl, h2, h3⟩ := h
  obtain ⟨_, t', y', rfl, h2', h3'⟩ := h'
  exact same_tup h2 h2' (.cons (.leaf True.intro) (.cons (h3.same (fun _ _ _ r r' => MkrAt.same r r') h3') .nil)) (by show 2 ≤ _; decide)
theorem DaAt.byt {H : Hp} {d : Da} {x : V} (h : DaAt H d x) : Byt (bDa d) := by
  obtain ⟨h1, t, y, e, h2, h3⟩ := h
  exact (byt_S h1).app (h3.byt fun _ _ r => r.byt)
abbrev Sh := Kd × List Da
def ShAt (H : Hp) (s : Sh) (x : V) : Prop := ∃ t k y, x = .ref t ∧ H t = some (.tup [k, y]) ∧ KdAt H s.1 k ∧ TupsAt DaAt H s.2 y
def bSh (s : Sh) : List Nat := bK s.1 ++ encL (s.2.map bDa)
theorem ShAt.keep {H H' : Hp} (k : TupK H H') {d : Sh} {x : V} (h : ShAt H d x) : ShAt H' d x := by
  obtain ⟨t, kd, y, e, h2, h1, h3⟩ := h
  exact ⟨t, kd, y, e, k _ _ h2, h1.keep k, h3.keep (fun _ _ r => r.keep k) k⟩
theorem ShAt.same {K : PySem.W.Frag} {H : Hp} {d : Sh} {x y : V} (h : ShAt H d x) (h' : ShAt H d y) : SameD K H 7 x y := by
  obtain ⟨t, kd, y, rfl, h2, h1, h3⟩ := h
  obtain ⟨t', kd', y', rfl, h2', h1', h3'⟩ := h'
  exact same_tup h2 h2' (.cons (h1.same h1') (.cons (h3.same (fun _ _ _ r r' => DaAt.same r r') h3') .nil)) (by show 2 ≤ _; decide)
theorem ShAt.byt {H : Hp} {d : Sh} {x : V} (h : ShAt H d x) : Byt (bSh d) := by
  obtain ⟨t, kd, y, e, h2, h1, h3⟩ := h
  exact h1.byt.app (h3.byt fun _ _ r => r.byt)
/-! ### outcomes -/
def FAU : List Str := ["division", "deep", "large", "missing", "stuck", "long"]
inductive Ou
  | val (v : Va)
  | flt (i : Nat)
  | miss (l : List Nat)
def OuAt (H : Hp) : Ou → V → Prop
  | .val v, x => ∃ t y, x = .ref t ∧ H t = some (.tup [.str "value", y]) ∧ VaAt H 40 v y
  | .flt i, x => i < 6 ∧ i ≠ 3 ∧ ∃ t u, x = .ref t ∧ H t = some (.tup [.str "fault", .ref u]) ∧ H u = some (.tup [.str (FAU.getD i "")])
  | .miss l, x => TxOk l ∧ ∃ t u, x = .ref t ∧ H t = some (.tup [.str "fault", .ref u]) ∧ H u = some (.tup [.str "missing", .str (S l)])
def bO : Ou → List Nat
  | .val v => 0 :: bV 40 v
  | .flt i => [1, i]
  | .miss l => 1 :: 3 :: encS l
theorem OuAt.keep {H H' : Hp} (k : TupK H H') {d : Ou} {x : V} (h : OuAt H d x) : OuAt H' d x := by
  cases d with
  | val v => obtain ⟨t, y, e, h1, h2⟩ := h; exact ⟨t, y, e, k _ _ h1, h2.keep k⟩
  | flt i => obtain ⟨a, b, t, y, e, h1, h2⟩ := h; exact ⟨a, b, t, y, e, k _ _ h1, k _ _ h2⟩
  | miss l => obtain ⟨a, t, y, e, h1, h2⟩ := h; exact ⟨a, t, y, e, k _ _ h1, k _ _ h2⟩
theorem OuAt.same {K : PySem.W.Frag} {H : Hp} {d : Ou} {x y : V} (h : OuAt H d x) (h' : OuAt H d y) : SameD K H 81 x y := by
  cases d with
  | val v =>
    obtain ⟨t, y, rfl, h1, h2⟩ := h; obtain ⟨t', y', rfl, h1', h2'⟩ := h'
    exact same_tup h1 h1' (.cons (.leaf True.intro) (.cons (h2.same h2') .nil)) (by show 2 ≤ _; decide)
  | flt i =>
    obtain ⟨_, _, t, y, rfl, h1, h2⟩ := h; obtain ⟨_, _, t', y', rfl, h1', h2'⟩ := h'
    exact same_tup h1 h1' (.cons (.leaf True.intro) (.cons (same_tup (n := 79) h2 h2' (.cons (.leaf True.intro) .nil) (by show 1 ≤ _; decide)) .nil)) (by show 2 ≤ _; decide)
  | miss l =>
    obtain ⟨_, t, y, rfl, h1, h2⟩ := h; obtain ⟨_, t', y', rfl, h1', h2'⟩ := h'
    exact same_tup h1 h1' (.cons (.leaf True.intro) (.cons (same_tup (n := 79) h2 h2' (.cons (.leaf True.intro) (.cons (.leaf True.intro) .nil)) (by show 2 ≤ _; decide)) .nil)) (by show 2 ≤ _; decide)
theorem OuAt.byt {H : Hp} {d : Ou} {x : V} (h : OuAt H d x) : Byt (bO d) := by
  cases d with
  | val v => obtain ⟨t, y, e, h1, h2⟩ := h; exact Byt.cons (by decide) h2.byt
  | flt i => obtain ⟨a, _⟩ := h; exact Byt.cons (by decide) (Byt.cons (by omega) fun _ h => by cases h)
  | miss l => obtain ⟨a, _⟩ := h; exact Byt.cons (by decide) (Byt.cons (by decide) (byt_S a))
/-! ### cells -/
abbrev Ce := List Nat × Sh × Ou
def CeAt (H : Hp) (c : Ce) (x : V) : Prop := TxOk c.1 ∧ ∃ t s o, x = .ref t ∧ H t = some (.tup [.str (S c.1), s, o]) ∧ ShAt H c.2.1 s ∧ OuAt H c.2.2 o
def bC (c : Ce) : List Nat := encS c.1 ++ (bSh c.2.1 ++ bO c.2.2)
theorem CeAt.keep {H H' : Hp} (k : TupK H H') {d : Ce} {x : V} (h : CeAt H d x) : CeAt H' d x := by
  obtain ⟨h0, t, s, o, e, h1, h2, h3⟩ := h
  exact ⟨h0, t, s, o, e, k _ _ h1, h2.keep k, h3.keep k⟩
theorem SameD.le {K : PySem.W.Frag} {H : Hp} : ∀ {n m : Nat} {x y : V}, SameD K H n x y → n ≤ m → SameD K H m x y
  | 0, _, x, _, ⟨h, e⟩, _ => by rw [← e]; exact .leaf h
  | n + 1, 0, _, _, _, h => absurd h (Nat.not_succ_le_zero _)
  | n + 1, m + 1, x, y, h, hm => by
    rcases h with ⟨h, e⟩ | ⟨t, a, b, xs, ys, h1, h2, h3, h4, h5, h6, h7⟩
    · rw [← e]; exact .leaf h
    · exact .inr ⟨t, a, b, xs, ys, h1, h2, h3, h4, h5, h6, fun i u v hu hv => SameD.le (h7 i u v hu hv) (Nat.le_of_succ_le_succ hm)⟩
theorem CeAt.same {K : PySem.W.Frag} {H : Hp} {d : Ce} {x y : V} (h : CeAt H d x) (h' : CeAt H d y) : SameD K H 82 x y := by
  obtain ⟨_, t, s, o, rfl, h1, h2, h3⟩ := h
  obtain ⟨_, t', s', o', rfl, h1', h2', h3'⟩ := h'
  exact same_tup h1 h1' (.cons (.leaf True.intro) (.cons (SameD.le (h2.same h2') (by decide)) (.cons (h3.same h3') .nil))) (by show 3 ≤ _; decide)
theorem CeAt.byt {H : Hp} {d : Ce} {x : V} (h : CeAt H d x) : Byt (bC d) := by
  obtain ⟨h0, t, s, o, e, h1, h2, h3⟩ := h
  exact (byt_S h0).app (h2.byt.app h3.byt)
/-! ### deeds -/
def MOk (m : Mark) : Prop := NOk m.1 ∧ NOk m.2
def MarkAt (H : Hp) (m : Mark) (x : V) : Prop := MOk m ∧ MkAt H x m
def bMk (m : Mark) : List Nat := enc m.1 ++ enc m.2
theorem MarkAt.keep {H H' : Hp} (k : TupK H H') {m : Mark} {x : V} (h : MarkAt H m x) : MarkAt H' m x := ⟨h.1, h.2.keep k⟩
theorem byt_mk (m : Mark) : Byt (bMk m) := (byt_enc _).app (byt_enc _)
theorem MarkAt.same {K : PySem.W.Frag} {H : Hp} {n : Nat} {m : Mark} {x y : V} (h : MarkAt H m x) (h' : MarkAt H m y) : SameD K H (n + 1) x y := by
  obtain ⟨_, t, rfl, h2⟩ := h
  obtain ⟨_, t', rfl, h2'⟩ := h'
  exact same_tup h2 h2' (.cons (.leaf True.intro) (.cons (.leaf True.intro) .nil)) (by show 2 ≤ _; decide)
def bBe : Option Mark → List Nat
  | none => [0]
  | some m => 1 :: bMk m
def BeAt (H : Hp) : Option Mark → V → Prop
  | none, x => x = .non
  | some m, x => MarkAt H m x
def DeAt (H : Hp) : Deed → V → Prop
  | .back n, x => NOk n ∧ ∃ t, x = .ref t ∧ H t = some (.tup [.str "back", vi n])
  | .change m r b n l, x => TxOk m ∧ NOk n ∧ TxOk l ∧ ∃ t y bx, x = .ref t ∧ H t = some (.tup [.str "change", .str (S m), y, bx, vi n, .str (S l)]) ∧ TupsAt MarkAt H r y ∧ BeAt H b bx
def bDe : Deed → List Nat
  | .back n => 1 :: enc n
  | .change m r b n l => 0 :: (encS m ++ (encL (r.map bMk) ++ (bBe b ++ (enc n ++ encS l))))
theorem BeAt.keep {H H' : Hp} (k : TupK H H') {m : Option Mark} {x : V} (h : BeAt H m x) : BeAt H' m x := by
  cases m with
  | none => exact h
  | some m => exact MarkAt.keep k h
theorem DeAt.keep {H H' : Hp} (k : TupK H H') {d : Deed} {x : V} (h : DeAt H d x) : DeAt H' d x := by
  cases d with
  | back n => obtain ⟨h0, t, e, h1⟩ := h; exact ⟨h0, t, e, k _ _ h1⟩
  | change m r b n l => obtain ⟨h1, h2, h3, t, y, bx, e, h4, h5, h6⟩ := h; exact ⟨h1, h2, h3, t, y, bx, e, k _ _ h4, h5.keep (fun _ _ r => r.keep k) k, h6.keep k⟩
theorem DeAt.same {K : PySem.W.Frag} {H : Hp} {d : Deed} {x y : V} (h : DeAt H d x) (h' : DeAt H d y) : SameD K H 3 x y := by
  cases d with
  | back n =>
    obtain ⟨_, t, rfl, h1⟩ := h; obtain ⟨_, t', rfl, h1'⟩ := h'
    exact same_tup h1 h1' (.cons (.leaf True.intro) (.cons (.leaf True.intro) .nil)) (by show 2 ≤ _; decide)
  | change m r b n l =>
    obtain ⟨_, _, _, t, y, bx, rfl, h4, h5, h6⟩ := h
    obtain ⟨_, _, _, t', y', bx', rfl, h4', h5', h6'⟩ := h'
    refine same_tup h4 h4' (.cons (.leaf True.intro) (.cons (.leaf True.intro) (.cons (h5.same (fun _ _ _ r r' => MarkAt.same (n := 0) r r') h5') (.cons ?_ (.cons (.leaf True.intro) (.cons (.leaf True.intro) .nil)))))) (by show 6 ≤ _; decide)
    cases b with
    | none => rw [show bx = .non from h6, show bx' = .non from h6']; exact .leaf True.intro
    | some m => exact MarkAt.same h6 h6'
theorem DeAt.byt {H : Hp} {d : Deed} {x : V} (h : DeAt H d x) : Byt (bDe d) := by
  cases d with
  | back n => exact Byt.cons (by decide) (byt_enc _)
  | change m r b n l =>
    obtain ⟨h1, h2, h3, t, y, bx, e, h4, h5, h6⟩ := h
    refine Byt.cons (by decide) ((byt_S h1).app ((h5.byt fun _ _ _ => byt_mk _).app (Byt.app ?_ ((byt_enc _).app (byt_S h3)))))
    cases b with
    | none => exact Byt.cons (by decide) fun _ h => by cases h
    | some m => exact Byt.cons (by decide) (byt_mk m)
abbrev Tri := Nat × Nat × Deed
def TriAt (H : Hp) (t : Tri) (x : V) : Prop := NOk t.1 ∧ NOk t.2.1 ∧ ∃ a dx, x = .ref a ∧ H a = some (.tup [vi t.1, vi t.2.1, dx]) ∧ DeAt H t.2.2 dx
def bTri (t : Tri) : List Nat := enc t.1 ++ (enc t.2.1 ++ bDe t.2.2)
theorem TriAt.keep {H H' : Hp} (k : TupK H H') {d : Tri} {x : V} (h : TriAt H d x) : TriAt H' d x := by
  obtain ⟨h0, h1, t, dx, e, h2, h3⟩ := h
  exact ⟨h0, h1, t, dx, e, k _ _ h2, h3.keep k⟩
theorem TriAt.same {K : PySem.W.Frag} {H : Hp} {d : Tri} {x y : V} (h : TriAt H d x) (h' : TriAt H d y) : SameD K H 4 x y := by
  obtain ⟨_, _, t, dx, rfl, h2, h3⟩ := h
  obtain ⟨_, _, t', dx', rfl, h2', h3'⟩ := h'
  exact same_tup h2 h2' (.cons (.leaf True.intro) (.cons (.leaf True.intro) (.cons (h3.same h3') .nil))) (by show 3 ≤ _; decide)
theorem TriAt.byt {H : Hp} {d : Tri} {x : V} (h : TriAt H d x) : Byt (bTri d) := by
  obtain ⟨h0, h1, t, dx, e, h2, h3⟩ := h
  exact (byt_enc _).app ((byt_enc _).app h3.byt)
end Q40
namespace Q40
open PySem PySem.Spec PyProof.Rows L2 SX HL NM DM
/-- a list of bytes -/
def LsAt (H : Hp) (u : V) (bs : List Nat) : Prop := ∃ l, u = .ref l ∧ H l = some (.lst (bs.map vi))
/-- what is written -/
def spWr {D : Type} (R : Hp → D → V → Prop) (f : D → List Nat) : Sp := fun vs H Q _ => ∃ (x : V) (d : D), vs = [x] ∧ R H d x ∧ (f d).length ≤ 500000 ∧
  ∀ p H', Same H H' → H p = none → H' p = some (.lst ((f d).map vi)) → Q (.ref p) H'
theorem fits {n : Nat} (h : n ≤ 600000) : n ≤ sizeLine := Nat.le_trans h (by decide)
/-- an ending by a list -/
theorem Wr.fin {D : Type} {f : D → List Nat} {d : D} {H H1 : Hp} {Q : VK} {us : List V} (q : ∀ p H', Same H H' → H p = none → H' p = some (.lst ((f d).map vi)) → Q (.ref p) H') (hl : (f d).length ≤ 500000) (s : Same H H1) (e : us = (f d).map vi) :
    us.length ≤ sizeLine ∧ ∀ p, H1 p = none → Q (.ref p) (upd H1 p (.lst us)) := by
  subst e
  exact ⟨by rw [List.length_map]; exact fits (by omega), fun p hp => q p _ (Same.tr s (same_upd hp)) (Same.none s hp) upd_same⟩
section
variable {P : Program} {w : World} {K : PySem.W.Frag} {mg : Str → Option Value} {base : Heap}
def IntAt (H : Hp) (i : Int) (x : V) : Prop := x = .int i ∧ NOk i.natAbs
def TxtAt (H : Hp) (l : List Nat) (x : V) : Prop := x = .str (S l) ∧ TxOk l
theorem enc_le (n : Nat) (h : NOk n) : (enc n).length ≤ 1000 := Nat.le_trans h.len (by decide)
theorem ok_writeInteger {k : Nat} (Z : Defs K mg) : FnOk P w K mg base CX0 (k + 2) Z.fWriteInteger Z.fdWriteInteger ["number"] (spWr IntAt encI) := by
  have GWriteNumber : FnOk P w K mg base CX0 (k + 1) Z.fWriteNumber Z.fdWriteNumber ["number"] spNum := ok_writeNumber Z
  refine Z.DWriteInteger.F.ok scWriteInteger (fun vs H Q E h => ?_) (fun cdv A outer s H vs Q E hr h => ?_)
  · obtain ⟨x, d, rfl, _⟩ := h
    rfl
  · obtain ⟨x, d, rfl, ⟨rfl, hn⟩, hl, qq⟩ := h
    refine ⟨_, (pss_one (ps_ret (pe_lst (pa_cons (pe_ifExp (pt_cmpR op_lt (pv 0) pe_int (nomark _)) pe_int pe_int) (StX.pa_star (pe_call GWriteNumber (hr.mono (by omega)) (by rfl) Z.DWriteNumber.g Z.DWriteNumber.F.kp Z.DWriteNumber.b .nil pass0 (pa_cons (pe_callB call_abs (by rfl) Z.abs (by decide +kernel) (pa_cons (pv 0) pa_nil)) pa_nil)) pa_nil))))), ?_⟩
    by_cases h0 : d < 0
    · have e0 : d.natAbs = d.natAbs := rfl
      obtain ⟨f1, f2⟩ : (encI d).map vi = V.int 1 :: (enc d.natAbs).map vi ∧ (-d : Int) = (d.natAbs : Int) := ⟨by unfold encI; rw [if_pos h0]; rfl, by omega⟩
      refine ⟨_, rfl, d, 0, rfl, rfl, _, rfl, iteYes (decide_eq_true h0) ?_⟩
      refine ⟨_, rfl, d, rfl, d.natAbs, by rw [if_pos h0, f2]; rfl, enc_le _ hn, fun p1 H1 s1 hp1 h1 => ?_⟩
      obtain ⟨a, b⟩ := Wr.fin (us := V.int 1 :: ((enc d.natAbs).map vi ++ [])) qq hl s1 (by rw [f1, List.append_nil])
      exact ⟨p1, _, rfl, .inr (SqL.of h1), a, b⟩
    · obtain ⟨f1, f2⟩ : (encI d).map vi = V.int 0 :: (enc d.natAbs).map vi ∧ (d : Int) = (d.natAbs : Int) := ⟨by unfold encI; rw [if_neg h0]; rfl, by omega⟩
      refine ⟨_, rfl, d, 0, rfl, rfl, _, rfl, iteNo (fun h => h0 (of_decide_eq_true h)) ?_⟩
      refine ⟨_, rfl, d, rfl, d.natAbs, by rw [if_neg h0]; exact congrArg (fun z => [V.int z]) f2, enc_le _ hn, fun p1 H1 s1 hp1 h1 => ?_⟩
      obtain ⟨a, b⟩ := Wr.fin (us := V.int 0 :: ((enc d.natAbs).map vi ++ [])) qq hl s1 (by rw [f1, List.append_nil])
      exact ⟨p1, _, rfl, .inr (SqL.of h1), a, b⟩
theorem ok_writeString {k : Nat} (Z : Defs K mg) : FnOk P w K mg base CX0 (k + 2) Z.fWriteString Z.fdWriteString ["text"] (spWr TxtAt encS) := by
  have GWriteNumber : FnOk P w K mg base CX0 (k + 1) Z.fWriteNumber Z.fdWriteNumber ["number"] spNum := ok_writeNumber Z
  refine Z.DWriteString.F.ok scWriteString (fun vs H Q E h => ?_) (fun cdv A outer s H vs Q E hr h => ?_)
  · obtain ⟨x, d, rfl, _⟩ := h
    rfl
  · obtain ⟨x, d, rfl, ⟨rfl, hn⟩, hl, qq⟩ := h
    refine ⟨_, (pss_one (ps_ret (pe_lst (StX.pa_star (pe_call GWriteNumber (hr.mono (by omega)) (by rfl) Z.DWriteNumber.g Z.DWriteNumber.F.kp Z.DWriteNumber.b .nil pass0 (pa_cons (pe_callB call_len_str (by rfl) Z.len PySem.boot_len (pa_cons (pv 0) pa_nil)) pa_nil)) (StX.pa_star (pe_lc (own := [("character", 1)]) (g := (gName 1)) (by rfl) scWriteString.nd (pi_str (pv 0)) (blkOk_by (own := [("character", 1)]) (N := ["text", "character"]) (sc := defScope sWriteString) (by decide +kernel)) (fun _ _ _ _ _ => (pg_name (i := 1) scWriteString.nd rfl (Or.inl rfl))) (fun _ _ _ _ _ => pts_nil) (fun _ _ _ _ _ => (pe_callB call_ord (by rfl) Z.ord (by decide +kernel) (pa_cons (pv 1) pa_nil)))) pa_nil))))), ?_⟩
    have hnd : NOk d.length := NOk.small (Nat.lt_of_le_of_lt hn.1 (by decide))
    refine ⟨_, rfl, S d, rfl, fits (by show d.length ≤ _; have := hn.1; omega), d.length, rfl, enc_le _ hnd, fun p1 H1 s1 hp1 h1 => ⟨p1, _, rfl, .inr (SqL.of h1), ?_⟩⟩
    refine ⟨_, rfl, S d, rfl, fun D hD => ?_⟩
    refine lc_it walk_str (fun i H' => Same H1 H' ∧ H' D = some (.lst ((d.take i).map vi))) ⟨same_upd hD, upd_same⟩ (fun _ _ _ _ => True.intro) ?_ ?_
    · rintro i y H2z H2 hi ⟨s2, hk⟩ ⟨rfl, cc, hcc, rfl⟩
      have hget : d[i]? = some cc := by rw [← hcc]; exact (List.getElem?_toArray ..).symm
      refine ⟨rfl, lc_yes ⟨_, rfl, ⟨#[cc]⟩, rfl, rfl, _, hk, ?_, fun z o h => by rw [upd_ne (ne_of_none h hD)]; exact s2 _ _ h, ?_⟩⟩
      · rw [List.length_map, List.length_take]
        exact Nat.lt_of_le_of_lt (show _ ≤ 1000 by have := hn.1; omega) (by decide)
      · rw [upd_same, take_snoc hget, List.map_append]
        rfl
    rintro H2 ⟨s2, hk⟩
    have hk : H2 D = some (.lst (d.map vi)) := by
      rw [hk]
      exact congrArg (fun l => some (HO.lst (l.map vi))) (List.take_of_length_le (Nat.le_refl _))
    obtain ⟨a, b⟩ := Wr.fin (us := (enc d.length).map vi ++ (d.map vi ++ [])) qq hl (Same.tr s1 s2) (by unfold encS; rw [List.append_nil, List.map_append])
    exact ⟨D, _, rfl, .inr (SqL.of hk), a, b⟩
def LstAt (H : Hp) (xs : List (List Nat)) (x : V) : Prop := ∃ l us, x = .ref l ∧ H l = some (.lst us) ∧ us.length ≤ 500 ∧ All2 (LsAt H) us xs
theorem ok_writeList {k : Nat} (Z : Defs K mg) : FnOk P w K mg base CX0 (k + 2) Z.fWriteList Z.fdWriteList ["items"] (spWr LstAt encL) := by
  have GWriteNumber : FnOk P w K mg base CX0 (k + 1) Z.fWriteNumber Z.fdWriteNumber ["number"] spNum := ok_writeNumber Z
  refine Z.DWriteList.F.ok scWriteList (fun vs H Q E h => ?_) (fun cdv A outer s H vs Q E hr h => ?_)
  · obtain ⟨x, d, rfl, _⟩ := h
    rfl
  · obtain ⟨x, d, rfl, ⟨l, us, rfl, hL, hl2, hus⟩, hl, qq⟩ := h
    refine ⟨_, (pss_one (ps_ret (pe_lst (StX.pa_star (pe_call GWriteNumber (hr.mono (by omega)) (by rfl) Z.DWriteNumber.g Z.DWriteNumber.F.kp Z.DWriteNumber.b .nil pass0 (pa_cons (pe_callB call_len_seq (by rfl) Z.len PySem.boot_len (pa_cons (pv 0) pa_nil)) pa_nil)) (StX.pa_star (pe_lc2 (own := [("item", 1), ("byte", 2)]) (vs1 := [2]) (g := (gName 1)) (g1 := (gName 2)) (by rfl) scWriteList.nd  (pi_list (pv 0)) (blkOk_by (own := [("item", 1), ("byte", 2)]) (N := ["items", "item", "byte"]) (sc := defScope sWriteList) (by decide +kernel)) (by decide) (fun _ _ _ _ _ => (pg_name (i := 1) scWriteList.nd rfl (Or.inl rfl))) (fun _ _ _ _ _ => pts_nil) (fun _ _ _ _ _ => (ET.pi_listK (K := K) rfl (pv 1))) (fun _ _ _ _ _ => (pg_name (i := 2) scWriteList.nd rfl (Or.inl rfl))) (fun _ _ _ _ _ => pts_nil) (fun _ _ _ _ _ => (pv 2))) pa_nil))))), ?_⟩
    have hel := hus.len
    have hnd : NOk d.length := NOk.small (Nat.lt_of_le_of_lt (show _ ≤ 500 by omega) (by decide))
    have hfl : d.flatten.length ≤ 500000 := by unfold encL at hl; rw [List.length_append] at hl; omega
    refine ⟨_, rfl, l, us, rfl, .inl (SqL.of hL), d.length, by rw [hel]; rfl, enc_le _ hnd, fun p1 H1 s1 hp1 h1 => ⟨p1, _, rfl, .inr (SqL.of h1), ?_⟩⟩
    refine ⟨_, rfl, l, rfl, ⟨_, SqL.of (s1 _ _ hL)⟩, fun D hD => ?_⟩
    refine HC.wk_it walk_list (fun i H' => Same H1 H' ∧ H' D = some (.lst ((d.take i).flatten.map vi))) ⟨same_upd hD, upd_same⟩ (fun i H' _ p => SqL.of (p.1 _ _ (s1 _ _ hL))) ?_ ?_
    · rintro i x H2z H2 hi ⟨s2, hk⟩ ⟨rfl, hx⟩
      obtain ⟨bs, hbs, l2, rfl, hl2'⟩ := hus.get hx
      have hb2 := s1 _ _ hl2'
      have hbl : (d.take i).flatten.length + bs.length ≤ 500000 := by
        have e := congrArg (fun z => z.flatten.length) (List.take_append_drop i d)
        rw [List.drop_eq_getElem_cons (by have := (List.getElem?_eq_some_iff.mp hbs).1; omega)] at e
        have e3 : d[i]'(by have := (List.getElem?_eq_some_iff.mp hbs).1; omega) = bs := (List.getElem?_eq_some_iff.mp hbs).2
        simp only [List.flatten_append, List.flatten_cons, List.length_append, e3] at e
        omega
      refine ⟨rfl, HC.yes (iteT ?_)⟩
      refine ⟨_, rfl, l2, rfl, ⟨_, SqL.of (s2 _ _ hb2)⟩, ?_⟩
      refine HC.wk_it walk_list (fun j H' => Same H1 H' ∧ H' D = some (.lst (((d.take i).flatten ++ bs.take j).map vi))) ⟨s2, by rw [List.take_zero, List.append_nil]; exact hk⟩ (fun j H' _ p => SqL.of (p.1 _ _ hb2)) ?_ ?_
      · rintro j y H3z H3 hj ⟨s3, hk3⟩ ⟨rfl, hy⟩
        rw [List.getElem?_map] at hy
        obtain ⟨b, hb, rfl⟩ : ∃ b, bs[j]? = some b ∧ y = vi b := by
          cases e : bs[j]? with
          | none => rw [e] at hy; cases hy
          | some b => rw [e] at hy; cases hy; exact ⟨b, rfl, rfl⟩
        refine ⟨rfl, HC.yes (iteT ⟨_, rfl, _, hk3, ?_, fun z o h => by rw [upd_ne (ne_of_none h hD)]; exact s3 _ _ h, ?_⟩)⟩
        · rw [List.length_map, List.length_append, List.length_take]
          exact Nat.lt_of_le_of_lt (show _ ≤ 600000 by omega) (by decide)
        · rw [upd_same, take_snoc hb]
          simp [List.map_append]
      · rintro H3 ⟨s3, hk3⟩
        rw [List.length_map, List.take_length] at hk3
        refine ⟨s3, ?_⟩
        rw [take_snoc hbs, List.flatten_append]
        simpa using hk3
    rintro H2 ⟨s2, hk⟩
    rw [hel, List.take_length] at hk
    obtain ⟨a, b⟩ := Wr.fin (us := (enc d.length).map vi ++ (d.flatten.map vi ++ [])) qq hl (Same.tr s1 s2) (by unfold encL; rw [List.append_nil, List.map_append])
    exact ⟨D, _, rfl, .inr (SqL.of hk), a, b⟩
theorem tkS {H H' : Hp} (s : Same H H') : TupK H H' := fun a o h => s a _ h
theorem len_mem {α : Type} {f : α → List Nat} : ∀ {ds : List α} {d : α}, d ∈ ds → (f d).length ≤ ((ds.map f).flatten).length
  | d :: ds, _, h => by
    rw [List.map_cons, List.flatten_cons, List.length_append]
    rcases List.mem_cons.mp h with rfl | h
    · omega
    · have := len_mem (f := f) h
      omega
theorem len_memL {α : Type} {f : α → List Nat} {ds : List α} {d : α} {n : Nat} (h : d ∈ ds) (hl : (encL (ds.map f)).length ≤ n) : (f d).length ≤ n := by
  have := len_mem (f := f) h
  unfold encL at hl
  rw [List.length_append] at hl
  omega
/-- lists of bytes, none of them the list that tells them -/
theorem lsts_keep {D : Addr} {H H' : Hp} {o : HO} (s : Same H H') : ∀ {us : List V} {xs : List (List Nat)}, All2 (fun u b => LsAt H u b ∧ u ≠ .ref D) us xs → All2 (fun u b => LsAt (upd H' D o) u b ∧ u ≠ .ref D) us xs :=
  fun h => h.mono fun u b ⟨⟨l, e, hl⟩, n⟩ => ⟨⟨l, e, by rw [upd_ne (fun z => n (by rw [e, z]))]; exact s _ _ hl⟩, n⟩
theorem lsts_keep0 {D : Addr} {H H' : Hp} (s : Same H H') {us : List V} {xs : List (List Nat)} (h : All2 (fun u b => LsAt H u b ∧ u ≠ .ref D) us xs) : All2 (LsAt H') us xs :=
  h.mono fun u b ⟨⟨l, e, hl⟩, _⟩ => ⟨l, e, s _ _ hl⟩
end
end Q40
namespace Q40
open PySem PySem.Spec PyProof.Rows L2 SX HL NM DM
section
variable {P : Program} {w : World} {K : PySem.W.Frag} {mg : Str → Option Value} {base : Heap}
/-- things in a list -/
def LstsAt {D : Type} (R : Hp → D → V → Prop) (H : Hp) (ds : List D) (x : V) : Prop := ∃ q us, x = .ref q ∧ H q = some (.lst us) ∧ us.length ≤ 200 ∧ All2 (fun u d => R H d u) us ds
theorem ok_writeMark {k : Nat} (Z : Defs K mg) : FnOk P w K mg base CX0 (k + 2) Z.fWriteMark Z.fdWriteMark ["mark"] (spWr MarkAt bMk) := by
  have GWriteNumber : FnOk P w K mg base CX0 (k + 1) Z.fWriteNumber Z.fdWriteNumber ["number"] spNum := ok_writeNumber (k := k) Z
  refine Z.DWriteMark.F.ok scWriteMark (fun vs H Q E h => ?_) (fun cdv A outer s H vs Q E hr h => ?_)
  · obtain ⟨x, d, rfl, _⟩ := h
    rfl
  · obtain ⟨x, d, rfl, hR, hl, qq⟩ := h
    refine ⟨_, (pss_one (ps_ret (pe_lst (StX.pa_star (pe_call GWriteNumber (hr.mono (by omega)) (by rfl) Z.DWriteNumber.g Z.DWriteNumber.F.kp Z.DWriteNumber.b .nil pass0 (pa_cons (pe_ix ix_tup (pv 0) pe_int (fun _ _ => rfl)) pa_nil)) (StX.pa_star (pe_call GWriteNumber (hr.mono (by omega)) (by rfl) Z.DWriteNumber.g Z.DWriteNumber.F.kp Z.DWriteNumber.b .nil pass0 (pa_cons (pe_ix ix_tup (pv 0) pe_int (fun _ _ => rfl)) pa_nil)) pa_nil))))), ?_⟩
    obtain ⟨⟨hm1, hm2⟩, t, rfl, ht⟩ := hR
    refine ⟨_, rfl, t, _, 0, vi d.1, rfl, rfl, SqT.of ht, rfl, d.1, rfl, enc_le _ hm1, fun p1 H1 s1 hp1 h1 => ?_⟩
    refine ⟨p1, _, rfl, .inr (SqL.of h1), ?_⟩
    refine ⟨_, rfl, t, _, 1, vi d.2, rfl, rfl, SqT.of (s1 _ _ ht), rfl, d.2, rfl, enc_le _ hm2, fun p2 H2 s2 hp2 h2 => ?_⟩
    refine ⟨p2, _, rfl, .inr (SqL.of h2), ?_⟩
    exact Wr.fin qq hl (Same.tr s1 s2) (by simp [bMk] <;> first | rfl | exact ⟨rfl, rfl⟩)
theorem ok_writeDeed {k : Nat} (Z : Defs K mg) : FnOk P w K mg base CX0 (k + 3) Z.fWriteDeed Z.fdWriteDeed ["deed"] (spWr DeAt bDe) := by
  have GWriteNumber : FnOk P w K mg base CX0 (k + 2) Z.fWriteNumber Z.fdWriteNumber ["number"] spNum := ok_writeNumber (k := k + 1) Z
  have GWriteString : FnOk P w K mg base CX0 (k + 2) Z.fWriteString Z.fdWriteString ["text"] (spWr TxtAt encS) := ok_writeString (k := k) Z
  have GWriteList : FnOk P w K mg base CX0 (k + 2) Z.fWriteList Z.fdWriteList ["items"] (spWr LstAt encL) := ok_writeList (k := k) Z
  have GWriteMark : FnOk P w K mg base CX0 (k + 2) Z.fWriteMark Z.fdWriteMark ["mark"] (spWr MarkAt bMk) := ok_writeMark (k := k) Z
  refine Z.DWriteDeed.F.ok scWriteDeed (fun vs H Q E h => ?_) (fun cdv A outer s H vs Q E hr h => ?_)
  · obtain ⟨x, d, rfl, _⟩ := h
    rfl
  · obtain ⟨x, d, rfl, hR, hl, qq⟩ := h
    refine ⟨_, (pss_cons (ps_if (pt_cmpR op_eq (pe_ix ix_tup (pv 0) pe_int (fun _ _ => rfl)) pe_str (nomark _)) (pss_one (ps_ret (pe_lst (pa_cons pe_int (StX.pa_star (pe_call GWriteNumber (hr.mono (by omega)) (by rfl) Z.DWriteNumber.g Z.DWriteNumber.F.kp Z.DWriteNumber.b .nil pass0 (pa_cons (pe_ix ix_tup (pv 0) pe_int (fun _ _ => rfl)) pa_nil)) pa_nil))))) pss_nil)
        (pss_cons (ps_asg (pv 0) (pg_tup rfl (pgs_cons (pg_name (i := 1) scWriteDeed.nd rfl (.inl rfl)) (pgs_cons (pg_name (i := 2) scWriteDeed.nd rfl (.inl rfl)) (pgs_cons (pg_name (i := 3) scWriteDeed.nd rfl (.inl rfl)) (pgs_cons (pg_name (i := 4) scWriteDeed.nd rfl (.inl rfl)) (pgs_cons (pg_name (i := 5) scWriteDeed.nd rfl (.inl rfl)) (pgs_cons (pg_name (i := 6) scWriteDeed.nd rfl (.inl rfl)) pgs_nil))))))))
        (pss_cons (ps_set (i := 7) scWriteDeed.nd rfl (.inl rfl) (pe_call GWriteList (hr.mono (by omega)) (by rfl) Z.DWriteList.g Z.DWriteList.F.kp Z.DWriteList.b .nil pass0 (pa_cons (pe_lc (own := [("mark", 9)]) (g := (gName 9)) (by rfl) scWriteDeed.nd (HK.pi_tupK (K := K) rfl (pv 3)) (blkOk_by (own := [("mark", 9)]) (N := ["deed", "_", "module", "removed", "behind", "number", "text", "marks", "place", "mark"]) (sc := defScope sWriteDeed) (by decide +kernel)) (fun _ _ _ _ _ => (pg_name (i := 9) scWriteDeed.nd rfl (Or.inl rfl))) (fun _ _ _ _ _ => pts_nil) (fun _ _ _ _ _ => (pe_call GWriteMark (hr.mono (by omega)) (by rfl) Z.DWriteMark.g Z.DWriteMark.F.kp Z.DWriteMark.b .nil pass0 (pa_cons (pv 9) pa_nil)))) pa_nil)))
        (pss_cons (ps_set (i := 8) scWriteDeed.nd rfl (.inl rfl) (pe_ifExp (pt_cmp (pc_isN (pv 4))) (pe_lst (pa_cons pe_int pa_nil)) (pe_lst (pa_cons pe_int (StX.pa_star (pe_call GWriteMark (hr.mono (by omega)) (by rfl) Z.DWriteMark.g Z.DWriteMark.F.kp Z.DWriteMark.b .nil pass0 (pa_cons (pv 4) pa_nil)) pa_nil)))))
        (pss_one (ps_ret (pe_lst (pa_cons pe_int (StX.pa_star (pe_call GWriteString (hr.mono (by omega)) (by rfl) Z.DWriteString.g Z.DWriteString.F.kp Z.DWriteString.b .nil pass0 (pa_cons (pv 2) pa_nil)) (StX.pa_star (pv 7) (StX.pa_star (pv 8) (StX.pa_star (pe_call GWriteNumber (hr.mono (by omega)) (by rfl) Z.DWriteNumber.g Z.DWriteNumber.F.kp Z.DWriteNumber.b .nil pass0 (pa_cons (pv 5) pa_nil)) (StX.pa_star (pe_call GWriteString (hr.mono (by omega)) (by rfl) Z.DWriteString.g Z.DWriteString.F.kp Z.DWriteString.b .nil pass0 (pa_cons (pv 6) pa_nil)) pa_nil))))))))))))), ?_⟩
    cases d with
    | back n =>
      obtain ⟨hn, t, rfl, ht⟩ := hR
      refine ⟨_, rfl, t, _, 0, .str "back", rfl, rfl, SqT.of ht, rfl, rfl, _, rfl, iteYes (by decide +kernel) ?_⟩
      refine ⟨_, rfl, t, _, 1, vi n, rfl, rfl, SqT.of ht, rfl, n, rfl, enc_le _ hn, fun p1 H1 s1 hp1 h1 => ?_⟩
      refine ⟨p1, _, rfl, .inr (SqL.of h1), ?_⟩
      exact Wr.fin qq hl s1 (by simp [bDe] <;> first | rfl | exact ⟨rfl, rfl⟩)
    | change m r bh n l =>
      obtain ⟨hm, hn, hll, t, y, bx, rfl, ht, ⟨q, us, rfl, hq, hul, hus⟩, hb⟩ := hR
      refine ⟨_, rfl, t, _, 0, .str "change", rfl, rfl, SqT.of ht, rfl, rfl, _, rfl, iteNo (by decide +kernel) ?_⟩
      refine ⟨_, rfl, t, _, rfl, SqT.of ht, rfl, _, _, rfl, _, _, rfl, _, _, rfl, _, _, rfl, _, _, rfl, _, _, rfl, rfl, ?_⟩
      have lr : (encL (r.map bMk)).length ≤ 500000 := (by simp only [bDe, List.length_append, List.length_cons] at hl; omega)
      have lm : (encS m).length ≤ 500000 := (by simp only [bDe, List.length_append, List.length_cons] at hl; omega)
      have lt : (encS l).length ≤ 500000 := (by simp only [bDe, List.length_append, List.length_cons] at hl; omega)
      have lb : (bBe bh).length ≤ 500000 := (by simp only [bDe, List.length_append, List.length_cons] at hl; omega)
      refine ⟨_, rfl, q, rfl, ⟨_, SqT.of hq⟩, fun D1 hD1 => ?_⟩
      refine lc_it walk_tup (fun i H' => Same H H' ∧ ∃ acc, H' D1 = some (.lst acc) ∧ acc.length = i ∧ All2 (fun u b => LsAt H' u b ∧ u ≠ .ref D1) acc ((r.take i).map bMk)) ⟨same_upd hD1, [], upd_same, rfl, .nil⟩ (fun i H' _ p => SqT.of (p.1 _ _ hq)) ?_ ?_
      · rintro i x Hz G1 hi ⟨t1, acc, hA1, hal, hacc⟩ ⟨rfl, hx⟩
        obtain ⟨d', hd', hR⟩ := hus.get hx
        have hR := hR.keep (tkS (Same.tr (Same.refl _) t1))
        have hi2 : i ≤ 600000 := Nat.le_of_lt (Nat.lt_of_lt_of_le (show i < us.length from hi) (by omega))
        refine ⟨rfl, lc_yes ⟨_, rfl, x, d', rfl, hR, len_memL (List.mem_of_getElem? hd') (by exact lr), fun p2 G2 t2 hp2 h2 => ?_⟩⟩
        have hA2 := t2 _ _ hA1
        have n2 : p2 ≠ D1 := (ne_of_none hA1 hp2).symm
        refine ⟨acc, hA2, Nat.lt_of_le_of_lt (show _ ≤ 600000 by omega) (by decide), fun z o h => by rw [upd_ne (ne_of_none h hD1)]; exact t2 _ _ (t1 _ _ h), acc ++ [.ref p2], upd_same, by rw [List.length_append, hal]; rfl, ?_⟩
        rw [take_snoc hd', List.map_append]
        exact (lsts_keep t2 hacc).app (.one ⟨⟨p2, rfl, by rw [upd_ne n2]; exact h2⟩, fun e => n2 (V.ref.inj e)⟩)
      rintro H1 ⟨s1, accD1, gD1, halD1, haccD1⟩
      have halD1 : accD1.length = us.length := halD1
      rw [hus.len, List.take_length] at haccD1
      have lsD1 : LstAt H1 (r.map bMk) (.ref D1) := ⟨D1, accD1, rfl, gD1, by omega, lsts_keep0 (Same.refl _) haccD1⟩
      refine ⟨.ref D1, _, rfl, lsD1, lr, fun p2 H2 s2 hp2 h2 => ?_⟩
      cases bh with
      | none =>
        have hb : bx = .non := hb
        subst hb
        refine ⟨_, rfl, _, rfl, iteT ?_⟩
        refine ⟨by show 1 ≤ sizeLine; decide, fun L2 hL2 => ?_⟩
        have s3 := same_upd (o := (.lst [.int 0])) hL2
        have gL2 : upd H2 L2 (.lst [.int 0]) L2 = some (.lst [.int 0]) := upd_same
        generalize upd H2 L2 (.lst [.int 0]) = H3 at s3 gL2 ⊢
        refine ⟨_, rfl, _, m, rfl, ⟨rfl, hm⟩, lm, fun p4 H4 s4 hp4 h4 => ?_⟩
        refine ⟨p4, _, rfl, .inr (SqL.of h4), ?_⟩
        refine ⟨_, rfl, p2, _, rfl, .inr (SqL.of ((Same.tr s3 s4) _ _ h2)), ?_⟩
        refine ⟨_, rfl, L2, _, rfl, .inr (SqL.of (s4 _ _ gL2)), ?_⟩
        refine ⟨_, rfl, n, rfl, enc_le _ hn, fun p5 H5 s5 hp5 h5 => ?_⟩
        refine ⟨p5, _, rfl, .inr (SqL.of h5), ?_⟩
        refine ⟨_, rfl, _, l, rfl, ⟨rfl, hll⟩, lt, fun p6 H6 s6 hp6 h6 => ?_⟩
        refine ⟨p6, _, rfl, .inr (SqL.of h6), ?_⟩
        exact Wr.fin qq hl (Same.tr s1 (Same.tr s2 (Same.tr s3 (Same.tr s4 (Same.tr s5 s6))))) (by simp [bDe, bBe] <;> first | rfl | exact ⟨rfl, rfl⟩)
      | some mb =>
        have hb : MarkAt H mb bx := hb
        obtain ⟨tb, hb1, hb2⟩ := id hb.2
        subst hb1
        refine ⟨_, rfl, _, rfl, iteF ?_⟩
        refine ⟨_, rfl, _, mb, rfl, (hb.keep (tkS (Same.tr s1 s2))), (by simp only [bBe, List.length_cons] at lb; omega), fun p3 H3 s3 hp3 h3 => ?_⟩
        refine ⟨p3, _, rfl, .inr (SqL.of h3), ?_⟩
        refine ⟨fits (by simp only [bBe, List.length_cons] at lb; simp; omega), fun LB hLB => ?_⟩
        have s4 := same_upd (o := (.lst (.int 1 :: ((bMk mb).map vi ++ [])))) hLB
        have gLB : upd H3 LB (.lst (.int 1 :: ((bMk mb).map vi ++ []))) LB = some (.lst (.int 1 :: ((bMk mb).map vi ++ []))) := upd_same
        generalize upd H3 LB (.lst (.int 1 :: ((bMk mb).map vi ++ []))) = H4 at s4 gLB ⊢
        refine ⟨_, rfl, _, m, rfl, ⟨rfl, hm⟩, lm, fun p5 H5 s5 hp5 h5 => ?_⟩
        refine ⟨p5, _, rfl, .inr (SqL.of h5), ?_⟩
        refine ⟨_, rfl, p2, _, rfl, .inr (SqL.of ((Same.tr s3 (Same.tr s4 s5)) _ _ h2)), ?_⟩
        refine ⟨_, rfl, LB, _, rfl, .inr (SqL.of (s5 _ _ gLB)), ?_⟩
        refine ⟨_, rfl, n, rfl, enc_le _ hn, fun p6 H6 s6 hp6 h6 => ?_⟩
        refine ⟨p6, _, rfl, .inr (SqL.of h6), ?_⟩
        refine ⟨_, rfl, _, l, rfl, ⟨rfl, hll⟩, lt, fun p7 H7 s7 hp7 h7 => ?_⟩
        refine ⟨p7, _, rfl, .inr (SqL.of h7), ?_⟩
        exact Wr.fin qq hl (Same.tr s1 (Same.tr s2 (Same.tr s3 (Same.tr s4 (Same.tr s5 (Same.tr s6 s7)))))) (by simp [bDe, bBe] <;> first | rfl | exact ⟨rfl, rfl⟩)
theorem ok_writeTriple {k : Nat} (Z : Defs K mg) : FnOk P w K mg base CX0 (k + 4) Z.fWriteTriple Z.fdWriteTriple ["triple"] (spWr TriAt bTri) := by
  have GWriteNumber : FnOk P w K mg base CX0 (k + 3) Z.fWriteNumber Z.fdWriteNumber ["number"] spNum := ok_writeNumber (k := k + 2) Z
  have GWriteDeed : FnOk P w K mg base CX0 (k + 3) Z.fWriteDeed Z.fdWriteDeed ["deed"] (spWr DeAt bDe) := ok_writeDeed (k := k) Z
  refine Z.DWriteTriple.F.ok scWriteTriple (fun vs H Q E h => ?_) (fun cdv A outer s H vs Q E hr h => ?_)
  · obtain ⟨x, d, rfl, _⟩ := h
    rfl
  · obtain ⟨x, d, rfl, hR, hl, qq⟩ := h
    refine ⟨_, (pss_cons (ps_asg (pv 0) (pg_tup rfl (pgs_cons (pg_name (i := 1) scWriteTriple.nd rfl (.inl rfl)) (pgs_cons (pg_name (i := 2) scWriteTriple.nd rfl (.inl rfl)) (pgs_cons (pg_name (i := 3) scWriteTriple.nd rfl (.inl rfl)) pgs_nil)))))
        (pss_one (ps_ret (pe_lst (StX.pa_star (pe_call GWriteNumber (hr.mono (by omega)) (by rfl) Z.DWriteNumber.g Z.DWriteNumber.F.kp Z.DWriteNumber.b .nil pass0 (pa_cons (pv 1) pa_nil)) (StX.pa_star (pe_call GWriteNumber (hr.mono (by omega)) (by rfl) Z.DWriteNumber.g Z.DWriteNumber.F.kp Z.DWriteNumber.b .nil pass0 (pa_cons (pv 2) pa_nil)) (StX.pa_star (pe_call GWriteDeed (hr.mono (by omega)) (by rfl) Z.DWriteDeed.g Z.DWriteDeed.F.kp Z.DWriteDeed.b .nil pass0 (pa_cons (pv 3) pa_nil)) pa_nil))))))), ?_⟩
    obtain ⟨h1, h2, t, dx, rfl, ht, hd⟩ := hR
    refine ⟨_, rfl, t, _, rfl, SqT.of ht, rfl, _, _, rfl, _, _, rfl, _, _, rfl, rfl, ?_⟩
    refine ⟨_, rfl, d.1, rfl, enc_le _ h1, fun p1 H1 s1 hp1 h1 => ?_⟩
    refine ⟨p1, _, rfl, .inr (SqL.of h1), ?_⟩
    refine ⟨_, rfl, d.2.1, rfl, enc_le _ h2, fun p2 H2 s2 hp2 h2 => ?_⟩
    refine ⟨p2, _, rfl, .inr (SqL.of h2), ?_⟩
    refine ⟨_, rfl, dx, d.2.2, rfl, (hd.keep (tkS (Same.tr s1 s2))), (by simp only [bTri, List.length_append, List.length_cons] at hl; omega), fun p3 H3 s3 hp3 h3 => ?_⟩
    refine ⟨p3, _, rfl, .inr (SqL.of h3), ?_⟩
    exact Wr.fin qq hl (Same.tr s1 (Same.tr s2 s3)) (by simp [bTri] <;> first | rfl | exact ⟨rfl, rfl⟩)
theorem ok_writePacket {k : Nat} (Z : Defs K mg) : FnOk P w K mg base CX0 (k + 5) Z.fWritePacket Z.fdWritePacket ["packet"] (spWr (LstsAt TriAt) fun ts => 1 :: encL (ts.map bTri)) := by
  have GWriteList : FnOk P w K mg base CX0 (k + 4) Z.fWriteList Z.fdWriteList ["items"] (spWr LstAt encL) := ok_writeList (k := k + 2) Z
  have GWriteTriple : FnOk P w K mg base CX0 (k + 4) Z.fWriteTriple Z.fdWriteTriple ["triple"] (spWr TriAt bTri) := ok_writeTriple (k := k) Z
  refine Z.DWritePacket.F.ok scWritePacket (fun vs H Q E h => ?_) (fun cdv A outer s H vs Q E hr h => ?_)
  · obtain ⟨x, d, rfl, _⟩ := h
    rfl
  · obtain ⟨x, d, rfl, hR, hl, qq⟩ := h
    refine ⟨_, (pss_one (ps_ret (pe_lst (pa_cons (pe_gint rfl Z.kPACKET) (StX.pa_star (pe_call GWriteList (hr.mono (by omega)) (by rfl) Z.DWriteList.g Z.DWriteList.F.kp Z.DWriteList.b .nil pass0 (pa_cons (pe_lc (own := [("triple", 1)]) (g := (gName 1)) (by rfl) scWritePacket.nd (ET.pi_listK (K := K) rfl (pv 0)) (blkOk_by (own := [("triple", 1)]) (N := ["packet", "triple"]) (sc := defScope sWritePacket) (by decide +kernel)) (fun _ _ _ _ _ => (pg_name (i := 1) scWritePacket.nd rfl (Or.inl rfl))) (fun _ _ _ _ _ => pts_nil) (fun _ _ _ _ _ => (pe_call GWriteTriple (hr.mono (by omega)) (by rfl) Z.DWriteTriple.g Z.DWriteTriple.F.kp Z.DWriteTriple.b .nil pass0 (pa_cons (pv 1) pa_nil)))) pa_nil)) pa_nil))))), ?_⟩
    obtain ⟨q, us, rfl, hq, hul, hus⟩ := hR
    have lr : (encL (d.map bTri)).length ≤ 500000 := (by simp only [List.length_append, List.length_cons] at hl; omega)
    refine ⟨_, rfl, q, rfl, ⟨_, SqL.of hq⟩, fun D1 hD1 => ?_⟩
    refine lc_it walk_list (fun i H' => Same H H' ∧ ∃ acc, H' D1 = some (.lst acc) ∧ acc.length = i ∧ All2 (fun u b => LsAt H' u b ∧ u ≠ .ref D1) acc ((d.take i).map bTri)) ⟨same_upd hD1, [], upd_same, rfl, .nil⟩ (fun i H' _ p => SqL.of (p.1 _ _ hq)) ?_ ?_
    · rintro i x Hz G1 hi ⟨t1, acc, hA1, hal, hacc⟩ ⟨rfl, hx⟩
      obtain ⟨d', hd', hR⟩ := hus.get hx
      have hR := hR.keep (tkS (Same.tr (Same.refl _) t1))
      have hi2 : i ≤ 600000 := Nat.le_of_lt (Nat.lt_of_lt_of_le (show i < us.length from hi) (by omega))
      refine ⟨rfl, lc_yes ⟨_, rfl, x, d', rfl, hR, len_memL (List.mem_of_getElem? hd') (by exact lr), fun p2 G2 t2 hp2 h2 => ?_⟩⟩
      have hA2 := t2 _ _ hA1
      have n2 : p2 ≠ D1 := (ne_of_none hA1 hp2).symm
      refine ⟨acc, hA2, Nat.lt_of_le_of_lt (show _ ≤ 600000 by omega) (by decide), fun z o h => by rw [upd_ne (ne_of_none h hD1)]; exact t2 _ _ (t1 _ _ h), acc ++ [.ref p2], upd_same, by rw [List.length_append, hal]; rfl, ?_⟩
      rw [take_snoc hd', List.map_append]
      exact (lsts_keep t2 hacc).app (.one ⟨⟨p2, rfl, by rw [upd_ne n2]; exact h2⟩, fun e => n2 (V.ref.inj e)⟩)
    rintro H1 ⟨s1, accD1, gD1, halD1, haccD1⟩
    have halD1 : accD1.length = us.length := halD1
    rw [hus.len, List.take_length] at haccD1
    have lsD1 : LstAt H1 (d.map bTri) (.ref D1) := ⟨D1, accD1, rfl, gD1, by omega, lsts_keep0 (Same.refl _) haccD1⟩
    refine ⟨.ref D1, _, rfl, lsD1, lr, fun p2 H2 s2 hp2 h2 => ?_⟩
    refine ⟨p2, _, rfl, .inr (SqL.of h2), ?_⟩
    exact Wr.fin qq hl (Same.tr s1 s2) (by simp [] <;> first | rfl | exact ⟨rfl, rfl⟩)
theorem ok_writeKind {k : Nat} (Z : Defs K mg) : FnOk P w K mg base CX0 (k + 3) Z.fWriteKind Z.fdWriteKind ["kind"] (spWr KdAt bK) := by
  have GWriteNumber : FnOk P w K mg base CX0 (k + 2) Z.fWriteNumber Z.fdWriteNumber ["number"] spNum := ok_writeNumber (k := k + 1) Z
  have GWriteString : FnOk P w K mg base CX0 (k + 2) Z.fWriteString Z.fdWriteString ["text"] (spWr TxtAt encS) := ok_writeString (k := k) Z
  refine Z.DWriteKind.F.ok scWriteKind (fun vs H Q E h => ?_) (fun cdv A outer s H vs Q E hr h => ?_)
  · obtain ⟨x, d, rfl, _⟩ := h
    rfl
  · obtain ⟨x, d, rfl, hR, hl, qq⟩ := h
    refine ⟨_, (pss_cons (ps_asg (pv 0) (pg_tup rfl (pgs_cons (pg_name (i := 1) scWriteKind.nd rfl (.inl rfl)) (pgs_cons (pg_name (i := 2) scWriteKind.nd rfl (.inl rfl)) pgs_nil))))
        (pss_cons (ps_set (i := 3) scWriteKind.nd rfl (.inl rfl) (pe_ifExp (pt_cmpR op_in_seq (pv 2) (pe_glob (v := .ref Z.aBASES) rfl Z.gBASES rfl) rfl) (pe_lst (pa_cons (pe_bm PySem.F.plainAttrs_tuple PySem.F.slot_tuple_index PySem.F.type_tuple_index mt_tup_index (pe_glob (v := .ref Z.aBASES) rfl Z.gBASES rfl) (pa_cons (pv 2) pa_nil)) pa_nil)) (pe_lst (pa_cons (pe_callB call_len_seq (by rfl) Z.len PySem.boot_len (pa_cons (pe_glob (v := .ref Z.aBASES) rfl Z.gBASES rfl) pa_nil)) (StX.pa_star (pe_call GWriteString (hr.mono (by omega)) (by rfl) Z.DWriteString.g Z.DWriteString.F.kp Z.DWriteString.b .nil pass0 (pa_cons (pv 2) pa_nil)) pa_nil)))))
        (pss_one (ps_ret (pe_lst (StX.pa_star (pe_call GWriteNumber (hr.mono (by omega)) (by rfl) Z.DWriteNumber.g Z.DWriteNumber.F.kp Z.DWriteNumber.b .nil pass0 (pa_cons (pv 1) pa_nil)) (StX.pa_star (pv 3) pa_nil))))))), ?_⟩
    obtain ⟨k1, k2, t, rfl, ht⟩ := hR
    refine ⟨_, rfl, t, _, rfl, SqT.of ht, rfl, _, _, rfl, _, _, rfl, rfl, ?_⟩
    obtain ⟨n, l⟩ := d
    have sB := Z.sBASES
    by_cases c : l = NUM ∨ l = TEXT ∨ l = BOOL
    · obtain ⟨i, hi, hB, hno⟩ : ∃ i : Nat, ([("num" : Str), "text", "bool"])[i]? = some (S l) ∧ bB l = [i] ∧ ∀ m, m < i → ([("num" : Str), "text", "bool"])[m]? ≠ some (S l) := by
        rcases c with rfl | rfl | rfl
        · exact ⟨0, by decide +kernel, by decide +kernel, fun m hm => absurd hm (Nat.not_lt_zero _)⟩
        · exact ⟨1, by decide +kernel, by decide +kernel, fun m hm => by
            have : m = 0 := by omega
            subst this; decide +kernel⟩
        · exact ⟨2, by decide +kernel, by decide +kernel, fun m hm => by
            have : m = 0 ∨ m = 1 := by omega
            rcases this with rfl | rfl <;> decide +kernel⟩
      have hin : inV (.str (S l)) [.str "num", .str "text", .str "bool"] = true := by rcases c with rfl | rfl | rfl <;> decide +kernel
      refine ⟨_, rfl, Z.aBASES, _, rfl, .inr (sB H), rfl, rfl, _, rfl, iteYes hin ?_⟩
      refine ⟨.inr (.inl ⟨rfl, Z.tBASES⟩), _, rfl, Z.aBASES, ["num", "text", "bool"], S l, i, rfl, rfl, sB H, hi, hno, by show 1 ≤ sizeLine; decide, fun L hL => ?_⟩
      have s1 := same_upd (o := (.lst [.int (i : Int)])) hL
      have gL : upd H L (.lst [.int (i : Int)]) L = some (.lst [.int (i : Int)]) := upd_same
      generalize upd H L (.lst [.int (i : Int)]) = H1 at s1 gL ⊢
      refine ⟨_, rfl, n, rfl, enc_le _ k1, fun p2 H2 s2 hp2 h2 => ?_⟩
      refine ⟨p2, _, rfl, .inr (SqL.of h2), ?_⟩
      refine ⟨_, rfl, L, _, rfl, .inr (SqL.of (s2 _ _ gL)), ?_⟩
      exact Wr.fin qq hl (Same.tr s1 s2) (by simp [bK, hB] <;> first | rfl | exact ⟨rfl, rfl⟩)
    · have hB : bB l = 3 :: encS l := by unfold bB; rw [if_neg (fun z => c (.inl z)), if_neg (fun z => c (.inr (.inl z))), if_neg (fun z => c (.inr (.inr z)))]
      have hin : ¬ inV (.str (S l)) [.str "num", .str "text", .str "bool"] = true := fun z => c (by
        have hh : ∀ q : Str, (S l = q) → l = q.cps.toList := fun q e => by rw [← e]
        simp [inV, eqV] at z
        rcases z with z | z | z
        · exact .inl (hh _ z.symm)
        · exact .inr (.inl (hh _ z.symm))
        · exact .inr (.inr (hh _ z.symm)))
      refine ⟨_, rfl, Z.aBASES, _, rfl, .inr (sB H), rfl, rfl, _, rfl, iteNo hin ?_⟩
      refine ⟨Z.aBASES, _, rfl, .inr (sB H), ?_⟩
      refine ⟨_, rfl, _, l, rfl, ⟨rfl, k2⟩, (by simp only [bK, hB, List.length_append, List.length_cons] at hl; omega), fun p1 H1 s1 hp1 h1 => ?_⟩
      refine ⟨p1, _, rfl, .inr (SqL.of h1), ?_⟩
      refine ⟨fits (by simp only [bK, hB, List.length_append, List.length_cons] at hl; simp; omega), fun L hL => ?_⟩
      have s2 := same_upd (o := (.lst (.int 3 :: ((encS l).map vi ++ [])))) hL
      have gL : upd H1 L (.lst (.int 3 :: ((encS l).map vi ++ []))) L = some (.lst (.int 3 :: ((encS l).map vi ++ []))) := upd_same
      generalize upd H1 L (.lst (.int 3 :: ((encS l).map vi ++ []))) = H2 at s2 gL ⊢
      refine ⟨_, rfl, n, rfl, enc_le _ k1, fun p3 H3 s3 hp3 h3 => ?_⟩
      refine ⟨p3, _, rfl, .inr (SqL.of h3), ?_⟩
      refine ⟨_, rfl, L, _, rfl, .inr (SqL.of (s3 _ _ gL)), ?_⟩
      exact Wr.fin qq hl (Same.tr s1 (Same.tr s2 s3)) (by simp [bK, hB] <;> first | rfl | exact ⟨rfl, rfl⟩)
theorem ok_writeMaker {k : Nat} (Z : Defs K mg) : FnOk P w K mg base CX0 (k + 4) Z.fWriteMaker Z.fdWriteMaker ["maker"] (spWr MkrAt bM) := by
  have GWriteString : FnOk P w K mg base CX0 (k + 3) Z.fWriteString Z.fdWriteString ["text"] (spWr TxtAt encS) := ok_writeString (k := k + 1) Z
  have GWriteList : FnOk P w K mg base CX0 (k + 3) Z.fWriteList Z.fdWriteList ["items"] (spWr LstAt encL) := ok_writeList (k := k + 1) Z
  have GWriteKind : FnOk P w K mg base CX0 (k + 3) Z.fWriteKind Z.fdWriteKind ["kind"] (spWr KdAt bK) := ok_writeKind (k := k) Z
  refine Z.DWriteMaker.F.ok scWriteMaker (fun vs H Q E h => ?_) (fun cdv A outer s H vs Q E hr h => ?_)
  · obtain ⟨x, d, rfl, _⟩ := h
    rfl
  · obtain ⟨x, d, rfl, hR, hl, qq⟩ := h
    refine ⟨_, (pss_cons (ps_asg (pv 0) (pg_tup rfl (pgs_cons (pg_name (i := 1) scWriteMaker.nd rfl (.inl rfl)) (pgs_cons (pg_name (i := 2) scWriteMaker.nd rfl (.inl rfl)) pgs_nil))))
        (pss_one (ps_ret (pe_lst (StX.pa_star (pe_call GWriteString (hr.mono (by omega)) (by rfl) Z.DWriteString.g Z.DWriteString.F.kp Z.DWriteString.b .nil pass0 (pa_cons (pv 1) pa_nil)) (StX.pa_star (pe_call GWriteList (hr.mono (by omega)) (by rfl) Z.DWriteList.g Z.DWriteList.F.kp Z.DWriteList.b .nil pass0 (pa_cons (pe_lc (own := [("kind", 3)]) (g := (gName 3)) (by rfl) scWriteMaker.nd (HK.pi_tupK (K := K) rfl (pv 2)) (blkOk_by (own := [("kind", 3)]) (N := ["maker", "name", "fields", "kind"]) (sc := defScope sWriteMaker) (by decide +kernel)) (fun _ _ _ _ _ => (pg_name (i := 3) scWriteMaker.nd rfl (Or.inl rfl))) (fun _ _ _ _ _ => pts_nil) (fun _ _ _ _ _ => (pe_call GWriteKind (hr.mono (by omega)) (by rfl) Z.DWriteKind.g Z.DWriteKind.F.kp Z.DWriteKind.b .nil pass0 (pa_cons (pv 3) pa_nil)))) pa_nil)) pa_nil)))))), ?_⟩
    obtain ⟨h1, t, y, rfl, ht, ⟨q, us, rfl, hq, hul, hus⟩⟩ := hR
    refine ⟨_, rfl, t, _, rfl, SqT.of ht, rfl, _, _, rfl, _, _, rfl, rfl, ?_⟩
    have lr : (encL (d.2.map bK)).length ≤ 500000 := (by simp only [bM, List.length_append, List.length_cons] at hl; omega)
    refine ⟨_, rfl, _, d.1, rfl, ⟨rfl, h1⟩, (by simp only [bM, List.length_append, List.length_cons] at hl; omega), fun p1 H1 s1 hp1 h1 => ?_⟩
    refine ⟨p1, _, rfl, .inr (SqL.of h1), ?_⟩
    refine ⟨_, rfl, q, rfl, ⟨_, SqT.of (s1 _ _ hq)⟩, fun D1 hD1 => ?_⟩
    refine lc_it walk_tup (fun i H' => Same H1 H' ∧ ∃ acc, H' D1 = some (.lst acc) ∧ acc.length = i ∧ All2 (fun u b => LsAt H' u b ∧ u ≠ .ref D1) acc ((d.2.take i).map bK)) ⟨same_upd hD1, [], upd_same, rfl, .nil⟩ (fun i H' _ p => SqT.of (p.1 _ _ (s1 _ _ hq))) ?_ ?_
    · rintro i x Hz G1 hi ⟨t1, acc, hA1, hal, hacc⟩ ⟨rfl, hx⟩
      obtain ⟨d', hd', hR⟩ := hus.get hx
      have hR := hR.keep (tkS (Same.tr s1 t1))
      have hi2 : i ≤ 600000 := Nat.le_of_lt (Nat.lt_of_lt_of_le (show i < us.length from hi) (by omega))
      refine ⟨rfl, lc_yes ⟨_, rfl, x, d', rfl, hR, len_memL (List.mem_of_getElem? hd') (by exact lr), fun p2 G2 t2 hp2 h2 => ?_⟩⟩
      have hA2 := t2 _ _ hA1
      have n2 : p2 ≠ D1 := (ne_of_none hA1 hp2).symm
      refine ⟨acc, hA2, Nat.lt_of_le_of_lt (show _ ≤ 600000 by omega) (by decide), fun z o h => by rw [upd_ne (ne_of_none h hD1)]; exact t2 _ _ (t1 _ _ h), acc ++ [.ref p2], upd_same, by rw [List.length_append, hal]; rfl, ?_⟩
      rw [take_snoc hd', List.map_append]
      exact (lsts_keep t2 hacc).app (.one ⟨⟨p2, rfl, by rw [upd_ne n2]; exact h2⟩, fun e => n2 (V.ref.inj e)⟩)
    rintro H2 ⟨s2, accD1, gD1, halD1, haccD1⟩
    have halD1 : accD1.length = us.length := halD1
    rw [hus.len, List.take_length] at haccD1
    have lsD1 : LstAt H2 (d.2.map bK) (.ref D1) := ⟨D1, accD1, rfl, gD1, by omega, lsts_keep0 (Same.refl _) haccD1⟩
    refine ⟨.ref D1, _, rfl, lsD1, lr, fun p3 H3 s3 hp3 h3 => ?_⟩
    refine ⟨p3, _, rfl, .inr (SqL.of h3), ?_⟩
    exact Wr.fin qq hl (Same.tr s1 (Same.tr s2 s3)) (by simp [bM] <;> first | rfl | exact ⟨rfl, rfl⟩)
theorem ok_writeData {k : Nat} (Z : Defs K mg) : FnOk P w K mg base CX0 (k + 5) Z.fWriteData Z.fdWriteData ["data"] (spWr DaAt bDa) := by
  have GWriteString : FnOk P w K mg base CX0 (k + 4) Z.fWriteString Z.fdWriteString ["text"] (spWr TxtAt encS) := ok_writeString (k := k + 2) Z
  have GWriteList : FnOk P w K mg base CX0 (k + 4) Z.fWriteList Z.fdWriteList ["items"] (spWr LstAt encL) := ok_writeList (k := k + 2) Z
  have GWriteMaker : FnOk P w K mg base CX0 (k + 4) Z.fWriteMaker Z.fdWriteMaker ["maker"] (spWr MkrAt bM) := ok_writeMaker (k := k) Z
  refine Z.DWriteData.F.ok scWriteData (fun vs H Q E h => ?_) (fun cdv A outer s H vs Q E hr h => ?_)
  · obtain ⟨x, d, rfl, _⟩ := h
    rfl
  · obtain ⟨x, d, rfl, hR, hl, qq⟩ := h
    refine ⟨_, (pss_cons (ps_asg (pv 0) (pg_tup rfl (pgs_cons (pg_name (i := 1) scWriteData.nd rfl (.inl rfl)) (pgs_cons (pg_name (i := 2) scWriteData.nd rfl (.inl rfl)) pgs_nil))))
        (pss_one (ps_ret (pe_lst (StX.pa_star (pe_call GWriteString (hr.mono (by omega)) (by rfl) Z.DWriteString.g Z.DWriteString.F.kp Z.DWriteString.b .nil pass0 (pa_cons (pv 1) pa_nil)) (StX.pa_star (pe_call GWriteList (hr.mono (by omega)) (by rfl) Z.DWriteList.g Z.DWriteList.F.kp Z.DWriteList.b .nil pass0 (pa_cons (pe_lc (own := [("maker", 3)]) (g := (gName 3)) (by rfl) scWriteData.nd (HK.pi_tupK (K := K) rfl (pv 2)) (blkOk_by (own := [("maker", 3)]) (N := ["data", "name", "makers", "maker"]) (sc := defScope sWriteData) (by decide +kernel)) (fun _ _ _ _ _ => (pg_name (i := 3) scWriteData.nd rfl (Or.inl rfl))) (fun _ _ _ _ _ => pts_nil) (fun _ _ _ _ _ => (pe_call GWriteMaker (hr.mono (by omega)) (by rfl) Z.DWriteMaker.g Z.DWriteMaker.F.kp Z.DWriteMaker.b .nil pass0 (pa_cons (pv 3) pa_nil)))) pa_nil)) pa_nil)))))), ?_⟩
    obtain ⟨h1, t, y, rfl, ht, ⟨q, us, rfl, hq, hul, hus⟩⟩ := hR
    refine ⟨_, rfl, t, _, rfl, SqT.of ht, rfl, _, _, rfl, _, _, rfl, rfl, ?_⟩
    have lr : (encL (d.2.map bM)).length ≤ 500000 := (by simp only [bDa, List.length_append, List.length_cons] at hl; omega)
    refine ⟨_, rfl, _, d.1, rfl, ⟨rfl, h1⟩, (by simp only [bDa, List.length_append, List.length_cons] at hl; omega), fun p1 H1 s1 hp1 h1 => ?_⟩
    refine ⟨p1, _, rfl, .inr (SqL.of h1), ?_⟩
    refine ⟨_, rfl, q, rfl, ⟨_, SqT.of (s1 _ _ hq)⟩, fun D1 hD1 => ?_⟩
    refine lc_it walk_tup (fun i H' => Same H1 H' ∧ ∃ acc, H' D1 = some (.lst acc) ∧ acc.length = i ∧ All2 (fun u b => LsAt H' u b ∧ u ≠ .ref D1) acc ((d.2.take i).map bM)) ⟨same_upd hD1, [], upd_same, rfl, .nil⟩ (fun i H' _ p => SqT.of (p.1 _ _ (s1 _ _ hq))) ?_ ?_
    · rintro i x Hz G1 hi ⟨t1, acc, hA1, hal, hacc⟩ ⟨rfl, hx⟩
      obtain ⟨d', hd', hR⟩ := hus.get hx
      have hR := hR.keep (tkS (Same.tr s1 t1))
      have hi2 : i ≤ 600000 := Nat.le_of_lt (Nat.lt_of_lt_of_le (show i < us.length from hi) (by omega))
      refine ⟨rfl, lc_yes ⟨_, rfl, x, d', rfl, hR, len_memL (List.mem_of_getElem? hd') (by exact lr), fun p2 G2 t2 hp2 h2 => ?_⟩⟩
      have hA2 := t2 _ _ hA1
      have n2 : p2 ≠ D1 := (ne_of_none hA1 hp2).symm
      refine ⟨acc, hA2, Nat.lt_of_le_of_lt (show _ ≤ 600000 by omega) (by decide), fun z o h => by rw [upd_ne (ne_of_none h hD1)]; exact t2 _ _ (t1 _ _ h), acc ++ [.ref p2], upd_same, by rw [List.length_append, hal]; rfl, ?_⟩
      rw [take_snoc hd', List.map_append]
      exact (lsts_keep t2 hacc).app (.one ⟨⟨p2, rfl, by rw [upd_ne n2]; exact h2⟩, fun e => n2 (V.ref.inj e)⟩)
    rintro H2 ⟨s2, accD1, gD1, halD1, haccD1⟩
    have halD1 : accD1.length = us.length := halD1
    rw [hus.len, List.take_length] at haccD1
    have lsD1 : LstAt H2 (d.2.map bM) (.ref D1) := ⟨D1, accD1, rfl, gD1, by omega, lsts_keep0 (Same.refl _) haccD1⟩
    refine ⟨.ref D1, _, rfl, lsD1, lr, fun p3 H3 s3 hp3 h3 => ?_⟩
    refine ⟨p3, _, rfl, .inr (SqL.of h3), ?_⟩
    exact Wr.fin qq hl (Same.tr s1 (Same.tr s2 s3)) (by simp [bDa] <;> first | rfl | exact ⟨rfl, rfl⟩)
theorem ok_writeShape {k : Nat} (Z : Defs K mg) : FnOk P w K mg base CX0 (k + 6) Z.fWriteShape Z.fdWriteShape ["shape"] (spWr ShAt bSh) := by
  have GWriteKind : FnOk P w K mg base CX0 (k + 5) Z.fWriteKind Z.fdWriteKind ["kind"] (spWr KdAt bK) := ok_writeKind (k := k + 2) Z
  have GWriteList : FnOk P w K mg base CX0 (k + 5) Z.fWriteList Z.fdWriteList ["items"] (spWr LstAt encL) := ok_writeList (k := k + 3) Z
  have GWriteData : FnOk P w K mg base CX0 (k + 5) Z.fWriteData Z.fdWriteData ["data"] (spWr DaAt bDa) := ok_writeData (k := k) Z
  refine Z.DWriteShape.F.ok scWriteShape (fun vs H Q E h => ?_) (fun cdv A outer s H vs Q E hr h => ?_)
  · obtain ⟨x, d, rfl, _⟩ := h
    rfl
  · obtain ⟨x, d, rfl, hR, hl, qq⟩ := h
    refine ⟨_, (pss_cons (ps_asg (pv 0) (pg_tup rfl (pgs_cons (pg_name (i := 1) scWriteShape.nd rfl (.inl rfl)) (pgs_cons (pg_name (i := 2) scWriteShape.nd rfl (.inl rfl)) pgs_nil))))
        (pss_one (ps_ret (pe_lst (StX.pa_star (pe_call GWriteKind (hr.mono (by omega)) (by rfl) Z.DWriteKind.g Z.DWriteKind.F.kp Z.DWriteKind.b .nil pass0 (pa_cons (pv 1) pa_nil)) (StX.pa_star (pe_call GWriteList (hr.mono (by omega)) (by rfl) Z.DWriteList.g Z.DWriteList.F.kp Z.DWriteList.b .nil pass0 (pa_cons (pe_lc (own := [("data", 3)]) (g := (gName 3)) (by rfl) scWriteShape.nd (HK.pi_tupK (K := K) rfl (pv 2)) (blkOk_by (own := [("data", 3)]) (N := ["shape", "kind", "reached", "data"]) (sc := defScope sWriteShape) (by decide +kernel)) (fun _ _ _ _ _ => (pg_name (i := 3) scWriteShape.nd rfl (Or.inl rfl))) (fun _ _ _ _ _ => pts_nil) (fun _ _ _ _ _ => (pe_call GWriteData (hr.mono (by omega)) (by rfl) Z.DWriteData.g Z.DWriteData.F.kp Z.DWriteData.b .nil pass0 (pa_cons (pv 3) pa_nil)))) pa_nil)) pa_nil)))))), ?_⟩
    obtain ⟨t, kd, y, rfl, ht, hkd, ⟨q, us, rfl, hq, hul, hus⟩⟩ := hR
    refine ⟨_, rfl, t, _, rfl, SqT.of ht, rfl, _, _, rfl, _, _, rfl, rfl, ?_⟩
    have lr : (encL (d.2.map bDa)).length ≤ 500000 := (by simp only [bSh, List.length_append, List.length_cons] at hl; omega)
    refine ⟨_, rfl, _, d.1, rfl, hkd, (by simp only [bSh, List.length_append, List.length_cons] at hl; omega), fun p1 H1 s1 hp1 h1 => ?_⟩
    refine ⟨p1, _, rfl, .inr (SqL.of h1), ?_⟩
    refine ⟨_, rfl, q, rfl, ⟨_, SqT.of (s1 _ _ hq)⟩, fun D1 hD1 => ?_⟩
    refine lc_it walk_tup (fun i H' => Same H1 H' ∧ ∃ acc, H' D1 = some (.lst acc) ∧ acc.length = i ∧ All2 (fun u b => LsAt H' u b ∧ u ≠ .ref D1) acc ((d.2.take i).map bDa)) ⟨same_upd hD1, [], upd_same, rfl, .nil⟩ (fun i H' _ p => SqT.of (p.1 _ _ (s1 _ _ hq))) ?_ ?_
    · rintro i x Hz G1 hi ⟨t1, acc, hA1, hal, hacc⟩ ⟨rfl, hx⟩
      obtain ⟨d', hd', hR⟩ := hus.get hx
      have hR := hR.keep (tkS (Same.tr s1 t1))
      have hi2 : i ≤ 600000 := Nat.le_of_lt (Nat.lt_of_lt_of_le (show i < us.length from hi) (by omega))
      refine ⟨rfl, lc_yes ⟨_, rfl, x, d', rfl, hR, len_memL (List.mem_of_getElem? hd') (by exact lr), fun p2 G2 t2 hp2 h2 => ?_⟩⟩
      have hA2 := t2 _ _ hA1
      have n2 : p2 ≠ D1 := (ne_of_none hA1 hp2).symm
      refine ⟨acc, hA2, Nat.lt_of_le_of_lt (show _ ≤ 600000 by omega) (by decide), fun z o h => by rw [upd_ne (ne_of_none h hD1)]; exact t2 _ _ (t1 _ _ h), acc ++ [.ref p2], upd_same, by rw [List.length_append, hal]; rfl, ?_⟩
      rw [take_snoc hd', List.map_append]
      exact (lsts_keep t2 hacc).app (.one ⟨⟨p2, rfl, by rw [upd_ne n2]; exact h2⟩, fun e => n2 (V.ref.inj e)⟩)
    rintro H2 ⟨s2, accD1, gD1, halD1, haccD1⟩
    have halD1 : accD1.length = us.length := halD1
    rw [hus.len, List.take_length] at haccD1
    have lsD1 : LstAt H2 (d.2.map bDa) (.ref D1) := ⟨D1, accD1, rfl, gD1, by omega, lsts_keep0 (Same.refl _) haccD1⟩
    refine ⟨.ref D1, _, rfl, lsD1, lr, fun p3 H3 s3 hp3 h3 => ?_⟩
    refine ⟨p3, _, rfl, .inr (SqL.of h3), ?_⟩
    exact Wr.fin qq hl (Same.tr s1 (Same.tr s2 s3)) (by simp [bSh] <;> first | rfl | exact ⟨rfl, rfl⟩)
end
end Q40
namespace Q40
open PySem PySem.Spec PyProof.Rows L2 SX HL NM DM
section
variable {P : Program} {w : World} {K : PySem.W.Frag} {mg : Str → Option Value} {base : Heap}
/-! ### values -/
def Va.form : Va → Str
  | .num _ => "num"
  | .txt _ => "text"
  | .bl _ => "bool"
  | .lst _ => "list"
  | .mk _ _ => "make"
def spForm : Sp := fun vs H Q _ => ∃ (x : V) (n : Nat) (v : Va), vs = [x] ∧ VaAt H (n + 1) v x ∧ Q (.str v.form) H
theorem ok_form {k : Nat} (Z : Defs K mg) : FnOk P w K mg base CX0 (k + 1) Z.fForm Z.fdForm ["value"] spForm := by
  refine Z.DForm.F.ok scForm (fun vs H Q E h => ?_) (fun cdv A outer s H vs Q E hr h => ?_)
  · obtain ⟨x, n, v, rfl, _⟩ := h
    rfl
  · obtain ⟨x, n, v, rfl, hx, qq⟩ := h
    refine ⟨_, (pss_cons (ps_if (pt_val (pe_callB call_isB (by rfl) Z.isinstance HL.boot_isinstance (pa_cons (pv 0) (pa_cons (pe_bltn (v := .ty "bool") (by rfl) Z.bool HL.boot_bool rfl) pa_nil)))) (pss_one (ps_ret pe_str)) pss_nil)
        (pss_cons (ps_if (pt_val (pe_callB call_isB (by rfl) Z.isinstance HL.boot_isinstance (pa_cons (pv 0) (pa_cons (pe_bltn (v := .ty "int") (by rfl) Z.int HL.boot_int rfl) pa_nil)))) (pss_one (ps_ret pe_str)) pss_nil)
        (pss_cons (ps_if (pt_val (pe_callB call_isB (by rfl) Z.isinstance HL.boot_isinstance (pa_cons (pv 0) (pa_cons (pe_bltn (v := .ty "str") (by rfl) Z.str HL.boot_str rfl) pa_nil)))) (pss_one (ps_ret pe_str)) pss_nil)
        (pss_one (ps_ret (pe_ix ix_seq (pv 0) pe_int (fun _ _ => rfl))))))), ?_⟩
    cases v with
    | bl b =>
      obtain rfl : x = _ := hx
      exact ⟨_, rfl, _, "bool", "bool", true, rfl, .base (.bl b), by decide +kernel, true, rfl, iteT qq⟩
    | num i =>
      obtain ⟨rfl, _⟩ := hx
      exact ⟨_, rfl, _, "int", "bool", false, rfl, .base (.int i), by decide +kernel, false, rfl, iteF ⟨_, rfl, _, "int", "int", true, rfl, .base (.int i), by decide +kernel, true, rfl, iteT qq⟩⟩
    | txt z =>
      obtain ⟨rfl, _⟩ := hx
      exact ⟨_, rfl, _, "str", "bool", false, rfl, .base (.str (S z)), by decide +kernel, false, rfl, iteF ⟨_, rfl, _, "str", "int", false, rfl, .base (.str (S z)), by decide +kernel, false, rfl, iteF ⟨_, rfl, _, "str", "str", true, rfl, .base (.str (S z)), by decide +kernel, true, rfl, iteT qq⟩⟩⟩
    | lst vs =>
      obtain ⟨t, q, us, rfl, h1, h2, h3⟩ := hx
      refine ⟨_, rfl, _, "tuple", "bool", false, rfl, .base (.tup h1), by decide +kernel, false, rfl, iteF ⟨_, rfl, _, "tuple", "int", false, rfl, .base (.tup h1), by decide +kernel, false, rfl, iteF ⟨_, rfl, _, "tuple", "str", false, rfl, .base (.tup h1), by decide +kernel, false, rfl, iteF ?_⟩⟩⟩
      exact ⟨_, rfl, .inr (.inl ⟨t, _, 0, .str "list", rfl, rfl, SqT.of h1, rfl, qq⟩)⟩
    | mk m vs =>
      obtain ⟨_, t, q, us, rfl, h1, h2, h3⟩ := hx
      refine ⟨_, rfl, _, "tuple", "bool", false, rfl, .base (.tup h1), by decide +kernel, false, rfl, iteF ⟨_, rfl, _, "tuple", "int", false, rfl, .base (.tup h1), by decide +kernel, false, rfl, iteF ⟨_, rfl, _, "tuple", "str", false, rfl, .base (.tup h1), by decide +kernel, false, rfl, iteF ?_⟩⟩⟩
      exact ⟨_, rfl, .inr (.inl ⟨t, _, 0, .str "make", rfl, rfl, SqT.of h1, rfl, qq⟩)⟩
def VsAt (n : Nat) (H : Hp) (vs : List Va) (x : V) : Prop := ∃ q us, x = .ref q ∧ H q = some (.tup us) ∧ us.length ≤ 100 ∧ All2 (fun u v => VaAt H n v u) us vs
theorem values_step {k n : Nat} (hk : 2 ≤ k) (Z : Defs K mg) (GWriteValue : FnOk P w K mg base CX0 k Z.fWriteValue Z.fdWriteValue ["value"] (spWr (fun H v x => VaAt H n v x) (bV n))) : FnOk P w K mg base CX0 (k + 1) Z.fWriteValues Z.fdWriteValues ["values"] (spWr (VsAt n) fun vs => encL (vs.map (bV n))) := by
  have GWriteList : FnOk P w K mg base CX0 2 Z.fWriteList Z.fdWriteList ["items"] (spWr LstAt encL) := ok_writeList (k := 0) Z
  refine Z.DWriteValues.F.ok scWriteValues (fun vs H Q E h => ?_) (fun cdv A outer s H vs Q E hr h => ?_)
  · obtain ⟨x, d, rfl, _⟩ := h
    rfl
  · obtain ⟨x, d, rfl, ⟨q, us, rfl, hq, hul, hus⟩, hl, qq⟩ := h
    refine ⟨_, (pss_one (ps_ret (pe_call GWriteList (hr.mono (by omega)) (by rfl) Z.DWriteList.g Z.DWriteList.F.kp Z.DWriteList.b .nil pass0 (pa_cons (pe_lc (own := [("value", 1)]) (g := (gName 1)) (by rfl) scWriteValues.nd (HK.pi_tupK (K := K) rfl (pv 0)) (blkOk_by (own := [("value", 1)]) (N := ["values", "value"]) (sc := defScope sWriteValues) (by decide +kernel)) (fun _ _ _ _ _ => (pg_name (i := 1) scWriteValues.nd rfl (Or.inl rfl))) (fun _ _ _ _ _ => pts_nil) (fun _ _ _ _ _ => (pe_call GWriteValue (hr.mono (by omega)) (by rfl) Z.DWriteValue.g Z.DWriteValue.F.kp Z.DWriteValue.b .nil pass0 (pa_cons (pv 1) pa_nil)))) pa_nil)))), ?_⟩
    refine ⟨_, rfl, q, rfl, ⟨_, SqT.of hq⟩, fun D1 hD1 => ?_⟩
    refine lc_it walk_tup (fun i H' => Same H H' ∧ ∃ acc, H' D1 = some (.lst acc) ∧ acc.length = i ∧ All2 (fun u b => LsAt H' u b ∧ u ≠ .ref D1) acc ((d.take i).map (bV n))) ⟨same_upd hD1, [], upd_same, rfl, .nil⟩ (fun i H' _ p => SqT.of (p.1 _ _ hq)) ?_ ?_
    · rintro i x Hz G1 hi ⟨t1, acc, hA1, hal, hacc⟩ ⟨rfl, hx⟩
      obtain ⟨d', hd', hR⟩ := hus.get hx
      have hR := hR.keep (tkS (Same.tr (Same.refl _) t1))
      have hi2 : i ≤ 600000 := Nat.le_of_lt (Nat.lt_of_lt_of_le (show i < us.length from hi) (by omega))
      refine ⟨rfl, lc_yes ⟨_, rfl, x, d', rfl, hR, len_memL (List.mem_of_getElem? hd') (by exact hl), fun p2 G2 t2 hp2 h2 => ?_⟩⟩
      have hA2 := t2 _ _ hA1
      have n2 : p2 ≠ D1 := (ne_of_none hA1 hp2).symm
      refine ⟨acc, hA2, Nat.lt_of_le_of_lt (show _ ≤ 600000 by omega) (by decide), fun z o h => by rw [upd_ne (ne_of_none h hD1)]; exact t2 _ _ (t1 _ _ h), acc ++ [.ref p2], upd_same, by rw [List.length_append, hal]; rfl, ?_⟩
      rw [take_snoc hd', List.map_append]
      exact (lsts_keep t2 hacc).app (.one ⟨⟨p2, rfl, by rw [upd_ne n2]; exact h2⟩, fun e => n2 (V.ref.inj e)⟩)
    rintro H1 ⟨s1, accD1, gD1, halD1, haccD1⟩
    have halD1 : accD1.length = us.length := halD1
    rw [hus.len, List.take_length] at haccD1
    have lsD1 : LstAt H1 (d.map (bV n)) (.ref D1) := ⟨D1, accD1, rfl, gD1, by omega, lsts_keep0 (Same.refl _) haccD1⟩
    exact ⟨.ref D1, _, rfl, lsD1, hl, fun p H' s hp h => qq p H' (Same.tr s1 s) (Same.none s1 hp) h⟩
theorem value_step {k n : Nat} (hk : 2 ≤ k) (Z : Defs K mg) (GWriteValues : FnOk P w K mg base CX0 k Z.fWriteValues Z.fdWriteValues ["values"] (spWr (VsAt n) fun vs => encL (vs.map (bV n)))) : FnOk P w K mg base CX0 (k + 1) Z.fWriteValue Z.fdWriteValue ["value"] (spWr (fun H v x => VaAt H (n + 1) v x) (bV (n + 1))) := by
  have GForm : FnOk P w K mg base CX0 1 Z.fForm Z.fdForm ["value"] spForm := ok_form (k := 0) Z
  have GWriteInteger : FnOk P w K mg base CX0 2 Z.fWriteInteger Z.fdWriteInteger ["number"] (spWr IntAt encI) := ok_writeInteger (k := 0) Z
  have GWriteString : FnOk P w K mg base CX0 2 Z.fWriteString Z.fdWriteString ["text"] (spWr TxtAt encS) := ok_writeString (k := 0) Z
  refine Z.DWriteValue.F.ok scWriteValue (fun vs H Q E h => ?_) (fun cdv A outer s H vs Q E hr h => ?_)
  · obtain ⟨x, d, rfl, _⟩ := h
    rfl
  · obtain ⟨x, d, rfl, hx, hl, qq⟩ := h
    refine ⟨_, (pss_cons (HM.ps_match (pe_call GForm (hr.mono (by omega)) (by rfl) Z.DForm.g Z.DForm.F.kp Z.DForm.b .nil pass0 (pa_cons (pv 0) pa_nil)) (HM.pm_val (pss_one (ps_ret (pe_lst (pa_cons pe_int (StX.pa_star (pe_call GWriteInteger (hr.mono (by omega)) (by rfl) Z.DWriteInteger.g Z.DWriteInteger.F.kp Z.DWriteInteger.b .nil pass0 (pa_cons (pv 0) pa_nil)) pa_nil))))) (HM.pm_val (pss_one (ps_ret (pe_lst (pa_cons pe_int (StX.pa_star (pe_call GWriteString (hr.mono (by omega)) (by rfl) Z.DWriteString.g Z.DWriteString.F.kp Z.DWriteString.b .nil pass0 (pa_cons (pv 0) pa_nil)) pa_nil))))) (HM.pm_val (pss_one (ps_ret (pe_lst (pa_cons pe_int (pa_cons (pe_ifExp (pt_val (pv 0)) pe_int pe_int) pa_nil))))) (HM.pm_val (pss_one (ps_ret (pe_lst (pa_cons pe_int (StX.pa_star (pe_call GWriteValues (hr.mono (by omega)) (by rfl) Z.DWriteValues.g Z.DWriteValues.F.kp Z.DWriteValues.b .nil pass0 (pa_cons (pe_ix ix_seq (pv 0) pe_int (fun _ _ => rfl)) pa_nil)) pa_nil))))) HM.pm_nil)))))
        (pss_one (ps_ret (pe_lst (pa_cons pe_int (StX.pa_star (pe_call GWriteString (hr.mono (by omega)) (by rfl) Z.DWriteString.g Z.DWriteString.F.kp Z.DWriteString.b .nil pass0 (pa_cons (pe_ix ix_seq (pv 0) pe_int (fun _ _ => rfl)) pa_nil)) (StX.pa_star (pe_call GWriteValues (hr.mono (by omega)) (by rfl) Z.DWriteValues.g Z.DWriteValues.F.kp Z.DWriteValues.b .nil pass0 (pa_cons (pe_ix ix_seq (pv 0) pe_int (fun _ _ => rfl)) pa_nil)) pa_nil))))))), ?_⟩
    refine ⟨_, rfl, x, n, d, rfl, hx, _, rfl, ?_⟩
    cases d with
    | num i =>
      obtain ⟨rfl, hi⟩ := hx
      refine iteYes rfl ?_
      refine ⟨_, rfl, _, i, rfl, ⟨rfl, hi⟩, (by simp only [bV, List.length_cons] at hl; omega), fun p1 H1 s1 hp1 h1 => ?_⟩
      refine ⟨p1, _, rfl, .inr (SqL.of h1), ?_⟩
      exact Wr.fin qq hl s1 (by simp [bV] <;> first | rfl | exact ⟨rfl, rfl⟩)
    | txt l =>
      obtain ⟨rfl, hi⟩ := hx
      refine iteNo (by simp only [Va.form]; decide +kernel) ⟨_, rfl, iteYes rfl ?_⟩
      refine ⟨_, rfl, _, l, rfl, ⟨rfl, hi⟩, (by simp only [bV, List.length_cons] at hl; omega), fun p1 H1 s1 hp1 h1 => ?_⟩
      refine ⟨p1, _, rfl, .inr (SqL.of h1), ?_⟩
      exact Wr.fin qq hl s1 (by simp [bV] <;> first | rfl | exact ⟨rfl, rfl⟩)
    | bl c =>
      obtain rfl : x = _ := hx
      refine iteNo (by simp only [Va.form]; decide +kernel) ⟨_, rfl, iteNo (by simp only [Va.form]; decide +kernel) ⟨_, rfl, iteYes rfl ?_⟩⟩
      cases c with
      | true => exact ⟨_, rfl, true, rfl, iteT (Wr.fin (us := [.int 2, .int 1]) qq hl (Same.refl _) rfl)⟩
      | false => exact ⟨_, rfl, false, rfl, iteF (Wr.fin (us := [.int 2, .int 0]) qq hl (Same.refl _) rfl)⟩
    | lst ps =>
      obtain ⟨t, q, us, rfl, h1, h2, h3, h4⟩ := hx
      refine iteNo (by simp only [Va.form]; decide +kernel) ⟨_, rfl, iteNo (by simp only [Va.form]; decide +kernel) ⟨_, rfl, iteNo (by simp only [Va.form]; decide +kernel) ⟨_, rfl, iteYes rfl ?_⟩⟩⟩
      refine ⟨_, rfl, .inr (.inl ⟨t, _, 1, .ref q, rfl, rfl, SqT.of h1, rfl, ?_⟩)⟩
      refine ⟨_, ps, rfl, ⟨q, us, rfl, h2, h3, h4⟩, (by simp only [bV, List.length_cons] at hl; show (encL (ps.map (bV n))).length ≤ _; omega), fun p1 H1 s1 hp1 h1 => ?_⟩
      refine ⟨p1, _, rfl, .inr (SqL.of h1), ?_⟩
      exact Wr.fin qq hl s1 (by simp [bV] <;> first | rfl | exact ⟨rfl, rfl⟩)
    | mk m ps =>
      obtain ⟨h0, t, q, us, rfl, k1, k2, k3, k4⟩ := hx
      refine iteNo (by simp only [Va.form]; decide +kernel) ⟨_, rfl, iteNo (by simp only [Va.form]; decide +kernel) ⟨_, rfl, iteNo (by simp only [Va.form]; decide +kernel) ⟨_, rfl, iteNo (by simp only [Va.form]; decide +kernel) ?_⟩⟩⟩
      refine ⟨_, rfl, .inr (.inl ⟨t, _, 1, .str (S m), rfl, rfl, SqT.of k1, rfl, ?_⟩)⟩
      refine ⟨_, m, rfl, ⟨rfl, h0⟩, (by simp only [bV, List.length_append, List.length_cons] at hl; omega), fun p1 H1 s1 hp1 h1 => ?_⟩
      refine ⟨p1, _, rfl, .inr (SqL.of h1), ?_⟩
      refine ⟨_, rfl, .inr (.inl ⟨t, _, 2, .ref q, rfl, rfl, SqT.of (s1 _ _ k1), rfl, ?_⟩)⟩
      refine ⟨_, ps, rfl, ⟨q, us, rfl, (s1 _ _ k2), k3, k4.mono fun _ _ r => r.keep (tkS s1)⟩, (by simp only [bV, List.length_append, List.length_cons] at hl; show (encL (ps.map (bV n))).length ≤ _; omega), fun p2 H2 s2 hp2 h2 => ?_⟩
      refine ⟨p2, _, rfl, .inr (SqL.of h2), ?_⟩
      exact Wr.fin qq hl (Same.tr s1 s2) (by simp [bV] <;> first | rfl | exact ⟨rfl, rfl⟩)
theorem ok_writeValue (Z : Defs K mg) : (n : Nat) → FnOk P w K mg base CX0 (2 * n + 3) Z.fWriteValue Z.fdWriteValue ["value"] (spWr (fun H v x => VaAt H n v x) (bV n))
  | 0 => Z.DWriteValue.F.ok scWriteValue (fun vs H Q E h => (by obtain ⟨_, _, _, h, _⟩ := h; exact h.elim)) (fun cdv A outer s H vs Q E hr h => (by obtain ⟨_, _, _, h, _⟩ := h; exact h.elim))
  | n + 1 => value_step (k := 2 * n + 4) (by omega) Z (values_step (k := 2 * n + 3) (by omega) Z (ok_writeValue Z n))
/-! ### outcomes, cells, groups -/
def FltAt (H : Hp) : Ou → V → Prop
  | .val _, _ => False
  | .flt i, x => i < 6 ∧ i ≠ 3 ∧ ∃ u, x = .ref u ∧ H u = some (.tup [.str (FAU.getD i "")])
  | .miss l, x => TxOk l ∧ ∃ u, x = .ref u ∧ H u = some (.tup [.str "missing", .str (S l)])
def bFl : Ou → List Nat
  | .val _ => []
  | .flt i => [i]
  | .miss l => 3 :: encS l
theorem TxtAt.keep {H H' : Hp} (k : TupK H H') {l : List Nat} {x : V} (h : TxtAt H l x) : TxtAt H' l x := h
theorem ok_writeFault {k : Nat} (Z : Defs K mg) : FnOk P w K mg base CX0 (k + 3) Z.fWriteFault Z.fdWriteFault ["fault"] (spWr FltAt bFl) := by
  have GWriteString : FnOk P w K mg base CX0 (k + 2) Z.fWriteString Z.fdWriteString ["text"] (spWr TxtAt encS) := ok_writeString Z
  refine Z.DWriteFault.F.ok scWriteFault (fun vs H Q E h => ?_) (fun cdv A outer s H vs Q E hr h => ?_)
  · obtain ⟨x, d, rfl, _⟩ := h
    rfl
  · obtain ⟨x, d, rfl, hx, hl, qq⟩ := h
    refine ⟨_, (pss_cons (ps_setLc (i := 1) (own := [("name", 2)]) (g := (gName 2)) (by rfl) scWriteFault.nd rfl rfl (sw_true rfl rfl rfl (by decide +kernel)) (HK.pi_tupK (K := K) rfl (pe_slice sl_tup (pv 0) (po_some pe_int) po_none)) (blkOk_by (own := [("name", 2)]) (N := ["fault", "names", "name", "byte"]) (sc := defScope sWriteFault) (by decide +kernel)) (fun _ _ _ _ _ => (pg_name (i := 2) scWriteFault.nd rfl (Or.inl rfl))) (fun _ _ _ _ _ => pts_nil) (fun _ _ _ _ _ => (pe_call GWriteString (hr.mono (by omega)) (by rfl) Z.DWriteString.g Z.DWriteString.F.kp Z.DWriteString.b .nil pass0 (pa_cons (pv 2) pa_nil))))
        (pss_one (ps_ret (pe_lst (pa_cons (pe_bm PySem.F.plainAttrs_tuple PySem.F.slot_tuple_index PySem.F.type_tuple_index mt_tup_index (pe_glob (v := .ref Z.aFAULTS) rfl Z.gFAULTS rfl) (pa_cons (pe_ix ix_tup (pv 0) pe_int (fun _ _ => rfl)) pa_nil)) (StX.pa_star (pe_lc2 (own := [("name", 2), ("byte", 3)]) (vs1 := [3]) (g := (gName 2)) (g1 := (gName 3)) (by rfl) scWriteFault.nd  (pi_list (pv 1)) (blkOk_by (own := [("name", 2), ("byte", 3)]) (N := ["fault", "names", "name", "byte"]) (sc := defScope sWriteFault) (by decide +kernel)) (by decide) (fun _ _ _ _ _ => (pg_name (i := 2) scWriteFault.nd rfl (Or.inl rfl))) (fun _ _ _ _ _ => pts_nil) (fun _ _ _ _ _ => (ET.pi_listK (K := K) rfl (pv 2))) (fun _ _ _ _ _ => (pg_name (i := 3) scWriteFault.nd rfl (Or.inl rfl))) (fun _ _ _ _ _ => pts_nil) (fun _ _ _ _ _ => (pv 3))) pa_nil)))))), ?_⟩
    obtain ⟨w, i, xs, u, rfl, hu, hxs, hxl, hi, hno, hB⟩ : ∃ (w : Str) (i : Nat) (xs : List (List Nat)) (u : Addr), x = .ref u ∧ H u = some (.tup (.str w :: xs.map fun l => V.str (S l))) ∧ (∀ l ∈ xs, TxOk l) ∧ xs.length ≤ 1 ∧ FAU[i]? = some w ∧ (∀ m, m < i → FAU[m]? ≠ some w) ∧ bFl d = i :: (xs.map encS).flatten := by
      cases d with
      | val v => exact hx.elim
      | flt i =>
        obtain ⟨hi, h3, u, rfl, hu⟩ := hx
        obtain ⟨w, hw, hno⟩ : ∃ w, FAU[i]? = some w ∧ ∀ m, m < i → FAU[m]? ≠ some w := by
          have : ∀ i, i < 6 → (FAU[i]?).isSome ∧ ∀ m, m < i → FAU[m]? ≠ FAU[i]? := by decide +kernel
          obtain ⟨h1, h2⟩ := this i hi
          obtain ⟨w, hw⟩ := Option.isSome_iff_exists.mp h1
          exact ⟨w, hw, fun m hm e => h2 m hm (by rw [e, hw])⟩
        have ew : FAU.getD i "" = w := by rw [List.getD_eq_getElem?_getD, hw]; rfl
        rw [ew] at hu
        exact ⟨w, i, [], u, rfl, hu, ⟨fun l h => (by cases h), by decide, hw, hno, rfl⟩⟩
      | miss l =>
        obtain ⟨h1, u, rfl, hu⟩ := hx
        exact ⟨"missing", 3, [l], u, rfl, hu, fun z h => by rw [List.mem_singleton.mp h]; exact h1, Nat.le_refl 1, by decide +kernel, by decide +kernel, by simp [bFl]⟩
    have hcut : cutV (V.str w :: xs.map fun l => V.str (S l)) (some 1) none = xs.map fun l => V.str (S l) := by
      match xs, hxl with
      | [], _ => rfl
      | [l], _ => rfl
    refine ⟨_, rfl, 1, rfl, u, _, rfl, SqT.of hu, fun z => absurd z.1 ?_, fun T hT => ?_⟩
    · match xs, hxl with
      | [], _ => exact (by decide : ¬ HT.sIx 1 0 (some 1) = 0)
      | [l], _ => exact (by decide : ¬ HT.sIx 2 0 (some 1) = 0)
    rw [hcut]
    have s1 := same_upd (o := .tup (xs.map fun l => V.str (S l))) hT
    have gT : upd H T (.tup (xs.map fun l => V.str (S l))) T = some (.tup (xs.map fun l => V.str (S l))) := upd_same
    generalize upd H T (.tup (xs.map fun l => V.str (S l))) = H1 at s1 gT ⊢
    have hus : All2 (fun u l => TxtAt H1 l u) (xs.map fun l => V.str (S l)) xs := by
      clear hcut hB hxl hu gT s1
      induction xs with
      | nil => exact .nil
      | cons a r ih => exact .cons ⟨rfl, hxs a (List.mem_cons_self ..)⟩ (ih fun l h => hxs l (List.mem_cons_of_mem _ h))
    have hul : (xs.map fun l => V.str (S l)).length ≤ 1 := by rw [List.length_map]; exact hxl
    have lr : (encL (xs.map encS)).length ≤ 500000 := by
      rw [hB, List.length_cons] at hl
      unfold encL
      rw [List.length_append, List.length_map]
      have := (NOk.small (n := xs.length) (by omega)).len
      have h2 : ((xs.map encS).flatten).length ≤ 402 := by
        match xs, hxl, hxs with
        | [], _, _ => exact Nat.zero_le _
        | [l], _, h => simpa using len_S (h l (List.mem_cons_self ..))
      omega
    generalize (xs.map fun l => V.str (S l)) = us at gT hus hul
    refine ⟨T, rfl, ⟨_, SqT.of gT⟩, fun D1 hD1 => ?_⟩
    refine lc_it walk_tup (fun i H' => Same H1 H' ∧ ∃ acc, H' D1 = some (.lst acc) ∧ acc.length = i ∧ All2 (fun u b => LsAt H' u b ∧ u ≠ .ref D1) acc ((xs.take i).map encS)) ⟨same_upd hD1, [], upd_same, rfl, .nil⟩ (fun i H' _ p => SqT.of (p.1 _ _ gT)) ?_ ?_
    · rintro i x Hz G1 hi ⟨t1, acc, hA1, hal, hacc⟩ ⟨rfl, hx⟩
      obtain ⟨d', hd', hR⟩ := hus.get hx
      have hR := hR.keep (tkS (Same.tr (Same.refl _) t1))
      have hi2 : i ≤ 600000 := Nat.le_of_lt (Nat.lt_of_lt_of_le (show i < us.length from hi) (by omega))
      refine ⟨rfl, lc_yes ⟨_, rfl, x, d', rfl, hR, len_memL (List.mem_of_getElem? hd') (by exact lr), fun p2 G2 t2 hp2 h2 => ?_⟩⟩
      have hA2 := t2 _ _ hA1
      have n2 : p2 ≠ D1 := (ne_of_none hA1 hp2).symm
      refine ⟨acc, hA2, Nat.lt_of_le_of_lt (show _ ≤ 600000 by omega) (by decide), fun z o h => by rw [upd_ne (ne_of_none h hD1)]; exact t2 _ _ (t1 _ _ h), acc ++ [.ref p2], upd_same, by rw [List.length_append, hal]; rfl, ?_⟩
      rw [take_snoc hd', List.map_append]
      exact (lsts_keep t2 hacc).app (.one ⟨⟨p2, rfl, by rw [upd_ne n2]; exact h2⟩, fun e => n2 (V.ref.inj e)⟩)
    rintro H2 ⟨s2, accD1, gD1, halD1, haccD1⟩
    have halD1 : accD1.length = us.length := halD1
    rw [hus.len, List.take_length] at haccD1
    have lsD1 : LstAt H2 (xs.map encS) (.ref D1) := ⟨D1, accD1, rfl, gD1, by omega, lsts_keep0 (Same.refl _) haccD1⟩
    obtain ⟨lsq, lsu, lse, lsg, lsl, lsh⟩ := lsD1
    cases lse
    rw [lsg] at gD1
    cases Option.some.inj gD1
    refine ⟨.inr (.inl ⟨rfl, Z.tFAULTS⟩), _, rfl, u, _, 0, .str w, rfl, rfl, SqT.of ((Same.tr s1 s2) _ _ hu), atI_nat (j := 0) rfl, Z.aFAULTS, FAU, w, i, rfl, rfl, Z.sFAULTS _, hi, hno, ?_⟩
    have hflD2 : ((xs.map encS)).flatten.length ≤ 500000 := by unfold encL at lr; rw [List.length_append] at lr; omega
    refine ⟨_, rfl, D1, rfl, ⟨_, SqL.of lsg⟩, fun D2 hD2 => ?_⟩
    refine HC.wk_it walk_list (fun i H' => Same H2 H' ∧ H' D2 = some (.lst ((((xs.map encS)).take i).flatten.map vi))) ⟨same_upd hD2, upd_same⟩ (fun i H' _ p => SqL.of (p.1 _ _ lsg)) ?_ ?_
    · rintro i x H2z G2 hi ⟨t2, hk⟩ ⟨rfl, hx⟩
      obtain ⟨bs, hbs, l2, rfl, hl2'⟩ := lsh.get hx
      have hbl : (((xs.map encS)).take i).flatten.length + bs.length ≤ 500000 := by
        have e := congrArg (fun z => z.flatten.length) (List.take_append_drop i ((xs.map encS)))
        rw [List.drop_eq_getElem_cons (by have := (List.getElem?_eq_some_iff.mp hbs).1; omega)] at e
        have e3 : ((xs.map encS))[i]'(by have := (List.getElem?_eq_some_iff.mp hbs).1; omega) = bs := (List.getElem?_eq_some_iff.mp hbs).2
        simp only [List.flatten_append, List.flatten_cons, List.length_append, e3] at e
        omega
      refine ⟨rfl, HC.yes (iteT ?_)⟩
      refine ⟨_, rfl, l2, rfl, ⟨_, SqL.of (t2 _ _ hl2')⟩, ?_⟩
      refine HC.wk_it walk_list (fun j H' => Same H2 H' ∧ H' D2 = some (.lst (((((xs.map encS)).take i).flatten ++ bs.take j).map vi))) ⟨t2, by rw [List.take_zero, List.append_nil]; exact hk⟩ (fun j H' _ p => SqL.of (p.1 _ _ hl2')) ?_ ?_
      · rintro j y H3z G3 hj ⟨t3, hk3⟩ ⟨rfl, hy⟩
        rw [List.getElem?_map] at hy
        obtain ⟨b, hb, rfl⟩ : ∃ b, bs[j]? = some b ∧ y = vi b := by
          cases e : bs[j]? with
          | none => rw [e] at hy; cases hy
          | some b => rw [e] at hy; cases hy; exact ⟨b, rfl, rfl⟩
        refine ⟨rfl, HC.yes (iteT ⟨_, rfl, _, hk3, ?_, fun z o h => by rw [upd_ne (ne_of_none h hD2)]; exact t3 _ _ h, ?_⟩)⟩
        · rw [List.length_map, List.length_append, List.length_take]
          exact Nat.lt_of_le_of_lt (show _ ≤ 600000 by omega) (by decide)
        · rw [upd_same, take_snoc hb]
          simp [List.map_append]
      · rintro G3 ⟨t3, hk3⟩
        rw [List.length_map, List.take_length] at hk3
        refine ⟨t3, ?_⟩
        rw [take_snoc hbs, List.flatten_append]
        simpa using hk3
    rintro H3 ⟨s3, gD2⟩
    rw [lsh.len, List.take_length] at gD2
    refine ⟨D2, _, rfl, .inr (SqL.of gD2), ?_⟩
    exact Wr.fin (us := .int i :: ((xs.map encS).flatten.map vi ++ [])) qq hl (Same.tr s1 (Same.tr s2 s3)) (by rw [hB, List.append_nil]; rfl)
theorem ok_writeOutcome {k : Nat} (Z : Defs K mg) : FnOk P w K mg base CX0 (k + 84) Z.fWriteOutcome Z.fdWriteOutcome ["outcome"] (spWr OuAt bO) := by
  have GWriteValue : FnOk P w K mg base CX0 (k + 83) Z.fWriteValue Z.fdWriteValue ["value"] (spWr (fun H v x => VaAt H 40 v x) (bV 40)) := (ok_writeValue Z 40).mono (by omega)
  have GWriteFault : FnOk P w K mg base CX0 (k + 83) Z.fWriteFault Z.fdWriteFault ["fault"] (spWr FltAt bFl) := (ok_writeFault (k := 0) Z).mono (by omega)
  refine Z.DWriteOutcome.F.ok scWriteOutcome (fun vs H Q E h => ?_) (fun cdv A outer s H vs Q E hr h => ?_)
  · obtain ⟨x, d, rfl, _⟩ := h
    rfl
  · obtain ⟨x, d, rfl, hx, hl, qq⟩ := h
    refine ⟨_, (pss_cons (ps_if (pt_cmpR op_eq (pe_ix ix_tup (pv 0) pe_int (fun _ _ => rfl)) pe_str (nomark _)) (pss_one (ps_ret (pe_lst (pa_cons pe_int (StX.pa_star (pe_call GWriteValue (hr.mono (by omega)) (by rfl) Z.DWriteValue.g Z.DWriteValue.F.kp Z.DWriteValue.b .nil pass0 (pa_cons (pe_ix ix_tup (pv 0) pe_int (fun _ _ => rfl)) pa_nil)) pa_nil))))) pss_nil)
        (pss_one (ps_ret (pe_lst (pa_cons pe_int (StX.pa_star (pe_call GWriteFault (hr.mono (by omega)) (by rfl) Z.DWriteFault.g Z.DWriteFault.F.kp Z.DWriteFault.b .nil pass0 (pa_cons (pe_ix ix_tup (pv 0) pe_int (fun _ _ => rfl)) pa_nil)) pa_nil)))))), ?_⟩
    cases d with
    | val v =>
      obtain ⟨t, y, rfl, ht, hv⟩ := hx
      refine ⟨_, rfl, t, _, 0, .str "value", rfl, rfl, SqT.of ht, rfl, rfl, _, rfl, iteYes (by decide +kernel) ?_⟩
      refine ⟨_, rfl, t, _, 1, y, rfl, rfl, SqT.of ht, rfl, _, v, rfl, hv, (by simp only [bO, List.length_cons] at hl; omega), fun p1 H1 s1 hp1 h1 => ?_⟩
      refine ⟨p1, _, rfl, .inr (SqL.of h1), ?_⟩
      exact Wr.fin qq hl s1 (by simp [bO] <;> first | rfl | exact ⟨rfl, rfl⟩)
    | flt i =>
      obtain ⟨h1, h2, t, u, rfl, ht, hu⟩ := hx
      refine ⟨_, rfl, t, _, 0, .str "fault", rfl, rfl, SqT.of ht, rfl, rfl, _, rfl, iteNo (by decide +kernel) ?_⟩
      refine ⟨_, rfl, t, _, 1, .ref u, rfl, rfl, SqT.of ht, rfl, _, (.flt i), rfl, ⟨h1, h2, u, rfl, hu⟩, (by simp only [bO, List.length_cons] at hl; simp only [bFl, List.length_cons, List.length_nil]; omega), fun p1 H1 s1 hp1 h1 => ?_⟩
      refine ⟨p1, _, rfl, .inr (SqL.of h1), ?_⟩
      exact Wr.fin qq hl s1 (by simp [bO, bFl] <;> first | rfl | exact ⟨rfl, rfl⟩)
    | miss l =>
      obtain ⟨h1, t, u, rfl, ht, hu⟩ := hx
      refine ⟨_, rfl, t, _, 0, .str "fault", rfl, rfl, SqT.of ht, rfl, rfl, _, rfl, iteNo (by decide +kernel) ?_⟩
      refine ⟨_, rfl, t, _, 1, .ref u, rfl, rfl, SqT.of ht, rfl, _, (.miss l), rfl, ⟨h1, u, rfl, hu⟩, (by simp only [bO, List.length_cons] at hl; simp only [bFl, List.length_cons, List.length_nil]; omega), fun p1 H1 s1 hp1 h1 => ?_⟩
      refine ⟨p1, _, rfl, .inr (SqL.of h1), ?_⟩
      exact Wr.fin qq hl s1 (by simp [bO, bFl] <;> first | rfl | exact ⟨rfl, rfl⟩)
def spWCell : Sp := fun vs H Q _ => ∃ (x y z : V) (d : Ce), vs = [x, y, z] ∧ TxtAt H d.1 x ∧ ShAt H d.2.1 y ∧ OuAt H d.2.2 z ∧ (bC d).length ≤ 500000 ∧
  ∀ p H', Same H H' → H p = none → H' p = some (.lst ((bC d).map vi)) → Q (.ref p) H'
theorem ok_writeCell {k : Nat} (Z : Defs K mg) : FnOk P w K mg base CX0 (k + 85) Z.fWriteCell Z.fdWriteCell ["name", "shape", "outcome"] spWCell := by
  have GWriteString : FnOk P w K mg base CX0 (k + 84) Z.fWriteString Z.fdWriteString ["text"] (spWr TxtAt encS) := (ok_writeString (k := 0) Z).mono (by omega)
  have GWriteShape : FnOk P w K mg base CX0 (k + 84) Z.fWriteShape Z.fdWriteShape ["shape"] (spWr ShAt bSh) := (ok_writeShape (k := 0) Z).mono (by omega)
  have GWriteOutcome : FnOk P w K mg base CX0 (k + 84) Z.fWriteOutcome Z.fdWriteOutcome ["outcome"] (spWr OuAt bO) := ok_writeOutcome Z
  refine Z.DWriteCell.F.ok scWriteCell (fun vs H Q E h => ?_) (fun cdv A outer s H vs Q E hr h => ?_)
  · obtain ⟨x, y, z, d, rfl, _⟩ := h
    rfl
  · obtain ⟨x, y, z, d, rfl, hx, hy, hz, hl, qq⟩ := h
    refine ⟨_, (pss_one (ps_ret (pe_lst (StX.pa_star (pe_call GWriteString (hr.mono (by omega)) (by rfl) Z.DWriteString.g Z.DWriteString.F.kp Z.DWriteString.b .nil pass0 (pa_cons (pv 0) pa_nil)) (StX.pa_star (pe_call GWriteShape (hr.mono (by omega)) (by rfl) Z.DWriteShape.g Z.DWriteShape.F.kp Z.DWriteShape.b .nil pass0 (pa_cons (pv 1) pa_nil)) (StX.pa_star (pe_call GWriteOutcome (hr.mono (by omega)) (by rfl) Z.DWriteOutcome.g Z.DWriteOutcome.F.kp Z.DWriteOutcome.b .nil pass0 (pa_cons (pv 2) pa_nil)) pa_nil)))))), ?_⟩
    refine ⟨_, rfl, _, d.1, rfl, hx, (by simp only [bC, List.length_append] at hl; omega), fun p1 H1 s1 hp1 h1 => ?_⟩
    refine ⟨p1, _, rfl, .inr (SqL.of h1), ?_⟩
    refine ⟨_, rfl, _, d.2.1, rfl, (hy.keep (tkS s1)), (by simp only [bC, List.length_append] at hl; omega), fun p2 H2 s2 hp2 h2 => ?_⟩
    refine ⟨p2, _, rfl, .inr (SqL.of h2), ?_⟩
    refine ⟨_, rfl, _, d.2.2, rfl, (hz.keep (tkS (Same.tr s1 s2))), (by simp only [bC, List.length_append] at hl; omega), fun p3 H3 s3 hp3 h3 => ?_⟩
    refine ⟨p3, _, rfl, .inr (SqL.of h3), ?_⟩
    exact Wr.fin qq hl (Same.tr s1 (Same.tr s2 s3)) (by simp [bC] <;> first | rfl | exact ⟨rfl, rfl⟩)
theorem ok_writeCells {k : Nat} (Z : Defs K mg) : FnOk P w K mg base CX0 (k + 86) Z.fWriteCells Z.fdWriteCells ["cells"] (spWr (LstsAt CeAt) fun cs => encL (cs.map bC)) := by
  have GWriteCell : FnOk P w K mg base CX0 (k + 85) Z.fWriteCell Z.fdWriteCell ["name", "shape", "outcome"] spWCell := ok_writeCell Z
  have GWriteList : FnOk P w K mg base CX0 (k + 85) Z.fWriteList Z.fdWriteList ["items"] (spWr LstAt encL) := (ok_writeList (k := 0) Z).mono (by omega)
  refine Z.DWriteCells.F.ok scWriteCells (fun vs H Q E h => ?_) (fun cdv A outer s H vs Q E hr h => ?_)
  · obtain ⟨x, d, rfl, _⟩ := h
    rfl
  · obtain ⟨x, d, rfl, ⟨q, us, rfl, hq, hul, hus⟩, hl, qq⟩ := h
    refine ⟨_, (pss_one (ps_ret (pe_call GWriteList (hr.mono (by omega)) (by rfl) Z.DWriteList.g Z.DWriteList.F.kp Z.DWriteList.b .nil pass0 (pa_cons (pe_lc (own := [("name", 1), ("shape", 2), ("outcome", 3)]) (g := (gTup K 3 (gCons (gName 1) (gCons (gName 2) (gCons (gName 3) gNil))))) (by rfl) scWriteCells.nd (ET.pi_listK (K := K) rfl (pv 0)) (blkOk_by (own := [("name", 1), ("shape", 2), ("outcome", 3)]) (N := ["cells", "name", "shape", "outcome"]) (sc := defScope sWriteCells) (by decide +kernel)) (fun _ _ _ _ _ => (pg_tup rfl (pgs_cons (pg_name (i := 1) scWriteCells.nd rfl (.inl rfl)) (pgs_cons (pg_name (i := 2) scWriteCells.nd rfl (.inl rfl)) (pgs_cons (pg_name (i := 3) scWriteCells.nd rfl (.inl rfl)) pgs_nil))))) (fun _ _ _ _ _ => pts_nil) (fun _ _ _ _ _ => (pe_call GWriteCell (hr.mono (by omega)) (by rfl) Z.DWriteCell.g Z.DWriteCell.F.kp Z.DWriteCell.b .nil pass0 (pa_cons (pv 1) (pa_cons (pv 2) (pa_cons (pv 3) pa_nil)))))) pa_nil)))), ?_⟩
    refine ⟨_, rfl, q, rfl, ⟨_, SqL.of hq⟩, fun D1 hD1 => ?_⟩
    refine lc_it walk_list (fun i H' => Same H H' ∧ ∃ acc, H' D1 = some (.lst acc) ∧ acc.length = i ∧ All2 (fun u b => LsAt H' u b ∧ u ≠ .ref D1) acc ((d.take i).map bC)) ⟨same_upd hD1, [], upd_same, rfl, .nil⟩ (fun i H' _ p => SqL.of (p.1 _ _ hq)) ?_ ?_
    · rintro i x Hz G1 hi ⟨t1, acc, hA1, hal, hacc⟩ ⟨rfl, hx⟩
      obtain ⟨d', hd', hR⟩ := hus.get hx
      have hR := hR.keep (tkS t1)
      obtain ⟨k0, t, s, o, rfl, k1, k2, k3⟩ := hR
      have hi2 : i ≤ 600000 := Nat.le_of_lt (Nat.lt_of_lt_of_le (show i < us.length from hi) (by omega))
      refine ⟨t, _, rfl, SqT.of k1, rfl, _, _, rfl, _, _, rfl, _, _, rfl, rfl, rfl, lc_yes ⟨_, rfl, _, rfl, _, rfl, .str (S d'.1), s, o, d', rfl, ⟨rfl, k0⟩, k2, k3, len_memL (List.mem_of_getElem? hd') (by exact hl), fun p2 G2 t2 hp2 h2 => ?_⟩⟩
      have hA2 := t2 _ _ hA1
      have n2 : p2 ≠ D1 := (ne_of_none hA1 hp2).symm
      refine ⟨acc, hA2, Nat.lt_of_le_of_lt (show _ ≤ 600000 by omega) (by decide), fun z o h => by rw [upd_ne (ne_of_none h hD1)]; exact t2 _ _ (t1 _ _ h), acc ++ [.ref p2], upd_same, by rw [List.length_append, hal]; rfl, ?_⟩
      rw [take_snoc hd', List.map_append]
      exact (lsts_keep t2 hacc).app (.one ⟨⟨p2, rfl, by rw [upd_ne n2]; exact h2⟩, fun e => n2 (V.ref.inj e)⟩)
    rintro H1 ⟨s1, acc, gD, hal, hacc⟩
    have hal : acc.length = us.length := hal
    rw [hus.len, List.take_length] at hacc
    have ls : LstAt H1 (d.map bC) (.ref D1) := ⟨D1, acc, rfl, gD, by omega, lsts_keep0 (Same.refl _) hacc⟩
    exact ⟨.ref D1, _, rfl, ls, hl, fun p H' s hp h => qq p H' (Same.tr s1 s) (Same.none s1 hp) h⟩
def bG (ts : List Tri) (cs : List Ce) : List Nat := encL (ts.map bTri) ++ encL (cs.map bC)
def spWGroup : Sp := fun vs H Q _ => ∃ (x y : V) (ts : List Tri) (cs : List Ce), vs = [x, y] ∧ LstsAt TriAt H ts x ∧ LstsAt CeAt H cs y ∧ (bG ts cs).length ≤ 500000 ∧
  ∀ p H', Same H H' → H p = none → H' p = some (.lst ((bG ts cs).map vi)) → Q (.ref p) H'
theorem ok_writeGroup {k : Nat} (Z : Defs K mg) : FnOk P w K mg base CX0 (k + 87) Z.fWriteGroup Z.fdWriteGroup ["triples", "cells"] spWGroup := by
  have GWriteTriple : FnOk P w K mg base CX0 (k + 86) Z.fWriteTriple Z.fdWriteTriple ["triple"] (spWr TriAt bTri) := (ok_writeTriple (k := 0) Z).mono (by omega)
  have GWriteCells : FnOk P w K mg base CX0 (k + 86) Z.fWriteCells Z.fdWriteCells ["cells"] (spWr (LstsAt CeAt) fun cs => encL (cs.map bC)) := ok_writeCells Z
  have GWriteList : FnOk P w K mg base CX0 (k + 86) Z.fWriteList Z.fdWriteList ["items"] (spWr LstAt encL) := (ok_writeList (k := 0) Z).mono (by omega)
  refine Z.DWriteGroup.F.ok scWriteGroup (fun vs H Q E h => ?_) (fun cdv A outer s H vs Q E hr h => ?_)
  · obtain ⟨x, y, ts, cs, rfl, _⟩ := h
    rfl
  · obtain ⟨x, y, ts, cs, rfl, ⟨q, us, rfl, hq, hul, hus⟩, ⟨q2, us2, rfl, hq2, hul2, hus2⟩, hl, qq⟩ := h
    refine ⟨_, (pss_one (ps_ret (pe_lst (StX.pa_star (pe_call GWriteList (hr.mono (by omega)) (by rfl) Z.DWriteList.g Z.DWriteList.F.kp Z.DWriteList.b .nil pass0 (pa_cons (pe_lc (own := [("triple", 2)]) (g := (gName 2)) (by rfl) scWriteGroup.nd (ET.pi_listK (K := K) rfl (pv 0)) (blkOk_by (own := [("triple", 2)]) (N := ["triples", "cells", "triple"]) (sc := defScope sWriteGroup) (by decide +kernel)) (fun _ _ _ _ _ => (pg_name (i := 2) scWriteGroup.nd rfl (Or.inl rfl))) (fun _ _ _ _ _ => pts_nil) (fun _ _ _ _ _ => (pe_call GWriteTriple (hr.mono (by omega)) (by rfl) Z.DWriteTriple.g Z.DWriteTriple.F.kp Z.DWriteTriple.b .nil pass0 (pa_cons (pv 2) pa_nil)))) pa_nil)) (StX.pa_star (pe_call GWriteCells (hr.mono (by omega)) (by rfl) Z.DWriteCells.g Z.DWriteCells.F.kp Z.DWriteCells.b .nil pass0 (pa_cons (pv 1) pa_nil)) pa_nil))))), ?_⟩
    have lr : (encL (ts.map bTri)).length ≤ 500000 := by unfold bG at hl; rw [List.length_append] at hl; omega
    have lc : (encL (cs.map bC)).length ≤ 500000 := by unfold bG at hl; rw [List.length_append] at hl; omega
    refine ⟨_, rfl, q, rfl, ⟨_, SqL.of hq⟩, fun D1 hD1 => ?_⟩
    refine lc_it walk_list (fun i H' => Same H H' ∧ ∃ acc, H' D1 = some (.lst acc) ∧ acc.length = i ∧ All2 (fun u b => LsAt H' u b ∧ u ≠ .ref D1) acc ((ts.take i).map bTri)) ⟨same_upd hD1, [], upd_same, rfl, .nil⟩ (fun i H' _ p => SqL.of (p.1 _ _ hq)) ?_ ?_
    · rintro i x Hz G1 hi ⟨t1, acc, hA1, hal, hacc⟩ ⟨rfl, hx⟩
      obtain ⟨d', hd', hR⟩ := hus.get hx
      have hR := hR.keep (tkS (Same.tr (Same.refl _) t1))
      have hi2 : i ≤ 600000 := Nat.le_of_lt (Nat.lt_of_lt_of_le (show i < us.length from hi) (by omega))
      refine ⟨rfl, lc_yes ⟨_, rfl, x, d', rfl, hR, len_memL (List.mem_of_getElem? hd') (by exact lr), fun p2 G2 t2 hp2 h2 => ?_⟩⟩
      have hA2 := t2 _ _ hA1
      have n2 : p2 ≠ D1 := (ne_of_none hA1 hp2).symm
      refine ⟨acc, hA2, Nat.lt_of_le_of_lt (show _ ≤ 600000 by omega) (by decide), fun z o h => by rw [upd_ne (ne_of_none h hD1)]; exact t2 _ _ (t1 _ _ h), acc ++ [.ref p2], upd_same, by rw [List.length_append, hal]; rfl, ?_⟩
      rw [take_snoc hd', List.map_append]
      exact (lsts_keep t2 hacc).app (.one ⟨⟨p2, rfl, by rw [upd_ne n2]; exact h2⟩, fun e => n2 (V.ref.inj e)⟩)
    rintro H1 ⟨s1, accD1, gD1, halD1, haccD1⟩
    have halD1 : accD1.length = us.length := halD1
    rw [hus.len, List.take_length] at haccD1
    have lsD1 : LstAt H1 (ts.map bTri) (.ref D1) := ⟨D1, accD1, rfl, gD1, by omega, lsts_keep0 (Same.refl _) haccD1⟩
    refine ⟨.ref D1, _, rfl, lsD1, lr, fun p2 H2 s2 hp2 h2 => ?_⟩
    refine ⟨p2, _, rfl, .inr (SqL.of h2), ?_⟩
    refine ⟨_, rfl, _, cs, rfl, ⟨q2, us2, rfl, ((Same.tr s1 s2) _ _ hq2), hul2, hus2.mono fun _ _ r => r.keep (tkS (Same.tr s1 s2))⟩, lc, fun p3 H3 s3 hp3 h3 => ?_⟩
    refine ⟨p3, _, rfl, .inr (SqL.of h3), ?_⟩
    exact Wr.fin qq hl (Same.tr s1 (Same.tr s2 s3)) (by simp [bG] <;> first | rfl | exact ⟨rfl, rfl⟩)
end
end Q40
namespace Q40
open PySem PySem.Spec PyProof.Rows L2 SX HL NM DM
section
variable {P : Program} {w : World} {K : PySem.W.Frag} {mg : Str → Option Value} {base : Heap}
/-! ### the bytes that the law writes -/
theorem cat_fits {a b : List Nat} (h : a.length + b.length ≤ 600000) : (a.map vi).length + (b.map vi).length ≤ sizeLine := by
  rw [List.length_map, List.length_map]
  exact fits h
theorem ok_lawListed {k : Nat} (Z : Defs K mg) : FnOk P w K mg base CX0 (k + 2) Z.fLawListed Z.fdLawListed ["parts"] (spWr LstAt encL) := by
  have GLawNumber : FnOk P w K mg base CX0 (k + 1) Z.fLawNumber Z.fdLawNumber ["number"] spNum := ok_lawNumber Z
  refine Z.DLawListed.F.ok scLawListed (fun vs H Q E h => ?_) (fun cdv A outer s H vs Q E hr h => ?_)
  · obtain ⟨x, d, rfl, _⟩ := h
    rfl
  · obtain ⟨x, d, rfl, ⟨l, us, rfl, hL, hl2, hus⟩, hl, qq⟩ := h
    refine ⟨_, (pss_cons (ps_set (i := 1) scLawListed.nd rfl (.inl rfl) (pe_call GLawNumber (hr.mono (by omega)) (by rfl) Z.DLawNumber.g Z.DLawNumber.F.kp Z.DLawNumber.b .nil pass0 (pa_cons (pe_callB call_len_seq (by rfl) Z.len PySem.boot_len (pa_cons (pv 0) pa_nil)) pa_nil)))
        (pss_cons (ps_for PassesOwn.never rfl (pi_list (pv 0)) (pg_name (i := 2) scLawListed.nd rfl (.inl rfl)) (pss_one (ps_set (i := 1) scLawListed.nd rfl (.inl rfl) (pe_op op_cat (pv 1) (pv 2)))))
        (pss_one (ps_ret (pv 1))))), ?_⟩
    have hel := hus.len
    have hnd : NOk d.length := NOk.small (Nat.lt_of_le_of_lt (show _ ≤ 500 by omega) (by decide))
    refine ⟨_, rfl, l, us, rfl, .inl (SqL.of hL), d.length, by rw [hel]; rfl, enc_le _ hnd, fun p1 H1 s1 hp1 h1 => ?_⟩
    refine ⟨_, rfl, l, rfl, ⟨_, SqL.of (s1 _ _ hL)⟩, ?_⟩
    refine for_it walk_list (fun i σ H' => ∃ (D : Addr) (y2 : Option V), σ = [some (.ref l), some (.ref D), y2] ∧ Same H1 H' ∧ H D = none ∧ H' D = some (.lst ((enc d.length ++ (d.take i).flatten).map vi))) ⟨p1, none, rfl, Same.refl _, hp1, by rw [List.take_zero]; simpa using h1⟩ (fun i σ H' _ ⟨_, _, _, s, _⟩ => SqL.of (s _ _ (s1 _ _ hL))) ?_ ?_
    · rintro i x σ H2z H2 hi ⟨D, y2, rfl, s2, hD0, hk⟩ ⟨rfl, hx⟩
      obtain ⟨bs, hbs, l2, rfl, hl2'⟩ := hus.get hx
      have hbl : (d.take i).flatten.length + bs.length ≤ d.flatten.length := by
        have e := congrArg (fun z => z.flatten.length) (List.take_append_drop i d)
        rw [List.drop_eq_getElem_cons (by have := (List.getElem?_eq_some_iff.mp hbs).1; omega)] at e
        have e3 : d[i]'(by have := (List.getElem?_eq_some_iff.mp hbs).1; omega) = bs := (List.getElem?_eq_some_iff.mp hbs).2
        simp only [List.flatten_append, List.flatten_cons, List.length_append, e3] at e
        omega
      unfold encL at hl
      rw [List.length_append] at hl
      refine ⟨_, rfl, _, rfl, D, l2, _, _, rfl, rfl, hk, s2 _ _ (s1 _ _ hl2'), cat_fits (by rw [List.length_append]; omega), fun p hp => ?_⟩
      refine ⟨p, _, rfl, Same.tr s2 (same_upd hp), Same.none s1 (Same.none s2 hp), ?_⟩
      rw [upd_same, take_snoc hbs, ← List.map_append, List.flatten_append]
      simp
    · rintro σ H2 ⟨D, y2, rfl, s2, hD0, hk⟩
      rw [hel, List.take_length] at hk
      exact ⟨_, rfl, qq D H2 (Same.tr s1 s2) hD0 hk⟩
def LCHS : Str := " !\"#$&'()*+,-./0123456789:;<=>?@ABCDEFGHIJKLMNOPQRSTUVWXYZ[\\]^_`abcdefghijklmnopqrstuvwxyz{|}~"
theorem code_of : ∀ c ∈ chars, (c = 10 ∧ decide (c ∈ LCHS.cps.toList) = false) ∨ (decide (c ∈ LCHS.cps.toList) = true ∧ ∃ i rest, Builtin.Str.occurrences LCHS ⟨#[c]⟩ 0 LCHS.length 1 = i :: rest ∧ 32 + i + (if 4 < i then 1 else 0) = c) := by
  have h : ∀ c ∈ chars, (c = 10 ∧ decide (c ∈ LCHS.cps.toList) = false) ∨ (decide (c ∈ LCHS.cps.toList) = true ∧ (match Builtin.Str.occurrences LCHS ⟨#[c]⟩ 0 LCHS.length 1 with | i :: _ => decide (32 + i + (if 4 < i then 1 else 0) = c) | [] => false) = true) := by decide +kernel
  intro c hc
  rcases h c hc with h | ⟨h1, h2⟩
  · exact .inl h
  · refine .inr ⟨h1, ?_⟩
    cases e : Builtin.Str.occurrences LCHS ⟨#[c]⟩ 0 LCHS.length 1 with
    | nil => rw [e] at h2; cases h2
    | cons i r => rw [e] at h2; exact ⟨i, r, rfl, of_decide_eq_true h2⟩
theorem encS_ones (l : List Nat) : encL (l.map fun c => [c]) = encS l := by
  unfold encL encS
  rw [List.length_map]
  congr 1
  induction l with
  | nil => rfl
  | cons a r ih => rw [List.map_cons, List.flatten_cons, ih]; rfl
theorem ok_lawString {k : Nat} (Z : Defs K mg) : FnOk P w K mg base CX0 (k + 3) Z.fLawString Z.fdLawString ["text"] (spWr TxtAt encS) := by
  have GLawListed : FnOk P w K mg base CX0 (k + 2) Z.fLawListed Z.fdLawListed ["parts"] (spWr LstAt encL) := ok_lawListed Z
  refine Z.DLawString.F.ok scLawString (fun vs H Q E h => ?_) (fun cdv A outer s H vs Q E hr h => ?_)
  · obtain ⟨x, d, rfl, _⟩ := h
    rfl
  · obtain ⟨x, d, rfl, ⟨rfl, hn⟩, hl, qq⟩ := h
    refine ⟨_, (pss_cons (ps_set (i := 1) scLawString.nd rfl (.inl rfl) pe_str)
        (pss_cons (ps_set (i := 2) scLawString.nd rfl (.inl rfl) (pe_lst pa_nil))
        (pss_cons (ps_for PassesOwn.never rfl (pi_str (pv 0)) (pg_name (i := 3) scLawString.nd rfl (.inl rfl)) (pss_cons (ps_set (i := 4) scLawString.nd rfl (.inl rfl) pe_int)
        (C8.pss_cut (ps_if (pt_cmpR op_in_sign (pv 3) (pv 1) rfl) (pss_one (ps_set (i := 4) scLawString.nd rfl (.inl rfl) (pe_op op_add (pe_op op_add pe_int (pe_m1 PySem.F.slot_str_index PySem.F.type_str_index mt_sindex (pv 1) (pv 3))) (pe_callTy call_int1 (by rfl) Z.int HL.boot_int (pa_cons (pe_cmpR op_gt (pe_m1 PySem.F.slot_str_index PySem.F.type_str_index mt_sindex (pv 1) (pv 3)) pe_int (nomark _)) pa_nil))))) pss_nil)
        (pss_one (ps_expr (pe_bm PySem.F.plainAttrs_list PySem.F.slot_list_append PySem.F.type_list_append mt_append (pv 2) (pa_cons (pe_lst (pa_cons (pv 4) pa_nil)) pa_nil)))))))
        (pss_one (ps_ret (pe_call GLawListed (hr.mono (by omega)) (by rfl) Z.DLawListed.g Z.DLawListed.F.kp Z.DLawListed.b .nil pass0 (pa_cons (pv 2) pa_nil))))))), ?_⟩
    have hn1 := hn.1
    refine ⟨Nat.zero_le _, fun D hD => ?_⟩
    refine ⟨_, rfl, S d, rfl, ?_⟩
    refine for_it walk_str (fun i σ H' => ∃ (y3 y4 : Option V) (us : List V), σ = [some (.str (S d)), some (.str LCHS), some (.ref D), y3, y4] ∧ Same H H' ∧ H' D = some (.lst us) ∧ us.length = i ∧ All2 (fun u b => LsAt H' u b ∧ u ≠ .ref D) us ((d.take i).map fun c => [c]))
      ⟨none, none, [], rfl, same_upd hD, upd_same, rfl, .nil⟩ (fun _ _ _ _ _ => True.intro) ?_ ?_
    · rintro i y σ H2z H2 hi ⟨y3, y4, us, rfl, s2, hk, hul, hus⟩ ⟨rfl, cc, hcc, rfl⟩
      have hget : d[i]? = some cc := by rw [← hcc]; exact (List.getElem?_toArray ..).symm
      have hi4 : i < d.length := (List.getElem?_eq_some_iff.mp hget).1
      have hch := hn.2 cc (List.mem_of_getElem? hget)
      refine ⟨fun σ' H' => σ' = [some (.str (S d)), some (.str LCHS), some (.ref D), some (.str ⟨#[cc]⟩), some (vi cc)] ∧ H' = H2, ?_, ?_⟩
      · refine ⟨_, rfl, _, rfl, cc, LCHS, rfl, rfl, _, rfl, ?_⟩
        rcases code_of cc hch with ⟨h1, h2⟩ | ⟨h1, k, rest, h2, h3⟩
        · refine iteNo (by rw [h2]; decide) ⟨?_, rfl⟩
          rw [h1]
          rfl
        · refine iteYes h1 ?_
          refine ⟨_, rfl, ⟨_, rfl⟩, _, rfl, LCHS, _, k, rest, rfl, rfl, h2, _, _, rfl, rfl, _, rfl, ⟨_, rfl⟩, _, rfl, LCHS, _, k, rest, rfl, rfl, h2, _, _, rfl, rfl, .inr ⟨_, rfl, _, _, rfl, rfl, ?_, rfl⟩⟩
          have e : (32 + (k : Int) + (if decide ((4 : Int) < (k : Int)) = true then 1 else 0)) = (cc : Int) := by
            by_cases h4 : 4 < k
            · rw [if_pos h4] at h3; rw [if_pos (decide_eq_true (by omega))]; omega
            · rw [if_neg h4] at h3; rw [if_neg (fun z => h4 (by have := of_decide_eq_true z; omega))]; omega
          exact congrArg (fun z => [some (V.str (S d)), some (V.str LCHS), some (V.ref D), some (V.str ⟨#[cc]⟩), some (V.int z)]) e
      · rintro σ' H2 ⟨rfl, rfl⟩
        refine ⟨_, rfl, .inl ⟨rfl, _, SqL.of hk⟩, _, rfl, by show 1 ≤ sizeLine; decide, fun p2 hp2 => ?_⟩
        have t2 := same_upd (o := .lst [vi cc]) hp2
        have n2 : p2 ≠ D := (ne_of_none hk hp2).symm
        have big : 1000 ≤ sizeLine := by decide
        refine ⟨D, _, _, rfl, rfl, t2 _ _ hk, by omega, ?_⟩
        refine ⟨_, _, us ++ [.ref p2], rfl, fun z o h => by rw [upd_ne (ne_of_none h hD)]; exact t2 _ _ (s2 _ _ h), upd_same, by rw [List.length_append, hul]; rfl, ?_⟩
        rw [take_snoc hget, List.map_append]
        exact (lsts_keep t2 hus).app (.one ⟨⟨p2, rfl, by rw [upd_ne n2]; exact upd_same⟩, fun e => n2 (V.ref.inj e)⟩)
    · rintro σ H2 ⟨y3, y4, us, rfl, s2, hk, hul, hus⟩
      have hul : us.length = d.length := hul
      have et : d.take (S d).cps.size = d := List.take_of_length_le (Nat.le_refl _)
      rw [et] at hus
      exact ⟨_, rfl, .ref D, d.map fun c => [c], rfl, ⟨D, us, rfl, hk, by omega, lsts_keep0 (Same.refl _) hus⟩, by rw [encS_ones]; exact hl, fun p H' s hp h => qq p H' (Same.tr s2 s) (Same.none s2 hp) (by rw [h, encS_ones])⟩
theorem ok_lawMark {k : Nat} (Z : Defs K mg) : FnOk P w K mg base CX0 (k + 2) Z.fLawMarkBytes Z.fdLawMarkBytes ["mark"] (spWr MarkAt bMk) := by
  have GLawNumber : FnOk P w K mg base CX0 (k + 1) Z.fLawNumber Z.fdLawNumber ["number"] spNum := (ok_lawNumber (k := 0) Z).mono (by omega)
  refine Z.DLawMarkBytes.F.ok scLawMarkBytes (fun vs H Q E h => ?_) (fun cdv A outer s H vs Q E hr h => ?_)
  · obtain ⟨x, d, rfl, _⟩ := h
    rfl
  · obtain ⟨x, d, rfl, hR, hl, qq⟩ := h
    refine ⟨_, (pss_one (ps_ret (pe_op op_cat (pe_call GLawNumber (hr.mono (by omega)) (by rfl) Z.DLawNumber.g Z.DLawNumber.F.kp Z.DLawNumber.b .nil pass0 (pa_cons (pe_ix ix_tup (pv 0) pe_int (fun _ _ => rfl)) pa_nil)) (pe_call GLawNumber (hr.mono (by omega)) (by rfl) Z.DLawNumber.g Z.DLawNumber.F.kp Z.DLawNumber.b .nil pass0 (pa_cons (pe_ix ix_tup (pv 0) pe_int (fun _ _ => rfl)) pa_nil))))), ?_⟩
    obtain ⟨⟨hm1, hm2⟩, t, rfl, ht⟩ := hR
    refine ⟨_, rfl, t, _, 0, vi d.1, rfl, rfl, SqT.of ht, rfl, d.1, rfl, enc_le _ hm1, fun p1 H1 s1 hp1 h1 => ?_⟩
    refine ⟨_, rfl, t, _, 1, vi d.2, rfl, rfl, SqT.of (s1 _ _ ht), rfl, d.2, rfl, enc_le _ hm2, fun p2 H2 s2 hp2 h2 => ?_⟩
    refine ⟨p1, p2, _, _, rfl, rfl, (s2 _ _ h1), h2, cat_fits (by simp only [bMk, List.length_append, List.length_cons, List.length_nil] at hl ⊢; omega), fun C1 hC1 => ?_⟩
    have s3 := same_upd (o := (.lst ((enc d.1).map vi ++ (enc d.2).map vi))) hC1
    have gC1 : upd H2 C1 (.lst ((enc d.1).map vi ++ (enc d.2).map vi)) C1 = some (.lst (((enc d.1) ++ (enc d.2)).map vi)) := by rw [upd_same]; exact congrArg (fun z => some (HO.lst z)) List.map_append.symm
    generalize upd H2 C1 (.lst ((enc d.1).map vi ++ (enc d.2).map vi)) = H3 at s3 gC1 ⊢
    exact qq C1 H3 (Same.tr s1 (Same.tr s2 s3)) (Same.none (Same.tr s1 s2) hC1) (by rw [gC1]; simp [bMk])
theorem ok_lawDeed {k : Nat} (Z : Defs K mg) : FnOk P w K mg base CX0 (k + 4) Z.fLawDeedBytes Z.fdLawDeedBytes ["deed"] (spWr DeAt bDe) := by
  have GLawNumber : FnOk P w K mg base CX0 (k + 3) Z.fLawNumber Z.fdLawNumber ["number"] spNum := (ok_lawNumber (k := 0) Z).mono (by omega)
  have GLawString : FnOk P w K mg base CX0 (k + 3) Z.fLawString Z.fdLawString ["text"] (spWr TxtAt encS) := (ok_lawString (k := 0) Z).mono (by omega)
  have GLawListed : FnOk P w K mg base CX0 (k + 3) Z.fLawListed Z.fdLawListed ["parts"] (spWr LstAt encL) := (ok_lawListed (k := 0) Z).mono (by omega)
  have GLawMarkBytes : FnOk P w K mg base CX0 (k + 3) Z.fLawMarkBytes Z.fdLawMarkBytes ["mark"] (spWr MarkAt bMk) := (ok_lawMark (k := 0) Z).mono (by omega)
  refine Z.DLawDeedBytes.F.ok scLawDeedBytes (fun vs H Q E h => ?_) (fun cdv A outer s H vs Q E hr h => ?_)
  · obtain ⟨x, d, rfl, _⟩ := h
    rfl
  · obtain ⟨x, d, rfl, hR, hl, qq⟩ := h
    refine ⟨_, (pss_cons (ps_if (pt_cmpR op_eq (pe_ix ix_tup (pv 0) pe_int (fun _ _ => rfl)) pe_str (nomark _)) (pss_one (ps_ret (pe_op op_cat (pe_lst (pa_cons pe_int pa_nil)) (pe_call GLawNumber (hr.mono (by omega)) (by rfl) Z.DLawNumber.g Z.DLawNumber.F.kp Z.DLawNumber.b .nil pass0 (pa_cons (pe_ix ix_tup (pv 0) pe_int (fun _ _ => rfl)) pa_nil))))) pss_nil)
        (pss_cons (ps_set (i := 1) scLawDeedBytes.nd rfl (.inl rfl) (pe_op op_cat (pe_op op_cat (pe_lst (pa_cons pe_int pa_nil)) (pe_call GLawString (hr.mono (by omega)) (by rfl) Z.DLawString.g Z.DLawString.F.kp Z.DLawString.b .nil pass0 (pa_cons (pe_ix ix_tup (pv 0) pe_int (fun _ _ => rfl)) pa_nil))) (pe_call GLawListed (hr.mono (by omega)) (by rfl) Z.DLawListed.g Z.DLawListed.F.kp Z.DLawListed.b .nil pass0 (pa_cons (pe_lc (own := [("mark", 2)]) (g := (gName 2)) (by rfl) scLawDeedBytes.nd (HK.pi_tupK (K := K) rfl (pe_ix (HL.ix_tupK (K := K) rfl) (pv 0) pe_int (fun _ _ => rfl))) (blkOk_by (own := [("mark", 2)]) (N := ["deed", "data", "mark"]) (sc := defScope sLawDeedBytes) (by decide +kernel)) (fun _ _ _ _ _ => (pg_name (i := 2) scLawDeedBytes.nd rfl (Or.inl rfl))) (fun _ _ _ _ _ => pts_nil) (fun _ _ _ _ _ => (pe_call GLawMarkBytes (hr.mono (by omega)) (by rfl) Z.DLawMarkBytes.g Z.DLawMarkBytes.F.kp Z.DLawMarkBytes.b .nil pass0 (pa_cons (pv 2) pa_nil)))) pa_nil))))
        (C8.pss_cut (ps_if (pt_cmp (pc_isN (pe_ix ix_tup (pv 0) pe_int (fun _ _ => rfl)))) (pss_one (ps_expr (pe_bm PySem.F.plainAttrs_list PySem.F.slot_list_append PySem.F.type_list_append mt_append (pv 1) (pa_cons pe_int pa_nil)))) (pss_one (ps_set (i := 1) scLawDeedBytes.nd rfl (.inl rfl) (pe_op op_cat (pe_op op_cat (pv 1) (pe_lst (pa_cons pe_int pa_nil))) (pe_call GLawMarkBytes (hr.mono (by omega)) (by rfl) Z.DLawMarkBytes.g Z.DLawMarkBytes.F.kp Z.DLawMarkBytes.b .nil pass0 (pa_cons (pe_ix ix_tup (pv 0) pe_int (fun _ _ => rfl)) pa_nil))))))
        (pss_one (ps_ret (pe_op op_cat (pe_op op_cat (pv 1) (pe_call GLawNumber (hr.mono (by omega)) (by rfl) Z.DLawNumber.g Z.DLawNumber.F.kp Z.DLawNumber.b .nil pass0 (pa_cons (pe_ix ix_tup (pv 0) pe_int (fun _ _ => rfl)) pa_nil))) (pe_call GLawString (hr.mono (by omega)) (by rfl) Z.DLawString.g Z.DLawString.F.kp Z.DLawString.b .nil pass0 (pa_cons (pe_ix ix_tup (pv 0) pe_int (fun _ _ => rfl)) pa_nil)))))))), ?_⟩
    cases d with
    | back n =>
      obtain ⟨hn, t, rfl, ht⟩ := hR
      refine ⟨_, rfl, t, _, 0, .str "back", rfl, rfl, SqT.of ht, rfl, rfl, _, rfl, iteYes (by decide +kernel) ?_⟩
      refine ⟨by show 1 ≤ sizeLine; decide, fun L1 hL1 => ?_⟩
      have s1 := same_upd (o := (.lst [.int 1])) hL1
      have gL1 : upd H L1 (.lst [.int 1]) L1 = some (.lst (([1] : List Nat).map vi)) := upd_same
      generalize upd H L1 (.lst [.int 1]) = H1 at s1 gL1 ⊢
      refine ⟨_, rfl, t, _, 1, vi n, rfl, rfl, SqT.of (s1 _ _ ht), rfl, n, rfl, enc_le _ hn, fun p2 H2 s2 hp2 h2 => ?_⟩
      refine ⟨L1, p2, _, _, rfl, rfl, (s2 _ _ gL1), h2, cat_fits (by simp only [bDe, List.length_append, List.length_cons, List.length_nil] at hl ⊢; omega), fun C2 hC2 => ?_⟩
      have s3 := same_upd (o := (.lst (([1] : List Nat).map vi ++ (enc n).map vi))) hC2
      have gC2 : upd H2 C2 (.lst (([1] : List Nat).map vi ++ (enc n).map vi)) C2 = some (.lst ((([1] : List Nat) ++ (enc n)).map vi)) := by rw [upd_same]; exact congrArg (fun z => some (HO.lst z)) List.map_append.symm
      generalize upd H2 C2 (.lst (([1] : List Nat).map vi ++ (enc n).map vi)) = H3 at s3 gC2 ⊢
      exact qq C2 H3 (Same.tr s1 (Same.tr s2 s3)) (Same.none (Same.tr s1 s2) hC2) (by rw [gC2]; simp [bDe])
    | change m r bh n l =>
      obtain ⟨hm, hn, hll, t, y, bx, rfl, ht, ⟨q, us, rfl, hq, hul, hus⟩, hb⟩ := hR
      refine ⟨_, rfl, t, _, 0, .str "change", rfl, rfl, SqT.of ht, rfl, rfl, _, rfl, iteNo (by decide +kernel) ?_⟩
      have lr : (encL (r.map bMk)).length ≤ 500000 := (by simp only [bDe, List.length_append, List.length_cons] at hl; omega)
      have lm : (encS m).length ≤ 500000 := (by simp only [bDe, List.length_append, List.length_cons] at hl; omega)
      have lt : (encS l).length ≤ 500000 := (by simp only [bDe, List.length_append, List.length_cons] at hl; omega)
      have lb : (bBe bh).length ≤ 500000 := (by simp only [bDe, List.length_append, List.length_cons] at hl; omega)
      refine ⟨by show 1 ≤ sizeLine; decide, fun L1 hL1 => ?_⟩
      have s1 := same_upd (o := (.lst [.int 0])) hL1
      have gL1 : upd H L1 (.lst [.int 0]) L1 = some (.lst (([0] : List Nat).map vi)) := upd_same
      generalize upd H L1 (.lst [.int 0]) = H1 at s1 gL1 ⊢
      refine ⟨_, rfl, t, _, 1, .str (S m), rfl, rfl, SqT.of (s1 _ _ ht), rfl, _, m, rfl, ⟨rfl, hm⟩, lm, fun p2 H2 s2 hp2 h2 => ?_⟩
      refine ⟨L1, p2, _, _, rfl, rfl, (s2 _ _ gL1), h2, cat_fits (by simp only [bDe, List.length_append, List.length_cons, List.length_nil] at hl ⊢; omega), fun C2 hC2 => ?_⟩
      have s3 := same_upd (o := (.lst (([0] : List Nat).map vi ++ (encS m).map vi))) hC2
      have gC2 : upd H2 C2 (.lst (([0] : List Nat).map vi ++ (encS m).map vi)) C2 = some (.lst ((([0] : List Nat) ++ (encS m)).map vi)) := by rw [upd_same]; exact congrArg (fun z => some (HO.lst z)) List.map_append.symm
      generalize upd H2 C2 (.lst (([0] : List Nat).map vi ++ (encS m).map vi)) = H3 at s3 gC2 ⊢
      refine ⟨_, rfl, t, _, 2, .ref q, rfl, rfl, SqT.of ((Same.tr s1 (Same.tr s2 s3)) _ _ ht), rfl, q, rfl, ⟨_, SqT.of ((Same.tr s1 (Same.tr s2 s3)) _ _ hq)⟩, fun D3 hD3 => ?_⟩
      refine lc_it walk_tup (fun i H' => Same H3 H' ∧ ∃ acc, H' D3 = some (.lst acc) ∧ acc.length = i ∧ All2 (fun u b => LsAt H' u b ∧ u ≠ .ref D3) acc ((r.take i).map bMk)) ⟨same_upd hD3, [], upd_same, rfl, .nil⟩ (fun i H' _ p => SqT.of (p.1 _ _ ((Same.tr s1 (Same.tr s2 s3)) _ _ hq))) ?_ ?_
      · rintro i x Hz G1 hi ⟨t1, acc, hA1, hal, hacc⟩ ⟨rfl, hx⟩
        obtain ⟨d', hd', hR⟩ := hus.get hx
        have hR := hR.keep (tkS (Same.tr (Same.tr s1 (Same.tr s2 s3)) t1))
        have hi2 : i ≤ 600000 := Nat.le_of_lt (Nat.lt_of_lt_of_le (show i < us.length from hi) (by omega))
        refine ⟨rfl, lc_yes ⟨_, rfl, x, d', rfl, hR, len_memL (List.mem_of_getElem? hd') (by exact lr), fun p2 G2 t2 hp2 h2 => ?_⟩⟩
        have hA2 := t2 _ _ hA1
        have n2 : p2 ≠ D3 := (ne_of_none hA1 hp2).symm
        refine ⟨acc, hA2, Nat.lt_of_le_of_lt (show _ ≤ 600000 by omega) (by decide), fun z o h => by rw [upd_ne (ne_of_none h hD3)]; exact t2 _ _ (t1 _ _ h), acc ++ [.ref p2], upd_same, by rw [List.length_append, hal]; rfl, ?_⟩
        rw [take_snoc hd', List.map_append]
        exact (lsts_keep t2 hacc).app (.one ⟨⟨p2, rfl, by rw [upd_ne n2]; exact h2⟩, fun e => n2 (V.ref.inj e)⟩)
      rintro H4 ⟨s4, accD3, gD3, halD3, haccD3⟩
      have halD3 : accD3.length = us.length := halD3
      rw [hus.len, List.take_length] at haccD3
      have lsD3 : LstAt H4 (r.map bMk) (.ref D3) := ⟨D3, accD3, rfl, gD3, by omega, lsts_keep0 (Same.refl _) haccD3⟩
      refine ⟨.ref D3, _, rfl, lsD3, lr, fun p5 H5 s5 hp5 h5 => ?_⟩
      refine ⟨C2, p5, _, _, rfl, rfl, ((Same.tr s4 s5) _ _ gC2), h5, cat_fits (by simp only [bDe, List.length_append, List.length_cons, List.length_nil] at hl ⊢; omega), fun C4 hC4 => ?_⟩
      have s6 := same_upd (o := (.lst ((([0] : List Nat) ++ (encS m)).map vi ++ (encL (r.map bMk)).map vi))) hC4
      have gC4 : upd H5 C4 (.lst ((([0] : List Nat) ++ (encS m)).map vi ++ (encL (r.map bMk)).map vi)) C4 = some (.lst (((([0] : List Nat) ++ (encS m)) ++ (encL (r.map bMk))).map vi)) := by rw [upd_same]; exact congrArg (fun z => some (HO.lst z)) List.map_append.symm
      generalize upd H5 C4 (.lst ((([0] : List Nat) ++ (encS m)).map vi ++ (encL (r.map bMk)).map vi)) = H6 at s6 gC4 ⊢
      refine ⟨fun σ' H' => ∃ dd, σ' = [some (.ref t), some (.ref dd), none] ∧ Same H H' ∧ H dd = none ∧ H' dd = some (.lst ((0 :: (encS m ++ (encL (r.map bMk) ++ bBe bh))).map vi)), ?_, ?_⟩
      · have hC0 := Same.none (Same.tr s1 (Same.tr s2 (Same.tr s3 (Same.tr s4 s5)))) hC4
        cases bh with
        | none =>
          have hb : bx = .non := hb
          subst hb
          refine ⟨_, rfl, t, _, 3, .non, rfl, rfl, SqT.of ((Same.tr s1 (Same.tr s2 (Same.tr s3 (Same.tr s4 (Same.tr s5 s6))))) _ _ ht), rfl, _, rfl, iteT ?_⟩
          refine ⟨_, rfl, .inl ⟨rfl, _, SqL.of gC4⟩, C4, _, _, rfl, rfl, gC4, Nat.lt_of_le_of_lt (show _ ≤ 600000 by rw [List.length_map]; simp only [bDe, List.length_append, List.length_cons, List.length_nil] at hl ⊢; omega) (by decide), ?_⟩
          exact ⟨C4, rfl, fun z o h => by rw [upd_ne (ne_of_none h hC0)]; exact (Same.tr s1 (Same.tr s2 (Same.tr s3 (Same.tr s4 (Same.tr s5 s6))))) _ _ h, hC0, by rw [upd_same]; simp [bBe] <;> rfl⟩
        | some mb =>
          have hb : MarkAt H mb bx := hb
          obtain ⟨tb, hb1, hb2⟩ := id hb.2
          subst hb1
          refine ⟨_, rfl, t, _, 3, .ref tb, rfl, rfl, SqT.of ((Same.tr s1 (Same.tr s2 (Same.tr s3 (Same.tr s4 (Same.tr s5 s6))))) _ _ ht), rfl, _, rfl, iteF ?_⟩
          refine ⟨_, rfl, by show 1 ≤ sizeLine; decide, fun L5 hL5 => ?_⟩
          have s7 := same_upd (o := (.lst [.int 1])) hL5
          have gL5 : upd H6 L5 (.lst [.int 1]) L5 = some (.lst (([1] : List Nat).map vi)) := upd_same
          generalize upd H6 L5 (.lst [.int 1]) = H7 at s7 gL5 ⊢
          refine ⟨C4, L5, _, _, rfl, rfl, (s7 _ _ gC4), gL5, cat_fits (by simp only [bDe, List.length_append, List.length_cons, List.length_nil] at hl ⊢; omega), fun C6 hC6 => ?_⟩
          have s8 := same_upd (o := (.lst (((([0] : List Nat) ++ (encS m)) ++ (encL (r.map bMk))).map vi ++ ([1] : List Nat).map vi))) hC6
          have gC6 : upd H7 C6 (.lst (((([0] : List Nat) ++ (encS m)) ++ (encL (r.map bMk))).map vi ++ ([1] : List Nat).map vi)) C6 = some (.lst ((((([0] : List Nat) ++ (encS m)) ++ (encL (r.map bMk))) ++ ([1] : List Nat)).map vi)) := by rw [upd_same]; exact congrArg (fun z => some (HO.lst z)) List.map_append.symm
          generalize upd H7 C6 (.lst (((([0] : List Nat) ++ (encS m)) ++ (encL (r.map bMk))).map vi ++ ([1] : List Nat).map vi)) = H8 at s8 gC6 ⊢
          refine ⟨_, rfl, t, _, 3, .ref tb, rfl, rfl, SqT.of ((Same.tr s1 (Same.tr s2 (Same.tr s3 (Same.tr s4 (Same.tr s5 (Same.tr s6 (Same.tr s7 s8))))))) _ _ ht), rfl, _, mb, rfl, (hb.keep (tkS (Same.tr s1 (Same.tr s2 (Same.tr s3 (Same.tr s4 (Same.tr s5 (Same.tr s6 (Same.tr s7 s8))))))))), (by simp only [bBe, List.length_cons] at lb; omega), fun p9 H9 s9 hp9 h9 => ?_⟩
          refine ⟨C6, p9, _, _, rfl, rfl, (s9 _ _ gC6), h9, cat_fits (by simp only [bDe, bBe, List.length_append, List.length_cons, List.length_nil] at hl ⊢; omega), fun C7 hC7 => ?_⟩
          have s10 := same_upd (o := (.lst ((((([0] : List Nat) ++ (encS m)) ++ (encL (r.map bMk))) ++ ([1] : List Nat)).map vi ++ (bMk mb).map vi))) hC7
          have gC7 : upd H9 C7 (.lst ((((([0] : List Nat) ++ (encS m)) ++ (encL (r.map bMk))) ++ ([1] : List Nat)).map vi ++ (bMk mb).map vi)) C7 = some (.lst (((((([0] : List Nat) ++ (encS m)) ++ (encL (r.map bMk))) ++ ([1] : List Nat)) ++ (bMk mb)).map vi)) := by rw [upd_same]; exact congrArg (fun z => some (HO.lst z)) List.map_append.symm
          generalize upd H9 C7 (.lst ((((([0] : List Nat) ++ (encS m)) ++ (encL (r.map bMk))) ++ ([1] : List Nat)).map vi ++ (bMk mb).map vi)) = H10 at s10 gC7 ⊢
          exact ⟨C7, rfl, (Same.tr s1 (Same.tr s2 (Same.tr s3 (Same.tr s4 (Same.tr s5 (Same.tr s6 (Same.tr s7 (Same.tr s8 (Same.tr s9 s10))))))))), Same.none (Same.tr s1 (Same.tr s2 (Same.tr s3 (Same.tr s4 (Same.tr s5 (Same.tr s6 (Same.tr s7 (Same.tr s8 s9)))))))) hC7, by rw [gC7]; simp [bBe]⟩
      rintro σ' H1 ⟨dd, rfl, s1, hdd, gdd⟩
      refine ⟨_, rfl, _, rfl, t, _, 4, vi n, rfl, rfl, SqT.of (s1 _ _ ht), rfl, n, rfl, enc_le _ hn, fun p2 H2 s2 hp2 h2 => ?_⟩
      refine ⟨dd, p2, _, _, rfl, rfl, (s2 _ _ gdd), h2, cat_fits (by simp only [bDe, List.length_append, List.length_cons, List.length_nil] at hl ⊢; omega), fun C51 hC51 => ?_⟩
      have s3 := same_upd (o := (.lst ((0 :: (encS m ++ (encL (r.map bMk) ++ bBe bh))).map vi ++ (enc n).map vi))) hC51
      have gC51 : upd H2 C51 (.lst ((0 :: (encS m ++ (encL (r.map bMk) ++ bBe bh))).map vi ++ (enc n).map vi)) C51 = some (.lst (((0 :: (encS m ++ (encL (r.map bMk) ++ bBe bh))) ++ (enc n)).map vi)) := by rw [upd_same]; exact congrArg (fun z => some (HO.lst z)) List.map_append.symm
      generalize upd H2 C51 (.lst ((0 :: (encS m ++ (encL (r.map bMk) ++ bBe bh))).map vi ++ (enc n).map vi)) = H3 at s3 gC51 ⊢
      refine ⟨_, rfl, t, _, 5, .str (S l), rfl, rfl, SqT.of ((Same.tr s1 (Same.tr s2 s3)) _ _ ht), rfl, _, l, rfl, ⟨rfl, hll⟩, lt, fun p4 H4 s4 hp4 h4 => ?_⟩
      refine ⟨C51, p4, _, _, rfl, rfl, (s4 _ _ gC51), h4, cat_fits (by simp only [bDe, List.length_append, List.length_cons, List.length_nil] at hl ⊢; omega), fun C52 hC52 => ?_⟩
      have s5 := same_upd (o := (.lst (((0 :: (encS m ++ (encL (r.map bMk) ++ bBe bh))) ++ (enc n)).map vi ++ (encS l).map vi))) hC52
      have gC52 : upd H4 C52 (.lst (((0 :: (encS m ++ (encL (r.map bMk) ++ bBe bh))) ++ (enc n)).map vi ++ (encS l).map vi)) C52 = some (.lst ((((0 :: (encS m ++ (encL (r.map bMk) ++ bBe bh))) ++ (enc n)) ++ (encS l)).map vi)) := by rw [upd_same]; exact congrArg (fun z => some (HO.lst z)) List.map_append.symm
      generalize upd H4 C52 (.lst (((0 :: (encS m ++ (encL (r.map bMk) ++ bBe bh))) ++ (enc n)).map vi ++ (encS l).map vi)) = H5 at s5 gC52 ⊢
      exact qq C52 H5 (Same.tr s1 (Same.tr s2 (Same.tr s3 (Same.tr s4 s5)))) (Same.none (Same.tr s1 (Same.tr s2 (Same.tr s3 s4))) hC52) (by rw [gC52]; simp [bDe])
end
end Q40
namespace Q40
open PySem PySem.Spec PyProof.Rows L2 SX HL NM DM
section
variable {P : Program} {w : World} {K : PySem.W.Frag} {mg : Str → Option Value} {base : Heap}
theorem ok_lawTriples {k : Nat} (Z : Defs K mg) : FnOk P w K mg base CX0 (k + 5) Z.fLawTriplesBytes Z.fdLawTriplesBytes ["triples"] (spWr (LstsAt TriAt) fun ts => encL (ts.map bTri)) := by
  have GLawNumber : FnOk P w K mg base CX0 (k + 4) Z.fLawNumber Z.fdLawNumber ["number"] spNum := (ok_lawNumber (k := 0) Z).mono (by omega)
  have GLawListed : FnOk P w K mg base CX0 (k + 4) Z.fLawListed Z.fdLawListed ["parts"] (spWr LstAt encL) := (ok_lawListed (k := 0) Z).mono (by omega)
  have GLawDeedBytes : FnOk P w K mg base CX0 (k + 4) Z.fLawDeedBytes Z.fdLawDeedBytes ["deed"] (spWr DeAt bDe) := (ok_lawDeed (k := 0) Z).mono (by omega)
  refine Z.DLawTriplesBytes.F.ok scLawTriplesBytes (fun vs H Q E h => ?_) (fun cdv A outer s H vs Q E hr h => ?_)
  · obtain ⟨x, d, rfl, _⟩ := h
    rfl
  · obtain ⟨x, d, rfl, hR, hl, qq⟩ := h
    refine ⟨_, (pss_one (ps_ret (pe_call GLawListed (hr.mono (by omega)) (by rfl) Z.DLawListed.g Z.DLawListed.F.kp Z.DLawListed.b .nil pass0 (pa_cons (pe_lc (own := [("replica", 1), ("place", 2), ("deed", 3)]) (g := (gTup K 3 (gCons (gName 1) (gCons (gName 2) (gCons (gName 3) gNil))))) (by rfl) scLawTriplesBytes.nd (ET.pi_listK (K := K) rfl (pv 0)) (blkOk_by (own := [("replica", 1), ("place", 2), ("deed", 3)]) (N := ["triples", "replica", "place", "deed"]) (sc := defScope sLawTriplesBytes) (by decide +kernel)) (fun _ _ _ _ _ => (pg_tup rfl (pgs_cons (pg_name (i := 1) scLawTriplesBytes.nd rfl (.inl rfl)) (pgs_cons (pg_name (i := 2) scLawTriplesBytes.nd rfl (.inl rfl)) (pgs_cons (pg_name (i := 3) scLawTriplesBytes.nd rfl (.inl rfl)) pgs_nil))))) (fun _ _ _ _ _ => pts_nil) (fun _ _ _ _ _ => (pe_op op_cat (pe_op op_cat (pe_call GLawNumber (hr.mono (by omega)) (by rfl) Z.DLawNumber.g Z.DLawNumber.F.kp Z.DLawNumber.b .nil pass0 (pa_cons (pv 1) pa_nil)) (pe_call GLawNumber (hr.mono (by omega)) (by rfl) Z.DLawNumber.g Z.DLawNumber.F.kp Z.DLawNumber.b .nil pass0 (pa_cons (pv 2) pa_nil))) (pe_call GLawDeedBytes (hr.mono (by omega)) (by rfl) Z.DLawDeedBytes.g Z.DLawDeedBytes.F.kp Z.DLawDeedBytes.b .nil pass0 (pa_cons (pv 3) pa_nil))))) pa_nil)))), ?_⟩
    obtain ⟨q, us, rfl, hq, hul, hus⟩ := hR
    refine ⟨_, rfl, q, rfl, ⟨_, SqL.of hq⟩, fun D1 hD1 => ?_⟩
    refine lc_it walk_list (fun i H' => Same H H' ∧ ∃ acc, H' D1 = some (.lst acc) ∧ acc.length = i ∧ All2 (fun u b => LsAt H' u b ∧ u ≠ .ref D1) acc ((d.take i).map bTri)) ⟨same_upd hD1, [], upd_same, rfl, .nil⟩ (fun i H' _ p => SqL.of (p.1 _ _ hq)) ?_ ?_
    · rintro i x Hz H100 hi ⟨t1, acc, hA1, hal, hacc⟩ ⟨rfl, hx⟩
      obtain ⟨d', hd', hR⟩ := hus.get hx
      have hR := hR.keep (tkS (Same.tr (Same.refl _) t1))
      have hi2 : i ≤ 600000 := Nat.le_of_lt (Nat.lt_of_lt_of_le (show i < us.length from hi) (by omega))
      have hl : (bTri d').length ≤ 500000 := len_memL (List.mem_of_getElem? hd') (by exact hl)
      obtain ⟨k1, k2, ta, dx, rfl, k3, k4⟩ := hR
      refine ⟨ta, _, rfl, SqT.of k3, rfl, _, _, rfl, _, _, rfl, _, _, rfl, rfl, rfl, lc_yes ?_⟩
      refine ⟨_, rfl, d'.1, rfl, enc_le _ k1, fun p101 H101 s101 hp101 h101 => ?_⟩
      refine ⟨_, rfl, d'.2.1, rfl, enc_le _ k2, fun p102 H102 s102 hp102 h102 => ?_⟩
      refine ⟨p101, p102, _, _, rfl, rfl, (s102 _ _ h101), h102, cat_fits (by simp only [bTri, List.length_append, List.length_cons, List.length_nil] at hl ⊢; omega), fun C101 hC101 => ?_⟩
      have s103 := same_upd (o := (.lst ((enc d'.1).map vi ++ (enc d'.2.1).map vi))) hC101
      have gC101 : upd H102 C101 (.lst ((enc d'.1).map vi ++ (enc d'.2.1).map vi)) C101 = some (.lst (((enc d'.1) ++ (enc d'.2.1)).map vi)) := by rw [upd_same]; exact congrArg (fun z => some (HO.lst z)) List.map_append.symm
      generalize upd H102 C101 (.lst ((enc d'.1).map vi ++ (enc d'.2.1).map vi)) = H103 at s103 gC101 ⊢
      refine ⟨_, rfl, dx, d'.2.2, rfl, (k4.keep (tkS (Same.tr s101 (Same.tr s102 s103)))), (by simp only [bTri, List.length_append] at hl; omega), fun p104 H104 s104 hp104 h104 => ?_⟩
      refine ⟨C101, p104, _, _, rfl, rfl, (s104 _ _ gC101), h104, cat_fits (by simp only [bTri, List.length_append, List.length_cons, List.length_nil] at hl ⊢; omega), fun C102 hC102 => ?_⟩
      have s105 := same_upd (o := (.lst (((enc d'.1) ++ (enc d'.2.1)).map vi ++ (bDe d'.2.2).map vi))) hC102
      have gC102 : upd H104 C102 (.lst (((enc d'.1) ++ (enc d'.2.1)).map vi ++ (bDe d'.2.2).map vi)) C102 = some (.lst ((((enc d'.1) ++ (enc d'.2.1)) ++ (bDe d'.2.2)).map vi)) := by rw [upd_same]; exact congrArg (fun z => some (HO.lst z)) List.map_append.symm
      generalize upd H104 C102 (.lst (((enc d'.1) ++ (enc d'.2.1)).map vi ++ (bDe d'.2.2).map vi)) = H105 at s105 gC102 ⊢
      have hA2 := (Same.tr s101 (Same.tr s102 (Same.tr s103 (Same.tr s104 s105)))) _ _ hA1
      have n2 : C102 ≠ D1 := (ne_of_none ((Same.tr s101 (Same.tr s102 (Same.tr s103 s104))) _ _ hA1) hC102).symm
      refine ⟨acc, hA2, Nat.lt_of_le_of_lt (show _ ≤ 600000 by omega) (by decide), fun z o h => by rw [upd_ne (ne_of_none h hD1)]; exact (Same.tr s101 (Same.tr s102 (Same.tr s103 (Same.tr s104 s105)))) _ _ (t1 _ _ h), acc ++ [.ref C102], upd_same, by rw [List.length_append, hal]; rfl, ?_⟩
      rw [take_snoc hd', List.map_append]
      exact (lsts_keep (Same.tr s101 (Same.tr s102 (Same.tr s103 (Same.tr s104 s105)))) hacc).app (.one ⟨⟨C102, rfl, by rw [upd_ne n2, gC102]; simp [bTri]⟩, fun e => n2 (V.ref.inj e)⟩)
    rintro H1 ⟨s1, accD1, gD1, halD1, haccD1⟩
    have halD1 : accD1.length = us.length := halD1
    rw [hus.len, List.take_length] at haccD1
    have lsD1 : LstAt H1 (d.map bTri) (.ref D1) := ⟨D1, accD1, rfl, gD1, by omega, lsts_keep0 (Same.refl _) haccD1⟩
    exact ⟨.ref D1, _, rfl, lsD1, hl, fun p H' s hp h => qq p H' (Same.tr s1 s) (Same.none s1 hp) h⟩
theorem ok_lawKind {k : Nat} (Z : Defs K mg) : FnOk P w K mg base CX0 (k + 4) Z.fLawKindBytes Z.fdLawKindBytes ["kind"] (spWr KdAt bK) := by
  have GLawNumber : FnOk P w K mg base CX0 (k + 3) Z.fLawNumber Z.fdLawNumber ["number"] spNum := (ok_lawNumber (k := 0) Z).mono (by omega)
  have GLawString : FnOk P w K mg base CX0 (k + 3) Z.fLawString Z.fdLawString ["text"] (spWr TxtAt encS) := (ok_lawString (k := 0) Z).mono (by omega)
  refine Z.DLawKindBytes.F.ok scLawKindBytes (fun vs H Q E h => ?_) (fun cdv A outer s H vs Q E hr h => ?_)
  · obtain ⟨x, d, rfl, _⟩ := h
    rfl
  · obtain ⟨x, d, rfl, hR, hl, qq⟩ := h
    refine ⟨_, (pss_cons (ps_if (pt_cmpR op_in_seq (pe_ix ix_tup (pv 0) pe_int (fun _ _ => rfl)) (pe_lst (pa_cons pe_str (pa_cons pe_str (pa_cons pe_str pa_nil)))) rfl) (pss_one (ps_ret (pe_op op_cat (pe_call GLawNumber (hr.mono (by omega)) (by rfl) Z.DLawNumber.g Z.DLawNumber.F.kp Z.DLawNumber.b .nil pass0 (pa_cons (pe_ix ix_tup (pv 0) pe_int (fun _ _ => rfl)) pa_nil)) (pe_lst (pa_cons (pe_bm PySem.F.plainAttrs_list PySem.F.slot_list_index PySem.F.type_list_index mt_index (pe_lst (pa_cons pe_str (pa_cons pe_str (pa_cons pe_str pa_nil)))) (pa_cons (pe_ix ix_tup (pv 0) pe_int (fun _ _ => rfl)) pa_nil)) pa_nil))))) pss_nil)
        (pss_one (ps_ret (pe_op op_cat (pe_op op_cat (pe_call GLawNumber (hr.mono (by omega)) (by rfl) Z.DLawNumber.g Z.DLawNumber.F.kp Z.DLawNumber.b .nil pass0 (pa_cons (pe_ix ix_tup (pv 0) pe_int (fun _ _ => rfl)) pa_nil)) (pe_lst (pa_cons pe_int pa_nil))) (pe_call GLawString (hr.mono (by omega)) (by rfl) Z.DLawString.g Z.DLawString.F.kp Z.DLawString.b .nil pass0 (pa_cons (pe_ix ix_tup (pv 0) pe_int (fun _ _ => rfl)) pa_nil)))))), ?_⟩
    obtain ⟨k1, k2, t, rfl, ht⟩ := hR
    obtain ⟨n, l⟩ := d
    refine ⟨_, rfl, t, _, 1, .str (S l), rfl, rfl, SqT.of ht, rfl, ?_⟩
    have three : ([.str "num", .str "text", .str "bool"] : List V) = (["num", "text", "bool"] : List Str).map V.str := rfl
    refine ⟨by show 3 ≤ sizeLine; decide, fun N hN => ?_⟩
    have s1 := same_upd (o := .lst [.str "num", .str "text", .str "bool"]) hN
    have gN : upd H N (.lst [.str "num", .str "text", .str "bool"]) N = some (.lst [.str "num", .str "text", .str "bool"]) := upd_same
    generalize upd H N (.lst [.str "num", .str "text", .str "bool"]) = H1 at s1 gN ⊢
    by_cases c : l = NUM ∨ l = TEXT ∨ l = BOOL
    · obtain ⟨i, hi, hB, hno⟩ : ∃ i : Nat, ([.str "num", .str "text", .str "bool"] : List V)[i]? = some (.str (S l)) ∧ bB l = [i] ∧ ∀ (m : Nat) (z' : V), m < i → ([.str "num", .str "text", .str "bool"] : List V)[m]? = some z' → eqV z' (.str (S l)) = false := by
        rcases c with rfl | rfl | rfl
        · exact ⟨0, rfl, by decide +kernel, fun m z hm => absurd hm (Nat.not_lt_zero _)⟩
        · exact ⟨1, rfl, by decide +kernel, fun m z hm hz => by
            have : m = 0 := by omega
            subst this; cases hz; decide +kernel⟩
        · exact ⟨2, rfl, by decide +kernel, fun m z hm hz => by
            have : m = 0 ∨ m = 1 := by omega
            rcases this with rfl | rfl <;> cases hz <;> decide +kernel⟩
      have hin : inV (.str (S l)) [.str "num", .str "text", .str "bool"] = true := by rcases c with rfl | rfl | rfl <;> decide +kernel
      refine ⟨N, _, rfl, .inl (SqL.of gN), rfl, rfl, _, rfl, iteYes hin ?_⟩
      refine ⟨_, rfl, t, _, 0, vi n, rfl, rfl, SqT.of (s1 _ _ ht), rfl, n, rfl, enc_le _ k1, fun p2 H2 s2 hp2 h2 => ?_⟩
      refine ⟨by show 3 ≤ sizeLine; decide, fun M hM => ?_⟩
      have s3 := same_upd (o := (.lst [.str "num", .str "text", .str "bool"])) hM
      have gM : upd H2 M (.lst [.str "num", .str "text", .str "bool"]) M = some (.lst [.str "num", .str "text", .str "bool"]) := upd_same
      generalize upd H2 M (.lst [.str "num", .str "text", .str "bool"]) = H3 at s3 gM ⊢
      have hq1 : eqV (.str (S l)) (.str (S l)) = true := by simp [eqV]
      refine ⟨.inl ⟨rfl, _, SqL.of gM⟩, _, rfl, t, _, 1, .str (S l), rfl, rfl, SqT.of ((Same.tr s1 (Same.tr s2 s3)) _ _ ht), rfl, M, _, .str (S l), i, .str (S l), rfl, rfl, SqL.of gM, rfl, rfl, hi, hq1, hno, by show 1 ≤ sizeLine; decide, fun J hJ => ?_⟩
      have s4 := same_upd (o := (.lst [.int (i : Int)])) hJ
      have gJ : upd H3 J (.lst [.int (i : Int)]) J = some (.lst (([i] : List Nat).map vi)) := upd_same
      generalize upd H3 J (.lst [.int (i : Int)]) = H4 at s4 gJ ⊢
      refine ⟨p2, J, _, _, rfl, rfl, ((Same.tr s3 s4) _ _ h2), gJ, cat_fits (by simp only [bK, hB, List.length_append, List.length_cons, List.length_nil] at hl ⊢; omega), fun C1 hC1 => ?_⟩
      have s5 := same_upd (o := (.lst ((enc n).map vi ++ ([i] : List Nat).map vi))) hC1
      have gC1 : upd H4 C1 (.lst ((enc n).map vi ++ ([i] : List Nat).map vi)) C1 = some (.lst (((enc n) ++ ([i] : List Nat)).map vi)) := by rw [upd_same]; exact congrArg (fun z => some (HO.lst z)) List.map_append.symm
      generalize upd H4 C1 (.lst ((enc n).map vi ++ ([i] : List Nat).map vi)) = H5 at s5 gC1 ⊢
      exact qq C1 H5 (Same.tr s1 (Same.tr s2 (Same.tr s3 (Same.tr s4 s5)))) (Same.none (Same.tr s1 (Same.tr s2 (Same.tr s3 s4))) hC1) (by rw [gC1]; simp [bK, hB])
    · have hB : bB l = 3 :: encS l := by unfold bB; rw [if_neg (fun z => c (.inl z)), if_neg (fun z => c (.inr (.inl z))), if_neg (fun z => c (.inr (.inr z)))]
      have hin : ¬ inV (.str (S l)) [.str "num", .str "text", .str "bool"] = true := fun z => c (by
        have hh : ∀ q : Str, (S l = q) → l = q.cps.toList := fun q e => by rw [← e]
        simp [inV, eqV] at z
        rcases z with z | z | z
        · exact .inl (hh _ z.symm)
        · exact .inr (.inl (hh _ z.symm))
        · exact .inr (.inr (hh _ z.symm)))
      refine ⟨N, _, rfl, .inl (SqL.of gN), rfl, rfl, _, rfl, iteNo hin ?_⟩
      refine ⟨_, rfl, t, _, 0, vi n, rfl, rfl, SqT.of (s1 _ _ ht), rfl, n, rfl, enc_le _ k1, fun p2 H2 s2 hp2 h2 => ?_⟩
      refine ⟨by show 1 ≤ sizeLine; decide, fun L2 hL2 => ?_⟩
      have s3 := same_upd (o := (.lst [.int 3])) hL2
      have gL2 : upd H2 L2 (.lst [.int 3]) L2 = some (.lst (([3] : List Nat).map vi)) := upd_same
      generalize upd H2 L2 (.lst [.int 3]) = H3 at s3 gL2 ⊢
      refine ⟨p2, L2, _, _, rfl, rfl, (s3 _ _ h2), gL2, cat_fits (by simp only [bK, hB, List.length_append, List.length_cons, List.length_nil] at hl ⊢; omega), fun C3 hC3 => ?_⟩
      have s4 := same_upd (o := (.lst ((enc n).map vi ++ ([3] : List Nat).map vi))) hC3
      have gC3 : upd H3 C3 (.lst ((enc n).map vi ++ ([3] : List Nat).map vi)) C3 = some (.lst (((enc n) ++ ([3] : List Nat)).map vi)) := by rw [upd_same]; exact congrArg (fun z => some (HO.lst z)) List.map_append.symm
      generalize upd H3 C3 (.lst ((enc n).map vi ++ ([3] : List Nat).map vi)) = H4 at s4 gC3 ⊢
      refine ⟨_, rfl, t, _, 1, .str (S l), rfl, rfl, SqT.of ((Same.tr s1 (Same.tr s2 (Same.tr s3 s4))) _ _ ht), rfl, _, l, rfl, ⟨rfl, k2⟩, (by simp only [bK, hB, List.length_append, List.length_cons] at hl; omega), fun p5 H5 s5 hp5 h5 => ?_⟩
      refine ⟨C3, p5, _, _, rfl, rfl, (s5 _ _ gC3), h5, cat_fits (by simp only [bK, hB, List.length_append, List.length_cons, List.length_nil] at hl ⊢; omega), fun C4 hC4 => ?_⟩
      have s6 := same_upd (o := (.lst (((enc n) ++ ([3] : List Nat)).map vi ++ (encS l).map vi))) hC4
      have gC4 : upd H5 C4 (.lst (((enc n) ++ ([3] : List Nat)).map vi ++ (encS l).map vi)) C4 = some (.lst ((((enc n) ++ ([3] : List Nat)) ++ (encS l)).map vi)) := by rw [upd_same]; exact congrArg (fun z => some (HO.lst z)) List.map_append.symm
      generalize upd H5 C4 (.lst (((enc n) ++ ([3] : List Nat)).map vi ++ (encS l).map vi)) = H6 at s6 gC4 ⊢
      exact qq C4 H6 (Same.tr s1 (Same.tr s2 (Same.tr s3 (Same.tr s4 (Same.tr s5 s6))))) (Same.none (Same.tr s1 (Same.tr s2 (Same.tr s3 (Same.tr s4 s5)))) hC4) (by rw [gC4]; simp [bK, hB])
theorem lvalue_step {k n : Nat} (hk : 3 ≤ k) (Z : Defs K mg) (GLawValueBytes : FnOk P w K mg base CX0 k Z.fLawValueBytes Z.fdLawValueBytes ["value"] (spWr (fun H v x => VaAt H n v x) (bV n))) : FnOk P w K mg base CX0 (k + 1) Z.fLawValueBytes Z.fdLawValueBytes ["value"] (spWr (fun H v x => VaAt H (n + 1) v x) (bV (n + 1))) := by
  have GLawNumber : FnOk P w K mg base CX0 1 Z.fLawNumber Z.fdLawNumber ["number"] spNum := ok_lawNumber (k := 0) Z
  have GLawString : FnOk P w K mg base CX0 3 Z.fLawString Z.fdLawString ["text"] (spWr TxtAt encS) := ok_lawString (k := 0) Z
  have GLawListed : FnOk P w K mg base CX0 2 Z.fLawListed Z.fdLawListed ["parts"] (spWr LstAt encL) := ok_lawListed (k := 0) Z
  refine Z.DLawValueBytes.F.ok scLawValueBytes (fun vs H Q E h => ?_) (fun cdv A outer s H vs Q E hr h => ?_)
  · obtain ⟨x, d, rfl, _⟩ := h
    rfl
  · obtain ⟨x, d, rfl, hx, hl, qq⟩ := h
    refine ⟨_, (pss_cons (ps_if (pt_val (pe_callB call_isB (by rfl) Z.isinstance HL.boot_isinstance (pa_cons (pv 0) (pa_cons (pe_bltn (v := .ty "bool") (by rfl) Z.bool HL.boot_bool rfl) pa_nil)))) (pss_one (ps_ret (pe_lst (pa_cons pe_int (pa_cons (pe_callTy call_int1 (by rfl) Z.int HL.boot_int (pa_cons (pv 0) pa_nil)) pa_nil))))) pss_nil)
        (pss_cons (ps_if (pt_val (pe_callB call_isB (by rfl) Z.isinstance HL.boot_isinstance (pa_cons (pv 0) (pa_cons (pe_bltn (v := .ty "int") (by rfl) Z.int HL.boot_int rfl) pa_nil)))) (pss_one (ps_ret (pe_op op_cat (pe_lst (pa_cons pe_int (pa_cons (pe_callTy call_int1 (by rfl) Z.int HL.boot_int (pa_cons (pe_cmpR op_lt (pv 0) pe_int (nomark _)) pa_nil)) pa_nil))) (pe_call GLawNumber (hr.mono (by omega)) (by rfl) Z.DLawNumber.g Z.DLawNumber.F.kp Z.DLawNumber.b .nil pass0 (pa_cons (pe_callB call_abs (by rfl) Z.abs (by decide +kernel) (pa_cons (pv 0) pa_nil)) pa_nil))))) pss_nil)
        (pss_cons (ps_if (pt_val (pe_callB call_isB (by rfl) Z.isinstance HL.boot_isinstance (pa_cons (pv 0) (pa_cons (pe_bltn (v := .ty "str") (by rfl) Z.str HL.boot_str rfl) pa_nil)))) (pss_one (ps_ret (pe_op op_cat (pe_lst (pa_cons pe_int pa_nil)) (pe_call GLawString (hr.mono (by omega)) (by rfl) Z.DLawString.g Z.DLawString.F.kp Z.DLawString.b .nil pass0 (pa_cons (pv 0) pa_nil))))) pss_nil)
        (pss_cons (ps_if (pt_cmpR op_eq (pe_ix ix_seq (pv 0) pe_int (fun _ _ => rfl)) pe_str (nomark _)) (pss_one (ps_ret (pe_op op_cat (pe_lst (pa_cons pe_int pa_nil)) (pe_call GLawListed (hr.mono (by omega)) (by rfl) Z.DLawListed.g Z.DLawListed.F.kp Z.DLawListed.b .nil pass0 (pa_cons (pe_lc (own := [("item", 1)]) (g := (gName 1)) (by rfl) scLawValueBytes.nd (HK.pi_tupK (K := K) rfl (pe_ix (HX.ix_seqK (K := K) rfl) (pv 0) pe_int (fun _ _ => rfl))) (blkOk_by (own := [("item", 1)]) (N := ["value", "item"]) (sc := defScope sLawValueBytes) (by decide +kernel)) (fun _ _ _ _ _ => (pg_name (i := 1) scLawValueBytes.nd rfl (Or.inl rfl))) (fun _ _ _ _ _ => pts_nil) (fun _ _ _ _ _ => (pe_call GLawValueBytes (hr.mono (by omega)) (by rfl) Z.DLawValueBytes.g Z.DLawValueBytes.F.kp Z.DLawValueBytes.b .nil pass0 (pa_cons (pv 1) pa_nil)))) pa_nil))))) pss_nil)
        (pss_one (ps_ret (pe_op op_cat (pe_op op_cat (pe_lst (pa_cons pe_int pa_nil)) (pe_call GLawString (hr.mono (by omega)) (by rfl) Z.DLawString.g Z.DLawString.F.kp Z.DLawString.b .nil pass0 (pa_cons (pe_ix ix_seq (pv 0) pe_int (fun _ _ => rfl)) pa_nil))) (pe_call GLawListed (hr.mono (by omega)) (by rfl) Z.DLawListed.g Z.DLawListed.F.kp Z.DLawListed.b .nil pass0 (pa_cons (pe_lc (own := [("item", 1)]) (g := (gName 1)) (by rfl) scLawValueBytes.nd (HK.pi_tupK (K := K) rfl (pe_ix (HX.ix_seqK (K := K) rfl) (pv 0) pe_int (fun _ _ => rfl))) (blkOk_by (own := [("item", 1)]) (N := ["value", "item"]) (sc := defScope sLawValueBytes) (by decide +kernel)) (fun _ _ _ _ _ => (pg_name (i := 1) scLawValueBytes.nd rfl (Or.inl rfl))) (fun _ _ _ _ _ => pts_nil) (fun _ _ _ _ _ => (pe_call GLawValueBytes (hr.mono (by omega)) (by rfl) Z.DLawValueBytes.g Z.DLawValueBytes.F.kp Z.DLawValueBytes.b .nil pass0 (pa_cons (pv 1) pa_nil)))) pa_nil))))))))), ?_⟩
    cases d with
    | bl c =>
      obtain rfl : x = _ := hx
      refine ⟨_, rfl, _, "bool", "bool", true, rfl, .base (.bl c), by decide +kernel, true, rfl, iteT ?_⟩
      refine ⟨_, rfl, .inr ⟨c, rfl, by show 2 ≤ sizeLine; decide, fun p hp => ?_⟩⟩
      exact qq p _ (same_upd hp) hp (by rw [upd_same]; cases c <;> rfl)
    | num i =>
      obtain ⟨rfl, hi⟩ := hx
      refine ⟨_, rfl, _, "int", "bool", false, rfl, .base (.int i), by decide +kernel, false, rfl, iteF ⟨_, rfl, _, "int", "int", true, rfl, .base (.int i), by decide +kernel, true, rfl, iteT ?_⟩⟩
      have hab : [V.int (if i < 0 then -i else i)] = [vi i.natAbs] := by
        by_cases h0 : i < 0
        · rw [if_pos h0]; exact congrArg (fun z => [V.int z]) (by omega)
        · rw [if_neg h0]; exact congrArg (fun z => [V.int z]) (by omega)
      refine ⟨_, rfl, i, 0, rfl, rfl, .inr ⟨_, rfl, by show 2 ≤ sizeLine; decide, fun N hN => ?_⟩⟩
      have s1 := same_upd (o := (.lst [.int 0, .int (if decide (i < 0) = true then 1 else 0)])) hN
      have gN : upd H N (.lst [.int 0, .int (if decide (i < 0) = true then 1 else 0)]) N = some (.lst (([0, (if i < 0 then 1 else 0)] : List Nat).map vi)) := by rw [upd_same]; by_cases h0 : i < 0 <;> simp [h0] <;> first | rfl | exact ⟨rfl, rfl⟩
      generalize upd H N (.lst [.int 0, .int (if decide (i < 0) = true then 1 else 0)]) = H1 at s1 gN ⊢
      refine ⟨_, rfl, i, rfl, i.natAbs, hab, enc_le _ hi, fun p2 H2 s2 hp2 h2 => ?_⟩
      refine ⟨N, p2, _, _, rfl, rfl, (s2 _ _ gN), h2, cat_fits (by simp only [bV, encI, List.length_append, List.length_cons, List.length_nil] at hl ⊢; omega), fun C1 hC1 => ?_⟩
      have s3 := same_upd (o := (.lst (([0, (if i < 0 then 1 else 0)] : List Nat).map vi ++ (enc i.natAbs).map vi))) hC1
      have gC1 : upd H2 C1 (.lst (([0, (if i < 0 then 1 else 0)] : List Nat).map vi ++ (enc i.natAbs).map vi)) C1 = some (.lst ((([0, (if i < 0 then 1 else 0)] : List Nat) ++ (enc i.natAbs)).map vi)) := by rw [upd_same]; exact congrArg (fun z => some (HO.lst z)) List.map_append.symm
      generalize upd H2 C1 (.lst (([0, (if i < 0 then 1 else 0)] : List Nat).map vi ++ (enc i.natAbs).map vi)) = H3 at s3 gC1 ⊢
      exact qq C1 H3 (Same.tr s1 (Same.tr s2 s3)) (Same.none (Same.tr s1 s2) hC1) (by rw [gC1]; simp [bV, encI])
    | txt l =>
      obtain ⟨rfl, hi⟩ := hx
      refine ⟨_, rfl, _, "str", "bool", false, rfl, .base (.str (S l)), by decide +kernel, false, rfl, iteF ⟨_, rfl, _, "str", "int", false, rfl, .base (.str (S l)), by decide +kernel, false, rfl, iteF ⟨_, rfl, _, "str", "str", true, rfl, .base (.str (S l)), by decide +kernel, true, rfl, iteT ?_⟩⟩⟩
      refine ⟨by show 1 ≤ sizeLine; decide, fun L1 hL1 => ?_⟩
      have s1 := same_upd (o := (.lst [.int 1])) hL1
      have gL1 : upd H L1 (.lst [.int 1]) L1 = some (.lst (([1] : List Nat).map vi)) := upd_same
      generalize upd H L1 (.lst [.int 1]) = H1 at s1 gL1 ⊢
      refine ⟨_, rfl, _, l, rfl, ⟨rfl, hi⟩, (by simp only [bV, List.length_cons] at hl; omega), fun p2 H2 s2 hp2 h2 => ?_⟩
      refine ⟨L1, p2, _, _, rfl, rfl, (s2 _ _ gL1), h2, cat_fits (by simp only [bV, List.length_append, List.length_cons, List.length_nil] at hl ⊢; omega), fun C2 hC2 => ?_⟩
      have s3 := same_upd (o := (.lst (([1] : List Nat).map vi ++ (encS l).map vi))) hC2
      have gC2 : upd H2 C2 (.lst (([1] : List Nat).map vi ++ (encS l).map vi)) C2 = some (.lst ((([1] : List Nat) ++ (encS l)).map vi)) := by rw [upd_same]; exact congrArg (fun z => some (HO.lst z)) List.map_append.symm
      generalize upd H2 C2 (.lst (([1] : List Nat).map vi ++ (encS l).map vi)) = H3 at s3 gC2 ⊢
      exact qq C2 H3 (Same.tr s1 (Same.tr s2 s3)) (Same.none (Same.tr s1 s2) hC2) (by rw [gC2]; simp [bV])
    | lst ps =>
      obtain ⟨t, q, us, rfl, h1, h2, h3, h4⟩ := hx
      refine ⟨_, rfl, _, "tuple", "bool", false, rfl, .base (.tup h1), by decide +kernel, false, rfl, iteF ⟨_, rfl, _, "tuple", "int", false, rfl, .base (.tup h1), by decide +kernel, false, rfl, iteF ⟨_, rfl, _, "tuple", "str", false, rfl, .base (.tup h1), by decide +kernel, false, rfl, iteF ?_⟩⟩⟩
      refine ⟨_, rfl, .inr (.inl ⟨t, _, 0, .str "list", rfl, rfl, SqT.of h1, rfl, rfl, _, rfl, iteYes (by decide +kernel) ?_⟩)⟩
      have lr : (encL (ps.map (bV n))).length ≤ 500000 := by simp only [bV, List.length_cons] at hl; omega
      refine ⟨by show 1 ≤ sizeLine; decide, fun L1 hL1 => ?_⟩
      have s1 := same_upd (o := (.lst [.int 3])) hL1
      have gL1 : upd H L1 (.lst [.int 3]) L1 = some (.lst (([3] : List Nat).map vi)) := upd_same
      generalize upd H L1 (.lst [.int 3]) = H1 at s1 gL1 ⊢
      refine ⟨_, rfl, .inr (.inl ⟨t, _, 1, .ref q, rfl, rfl, SqT.of (s1 _ _ h1), rfl, ?_⟩)⟩
      refine ⟨q, rfl, ⟨_, SqT.of (s1 _ _ h2)⟩, fun D2 hD2 => ?_⟩
      refine lc_it walk_tup (fun i H' => Same H1 H' ∧ ∃ acc, H' D2 = some (.lst acc) ∧ acc.length = i ∧ All2 (fun u b => LsAt H' u b ∧ u ≠ .ref D2) acc ((ps.take i).map (bV n))) ⟨same_upd hD2, [], upd_same, rfl, .nil⟩ (fun i H' _ p => SqT.of (p.1 _ _ (s1 _ _ h2))) ?_ ?_
      · rintro i x Hz G1 hi ⟨t1, acc, hA1, hal, hacc⟩ ⟨rfl, hx⟩
        obtain ⟨d', hd', hR⟩ := h4.get hx
        have hR := hR.keep (tkS (Same.tr s1 t1))
        have hi2 : i ≤ 600000 := Nat.le_of_lt (Nat.lt_of_lt_of_le (show i < us.length from hi) (by omega))
        refine ⟨rfl, lc_yes ⟨_, rfl, x, d', rfl, hR, len_memL (List.mem_of_getElem? hd') (by exact lr), fun p2 G2 t2 hp2 h2 => ?_⟩⟩
        have hA2 := t2 _ _ hA1
        have n2 : p2 ≠ D2 := (ne_of_none hA1 hp2).symm
        refine ⟨acc, hA2, Nat.lt_of_le_of_lt (show _ ≤ 600000 by omega) (by decide), fun z o h => by rw [upd_ne (ne_of_none h hD2)]; exact t2 _ _ (t1 _ _ h), acc ++ [.ref p2], upd_same, by rw [List.length_append, hal]; rfl, ?_⟩
        rw [take_snoc hd', List.map_append]
        exact (lsts_keep t2 hacc).app (.one ⟨⟨p2, rfl, by rw [upd_ne n2]; exact h2⟩, fun e => n2 (V.ref.inj e)⟩)
      rintro H2 ⟨s2, accD2, gD2, halD2, haccD2⟩
      have halD2 : accD2.length = us.length := halD2
      rw [h4.len, List.take_length] at haccD2
      have lsD2 : LstAt H2 (ps.map (bV n)) (.ref D2) := ⟨D2, accD2, rfl, gD2, by omega, lsts_keep0 (Same.refl _) haccD2⟩
      refine ⟨.ref D2, _, rfl, lsD2, lr, fun p3 H3 s3 hp3 h3 => ?_⟩
      refine ⟨L1, p3, _, _, rfl, rfl, ((Same.tr s2 s3) _ _ gL1), h3, cat_fits (by simp only [bV, List.length_append, List.length_cons, List.length_nil] at hl ⊢; omega), fun C3 hC3 => ?_⟩
      have s4 := same_upd (o := (.lst (([3] : List Nat).map vi ++ (encL (ps.map (bV n))).map vi))) hC3
      have gC3 : upd H3 C3 (.lst (([3] : List Nat).map vi ++ (encL (ps.map (bV n))).map vi)) C3 = some (.lst ((([3] : List Nat) ++ (encL (ps.map (bV n)))).map vi)) := by rw [upd_same]; exact congrArg (fun z => some (HO.lst z)) List.map_append.symm
      generalize upd H3 C3 (.lst (([3] : List Nat).map vi ++ (encL (ps.map (bV n))).map vi)) = H4 at s4 gC3 ⊢
      exact qq C3 H4 (Same.tr s1 (Same.tr s2 (Same.tr s3 s4))) (Same.none (Same.tr s1 (Same.tr s2 s3)) hC3) (by rw [gC3]; simp [bV])
    | mk m ps =>
      obtain ⟨h0, t, q, us, rfl, m1, h2q, m3, m4⟩ := hx
      refine ⟨_, rfl, _, "tuple", "bool", false, rfl, .base (.tup m1), by decide +kernel, false, rfl, iteF ⟨_, rfl, _, "tuple", "int", false, rfl, .base (.tup m1), by decide +kernel, false, rfl, iteF ⟨_, rfl, _, "tuple", "str", false, rfl, .base (.tup m1), by decide +kernel, false, rfl, iteF ?_⟩⟩⟩
      refine ⟨_, rfl, .inr (.inl ⟨t, _, 0, .str "make", rfl, rfl, SqT.of m1, rfl, rfl, _, rfl, iteNo (by decide +kernel) ?_⟩)⟩
      have lr : (encL (ps.map (bV n))).length ≤ 500000 := by simp only [bV, List.length_append, List.length_cons] at hl; omega
      refine ⟨by show 1 ≤ sizeLine; decide, fun L21 hL21 => ?_⟩
      have s1 := same_upd (o := (.lst [.int 4])) hL21
      have gL21 : upd H L21 (.lst [.int 4]) L21 = some (.lst (([4] : List Nat).map vi)) := upd_same
      generalize upd H L21 (.lst [.int 4]) = H1 at s1 gL21 ⊢
      refine ⟨_, rfl, .inr (.inl ⟨t, _, 1, .str (S m), rfl, rfl, SqT.of (s1 _ _ m1), rfl, ?_⟩)⟩
      refine ⟨_, m, rfl, ⟨rfl, h0⟩, (by simp only [bV, List.length_append, List.length_cons] at hl; omega), fun p2 H2 s2 hp2 h2 => ?_⟩
      refine ⟨L21, p2, _, _, rfl, rfl, (s2 _ _ gL21), h2, cat_fits (by simp only [bV, List.length_append, List.length_cons, List.length_nil] at hl ⊢; omega), fun C22 hC22 => ?_⟩
      have s3 := same_upd (o := (.lst (([4] : List Nat).map vi ++ (encS m).map vi))) hC22
      have gC22 : upd H2 C22 (.lst (([4] : List Nat).map vi ++ (encS m).map vi)) C22 = some (.lst ((([4] : List Nat) ++ (encS m)).map vi)) := by rw [upd_same]; exact congrArg (fun z => some (HO.lst z)) List.map_append.symm
      generalize upd H2 C22 (.lst (([4] : List Nat).map vi ++ (encS m).map vi)) = H3 at s3 gC22 ⊢
      refine ⟨_, rfl, .inr (.inl ⟨t, _, 2, .ref q, rfl, rfl, SqT.of ((Same.tr s1 (Same.tr s2 s3)) _ _ m1), rfl, ?_⟩)⟩
      refine ⟨q, rfl, ⟨_, SqT.of ((Same.tr s1 (Same.tr s2 s3)) _ _ h2q)⟩, fun D23 hD23 => ?_⟩
      refine lc_it walk_tup (fun i H' => Same H3 H' ∧ ∃ acc, H' D23 = some (.lst acc) ∧ acc.length = i ∧ All2 (fun u b => LsAt H' u b ∧ u ≠ .ref D23) acc ((ps.take i).map (bV n))) ⟨same_upd hD23, [], upd_same, rfl, .nil⟩ (fun i H' _ p => SqT.of (p.1 _ _ ((Same.tr s1 (Same.tr s2 s3)) _ _ h2q))) ?_ ?_
      · rintro i x Hz G1 hi ⟨t1, acc, hA1, hal, hacc⟩ ⟨rfl, hx⟩
        obtain ⟨d', hd', hR⟩ := m4.get hx
        have hR := hR.keep (tkS (Same.tr (Same.tr s1 (Same.tr s2 s3)) t1))
        have hi2 : i ≤ 600000 := Nat.le_of_lt (Nat.lt_of_lt_of_le (show i < us.length from hi) (by omega))
        refine ⟨rfl, lc_yes ⟨_, rfl, x, d', rfl, hR, len_memL (List.mem_of_getElem? hd') (by exact lr), fun p2 G2 t2 hp2 h2 => ?_⟩⟩
        have hA2 := t2 _ _ hA1
        have n2 : p2 ≠ D23 := (ne_of_none hA1 hp2).symm
        refine ⟨acc, hA2, Nat.lt_of_le_of_lt (show _ ≤ 600000 by omega) (by decide), fun z o h => by rw [upd_ne (ne_of_none h hD23)]; exact t2 _ _ (t1 _ _ h), acc ++ [.ref p2], upd_same, by rw [List.length_append, hal]; rfl, ?_⟩
        rw [take_snoc hd', List.map_append]
        exact (lsts_keep t2 hacc).app (.one ⟨⟨p2, rfl, by rw [upd_ne n2]; exact h2⟩, fun e => n2 (V.ref.inj e)⟩)
      rintro H4 ⟨s4, accD23, gD23, halD23, haccD23⟩
      have halD23 : accD23.length = us.length := halD23
      rw [m4.len, List.take_length] at haccD23
      have lsD23 : LstAt H4 (ps.map (bV n)) (.ref D23) := ⟨D23, accD23, rfl, gD23, by omega, lsts_keep0 (Same.refl _) haccD23⟩
      refine ⟨.ref D23, _, rfl, lsD23, lr, fun p5 H5 s5 hp5 h5 => ?_⟩
      refine ⟨C22, p5, _, _, rfl, rfl, ((Same.tr s4 s5) _ _ gC22), h5, cat_fits (by simp only [bV, List.length_append, List.length_cons, List.length_nil] at hl ⊢; omega), fun C24 hC24 => ?_⟩
      have s6 := same_upd (o := (.lst ((([4] : List Nat) ++ (encS m)).map vi ++ (encL (ps.map (bV n))).map vi))) hC24
      have gC24 : upd H5 C24 (.lst ((([4] : List Nat) ++ (encS m)).map vi ++ (encL (ps.map (bV n))).map vi)) C24 = some (.lst (((([4] : List Nat) ++ (encS m)) ++ (encL (ps.map (bV n)))).map vi)) := by rw [upd_same]; exact congrArg (fun z => some (HO.lst z)) List.map_append.symm
      generalize upd H5 C24 (.lst ((([4] : List Nat) ++ (encS m)).map vi ++ (encL (ps.map (bV n))).map vi)) = H6 at s6 gC24 ⊢
      exact qq C24 H6 (Same.tr s1 (Same.tr s2 (Same.tr s3 (Same.tr s4 (Same.tr s5 s6))))) (Same.none (Same.tr s1 (Same.tr s2 (Same.tr s3 (Same.tr s4 s5)))) hC24) (by rw [gC24]; simp [bV])
theorem ok_lawValue (Z : Defs K mg) : (n : Nat) → FnOk P w K mg base CX0 (n + 3) Z.fLawValueBytes Z.fdLawValueBytes ["value"] (spWr (fun H v x => VaAt H n v x) (bV n))
  | 0 => Z.DLawValueBytes.F.ok scLawValueBytes (fun vs H Q E h => (by obtain ⟨_, _, _, h, _⟩ := h; exact h.elim)) (fun cdv A outer s H vs Q E hr h => (by obtain ⟨_, _, _, h, _⟩ := h; exact h.elim))
  | n + 1 => lvalue_step (k := n + 3) (by omega) Z (ok_lawValue Z n)
end
end Q40
namespace Q40
open PySem PySem.Spec PyProof.Rows L2 SX HL NM DM
section
variable {P : Program} {w : World} {K : PySem.W.Frag} {mg : Str → Option Value} {base : Heap}
theorem ok_lawOutcome {k : Nat} (Z : Defs K mg) : FnOk P w K mg base CX0 (k + 44) Z.fLawOutcomeBytes Z.fdLawOutcomeBytes ["outcome"] (spWr OuAt bO) := by
  have GLawString : FnOk P w K mg base CX0 (k + 43) Z.fLawString Z.fdLawString ["text"] (spWr TxtAt encS) := (ok_lawString (k := 0) Z).mono (by omega)
  have GLawValueBytes : FnOk P w K mg base CX0 (k + 43) Z.fLawValueBytes Z.fdLawValueBytes ["value"] (spWr (fun H v x => VaAt H 40 v x) (bV 40)) := (ok_lawValue Z 40).mono (by omega)
  refine Z.DLawOutcomeBytes.F.ok scLawOutcomeBytes (fun vs H Q E h => ?_) (fun cdv A outer s H vs Q E hr h => ?_)
  · obtain ⟨x, d, rfl, _⟩ := h
    rfl
  · obtain ⟨x, d, rfl, hx, hl, qq⟩ := h
    refine ⟨_, (pss_cons (ps_if (pt_cmpR op_eq (pe_ix ix_tup (pv 0) pe_int (fun _ _ => rfl)) pe_str (nomark _)) (pss_one (ps_ret (pe_op op_cat (pe_lst (pa_cons pe_int pa_nil)) (pe_call GLawValueBytes (hr.mono (by omega)) (by rfl) Z.DLawValueBytes.g Z.DLawValueBytes.F.kp Z.DLawValueBytes.b .nil pass0 (pa_cons (pe_ix ix_tup (pv 0) pe_int (fun _ _ => rfl)) pa_nil))))) pss_nil)
        (pss_cons (ps_set (i := 1) scLawOutcomeBytes.nd rfl (.inl rfl) (pe_lst (pa_cons pe_str (pa_cons pe_str (pa_cons pe_str (pa_cons pe_str (pa_cons pe_str (pa_cons pe_str pa_nil))))))))
        (pss_cons (ps_set (i := 2) scLawOutcomeBytes.nd rfl (.inl rfl) (pe_lst (pa_cons pe_int (pa_cons (pe_bm PySem.F.plainAttrs_list PySem.F.slot_list_index PySem.F.type_list_index mt_index (pv 1) (pa_cons (pe_ix ix_tup (pe_ix ix_tup (pv 0) pe_int (fun _ _ => rfl)) pe_int (fun _ _ => rfl)) pa_nil)) pa_nil))))
        (C8.pss_cut (ps_if (pt_cmpR op_eq (pe_ix ix_tup (pe_ix ix_tup (pv 0) pe_int (fun _ _ => rfl)) pe_int (fun _ _ => rfl)) pe_str (nomark _)) (pss_one (ps_set (i := 2) scLawOutcomeBytes.nd rfl (.inl rfl) (pe_op op_cat (pv 2) (pe_call GLawString (hr.mono (by omega)) (by rfl) Z.DLawString.g Z.DLawString.F.kp Z.DLawString.b .nil pass0 (pa_cons (pe_ix ix_tup (pe_ix ix_tup (pv 0) pe_int (fun _ _ => rfl)) pe_int (fun _ _ => rfl)) pa_nil))))) pss_nil)
        (pss_one (ps_ret (pv 2))))))), ?_⟩
    cases d with
    | val v =>
      obtain ⟨t, y, rfl, ht, hv⟩ := hx
      refine ⟨_, rfl, t, _, 0, .str "value", rfl, rfl, SqT.of ht, rfl, rfl, _, rfl, iteYes (by decide +kernel) ?_⟩
      refine ⟨by show 1 ≤ sizeLine; decide, fun L1 hL1 => ?_⟩
      have s1 := same_upd (o := (.lst [.int 0])) hL1
      have gL1 : upd H L1 (.lst [.int 0]) L1 = some (.lst (([0] : List Nat).map vi)) := upd_same
      generalize upd H L1 (.lst [.int 0]) = H1 at s1 gL1 ⊢
      refine ⟨_, rfl, t, _, 1, y, rfl, rfl, SqT.of (s1 _ _ ht), rfl, _, v, rfl, (hv.keep (tkS s1)), (by simp only [bO, List.length_cons] at hl; omega), fun p2 H2 s2 hp2 h2 => ?_⟩
      refine ⟨L1, p2, _, _, rfl, rfl, (s2 _ _ gL1), h2, cat_fits (by simp only [bO, List.length_append, List.length_cons, List.length_nil] at hl ⊢; omega), fun C2 hC2 => ?_⟩
      have s3 := same_upd (o := (.lst (([0] : List Nat).map vi ++ (bV 40 v).map vi))) hC2
      have gC2 : upd H2 C2 (.lst (([0] : List Nat).map vi ++ (bV 40 v).map vi)) C2 = some (.lst ((([0] : List Nat) ++ (bV 40 v)).map vi)) := by rw [upd_same]; exact congrArg (fun z => some (HO.lst z)) List.map_append.symm
      generalize upd H2 C2 (.lst (([0] : List Nat).map vi ++ (bV 40 v).map vi)) = H3 at s3 gC2 ⊢
      exact qq C2 H3 (Same.tr s1 (Same.tr s2 s3)) (Same.none (Same.tr s1 s2) hC2) (by rw [gC2]; simp [bO])
    | flt i =>
      obtain ⟨hi, h3, t, u, rfl, ht, hu⟩ := hx
      have hfi : ∀ i, i < 6 → ([.str "division", .str "deep", .str "large", .str "missing", .str "stuck", .str "long"] : List V)[i]? = some (.str (FAU.getD i "")) ∧ (∀ (m : Nat) (z' : V), m < i → ([.str "division", .str "deep", .str "large", .str "missing", .str "stuck", .str "long"] : List V)[m]? = some z' → eqV z' (.str (FAU.getD i "")) = false) ∧ (i ≠ 3 → ¬ (FAU.getD i "" = "missing")) := by
        intro i hi
        have c : i = 0 ∨ i = 1 ∨ i = 2 ∨ i = 3 ∨ i = 4 ∨ i = 5 := by omega
        rcases c with rfl | rfl | rfl | rfl | rfl | rfl <;> refine ⟨rfl, fun m z hm hz => ?_, by decide +kernel⟩
        · exact absurd hm (Nat.not_lt_zero _)
        · have : m = 0 := by omega
          subst this; cases hz; decide +kernel
        · have : m = 0 ∨ m = 1 := by omega
          rcases this with rfl | rfl <;> cases hz <;> decide +kernel
        · have : m = 0 ∨ m = 1 ∨ m = 2 := by omega
          rcases this with rfl | rfl | rfl <;> cases hz <;> decide +kernel
        · have : m = 0 ∨ m = 1 ∨ m = 2 ∨ m = 3 := by omega
          rcases this with rfl | rfl | rfl | rfl <;> cases hz <;> decide +kernel
        · have : m = 0 ∨ m = 1 ∨ m = 2 ∨ m = 3 ∨ m = 4 := by omega
          rcases this with rfl | rfl | rfl | rfl | rfl <;> cases hz <;> decide +kernel
      obtain ⟨hget, hno, hms⟩ := hfi i hi
      have hms := hms h3
      generalize FAU.getD i "" = w at hu hget hno hms
      refine ⟨_, rfl, t, _, 0, .str "fault", rfl, rfl, SqT.of ht, rfl, rfl, _, rfl, iteNo (by decide +kernel) ?_⟩
      refine ⟨by show 6 ≤ sizeLine; decide, fun M hM => ?_⟩
      have s1 := same_upd (o := (.lst [.str "division", .str "deep", .str "large", .str "missing", .str "stuck", .str "long"])) hM
      have gM : upd H M (.lst [.str "division", .str "deep", .str "large", .str "missing", .str "stuck", .str "long"]) M = some (.lst [.str "division", .str "deep", .str "large", .str "missing", .str "stuck", .str "long"]) := upd_same
      generalize upd H M (.lst [.str "division", .str "deep", .str "large", .str "missing", .str "stuck", .str "long"]) = H1 at s1 gM ⊢
      have hq1 : eqV (.str w) (.str w) = true := by simp [eqV]
      refine ⟨_, rfl, .inl ⟨rfl, _, SqL.of gM⟩, _, rfl, t, _, 1, .ref u, rfl, rfl, SqT.of (s1 _ _ ht), rfl, u, _, 0, .str w, rfl, rfl, SqT.of (s1 _ _ hu), rfl, M, _, .str w, _, .str w, rfl, rfl, SqL.of gM, rfl, rfl, hget, hq1, hno, by show 2 ≤ sizeLine; decide, fun J hJ => ?_⟩
      have s2 := same_upd (o := (.lst [.int 1, .int (i : Int)])) hJ
      have gJ : upd H1 J (.lst [.int 1, .int (i : Int)]) J = some (.lst (([1, i] : List Nat).map vi)) := upd_same
      generalize upd H1 J (.lst [.int 1, .int (i : Int)]) = H2 at s2 gJ ⊢
      refine ⟨fun σ' H' => σ' = [some (.ref t), some (.ref M), some (.ref J)] ∧ H' = H2, ⟨_, rfl, t, _, 1, .ref u, rfl, rfl, SqT.of ((Same.tr s1 s2) _ _ ht), rfl, u, _, 0, .str w, rfl, rfl, SqT.of ((Same.tr s1 s2) _ _ hu), rfl, rfl, _, rfl, iteNo (fun z => hms (V.str.inj (of_decide_eq_true z))) ⟨rfl, rfl⟩⟩, ?_⟩
      rintro σ' H3 ⟨rfl, rfl⟩
      exact ⟨_, rfl, qq J _ (Same.tr s1 s2) (Same.none s1 hJ) (by rw [gJ]; rfl)⟩
    | miss l =>
      obtain ⟨h1, t, u, rfl, ht, hu⟩ := hx
      have hget : ([.str "division", .str "deep", .str "large", .str "missing", .str "stuck", .str "long"] : List V)[3]? = some (.str "missing") := rfl
      have hno : ∀ (m : Nat) (z' : V), m < 3 → ([.str "division", .str "deep", .str "large", .str "missing", .str "stuck", .str "long"] : List V)[m]? = some z' → eqV z' (.str "missing") = false := fun m z hm hz => by
        have : m = 0 ∨ m = 1 ∨ m = 2 := by omega
        rcases this with rfl | rfl | rfl <;> cases hz <;> decide +kernel
      refine ⟨_, rfl, t, _, 0, .str "fault", rfl, rfl, SqT.of ht, rfl, rfl, _, rfl, iteNo (by decide +kernel) ?_⟩
      refine ⟨by show 6 ≤ sizeLine; decide, fun M hM => ?_⟩
      have s1 := same_upd (o := (.lst [.str "division", .str "deep", .str "large", .str "missing", .str "stuck", .str "long"])) hM
      have gM : upd H M (.lst [.str "division", .str "deep", .str "large", .str "missing", .str "stuck", .str "long"]) M = some (.lst [.str "division", .str "deep", .str "large", .str "missing", .str "stuck", .str "long"]) := upd_same
      generalize upd H M (.lst [.str "division", .str "deep", .str "large", .str "missing", .str "stuck", .str "long"]) = H1 at s1 gM ⊢
      have hq1 : eqV (.str "missing") (.str "missing") = true := by simp [eqV]
      refine ⟨_, rfl, .inl ⟨rfl, _, SqL.of gM⟩, _, rfl, t, _, 1, .ref u, rfl, rfl, SqT.of (s1 _ _ ht), rfl, u, _, 0, .str "missing", rfl, rfl, SqT.of (s1 _ _ hu), rfl, M, _, .str "missing", _, .str "missing", rfl, rfl, SqL.of gM, rfl, rfl, hget, hq1, hno, by show 2 ≤ sizeLine; decide, fun J hJ => ?_⟩
      have s2 := same_upd (o := (.lst [.int 1, .int ((3 : Nat) : Int)])) hJ
      have gJ : upd H1 J (.lst [.int 1, .int ((3 : Nat) : Int)]) J = some (.lst (([1, 3] : List Nat).map vi)) := upd_same
      generalize upd H1 J (.lst [.int 1, .int ((3 : Nat) : Int)]) = H2 at s2 gJ ⊢
      refine ⟨fun σ' H' => ∃ dd, σ' = [some (.ref t), some (.ref M), some (.ref dd)] ∧ Same H H' ∧ H dd = none ∧ H' dd = some (.lst ((bO (.miss l)).map vi)), ?_, ?_⟩
      · refine ⟨_, rfl, t, _, 1, .ref u, rfl, rfl, SqT.of ((Same.tr s1 s2) _ _ ht), rfl, u, _, 0, .str "missing", rfl, rfl, SqT.of ((Same.tr s1 s2) _ _ hu), rfl, rfl, _, rfl, iteYes (by decide +kernel) ?_⟩
        refine ⟨_, rfl, _, rfl, t, _, 1, .ref u, rfl, rfl, SqT.of ((Same.tr s1 s2) _ _ ht), rfl, u, _, 1, .str (S l), rfl, rfl, SqT.of ((Same.tr s1 s2) _ _ hu), rfl, _, l, rfl, ⟨rfl, h1⟩, (by simp only [bO, List.length_cons] at hl; omega), fun p3 H3 s3 hp3 h3 => ?_⟩
        refine ⟨J, p3, _, _, rfl, rfl, (s3 _ _ gJ), h3, cat_fits (by simp only [bO, List.length_append, List.length_cons, List.length_nil] at hl ⊢; omega), fun C1 hC1 => ?_⟩
        have s4 := same_upd (o := (.lst (([1, 3] : List Nat).map vi ++ (encS l).map vi))) hC1
        have gC1 : upd H3 C1 (.lst (([1, 3] : List Nat).map vi ++ (encS l).map vi)) C1 = some (.lst ((([1, 3] : List Nat) ++ (encS l)).map vi)) := by rw [upd_same]; exact congrArg (fun z => some (HO.lst z)) List.map_append.symm
        generalize upd H3 C1 (.lst (([1, 3] : List Nat).map vi ++ (encS l).map vi)) = H4 at s4 gC1 ⊢
        exact ⟨C1, rfl, (Same.tr s1 (Same.tr s2 (Same.tr s3 s4))), Same.none (Same.tr s1 (Same.tr s2 s3)) hC1, by rw [gC1]; simp [bO]⟩
      rintro σ' H9 ⟨dd, rfl, s9, hdd, gdd⟩
      exact ⟨_, rfl, qq dd _ s9 hdd gdd⟩
end
end Q40
namespace Q40
open PySem PySem.Spec PyProof.Rows L2 SX HL NM DM
section
variable {P : Program} {w : World} {K : PySem.W.Frag} {mg : Str → Option Value} {base : Heap}
theorem ok_lawCell {k : Nat} (Z : Defs K mg) : FnOk P w K mg base CX0 (k + 45) Z.fLawCellBytes Z.fdLawCellBytes ["cell"] (spWr CeAt bC) := by
  have GLawString : FnOk P w K mg base CX0 (k + 44) Z.fLawString Z.fdLawString ["text"] (spWr TxtAt encS) := (ok_lawString (k := 0) Z).mono (by omega)
  have GLawListed : FnOk P w K mg base CX0 (k + 44) Z.fLawListed Z.fdLawListed ["parts"] (spWr LstAt encL) := (ok_lawListed (k := 0) Z).mono (by omega)
  have GLawKindBytes : FnOk P w K mg base CX0 (k + 44) Z.fLawKindBytes Z.fdLawKindBytes ["kind"] (spWr KdAt bK) := (ok_lawKind (k := 0) Z).mono (by omega)
  have GLawOutcomeBytes : FnOk P w K mg base CX0 (k + 44) Z.fLawOutcomeBytes Z.fdLawOutcomeBytes ["outcome"] (spWr OuAt bO) := ok_lawOutcome Z
  refine Z.DLawCellBytes.F.ok scLawCellBytes (fun vs H Q E h => ?_) (fun cdv A outer s H vs Q E hr h => ?_)
  · obtain ⟨x, d, rfl, _⟩ := h
    rfl
  · obtain ⟨x, d, rfl, ⟨k0, t, sv, ov, rfl, ht, ⟨ts, kv, yv, rfl, hts, hkv, ⟨q, us0, rfl, hq, hul, hus⟩⟩, ho⟩, hl, qq⟩ := h
    refine ⟨_, (pss_cons (ps_asg (pv 0) (pg_tup rfl (pgs_cons (pg_name (i := 1) scLawCellBytes.nd rfl (.inl rfl)) (pgs_cons (pg_name (i := 2) scLawCellBytes.nd rfl (.inl rfl)) (pgs_cons (pg_name (i := 3) scLawCellBytes.nd rfl (.inl rfl)) pgs_nil)))))
        (pss_cons (ps_set (i := 4) scLawCellBytes.nd rfl (.inl rfl) (pe_lst pa_nil))
        (pss_cons (ps_for PassesOwn.never rfl (pi_tup (pe_ix ix_tup (pv 2) pe_int (fun _ _ => rfl))) (pg_tup rfl (pgs_cons (pg_name (i := 5) scLawCellBytes.nd rfl (.inl rfl)) (pgs_cons (pg_name (i := 6) scLawCellBytes.nd rfl (.inl rfl)) pgs_nil))) (pss_cons (ps_set (i := 7) scLawCellBytes.nd rfl (.inl rfl) (pe_lst pa_nil))
        (pss_cons (ps_for PassesOwn.never rfl (pi_tup (pv 6)) (pg_tup rfl (pgs_cons (pg_name (i := 8) scLawCellBytes.nd rfl (.inl rfl)) (pgs_cons (pg_name (i := 9) scLawCellBytes.nd rfl (.inl rfl)) pgs_nil))) (pss_one (ps_expr (pe_bm PySem.F.plainAttrs_list PySem.F.slot_list_append PySem.F.type_list_append mt_append (pv 7) (pa_cons (pe_op op_cat (pe_call GLawString (hr.mono (by omega)) (by rfl) Z.DLawString.g Z.DLawString.F.kp Z.DLawString.b .nil pass0 (pa_cons (pv 8) pa_nil)) (pe_call GLawListed (hr.mono (by omega)) (by rfl) Z.DLawListed.g Z.DLawListed.F.kp Z.DLawListed.b .nil pass0 (pa_cons (pe_lc (own := [("kind", 10)]) (g := (gName 10)) (by rfl) scLawCellBytes.nd (HK.pi_tupK (K := K) rfl (pv 9)) (blkOk_by (own := [("kind", 10)]) (N := ["cell", "name", "shape", "outcome", "parts", "data", "makers", "written", "maker", "kinds", "kind"]) (sc := defScope sLawCellBytes) (by decide +kernel)) (fun _ _ _ _ _ => (pg_name (i := 10) scLawCellBytes.nd rfl (Or.inl rfl))) (fun _ _ _ _ _ => pts_nil) (fun _ _ _ _ _ => (pe_call GLawKindBytes (hr.mono (by omega)) (by rfl) Z.DLawKindBytes.g Z.DLawKindBytes.F.kp Z.DLawKindBytes.b .nil pass0 (pa_cons (pv 10) pa_nil)))) pa_nil))) pa_nil)))))
        (pss_one (ps_expr (pe_bm PySem.F.plainAttrs_list PySem.F.slot_list_append PySem.F.type_list_append mt_append (pv 4) (pa_cons (pe_op op_cat (pe_call GLawString (hr.mono (by omega)) (by rfl) Z.DLawString.g Z.DLawString.F.kp Z.DLawString.b .nil pass0 (pa_cons (pv 5) pa_nil)) (pe_call GLawListed (hr.mono (by omega)) (by rfl) Z.DLawListed.g Z.DLawListed.F.kp Z.DLawListed.b .nil pass0 (pa_cons (pv 7) pa_nil))) pa_nil)))))))
        (pss_one (ps_ret (pe_op op_cat (pe_op op_cat (pe_op op_cat (pe_call GLawString (hr.mono (by omega)) (by rfl) Z.DLawString.g Z.DLawString.F.kp Z.DLawString.b .nil pass0 (pa_cons (pv 1) pa_nil)) (pe_call GLawKindBytes (hr.mono (by omega)) (by rfl) Z.DLawKindBytes.g Z.DLawKindBytes.F.kp Z.DLawKindBytes.b .nil pass0 (pa_cons (pe_ix ix_tup (pv 2) pe_int (fun _ _ => rfl)) pa_nil))) (pe_call GLawListed (hr.mono (by omega)) (by rfl) Z.DLawListed.g Z.DLawListed.F.kp Z.DLawListed.b .nil pass0 (pa_cons (pv 4) pa_nil))) (pe_call GLawOutcomeBytes (hr.mono (by omega)) (by rfl) Z.DLawOutcomeBytes.g Z.DLawOutcomeBytes.F.kp Z.DLawOutcomeBytes.b .nil pass0 (pa_cons (pv 3) pa_nil)))))))), ?_⟩
    obtain ⟨nm, ⟨kd, dats⟩, oc⟩ := d
    have hl0 := hl
    have lD : (encL (dats.map bDa)).length ≤ 500000 := by simp only [bC, bSh, List.length_append] at hl; omega
    refine ⟨_, rfl, t, _, rfl, SqT.of ht, rfl, _, _, rfl, _, _, rfl, _, _, rfl, rfl, ?_⟩
    refine ⟨Nat.zero_le _, fun Pt hPt => ?_⟩
    refine ⟨_, rfl, ts, _, 1, .ref q, rfl, rfl, SqT.of (same_upd hPt _ _ hts), rfl, q, rfl, ⟨_, SqT.of (same_upd hPt _ _ hq)⟩, ?_⟩
    refine for_it walk_tup (fun i σ H' => ∃ (y5 y6 y7 y8 y9 : Option V) (us : List V), σ = [some (.ref t), some (.str (S nm)), some (.ref ts), some ov, some (.ref Pt), y5, y6, y7, y8, y9, none] ∧ Same H H' ∧ H' Pt = some (.lst us) ∧ us.length = i ∧ All2 (fun u b => LsAt H' u b ∧ u ≠ .ref Pt) us ((dats.take i).map bDa))
      ⟨none, none, none, none, none, [], rfl, same_upd hPt, upd_same, rfl, .nil⟩ (fun i σ H' _ ⟨_, _, _, _, _, _, _, s, _⟩ => SqT.of (s _ _ hq)) ?_ ?_
    · rintro i x σ Hz H1 hi ⟨y5, y6, y7, y8, y9, us, rfl, t1, hA1, hal, hacc⟩ ⟨rfl, hx⟩
      obtain ⟨⟨dn, mks⟩, hd', hR⟩ := hus.get hx
      obtain ⟨hdn, td, yd, rfl, htd, ⟨qd, ud, rfl, hqd, hudl, hud⟩⟩ := hR.keep (tkS t1)
      have hl : (bDa (dn, mks)).length ≤ 500000 := len_memL (List.mem_of_getElem? hd') lD
      have hi2 : i ≤ 200 := Nat.le_of_lt (Nat.lt_of_lt_of_le (show i < us0.length from hi) hul)
      have lM : (encL (mks.map bM)).length ≤ 500000 := by simp only [bDa, List.length_append] at hl; omega
      refine ⟨td, _, rfl, SqT.of htd, rfl, _, _, rfl, _, _, rfl, rfl, ?_⟩
      refine ⟨Nat.zero_le _, fun Wt hWt => ?_⟩
      have nWP : Pt ≠ Wt := ne_of_none hA1 hWt
      refine ⟨_, rfl, qd, rfl, ⟨_, SqT.of (same_upd hWt _ _ hqd)⟩, ?_⟩
      refine for_it walk_tup (fun j σ H' => ∃ (y8 y9 : Option V) (ws : List V), σ = [some (.ref t), some (.str (S nm)), some (.ref ts), some ov, some (.ref Pt), some (.str (S dn)), some (.ref qd), some (.ref Wt), y8, y9, none] ∧ Same H1 H' ∧ H' Wt = some (.lst ws) ∧ ws.length = j ∧ All2 (fun u b => LsAt H' u b ∧ u ≠ .ref Wt) ws ((mks.take j).map bM))
        ⟨y8, y9, [], rfl, same_upd hWt, upd_same, rfl, .nil⟩ (fun j σ H' _ ⟨_, _, _, _, s, _⟩ => SqT.of (s _ _ hqd)) ?_ ?_
      · rintro j x2 σ Hz2 H100 hj ⟨y8, y9, ws, rfl, t2, hB1, hbl, hbcc⟩ ⟨rfl, hx2⟩
        obtain ⟨⟨mn, ks⟩, hm', hR2⟩ := hud.get hx2
        obtain ⟨hmn, tm, ym, rfl, htm, ⟨qm, um, rfl, hqm, huml, hum⟩⟩ := hR2.keep (tkS t2)
        have hl : (bM (mn, ks)).length ≤ 500000 := len_memL (List.mem_of_getElem? hm') lM
        have hj2 : j ≤ 200 := Nat.le_of_lt (Nat.lt_of_lt_of_le (show j < ud.length from hj) hudl)
        have lK : (encL (ks.map bK)).length ≤ 500000 := by simp only [bM, List.length_append] at hl; omega
        refine ⟨tm, _, rfl, SqT.of htm, rfl, _, _, rfl, _, _, rfl, rfl, ?_⟩
        refine ⟨_, rfl, .inl ⟨rfl, _, SqL.of hB1⟩, ?_⟩
        refine ⟨_, rfl, _, mn, rfl, ⟨rfl, hmn⟩, (by simp only [bM, List.length_append] at hl; omega), fun p101 H101 s101 hp101 h101 => ?_⟩
        refine ⟨_, rfl, qm, rfl, ⟨_, SqT.of (s101 _ _ hqm)⟩, fun D101 hD101 => ?_⟩
        refine lc_it walk_tup (fun i H' => Same H101 H' ∧ ∃ acc, H' D101 = some (.lst acc) ∧ acc.length = i ∧ All2 (fun u b => LsAt H' u b ∧ u ≠ .ref D101) acc ((ks.take i).map bK)) ⟨same_upd hD101, [], upd_same, rfl, .nil⟩ (fun i H' _ p => SqT.of (p.1 _ _ (s101 _ _ hqm))) ?_ ?_
        · rintro i x Hz3 G1 hi ⟨t1, acc, hA1, hal, hacc⟩ ⟨rfl, hx⟩
          obtain ⟨d', hd', hR⟩ := hum.get hx
          have hR := hR.keep (tkS (Same.tr s101 t1))
          have hi2 : i ≤ 600000 := Nat.le_of_lt (Nat.lt_of_lt_of_le (show i < um.length from hi) (by omega))
          refine ⟨rfl, lc_yes ⟨_, rfl, x, d', rfl, hR, len_memL (List.mem_of_getElem? hd') (by exact lK), fun p2 G2 t2 hp2 h2 => ?_⟩⟩
          have hA2 := t2 _ _ hA1
          have n2 : p2 ≠ D101 := (ne_of_none hA1 hp2).symm
          refine ⟨acc, hA2, Nat.lt_of_le_of_lt (show _ ≤ 600000 by omega) (by decide), fun z o h => by rw [upd_ne (ne_of_none h hD101)]; exact t2 _ _ (t1 _ _ h), acc ++ [.ref p2], upd_same, by rw [List.length_append, hal]; rfl, ?_⟩
          rw [take_snoc hd', List.map_append]
          exact (lsts_keep t2 hacc).app (.one ⟨⟨p2, rfl, by rw [upd_ne n2]; exact h2⟩, fun e => n2 (V.ref.inj e)⟩)
        rintro H102 ⟨s102, accD101, gD101, halD101, haccD101⟩
        have halD101 : accD101.length = um.length := halD101
        rw [hum.len, List.take_length] at haccD101
        have lsD101 : LstAt H102 (ks.map bK) (.ref D101) := ⟨D101, accD101, rfl, gD101, by omega, lsts_keep0 (Same.refl _) haccD101⟩
        refine ⟨.ref D101, _, rfl, lsD101, lK, fun p103 H103 s103 hp103 h103 => ?_⟩
        refine ⟨p101, p103, _, _, rfl, rfl, ((Same.tr s102 s103) _ _ h101), h103, cat_fits (by simp only [bM, List.length_append, List.length_cons, List.length_nil] at hl ⊢; omega), fun C102 hC102 => ?_⟩
        have s104 := same_upd (o := (.lst ((encS mn).map vi ++ (encL (ks.map bK)).map vi))) hC102
        have gC102 : upd H103 C102 (.lst ((encS mn).map vi ++ (encL (ks.map bK)).map vi)) C102 = some (.lst (((encS mn) ++ (encL (ks.map bK))).map vi)) := by rw [upd_same]; exact congrArg (fun z => some (HO.lst z)) List.map_append.symm
        generalize upd H103 C102 (.lst ((encS mn).map vi ++ (encL (ks.map bK)).map vi)) = H104 at s104 gC102 ⊢
        have hB2 := (Same.tr s101 (Same.tr s102 (Same.tr s103 s104))) _ _ hB1
        have n2 : C102 ≠ Wt := (ne_of_none ((Same.tr s101 (Same.tr s102 s103)) _ _ hB1) hC102).symm
        refine ⟨Wt, _, _, rfl, rfl, hB2, Nat.lt_of_le_of_lt (show _ ≤ 600000 by omega) (by decide), ?_⟩
        refine ⟨_, _, ws ++ [.ref C102], rfl, fun z o h => by rw [upd_ne (ne_of_none h hWt)]; exact (Same.tr s101 (Same.tr s102 (Same.tr s103 s104))) _ _ (t2 _ _ h), upd_same, by rw [List.length_append, hbl]; rfl, ?_⟩
        rw [take_snoc hm', List.map_append]
        exact (lsts_keep (Same.tr s101 (Same.tr s102 (Same.tr s103 s104))) hbcc).app (.one ⟨⟨C102, rfl, by rw [upd_ne n2, gC102]; simp [bM]⟩, fun e => n2 (V.ref.inj e)⟩)
      · rintro σ H200 ⟨y8, y9, ws, rfl, t2, hB1, hbl, hbcc⟩
        have hbl : ws.length = ud.length := hbl
        rw [hud.len, List.take_length] at hbcc
        have lsW : LstAt H200 (mks.map bM) (.ref Wt) := ⟨Wt, ws, rfl, hB1, by omega, lsts_keep0 (Same.refl _) hbcc⟩
        have hA2 := t2 _ _ hA1
        refine ⟨_, rfl, .inl ⟨rfl, _, SqL.of hA2⟩, ?_⟩
        refine ⟨_, rfl, _, dn, rfl, ⟨rfl, hdn⟩, (by simp only [bDa, List.length_append] at hl; omega), fun p201 H201 s201 hp201 h201 => ?_⟩
        obtain ⟨lq, lu, le, lg, ll, lh⟩ := lsW
        cases le
        refine ⟨_, rfl, .ref Wt, _, rfl, ⟨Wt, lu, rfl, (s201 _ _ lg), ll, lh.mono fun u bb ⟨l', e', h'⟩ => ⟨l', e', s201 _ _ h'⟩⟩, lM, fun p202 H202 s202 hp202 h202 => ?_⟩
        refine ⟨p201, p202, _, _, rfl, rfl, (s202 _ _ h201), h202, cat_fits (by simp only [bDa, List.length_append, List.length_cons, List.length_nil] at hl ⊢; omega), fun C201 hC201 => ?_⟩
        have s203 := same_upd (o := (.lst ((encS dn).map vi ++ (encL (mks.map bM)).map vi))) hC201
        have gC201 : upd H202 C201 (.lst ((encS dn).map vi ++ (encL (mks.map bM)).map vi)) C201 = some (.lst (((encS dn) ++ (encL (mks.map bM))).map vi)) := by rw [upd_same]; exact congrArg (fun z => some (HO.lst z)) List.map_append.symm
        generalize upd H202 C201 (.lst ((encS dn).map vi ++ (encL (mks.map bM)).map vi)) = H203 at s203 gC201 ⊢
        have hA3 := (Same.tr s201 (Same.tr s202 s203)) _ _ hA2
        have n2 : C201 ≠ Pt := (ne_of_none ((Same.tr s201 s202) _ _ hA2) hC201).symm
        refine ⟨Pt, _, _, rfl, rfl, hA3, Nat.lt_of_le_of_lt (show _ ≤ 600000 by omega) (by decide), ?_⟩
        refine ⟨_, _, _, _, _, us ++ [.ref C201], rfl, fun z o h => by rw [upd_ne (ne_of_none h hPt)]; exact (Same.tr s201 (Same.tr s202 s203)) _ _ (t2 _ _ (t1 _ _ h)), upd_same, by rw [List.length_append, hal]; rfl, ?_⟩
        rw [take_snoc hd', List.map_append]
        exact (lsts_keep (Same.tr t2 (Same.tr s201 (Same.tr s202 s203))) hacc).app (.one ⟨⟨C201, rfl, by rw [upd_ne n2, gC201]; simp [bDa]⟩, fun e => n2 (V.ref.inj e)⟩)
    · rintro σ H1 ⟨y5, y6, y7, y8, y9, us, rfl, s1, hA1, hal, hacc⟩
      have hal : us.length = us0.length := hal
      rw [hus.len, List.take_length] at hacc
      have hus1 := lsts_keep0 (Same.refl _) hacc
      have hl := hl0
      refine ⟨_, rfl, _, nm, rfl, ⟨rfl, k0⟩, (by simp only [bC, List.length_append] at hl; omega), fun p2 H2 s2 hp2 h2 => ?_⟩
      refine ⟨_, rfl, ts, _, 0, kv, rfl, rfl, SqT.of ((Same.tr s1 s2) _ _ hts), rfl, _, kd, rfl, (hkv.keep (tkS (Same.tr s1 s2))), (by simp only [bC, bSh, List.length_append] at hl; omega), fun p3 H3 s3 hp3 h3 => ?_⟩
      refine ⟨p2, p3, _, _, rfl, rfl, (s3 _ _ h2), h3, cat_fits (by simp only [bC, bSh, List.length_append, List.length_cons, List.length_nil] at hl ⊢; omega), fun C301 hC301 => ?_⟩
      have s4 := same_upd (o := (.lst ((encS nm).map vi ++ (bK kd).map vi))) hC301
      have gC301 : upd H3 C301 (.lst ((encS nm).map vi ++ (bK kd).map vi)) C301 = some (.lst (((encS nm) ++ (bK kd)).map vi)) := by rw [upd_same]; exact congrArg (fun z => some (HO.lst z)) List.map_append.symm
      generalize upd H3 C301 (.lst ((encS nm).map vi ++ (bK kd).map vi)) = H4 at s4 gC301 ⊢
      refine ⟨_, rfl, .ref Pt, _, rfl, ⟨Pt, us, rfl, ((Same.tr s2 (Same.tr s3 s4)) _ _ hA1), by omega, hus1.mono fun u bb ⟨l', e', h'⟩ => ⟨l', e', (Same.tr s2 (Same.tr s3 s4)) _ _ h'⟩⟩, lD, fun p5 H5 s5 hp5 h5 => ?_⟩
      refine ⟨C301, p5, _, _, rfl, rfl, (s5 _ _ gC301), h5, cat_fits (by simp only [bC, bSh, List.length_append, List.length_cons, List.length_nil] at hl ⊢; omega), fun C302 hC302 => ?_⟩
      have s6 := same_upd (o := (.lst (((encS nm) ++ (bK kd)).map vi ++ (encL (dats.map bDa)).map vi))) hC302
      have gC302 : upd H5 C302 (.lst (((encS nm) ++ (bK kd)).map vi ++ (encL (dats.map bDa)).map vi)) C302 = some (.lst ((((encS nm) ++ (bK kd)) ++ (encL (dats.map bDa))).map vi)) := by rw [upd_same]; exact congrArg (fun z => some (HO.lst z)) List.map_append.symm
      generalize upd H5 C302 (.lst (((encS nm) ++ (bK kd)).map vi ++ (encL (dats.map bDa)).map vi)) = H6 at s6 gC302 ⊢
      refine ⟨_, rfl, _, oc, rfl, (ho.keep (tkS (Same.tr s1 (Same.tr s2 (Same.tr s3 (Same.tr s4 (Same.tr s5 s6))))))), (by simp only [bC, List.length_append] at hl; omega), fun p7 H7 s7 hp7 h7 => ?_⟩
      refine ⟨C302, p7, _, _, rfl, rfl, (s7 _ _ gC302), h7, cat_fits (by simp only [bC, bSh, List.length_append, List.length_cons, List.length_nil] at hl ⊢; omega), fun C303 hC303 => ?_⟩
      have s8 := same_upd (o := (.lst ((((encS nm) ++ (bK kd)) ++ (encL (dats.map bDa))).map vi ++ (bO oc).map vi))) hC303
      have gC303 : upd H7 C303 (.lst ((((encS nm) ++ (bK kd)) ++ (encL (dats.map bDa))).map vi ++ (bO oc).map vi)) C303 = some (.lst (((((encS nm) ++ (bK kd)) ++ (encL (dats.map bDa))) ++ (bO oc)).map vi)) := by rw [upd_same]; exact congrArg (fun z => some (HO.lst z)) List.map_append.symm
      generalize upd H7 C303 (.lst ((((encS nm) ++ (bK kd)) ++ (encL (dats.map bDa))).map vi ++ (bO oc).map vi)) = H8 at s8 gC303 ⊢
      exact qq C303 H8 (Same.tr s1 (Same.tr s2 (Same.tr s3 (Same.tr s4 (Same.tr s5 (Same.tr s6 (Same.tr s7 s8))))))) (Same.none (Same.tr s1 (Same.tr s2 (Same.tr s3 (Same.tr s4 (Same.tr s5 (Same.tr s6 s7)))))) hC303) (by rw [gC303]; simp [bC, bSh])
def spLGroup : Sp := fun vs H Q _ => ∃ (x y : V) (ts : List Tri) (cs : List Ce), vs = [x, y] ∧ LstsAt TriAt H ts x ∧ LstsAt CeAt H cs y ∧ (bG ts cs).length ≤ 500000 ∧
  ∀ p H', Same H H' → H p = none → H' p = some (.lst ((bG ts cs).map vi)) → Q (.ref p) H'
theorem ok_lawGroup {k : Nat} (Z : Defs K mg) : FnOk P w K mg base CX0 (k + 46) Z.fLawGroupBytes Z.fdLawGroupBytes ["triples", "cells"] spLGroup := by
  have GLawTriplesBytes : FnOk P w K mg base CX0 (k + 45) Z.fLawTriplesBytes Z.fdLawTriplesBytes ["triples"] (spWr (LstsAt TriAt) fun ts => encL (ts.map bTri)) := (ok_lawTriples (k := 0) Z).mono (by omega)
  have GLawCellBytes : FnOk P w K mg base CX0 (k + 45) Z.fLawCellBytes Z.fdLawCellBytes ["cell"] (spWr CeAt bC) := ok_lawCell Z
  have GLawListed : FnOk P w K mg base CX0 (k + 45) Z.fLawListed Z.fdLawListed ["parts"] (spWr LstAt encL) := (ok_lawListed (k := 0) Z).mono (by omega)
  refine Z.DLawGroupBytes.F.ok scLawGroupBytes (fun vs H Q E h => ?_) (fun cdv A outer s H vs Q E hr h => ?_)
  · obtain ⟨x, y, ts, cs, rfl, _⟩ := h
    rfl
  · obtain ⟨x, y, ts, cs, rfl, hx, ⟨q2, us2, rfl, hq2, hul2, hus2⟩, hl, qq⟩ := h
    refine ⟨_, (pss_one (ps_ret (pe_op op_cat (pe_call GLawTriplesBytes (hr.mono (by omega)) (by rfl) Z.DLawTriplesBytes.g Z.DLawTriplesBytes.F.kp Z.DLawTriplesBytes.b .nil pass0 (pa_cons (pv 0) pa_nil)) (pe_call GLawListed (hr.mono (by omega)) (by rfl) Z.DLawListed.g Z.DLawListed.F.kp Z.DLawListed.b .nil pass0 (pa_cons (pe_lc (own := [("cell", 2)]) (g := (gName 2)) (by rfl) scLawGroupBytes.nd (ET.pi_listK (K := K) rfl (pv 1)) (blkOk_by (own := [("cell", 2)]) (N := ["triples", "cells", "cell"]) (sc := defScope sLawGroupBytes) (by decide +kernel)) (fun _ _ _ _ _ => (pg_name (i := 2) scLawGroupBytes.nd rfl (Or.inl rfl))) (fun _ _ _ _ _ => pts_nil) (fun _ _ _ _ _ => (pe_call GLawCellBytes (hr.mono (by omega)) (by rfl) Z.DLawCellBytes.g Z.DLawCellBytes.F.kp Z.DLawCellBytes.b .nil pass0 (pa_cons (pv 2) pa_nil)))) pa_nil))))), ?_⟩
    have lr : (encL (ts.map bTri)).length ≤ 500000 := by unfold bG at hl; rw [List.length_append] at hl; omega
    have lc : (encL (cs.map bC)).length ≤ 500000 := by unfold bG at hl; rw [List.length_append] at hl; omega
    refine ⟨_, rfl, _, ts, rfl, hx, lr, fun p1 H1 s1 hp1 h1 => ?_⟩
    refine ⟨_, rfl, q2, rfl, ⟨_, SqL.of (s1 _ _ hq2)⟩, fun D1 hD1 => ?_⟩
    refine lc_it walk_list (fun i H' => Same H1 H' ∧ ∃ acc, H' D1 = some (.lst acc) ∧ acc.length = i ∧ All2 (fun u b => LsAt H' u b ∧ u ≠ .ref D1) acc ((cs.take i).map bC)) ⟨same_upd hD1, [], upd_same, rfl, .nil⟩ (fun i H' _ p => SqL.of (p.1 _ _ (s1 _ _ hq2))) ?_ ?_
    · rintro i x Hz G1 hi ⟨t1, acc, hA1, hal, hacc⟩ ⟨rfl, hx⟩
      obtain ⟨d', hd', hR⟩ := hus2.get hx
      have hR := hR.keep (tkS (Same.tr s1 t1))
      have hi2 : i ≤ 600000 := Nat.le_of_lt (Nat.lt_of_lt_of_le (show i < us2.length from hi) (by omega))
      refine ⟨rfl, lc_yes ⟨_, rfl, x, d', rfl, hR, len_memL (List.mem_of_getElem? hd') (by exact lc), fun p2 G2 t2 hp2 h2 => ?_⟩⟩
      have hA2 := t2 _ _ hA1
      have n2 : p2 ≠ D1 := (ne_of_none hA1 hp2).symm
      refine ⟨acc, hA2, Nat.lt_of_le_of_lt (show _ ≤ 600000 by omega) (by decide), fun z o h => by rw [upd_ne (ne_of_none h hD1)]; exact t2 _ _ (t1 _ _ h), acc ++ [.ref p2], upd_same, by rw [List.length_append, hal]; rfl, ?_⟩
      rw [take_snoc hd', List.map_append]
      exact (lsts_keep t2 hacc).app (.one ⟨⟨p2, rfl, by rw [upd_ne n2]; exact h2⟩, fun e => n2 (V.ref.inj e)⟩)
    rintro H2 ⟨s2, accD1, gD1, halD1, haccD1⟩
    have halD1 : accD1.length = us2.length := halD1
    rw [hus2.len, List.take_length] at haccD1
    have lsD1 : LstAt H2 (cs.map bC) (.ref D1) := ⟨D1, accD1, rfl, gD1, by omega, lsts_keep0 (Same.refl _) haccD1⟩
    refine ⟨.ref D1, _, rfl, lsD1, lc, fun p3 H3 s3 hp3 h3 => ?_⟩
    refine ⟨p1, p3, _, _, rfl, rfl, ((Same.tr s2 s3) _ _ h1), h3, cat_fits (by simp only [bG, List.length_append, List.length_cons, List.length_nil] at hl ⊢; omega), fun C2 hC2 => ?_⟩
    have s4 := same_upd (o := (.lst ((encL (ts.map bTri)).map vi ++ (encL (cs.map bC)).map vi))) hC2
    have gC2 : upd H3 C2 (.lst ((encL (ts.map bTri)).map vi ++ (encL (cs.map bC)).map vi)) C2 = some (.lst (((encL (ts.map bTri)) ++ (encL (cs.map bC))).map vi)) := by rw [upd_same]; exact congrArg (fun z => some (HO.lst z)) List.map_append.symm
    generalize upd H3 C2 (.lst ((encL (ts.map bTri)).map vi ++ (encL (cs.map bC)).map vi)) = H4 at s4 gC2 ⊢
    exact qq C2 H4 (Same.tr s1 (Same.tr s2 (Same.tr s3 s4))) (Same.none (Same.tr s1 (Same.tr s2 s3)) hC2) (by rw [gC2]; simp [bG])
end
end Q40
namespace Q40
open PySem PySem.Spec PyProof.Rows L2 SX HL NM DM
/-! ### reading -/
def XOk (x : List Nat) : Prop := x.length ≤ 500000 ∧ ∀ y ∈ x, y < 256
/-- from a on stand bs and then the rest -/
def Atx (x : List Nat) (a : Nat) (bs rest : List Nat) : Prop := a ≤ x.length ∧ x.drop a = bs ++ rest
theorem Atx.fst {x : List Nat} {a : Nat} {b1 b2 rest : List Nat} (h : Atx x a (b1 ++ b2) rest) : Atx x a b1 (b2 ++ rest) := ⟨h.1, by rw [h.2, List.append_assoc]⟩
theorem Atx.le {x : List Nat} {a : Nat} {bs rest : List Nat} (h : Atx x a bs rest) : a + bs.length ≤ x.length := by
  have e := congrArg List.length h.2
  rw [List.length_drop, List.length_append] at e
  have := h.1
  omega
theorem Atx.snd {x : List Nat} {a : Nat} {b1 b2 rest : List Nat} (h : Atx x a (b1 ++ b2) rest) : Atx x (a + b1.length) b2 rest := by
  refine ⟨h.fst.le, ?_⟩
  rw [← List.drop_drop, h.2, List.append_assoc, List.drop_left]
theorem Atx.hd {x : List Nat} {a y : Nat} {bs rest : List Nat} (h : Atx x a (y :: bs) rest) : x[a]? = some y ∧ Atx x (a + 1) bs rest := by
  have h' : Atx x a ([y] ++ bs) rest := h
  refine ⟨?_, h'.snd⟩
  have e := congrArg (fun l => l[0]?) h.2
  simpa using e
/-- what is read: f tells its bytes, R how it stands in the heap -/
def spRd {D : Type} (C : Addr) (R : Hp → D → V → Prop) (f : D → List Nat) : Sp := fun vs H Q _ => ∃ (p b c : Addr) (x : List Nat) (a : Nat) (d : D) (rest : List Nat), vs = [.ref p] ∧ RdAt C H p b c x a ∧ XOk x ∧ Atx x a (f d) rest ∧ (∃ H0 x0, R H0 d x0) ∧
  ∀ H' y, Kept H H' p → RdAt C H' p b c x (a + (f d).length) → R H' d y → Q y H'
def NumAt (H : Hp) (n : Nat) (x : V) : Prop := NOk n ∧ x = vi n
section
variable {P : Program} {w : World} {K : PySem.W.Frag} {mg : Str → Option Value} {base : Heap}
def spB (C : Addr) : Sp := fun vs H Q _ => ∃ (p b c : Addr) (x : List Nat) (a most y : Nat) (bs rest : List Nat), vs = [.ref p, vi most] ∧ RdAt C H p b c x a ∧ XOk x ∧ Atx x a (y :: bs) rest ∧ y ≤ most ∧
  ∀ H', Kept H H' p → RdAt C H' p b c x (a + 1) → Q (vi y) H'
theorem ok_byteQ {k : Nat} (Z : Defs K mg) : FnOk P w K mg base CX0 (k + 1) Z.fReaderReadByte Z.fdReaderReadByte ["self", "most"] (spB Z.cReader) :=
  QT.quiet (ok_readByte Z) fun vs H Q E h => by
    obtain ⟨p, b, c, x, a, most, y, bs, rest, rfl, R, hx, hat, hy, qq⟩ := h
    exact ⟨p, b, c, x, a, most, rfl, R, hx.1, hat.1, .inl ⟨y, hat.hd.1, hy, fun H' k R' => qq H' k.kept R'⟩⟩
theorem ok_numQ {k : Nat} (Z : Defs K mg) : FnOk P w K mg base CX0 (k + 2) Z.fReaderReadNumber Z.fdReaderReadNumber ["self"] (spRd Z.cReader NumAt enc) :=
  QT.quiet (ok_readNumber Z) fun vs H Q E h => by
    obtain ⟨p, b, c, x, a, d, rest, rfl, R, hx, hat, ⟨_, _, hd, _⟩, qq⟩ := h
    refine ⟨p, b, c, x, a, rfl, R, hx.1, hat.1, hx.2, .inl ⟨d, rest, by rw [hat.2]; exact rnum_ok hd rest, fun H' k R' => qq H' _ k.kept ?_ ⟨hd, rfl⟩⟩⟩
    have e := congrArg List.length hat.2
    rw [List.length_drop, List.length_append] at e
    have := hat.1
    rw [show a + (enc d).length = x.length - rest.length by omega]
    exact R'
def spBs (C : Addr) : Sp := fun vs H Q _ => ∃ (p b c : Addr) (x : List Nat) (a : Nat) (l rest : List Nat), vs = [.ref p, vi l.length] ∧ RdAt C H p b c x a ∧ XOk x ∧ Atx x a l rest ∧
  ∀ r H', H r = none → Kept H H' p → RdAt C H' p b c x (a + l.length) → H' r = some (.lst (l.map vi)) → Q (.ref r) H'
theorem ok_bytesQ {k : Nat} (Z : Defs K mg) : FnOk P w K mg base CX0 (k + 1) Z.fReaderReadBytes Z.fdReaderReadBytes ["self", "count"] (spBs Z.cReader) :=
  QT.quiet (ok_readBytes Z) fun vs H Q E h => by
    obtain ⟨p, b, c, x, a, l, rest, rfl, R, hx, hat, qq⟩ := h
    refine ⟨p, b, c, x, a, l.length, rfl, R, hx.1, hat.1, .inl ⟨hat.le, fun r H' h0 k R' hr => qq r H' h0 k R' ?_⟩⟩
    rw [hr, hat.2, List.take_left]
theorem ones_join (l : List Nat) : Txt.join "" (l.map fun c => S [c]) = S l := by
  have e : (l.map fun c => S [c]) = (l.map fun c => [c]).map S := by rw [List.map_map]; rfl
  have e2 : ("" : Str) = S [] := rfl
  rw [e, e2, join_S, joinL_nil]
  congr 1
  clear e e2
  induction l with
  | nil => rfl
  | cons a l ih =>
    show a :: (l.map fun c => [c]).flatten = a :: l
    rw [ih]
theorem ones_sum (l : List Nat) : ((l.map fun c => S [c]).map (·.length)).sum = l.length := by
  induction l with
  | nil => rfl
  | cons a l ih =>
    rw [List.map_cons, List.map_cons, List.sum_cons, ih, List.length_cons]
    have : (S [a]).length = 1 := S_len [a]
    omega
theorem char_val : ∀ c ∈ chars, valV (charD chars) (.inl (c : Int)) = some (.str ⟨#[c]⟩) := by decide +kernel
theorem tkK {C : Addr} {H H' : Hp} {p b c : Addr} {x : List Nat} {a : Nat} (R : RdAt C H p b c x a) (k : Kept H H' p) : TupK H H' := fun z o h => k z _ (fun e => by
  obtain ⟨⟨dx, ho⟩, _⟩ := R
  rw [e, ho] at h
  cases h) h
theorem ok_readMark {k : Nat} (Z : Defs K mg) : FnOk P w K mg base CX0 (k + 3) Z.fReaderReadMark Z.fdReaderReadMark ["self"] (spRd Z.cReader MarkAt bMk) := by
  have GReaderReadNumber : FnOk P w K mg base CX0 (k + 2) Z.fReaderReadNumber Z.fdReaderReadNumber ["self"] (spRd Z.cReader NumAt enc) := (ok_numQ (k := 0) Z).mono (by omega)
  refine Z.DReaderReadMark.F.ok scReaderReadMark (fun vs H Q E h => ?_) (fun cdv A outer s H vs Q E hr h => ?_)
  · obtain ⟨p, b, c, x, a, d, rest, rfl, _⟩ := h
    rfl
  · obtain ⟨p, b, c, x, a, d, rest, rfl, R, hx, hat, ⟨_, _, ⟨hm1, hm2⟩, _⟩, qq⟩ := h
    refine ⟨_, (pss_one (ps_ret (pe_tup (pa_cons (pe_meth0 (pv 0) Z.CReader.cl Z.DReaderReadNumber.m GReaderReadNumber (hr.mono (by omega)) Z.DReaderReadNumber.b .nil pass0) (pa_cons (pe_meth0 (pv 0) Z.CReader.cl Z.DReaderReadNumber.m GReaderReadNumber (hr.mono (by omega)) Z.DReaderReadNumber.b .nil pass0) pa_nil))))), ?_⟩
    have R0 := R
    have at0 : Atx x a (enc d.1 ++ (enc d.2 ++ [])) rest := by simpa [bMk] using hat
    obtain ⟨⟨dx0, ho0⟩, hda0, hch0⟩ := id R0
    refine ⟨_, rfl, p, dx0, _, rfl, ho0, rflds_no _ _ _ (by decide +kernel) (by decide +kernel) (by decide +kernel), p, b, c, x, _, d.1, _, rfl, R0, hx, at0.fst, ⟨H, _, hm1, rfl⟩, fun H1 y1 K1 R1 hy1 => ?_⟩
    have at1 := at0.snd
    obtain ⟨_, rfl⟩ := hy1
    obtain ⟨⟨dx1, ho1⟩, hda1, hch1⟩ := id R1
    refine ⟨_, rfl, p, dx1, _, rfl, ho1, rflds_no _ _ _ (by decide +kernel) (by decide +kernel) (by decide +kernel), p, b, c, x, _, d.2, _, rfl, R1, hx, at1.fst, ⟨H, _, hm2, rfl⟩, fun H2 y2 K2 R2 hy2 => ?_⟩
    have at2 := at1.snd
    obtain ⟨_, rfl⟩ := hy2
    refine ⟨by show 2 ≤ sizeLine; decide, fun X1 hX1 => ?_⟩
    have R3 := R2.same (same_upd (o := (.tup [vi d.1, vi d.2])) hX1)
    have K3 := (same_upd (H := H2) (o := (.tup [vi d.1, vi d.2])) hX1).kept p
    have gX1 : upd H2 X1 (.tup [vi d.1, vi d.2]) X1 = some (.tup [vi d.1, vi d.2]) := upd_same
    generalize upd H2 X1 (.tup [vi d.1, vi d.2]) = H3 at R3 K3 gX1 ⊢
    refine qq _ (.ref X1) (Kept.trans K1 (Kept.trans K2 K3)) ?_ ⟨⟨hm1, hm2⟩, X1, rfl, gX1⟩
    have R9 := R3
    simp only [bMk, List.length_append, List.length_cons, List.length_nil, Nat.add_assoc, Nat.add_comm 1] at R9 ⊢
    exact R9
theorem ok_readCountX {k : Nat} (Z : Defs K mg) : FnOk P w K mg base (L2.CX P w) (k + 3) Z.fReaderReadCount Z.fdReaderReadCount ["self"] (fun vs H Q E => ∃ (p b c : Addr) (x : List Nat) (a n : Nat) (bs rest : List Nat), vs = [.ref p] ∧ RdAt Z.cReader H p b c x a ∧ XOk x ∧ Atx x a (enc n ++ bs) rest ∧ NOk n ∧ n ≤ bs.length ∧ ∀ H' y, Kept H H' p → RdAt Z.cReader H' p b c x (a + (enc n).length) → y = vi n → Q y H') := by
  have GReaderReadNumber : FnOk P w K mg base CX0 (k + 2) Z.fReaderReadNumber Z.fdReaderReadNumber ["self"] (spRd Z.cReader NumAt enc) := (ok_numQ (k := 0) Z).mono (by omega)
  refine Z.DReaderReadCount.F.okX scReaderReadCount (fun vs H Q E h => ?_) (fun cdv A outer s H vs Q E hr h => ?_)
  · obtain ⟨p, b, c, x, a, n, bs, rest, rfl, _⟩ := h
    rfl
  · obtain ⟨p, b, c, x, a, n, bs, rest, rfl, R, hx, hat, hn, hle, qq⟩ := h
    refine ⟨_, (pss_cons (ps_set (i := 1) scReaderReadCount.nd rfl (.inl rfl) (pe_meth0 (pv 0) Z.CReader.cl Z.DReaderReadNumber.m GReaderReadNumber (hr.mono (by omega)) Z.DReaderReadNumber.b .nil pass0))
        (pss_cons (ps_if (pt_cmpR op_gt (pv 1) (pe_op op_sub (pe_callB call_len_seq (by rfl) Z.len PySem.boot_len (pa_cons (pe_fld (pv 0) rfl) pa_nil)) (pe_fld (pv 0) rfl)) (nomark _)) (pss_one (ps_raise rfl (takes_of rfl rfl rfl rfl) (SkE.pmk_own1 PySem.F.excBase_ValueError Z.EDamagedPacket.ex Z.EDamagedPacket.g Z.EDamagedPacket.kp (raises_own Z.EDamagedPacket.sub Z.EDamagedPacket.ty) (by rfl) (pe_joined (.cons pe_str (.cons (pe_fmt (pe_fld (pv 0) rfl)) .nil)))))) pss_nil)
        (pss_one (ps_ret (pv 1))))), ?_⟩
    have R0 := R
    have at0 := hat
    obtain ⟨⟨dx0, ho0⟩, hda0, hch0⟩ := id R0
    refine ⟨_, rfl, p, dx0, _, rfl, ho0, rflds_no _ _ _ (by decide +kernel) (by decide +kernel) (by decide +kernel), p, b, c, x, _, n, _, rfl, R0, hx, at0.fst, ⟨H, _, hn, rfl⟩, fun H1 y1 K1 R1 hy1 => ?_⟩
    have at1 := at0.snd
    obtain ⟨_, rfl⟩ := hy1
    obtain ⟨⟨dx1, ho1⟩, hda1, hch1⟩ := id R1
    refine ⟨_, rfl, _, rfl, p, Z.cReader, dx1, _, _, rfl, ho1, Z.CReader.cl, Z.nReader_data, rflds_data _ _ _, b, _, rfl, .inl (SqL.of hda1), _, rfl, p, Z.cReader, dx1, _, _, rfl, ho1, Z.CReader.cl, Z.nReader_at, rflds_at _ _ _, _, _, rfl, rfl, _, _, rfl, rfl, _, rfl, ?_⟩
    have hle2 := at1.le
    refine iteNo (fun z => ?_) ⟨_, rfl, qq _ _ K1 R1 rfl⟩
    have := of_decide_eq_true z
    rw [List.length_map] at this
    omega
def spCnt (C : Addr) : Sp := fun vs H Q _ => ∃ (p b c : Addr) (x : List Nat) (a n : Nat) (bs rest : List Nat), vs = [.ref p] ∧ RdAt C H p b c x a ∧ XOk x ∧ Atx x a (enc n ++ bs) rest ∧ NOk n ∧ n ≤ bs.length ∧ ∀ H' y, Kept H H' p → RdAt C H' p b c x (a + (enc n).length) → y = vi n → Q y H'
theorem ok_readCount {k : Nat} (Z : Defs K mg) : FnOk P w K mg base CX0 (k + 3) Z.fReaderReadCount Z.fdReaderReadCount ["self"] (spCnt Z.cReader) := QT.quiet (ok_readCountX Z) fun vs H Q E h => h
theorem ok_readIntegerX {k : Nat} (Z : Defs K mg) : FnOk P w K mg base (L2.CX P w) (k + 3) Z.fReaderReadInteger Z.fdReaderReadInteger ["self"] (spRd Z.cReader IntAt encI) := by
  have GReaderReadByte : FnOk P w K mg base CX0 (k + 2) Z.fReaderReadByte Z.fdReaderReadByte ["self", "most"] (spB Z.cReader) := (ok_byteQ (k := 0) Z).mono (by omega)
  have GReaderReadNumber : FnOk P w K mg base CX0 (k + 2) Z.fReaderReadNumber Z.fdReaderReadNumber ["self"] (spRd Z.cReader NumAt enc) := (ok_numQ (k := 0) Z).mono (by omega)
  refine Z.DReaderReadInteger.F.okX scReaderReadInteger (fun vs H Q E h => ?_) (fun cdv A outer s H vs Q E hr h => ?_)
  · obtain ⟨p, b, c, x, a, d, rest, rfl, _⟩ := h
    rfl
  · obtain ⟨p, b, c, x, a, d, rest, rfl, R, hx, hat, ⟨_, _, _, hm⟩, qq⟩ := h
    refine ⟨_, (pss_cons (ps_set (i := 1) scReaderReadInteger.nd rfl (.inl rfl) (pe_cmpR op_eq (pe_meth (pv 0) Z.CReader.cl Z.DReaderReadByte.m GReaderReadByte (hr.mono (by omega)) Z.DReaderReadByte.b .nil pass0 (pa_cons pe_int pa_nil)) pe_int (nomark _)))
        (pss_cons (ps_set (i := 2) scReaderReadInteger.nd rfl (.inl rfl) (pe_meth0 (pv 0) Z.CReader.cl Z.DReaderReadNumber.m GReaderReadNumber (hr.mono (by omega)) Z.DReaderReadNumber.b .nil pass0))
        (pss_cons (ps_if (PW.pt (pw_and (pt_val (pv 1)) (pw_and1 (pt_cmpR op_eq (pv 2) pe_int (nomark _))))) (pss_one (ps_raise rfl (takes_of rfl rfl rfl rfl) (SkE.pmk_own1 PySem.F.excBase_ValueError Z.EDamagedPacket.ex Z.EDamagedPacket.g Z.EDamagedPacket.kp (raises_own Z.EDamagedPacket.sub Z.EDamagedPacket.ty) (by rfl) (pe_joined (.cons pe_str (.cons (pe_fmt (pe_fld (pv 0) rfl)) .nil)))))) pss_nil)
        (pss_one (ps_ret (pe_ifExp (pt_val (pv 1)) (pe_un un_neg (pv 2)) (pv 2))))))), ?_⟩
    by_cases h0 : d < 0
    · have e0 : encI d = 1 :: enc d.natAbs := by unfold encI; rw [if_pos h0]
      have R0 := R
      have at0 : Atx x a (1 :: (enc d.natAbs ++ [])) rest := by rw [e0] at hat; simpa using hat
      obtain ⟨⟨dx0, ho0⟩, hda0, hch0⟩ := id R0
      refine ⟨_, rfl, p, dx0, _, rfl, ho0, rflds_no _ _ _ (by decide +kernel) (by decide +kernel) (by decide +kernel), p, b, c, x, _, 1, 1, _, _, rfl, R0, hx, at0, by decide, fun H1 K1 R1 => ?_⟩
      have at1 := at0.hd.2
      refine ⟨rfl, ?_⟩
      obtain ⟨⟨dx1, ho1⟩, hda1, hch1⟩ := id R1
      refine ⟨_, rfl, p, dx1, _, rfl, ho1, rflds_no _ _ _ (by decide +kernel) (by decide +kernel) (by decide +kernel), p, b, c, x, _, d.natAbs, _, rfl, R1, hx, at1.fst, ⟨H, _, hm, rfl⟩, fun H2 y2 K2 R2 hy2 => ?_⟩
      have at2 := at1.snd
      obtain ⟨_, rfl⟩ := hy2
      have eb : V.bl (decide (vi 1 = V.int 1)) = V.bl true := congrArg V.bl (decide_eq_true rfl)
      refine ⟨_, rfl, true, eb, iteT ⟨_, rfl, rfl, _, rfl, iteNo (fun z => ?_) ⟨_, rfl, true, eb, iteT ⟨_, rfl, _, rfl, ?_⟩⟩⟩⟩
      · have := V.int.inj (of_decide_eq_true z)
        omega
      have ei : -(d.natAbs : Int) = d := by omega
      show Q (.int (-(d.natAbs : Int))) H2
      rw [ei]
      refine qq _ (.int d) (Kept.trans K1 K2) ?_ ⟨rfl, hm⟩
      have R9 := R2
      simp only [e0, List.length_append, List.length_cons, List.length_nil, Nat.add_assoc, Nat.add_comm 1] at R9 ⊢
      exact R9
    · have e0 : encI d = 0 :: enc d.natAbs := by unfold encI; rw [if_neg h0]
      have R0 := R
      have at0 : Atx x a (0 :: (enc d.natAbs ++ [])) rest := by rw [e0] at hat; simpa using hat
      obtain ⟨⟨dx0, ho0⟩, hda0, hch0⟩ := id R0
      refine ⟨_, rfl, p, dx0, _, rfl, ho0, rflds_no _ _ _ (by decide +kernel) (by decide +kernel) (by decide +kernel), p, b, c, x, _, 1, 0, _, _, rfl, R0, hx, at0, by decide, fun H1 K1 R1 => ?_⟩
      have at1 := at0.hd.2
      refine ⟨rfl, ?_⟩
      obtain ⟨⟨dx1, ho1⟩, hda1, hch1⟩ := id R1
      refine ⟨_, rfl, p, dx1, _, rfl, ho1, rflds_no _ _ _ (by decide +kernel) (by decide +kernel) (by decide +kernel), p, b, c, x, _, d.natAbs, _, rfl, R1, hx, at1.fst, ⟨H, _, hm, rfl⟩, fun H2 y2 K2 R2 hy2 => ?_⟩
      have at2 := at1.snd
      obtain ⟨_, rfl⟩ := hy2
      have eb : V.bl (decide (vi 0 = V.int 1)) = V.bl false := congrArg V.bl (decide_eq_false (fun z => by cases z))
      have ei : (d.natAbs : Int) = d := by omega
      refine ⟨_, rfl, false, eb, iteF ⟨_, rfl, false, eb, iteF ⟨_, rfl, ?_⟩⟩⟩
      show Q (.int (d.natAbs : Int)) H2
      rw [ei]
      refine qq _ (.int d) (Kept.trans K1 K2) ?_ ⟨rfl, hm⟩
      have R9 := R2
      simp only [e0, List.length_append, List.length_cons, List.length_nil, Nat.add_assoc, Nat.add_comm 1] at R9 ⊢
      exact R9
theorem ok_readInteger {k : Nat} (Z : Defs K mg) : FnOk P w K mg base CX0 (k + 3) Z.fReaderReadInteger Z.fdReaderReadInteger ["self"] (spRd Z.cReader IntAt encI) := QT.quiet (ok_readIntegerX Z) fun vs H Q E h => h
theorem ok_readStringX {k : Nat} (Z : Defs K mg) : FnOk P w K mg base (L2.CX P w) (k + 3) Z.fReaderReadString Z.fdReaderReadString ["self"] (spRd Z.cReader TxtAt encS) := by
  have GReaderReadBytes : FnOk P w K mg base CX0 (k + 2) Z.fReaderReadBytes Z.fdReaderReadBytes ["self", "count"] (spBs Z.cReader) := (ok_bytesQ (k := 0) Z).mono (by omega)
  have GReaderReadNumber : FnOk P w K mg base CX0 (k + 2) Z.fReaderReadNumber Z.fdReaderReadNumber ["self"] (spRd Z.cReader NumAt enc) := (ok_numQ (k := 0) Z).mono (by omega)
  refine Z.DReaderReadString.F.okX scReaderReadString (fun vs H Q E h => ?_) (fun cdv A outer s H vs Q E hr h => ?_)
  · obtain ⟨p, b, c, x, a, d, rest, rfl, _⟩ := h
    rfl
  · obtain ⟨p, b, c, x, a, d, rest, rfl, R, hx, hat, ⟨_, _, _, hm⟩, qq⟩ := h
    refine ⟨_, (pss_cons (ps_set (i := 1) scReaderReadString.nd rfl (.inl rfl) (pe_meth (pv 0) Z.CReader.cl Z.DReaderReadBytes.m GReaderReadBytes (hr.mono (by omega)) Z.DReaderReadBytes.b .nil pass0 (pa_cons (pe_meth0 (pv 0) Z.CReader.cl Z.DReaderReadNumber.m GReaderReadNumber (hr.mono (by omega)) Z.DReaderReadNumber.b .nil pass0) pa_nil)))
        (pss_cons (ps_if (pt_val (pe_callB (cr_any rfl) (by rfl) Z.any (by decide +kernel) (pa_cons (pe_lc (own := [("code", 2)]) (g := (gName 2)) (by rfl) scReaderReadString.nd (ET.pi_listK (K := K) rfl (pv 1)) (blkOk_by (own := [("code", 2)]) (N := ["self", "codes", "code"]) (sc := defScope sReaderReadString) (by decide +kernel)) (fun _ _ _ _ _ => (pg_name (i := 2) scReaderReadString.nd rfl (Or.inl rfl))) (fun _ _ _ _ _ => pts_nil) (fun _ _ _ _ _ => (pe_cmp (pc_dnotin (hu_of hr) (pv 2) (KX.pe_fldK (K := K) rfl (pv 0) rfl)) rfl))) pa_nil))) (pss_one (ps_raise rfl (takes_of rfl rfl rfl rfl) (SkE.pmk_own1 PySem.F.excBase_ValueError Z.EDamagedPacket.ex Z.EDamagedPacket.g Z.EDamagedPacket.kp (raises_own Z.EDamagedPacket.sub Z.EDamagedPacket.ty) (by rfl) (pe_joined (.cons pe_str (.cons (pe_fmt (pe_fld (pv 0) rfl)) (.cons pe_str .nil))))))) pss_nil)
        (pss_one (ps_ret (pe_join pe_str (pe_lc (own := [("code", 2)]) (g := (gName 2)) (by rfl) scReaderReadString.nd (ET.pi_listK (K := K) rfl (pv 1)) (blkOk_by (own := [("code", 2)]) (N := ["self", "codes", "code"]) (sc := defScope sReaderReadString) (by decide +kernel)) (fun _ _ _ _ _ => (pg_name (i := 2) scReaderReadString.nd rfl (Or.inl rfl))) (fun _ _ _ _ _ => pts_nil) (fun _ _ _ _ _ => (pe_dget (hu_of hr) (KX.pe_fldK (K := K) rfl (pv 0) rfl) (pv 2) (fun _ _ => rfl))))))))), ?_⟩
    have hn : NOk d.length := NOk.small (Nat.lt_of_le_of_lt hm.1 (by decide))
    have R0 := R
    have at0 : Atx x a (enc d.length ++ d) rest := hat
    obtain ⟨⟨dx0, ho0⟩, hda0, hch0⟩ := id R0
    refine ⟨_, rfl, p, dx0, _, rfl, ho0, rflds_no _ _ _ (by decide +kernel) (by decide +kernel) (by decide +kernel), ?_⟩
    obtain ⟨⟨dx0, ho0⟩, hda0, hch0⟩ := id R0
    refine ⟨_, rfl, p, dx0, _, rfl, ho0, rflds_no _ _ _ (by decide +kernel) (by decide +kernel) (by decide +kernel), p, b, c, x, _, d.length, _, rfl, R0, hx, at0.fst, ⟨H, _, hn, rfl⟩, fun H1 y1 K1 R1 hy1 => ?_⟩
    have at1 := at0.snd
    obtain ⟨_, rfl⟩ := hy1
    refine ⟨p, b, c, x, _, d, rest, rfl, R1, hx, at1, fun r H2 hr0 K2 R2 hr => ?_⟩
    obtain ⟨⟨dx2, ho2⟩, hda2, hch2⟩ := id R2
    have nrp : r ≠ p := fun e => by rw [e, ho2] at hr; cases hr
    refine ⟨_, rfl, r, rfl, ⟨_, SqL.of hr⟩, fun D hD => ?_⟩
    have hd400 := hm.1
    refine lc_it walk_list (fun i H' => Same H2 H' ∧ H' D = some (.lst ((List.replicate i false).map V.bl))) ⟨same_upd hD, upd_same⟩ (fun i H' _ p => SqL.of (p.1 _ _ hr)) ?_ ?_
    · rintro i y Hz G1 hi ⟨t1, hk⟩ ⟨rfl, hy⟩
      rw [List.getElem?_map] at hy
      obtain ⟨cc, hcc, rfl⟩ : ∃ cc, d[i]? = some cc ∧ y = vi cc := by
        cases e : d[i]? with
        | none => rw [e] at hy; cases hy
        | some cc => rw [e] at hy; cases hy; exact ⟨cc, rfl, rfl⟩
      have hi4 : i < d.length := (List.getElem?_eq_some_iff.mp hcc).1
      have hch := hm.2 cc (List.mem_of_getElem? hcc)
      have hv := char_val cc hch
      have big : 1000 ≤ sizeLine := by decide
      refine ⟨rfl, lc_yes ⟨_, rfl, _, rfl, p, Z.cReader, dx2, _, _, rfl, t1 _ _ ho2, Z.CReader.cl, Z.nReader_characters, rflds_chars _ _ _, ?_⟩⟩
      refine ⟨c, some (.str ⟨#[cc]⟩), rfl, by rw [← hv]; exact DGet.k (k := .inl (cc : Int)) (t1 _ _ hch2), _, hk, by rw [List.length_map, List.length_replicate]; omega, fun z o h => by rw [upd_ne (ne_of_none h hD)]; exact t1 _ _ h, ?_⟩
      rw [upd_same, List.replicate_succ', List.map_append]
      rfl
    rintro G1 ⟨t1, hk⟩
    refine ⟨D, _, rfl, SqL.of hk, _, rfl, iteNo (by simp) ?_⟩
    refine ⟨⟨_, rfl⟩, _, rfl, r, rfl, ⟨_, SqL.of (t1 _ _ hr)⟩, fun D2 hD2 => ?_⟩
    refine lc_it walk_list (fun i H' => Same G1 H' ∧ H' D2 = some (.lst (((d.take i).map fun c => S [c]).map V.str))) ⟨same_upd hD2, upd_same⟩ (fun i H' _ p => SqL.of (p.1 _ _ (t1 _ _ hr))) ?_ ?_
    · rintro i y Hz G2 hi ⟨t2, hk2⟩ ⟨rfl, hy⟩
      rw [List.getElem?_map] at hy
      obtain ⟨cc, hcc, rfl⟩ : ∃ cc, d[i]? = some cc ∧ y = vi cc := by
        cases e : d[i]? with
        | none => rw [e] at hy; cases hy
        | some cc => rw [e] at hy; cases hy; exact ⟨cc, rfl, rfl⟩
      have hi4 : i < d.length := (List.getElem?_eq_some_iff.mp hcc).1
      have hch := hm.2 cc (List.mem_of_getElem? hcc)
      have hv := char_val cc hch
      have big : 1000 ≤ sizeLine := by decide
      refine ⟨rfl, lc_yes ⟨_, rfl, p, Z.cReader, dx2, _, _, rfl, t2 _ _ (t1 _ _ ho2), Z.CReader.cl, Z.nReader_characters, rflds_chars _ _ _, _, rfl, c, .str ⟨#[cc]⟩, rfl, by rw [← hv]; exact DGet.k (k := .inl (cc : Int)) (t2 _ _ (t1 _ _ hch2)), _, hk2, by rw [List.length_map, List.length_map, List.length_take]; omega, fun z o h => by rw [upd_ne (ne_of_none h hD2)]; exact t2 _ _ h, ?_⟩⟩
      rw [upd_same, take_snoc hcc, List.map_append, List.map_append]
      rfl
    rintro G2 ⟨t2, hk2⟩
    have et : d.take (d.map vi).length = d := by rw [List.length_map]; exact List.take_length
    rw [et] at hk2
    refine ⟨"", D2, d.map fun c => S [c], rfl, rfl, .inl (SqL.of hk2), ?_, ?_⟩
    · rw [ones_sum, List.length_map]
      have e : ("" : Str).length = 0 := rfl
      rw [e]
      omega
    rw [ones_join]
    have s24 := Same.tr t1 t2
    refine qq _ _ (Kept.trans K1 (Kept.trans K2 (s24.kept p))) ?_ ⟨rfl, hm⟩
    have R9 := R2.same s24
    unfold encS
    rw [List.length_append, ← Nat.add_assoc]
    exact R9
theorem ok_readString {k : Nat} (Z : Defs K mg) : FnOk P w K mg base CX0 (k + 3) Z.fReaderReadString Z.fdReaderReadString ["self"] (spRd Z.cReader TxtAt encS) := QT.quiet (ok_readStringX Z) fun vs H Q E h => h
end
end Q40
namespace Q40
open PySem PySem.Spec PyProof.Rows L2 SX HL NM DM
/-! ### reading many -/
structure Fmt {D : Type} (R : Hp → D → V → Prop) (f : D → List Nat) : Prop where
  keep : ∀ {H H' : Hp} {d : D} {u : V}, TupK H H' → R H d u → R H' d u
  pos : ∀ {H : Hp} {d : D} {u : V}, R H d u → 0 < (f d).length
def ManyI {D : Type} (C : Addr) (R : Hp → D → V → Prop) (f : D → List Nat) (ds : List D) (p b c : Addr) (x : List Nat) (pos : Nat) (A : Addr) (Hc : Hp) (i : Nat) (H' : Hp) : Prop :=
  Kept Hc H' p ∧ RdAt C H' p b c x (pos + ((ds.take i).map f).flatten.length) ∧ ∃ acc, H' A = some (.lst acc) ∧ acc.length = i ∧ All2 (fun u d => R H' d u) acc (ds.take i)
theorem RdAt.lst {C : Addr} {H : Hp} {p b c : Addr} {x : List Nat} {a : Nat} {A : Addr} {o : HO} (R : RdAt C H p b c x a) (n1 : A ≠ p) (n2 : A ≠ b) (n3 : A ≠ c) : RdAt C (upd H A o) p b c x a := by
  obtain ⟨⟨dx, ho⟩, hd, hc⟩ := R
  exact ⟨⟨dx, by rw [upd_ne (fun e => n1 e.symm)]; exact ho⟩, by rw [upd_ne (fun e => n2 e.symm)]; exact hd, by rw [upd_ne (fun e => n3 e.symm)]; exact hc⟩
theorem RdAt.nn {C : Addr} {H : Hp} {p b c : Addr} {x : List Nat} {a : Nat} {A : Addr} (R : RdAt C H p b c x a) (h : H A = none) : A ≠ p ∧ A ≠ b ∧ A ≠ c := by
  obtain ⟨⟨dx, ho⟩, hd, hc⟩ := R
  exact ⟨fun e => (by rw [e, ho] at h; cases h), fun e => (by rw [e, hd] at h; cases h), fun e => (by rw [e, hc] at h; cases h)⟩
theorem tk_lst {H : Hp} {a : Addr} {o : HO} {xs : List V} (h : H a = some (.lst xs)) : TupK H (upd H a o) := tk_upd fun ys e => by rw [h] at e; cases e
theorem ManyI.start {D : Type} {C : Addr} {R : Hp → D → V → Prop} {f : D → List Nat} {ds : List D} {p b c : Addr} {x : List Nat} {pos : Nat} {A : Addr} {Hc : Hp} (r : RdAt C Hc p b c x pos) (hA : Hc A = none) : ManyI C R f ds p b c x pos A Hc 0 (upd Hc A (.lst [])) :=
  ⟨(same_upd hA).kept p, r.same (same_upd hA), [], upd_same, rfl, .nil⟩
theorem ManyI.step {D : Type} {C : Addr} {R : Hp → D → V → Prop} {f : D → List Nat} (F : Fmt R f) {ds : List D} {p b c : Addr} {x : List Nat} {pos : Nat} {A : Addr} {Hc H1 H2 : Hp} {i : Nat} {d : D} {y : V} (r : RdAt C Hc p b c x pos) (hA : Hc A = none) (hi : i ≤ 1000)
    (I : ManyI C R f ds p b c x pos A Hc i H1) (hd : ds[i]? = some d) (k : Kept H1 H2 p) (r2 : RdAt C H2 p b c x (pos + ((ds.take i).map f).flatten.length + (f d).length)) (hy : R H2 d y) :
    ∃ acc, H2 A = some (.lst acc) ∧ acc.length < sizeLine ∧ ManyI C R f ds p b c x pos A Hc (i + 1) (upd H2 A (.lst (acc ++ [y]))) := by
  obtain ⟨k1, r1, acc, hA1, hal, hacc⟩ := I
  obtain ⟨n1, n2, n3⟩ := r.nn hA
  have hA2 := k _ _ n1 hA1
  have tk12 := tkK r1 k
  have t3 : TupK H2 (upd H2 A (.lst (acc ++ [y]))) := tk_lst hA2
  refine ⟨acc, hA2, Nat.lt_of_le_of_lt (show _ ≤ 600000 by omega) (by decide), fun z o m h => ?_, ?_, acc ++ [y], upd_same, by rw [List.length_append, hal]; rfl, ?_⟩
  · rw [upd_ne (fun e => by rw [e, hA] at h; cases h)]
    exact k _ _ m (k1 _ _ m h)
  · rw [take_snoc hd, List.map_append, List.flatten_append, List.length_append, ← Nat.add_assoc]
    have e : (([d].map f).flatten).length = (f d).length := by simp
    rw [e]
    exact r2.lst n1 n2 n3
  · rw [take_snoc hd]
    exact (hacc.mono fun _ _ q => F.keep t3 (F.keep tk12 q)).app (.one (F.keep t3 hy))
theorem Atx.el {D : Type} {f : D → List Nat} {ds : List D} {x : List Nat} {pos i : Nat} {tail rest : List Nat} {d : D} (h : Atx x pos ((ds.map f).flatten ++ tail) rest) (hd : ds[i]? = some d) :
    ∃ rest', Atx x (pos + ((ds.take i).map f).flatten.length) (f d) rest' := by
  have hi := (List.getElem?_eq_some_iff.mp hd).1
  have e : (ds.map f).flatten = ((ds.take i).map f).flatten ++ (f d ++ ((ds.drop (i + 1)).map f).flatten) := by
    have h2 : ds = ds.take i ++ d :: ds.drop (i + 1) := by
      have := List.take_append_drop i ds
      rw [List.drop_eq_getElem_cons hi, (List.getElem?_eq_some_iff.mp hd).2] at this
      exact this.symm
    have h3 := congrArg (fun l => (l.map f).flatten) h2
    simpa using h3
  rw [e, List.append_assoc] at h
  have h4 := h.snd
  rw [List.append_assoc] at h4
  exact ⟨_, h4.fst⟩
theorem flat_ge {D : Type} {f : D → List Nat} {R : Hp → D → V → Prop} (F : Fmt R f) {H : Hp} : ∀ {us : List V} {ds : List D}, All2 (fun u d => R H d u) us ds → ds.length ≤ ((ds.map f).flatten).length
  | _, _, .nil => Nat.le_refl _
  | _, _, .cons r q => by
    have h1 := F.pos r
    have h2 := flat_ge F q
    rw [List.map_cons, List.flatten_cons, List.length_append, List.length_cons]
    omega
theorem Atx.cnt {D : Type} {f : D → List Nat} {ds : List D} {x : List Nat} {pos : Nat} {tail rest : List Nat} (h : Atx x pos (encL (ds.map f) ++ tail) rest) : Atx x pos (enc ds.length ++ ((ds.map f).flatten ++ tail)) rest := by
  unfold encL at h
  rw [List.length_map, List.append_assoc] at h
  exact h
theorem bB_pos (l : List Nat) : 0 < (bB l).length := by unfold bB; split; decide; split; decide; split; decide; exact Nat.succ_pos _
theorem encS_pos (l : List Nat) : 0 < (encS l).length := by unfold encS; rw [List.length_append]; have := enc_pos l.length; omega
theorem fMark : Fmt MarkAt bMk := ⟨fun k h => h.keep k, fun {H d u} h => by unfold bMk; rw [List.length_append]; have := enc_pos d.1; omega⟩
theorem fKd : Fmt KdAt bK := ⟨fun k h => h.keep k, fun {H d u} h => by unfold bK; rw [List.length_append]; have := enc_pos d.1; omega⟩
theorem fMkr : Fmt MkrAt bM := ⟨fun k h => h.keep k, fun {H d u} h => by unfold bM; rw [List.length_append]; have := encS_pos d.1; omega⟩
theorem fDa : Fmt DaAt bDa := ⟨fun k h => h.keep k, fun {H d u} h => by unfold bDa; rw [List.length_append]; have := encS_pos d.1; omega⟩
theorem fCe : Fmt CeAt bC := ⟨fun k h => h.keep k, fun {H d u} h => by unfold bC; rw [List.length_append]; have := encS_pos d.1; omega⟩
theorem fTri : Fmt TriAt bTri := ⟨fun k h => h.keep k, fun {H d u} h => by unfold bTri; rw [List.length_append]; have := enc_pos d.1; omega⟩
theorem fVa (n : Nat) : Fmt (fun H v x => VaAt H n v x) (bV n) := ⟨fun k h => h.keep k, fun {H d u} h => by
  cases n with
  | zero => exact h.elim
  | succ n => cases d <;> simp [bV]⟩
section
variable {P : Program} {w : World} {K : PySem.W.Frag} {mg : Str → Option Value} {base : Heap}
theorem ok_readKindX {k : Nat} (Z : Defs K mg) : FnOk P w K mg base (L2.CX P w) (k + 4) Z.fReaderReadKind Z.fdReaderReadKind ["self"] (spRd Z.cReader KdAt bK) := by
  have GReaderReadNumber : FnOk P w K mg base CX0 (k + 3) Z.fReaderReadNumber Z.fdReaderReadNumber ["self"] (spRd Z.cReader NumAt enc) := (ok_numQ (k := 0) Z).mono (by omega)
  have GReaderReadByte : FnOk P w K mg base CX0 (k + 3) Z.fReaderReadByte Z.fdReaderReadByte ["self", "most"] (spB Z.cReader) := (ok_byteQ (k := 0) Z).mono (by omega)
  have GReaderReadString : FnOk P w K mg base CX0 (k + 3) Z.fReaderReadString Z.fdReaderReadString ["self"] (spRd Z.cReader TxtAt encS) := (ok_readString (k := 0) Z).mono (by omega)
  refine Z.DReaderReadKind.F.okX scReaderReadKind (fun vs H Q E h => ?_) (fun cdv A outer s H vs Q E hr h => ?_)
  · obtain ⟨p, b, c, x, a, d, rest, rfl, _⟩ := h
    rfl
  · obtain ⟨p, b, c, x, a, d, rest, rfl, R, hx, hat, ⟨_, _, hn, htx, _⟩, qq⟩ := h
    refine ⟨_, (pss_cons (ps_set (i := 1) scReaderReadKind.nd rfl (.inl rfl) (pe_meth0 (pv 0) Z.CReader.cl Z.DReaderReadNumber.m GReaderReadNumber (hr.mono (by omega)) Z.DReaderReadNumber.b .nil pass0))
        (pss_cons (ps_set (i := 2) scReaderReadKind.nd rfl (.inl rfl) (pe_meth (pv 0) Z.CReader.cl Z.DReaderReadByte.m GReaderReadByte (hr.mono (by omega)) Z.DReaderReadByte.b .nil pass0 (pa_cons (pe_callB call_len_seq (by rfl) Z.len PySem.boot_len (pa_cons (pe_glob (v := .ref Z.aBASES) rfl Z.gBASES rfl) pa_nil)) pa_nil)))
        (pss_cons (ps_set (i := 3) scReaderReadKind.nd rfl (.inl rfl) (pe_ifExp (pt_cmpR op_eq (pv 2) (pe_callB call_len_seq (by rfl) Z.len PySem.boot_len (pa_cons (pe_glob (v := .ref Z.aBASES) rfl Z.gBASES rfl) pa_nil)) (nomark _)) (pe_meth0 (pv 0) Z.CReader.cl Z.DReaderReadString.m GReaderReadString (hr.mono (by omega)) Z.DReaderReadString.b .nil pass0) (pe_ix ix_tup (pe_glob (v := .ref Z.aBASES) rfl Z.gBASES rfl) (pv 2) (fun _ _ => rfl))))
        (pss_cons (ps_if (PW.pt (pw_and (pt_cmpR op_eq (pv 2) (pe_callB call_len_seq (by rfl) Z.len PySem.boot_len (pa_cons (pe_glob (v := .ref Z.aBASES) rfl Z.gBASES rfl) pa_nil)) (nomark _)) (pw_and1 (pt_cmpR op_in_seq (pv 3) (pe_glob (v := .ref Z.aBASES) rfl Z.gBASES rfl) rfl)))) (pss_one (ps_raise rfl (takes_of rfl rfl rfl rfl) (SkE.pmk_own1 PySem.F.excBase_ValueError Z.EDamagedPacket.ex Z.EDamagedPacket.g Z.EDamagedPacket.kp (raises_own Z.EDamagedPacket.sub Z.EDamagedPacket.ty) (by rfl) (pe_joined (.cons pe_str (.cons (pe_fmt (pe_fld (pv 0) rfl)) (.cons pe_str .nil))))))) pss_nil)
        (pss_one (ps_ret (pe_tup (pa_cons (pv 1) (pa_cons (pv 3) pa_nil))))))))), ?_⟩
    obtain ⟨n, l⟩ := d
    have sB := Z.sBASES
    by_cases c9 : l = NUM ∨ l = TEXT ∨ l = BOOL
    · obtain ⟨i, hi, hB, hi3⟩ : ∃ i : Nat, atI ([.str "num", .str "text", .str "bool"] : List V) (i : Int) = some (.str (S l)) ∧ bB l = [i] ∧ i < 3 := by
        rcases c9 with rfl | rfl | rfl
        · exact ⟨0, rfl, by decide +kernel, by decide⟩
        · exact ⟨1, rfl, by decide +kernel, by decide⟩
        · exact ⟨2, rfl, by decide +kernel, by decide⟩
      have R0 := R
      have at0 : Atx x a (enc n ++ (i :: [])) rest := by simpa [bK, hB] using hat
      obtain ⟨⟨dx0, ho0⟩, hda0, hch0⟩ := id R0
      refine ⟨_, rfl, p, dx0, _, rfl, ho0, rflds_no _ _ _ (by decide +kernel) (by decide +kernel) (by decide +kernel), p, b, c, x, _, n, _, rfl, R0, hx, at0.fst, ⟨H, _, hn, rfl⟩, fun H1 y1 K1 R1 hy1 => ?_⟩
      have at1 := at0.snd
      obtain ⟨_, rfl⟩ := hy1
      obtain ⟨⟨dx1, ho1⟩, hda1, hch1⟩ := id R1
      refine ⟨_, rfl, p, dx1, _, rfl, ho1, rflds_no _ _ _ (by decide +kernel) (by decide +kernel) (by decide +kernel), Z.aBASES, _, rfl, .inr (sB _), p, b, c, x, _, 3, i, _, _, rfl, R1, hx, at1, by omega, fun H2 K2 R2 => ?_⟩
      have at2 := at1.hd.2
      have hi4 : ¬ decide (vi i = vi 3) = true := fun z => by have := vi_inj (of_decide_eq_true z); omega
      refine ⟨_, rfl, Z.aBASES, _, rfl, .inr (sB _), rfl, _, rfl, iteNo hi4 ⟨_, rfl, Z.aBASES, _, _, .str (S l), rfl, rfl, sB _, hi, ?_⟩⟩
      refine ⟨_, rfl, Z.aBASES, _, rfl, .inr (sB _), rfl, _, rfl, iteNo hi4 (iteF ?_)⟩
      refine ⟨_, rfl, _, rfl, by show 2 ≤ sizeLine; decide, fun X1 hX1 => ?_⟩
      have R3 := R2.same (same_upd (o := (.tup [vi n, .str (S l)])) hX1)
      have K3 := (same_upd (H := H2) (o := (.tup [vi n, .str (S l)])) hX1).kept p
      have gX1 : upd H2 X1 (.tup [vi n, .str (S l)]) X1 = some (.tup [vi n, .str (S l)]) := upd_same
      generalize upd H2 X1 (.tup [vi n, .str (S l)]) = H3 at R3 K3 gX1 ⊢
      refine qq _ (.ref X1) (Kept.trans K1 (Kept.trans K2 K3)) ?_ ⟨hn, htx, X1, rfl, gX1⟩
      have R9 := R3
      simp only [bK, hB, List.length_append, List.length_cons, List.length_nil, Nat.add_assoc, Nat.add_comm 1] at R9 ⊢
      exact R9
    · have hB : bB l = 3 :: encS l := by unfold bB; rw [if_neg (fun z => c9 (.inl z)), if_neg (fun z => c9 (.inr (.inl z))), if_neg (fun z => c9 (.inr (.inr z)))]
      have hin : ¬ inV (.str (S l)) [.str "num", .str "text", .str "bool"] = true := fun z => c9 (by
        have hh : ∀ q : Str, (S l = q) → l = q.cps.toList := fun q e => by rw [← e]
        simp [inV, eqV] at z
        rcases z with z | z | z
        · exact .inl (hh _ z.symm)
        · exact .inr (.inl (hh _ z.symm))
        · exact .inr (.inr (hh _ z.symm)))
      have R0 := R
      have at0 : Atx x a (enc n ++ (3 :: (encS l ++ []))) rest := by simpa [bK, hB] using hat
      obtain ⟨⟨dx0, ho0⟩, hda0, hch0⟩ := id R0
      refine ⟨_, rfl, p, dx0, _, rfl, ho0, rflds_no _ _ _ (by decide +kernel) (by decide +kernel) (by decide +kernel), p, b, c, x, _, n, _, rfl, R0, hx, at0.fst, ⟨H, _, hn, rfl⟩, fun H1 y1 K1 R1 hy1 => ?_⟩
      have at1 := at0.snd
      obtain ⟨_, rfl⟩ := hy1
      obtain ⟨⟨dx1, ho1⟩, hda1, hch1⟩ := id R1
      refine ⟨_, rfl, p, dx1, _, rfl, ho1, rflds_no _ _ _ (by decide +kernel) (by decide +kernel) (by decide +kernel), Z.aBASES, _, rfl, .inr (sB _), p, b, c, x, _, 3, 3, _, _, rfl, R1, hx, at1, by decide, fun H2 K2 R2 => ?_⟩
      have at2 := at1.hd.2
      refine ⟨_, rfl, Z.aBASES, _, rfl, .inr (sB _), rfl, _, rfl, iteYes (decide_eq_true rfl) ?_⟩
      obtain ⟨⟨dx2, ho2⟩, hda2, hch2⟩ := id R2
      refine ⟨_, rfl, p, dx2, _, rfl, ho2, rflds_no _ _ _ (by decide +kernel) (by decide +kernel) (by decide +kernel), p, b, c, x, _, l, _, rfl, R2, hx, at2.fst, ⟨H, _, rfl, htx⟩, fun H3 y3 K3 R3 hy3 => ?_⟩
      have at3 := at2.snd
      obtain ⟨rfl, _⟩ := hy3
      refine ⟨_, rfl, Z.aBASES, _, rfl, .inr (sB _), rfl, _, rfl, iteYes (decide_eq_true rfl) ⟨_, rfl, Z.aBASES, _, rfl, .inr (sB _), rfl, rfl, _, rfl, iteNo hin ?_⟩⟩
      refine ⟨_, rfl, _, rfl, by show 2 ≤ sizeLine; decide, fun X21 hX21 => ?_⟩
      have R4 := R3.same (same_upd (o := (.tup [vi n, .str (S l)])) hX21)
      have K4 := (same_upd (H := H3) (o := (.tup [vi n, .str (S l)])) hX21).kept p
      have gX21 : upd H3 X21 (.tup [vi n, .str (S l)]) X21 = some (.tup [vi n, .str (S l)]) := upd_same
      generalize upd H3 X21 (.tup [vi n, .str (S l)]) = H4 at R4 K4 gX21 ⊢
      refine qq _ (.ref X21) (Kept.trans K1 (Kept.trans K2 (Kept.trans K3 K4))) ?_ ⟨hn, htx, X21, rfl, gX21⟩
      have R9 := R4
      simp only [bK, hB, List.length_append, List.length_cons, List.length_nil, Nat.add_assoc, Nat.add_comm 1] at R9 ⊢
      exact R9
theorem ok_readKind {k : Nat} (Z : Defs K mg) : FnOk P w K mg base CX0 (k + 4) Z.fReaderReadKind Z.fdReaderReadKind ["self"] (spRd Z.cReader KdAt bK) := QT.quiet (ok_readKindX Z) fun vs H Q E h => h
theorem ok_readMaker {k : Nat} (Z : Defs K mg) : FnOk P w K mg base CX0 (k + 5) Z.fReaderReadMaker Z.fdReaderReadMaker ["self"] (spRd Z.cReader MkrAt bM) := by
  have GReaderReadString : FnOk P w K mg base CX0 (k + 4) Z.fReaderReadString Z.fdReaderReadString ["self"] (spRd Z.cReader TxtAt encS) := (ok_readString (k := 0) Z).mono (by omega)
  have GReaderReadCount : FnOk P w K mg base CX0 (k + 4) Z.fReaderReadCount Z.fdReaderReadCount ["self"] (spCnt Z.cReader) := (ok_readCount (k := 0) Z).mono (by omega)
  have GReaderReadKind : FnOk P w K mg base CX0 (k + 4) Z.fReaderReadKind Z.fdReaderReadKind ["self"] (spRd Z.cReader KdAt bK) := (ok_readKind (k := 0) Z).mono (by omega)
  refine Z.DReaderReadMaker.F.ok scReaderReadMaker (fun vs H Q E h => ?_) (fun cdv A outer s H vs Q E hr h => ?_)
  · obtain ⟨p, b, c, x, a, d, rest, rfl, _⟩ := h
    rfl
  · obtain ⟨p, b, c, x, a, d, rest, rfl, R, hx, hat, ⟨_, _, h1, t0, y0, _, _, ⟨q0, us0, _, _, hul0, hus0⟩⟩, qq⟩ := h
    refine ⟨_, (pss_one (ps_ret (pe_tup (pa_cons (pe_meth0 (pv 0) Z.CReader.cl Z.DReaderReadString.m GReaderReadString (hr.mono (by omega)) Z.DReaderReadString.b .nil pass0) (pa_cons (pe_callTy call_tuple_of (by rfl) Z.tuple HL.boot_tuple (pa_cons (pe_lc (own := [("_", 1)]) (g := (gName 1)) (by rfl) scReaderReadMaker.nd (pi_range1 (by rfl) Z.range (pa_cons (pe_meth0 (pv 0) Z.CReader.cl Z.DReaderReadCount.m GReaderReadCount (hr.mono (by omega)) Z.DReaderReadCount.b .nil pass0) pa_nil)) (blkOk_by (own := [("_", 1)]) (N := ["self", "_"]) (sc := defScope sReaderReadMaker) (by decide +kernel)) (fun _ _ _ _ _ => (pg_name (i := 1) scReaderReadMaker.nd rfl (Or.inl rfl))) (fun _ _ _ _ _ => pts_nil) (fun _ _ _ _ _ => (pe_meth0 (pv 0) Z.CReader.cl Z.DReaderReadKind.m GReaderReadKind (hr.mono (by omega)) Z.DReaderReadKind.b .nil pass0))) pa_nil)) pa_nil))))), ?_⟩
    have R0 := R
    have at0 : Atx x a (encS d.1 ++ (encL (d.2.map bK) ++ [])) rest := by simpa [bM] using hat
    obtain ⟨⟨dx0, ho0⟩, hda0, hch0⟩ := id R0
    refine ⟨_, rfl, p, dx0, _, rfl, ho0, rflds_no _ _ _ (by decide +kernel) (by decide +kernel) (by decide +kernel), p, b, c, x, _, d.1, _, rfl, R0, hx, at0.fst, ⟨H, _, rfl, h1⟩, fun H1 y1 K1 R1 hy1 => ?_⟩
    have at1 := at0.snd
    obtain ⟨rfl, _⟩ := hy1
    have hleA1 : d.2.length ≤ 200 := by rw [← hus0.len]; exact hul0
    obtain ⟨⟨dx1, ho1⟩, hda1, hch1⟩ := id R1
    have hnA1 : NOk d.2.length := NOk.small (Nat.lt_of_le_of_lt hleA1 (by decide))
    have atA1 := Atx.cnt (f := bK) (ds := d.2) at1
    refine ⟨_, rfl, p, dx1, _, rfl, ho1, rflds_no _ _ _ (by decide +kernel) (by decide +kernel) (by decide +kernel), p, b, c, x, _, d.2.length, _, rest, rfl, R1, hx, atA1, hnA1, by rw [List.length_append]; have := flat_ge fKd hus0; omega, fun H2 y2 K2 R2 hy2 => ?_⟩
    subst hy2
    have at2 := atA1.snd
    refine ⟨(d.2.length : Int), rfl, by omega, by omega, fun A1 hA1 => ?_⟩
    refine lc_range (lo := 0) (n := (d.2.length : Int).toNat) (fun i H' => ManyI Z.cReader KdAt bK d.2 p b c x _ A1 H2 i H') (ManyI.start R2 hA1) ?_ ?_
    · rintro i G1 hi I
      have hi2 : i < d.2.length := by omega
      obtain ⟨_, r1, _⟩ := id I
      obtain ⟨⟨dxe, hoe⟩, _⟩ := id r1
      obtain ⟨rest', ate⟩ := at2.el (List.getElem?_eq_getElem hi2)
      obtain ⟨ue, _, hue⟩ := all2_memR hus0 (List.getElem_mem hi2)
      exact ⟨rfl, lc_yes ⟨_, rfl, p, dxe, _, rfl, hoe, rflds_no _ _ _ (by decide +kernel) (by decide +kernel) (by decide +kernel), p, b, c, x, _, _, rest', rfl, r1, hx, ate, ⟨_, _, hue⟩, fun G2 y k2 r2 hy => ManyI.step fKd R2 hA1 (by omega) I (List.getElem?_eq_getElem hi2) k2 r2 hy⟩⟩
    rintro H3 ⟨K3, R3, accA1, gA1, halA1, haccA1⟩
    have halA1 : accA1.length = d.2.length := halA1
    have etk : d.2.take (d.2.length : Int).toNat = d.2 := by rw [Int.toNat_natCast]; exact List.take_length
    rw [etk] at R3 haccA1
    have at3 := at2.snd
    refine ⟨A1, _, rfl, .inl ⟨SqL.of gA1, fun TA1 hTA1 => ?_⟩⟩
    have R4 := R3.same (same_upd (o := (.tup accA1)) hTA1)
    have K4 := (same_upd (H := H3) (o := (.tup accA1)) hTA1).kept p
    have tk4 : TupK H3 (upd H3 TA1 (.tup accA1)) := tkS (same_upd hTA1)
    have gTA1 : upd H3 TA1 (.tup accA1) TA1 = some (.tup accA1) := upd_same
    generalize upd H3 TA1 (.tup accA1) = H4 at R4 K4 tk4 gTA1 ⊢
    refine ⟨by show 2 ≤ sizeLine; decide, fun X2 hX2 => ?_⟩
    have R5 := R4.same (same_upd (o := (.tup [.str (S d.1), .ref TA1])) hX2)
    have K5 := (same_upd (H := H4) (o := (.tup [.str (S d.1), .ref TA1])) hX2).kept p
    have gX2 : upd H4 X2 (.tup [.str (S d.1), .ref TA1]) X2 = some (.tup [.str (S d.1), .ref TA1]) := upd_same
    generalize upd H4 X2 (.tup [.str (S d.1), .ref TA1]) = H5 at R5 K5 gX2 ⊢
    have hacc := haccA1.mono fun _ _ q => (q.keep tk4).keep (tkK R4 K5)
    have gT2 := tkK R4 K5 _ _ gTA1
    refine qq _ (.ref X2) (Kept.trans K1 (Kept.trans K2 (Kept.trans K3 (Kept.trans K4 K5)))) ?_ ⟨h1, X2, .ref TA1, rfl, gX2, TA1, _, rfl, gT2, by omega, hacc⟩
    have R9 := R5
    simp only [bM, encL, List.length_map, List.length_append, List.length_cons, List.length_nil, Nat.add_assoc, Nat.add_comm 1] at R9 ⊢
    exact R9
theorem ok_readData {k : Nat} (Z : Defs K mg) : FnOk P w K mg base CX0 (k + 6) Z.fReaderReadData Z.fdReaderReadData ["self"] (spRd Z.cReader DaAt bDa) := by
  have GReaderReadString : FnOk P w K mg base CX0 (k + 5) Z.fReaderReadString Z.fdReaderReadString ["self"] (spRd Z.cReader TxtAt encS) := (ok_readString (k := 0) Z).mono (by omega)
  have GReaderReadCount : FnOk P w K mg base CX0 (k + 5) Z.fReaderReadCount Z.fdReaderReadCount ["self"] (spCnt Z.cReader) := (ok_readCount (k := 0) Z).mono (by omega)
  have GReaderReadMaker : FnOk P w K mg base CX0 (k + 5) Z.fReaderReadMaker Z.fdReaderReadMaker ["self"] (spRd Z.cReader MkrAt bM) := (ok_readMaker (k := 0) Z).mono (by omega)
  refine Z.DReaderReadData.F.ok scReaderReadData (fun vs H Q E h => ?_) (fun cdv A outer s H vs Q E hr h => ?_)
  · obtain ⟨p, b, c, x, a, d, rest, rfl, _⟩ := h
    rfl
  · obtain ⟨p, b, c, x, a, d, rest, rfl, R, hx, hat, ⟨_, _, h1, t0, y0, _, _, ⟨q0, us0, _, _, hul0, hus0⟩⟩, qq⟩ := h
    refine ⟨_, (pss_one (ps_ret (pe_tup (pa_cons (pe_meth0 (pv 0) Z.CReader.cl Z.DReaderReadString.m GReaderReadString (hr.mono (by omega)) Z.DReaderReadString.b .nil pass0) (pa_cons (pe_callTy call_tuple_of (by rfl) Z.tuple HL.boot_tuple (pa_cons (pe_lc (own := [("_", 1)]) (g := (gName 1)) (by rfl) scReaderReadData.nd (pi_range1 (by rfl) Z.range (pa_cons (pe_meth0 (pv 0) Z.CReader.cl Z.DReaderReadCount.m GReaderReadCount (hr.mono (by omega)) Z.DReaderReadCount.b .nil pass0) pa_nil)) (blkOk_by (own := [("_", 1)]) (N := ["self", "_"]) (sc := defScope sReaderReadData) (by decide +kernel)) (fun _ _ _ _ _ => (pg_name (i := 1) scReaderReadData.nd rfl (Or.inl rfl))) (fun _ _ _ _ _ => pts_nil) (fun _ _ _ _ _ => (pe_meth0 (pv 0) Z.CReader.cl Z.DReaderReadMaker.m GReaderReadMaker (hr.mono (by omega)) Z.DReaderReadMaker.b .nil pass0))) pa_nil)) pa_nil))))), ?_⟩
    have R0 := R
    have at0 : Atx x a (encS d.1 ++ (encL (d.2.map bM) ++ [])) rest := by simpa [bDa] using hat
    obtain ⟨⟨dx0, ho0⟩, hda0, hch0⟩ := id R0
    refine ⟨_, rfl, p, dx0, _, rfl, ho0, rflds_no _ _ _ (by decide +kernel) (by decide +kernel) (by decide +kernel), p, b, c, x, _, d.1, _, rfl, R0, hx, at0.fst, ⟨H, _, rfl, h1⟩, fun H1 y1 K1 R1 hy1 => ?_⟩
    have at1 := at0.snd
    obtain ⟨rfl, _⟩ := hy1
    have hleA1 : d.2.length ≤ 200 := by rw [← hus0.len]; exact hul0
    obtain ⟨⟨dx1, ho1⟩, hda1, hch1⟩ := id R1
    have hnA1 : NOk d.2.length := NOk.small (Nat.lt_of_le_of_lt hleA1 (by decide))
    have atA1 := Atx.cnt (f := bM) (ds := d.2) at1
    refine ⟨_, rfl, p, dx1, _, rfl, ho1, rflds_no _ _ _ (by decide +kernel) (by decide +kernel) (by decide +kernel), p, b, c, x, _, d.2.length, _, rest, rfl, R1, hx, atA1, hnA1, by rw [List.length_append]; have := flat_ge fMkr hus0; omega, fun H2 y2 K2 R2 hy2 => ?_⟩
    subst hy2
    have at2 := atA1.snd
    refine ⟨(d.2.length : Int), rfl, by omega, by omega, fun A1 hA1 => ?_⟩
    refine lc_range (lo := 0) (n := (d.2.length : Int).toNat) (fun i H' => ManyI Z.cReader MkrAt bM d.2 p b c x _ A1 H2 i H') (ManyI.start R2 hA1) ?_ ?_
    · rintro i G1 hi I
      have hi2 : i < d.2.length := by omega
      obtain ⟨_, r1, _⟩ := id I
      obtain ⟨⟨dxe, hoe⟩, _⟩ := id r1
      obtain ⟨rest', ate⟩ := at2.el (List.getElem?_eq_getElem hi2)
      obtain ⟨ue, _, hue⟩ := all2_memR hus0 (List.getElem_mem hi2)
      exact ⟨rfl, lc_yes ⟨_, rfl, p, dxe, _, rfl, hoe, rflds_no _ _ _ (by decide +kernel) (by decide +kernel) (by decide +kernel), p, b, c, x, _, _, rest', rfl, r1, hx, ate, ⟨_, _, hue⟩, fun G2 y k2 r2 hy => ManyI.step fMkr R2 hA1 (by omega) I (List.getElem?_eq_getElem hi2) k2 r2 hy⟩⟩
    rintro H3 ⟨K3, R3, accA1, gA1, halA1, haccA1⟩
    have halA1 : accA1.length = d.2.length := halA1
    have etk : d.2.take (d.2.length : Int).toNat = d.2 := by rw [Int.toNat_natCast]; exact List.take_length
    rw [etk] at R3 haccA1
    have at3 := at2.snd
    refine ⟨A1, _, rfl, .inl ⟨SqL.of gA1, fun TA1 hTA1 => ?_⟩⟩
    have R4 := R3.same (same_upd (o := (.tup accA1)) hTA1)
    have K4 := (same_upd (H := H3) (o := (.tup accA1)) hTA1).kept p
    have tk4 : TupK H3 (upd H3 TA1 (.tup accA1)) := tkS (same_upd hTA1)
    have gTA1 : upd H3 TA1 (.tup accA1) TA1 = some (.tup accA1) := upd_same
    generalize upd H3 TA1 (.tup accA1) = H4 at R4 K4 tk4 gTA1 ⊢
    refine ⟨by show 2 ≤ sizeLine; decide, fun X2 hX2 => ?_⟩
    have R5 := R4.same (same_upd (o := (.tup [.str (S d.1), .ref TA1])) hX2)
    have K5 := (same_upd (H := H4) (o := (.tup [.str (S d.1), .ref TA1])) hX2).kept p
    have gX2 : upd H4 X2 (.tup [.str (S d.1), .ref TA1]) X2 = some (.tup [.str (S d.1), .ref TA1]) := upd_same
    generalize upd H4 X2 (.tup [.str (S d.1), .ref TA1]) = H5 at R5 K5 gX2 ⊢
    have hacc := haccA1.mono fun _ _ q => (q.keep tk4).keep (tkK R4 K5)
    have gT2 := tkK R4 K5 _ _ gTA1
    refine qq _ (.ref X2) (Kept.trans K1 (Kept.trans K2 (Kept.trans K3 (Kept.trans K4 K5)))) ?_ ⟨h1, X2, .ref TA1, rfl, gX2, TA1, _, rfl, gT2, by omega, hacc⟩
    have R9 := R5
    simp only [bDa, encL, List.length_map, List.length_append, List.length_cons, List.length_nil, Nat.add_assoc, Nat.add_comm 1] at R9 ⊢
    exact R9
end
end Q40
namespace Q40
open PySem PySem.Spec PyProof.Rows L2 SX HL NM DM
theorem Atx.cast {x : List Nat} {a : Nat} {b1 b2 rest : List Nat} (h : Atx x a b1 rest) (e : b1 = b2) : Atx x a b2 rest := by rw [← e]; exact h
section
variable {P : Program} {w : World} {K : PySem.W.Frag} {mg : Str → Option Value} {base : Heap}
theorem ok_readShape {k : Nat} (Z : Defs K mg) : FnOk P w K mg base CX0 (k + 7) Z.fReaderReadShape Z.fdReaderReadShape ["self"] (spRd Z.cReader ShAt bSh) := by
  have GReaderReadKind : FnOk P w K mg base CX0 (k + 6) Z.fReaderReadKind Z.fdReaderReadKind ["self"] (spRd Z.cReader KdAt bK) := (ok_readKind (k := 0) Z).mono (by omega)
  have GReaderReadCount : FnOk P w K mg base CX0 (k + 6) Z.fReaderReadCount Z.fdReaderReadCount ["self"] (spCnt Z.cReader) := (ok_readCount (k := 0) Z).mono (by omega)
  have GReaderReadData : FnOk P w K mg base CX0 (k + 6) Z.fReaderReadData Z.fdReaderReadData ["self"] (spRd Z.cReader DaAt bDa) := (ok_readData (k := 0) Z).mono (by omega)
  refine Z.DReaderReadShape.F.ok scReaderReadShape (fun vs H Q E h => ?_) (fun cdv A outer s H vs Q E hr h => ?_)
  · obtain ⟨p, b, c, x, a, d, rest, rfl, _⟩ := h
    rfl
  · obtain ⟨p, b, c, x, a, d, rest, rfl, R, hx, hat, ⟨_, _, t0, kd0, y0, _, _, hkd0, ⟨q0, us0, _, _, hul0, hus0⟩⟩, qq⟩ := h
    refine ⟨_, (pss_one (ps_ret (pe_tup (pa_cons (pe_meth0 (pv 0) Z.CReader.cl Z.DReaderReadKind.m GReaderReadKind (hr.mono (by omega)) Z.DReaderReadKind.b .nil pass0) (pa_cons (pe_callTy call_tuple_of (by rfl) Z.tuple HL.boot_tuple (pa_cons (pe_lc (own := [("_", 1)]) (g := (gName 1)) (by rfl) scReaderReadShape.nd (pi_range1 (by rfl) Z.range (pa_cons (pe_meth0 (pv 0) Z.CReader.cl Z.DReaderReadCount.m GReaderReadCount (hr.mono (by omega)) Z.DReaderReadCount.b .nil pass0) pa_nil)) (blkOk_by (own := [("_", 1)]) (N := ["self", "_"]) (sc := defScope sReaderReadShape) (by decide +kernel)) (fun _ _ _ _ _ => (pg_name (i := 1) scReaderReadShape.nd rfl (Or.inl rfl))) (fun _ _ _ _ _ => pts_nil) (fun _ _ _ _ _ => (pe_meth0 (pv 0) Z.CReader.cl Z.DReaderReadData.m GReaderReadData (hr.mono (by omega)) Z.DReaderReadData.b .nil pass0))) pa_nil)) pa_nil))))), ?_⟩
    have R0 := R
    have at0 : Atx x a (bK d.1 ++ (encL (d.2.map bDa) ++ [])) rest := by simpa [bSh] using hat
    obtain ⟨⟨dx0, ho0⟩, hda0, hch0⟩ := id R0
    refine ⟨_, rfl, p, dx0, _, rfl, ho0, rflds_no _ _ _ (by decide +kernel) (by decide +kernel) (by decide +kernel), p, b, c, x, _, d.1, _, rfl, R0, hx, at0.fst, ⟨_, _, hkd0⟩, fun H1 y1 K1 R1 hy1 => ?_⟩
    have at1 := at0.snd
    have hleA1 : d.2.length ≤ 200 := by rw [← hus0.len]; exact hul0
    obtain ⟨⟨dx1, ho1⟩, hda1, hch1⟩ := id R1
    have hnA1 : NOk d.2.length := NOk.small (Nat.lt_of_le_of_lt hleA1 (by decide))
    have atA1 := Atx.cnt (f := bDa) (ds := d.2) at1
    refine ⟨_, rfl, p, dx1, _, rfl, ho1, rflds_no _ _ _ (by decide +kernel) (by decide +kernel) (by decide +kernel), p, b, c, x, _, d.2.length, _, rest, rfl, R1, hx, atA1, hnA1, by rw [List.length_append]; have := flat_ge fDa hus0; omega, fun H2 y2 K2 R2 hy2 => ?_⟩
    subst hy2
    have at2 := atA1.snd
    refine ⟨(d.2.length : Int), rfl, by omega, by omega, fun A1 hA1 => ?_⟩
    refine lc_range (lo := 0) (n := (d.2.length : Int).toNat) (fun i H' => ManyI Z.cReader DaAt bDa d.2 p b c x _ A1 H2 i H') (ManyI.start R2 hA1) ?_ ?_
    · rintro i G1 hi I
      have hi2 : i < d.2.length := by omega
      obtain ⟨_, r1, _⟩ := id I
      obtain ⟨⟨dxe, hoe⟩, _⟩ := id r1
      obtain ⟨rest', ate⟩ := at2.el (List.getElem?_eq_getElem hi2)
      obtain ⟨ue, _, hue⟩ := all2_memR hus0 (List.getElem_mem hi2)
      exact ⟨rfl, lc_yes ⟨_, rfl, p, dxe, _, rfl, hoe, rflds_no _ _ _ (by decide +kernel) (by decide +kernel) (by decide +kernel), p, b, c, x, _, _, rest', rfl, r1, hx, ate, ⟨_, _, hue⟩, fun G2 y k2 r2 hy => ManyI.step fDa R2 hA1 (by omega) I (List.getElem?_eq_getElem hi2) k2 r2 hy⟩⟩
    rintro H3 ⟨K3, R3, accA1, gA1, halA1, haccA1⟩
    have halA1 : accA1.length = d.2.length := halA1
    have etk : d.2.take (d.2.length : Int).toNat = d.2 := by rw [Int.toNat_natCast]; exact List.take_length
    rw [etk] at R3 haccA1
    have at3 := at2.snd
    refine ⟨A1, _, rfl, .inl ⟨SqL.of gA1, fun TA1 hTA1 => ?_⟩⟩
    have R4 := R3.same (same_upd (o := (.tup accA1)) hTA1)
    have K4 := (same_upd (H := H3) (o := (.tup accA1)) hTA1).kept p
    have tk4 : TupK H3 (upd H3 TA1 (.tup accA1)) := tkS (same_upd hTA1)
    have gTA1 : upd H3 TA1 (.tup accA1) TA1 = some (.tup accA1) := upd_same
    generalize upd H3 TA1 (.tup accA1) = H4 at R4 K4 tk4 gTA1 ⊢
    refine ⟨by show 2 ≤ sizeLine; decide, fun X2 hX2 => ?_⟩
    have R5 := R4.same (same_upd (o := (.tup [y1, .ref TA1])) hX2)
    have K5 := (same_upd (H := H4) (o := (.tup [y1, .ref TA1])) hX2).kept p
    have gX2 : upd H4 X2 (.tup [y1, .ref TA1]) X2 = some (.tup [y1, .ref TA1]) := upd_same
    generalize upd H4 X2 (.tup [y1, .ref TA1]) = H5 at R5 K5 gX2 ⊢
    have hacc := haccA1.mono fun _ _ q => (q.keep tk4).keep (tkK R4 K5)
    have gT2 := tkK R4 K5 _ _ gTA1
    refine qq _ (.ref X2) (Kept.trans K1 (Kept.trans K2 (Kept.trans K3 (Kept.trans K4 K5)))) ?_ ⟨X2, y1, .ref TA1, rfl, gX2, (hy1.keep (tkK R1 (Kept.trans K2 (Kept.trans K3 (Kept.trans K4 K5))))), TA1, _, rfl, gT2, by omega, hacc⟩
    have R9 := R5
    simp only [bSh, encL, List.length_map, List.length_append, List.length_cons, List.length_nil, Nat.add_assoc, Nat.add_comm 1] at R9 ⊢
    exact R9
theorem ok_readDeed {k : Nat} (Z : Defs K mg) : FnOk P w K mg base CX0 (k + 5) Z.fReaderReadDeed Z.fdReaderReadDeed ["self"] (spRd Z.cReader DeAt bDe) := by
  have GReaderReadByte : FnOk P w K mg base CX0 (k + 4) Z.fReaderReadByte Z.fdReaderReadByte ["self", "most"] (spB Z.cReader) := (ok_byteQ (k := 0) Z).mono (by omega)
  have GReaderReadNumber : FnOk P w K mg base CX0 (k + 4) Z.fReaderReadNumber Z.fdReaderReadNumber ["self"] (spRd Z.cReader NumAt enc) := (ok_numQ (k := 0) Z).mono (by omega)
  have GReaderReadString : FnOk P w K mg base CX0 (k + 4) Z.fReaderReadString Z.fdReaderReadString ["self"] (spRd Z.cReader TxtAt encS) := (ok_readString (k := 0) Z).mono (by omega)
  have GReaderReadCount : FnOk P w K mg base CX0 (k + 4) Z.fReaderReadCount Z.fdReaderReadCount ["self"] (spCnt Z.cReader) := (ok_readCount (k := 0) Z).mono (by omega)
  have GReaderReadMark : FnOk P w K mg base CX0 (k + 4) Z.fReaderReadMark Z.fdReaderReadMark ["self"] (spRd Z.cReader MarkAt bMk) := (ok_readMark (k := 0) Z).mono (by omega)
  refine Z.DReaderReadDeed.F.ok scReaderReadDeed (fun vs H Q E h => ?_) (fun cdv A outer s H vs Q E hr h => ?_)
  · obtain ⟨p, b, c, x, a, d, rest, rfl, _⟩ := h
    rfl
  · obtain ⟨p, b, c, x, a, d, rest, rfl, R, hx, hat, ⟨_, _, hd0⟩, qq⟩ := h
    refine ⟨_, (pss_cons (ps_if (pt_cmpR op_eq (pe_meth (pv 0) Z.CReader.cl Z.DReaderReadByte.m GReaderReadByte (hr.mono (by omega)) Z.DReaderReadByte.b .nil pass0 (pa_cons pe_int pa_nil)) pe_int (nomark _)) (pss_one (ps_ret (pe_tup (pa_cons pe_str (pa_cons (pe_meth0 (pv 0) Z.CReader.cl Z.DReaderReadNumber.m GReaderReadNumber (hr.mono (by omega)) Z.DReaderReadNumber.b .nil pass0) pa_nil))))) pss_nil)
        (pss_cons (ps_set (i := 1) scReaderReadDeed.nd rfl (.inl rfl) (pe_meth0 (pv 0) Z.CReader.cl Z.DReaderReadString.m GReaderReadString (hr.mono (by omega)) Z.DReaderReadString.b .nil pass0))
        (pss_cons (ps_set (i := 2) scReaderReadDeed.nd rfl (.inl rfl) (pe_callTy call_tuple_of (by rfl) Z.tuple HL.boot_tuple (pa_cons (pe_lc (own := [("_", 4)]) (g := (gName 4)) (by rfl) scReaderReadDeed.nd (pi_range1 (by rfl) Z.range (pa_cons (pe_meth0 (pv 0) Z.CReader.cl Z.DReaderReadCount.m GReaderReadCount (hr.mono (by omega)) Z.DReaderReadCount.b .nil pass0) pa_nil)) (blkOk_by (own := [("_", 4)]) (N := ["self", "module", "removed", "behind", "_"]) (sc := defScope sReaderReadDeed) (by decide +kernel)) (fun _ _ _ _ _ => (pg_name (i := 4) scReaderReadDeed.nd rfl (Or.inl rfl))) (fun _ _ _ _ _ => pts_nil) (fun _ _ _ _ _ => (pe_meth0 (pv 0) Z.CReader.cl Z.DReaderReadMark.m GReaderReadMark (hr.mono (by omega)) Z.DReaderReadMark.b .nil pass0))) pa_nil)))
        (pss_cons (ps_set (i := 3) scReaderReadDeed.nd rfl (.inl rfl) (pe_ifExp (pt_cmpR op_eq (pe_meth (pv 0) Z.CReader.cl Z.DReaderReadByte.m GReaderReadByte (hr.mono (by omega)) Z.DReaderReadByte.b .nil pass0 (pa_cons pe_int pa_nil)) pe_int (nomark _)) (pe_meth0 (pv 0) Z.CReader.cl Z.DReaderReadMark.m GReaderReadMark (hr.mono (by omega)) Z.DReaderReadMark.b .nil pass0) pe_non))
        (pss_one (ps_ret (pe_tup (pa_cons pe_str (pa_cons (pv 1) (pa_cons (pv 2) (pa_cons (pv 3) (pa_cons (pe_meth0 (pv 0) Z.CReader.cl Z.DReaderReadNumber.m GReaderReadNumber (hr.mono (by omega)) Z.DReaderReadNumber.b .nil pass0) (pa_cons (pe_meth0 (pv 0) Z.CReader.cl Z.DReaderReadString.m GReaderReadString (hr.mono (by omega)) Z.DReaderReadString.b .nil pass0) pa_nil))))))))))))), ?_⟩
    cases d with
    | back n =>
      obtain ⟨hn, _⟩ := hd0
      have R0 := R
      have at0 : Atx x a (1 :: (enc n ++ [])) rest := by simpa [bDe] using hat
      obtain ⟨⟨dx0, ho0⟩, hda0, hch0⟩ := id R0
      refine ⟨_, rfl, p, dx0, _, rfl, ho0, rflds_no _ _ _ (by decide +kernel) (by decide +kernel) (by decide +kernel), p, b, c, x, _, 1, 1, _, _, rfl, R0, hx, at0, by decide, fun H1 K1 R1 => ?_⟩
      have at1 := at0.hd.2
      refine ⟨rfl, _, rfl, iteYes (decide_eq_true rfl) ?_⟩
      obtain ⟨⟨dx1, ho1⟩, hda1, hch1⟩ := id R1
      refine ⟨_, rfl, p, dx1, _, rfl, ho1, rflds_no _ _ _ (by decide +kernel) (by decide +kernel) (by decide +kernel), p, b, c, x, _, n, _, rfl, R1, hx, at1.fst, ⟨H, _, hn, rfl⟩, fun H2 y2 K2 R2 hy2 => ?_⟩
      have at2 := at1.snd
      obtain ⟨_, rfl⟩ := hy2
      refine ⟨by show 2 ≤ sizeLine; decide, fun X1 hX1 => ?_⟩
      have R3 := R2.same (same_upd (o := (.tup [.str "back", vi n])) hX1)
      have K3 := (same_upd (H := H2) (o := (.tup [.str "back", vi n])) hX1).kept p
      have gX1 : upd H2 X1 (.tup [.str "back", vi n]) X1 = some (.tup [.str "back", vi n]) := upd_same
      generalize upd H2 X1 (.tup [.str "back", vi n]) = H3 at R3 K3 gX1 ⊢
      refine qq _ (.ref X1) (Kept.trans K1 (Kept.trans K2 K3)) ?_ ⟨hn, X1, rfl, gX1⟩
      have R9 := R3
      simp only [bDe, List.length_append, List.length_cons, List.length_nil, Nat.add_assoc, Nat.add_comm 1] at R9 ⊢
      exact R9
    | change m r bh n l =>
      obtain ⟨hm, hn, hll, _, _, _, _, _, ⟨q0, us0, _, _, hul0, hus0⟩, hb0⟩ := hd0
      have R0 := R
      have at0 : Atx x a (0 :: (encS m ++ (encL (r.map bMk) ++ (bBe bh ++ (enc n ++ (encS l ++ [])))))) rest := by simpa [bDe] using hat
      obtain ⟨⟨dx0, ho0⟩, hda0, hch0⟩ := id R0
      refine ⟨_, rfl, p, dx0, _, rfl, ho0, rflds_no _ _ _ (by decide +kernel) (by decide +kernel) (by decide +kernel), p, b, c, x, _, 1, 0, _, _, rfl, R0, hx, at0, by decide, fun H1 K1 R1 => ?_⟩
      have at1 := at0.hd.2
      refine ⟨rfl, _, rfl, iteNo (fun z => by have := of_decide_eq_true z; cases this) ?_⟩
      obtain ⟨⟨dx1, ho1⟩, hda1, hch1⟩ := id R1
      refine ⟨_, rfl, p, dx1, _, rfl, ho1, rflds_no _ _ _ (by decide +kernel) (by decide +kernel) (by decide +kernel), p, b, c, x, _, m, _, rfl, R1, hx, at1.fst, ⟨H, _, rfl, hm⟩, fun H2 y2 K2 R2 hy2 => ?_⟩
      have at2 := at1.snd
      obtain ⟨rfl, _⟩ := hy2
      have hleA11 : r.length ≤ 200 := by rw [← hus0.len]; exact hul0
      obtain ⟨⟨dx2, ho2⟩, hda2, hch2⟩ := id R2
      have hnA11 : NOk r.length := NOk.small (Nat.lt_of_le_of_lt hleA11 (by decide))
      have atA11 := Atx.cnt (f := bMk) (ds := r) at2
      refine ⟨_, rfl, p, dx2, _, rfl, ho2, rflds_no _ _ _ (by decide +kernel) (by decide +kernel) (by decide +kernel), p, b, c, x, _, r.length, _, rest, rfl, R2, hx, atA11, hnA11, by rw [List.length_append]; have := flat_ge fMark hus0; omega, fun H3 y3 K3 R3 hy3 => ?_⟩
      subst hy3
      have at3 := atA11.snd
      refine ⟨(r.length : Int), rfl, by omega, by omega, fun A11 hA11 => ?_⟩
      refine lc_range (lo := 0) (n := (r.length : Int).toNat) (fun i H' => ManyI Z.cReader MarkAt bMk r p b c x _ A11 H3 i H') (ManyI.start R3 hA11) ?_ ?_
      · rintro i G1 hi I
        have hi2 : i < r.length := by omega
        obtain ⟨_, r1, _⟩ := id I
        obtain ⟨⟨dxe, hoe⟩, _⟩ := id r1
        obtain ⟨rest', ate⟩ := at3.el (List.getElem?_eq_getElem hi2)
        obtain ⟨ue, _, hue⟩ := all2_memR hus0 (List.getElem_mem hi2)
        exact ⟨rfl, lc_yes ⟨_, rfl, p, dxe, _, rfl, hoe, rflds_no _ _ _ (by decide +kernel) (by decide +kernel) (by decide +kernel), p, b, c, x, _, _, rest', rfl, r1, hx, ate, ⟨_, _, hue⟩, fun G2 y k2 r2 hy => ManyI.step fMark R3 hA11 (by omega) I (List.getElem?_eq_getElem hi2) k2 r2 hy⟩⟩
      rintro H4 ⟨K4, R4, accA11, gA11, halA11, haccA11⟩
      have halA11 : accA11.length = r.length := halA11
      have etk : r.take (r.length : Int).toNat = r := by rw [Int.toNat_natCast]; exact List.take_length
      rw [etk] at R4 haccA11
      have at4 := at3.snd
      refine ⟨A11, _, rfl, .inl ⟨SqL.of gA11, fun TA11 hTA11 => ?_⟩⟩
      have R5 := R4.same (same_upd (o := (.tup accA11)) hTA11)
      have K5 := (same_upd (H := H4) (o := (.tup accA11)) hTA11).kept p
      have tk5 : TupK H4 (upd H4 TA11 (.tup accA11)) := tkS (same_upd hTA11)
      have gTA11 : upd H4 TA11 (.tup accA11) TA11 = some (.tup accA11) := upd_same
      generalize upd H4 TA11 (.tup accA11) = H5 at R5 K5 tk5 gTA11 ⊢
      have haccT := haccA11.mono fun _ _ q => q.keep tk5
      cases bh with
      | none =>
        have at0n := Atx.cast (b2 := 0 :: (enc n ++ (encS l ++ []))) at4 rfl
        obtain ⟨⟨dx5, ho5⟩, hda5, hch5⟩ := id R5
        refine ⟨_, rfl, p, dx5, _, rfl, ho5, rflds_no _ _ _ (by decide +kernel) (by decide +kernel) (by decide +kernel), p, b, c, x, _, 1, 0, _, _, rfl, R5, hx, at0n, by decide, fun H6 K6 R6 => ?_⟩
        have at6 := at0n.hd.2
        refine ⟨rfl, _, rfl, iteNo (fun z => by have := of_decide_eq_true z; cases this) ?_⟩
        obtain ⟨⟨dx6, ho6⟩, hda6, hch6⟩ := id R6
        refine ⟨_, rfl, _, rfl, _, rfl, _, rfl, p, dx6, _, rfl, ho6, rflds_no _ _ _ (by decide +kernel) (by decide +kernel) (by decide +kernel), p, b, c, x, _, n, _, rfl, R6, hx, at6.fst, ⟨H, _, hn, rfl⟩, fun H7 y7 K7 R7 hy7 => ?_⟩
        have at7 := at6.snd
        obtain ⟨_, rfl⟩ := hy7
        obtain ⟨⟨dx7, ho7⟩, hda7, hch7⟩ := id R7
        refine ⟨_, rfl, p, dx7, _, rfl, ho7, rflds_no _ _ _ (by decide +kernel) (by decide +kernel) (by decide +kernel), p, b, c, x, _, l, _, rfl, R7, hx, at7.fst, ⟨H, _, rfl, hll⟩, fun H8 y8 K8 R8 hy8 => ?_⟩
        have at8 := at7.snd
        obtain ⟨rfl, _⟩ := hy8
        refine ⟨by show 6 ≤ sizeLine; decide, fun X12 hX12 => ?_⟩
        have R9 := R8.same (same_upd (o := (.tup [.str "change", .str (S m), .ref TA11, .non, vi n, .str (S l)])) hX12)
        have K9 := (same_upd (H := H8) (o := (.tup [.str "change", .str (S m), .ref TA11, .non, vi n, .str (S l)])) hX12).kept p
        have gX12 : upd H8 X12 (.tup [.str "change", .str (S m), .ref TA11, .non, vi n, .str (S l)]) X12 = some (.tup [.str "change", .str (S m), .ref TA11, .non, vi n, .str (S l)]) := upd_same
        generalize upd H8 X12 (.tup [.str "change", .str (S m), .ref TA11, .non, vi n, .str (S l)]) = H9 at R9 K9 gX12 ⊢
        refine qq _ (.ref X12) (Kept.trans K1 (Kept.trans K2 (Kept.trans K3 (Kept.trans K4 (Kept.trans K5 (Kept.trans K6 (Kept.trans K7 (Kept.trans K8 K9)))))))) ?_ ⟨hm, hn, hll, X12, .ref TA11, .non, rfl, gX12, ⟨TA11, _, rfl, (tkK R5 (Kept.trans K6 (Kept.trans K7 (Kept.trans K8 K9)))) _ _ gTA11, by omega, haccT.mono fun _ _ q => q.keep (tkK R5 (Kept.trans K6 (Kept.trans K7 (Kept.trans K8 K9))))⟩, rfl⟩
        have R9 := R9
        simp only [bDe, bBe, encL, List.length_map, List.length_append, List.length_cons, List.length_nil, Nat.add_assoc, Nat.add_comm 1] at R9 ⊢
        exact R9
      | some mb =>
        have at0n := Atx.cast (b2 := 1 :: (bMk mb ++ (enc n ++ (encS l ++ [])))) at4 (by simp [bBe])
        obtain ⟨⟨dx5, ho5⟩, hda5, hch5⟩ := id R5
        refine ⟨_, rfl, p, dx5, _, rfl, ho5, rflds_no _ _ _ (by decide +kernel) (by decide +kernel) (by decide +kernel), p, b, c, x, _, 1, 1, _, _, rfl, R5, hx, at0n, by decide, fun H6 K6 R6 => ?_⟩
        have at6 := at0n.hd.2
        refine ⟨rfl, _, rfl, iteYes (decide_eq_true rfl) ?_⟩
        obtain ⟨⟨dx6, ho6⟩, hda6, hch6⟩ := id R6
        refine ⟨_, rfl, p, dx6, _, rfl, ho6, rflds_no _ _ _ (by decide +kernel) (by decide +kernel) (by decide +kernel), p, b, c, x, _, mb, _, rfl, R6, hx, at6.fst, ⟨_, _, hb0⟩, fun H7 y7 K7 R7 hy7 => ?_⟩
        have at7 := at6.snd
        obtain ⟨⟨dx7, ho7⟩, hda7, hch7⟩ := id R7
        refine ⟨_, rfl, _, rfl, _, rfl, _, rfl, p, dx7, _, rfl, ho7, rflds_no _ _ _ (by decide +kernel) (by decide +kernel) (by decide +kernel), p, b, c, x, _, n, _, rfl, R7, hx, at7.fst, ⟨H, _, hn, rfl⟩, fun H8 y8 K8 R8 hy8 => ?_⟩
        have at8 := at7.snd
        obtain ⟨_, rfl⟩ := hy8
        obtain ⟨⟨dx8, ho8⟩, hda8, hch8⟩ := id R8
        refine ⟨_, rfl, p, dx8, _, rfl, ho8, rflds_no _ _ _ (by decide +kernel) (by decide +kernel) (by decide +kernel), p, b, c, x, _, l, _, rfl, R8, hx, at8.fst, ⟨H, _, rfl, hll⟩, fun H9 y9 K9 R9 hy9 => ?_⟩
        have at9 := at8.snd
        obtain ⟨rfl, _⟩ := hy9
        refine ⟨by show 6 ≤ sizeLine; decide, fun X12 hX12 => ?_⟩
        have R10 := R9.same (same_upd (o := (.tup [.str "change", .str (S m), .ref TA11, y7, vi n, .str (S l)])) hX12)
        have K10 := (same_upd (H := H9) (o := (.tup [.str "change", .str (S m), .ref TA11, y7, vi n, .str (S l)])) hX12).kept p
        have gX12 : upd H9 X12 (.tup [.str "change", .str (S m), .ref TA11, y7, vi n, .str (S l)]) X12 = some (.tup [.str "change", .str (S m), .ref TA11, y7, vi n, .str (S l)]) := upd_same
        generalize upd H9 X12 (.tup [.str "change", .str (S m), .ref TA11, y7, vi n, .str (S l)]) = H10 at R10 K10 gX12 ⊢
        refine qq _ (.ref X12) (Kept.trans K1 (Kept.trans K2 (Kept.trans K3 (Kept.trans K4 (Kept.trans K5 (Kept.trans K6 (Kept.trans K7 (Kept.trans K8 (Kept.trans K9 K10))))))))) ?_ ⟨hm, hn, hll, X12, .ref TA11, y7, rfl, gX12, ⟨TA11, _, rfl, (tkK R5 (Kept.trans K6 (Kept.trans K7 (Kept.trans K8 (Kept.trans K9 K10))))) _ _ gTA11, by omega, haccT.mono fun _ _ q => q.keep (tkK R5 (Kept.trans K6 (Kept.trans K7 (Kept.trans K8 (Kept.trans K9 K10)))))⟩, (hy7.keep (tkK R7 (Kept.trans K8 (Kept.trans K9 K10))))⟩
        have R9 := R10
        simp only [bDe, bBe, encL, List.length_map, List.length_append, List.length_cons, List.length_nil, Nat.add_assoc, Nat.add_comm 1] at R9 ⊢
        exact R9
end
end Q40
namespace Q40
open PySem PySem.Spec PyProof.Rows L2 SX HL NM DM
section
variable {P : Program} {w : World} {K : PySem.W.Frag} {mg : Str → Option Value} {base : Heap}
theorem ok_readTriples {k : Nat} (Z : Defs K mg) : FnOk P w K mg base CX0 (k + 6) Z.fReaderReadTriples Z.fdReaderReadTriples ["self"] (spRd Z.cReader (LstsAt TriAt) fun ts => encL (ts.map bTri)) := by
  have GReaderReadNumber : FnOk P w K mg base CX0 (k + 5) Z.fReaderReadNumber Z.fdReaderReadNumber ["self"] (spRd Z.cReader NumAt enc) := (ok_numQ (k := 0) Z).mono (by omega)
  have GReaderReadCount : FnOk P w K mg base CX0 (k + 5) Z.fReaderReadCount Z.fdReaderReadCount ["self"] (spCnt Z.cReader) := (ok_readCount (k := 0) Z).mono (by omega)
  have GReaderReadDeed : FnOk P w K mg base CX0 (k + 5) Z.fReaderReadDeed Z.fdReaderReadDeed ["self"] (spRd Z.cReader DeAt bDe) := (ok_readDeed (k := 0) Z).mono (by omega)
  refine Z.DReaderReadTriples.F.ok scReaderReadTriples (fun vs H Q E h => ?_) (fun cdv A outer s H vs Q E hr h => ?_)
  · obtain ⟨p, b, c, x, a, d, rest, rfl, _⟩ := h
    rfl
  · obtain ⟨p, b, c, x, a, d, rest, rfl, R, hx, hat, ⟨_, _, ⟨q0, us0, _, _, hul0, hus0⟩⟩, qq⟩ := h
    refine ⟨_, (pss_one (ps_ret (pe_lc (own := [("_", 1)]) (g := (gName 1)) (by rfl) scReaderReadTriples.nd (pi_range1 (by rfl) Z.range (pa_cons (pe_meth0 (pv 0) Z.CReader.cl Z.DReaderReadCount.m GReaderReadCount (hr.mono (by omega)) Z.DReaderReadCount.b .nil pass0) pa_nil)) (blkOk_by (own := [("_", 1)]) (N := ["self", "_"]) (sc := defScope sReaderReadTriples) (by decide +kernel)) (fun _ _ _ _ _ => (pg_name (i := 1) scReaderReadTriples.nd rfl (Or.inl rfl))) (fun _ _ _ _ _ => pts_nil) (fun _ _ _ _ _ => (pe_tup (pa_cons (pe_meth0 (pv 0) Z.CReader.cl Z.DReaderReadNumber.m GReaderReadNumber (hr.mono (by omega)) Z.DReaderReadNumber.b .nil pass0) (pa_cons (pe_meth0 (pv 0) Z.CReader.cl Z.DReaderReadNumber.m GReaderReadNumber (hr.mono (by omega)) Z.DReaderReadNumber.b .nil pass0) (pa_cons (pe_meth0 (pv 0) Z.CReader.cl Z.DReaderReadDeed.m GReaderReadDeed (hr.mono (by omega)) Z.DReaderReadDeed.b .nil pass0) pa_nil)))))))), ?_⟩
    have R0 := R
    have at0 : Atx x a (encL (d.map bTri) ++ []) rest := by simpa using hat
    have hleA1 : d.length ≤ 200 := by rw [← hus0.len]; exact hul0
    obtain ⟨⟨dx0, ho0⟩, hda0, hch0⟩ := id R0
    have hnA1 : NOk d.length := NOk.small (Nat.lt_of_le_of_lt hleA1 (by decide))
    have atA1 := Atx.cnt (f := bTri) (ds := d) at0
    refine ⟨_, rfl, p, dx0, _, rfl, ho0, rflds_no _ _ _ (by decide +kernel) (by decide +kernel) (by decide +kernel), p, b, c, x, _, d.length, _, rest, rfl, R0, hx, atA1, hnA1, by rw [List.length_append]; have := flat_ge fTri hus0; omega, fun H1 y1 K1 R1 hy1 => ?_⟩
    subst hy1
    have at1 := atA1.snd
    refine ⟨(d.length : Int), rfl, by omega, by omega, fun A1 hA1 => ?_⟩
    refine lc_range (lo := 0) (n := (d.length : Int).toNat) (fun i H' => ManyI Z.cReader TriAt bTri d p b c x _ A1 H1 i H') (ManyI.start R1 hA1) ?_ ?_
    · rintro i H100 hi I
      have hi2 : i < d.length := by omega
      obtain ⟨_, R100, _⟩ := id I
      have hget : d[i]? = some d[i] := List.getElem?_eq_getElem hi2
      obtain ⟨rest', ate⟩ := at1.el hget
      obtain ⟨ue, _, hue⟩ := all2_memR hus0 (List.getElem_mem hi2)
      generalize d[i] = e at hget ate hue
      have at100 := Atx.cast (b2 := enc e.1 ++ (enc e.2.1 ++ (bDe e.2.2 ++ []))) ate (by simp [bTri])
      refine ⟨rfl, lc_yes ?_⟩
      obtain ⟨hn1, hn2, _, _, _, _, hd0⟩ := hue
      obtain ⟨⟨dx100, ho100⟩, hda100, hch100⟩ := id R100
      refine ⟨_, rfl, p, dx100, _, rfl, ho100, rflds_no _ _ _ (by decide +kernel) (by decide +kernel) (by decide +kernel), p, b, c, x, _, e.1, _, rfl, R100, hx, at100.fst, ⟨H, _, hn1, rfl⟩, fun H101 y101 K101 R101 hy101 => ?_⟩
      have at101 := at100.snd
      obtain ⟨_, rfl⟩ := hy101
      obtain ⟨⟨dx101, ho101⟩, hda101, hch101⟩ := id R101
      refine ⟨_, rfl, p, dx101, _, rfl, ho101, rflds_no _ _ _ (by decide +kernel) (by decide +kernel) (by decide +kernel), p, b, c, x, _, e.2.1, _, rfl, R101, hx, at101.fst, ⟨H, _, hn2, rfl⟩, fun H102 y102 K102 R102 hy102 => ?_⟩
      have at102 := at101.snd
      obtain ⟨_, rfl⟩ := hy102
      obtain ⟨⟨dx102, ho102⟩, hda102, hch102⟩ := id R102
      refine ⟨_, rfl, p, dx102, _, rfl, ho102, rflds_no _ _ _ (by decide +kernel) (by decide +kernel) (by decide +kernel), p, b, c, x, _, e.2.2, _, rfl, R102, hx, at102.fst, ⟨_, _, hd0⟩, fun H103 y103 K103 R103 hy103 => ?_⟩
      have at103 := at102.snd
      refine ⟨by show 3 ≤ sizeLine; decide, fun X101 hX101 => ?_⟩
      have R104 := R103.same (same_upd (o := (.tup [vi e.1, vi e.2.1, y103])) hX101)
      have K104 := (same_upd (H := H103) (o := (.tup [vi e.1, vi e.2.1, y103])) hX101).kept p
      have gX101 : upd H103 X101 (.tup [vi e.1, vi e.2.1, y103]) X101 = some (.tup [vi e.1, vi e.2.1, y103]) := upd_same
      generalize upd H103 X101 (.tup [vi e.1, vi e.2.1, y103]) = H104 at R104 K104 gX101 ⊢
      exact ManyI.step fTri R1 hA1 (by omega) I hget (Kept.trans K101 (Kept.trans K102 (Kept.trans K103 K104))) (by have R9 := R104; simp only [bTri, List.length_append, List.length_cons, List.length_nil, Nat.add_assoc, Nat.add_comm 1] at R9 ⊢; exact R9) ⟨hn1, hn2, X101, _, rfl, gX101, (hy103.keep (tkK R103 K104))⟩
    rintro H2 ⟨K2, R2, accA1, gA1, halA1, haccA1⟩
    have halA1 : accA1.length = d.length := halA1
    have etk : d.take (d.length : Int).toNat = d := by rw [Int.toNat_natCast]; exact List.take_length
    rw [etk] at R2 haccA1
    have at2 := at1.snd
    refine qq _ (.ref A1) (Kept.trans K1 K2) ?_ ⟨A1, _, rfl, gA1, by omega, haccA1⟩
    have R9 := R2
    simp only [encL, List.length_map, List.length_append, List.length_cons, List.length_nil, Nat.add_assoc, Nat.add_comm 1] at R9 ⊢
    exact R9
theorem ok_expectX {k : Nat} (Z : Defs K mg) : FnOk P w K mg base (L2.CX P w) (k + 2) Z.fReaderExpect Z.fdReaderExpect ["self", "byte"] (fun vs H Q E => ∃ (p b c : Addr) (x : List Nat) (a y : Nat) (bs rest : List Nat), vs = [.ref p, vi y] ∧ RdAt Z.cReader H p b c x a ∧ XOk x ∧ Atx x a (y :: bs) rest ∧ y ≤ 255 ∧ ∀ H' z, Kept H H' p → RdAt Z.cReader H' p b c x (a + 1) → Q z H') := by
  have GReaderReadByte : FnOk P w K mg base CX0 (k + 1) Z.fReaderReadByte Z.fdReaderReadByte ["self", "most"] (spB Z.cReader) := ok_byteQ Z
  obtain ⟨ds, dVReaderReadByte, dBReaderReadByte⟩ := Z.DReaderReadByte.bd
  refine Z.DReaderExpect.F.okX scReaderExpect (fun vs H Q E h => ?_) (fun cdv A outer s H vs Q E hr h => ?_)
  · obtain ⟨p, b, c, x, a, y, bs, rest, rfl, _⟩ := h
    rfl
  · obtain ⟨p, b, c, x, a, y, bs, rest, rfl, R, hx, hat, hy, qq⟩ := h
    refine ⟨_, (pss_one (ps_if (pt_cmpR op_ne (pe_meth0 (pv 0) Z.CReader.cl Z.DReaderReadByte.m GReaderReadByte (hr.mono (by omega)) dBReaderReadByte dVReaderReadByte pass0) (pv 1) (nomark _)) (pss_one (ps_raise rfl (takes_of rfl rfl rfl rfl) (SkE.pmk_own1 PySem.F.excBase_ValueError Z.EDamagedPacket.ex Z.EDamagedPacket.g Z.EDamagedPacket.kp (raises_own Z.EDamagedPacket.sub Z.EDamagedPacket.ty) (by rfl) (pe_joined (.cons pe_str (.cons (pe_fmt (pe_fld (pv 0) rfl)) .nil)))))) pss_nil)), ?_⟩
    obtain ⟨⟨dx0, ho0⟩, _⟩ := id R
    refine ⟨_, rfl, p, dx0, _, rfl, ho0, rflds_no _ _ _ (by decide +kernel) (by decide +kernel) (by decide +kernel), p, b, c, x, _, 255, y, _, _, rfl, R, hx, hat, hy, fun H1 K1 R1 => ?_⟩
    exact ⟨_, rfl, rfl, _, rfl, iteNo (by simp) (qq _ _ K1 R1)⟩
def spExp (C : Addr) : Sp := fun vs H Q _ => ∃ (p b c : Addr) (x : List Nat) (a y : Nat) (bs rest : List Nat), vs = [.ref p, vi y] ∧ RdAt C H p b c x a ∧ XOk x ∧ Atx x a (y :: bs) rest ∧ y ≤ 255 ∧ ∀ H' z, Kept H H' p → RdAt C H' p b c x (a + 1) → Q z H'
theorem ok_expect {k : Nat} (Z : Defs K mg) : FnOk P w K mg base CX0 (k + 2) Z.fReaderExpect Z.fdReaderExpect ["self", "byte"] (spExp Z.cReader) := QT.quiet (ok_expectX Z) fun vs H Q E h => h
theorem ok_readPacket {k : Nat} (Z : Defs K mg) : FnOk P w K mg base CX0 (k + 7) Z.fReaderReadPacket Z.fdReaderReadPacket ["self"] (spRd Z.cReader (LstsAt TriAt) fun ts => 1 :: encL (ts.map bTri)) := by
  have GReaderExpect : FnOk P w K mg base CX0 (k + 6) Z.fReaderExpect Z.fdReaderExpect ["self", "byte"] (spExp Z.cReader) := (ok_expect (k := 0) Z).mono (by omega)
  have GReaderReadTriples : FnOk P w K mg base CX0 (k + 6) Z.fReaderReadTriples Z.fdReaderReadTriples ["self"] (spRd Z.cReader (LstsAt TriAt) fun ts => encL (ts.map bTri)) := (ok_readTriples (k := 0) Z).mono (by omega)
  refine Z.DReaderReadPacket.F.ok scReaderReadPacket (fun vs H Q E h => ?_) (fun cdv A outer s H vs Q E hr h => ?_)
  · obtain ⟨p, b, c, x, a, d, rest, rfl, _⟩ := h
    rfl
  · obtain ⟨p, b, c, x, a, d, rest, rfl, R, hx, hat, hd0, qq⟩ := h
    refine ⟨_, (pss_cons (ps_expr (pe_meth (pv 0) Z.CReader.cl Z.DReaderExpect.m GReaderExpect (hr.mono (by omega)) Z.DReaderExpect.b .nil pass0 (pa_cons (pe_gint rfl Z.kPACKET) pa_nil)))
        (pss_one (ps_ret (pe_meth0 (pv 0) Z.CReader.cl Z.DReaderReadTriples.m GReaderReadTriples (hr.mono (by omega)) Z.DReaderReadTriples.b .nil pass0)))), ?_⟩
    have R0 := R
    have at0 : Atx x a (1 :: (encL (d.map bTri) ++ [])) rest := by simpa using hat
    obtain ⟨⟨dx0, ho0⟩, hda0, hch0⟩ := id R0
    refine ⟨_, rfl, p, dx0, _, rfl, ho0, rflds_no _ _ _ (by decide +kernel) (by decide +kernel) (by decide +kernel), p, b, c, x, _, 1, _, _, rfl, R0, hx, at0, by decide, fun H1 z1 K1 R1 => ?_⟩
    have at1 := at0.hd.2
    obtain ⟨⟨dx1, ho1⟩, hda1, hch1⟩ := id R1
    refine ⟨_, rfl, p, dx1, _, rfl, ho1, rflds_no _ _ _ (by decide +kernel) (by decide +kernel) (by decide +kernel), p, b, c, x, _, d, _, rfl, R1, hx, at1.fst, hd0, fun H2 y2 K2 R2 hy2 => ?_⟩
    have at2 := at1.snd
    refine qq _ y2 (Kept.trans K1 K2) ?_ hy2
    have R9 := R2
    simp only [encL, List.length_map, List.length_append, List.length_cons, List.length_nil, Nat.add_assoc, Nat.add_comm 1] at R9 ⊢
    exact R9
def spVU (C : Addr) (n : Nat) : Sp := fun vs H Q _ => ∃ (m : Nat) (p b c : Addr) (x : List Nat) (a : Nat) (d : Va) (rest : List Nat), vs = [.ref p, vi m] ∧ n ≤ m ∧ RdAt C H p b c x a ∧ XOk x ∧ Atx x a (bV n d) rest ∧ (∃ H0 x0, VaAt H0 n d x0) ∧ ∀ H' y, Kept H H' p → RdAt C H' p b c x (a + (bV n d).length) → VaAt H' n d y → Q y H'
def spVUs (C : Addr) (n : Nat) : Sp := fun vs H Q _ => ∃ (m : Nat) (p b c : Addr) (x : List Nat) (a : Nat) (ds : List Va) (rest : List Nat), vs = [.ref p, vi m] ∧ n ≤ m ∧ RdAt C H p b c x a ∧ XOk x ∧ Atx x a (encL (ds.map (bV n)) ++ []) rest ∧ (∃ H0 us0, us0.length ≤ 100 ∧ All2 (fun u v => VaAt H0 n v u) us0 ds) ∧ ∀ H' y, Kept H H' p → RdAt C H' p b c x (a + (encL (ds.map (bV n))).length) → VsAt n H' ds y → Q y H'
theorem vus_step {k n : Nat} (hk : 3 ≤ k) (Z : Defs K mg) (GReaderReadValueU : FnOk P w K mg base CX0 k Z.fReaderReadValueU Z.fdReaderReadValueU ["self", "most_depth"] (spVU Z.cReader n)) : FnOk P w K mg base CX0 (k + 1) Z.fReaderReadValues Z.fdReaderReadValues ["self", "most_depth"] (spVUs Z.cReader n) := by
  have GReaderReadCount : FnOk P w K mg base CX0 3 Z.fReaderReadCount Z.fdReaderReadCount ["self"] (spCnt Z.cReader) := ok_readCount (k := 0) Z
  refine Z.DReaderReadValues.F.ok scReaderReadValues (fun vs H Q E h => ?_) (fun cdv A outer s H vs Q E hr h => ?_)
  · obtain ⟨m, p, b, c, x, a, d, rest, rfl, _⟩ := h
    rfl
  · obtain ⟨m, p, b, c, x, a, d, rest, rfl, hm, R, hx, hat, ⟨H0, us0, hul0, hus0⟩, qq⟩ := h
    refine ⟨_, (pss_one (ps_ret (pe_callTy call_tuple_of (by rfl) Z.tuple HL.boot_tuple (pa_cons (pe_lc (own := [("_", 2)]) (g := (gName 2)) (by rfl) scReaderReadValues.nd (pi_range1 (by rfl) Z.range (pa_cons (pe_meth0 (pv 0) Z.CReader.cl Z.DReaderReadCount.m GReaderReadCount (hr.mono (by omega)) Z.DReaderReadCount.b .nil pass0) pa_nil)) (blkOk_by (own := [("_", 2)]) (N := ["self", "most_depth", "_"]) (sc := defScope sReaderReadValues) (by decide +kernel)) (fun _ _ _ _ _ => (pg_name (i := 2) scReaderReadValues.nd rfl (Or.inl rfl))) (fun _ _ _ _ _ => pts_nil) (fun _ _ _ _ _ => (pe_meth (pv 0) Z.CReader.cl Z.DReaderReadValueU.m GReaderReadValueU (hr.mono (by omega)) Z.DReaderReadValueU.b .nil pass0 (pa_cons (pv 1) pa_nil)))) pa_nil)))), ?_⟩
    have R0 := R
    have at0 := hat
    have hleA1 : d.length ≤ 200 := by rw [← hus0.len]; omega
    obtain ⟨⟨dx0, ho0⟩, hda0, hch0⟩ := id R0
    have hnA1 : NOk d.length := NOk.small (Nat.lt_of_le_of_lt hleA1 (by decide))
    have atA1 := Atx.cnt (f := (bV n)) (ds := d) at0
    refine ⟨_, rfl, p, dx0, _, rfl, ho0, rflds_no _ _ _ (by decide +kernel) (by decide +kernel) (by decide +kernel), p, b, c, x, _, d.length, _, rest, rfl, R0, hx, atA1, hnA1, by rw [List.length_append]; have := flat_ge (fVa n) hus0; omega, fun H1 y1 K1 R1 hy1 => ?_⟩
    subst hy1
    have at1 := atA1.snd
    refine ⟨(d.length : Int), rfl, by omega, by omega, fun A1 hA1 => ?_⟩
    refine lc_range (lo := 0) (n := (d.length : Int).toNat) (fun i H' => ManyI Z.cReader (fun H v x => VaAt H n v x) (bV n) d p b c x _ A1 H1 i H') (ManyI.start R1 hA1) ?_ ?_
    · rintro i G1 hi I
      have hi2 : i < d.length := by omega
      obtain ⟨_, r1, _⟩ := id I
      obtain ⟨⟨dxe, hoe⟩, _⟩ := id r1
      obtain ⟨rest', ate⟩ := at1.el (List.getElem?_eq_getElem hi2)
      obtain ⟨ue, _, hue⟩ := all2_memR hus0 (List.getElem_mem hi2)
      exact ⟨rfl, lc_yes ⟨_, rfl, p, dxe, _, rfl, hoe, rflds_no _ _ _ (by decide +kernel) (by decide +kernel) (by decide +kernel), _, rfl, m, p, b, c, x, _, _, rest', rfl, hm, r1, hx, ate, ⟨_, _, hue⟩, fun G2 y k2 r2 hy => ManyI.step (fVa n) R1 hA1 (by omega) I (List.getElem?_eq_getElem hi2) k2 r2 hy⟩⟩
    rintro H2 ⟨K2, R2, accA1, gA1, halA1, haccA1⟩
    have halA1 : accA1.length = d.length := halA1
    have etk : d.take (d.length : Int).toNat = d := by rw [Int.toNat_natCast]; exact List.take_length
    rw [etk] at R2 haccA1
    have at2 := at1.snd
    refine ⟨A1, _, rfl, .inl ⟨SqL.of gA1, fun TA1 hTA1 => ?_⟩⟩
    have R3 := R2.same (same_upd (o := (.tup accA1)) hTA1)
    have K3 := (same_upd (H := H2) (o := (.tup accA1)) hTA1).kept p
    have tk3 : TupK H2 (upd H2 TA1 (.tup accA1)) := tkS (same_upd hTA1)
    have gTA1 : upd H2 TA1 (.tup accA1) TA1 = some (.tup accA1) := upd_same
    generalize upd H2 TA1 (.tup accA1) = H3 at R3 K3 tk3 gTA1 ⊢
    refine qq _ (.ref TA1) (Kept.trans K1 (Kept.trans K2 K3)) ?_ ⟨TA1, _, rfl, gTA1, by have := hus0.len; omega, haccA1.mono fun _ _ q => q.keep tk3⟩
    have R9 := R3
    simp only [encL, List.length_map, List.length_append, List.length_cons, List.length_nil, Nat.add_assoc, Nat.add_comm 1] at R9 ⊢
    exact R9
end
end Q40
namespace Q40
open PySem PySem.Spec PyProof.Rows L2 SX HL NM DM
section
variable {P : Program} {w : World} {K : PySem.W.Frag} {mg : Str → Option Value} {base : Heap}
theorem vu_stepX {k n : Nat} (hk : 3 ≤ k) (Z : Defs K mg) (GReaderReadValues : FnOk P w K mg base CX0 k Z.fReaderReadValues Z.fdReaderReadValues ["self", "most_depth"] (spVUs Z.cReader n)) : FnOk P w K mg base (L2.CX P w) (k + 1) Z.fReaderReadValueU Z.fdReaderReadValueU ["self", "most_depth"] (spVU Z.cReader (n + 1)) := by
  have GReaderReadByte : FnOk P w K mg base CX0 1 Z.fReaderReadByte Z.fdReaderReadByte ["self", "most"] (spB Z.cReader) := ok_byteQ (k := 0) Z
  have GReaderReadInteger : FnOk P w K mg base CX0 3 Z.fReaderReadInteger Z.fdReaderReadInteger ["self"] (spRd Z.cReader IntAt encI) := ok_readInteger (k := 0) Z
  have GReaderReadString : FnOk P w K mg base CX0 3 Z.fReaderReadString Z.fdReaderReadString ["self"] (spRd Z.cReader TxtAt encS) := ok_readString (k := 0) Z
  refine Z.DReaderReadValueU.F.okX scReaderReadValueU (fun vs H Q E h => ?_) (fun cdv A outer s H vs Q E hr h => ?_)
  · obtain ⟨m, p, b, c, x, a, d, rest, rfl, _⟩ := h
    rfl
  · obtain ⟨m, p, b, c, x, a, d, rest, rfl, hm, R, hx, hat, ⟨H0, x0, hd0⟩, qq⟩ := h
    refine ⟨_, (pss_cons (ps_if (pt_cmpR op_eq (pv 1) pe_int (nomark _)) (pss_one (ps_raise rfl (takes_of rfl rfl rfl rfl) (SkE.pmk_own1 PySem.F.excBase_ValueError Z.EDamagedPacket.ex Z.EDamagedPacket.g Z.EDamagedPacket.kp (raises_own Z.EDamagedPacket.sub Z.EDamagedPacket.ty) (by rfl) (pe_joined (.cons pe_str (.cons (pe_fmt (pe_fld (pv 0) rfl)) (.cons pe_str .nil))))))) pss_nil)
        (pss_cons (HM.ps_match (pe_meth (pv 0) Z.CReader.cl Z.DReaderReadByte.m GReaderReadByte (hr.mono (by omega)) Z.DReaderReadByte.b .nil pass0 (pa_cons pe_int pa_nil)) (HM.pm_int (pss_one (ps_ret (pe_meth0 (pv 0) Z.CReader.cl Z.DReaderReadInteger.m GReaderReadInteger (hr.mono (by omega)) Z.DReaderReadInteger.b .nil pass0))) (HM.pm_int (pss_one (ps_ret (pe_meth0 (pv 0) Z.CReader.cl Z.DReaderReadString.m GReaderReadString (hr.mono (by omega)) Z.DReaderReadString.b .nil pass0))) (HM.pm_int (pss_one (ps_ret (pe_cmpR op_eq (pe_meth (pv 0) Z.CReader.cl Z.DReaderReadByte.m GReaderReadByte (hr.mono (by omega)) Z.DReaderReadByte.b .nil pass0 (pa_cons pe_int pa_nil)) pe_int (nomark _)))) (HM.pm_int (pss_one (ps_ret (pe_tup (pa_cons pe_str (pa_cons (pe_meth (pv 0) Z.CReader.cl Z.DReaderReadValues.m GReaderReadValues (hr.mono (by omega)) Z.DReaderReadValues.b .nil pass0 (pa_cons (pe_op op_sub (pv 1) pe_int) pa_nil)) pa_nil))))) HM.pm_nil)))))
        (pss_one (ps_ret (pe_tup (pa_cons pe_str (pa_cons (pe_meth0 (pv 0) Z.CReader.cl Z.DReaderReadString.m GReaderReadString (hr.mono (by omega)) Z.DReaderReadString.b .nil pass0) (pa_cons (pe_meth (pv 0) Z.CReader.cl Z.DReaderReadValues.m GReaderReadValues (hr.mono (by omega)) Z.DReaderReadValues.b .nil pass0 (pa_cons (pe_op op_sub (pv 1) pe_int) pa_nil)) pa_nil)))))))), ?_⟩
    refine ⟨_, rfl, rfl, _, rfl, iteNo (fun z => by have := vi_inj (b := 0) (of_decide_eq_true z); omega) ?_⟩
    have hm1 : (m : Int) - 1 = ((m - 1 : Nat) : Int) := by omega
    cases d with
    | num i =>
      obtain ⟨_, hi⟩ := hd0
      have R0 := R
      have at0 : Atx x a (0 :: (encI i ++ [])) rest := by simpa [bV] using hat
      obtain ⟨⟨dx0, ho0⟩, hda0, hch0⟩ := id R0
      refine ⟨_, rfl, p, dx0, _, rfl, ho0, rflds_no _ _ _ (by decide +kernel) (by decide +kernel) (by decide +kernel), p, b, c, x, _, 4, 0, _, _, rfl, R0, hx, at0, by decide, fun H1 K1 R1 => ?_⟩
      have at1 := at0.hd.2
      refine ⟨((0 : Nat) : Int), rfl, iteYes rfl ?_⟩
      obtain ⟨⟨dx1, ho1⟩, hda1, hch1⟩ := id R1
      refine ⟨_, rfl, p, dx1, _, rfl, ho1, rflds_no _ _ _ (by decide +kernel) (by decide +kernel) (by decide +kernel), p, b, c, x, _, i, _, rfl, R1, hx, at1.fst, ⟨H, _, rfl, hi⟩, fun H2 y2 K2 R2 hy2 => ?_⟩
      have at2 := at1.snd
      obtain ⟨rfl, _⟩ := hy2
      refine qq _ (.int i) (Kept.trans K1 K2) ?_ ⟨rfl, hi⟩
      have R9 := R2
      simp only [bV, List.length_append, List.length_cons, List.length_nil, Nat.add_assoc, Nat.add_comm 1] at R9 ⊢
      exact R9
    | txt l =>
      obtain ⟨_, hi⟩ := hd0
      have R0 := R
      have at0 : Atx x a (1 :: (encS l ++ [])) rest := by simpa [bV] using hat
      obtain ⟨⟨dx0, ho0⟩, hda0, hch0⟩ := id R0
      refine ⟨_, rfl, p, dx0, _, rfl, ho0, rflds_no _ _ _ (by decide +kernel) (by decide +kernel) (by decide +kernel), p, b, c, x, _, 4, 1, _, _, rfl, R0, hx, at0, by decide, fun H1 K1 R1 => ?_⟩
      have at1 := at0.hd.2
      refine ⟨((1 : Nat) : Int), rfl, iteNo (by decide) ⟨_, rfl, iteYes rfl ?_⟩⟩
      obtain ⟨⟨dx1, ho1⟩, hda1, hch1⟩ := id R1
      refine ⟨_, rfl, p, dx1, _, rfl, ho1, rflds_no _ _ _ (by decide +kernel) (by decide +kernel) (by decide +kernel), p, b, c, x, _, l, _, rfl, R1, hx, at1.fst, ⟨H, _, rfl, hi⟩, fun H2 y2 K2 R2 hy2 => ?_⟩
      have at2 := at1.snd
      obtain ⟨rfl, _⟩ := hy2
      refine qq _ (.str (S l)) (Kept.trans K1 K2) ?_ ⟨rfl, hi⟩
      have R9 := R2
      simp only [bV, List.length_append, List.length_cons, List.length_nil, Nat.add_assoc, Nat.add_comm 1] at R9 ⊢
      exact R9
    | bl q =>
      have R0 := R
      have at0 : Atx x a (2 :: ((if q = true then 1 else 0) :: [])) rest := by simpa [bV] using hat
      obtain ⟨⟨dx0, ho0⟩, hda0, hch0⟩ := id R0
      refine ⟨_, rfl, p, dx0, _, rfl, ho0, rflds_no _ _ _ (by decide +kernel) (by decide +kernel) (by decide +kernel), p, b, c, x, _, 4, 2, _, _, rfl, R0, hx, at0, by decide, fun H1 K1 R1 => ?_⟩
      have at1 := at0.hd.2
      refine ⟨((2 : Nat) : Int), rfl, iteNo (by decide) ⟨_, rfl, iteNo (by decide) ⟨_, rfl, iteYes rfl ?_⟩⟩⟩
      obtain ⟨⟨dx1, ho1⟩, hda1, hch1⟩ := id R1
      refine ⟨_, rfl, p, dx1, _, rfl, ho1, rflds_no _ _ _ (by decide +kernel) (by decide +kernel) (by decide +kernel), p, b, c, x, _, 1, (if q = true then 1 else 0), _, _, rfl, R1, hx, at1, by cases q <;> decide, fun H2 K2 R2 => ?_⟩
      have at2 := at1.hd.2
      refine ⟨rfl, ?_⟩
      have eq : decide (vi (if q = true then 1 else 0) = V.int 1) = q := by cases q <;> rfl
      show Q (.bl (decide (vi (if q = true then 1 else 0) = V.int 1))) H2
      rw [eq]
      refine qq _ (.bl q) (Kept.trans K1 K2) ?_ rfl
      have R9 := R2
      simp only [bV, List.length_append, List.length_cons, List.length_nil, Nat.add_assoc, Nat.add_comm 1] at R9 ⊢
      exact R9
    | lst ps =>
      obtain ⟨_, _, us0, _, _, _, hul0, hus0⟩ := hd0
      have R0 := R
      have at0 : Atx x a (3 :: (encL (ps.map (bV n)) ++ [])) rest := by simpa [bV] using hat
      obtain ⟨⟨dx0, ho0⟩, hda0, hch0⟩ := id R0
      refine ⟨_, rfl, p, dx0, _, rfl, ho0, rflds_no _ _ _ (by decide +kernel) (by decide +kernel) (by decide +kernel), p, b, c, x, _, 4, 3, _, _, rfl, R0, hx, at0, by decide, fun H1 K1 R1 => ?_⟩
      have at1 := at0.hd.2
      refine ⟨((3 : Nat) : Int), rfl, iteNo (by decide) ⟨_, rfl, iteNo (by decide) ⟨_, rfl, iteNo (by decide) ⟨_, rfl, iteYes rfl ?_⟩⟩⟩⟩
      obtain ⟨⟨dx1, ho1⟩, hda1, hch1⟩ := id R1
      refine ⟨_, rfl, p, dx1, _, rfl, ho1, rflds_no _ _ _ (by decide +kernel) (by decide +kernel) (by decide +kernel), _, rfl, _, _, rfl, rfl, m - 1, p, b, c, x, _, ps, _, congrArg (fun z => [V.ref p, V.int z]) hm1, by omega, R1, hx, at1, ⟨_, us0, hul0, hus0⟩, fun H2 y2 K2 R2 hy2 => ?_⟩
      obtain ⟨qv, uv, rfl, hqv, hlv, hav⟩ := hy2
      refine ⟨by show 2 ≤ sizeLine; decide, fun X1 hX1 => ?_⟩
      have R3 := R2.same (same_upd (o := (.tup [.str "list", .ref qv])) hX1)
      have K3 := (same_upd (H := H2) (o := (.tup [.str "list", .ref qv])) hX1).kept p
      have gX1 : upd H2 X1 (.tup [.str "list", .ref qv]) X1 = some (.tup [.str "list", .ref qv]) := upd_same
      generalize upd H2 X1 (.tup [.str "list", .ref qv]) = H3 at R3 K3 gX1 ⊢
      refine qq _ (.ref X1) (Kept.trans K1 (Kept.trans K2 K3)) ?_ ⟨X1, qv, uv, rfl, gX1, (tkK R2 K3) _ _ hqv, hlv, hav.mono fun _ _ r => r.keep (tkK R2 K3)⟩
      have R9 := R3
      simp only [bV, List.length_append, List.length_cons, List.length_nil, Nat.add_assoc, Nat.add_comm 1] at R9 ⊢
      exact R9
    | mk mm ps =>
      obtain ⟨hmm, _, _, us0, _, _, _, hul0, hus0⟩ := hd0
      have R0 := R
      have at0 : Atx x a (4 :: (encS mm ++ (encL (ps.map (bV n)) ++ []))) rest := by simpa [bV] using hat
      obtain ⟨⟨dx0, ho0⟩, hda0, hch0⟩ := id R0
      refine ⟨_, rfl, p, dx0, _, rfl, ho0, rflds_no _ _ _ (by decide +kernel) (by decide +kernel) (by decide +kernel), p, b, c, x, _, 4, 4, _, _, rfl, R0, hx, at0, by decide, fun H1 K1 R1 => ?_⟩
      have at1 := at0.hd.2
      refine ⟨((4 : Nat) : Int), rfl, iteNo (by decide) ⟨_, rfl, iteNo (by decide) ⟨_, rfl, iteNo (by decide) ⟨_, rfl, iteNo (by decide) ?_⟩⟩⟩⟩
      obtain ⟨⟨dx1, ho1⟩, hda1, hch1⟩ := id R1
      refine ⟨_, rfl, p, dx1, _, rfl, ho1, rflds_no _ _ _ (by decide +kernel) (by decide +kernel) (by decide +kernel), p, b, c, x, _, mm, _, rfl, R1, hx, at1.fst, ⟨H, _, rfl, hmm⟩, fun H2 y2 K2 R2 hy2 => ?_⟩
      have at2 := at1.snd
      obtain ⟨rfl, _⟩ := hy2
      obtain ⟨⟨dx2, ho2⟩, hda2, hch2⟩ := id R2
      refine ⟨_, rfl, p, dx2, _, rfl, ho2, rflds_no _ _ _ (by decide +kernel) (by decide +kernel) (by decide +kernel), _, rfl, _, _, rfl, rfl, m - 1, p, b, c, x, _, ps, _, congrArg (fun z => [V.ref p, V.int z]) hm1, by omega, R2, hx, at2, ⟨_, us0, hul0, hus0⟩, fun H3 y3 K3 R3 hy3 => ?_⟩
      obtain ⟨qv, uv, rfl, hqv, hlv, hav⟩ := hy3
      refine ⟨by show 3 ≤ sizeLine; decide, fun X21 hX21 => ?_⟩
      have R4 := R3.same (same_upd (o := (.tup [.str "make", .str (S mm), .ref qv])) hX21)
      have K4 := (same_upd (H := H3) (o := (.tup [.str "make", .str (S mm), .ref qv])) hX21).kept p
      have gX21 : upd H3 X21 (.tup [.str "make", .str (S mm), .ref qv]) X21 = some (.tup [.str "make", .str (S mm), .ref qv]) := upd_same
      generalize upd H3 X21 (.tup [.str "make", .str (S mm), .ref qv]) = H4 at R4 K4 gX21 ⊢
      refine qq _ (.ref X21) (Kept.trans K1 (Kept.trans K2 (Kept.trans K3 K4))) ?_ ⟨hmm, X21, qv, uv, rfl, gX21, (tkK R3 K4) _ _ hqv, hlv, hav.mono fun _ _ r => r.keep (tkK R3 K4)⟩
      have R9 := R4
      simp only [bV, List.length_append, List.length_cons, List.length_nil, Nat.add_assoc, Nat.add_comm 1] at R9 ⊢
      exact R9
theorem ok_readVU (Z : Defs K mg) : (n : Nat) → FnOk P w K mg base CX0 (2 * n + 3) Z.fReaderReadValueU Z.fdReaderReadValueU ["self", "most_depth"] (spVU Z.cReader n)
  | 0 => Z.DReaderReadValueU.F.ok scReaderReadValueU (fun vs H Q E h => (by obtain ⟨_, _, _, _, _, _, _, _, _, _, _, _, _, ⟨_, _, h⟩, _⟩ := h; exact h.elim)) (fun cdv A outer s H vs Q E hr h => (by obtain ⟨_, _, _, _, _, _, _, _, _, _, _, _, _, ⟨_, _, h⟩, _⟩ := h; exact h.elim))
  | n + 1 => QT.quiet (vu_stepX (k := 2 * n + 4) (by omega) Z (vus_step (k := 2 * n + 3) (by omega) Z (ok_readVU Z n))) fun vs H Q E h => h
end
end Q40
namespace Q40
open PySem PySem.Spec PyProof.Rows L2 SX HL NM DM
section
variable {P : Program} {w : World} {K : PySem.W.Frag} {mg : Str → Option Value} {base : Heap}
def V40 (H : Hp) (v : Va) (x : V) : Prop := VaAt H 40 v x
theorem ok_readValue {k : Nat} (Z : Defs K mg) : FnOk P w K mg base CX0 (k + 84) Z.fReaderReadValue Z.fdReaderReadValue ["self"] (spRd Z.cReader V40 (bV 40)) := by
  have GReaderReadValueU : FnOk P w K mg base CX0 (k + 83) Z.fReaderReadValueU Z.fdReaderReadValueU ["self", "most_depth"] (spVU Z.cReader 40) := (ok_readVU Z 40).mono (by omega)
  refine Z.DReaderReadValue.F.ok scReaderReadValue (fun vs H Q E h => ?_) (fun cdv A outer s H vs Q E hr h => ?_)
  · obtain ⟨p, b, c, x, a, d, rest, rfl, _⟩ := h
    rfl
  · obtain ⟨p, b, c, x, a, d, rest, rfl, R, hx, hat, hd0, qq⟩ := h
    refine ⟨_, (pss_one (ps_ret (pe_meth (pv 0) Z.CReader.cl Z.DReaderReadValueU.m GReaderReadValueU (hr.mono (by omega)) Z.DReaderReadValueU.b .nil pass0 (pa_cons (pe_gint rfl Z.kMOST_DEPTH) pa_nil)))), ?_⟩
    obtain ⟨⟨dx0, ho0⟩, _⟩ := id R
    exact ⟨_, rfl, p, dx0, _, rfl, ho0, rflds_no _ _ _ (by decide +kernel) (by decide +kernel) (by decide +kernel), 40, p, b, c, x, _, d, rest, rfl, Nat.le_refl _, R, hx, hat, hd0, fun H1 y K1 R1 hy => qq _ _ K1 R1 hy⟩
theorem ok_readOutcome {k : Nat} (Z : Defs K mg) : FnOk P w K mg base CX0 (k + 85) Z.fReaderReadOutcome Z.fdReaderReadOutcome ["self"] (spRd Z.cReader OuAt bO) := by
  have GReaderReadByte : FnOk P w K mg base CX0 (k + 84) Z.fReaderReadByte Z.fdReaderReadByte ["self", "most"] (spB Z.cReader) := (ok_byteQ (k := 0) Z).mono (by omega)
  have GReaderReadString : FnOk P w K mg base CX0 (k + 84) Z.fReaderReadString Z.fdReaderReadString ["self"] (spRd Z.cReader TxtAt encS) := (ok_readString (k := 0) Z).mono (by omega)
  have GReaderReadValue : FnOk P w K mg base CX0 (k + 84) Z.fReaderReadValue Z.fdReaderReadValue ["self"] (spRd Z.cReader V40 (bV 40)) := (ok_readValue (k := 0) Z).mono (by omega)
  refine Z.DReaderReadOutcome.F.ok scReaderReadOutcome (fun vs H Q E h => ?_) (fun cdv A outer s H vs Q E hr h => ?_)
  · obtain ⟨p, b, c, x, a, d, rest, rfl, _⟩ := h
    rfl
  · obtain ⟨p, b, c, x, a, d, rest, rfl, R, hx, hat, ⟨_, _, hd0⟩, qq⟩ := h
    refine ⟨_, (pss_cons (ps_if (pt_cmpR op_eq (pe_meth (pv 0) Z.CReader.cl Z.DReaderReadByte.m GReaderReadByte (hr.mono (by omega)) Z.DReaderReadByte.b .nil pass0 (pa_cons pe_int pa_nil)) pe_int (nomark _)) (pss_one (ps_ret (pe_tup (pa_cons pe_str (pa_cons (pe_meth0 (pv 0) Z.CReader.cl Z.DReaderReadValue.m GReaderReadValue (hr.mono (by omega)) Z.DReaderReadValue.b .nil pass0) pa_nil))))) pss_nil)
        (pss_cons (ps_set (i := 1) scReaderReadOutcome.nd rfl (.inl rfl) (pe_ix ix_tup (pe_glob (v := .ref Z.aFAULTS) rfl Z.gFAULTS rfl) (pe_meth (pv 0) Z.CReader.cl Z.DReaderReadByte.m GReaderReadByte (hr.mono (by omega)) Z.DReaderReadByte.b .nil pass0 (pa_cons (pe_op op_sub (pe_callB call_len_seq (by rfl) Z.len PySem.boot_len (pa_cons (pe_glob (v := .ref Z.aFAULTS) rfl Z.gFAULTS rfl) pa_nil)) pe_int) pa_nil)) (fun _ _ => rfl)))
        (pss_one (ps_ret (pe_tup (pa_cons pe_str (pa_cons (pe_ifExp (pt_cmpR op_eq (pv 1) pe_str (nomark _)) (pe_tup (pa_cons (pv 1) (pa_cons (pe_meth0 (pv 0) Z.CReader.cl Z.DReaderReadString.m GReaderReadString (hr.mono (by omega)) Z.DReaderReadString.b .nil pass0) pa_nil))) (pe_tup (pa_cons (pv 1) pa_nil))) pa_nil))))))), ?_⟩
    have sF := Z.sFAULTS
    cases d with
    | val v =>
      obtain ⟨_, _, _, _, hv0⟩ := hd0
      have R0 := R
      have at0 : Atx x a (0 :: (bV 40 v ++ [])) rest := by simpa [bO] using hat
      obtain ⟨⟨dx0, ho0⟩, hda0, hch0⟩ := id R0
      refine ⟨_, rfl, p, dx0, _, rfl, ho0, rflds_no _ _ _ (by decide +kernel) (by decide +kernel) (by decide +kernel), p, b, c, x, _, 1, 0, _, _, rfl, R0, hx, at0, by decide, fun H1 K1 R1 => ?_⟩
      have at1 := at0.hd.2
      refine ⟨rfl, _, rfl, iteYes (decide_eq_true rfl) ?_⟩
      obtain ⟨⟨dx1, ho1⟩, hda1, hch1⟩ := id R1
      refine ⟨_, rfl, p, dx1, _, rfl, ho1, rflds_no _ _ _ (by decide +kernel) (by decide +kernel) (by decide +kernel), p, b, c, x, _, v, _, rfl, R1, hx, at1.fst, ⟨_, _, hv0⟩, fun H2 y2 K2 R2 hy2 => ?_⟩
      have at2 := at1.snd
      refine ⟨by show 2 ≤ sizeLine; decide, fun X1 hX1 => ?_⟩
      have R3 := R2.same (same_upd (o := (.tup [.str "value", y2])) hX1)
      have K3 := (same_upd (H := H2) (o := (.tup [.str "value", y2])) hX1).kept p
      have gX1 : upd H2 X1 (.tup [.str "value", y2]) X1 = some (.tup [.str "value", y2]) := upd_same
      generalize upd H2 X1 (.tup [.str "value", y2]) = H3 at R3 K3 gX1 ⊢
      refine qq _ (.ref X1) (Kept.trans K1 (Kept.trans K2 K3)) ?_ ⟨X1, y2, rfl, gX1, VaAt.keep (tkK R2 K3) hy2⟩
      have R9 := R3
      simp only [bO, List.length_append, List.length_cons, List.length_nil, Nat.add_assoc, Nat.add_comm 1] at R9 ⊢
      exact R9
    | flt i =>
      obtain ⟨hi, h3, _⟩ := hd0
      obtain ⟨ati, hms⟩ : atI ([.str "division", .str "deep", .str "large", .str "missing", .str "stuck", .str "long"] : List V) (i : Int) = some (.str (FAU.getD i "")) ∧ (i ≠ 3 → ¬ (FAU.getD i "" = "missing")) := by
        have c : i = 0 ∨ i = 1 ∨ i = 2 ∨ i = 3 ∨ i = 4 ∨ i = 5 := by omega
        rcases c with rfl | rfl | rfl | rfl | rfl | rfl <;> exact ⟨rfl, by decide +kernel⟩
      have hms := hms h3
      have R0 := R
      have at0 : Atx x a (1 :: (i :: [])) rest := by simpa [bO] using hat
      obtain ⟨⟨dx0, ho0⟩, hda0, hch0⟩ := id R0
      refine ⟨_, rfl, p, dx0, _, rfl, ho0, rflds_no _ _ _ (by decide +kernel) (by decide +kernel) (by decide +kernel), p, b, c, x, _, 1, 1, _, _, rfl, R0, hx, at0, by decide, fun H1 K1 R1 => ?_⟩
      have at1 := at0.hd.2
      refine ⟨rfl, _, rfl, iteNo (by decide) ?_⟩
      obtain ⟨⟨dx1, ho1⟩, hda1, hch1⟩ := id R1
      refine ⟨_, rfl, p, dx1, _, rfl, ho1, rflds_no _ _ _ (by decide +kernel) (by decide +kernel) (by decide +kernel), Z.aFAULTS, _, rfl, .inr (sF _), _, _, rfl, rfl, p, b, c, x, _, 5, i, _, _, rfl, R1, hx, at1, by omega, fun H2 K2 R2 => ?_⟩
      have at2 := at1.hd.2
      refine ⟨Z.aFAULTS, _, _, .str (FAU.getD i ""), rfl, rfl, sF _, ati, ?_⟩
      refine ⟨_, rfl, rfl, _, rfl, iteNo (fun z => hms (V.str.inj (of_decide_eq_true z))) ?_⟩
      refine ⟨_, rfl, by show 1 ≤ sizeLine; decide, fun X11 hX11 => ?_⟩
      have R3 := R2.same (same_upd (o := (.tup [.str (FAU.getD i "")])) hX11)
      have K3 := (same_upd (H := H2) (o := (.tup [.str (FAU.getD i "")])) hX11).kept p
      have gX11 : upd H2 X11 (.tup [.str (FAU.getD i "")]) X11 = some (.tup [.str (FAU.getD i "")]) := upd_same
      generalize upd H2 X11 (.tup [.str (FAU.getD i "")]) = H3 at R3 K3 gX11 ⊢
      refine ⟨by show 2 ≤ sizeLine; decide, fun X12 hX12 => ?_⟩
      have R4 := R3.same (same_upd (o := (.tup [.str "fault", .ref X11])) hX12)
      have K4 := (same_upd (H := H3) (o := (.tup [.str "fault", .ref X11])) hX12).kept p
      have gX12 : upd H3 X12 (.tup [.str "fault", .ref X11]) X12 = some (.tup [.str "fault", .ref X11]) := upd_same
      generalize upd H3 X12 (.tup [.str "fault", .ref X11]) = H4 at R4 K4 gX12 ⊢
      refine qq _ (.ref X12) (Kept.trans K1 (Kept.trans K2 (Kept.trans K3 K4))) ?_ ⟨hi, h3, X12, X11, rfl, gX12, (tkK R3 K4) _ _ gX11⟩
      have R9 := R4
      simp only [bO, List.length_append, List.length_cons, List.length_nil, Nat.add_assoc, Nat.add_comm 1] at R9 ⊢
      exact R9
    | miss l =>
      have hl0 := hd0.1
      have ati : atI ([.str "division", .str "deep", .str "large", .str "missing", .str "stuck", .str "long"] : List V) ((3 : Nat) : Int) = some (.str "missing") := rfl
      have R0 := R
      have at0 : Atx x a (1 :: (3 :: (encS l ++ []))) rest := by simpa [bO] using hat
      obtain ⟨⟨dx0, ho0⟩, hda0, hch0⟩ := id R0
      refine ⟨_, rfl, p, dx0, _, rfl, ho0, rflds_no _ _ _ (by decide +kernel) (by decide +kernel) (by decide +kernel), p, b, c, x, _, 1, 1, _, _, rfl, R0, hx, at0, by decide, fun H1 K1 R1 => ?_⟩
      have at1 := at0.hd.2
      refine ⟨rfl, _, rfl, iteNo (by decide) ?_⟩
      obtain ⟨⟨dx1, ho1⟩, hda1, hch1⟩ := id R1
      refine ⟨_, rfl, p, dx1, _, rfl, ho1, rflds_no _ _ _ (by decide +kernel) (by decide +kernel) (by decide +kernel), Z.aFAULTS, _, rfl, .inr (sF _), _, _, rfl, rfl, p, b, c, x, _, 5, 3, _, _, rfl, R1, hx, at1, by decide, fun H2 K2 R2 => ?_⟩
      have at2 := at1.hd.2
      refine ⟨Z.aFAULTS, _, _, .str "missing", rfl, rfl, sF _, ati, ?_⟩
      refine ⟨_, rfl, rfl, _, rfl, iteYes (by decide +kernel) ?_⟩
      obtain ⟨⟨dx2, ho2⟩, hda2, hch2⟩ := id R2
      refine ⟨_, rfl, _, rfl, p, dx2, _, rfl, ho2, rflds_no _ _ _ (by decide +kernel) (by decide +kernel) (by decide +kernel), p, b, c, x, _, l, _, rfl, R2, hx, at2.fst, ⟨H, _, rfl, hl0⟩, fun H3 y3 K3 R3 hy3 => ?_⟩
      have at3 := at2.snd
      obtain ⟨rfl, _⟩ := hy3
      refine ⟨by show 2 ≤ sizeLine; decide, fun X21 hX21 => ?_⟩
      have R4 := R3.same (same_upd (o := (.tup [.str "missing", .str (S l)])) hX21)
      have K4 := (same_upd (H := H3) (o := (.tup [.str "missing", .str (S l)])) hX21).kept p
      have gX21 : upd H3 X21 (.tup [.str "missing", .str (S l)]) X21 = some (.tup [.str "missing", .str (S l)]) := upd_same
      generalize upd H3 X21 (.tup [.str "missing", .str (S l)]) = H4 at R4 K4 gX21 ⊢
      refine ⟨by show 2 ≤ sizeLine; decide, fun X22 hX22 => ?_⟩
      have R5 := R4.same (same_upd (o := (.tup [.str "fault", .ref X21])) hX22)
      have K5 := (same_upd (H := H4) (o := (.tup [.str "fault", .ref X21])) hX22).kept p
      have gX22 : upd H4 X22 (.tup [.str "fault", .ref X21]) X22 = some (.tup [.str "fault", .ref X21]) := upd_same
      generalize upd H4 X22 (.tup [.str "fault", .ref X21]) = H5 at R5 K5 gX22 ⊢
      refine qq _ (.ref X22) (Kept.trans K1 (Kept.trans K2 (Kept.trans K3 (Kept.trans K4 K5)))) ?_ ⟨hl0, X22, X21, rfl, gX22, (tkK R4 K5) _ _ gX21⟩
      have R9 := R5
      simp only [bO, List.length_append, List.length_cons, List.length_nil, Nat.add_assoc, Nat.add_comm 1] at R9 ⊢
      exact R9
theorem ok_readCell {k : Nat} (Z : Defs K mg) : FnOk P w K mg base CX0 (k + 86) Z.fReaderReadCell Z.fdReaderReadCell ["self"] (spRd Z.cReader CeAt bC) := by
  have GReaderReadString : FnOk P w K mg base CX0 (k + 85) Z.fReaderReadString Z.fdReaderReadString ["self"] (spRd Z.cReader TxtAt encS) := (ok_readString (k := 0) Z).mono (by omega)
  have GReaderReadShape : FnOk P w K mg base CX0 (k + 85) Z.fReaderReadShape Z.fdReaderReadShape ["self"] (spRd Z.cReader ShAt bSh) := (ok_readShape (k := 0) Z).mono (by omega)
  have GReaderReadOutcome : FnOk P w K mg base CX0 (k + 85) Z.fReaderReadOutcome Z.fdReaderReadOutcome ["self"] (spRd Z.cReader OuAt bO) := (ok_readOutcome (k := 0) Z).mono (by omega)
  refine Z.DReaderReadCell.F.ok scReaderReadCell (fun vs H Q E h => ?_) (fun cdv A outer s H vs Q E hr h => ?_)
  · obtain ⟨p, b, c, x, a, d, rest, rfl, _⟩ := h
    rfl
  · obtain ⟨p, b, c, x, a, d, rest, rfl, R, hx, hat, ⟨_, _, h1, _, _, _, _, _, hs0, ho0'⟩, qq⟩ := h
    refine ⟨_, (pss_one (ps_ret (pe_tup (pa_cons (pe_meth0 (pv 0) Z.CReader.cl Z.DReaderReadString.m GReaderReadString (hr.mono (by omega)) Z.DReaderReadString.b .nil pass0) (pa_cons (pe_meth0 (pv 0) Z.CReader.cl Z.DReaderReadShape.m GReaderReadShape (hr.mono (by omega)) Z.DReaderReadShape.b .nil pass0) (pa_cons (pe_meth0 (pv 0) Z.CReader.cl Z.DReaderReadOutcome.m GReaderReadOutcome (hr.mono (by omega)) Z.DReaderReadOutcome.b .nil pass0) pa_nil)))))), ?_⟩
    have R0 := R
    have at0 : Atx x a (encS d.1 ++ (bSh d.2.1 ++ (bO d.2.2 ++ []))) rest := by simpa [bC] using hat
    obtain ⟨⟨dx0, ho0⟩, hda0, hch0⟩ := id R0
    refine ⟨_, rfl, p, dx0, _, rfl, ho0, rflds_no _ _ _ (by decide +kernel) (by decide +kernel) (by decide +kernel), p, b, c, x, _, d.1, _, rfl, R0, hx, at0.fst, ⟨H, _, rfl, h1⟩, fun H1 y1 K1 R1 hy1 => ?_⟩
    have at1 := at0.snd
    obtain ⟨rfl, _⟩ := hy1
    obtain ⟨⟨dx1, ho1⟩, hda1, hch1⟩ := id R1
    refine ⟨_, rfl, p, dx1, _, rfl, ho1, rflds_no _ _ _ (by decide +kernel) (by decide +kernel) (by decide +kernel), p, b, c, x, _, d.2.1, _, rfl, R1, hx, at1.fst, ⟨_, _, hs0⟩, fun H2 y2 K2 R2 hy2 => ?_⟩
    have at2 := at1.snd
    obtain ⟨⟨dx2, ho2⟩, hda2, hch2⟩ := id R2
    refine ⟨_, rfl, p, dx2, _, rfl, ho2, rflds_no _ _ _ (by decide +kernel) (by decide +kernel) (by decide +kernel), p, b, c, x, _, d.2.2, _, rfl, R2, hx, at2.fst, ⟨_, _, ho0'⟩, fun H3 y3 K3 R3 hy3 => ?_⟩
    have at3 := at2.snd
    refine ⟨by show 3 ≤ sizeLine; decide, fun X1 hX1 => ?_⟩
    have R4 := R3.same (same_upd (o := (.tup [.str (S d.1), y2, y3])) hX1)
    have K4 := (same_upd (H := H3) (o := (.tup [.str (S d.1), y2, y3])) hX1).kept p
    have gX1 : upd H3 X1 (.tup [.str (S d.1), y2, y3]) X1 = some (.tup [.str (S d.1), y2, y3]) := upd_same
    generalize upd H3 X1 (.tup [.str (S d.1), y2, y3]) = H4 at R4 K4 gX1 ⊢
    refine qq _ (.ref X1) (Kept.trans K1 (Kept.trans K2 (Kept.trans K3 K4))) ?_ ⟨h1, X1, y2, y3, rfl, gX1, (hy2.keep (tkK R2 (Kept.trans K3 K4))), (hy3.keep (tkK R3 K4))⟩
    have R9 := R4
    simp only [bC, List.length_append, List.length_cons, List.length_nil, Nat.add_assoc, Nat.add_comm 1] at R9 ⊢
    exact R9
theorem ok_readCells {k : Nat} (Z : Defs K mg) : FnOk P w K mg base CX0 (k + 87) Z.fReaderReadCells Z.fdReaderReadCells ["self"] (spRd Z.cReader (LstsAt CeAt) fun cs => encL (cs.map bC)) := by
  have GReaderReadCount : FnOk P w K mg base CX0 (k + 86) Z.fReaderReadCount Z.fdReaderReadCount ["self"] (spCnt Z.cReader) := (ok_readCount (k := 0) Z).mono (by omega)
  have GReaderReadCell : FnOk P w K mg base CX0 (k + 86) Z.fReaderReadCell Z.fdReaderReadCell ["self"] (spRd Z.cReader CeAt bC) := (ok_readCell (k := 0) Z).mono (by omega)
  refine Z.DReaderReadCells.F.ok scReaderReadCells (fun vs H Q E h => ?_) (fun cdv A outer s H vs Q E hr h => ?_)
  · obtain ⟨p, b, c, x, a, d, rest, rfl, _⟩ := h
    rfl
  · obtain ⟨p, b, c, x, a, d, rest, rfl, R, hx, hat, ⟨_, _, ⟨q0, us0, _, _, hul0, hus0⟩⟩, qq⟩ := h
    refine ⟨_, (pss_one (ps_ret (pe_lc (own := [("_", 1)]) (g := (gName 1)) (by rfl) scReaderReadCells.nd (pi_range1 (by rfl) Z.range (pa_cons (pe_meth0 (pv 0) Z.CReader.cl Z.DReaderReadCount.m GReaderReadCount (hr.mono (by omega)) Z.DReaderReadCount.b .nil pass0) pa_nil)) (blkOk_by (own := [("_", 1)]) (N := ["self", "_"]) (sc := defScope sReaderReadCells) (by decide +kernel)) (fun _ _ _ _ _ => (pg_name (i := 1) scReaderReadCells.nd rfl (Or.inl rfl))) (fun _ _ _ _ _ => pts_nil) (fun _ _ _ _ _ => (pe_meth0 (pv 0) Z.CReader.cl Z.DReaderReadCell.m GReaderReadCell (hr.mono (by omega)) Z.DReaderReadCell.b .nil pass0))))), ?_⟩
    have R0 := R
    have at0 : Atx x a (encL (d.map bC) ++ []) rest := by simpa using hat
    have hleA1 : d.length ≤ 200 := by rw [← hus0.len]; exact hul0
    obtain ⟨⟨dx0, ho0⟩, hda0, hch0⟩ := id R0
    have hnA1 : NOk d.length := NOk.small (Nat.lt_of_le_of_lt hleA1 (by decide))
    have atA1 := Atx.cnt (f := bC) (ds := d) at0
    refine ⟨_, rfl, p, dx0, _, rfl, ho0, rflds_no _ _ _ (by decide +kernel) (by decide +kernel) (by decide +kernel), p, b, c, x, _, d.length, _, rest, rfl, R0, hx, atA1, hnA1, by rw [List.length_append]; have := flat_ge fCe hus0; omega, fun H1 y1 K1 R1 hy1 => ?_⟩
    subst hy1
    have at1 := atA1.snd
    refine ⟨(d.length : Int), rfl, by omega, by omega, fun A1 hA1 => ?_⟩
    refine lc_range (lo := 0) (n := (d.length : Int).toNat) (fun i H' => ManyI Z.cReader CeAt bC d p b c x _ A1 H1 i H') (ManyI.start R1 hA1) ?_ ?_
    · rintro i G1 hi I
      have hi2 : i < d.length := by omega
      obtain ⟨_, r1, _⟩ := id I
      obtain ⟨⟨dxe, hoe⟩, _⟩ := id r1
      obtain ⟨rest', ate⟩ := at1.el (List.getElem?_eq_getElem hi2)
      obtain ⟨ue, _, hue⟩ := all2_memR hus0 (List.getElem_mem hi2)
      exact ⟨rfl, lc_yes ⟨_, rfl, p, dxe, _, rfl, hoe, rflds_no _ _ _ (by decide +kernel) (by decide +kernel) (by decide +kernel), p, b, c, x, _, _, rest', rfl, r1, hx, ate, ⟨_, _, hue⟩, fun G2 y k2 r2 hy => ManyI.step fCe R1 hA1 (by omega) I (List.getElem?_eq_getElem hi2) k2 r2 hy⟩⟩
    rintro H2 ⟨K2, R2, accA1, gA1, halA1, haccA1⟩
    have halA1 : accA1.length = d.length := halA1
    have etk : d.take (d.length : Int).toNat = d := by rw [Int.toNat_natCast]; exact List.take_length
    rw [etk] at R2 haccA1
    have at2 := at1.snd
    refine qq _ (.ref A1) (Kept.trans K1 K2) ?_ ⟨A1, _, rfl, gA1, by omega, haccA1⟩
    have R9 := R2
    simp only [encL, List.length_map, List.length_append, List.length_cons, List.length_nil, Nat.add_assoc, Nat.add_comm 1] at R9 ⊢
    exact R9
/-- triples and cells -/
def GrAt (H : Hp) (g : List Tri × List Ce) (x : V) : Prop := ∃ t u v, x = .ref t ∧ H t = some (.tup [u, v]) ∧ LstsAt TriAt H g.1 u ∧ LstsAt CeAt H g.2 v
def bGr (g : List Tri × List Ce) : List Nat := bG g.1 g.2
theorem ok_readGroup {k : Nat} (Z : Defs K mg) : FnOk P w K mg base CX0 (k + 88) Z.fReaderReadGroup Z.fdReaderReadGroup ["self"] (spRd Z.cReader GrAt bGr) := by
  have GReaderReadTriples : FnOk P w K mg base CX0 (k + 87) Z.fReaderReadTriples Z.fdReaderReadTriples ["self"] (spRd Z.cReader (LstsAt TriAt) fun ts => encL (ts.map bTri)) := (ok_readTriples (k := 0) Z).mono (by omega)
  have GReaderReadCells : FnOk P w K mg base CX0 (k + 87) Z.fReaderReadCells Z.fdReaderReadCells ["self"] (spRd Z.cReader (LstsAt CeAt) fun cs => encL (cs.map bC)) := (ok_readCells (k := 0) Z).mono (by omega)
  refine Z.DReaderReadGroup.F.ok scReaderReadGroup (fun vs H Q E h => ?_) (fun cdv A outer s H vs Q E hr h => ?_)
  · obtain ⟨p, b, c, x, a, d, rest, rfl, _⟩ := h
    rfl
  · obtain ⟨p, b, c, x, a, d, rest, rfl, R, hx, hat, ⟨_, _, _, _, _, _, _, ht0, hc0⟩, qq⟩ := h
    refine ⟨_, (pss_one (ps_ret (pe_tup (pa_cons (pe_meth0 (pv 0) Z.CReader.cl Z.DReaderReadTriples.m GReaderReadTriples (hr.mono (by omega)) Z.DReaderReadTriples.b .nil pass0) (pa_cons (pe_meth0 (pv 0) Z.CReader.cl Z.DReaderReadCells.m GReaderReadCells (hr.mono (by omega)) Z.DReaderReadCells.b .nil pass0) pa_nil))))), ?_⟩
    have R0 := R
    have at0 : Atx x a (encL (d.1.map bTri) ++ (encL (d.2.map bC) ++ [])) rest := by simpa [bGr, bG] using hat
    obtain ⟨⟨dx0, ho0⟩, hda0, hch0⟩ := id R0
    refine ⟨_, rfl, p, dx0, _, rfl, ho0, rflds_no _ _ _ (by decide +kernel) (by decide +kernel) (by decide +kernel), p, b, c, x, _, d.1, _, rfl, R0, hx, at0.fst, ⟨_, _, ht0⟩, fun H1 y1 K1 R1 hy1 => ?_⟩
    have at1 := at0.snd
    obtain ⟨⟨dx1, ho1⟩, hda1, hch1⟩ := id R1
    refine ⟨_, rfl, p, dx1, _, rfl, ho1, rflds_no _ _ _ (by decide +kernel) (by decide +kernel) (by decide +kernel), p, b, c, x, _, d.2, _, rfl, R1, hx, at1.fst, ⟨_, _, hc0⟩, fun H2 y2 K2 R2 hy2 => ?_⟩
    have at2 := at1.snd
    obtain ⟨qt, ut, rfl, hqt, hlt, hat'⟩ := hy1
    obtain ⟨⟨dxz, hoz⟩, _⟩ := id R1
    have nqt : qt ≠ p := fun e => by rw [e, hoz] at hqt; cases hqt
    have hqt2 := K2 _ _ nqt hqt
    obtain ⟨qc, uc, rfl, hqc, hlc, hac⟩ := hy2
    refine ⟨by show 2 ≤ sizeLine; decide, fun X1 hX1 => ?_⟩
    have R3 := R2.same (same_upd (o := (.tup [.ref qt, .ref qc])) hX1)
    have K3 := (same_upd (H := H2) (o := (.tup [.ref qt, .ref qc])) hX1).kept p
    have gX1 : upd H2 X1 (.tup [.ref qt, .ref qc]) X1 = some (.tup [.ref qt, .ref qc]) := upd_same
    generalize upd H2 X1 (.tup [.ref qt, .ref qc]) = H3 at R3 K3 gX1 ⊢
    obtain ⟨⟨dxy, hoy⟩, _⟩ := id R2
    have nqc : qc ≠ p := fun e => by rw [e, hoy] at hqc; cases hqc
    refine qq _ (.ref X1) (Kept.trans K1 (Kept.trans K2 K3)) ?_ ⟨X1, _, _, rfl, gX1, ⟨qt, ut, rfl, K3 _ _ nqt hqt2, hlt, hat'.mono fun _ _ q => q.keep (tkK R1 (Kept.trans K2 K3))⟩, ⟨qc, uc, rfl, K3 _ _ nqc hqc, hlc, hac.mono fun _ _ q => q.keep (tkK R2 K3)⟩⟩
    have R9 := R3
    simp only [bGr, bG, encL, List.length_map, List.length_append, List.length_cons, List.length_nil, Nat.add_assoc, Nat.add_comm 1] at R9 ⊢
    exact R9
end
end Q40
namespace Q40
open PySem PySem.Spec PyProof.Rows L2 SX HL NM DM
/-- all but p stays, new objects may come -/
def Bt (H H' : Hp) (p : Addr) : Prop := ∀ z o, H z = some o → z ≠ p → H' z = some o
theorem Bt.of {H H' : Hp} {p : Addr} (b : But H H' p) : Bt H H' p := fun z o h n => (b z n).trans h
theorem Bt.refl {H : Hp} {p : Addr} : Bt H H p := fun _ _ h _ => h
theorem Bt.tr {H H1 H2 : Hp} {p : Addr} (a : Bt H H1 p) (b : Bt H1 H2 p) : Bt H H2 p := fun z o h n => b z o (a z o h n) n
theorem Bt.same {H H' : Hp} {p : Addr} (s : Same H H') : Bt H H' p := fun z o h _ => s z o h
theorem Bt.tk {H H' : Hp} {p q : Addr} {ds : List Int} (b : Bt H H' p) (S : StN H p q ds) : TupK H H' := fun a xs h => b _ _ h fun e => by
  obtain ⟨_, _, i, _, h2⟩ := S
  rw [e, h2] at h
  cases h
theorem StN.at {H : Hp} {p q : Addr} {ds : List Int} (S : StN H p q ds) : ∃ i : Int, H p = some (.lst [.ref q, .int i]) := by
  obtain ⟨_, _, i, _, h2⟩ := S
  exact ⟨i, h2⟩
theorem StN.sm {H H' : Hp} {p q : Addr} {ds : List Int} (S : StN H p q ds) (s : Same H H') : StN H' p q ds := S.same fun b o _ h => s b o h
/-- what is new is not the state -/
theorem StN.nn {H : Hp} {p q a : Addr} {ds : List Int} (S : StN H p q ds) (h : H a = none) : a ≠ p := fun e => by
  obtain ⟨i, h2⟩ := S.at
  rw [e, h2] at h
  cases h
theorem str_S (z : Str) : ∃ l, z = S l := ⟨z.cps.toList, by
  show z = ⟨z.cps.toList.toArray⟩
  rw [Array.toArray_toList]⟩
theorem StN.nq {H : Hp} {p q a : Addr} {ds : List Int} (S : StN H p q ds) (h : H a = none) : a ≠ q := fun e => by
  have := S.1
  rw [e, this] at h
  cases h
theorem StN.up {H : Hp} {p q D : Addr} {ds : List Int} {o : HO} (S : StN H p q ds) (h1 : D ≠ p) (h2 : D ≠ q) : StN (upd H D o) p q ds := S.same fun b x hb h => by
  rw [upd_ne]
  · exact h
  · rcases hb with rfl | rfl
    · exact fun e => h1 e.symm
    · exact fun e => h2 e.symm
theorem Bt.up {H0 H : Hp} {p D : Addr} {o : HO} (b : Bt H0 H p) (h : H0 D = none) : Bt H0 (upd H D o) p := fun z x e n => by
  rw [upd_ne (ne_of_none e h)]
  exact b z x e n
section
variable {P : Program} {w : World} {K : PySem.W.Frag} {mg : Str → Option Value} {base : Heap}
/-! ### _law_word -/
def spGenS : Sp := fun vs H Q _ => ∃ (p q : Addr) (ds : List Int), vs = [.ref p] ∧ StN H p q ds ∧ ∀ H' m, StN H' p q ds → Bt H H' p → TxOk m → Q (.str (S m)) H'
theorem ok_word {k : Nat} (Z : Defs K mg) : FnOk P w K mg base CX0 (k + 4) Z.fLawWord Z.fdLawWord ["state"] spGenS := by
  have GLawNext : FnOk P w K mg base CX0 (k + 3) Z.fLawNext Z.fdLawNext ["state", "limit"] spNext := ok_next Z
  refine Z.DLawWord.F.ok scLawWord (fun vs H Q E h => ?_) (fun cdv A outer s H vs Q E hr h => ?_)
  · obtain ⟨p, q, ds, rfl, _⟩ := h
    rfl
  · obtain ⟨p, q, ds, rfl, hS, qq⟩ := h
    refine ⟨_, (pss_cons (ps_set (i := 1) scLawWord.nd rfl (.inl rfl) (pe_lst (pa_cons pe_str (pa_cons pe_str (pa_cons pe_str (pa_cons pe_str (pa_cons (pe_op op_mul_strR pe_str pe_int) (pa_cons pe_str (pa_cons pe_str (pa_cons pe_str pa_nil))))))))))
        (pss_one (ps_ret (pe_ix ix_list (pv 1) (pe_call GLawNext (hr.mono (by omega)) (by rfl) Z.DLawNext.g Z.DLawNext.F.kp Z.DLawNext.b .nil pass0 (pa_cons (pv 0) (pa_cons pe_int pa_nil))) (fun _ _ => rfl))))), ?_⟩
    refine ⟨[120], 130, rfl, rfl, by decide, by decide, by decide, by decide, (by show 8 ≤ sizeLine; decide), fun l hl => ?_⟩
    generalize hws : [V.str "a", V.str "b2", V.str "Leaf", V.str "Node_2", V.str (S (List.replicate 130 [120]).flatten), V.str "", V.str "it's [1]", V.str "d"] = ws
    have s1 : Same H (upd H l (.lst ws)) := same_upd hl
    have g1 : upd H l (.lst ws) l = some (.lst ws) := upd_same
    have hx : ∀ i : Nat, i < 8 → ∃ m, ws[i]? = some (.str (S m)) ∧ TxOk m := fun i hi => by
      rw [← hws]
      obtain ⟨z, hz, hzk⟩ : ∃ z : Str, [V.str "a", V.str "b2", V.str "Leaf", V.str "Node_2", V.str (S (List.replicate 130 [120]).flatten), V.str "", V.str "it's [1]", V.str "d"][i]? = some (.str z) ∧ (z.cps.toList.length ≤ 400 ∧ ∀ c ∈ z.cps.toList, c ∈ chars) := by
        have h : i = 0 ∨ i = 1 ∨ i = 2 ∨ i = 3 ∨ i = 4 ∨ i = 5 ∨ i = 6 ∨ i = 7 := by omega
        rcases h with h | h | h | h | h | h | h | h <;> subst h <;> exact ⟨_, rfl, by decide +kernel⟩
      exact ⟨z.cps.toList, by rw [hz], hzk⟩
    generalize upd H l (.lst ws) = H1 at s1 g1
    have S1 := hS.sm s1
    refine ⟨_, rfl, _, rfl, p, q, ds, 8, rfl, S1, by decide, fun H2 v S2 b2 v0 v1 => ?_⟩
    obtain ⟨i, rfl⟩ := Int.eq_ofNat_of_zero_le v0
    obtain ⟨m, hm, hmk⟩ := hx i (by omega)
    exact ⟨l, _, _, _, rfl, rfl, SqL.of (Bt.of b2 _ _ g1 (hS.nn hl)), atI_nat hm, qq H2 m S2 (Bt.tr (Bt.same s1) (Bt.of b2)) hmk⟩
/-! ### _law_text_of -/
def spTxt : Sp := fun vs H Q _ => ∃ (p q : Addr) (ds : List Int), vs = [.ref p] ∧ StN H p q ds ∧ ∀ H' m, StN H' p q ds → Bt H H' p → TxOk m → Q (.str (S m)) H'
theorem ok_textOf {k : Nat} (Z : Defs K mg) : FnOk P w K mg base CX0 (k + 4) Z.fLawTextOf Z.fdLawTextOf ["state"] spTxt := by
  have GLawNext : FnOk P w K mg base CX0 (k + 3) Z.fLawNext Z.fdLawNext ["state", "limit"] spNext := ok_next Z
  refine Z.DLawTextOf.F.ok scLawTextOf (fun vs H Q E h => ?_) (fun cdv A outer s H vs Q E hr h => ?_)
  · obtain ⟨p, q, ds, rfl, _⟩ := h
    rfl
  · obtain ⟨p, q, ds, rfl, hS, qq⟩ := h
    refine ⟨_, (pss_cons (ps_set (i := 1) scLawTextOf.nd rfl (.inr rfl) pe_str)
        (pss_cons (ps_set (i := 2) scLawTextOf.nd rfl (.inl rfl) (pe_call GLawNext (hr.mono (by omega)) (by rfl) Z.DLawNext.g Z.DLawNext.F.kp Z.DLawNext.b .nil pass0 (pa_cons (pv 0) (pa_cons pe_int pa_nil))))
        (C8.pss_cut (ps_if (pt_cmpR op_eq (pe_call GLawNext (hr.mono (by omega)) (by rfl) Z.DLawNext.g Z.DLawNext.F.kp Z.DLawNext.b .nil pass0 (pa_cons (pv 0) (pa_cons pe_int pa_nil))) pe_int (nomark _)) (pss_one (ps_set (i := 2) scLawTextOf.nd rfl (.inl rfl) (pe_op op_add pe_int (pe_call GLawNext (hr.mono (by omega)) (by rfl) Z.DLawNext.g Z.DLawNext.F.kp Z.DLawNext.b .nil pass0 (pa_cons (pv 0) (pa_cons pe_int pa_nil)))))) pss_nil)
        (pss_cons (ps_set (i := 3) scLawTextOf.nd rfl (.inr rfl) (pe_call GLawNext (hr.mono (by omega)) (by rfl) Z.DLawNext.g Z.DLawNext.F.kp Z.DLawNext.b .nil pass0 (pa_cons (pv 0) (pa_cons pe_int pa_nil))))
        (pss_one (ps_ret (pe_join pe_str (pe_lc (own := [("k", 4)]) (g := (gName 4)) (by rfl) scLawTextOf.nd (pi_range1 (by rfl) Z.range (pa_cons (pv 2) pa_nil)) (blkOk_by (own := [("k", 4)]) (N := ["state", "chars", "count", "start", "k"]) (sc := defScope sLawTextOf) (by decide +kernel)) (fun _ _ _ _ _ => (pg_name (i := 4) scLawTextOf.nd rfl (Or.inl rfl))) (fun _ _ _ _ _ => pts_nil) (fun _ _ _ _ _ => (pe_ix ix_str (pv 1) (pe_op op_mod (pe_op op_add (pv 3) (pe_op op_mul pe_int (pv 4))) pe_int) (fun _ _ => rfl))))))))))), ?_⟩
    obtain ⟨cl, hcl, hc95, hcc⟩ : ∃ cl : List Nat, S cl = (" !\"#$&'()*+,-./0123456789:;<=>?@ABCDEFGHIJKLMNOPQRSTUVWXYZ[\\]^_`abcdefghijklmnopqrstuvwxyz{|}~\n" : Str) ∧ cl.length = 95 ∧ ∀ c ∈ cl, c ∈ chars := ⟨_, rfl, by decide +kernel, by decide +kernel⟩
    rw [← hcl]
    refine ⟨_, rfl, p, q, ds, 5, rfl, hS, by decide, fun H1 c S1 b1 c0 c1 => ?_⟩
    refine ⟨fun σ' H' => ∃ n : Nat, σ' = [some (.ref p), some (.str (S cl)), some (vi n), none, none] ∧ n ≤ 400 ∧ StN H' p q ds ∧ Bt H H' p, ?_, ?_⟩
    · refine ⟨_, rfl, p, q, ds, 12, rfl, S1, by decide, fun H2 v S2 b2 v0 v1 => ⟨rfl, _, rfl, ite2 (fun e => ?_) (fun e => ?_)⟩⟩
      · refine ⟨_, rfl, p, q, ds, 200, rfl, S2, by decide, fun H3 u S3 b3 u0 u1 => ⟨120, _, rfl, rfl, (120 + u).toNat, ?_, by omega, S3, Bt.tr (Bt.of b1) (Bt.tr (Bt.of b2) (Bt.of b3))⟩⟩
        have : (120 : Int) + u = (((120 + u).toNat : Nat) : Int) := by omega
        show [some (V.ref p), some (.str (S cl)), some (V.int (120 + u)), none, none] = _
        rw [this]
        rfl
      · refine ⟨c.toNat, ?_, by omega, S2, Bt.tr (Bt.of b1) (Bt.of b2)⟩
        have : c = ((c.toNat : Nat) : Int) := by omega
        show [some (V.ref p), some (.str (S cl)), some (V.int c), none, none] = _
        rw [this]
        rfl
    · rintro σ H2 ⟨n, rfl, hn, S2, b2⟩
      refine ⟨_, rfl, p, q, ds, 95, rfl, S2, by decide, fun H3 st S3 b3 st0 st1 => ?_⟩
      refine ⟨⟨_, rfl⟩, _, rfl, _, rfl, by omega, by omega, fun D hD => ?_⟩
      have b3' := Bt.tr b2 (Bt.of b3)
      have s4 : Same H3 (upd H3 D (.lst [])) := same_upd hD
      refine lc_range (lo := 0) (n := (n : Int).toNat) (fun i H' => Same H3 H' ∧ ∃ ls : List Nat, H' D = some (.lst ((ls.map fun c => S [c]).map V.str)) ∧ ls.length = i ∧ ∀ c ∈ ls, c ∈ chars) ⟨s4, [], upd_same, rfl, fun c h => by cases h⟩ ?_ ?_
      · rintro i H4 hi ⟨b4, ls, hD4, hls, hlc⟩
        have hi4 : i < 400 := by omega
        have hm0 : 0 ≤ (st + 37 * (0 + (i : Int))) % 95 := Int.emod_nonneg _ (by decide)
        have hm1 : (st + 37 * (0 + (i : Int))) % 95 < 95 := Int.emod_lt_of_pos _ (by decide)
        obtain ⟨j, hj⟩ := Int.eq_ofNat_of_zero_le hm0
        have hj95 : j < cl.length := by omega
        have gj : atI (S cl).cps.toList ((st + 37 * (0 + (i : Int))) % 95) = some (cl.getD j 0) := by
          rw [hj]
          exact sign_at hj95
        have hsl : (S cl).length ≤ sizeLine := by rw [S_len, hc95]; decide
        refine ⟨rfl, lc_yes ⟨_, rfl, _, rfl, _, rfl, 37, _, rfl, rfl, (by unfold CMul; omega), _, _, rfl, rfl, _, 95, rfl, rfl, (by show (0 : Int) < 95; decide), S cl, _, _, rfl, rfl, hsl, gj, _, hD4, by rw [List.length_map, List.length_map, hls]; exact Nat.lt_of_lt_of_le hi4 (by decide), ?_, ls ++ [cl.getD j 0], ?_, by rw [List.length_append, hls]; rfl, fun c h => ?_⟩⟩
        · intro z o hz
          rw [upd_ne (ne_of_none hz hD)]
          exact b4 _ _ hz
        · rw [upd_same, List.map_append, List.map_append]
          rfl
        · rcases List.mem_append.mp h with h | h
          · exact hlc c h
          · rw [List.mem_singleton.mp h, List.getD_eq_getElem?_getD, List.getElem?_eq_getElem hj95]
            exact hcc _ (List.getElem_mem _)
      · rintro H4 ⟨b4, ls, hD4, hls, hlc⟩
        have hl4 : ls.length ≤ 400 := by omega
        refine ⟨S [], D, ls.map fun c => S [c], rfl, rfl, .inl (SqL.of hD4), ?_, ?_⟩
        · rw [ones_sum, List.length_map]
          have e : (S []).length = 0 := rfl
          rw [e]
          omega
        · have e := ones_join ls
          show Q (.str (Txt.join "" _)) H4
          rw [e]
          exact qq H4 ls (S3.sm b4) (Bt.tr b3' (Bt.same b4)) ⟨hl4, hlc⟩
/-! ### _law_big -/
def spBig : Sp := fun vs H Q _ => ∃ (p q : Addr) (ds : List Int), vs = [.ref p] ∧ StN H p q ds ∧ ∀ H' n, StN H' p q ds → Bt H H' p → NOk n → Q (vi n) H'
theorem ok_big {k : Nat} (Z : Defs K mg) : FnOk P w K mg base CX0 (k + 4) Z.fLawBig Z.fdLawBig ["state"] spBig := by
  have GLawNext : FnOk P w K mg base CX0 (k + 3) Z.fLawNext Z.fdLawNext ["state", "limit"] spNext := ok_next Z
  refine Z.DLawBig.F.ok scLawBig (fun vs H Q E h => ?_) (fun cdv A outer s H vs Q E hr h => ?_)
  · obtain ⟨p, q, ds, rfl, _⟩ := h
    rfl
  · obtain ⟨p, q, ds, rfl, hS, qq⟩ := h
    refine ⟨_, (pss_cons (ps_set (i := 1) scLawBig.nd rfl (.inl rfl) (pe_call GLawNext (hr.mono (by omega)) (by rfl) Z.DLawNext.g Z.DLawNext.F.kp Z.DLawNext.b .nil pass0 (pa_cons (pv 0) (pa_cons pe_int pa_nil))))
        (pss_cons (ps_if (pt_cmpR op_lt (pv 1) pe_int (nomark _)) (pss_one (ps_ret (pe_ix ix_list (pe_lst (pa_cons pe_int (pa_cons pe_int (pa_cons pe_int (pa_cons pe_int (pa_cons pe_int (pa_cons pe_int (pa_cons pe_int pa_nil)))))))) (pe_call GLawNext (hr.mono (by omega)) (by rfl) Z.DLawNext.g Z.DLawNext.F.kp Z.DLawNext.b .nil pass0 (pa_cons (pv 0) (pa_cons pe_int pa_nil))) (fun _ _ => rfl)))) pss_nil)
        (pss_cons (ps_set (i := 2) scLawBig.nd rfl (.inl rfl) pe_int)
        (pss_cons (ps_for PassesOwn.never rfl (pi_range1 (by rfl) Z.range (pa_cons (pe_op op_add pe_int (pe_call GLawNext (hr.mono (by omega)) (by rfl) Z.DLawNext.g Z.DLawNext.F.kp Z.DLawNext.b .nil pass0 (pa_cons (pv 0) (pa_cons pe_int pa_nil)))) pa_nil)) (pg_name (i := 3) scLawBig.nd rfl (.inl rfl)) (pss_one (ps_set (i := 2) scLawBig.nd rfl (.inl rfl) (pe_op op_add (pe_op op_mul (pv 2) pe_int) (pe_call GLawNext (hr.mono (by omega)) (by rfl) Z.DLawNext.g Z.DLawNext.F.kp Z.DLawNext.b .nil pass0 (pa_cons (pv 0) (pa_cons pe_int pa_nil)))))))
        (pss_one (ps_ret (pv 2))))))), ?_⟩
    refine ⟨_, rfl, p, q, ds, 5, rfl, hS, by decide, fun H1 c S1 b1 c0 c1 => ⟨_, rfl, _, 3, rfl, rfl, _, rfl, ite2 (fun e => ?_) (fun e => ?_)⟩⟩
    · refine ⟨(by show 7 ≤ sizeLine; decide), fun l hl => ?_⟩
      generalize hws : [V.int 0, V.int 1, V.int 127, V.int 128, V.int 300, V.int 16383, V.int 16384] = ws
      have s2 : Same H1 (upd H1 l (.lst ws)) := same_upd hl
      have g2 : upd H1 l (.lst ws) l = some (.lst ws) := upd_same
      have hx : ∀ i : Nat, i < 7 → ∃ n : Nat, ws[i]? = some (vi n) ∧ NOk n := fun i hi => by
        rw [← hws]
        have h : i = 0 ∨ i = 1 ∨ i = 2 ∨ i = 3 ∨ i = 4 ∨ i = 5 ∨ i = 6 := by omega
        rcases h with h | h | h | h | h | h | h <;> subst h
        · exact ⟨0, rfl, NOk.small (by decide)⟩
        · exact ⟨1, rfl, NOk.small (by decide)⟩
        · exact ⟨127, rfl, NOk.small (by decide)⟩
        · exact ⟨128, rfl, NOk.small (by decide)⟩
        · exact ⟨300, rfl, NOk.small (by decide)⟩
        · exact ⟨16383, rfl, NOk.small (by decide)⟩
        · exact ⟨16384, rfl, NOk.small (by decide)⟩
      generalize upd H1 l (.lst ws) = H2 at s2 g2
      have S2 := S1.sm s2
      refine ⟨_, rfl, p, q, ds, 7, rfl, S2, by decide, fun H3 v S3 b3 v0 v1 => ?_⟩
      obtain ⟨i, rfl⟩ := Int.eq_ofNat_of_zero_le v0
      obtain ⟨n, hn, hnk⟩ := hx i (by omega)
      exact ⟨l, _, _, _, rfl, rfl, SqL.of (Bt.of b3 _ _ g2 (S1.nn hl)), atI_nat hn, qq H3 n S3 (Bt.tr (Bt.of b1) (Bt.tr (Bt.same s2) (Bt.of b3))) hnk⟩
    · refine ⟨_, rfl, p, q, ds, 10, rfl, S1, by decide, fun H2 u S2 b2 u0 u1 => ⟨1, _, rfl, rfl, ?_⟩⟩
      refine ⟨1 + u, rfl, by omega, by omega, ?_⟩
      refine for_range (lo := 0) (n := (1 + u).toNat) (fun i σ H' => ∃ (y1 : Option V) (n : Nat) (y3 : Option V), σ = [some (.ref p), y1, some (vi n), y3] ∧ StN H' p q ds ∧ Bt H H' p ∧ n < 9973 ^ i) ⟨_, 0, none, rfl, S2, Bt.tr (Bt.of b1) (Bt.of b2), by decide⟩ ?_ ?_
      · rintro i σ H3 hi ⟨y1, n, y3, rfl, S3, b3, hn⟩
        refine ⟨_, rfl, _, 9973, rfl, rfl, (by unfold CMul; omega), _, rfl, p, q, ds, 9973, rfl, S3, by decide, fun H4 v S4 b4 v0 v1 => ⟨_, _, rfl, rfl, ?_⟩⟩
        obtain ⟨j, rfl⟩ := Int.eq_ofNat_of_zero_le v0
        exact ⟨_, n * 9973 + j, _, rfl, S4, Bt.tr b3 (Bt.of b4), by rw [Nat.pow_succ]; omega⟩
      · rintro σ H3 ⟨y1, n, y3, rfl, S3, b3, hn⟩
        exact ⟨_, rfl, qq H3 n S3 b3 (Nat.lt_of_lt_of_le hn (Nat.le_trans (Nat.pow_le_pow_right (by decide) (show (1 + u).toNat ≤ 10 by omega)) (by decide +kernel)))⟩
end
end Q40
namespace Q40
open PySem PySem.Spec PyProof.Rows L2 SX HL NM DM
/-! ### _law_value -/
def VT (H : Hp) (n s : Nat) (x : V) : Prop := ∃ v, VaAt H n v x ∧ (bV n v).length ≤ s
theorem VT.keep {H H' : Hp} {n s : Nat} {x : V} (h : VT H n s x) (k : TupK H H') : VT H' n s x := by
  obtain ⟨v, h1, h2⟩ := h
  exact ⟨v, h1.keep k, h2⟩
theorem VT.mono {H : Hp} {n s n' s' : Nat} {x : V} (h : VT H n s x) (hn : n ≤ n') (hs : s ≤ s') : VT H n' s' x := by
  obtain ⟨v, h1, h2⟩ := h
  obtain ⟨h3, h4⟩ := h1.le hn
  exact ⟨v, h3, by rw [h4]; omega⟩
def LV (d : Nat) : Nat := if d = 0 then 1 else 36 + d
def SZ : Nat → Nat
  | 0 => 500
  | d + 1 => 1000 + 3 * SZ d
theorem SZ_ge : ∀ d, 500 ≤ SZ d
  | 0 => Nat.le_refl _
  | d + 1 => by have := SZ_ge d; unfold SZ; omega
theorem LV_ge (d : Nat) : 1 ≤ LV d := by unfold LV; split <;> omega
theorem LV_pos {d : Nat} (h : d ≠ 0) : LV d = 36 + d := if_neg h
theorem VT.of {H : Hp} {d : Nat} {v : Va} {x : V} (h : VaAt H 1 v x) (hs : (bV 1 v).length ≤ 500) : VT H (LV d) (SZ d) x := VT.mono ⟨v, h, hs⟩ (LV_ge d) (SZ_ge d)
theorem vts {H : Hp} {n s : Nat} : ∀ {acc : List V}, (∀ x ∈ acc, VT H n s x) → ∃ vs, All2 (fun u v => VaAt H n v u) acc vs ∧ ∀ v ∈ vs, (bV n v).length ≤ s
  | [], _ => ⟨[], .nil, fun v h => by cases h⟩
  | x :: acc, h => by
    obtain ⟨v, h1, h2⟩ := h x (List.mem_cons_self ..)
    obtain ⟨vs, h3, h4⟩ := vts fun y hy => h y (List.mem_cons_of_mem _ hy)
    exact ⟨v :: vs, .cons h1 h3, fun z hz => (List.mem_cons.mp hz).elim (fun e => by rw [e]; exact h2) (h4 z)⟩
theorem VT.lst {H : Hp} {n s : Nat} {t q : Addr} {acc : List V} (ht : H t = some (.tup [.str "list", .ref q])) (hq : H q = some (.tup acc)) (hl : acc.length ≤ 3) (h : ∀ x ∈ acc, VT H n s x) : VT H (n + 1) (1 + (2 + acc.length * s)) (.ref t) := by
  obtain ⟨vs, h1, h2⟩ := vts h
  refine ⟨.lst vs, ⟨t, q, acc, rfl, ht, hq, by omega, h1⟩, ?_⟩
  have := len_L (xs := vs.map (bV n)) (c := acc.length) (m := s) (by rw [List.length_map, h1.len]; exact Nat.le_refl _) (by omega) (fun y hy => by
    obtain ⟨v, hv, rfl⟩ := List.mem_map.mp hy
    exact h2 v hv)
  show (3 :: encL (vs.map (bV n))).length ≤ _
  rw [List.length_cons]
  omega
theorem VT.mk {H : Hp} {n s : Nat} {t q : Addr} {m : List Nat} {acc : List V} (hm : TxOk m) (ht : H t = some (.tup [.str "make", .str (S m), .ref q])) (hq : H q = some (.tup acc)) (hl : acc.length ≤ 3) (h : ∀ x ∈ acc, VT H n s x) : VT H (n + 1) (1 + ((encS m).length + (2 + acc.length * s))) (.ref t) := by
  obtain ⟨vs, h1, h2⟩ := vts h
  refine ⟨.mk m vs, ⟨hm, t, q, acc, rfl, ht, hq, by omega, h1⟩, ?_⟩
  have := len_L (xs := vs.map (bV n)) (c := acc.length) (m := s) (by rw [List.length_map, h1.len]; exact Nat.le_refl _) (by omega) (fun y hy => by
    obtain ⟨v, hv, rfl⟩ := List.mem_map.mp hy
    exact h2 v hv)
  show (4 :: (encS m ++ encL (vs.map (bV n)))).length ≤ _
  rw [List.length_cons, List.length_append]
  omega
section
variable {P : Program} {w : World} {K : PySem.W.Frag} {mg : Str → Option Value} {base : Heap}
def spVal (n : Nat) : Sp := fun vs H Q _ => ∃ (p q : Addr) (ds : List Int) (d : Nat), vs = [.ref p, vi d] ∧ d ≤ n ∧ d ≤ 4 ∧ StN H p q ds ∧ ∀ H' x, StN H' p q ds → Bt H H' p → VT H' (LV d) (SZ d) x → Q x H'
def spVL : Nat → Sp
  | 0 => fun _ _ _ _ => False
  | n + 1 => spVal n
theorem gvalue_step {n : Nat} (Z : Defs K mg) (GLawValue : FnOk P w K mg base CX0 (n + 5) Z.fLawValue Z.fdLawValue ["state", "depth"] (spVL n)) : FnOk P w K mg base CX0 (n + 6) Z.fLawValue Z.fdLawValue ["state", "depth"] (spVal n) := by
  have GLawNext : FnOk P w K mg base CX0 3 Z.fLawNext Z.fdLawNext ["state", "limit"] spNext := ok_next Z
  have GLawBig : FnOk P w K mg base CX0 4 Z.fLawBig Z.fdLawBig ["state"] spBig := ok_big Z
  have GLawTextOf : FnOk P w K mg base CX0 4 Z.fLawTextOf Z.fdLawTextOf ["state"] spTxt := ok_textOf Z
  have GLawWord : FnOk P w K mg base CX0 4 Z.fLawWord Z.fdLawWord ["state"] spGenS := ok_word Z
  refine Z.DLawValue.F.ok scLawValue (fun vs H Q E h => ?_) (fun cdv A outer s H vs Q E hr h => ?_)
  · obtain ⟨p, q, ds, d, rfl, _⟩ := h
    rfl
  · obtain ⟨p, q, ds, d, rfl, hdn, hd3, hS, qq⟩ := h
    refine ⟨_, (pss_cons (ps_set (i := 2) scLawValue.nd rfl (.inl rfl) (pe_call GLawNext (hr.mono (by omega)) (by rfl) Z.DLawNext.g Z.DLawNext.F.kp Z.DLawNext.b .nil pass0 (pa_cons (pv 0) (pa_cons pe_int pa_nil))))
        (pss_cons (ps_if (pt_cmpR op_lt (pv 2) pe_int (nomark _)) (pss_one (ps_ret (pe_op op_mul (pe_call GLawBig (hr.mono (by omega)) (by rfl) Z.DLawBig.g Z.DLawBig.F.kp Z.DLawBig.b .nil pass0 (pa_cons (pv 0) pa_nil)) (pe_ix ix_list (pe_lst (pa_cons pe_int (pa_cons (pe_un un_neg pe_int) pa_nil))) (pe_call GLawNext (hr.mono (by omega)) (by rfl) Z.DLawNext.g Z.DLawNext.F.kp Z.DLawNext.b .nil pass0 (pa_cons (pv 0) (pa_cons pe_int pa_nil))) (fun _ _ => rfl))))) pss_nil)
        (pss_cons (ps_if (pt_cmpR op_eq (pv 2) pe_int (nomark _)) (pss_one (ps_ret (pe_call GLawTextOf (hr.mono (by omega)) (by rfl) Z.DLawTextOf.g Z.DLawTextOf.F.kp Z.DLawTextOf.b .nil pass0 (pa_cons (pv 0) pa_nil)))) pss_nil)
        (pss_cons (ps_if (pt_cmpR op_eq (pv 2) pe_int (nomark _)) (pss_one (ps_ret (pe_cmpR op_eq (pe_call GLawNext (hr.mono (by omega)) (by rfl) Z.DLawNext.g Z.DLawNext.F.kp Z.DLawNext.b .nil pass0 (pa_cons (pv 0) (pa_cons pe_int pa_nil))) pe_int (nomark _)))) pss_nil)
        (pss_cons (ps_if (pt_cmpR op_eq (pv 1) pe_int (nomark _)) (pss_one (ps_ret (pe_tup (pa_cons pe_str (pa_cons (pe_tup pa_nil) pa_nil))))) pss_nil)
        (pss_cons (ps_if (pt_cmpR op_eq (pv 2) pe_int (nomark _)) (pss_cons (ps_set (i := 3) scLawValue.nd rfl (.inl rfl) (pe_call GLawValue (hr.mono (by omega)) (by rfl) Z.DLawValue.g Z.DLawValue.F.kp Z.DLawValue.b .nil pass0 (pa_cons (pv 0) (pa_cons pe_int pa_nil))))
        (pss_cons (ps_for PassesOwn.never rfl (pi_range1 (by rfl) Z.range (pa_cons (pe_call GLawNext (hr.mono (by omega)) (by rfl) Z.DLawNext.g Z.DLawNext.F.kp Z.DLawNext.b .nil pass0 (pa_cons (pv 0) (pa_cons (pe_op op_add pe_int (pv 1)) pa_nil))) pa_nil)) (pg_name (i := 4) scLawValue.nd rfl (.inl rfl)) (pss_one (ps_set (i := 3) scLawValue.nd rfl (.inl rfl) (pe_ix ix_list (pe_lst (pa_cons (pe_tup (pa_cons pe_str (pa_cons (pe_tup (pa_cons (pv 3) pa_nil)) pa_nil))) (pa_cons (pe_tup (pa_cons pe_str (pa_cons pe_str (pa_cons (pe_tup (pa_cons (pv 3) pa_nil)) pa_nil)))) pa_nil))) (pe_call GLawNext (hr.mono (by omega)) (by rfl) Z.DLawNext.g Z.DLawNext.F.kp Z.DLawNext.b .nil pass0 (pa_cons (pv 0) (pa_cons pe_int pa_nil))) (fun _ _ => rfl)))))
        (pss_one (ps_ret (pv 3))))) pss_nil)
        (pss_cons (ps_set (i := 5) scLawValue.nd rfl (.inl rfl) (pe_callTy call_tuple_of (by rfl) Z.tuple HL.boot_tuple (pa_cons (pe_lc (own := [("k", 4)]) (g := (gName 4)) (by rfl) scLawValue.nd (pi_range1 (by rfl) Z.range (pa_cons (pe_call GLawNext (hr.mono (by omega)) (by rfl) Z.DLawNext.g Z.DLawNext.F.kp Z.DLawNext.b .nil pass0 (pa_cons (pv 0) (pa_cons pe_int pa_nil))) pa_nil)) (blkOk_by (own := [("k", 4)]) (N := ["state", "depth", "pick", "value", "k", "parts"]) (sc := defScope sLawValue) (by decide +kernel)) (fun _ _ _ _ _ => (pg_name (i := 4) scLawValue.nd rfl (Or.inl rfl))) (fun _ _ _ _ _ => pts_nil) (fun _ _ _ _ _ => (pe_call GLawValue (hr.mono (by omega)) (by rfl) Z.DLawValue.g Z.DLawValue.F.kp Z.DLawValue.b .nil pass0 (pa_cons (pv 0) (pa_cons (pe_op op_sub (pv 1) pe_int) pa_nil))))) pa_nil)))
        (pss_cons (ps_if (pt_cmpR op_lt (pv 2) pe_int (nomark _)) (pss_one (ps_ret (pe_tup (pa_cons pe_str (pa_cons (pv 5) pa_nil))))) pss_nil)
        (pss_one (ps_ret (pe_tup (pa_cons pe_str (pa_cons (pe_call GLawWord (hr.mono (by omega)) (by rfl) Z.DLawWord.g Z.DLawWord.F.kp Z.DLawWord.b .nil pass0 (pa_cons (pv 0) pa_nil)) (pa_cons (pv 5) pa_nil)))))))))))))), ?_⟩
    refine ⟨_, rfl, p, q, ds, 9, rfl, hS, by decide, fun H1 c S1 b1 c0 c1 => ?_⟩
    have B1 := Bt.of b1
    clear b1
    refine ⟨_, rfl, _, 2, rfl, rfl, _, rfl, ite2 (fun e => ?_) (fun e => ?_)⟩
    · refine ⟨_, rfl, p, q, ds, rfl, S1, fun H2 m S2 b2 hmk => ?_⟩
      refine ⟨1, rfl, (by show 2 ≤ sizeLine; decide), fun l hl => ?_⟩
      have s3 : Same H2 (upd H2 l (.lst [.int 1, .int (-1)])) := same_upd hl
      have g3 : upd H2 l (.lst [.int 1, .int (-1)]) l = some (.lst [.int 1, .int (-1)]) := upd_same
      generalize upd H2 l (.lst [.int 1, .int (-1)]) = H3 at s3 g3
      refine ⟨_, rfl, p, q, ds, 2, rfl, S2.sm s3, by decide, fun H4 v S4 b4 v0 v1 => ?_⟩
      have hz : ∃ z : Int, atI [V.int 1, V.int (-1)] v = some (.int z) ∧ -(2 ^ 64) < z ∧ z < 2 ^ 64 ∧ z.natAbs = 1 := by
        have h : v = 0 ∨ v = 1 := by omega
        rcases h with rfl | rfl
        · exact ⟨1, rfl, by decide, by decide, rfl⟩
        · exact ⟨-1, rfl, by decide, by decide, rfl⟩
      obtain ⟨z, gz, z0, z1, z2⟩ := hz
      have hnz : NOk ((m : Int) * z).natAbs := by rw [Int.natAbs_mul, z2, Nat.mul_one, Int.natAbs_natCast]; exact hmk
      exact ⟨l, _, _, _, rfl, rfl, SqL.of (Bt.of b4 _ _ g3 (S2.nn hl)), gz, _, _, rfl, rfl, .inr ⟨z0, z1⟩, qq H4 _ S4 (Bt.tr B1 (Bt.tr b2 (Bt.tr (Bt.same s3) (Bt.of b4)))) (VT.of (v := .num ((m : Int) * z)) ⟨rfl, hnz⟩ (by show (0 :: encI _).length ≤ 500; rw [List.length_cons]; have := len_I hnz; omega))⟩
    · refine ⟨_, rfl, rfl, _, rfl, ite2 (fun e => ?_) (fun e => ?_)⟩
      · refine ⟨_, rfl, p, q, ds, rfl, S1, fun H2 m S2 b2 hm => ?_⟩
        exact qq H2 _ S2 (Bt.tr B1 b2) (VT.of (v := .txt m) ⟨rfl, hm⟩ (by show (1 :: encS m).length ≤ 500; rw [List.length_cons]; have := len_S hm; omega))
      · refine ⟨_, rfl, rfl, _, rfl, ite2 (fun e => ?_) (fun e => ?_)⟩
        · refine ⟨_, rfl, p, q, ds, 2, rfl, S1, by decide, fun H2 v S2 b2 v0 v1 => ?_⟩
          exact ⟨rfl, qq H2 _ S2 (Bt.tr B1 (Bt.of b2)) (VT.of (v := .bl _) rfl (by show 2 ≤ 500; decide))⟩
        · refine ⟨_, rfl, rfl, _, rfl, ite2 (fun e => ?_) (fun e => ?_)⟩
          · refine ⟨Nat.zero_le _, fun t1 ht1 => ⟨(by show 2 ≤ sizeLine; decide), fun t2 ht2 => ?_⟩⟩
            have s2 := Same.tr (same_upd (o := .tup []) ht1) (same_upd (o := .tup [.str "list", .ref t1]) ht2)
            have g1 := same_upd (o := .tup [.str "list", .ref t1]) ht2 _ _ (upd_same (H := H1) (a := t1) (o := .tup []))
            refine qq _ _ (S1.sm s2) (Bt.tr B1 (Bt.same s2)) (VT.of (v := .lst []) ⟨t2, t1, [], rfl, upd_same, g1, by decide, .nil⟩ (by show (3 :: encL []).length ≤ 500; decide +kernel))
          · have hd0 : d ≠ 0 := fun h => e (by rw [h]; exact decide_eq_true rfl)
            have hsz : 2500 ≤ SZ d := by
              cases d with
              | zero => exact absurd rfl hd0
              | succ d' => have := SZ_ge d'; unfold SZ; omega
            have hlv := LV_pos hd0
            cases n with
            | zero => exact absurd hdn (by omega)
            | succ n' =>
            refine ⟨_, rfl, rfl, _, rfl, ite2 (fun e => ?_) (fun e => ?_)⟩
            · refine ⟨_, rfl, p, q, ds, 0, rfl, Nat.zero_le _, Nat.zero_le _, S1, fun H2 x S2 b2 hx => ?_⟩
              have hx : VT H2 1 500 x := hx
              refine ⟨_, rfl, _, rfl, 36, _, rfl, rfl, p, q, ds, 36 + (d : Int), rfl, S2, by omega, fun H3 v S3 b3 v0 v1 => ⟨v, rfl, by omega, by omega, ?_⟩⟩
              have B3 := Bt.tr B1 (Bt.tr b2 (Bt.of b3))
              refine for_range (lo := 0) (n := v.toNat) (fun i σ H' => ∃ (x : V) (y4 : Option V), σ = [some (.ref p), some (vi d), some (.int c), some x, y4, none] ∧ StN H' p q ds ∧ Bt H H' p ∧ VT H' (1 + i) (500 + 6 * i) x) ⟨x, none, rfl, S3, B3, hx.keep (Bt.tk (Bt.of b3) S2)⟩ ?_ ?_
              · rintro i σ H4 hi ⟨x, y4, rfl, S4, B4, hx4⟩
                refine ⟨_, rfl, (by show 1 ≤ sizeLine; decide), fun t1 ht1 => ⟨(by show 2 ≤ sizeLine; decide), fun t2 ht2 => ⟨_, rfl, (by show 1 ≤ sizeLine; decide), fun t3 ht3 => ⟨(by show 3 ≤ sizeLine; decide), fun t4 ht4 => ⟨(by show 2 ≤ sizeLine; decide), fun l hl => ?_⟩⟩⟩⟩⟩
                have s1 := same_upd (o := .tup [x]) ht1
                have g1 : upd H4 t1 (.tup [x]) t1 = some (.tup [x]) := upd_same
                generalize upd H4 t1 (.tup [x]) = G1 at *
                have s2 := same_upd (o := .tup [.str "list", .ref t1]) ht2
                have g2 : upd G1 t2 (.tup [.str "list", .ref t1]) t2 = some (.tup [.str "list", .ref t1]) := upd_same
                generalize upd G1 t2 (.tup [.str "list", .ref t1]) = G2 at *
                have s3 := same_upd (o := .tup [x]) ht3
                have g3 : upd G2 t3 (.tup [x]) t3 = some (.tup [x]) := upd_same
                generalize upd G2 t3 (.tup [x]) = G3 at *
                have s4 := same_upd (o := .tup [.str "make", .str "N", .ref t3]) ht4
                have g4 : upd G3 t4 (.tup [.str "make", .str "N", .ref t3]) t4 = some (.tup [.str "make", .str "N", .ref t3]) := upd_same
                generalize upd G3 t4 (.tup [.str "make", .str "N", .ref t3]) = G4 at *
                have s5 := same_upd (o := .lst [.ref t2, .ref t4]) hl
                have g5 : upd G4 l (.lst [.ref t2, .ref t4]) l = some (.lst [.ref t2, .ref t4]) := upd_same
                generalize upd G4 l (.lst [.ref t2, .ref t4]) = G5 at *
                have s15 : Same G1 G5 := Same.tr s2 (Same.tr s3 (Same.tr s4 s5))
                have s05 := Same.tr s1 s15
                have hx5 := hx4.keep (tkS s05)
                have r1 : VT G5 (1 + (i + 1)) (500 + 6 * (i + 1)) (.ref t2) := VT.mono (VT.lst (s5 _ _ (s4 _ _ (s3 _ _ g2))) (s15 _ _ g1) (by show 1 ≤ 3; decide) fun u hu => by rw [List.mem_singleton.mp hu]; exact hx5) (by omega) (by show 1 + (2 + 1 * (500 + 6 * i)) ≤ _; omega)
                have hN : (encS [78]).length = 2 := by decide +kernel
                have r2 : VT G5 (1 + (i + 1)) (500 + 6 * (i + 1)) (.ref t4) := VT.mono (VT.mk (m := [78]) (by show TxOk [78]; unfold TxOk; decide +kernel) (s5 _ _ g4) (s5 _ _ (s4 _ _ g3)) (by show 1 ≤ 3; decide) fun u hu => by rw [List.mem_singleton.mp hu]; exact hx5) (by omega) (by rw [hN]; show 1 + (2 + (2 + 1 * (500 + 6 * i))) ≤ _; omega)
                have S5 := S4.sm s05
                refine ⟨_, rfl, p, q, ds, 2, rfl, S5, by decide, fun H6 u S6 b6 u0 u1 => ?_⟩
                have B6 := Bt.tr B4 (Bt.tr (Bt.same s05) (Bt.of b6))
                have k6 := Bt.tk (Bt.of b6) S5
                have g6 : H6 l = some (.lst [.ref t2, .ref t4]) := Bt.of b6 _ _ g5 fun e => by
                  obtain ⟨i, h2⟩ := S4.at
                  rw [← e, Same.none (Same.tr s1 (Same.tr s2 (Same.tr s3 s4))) hl] at h2
                  cases h2
                have hy : ∃ y, atI [V.ref t2, V.ref t4] u = some y ∧ VT G5 (1 + (i + 1)) (500 + 6 * (i + 1)) y := by
                  have h : u = 0 ∨ u = 1 := by omega
                  rcases h with rfl | rfl
                  · exact ⟨_, rfl, r1⟩
                  · exact ⟨_, rfl, r2⟩
                obtain ⟨y, gy, ry⟩ := hy
                exact ⟨l, _, _, _, rfl, rfl, SqL.of g6, gy, y, _, rfl, S6, B6, ry.keep k6⟩
              · rintro σ H4 ⟨x, y4, rfl, S4, B4, hx4⟩
                exact ⟨_, rfl, qq H4 x S4 B4 (hx4.mono (by omega) (by omega))⟩
            · refine ⟨_, rfl, p, q, ds, 4, rfl, S1, by decide, fun H2 v S2 b2 v0 v1 => ⟨v, rfl, by omega, by omega, fun D hD => ?_⟩⟩
              have B2 := Bt.tr B1 (Bt.of b2)
              have sD := same_upd (o := .lst []) hD
              refine lc_range (lo := 0) (n := v.toNat) (fun i H' => StN H' p q ds ∧ Bt H2 H' p ∧ ∃ acc, H' D = some (.lst acc) ∧ acc.length = i ∧ ∀ x ∈ acc, VT H' (LV (d - 1)) (SZ (d - 1)) x) ⟨S2.sm sD, Bt.same sD, [], upd_same, rfl, fun x h => by cases h⟩ ?_ ?_
              · rintro i H3 hi ⟨S3, b3, acc, hD3, hl3, hacc⟩
                have ed : V.int ((d : Int) - 1) = vi (d - 1) := congrArg V.int (by omega)
                refine ⟨rfl, lc_yes ⟨_, rfl, _, rfl, _, 1, rfl, rfl, p, q, ds, d - 1, ?_, by omega, by omega, S3, fun H4 x S4 b4 hx => ?_⟩⟩
                · show [V.ref p, V.int ((d : Int) - 1)] = _
                  rw [ed]
                have hD4 : H4 D = some (.lst acc) := b4 _ _ hD3 (S2.nn hD)
                have k4 := Bt.tk b4 S3
                have kD : TupK H4 (upd H4 D (.lst (acc ++ [x]))) := tk_upd fun xs e => by rw [hD4] at e; cases e
                refine ⟨acc, hD4, by rw [hl3]; exact Nat.lt_of_lt_of_le (show i < 4 by omega) (by decide), S4.up (S2.nn hD) (S2.nq hD), Bt.up (Bt.tr b3 b4) hD, acc ++ [x], upd_same, by rw [List.length_append, hl3]; rfl, fun u hu => ?_⟩
                rcases List.mem_append.mp hu with hu | hu
                · exact ((hacc u hu).keep k4).keep kD
                · rw [List.mem_singleton.mp hu]
                  exact hx.keep kD
              · rintro H3 ⟨S3, b3, acc, hD3, hl3, hacc⟩
                have hl4 : acc.length ≤ 3 := by omega
                refine ⟨D, _, rfl, .inl ⟨SqL.of hD3, fun t ht => ?_⟩⟩
                have s4 := same_upd (o := .tup acc) ht
                have g4 : upd H3 t (.tup acc) t = some (.tup acc) := upd_same
                generalize upd H3 t (.tup acc) = H4 at s4 g4
                have S4 := S3.sm s4
                have B4 := Bt.tr B2 (Bt.tr b3 (Bt.same s4))
                have hvd : LV (d - 1) + 1 ≤ LV d := by
                  rw [hlv]; unfold LV
                  split <;> omega
                have hsd : SZ d = 1000 + 3 * SZ (d - 1) := by
                  cases d with
                  | zero => exact absurd rfl hd0
                  | succ d' => rfl
                have hms : acc.length * SZ (d - 1) ≤ 3 * SZ (d - 1) := Nat.mul_le_mul_right _ hl4
                have hacc4 : ∀ x ∈ acc, VT H4 (LV (d - 1)) (SZ (d - 1)) x := fun u hu => (hacc u hu).keep (tkS s4)
                refine ⟨_, rfl, _, 7, rfl, rfl, _, rfl, ite2 (fun e => ?_) (fun e => ?_)⟩
                · refine ⟨_, rfl, (by show 2 ≤ sizeLine; decide), fun t2 ht2 => ?_⟩
                  have s5 := same_upd (o := .tup [.str "list", .ref t]) ht2
                  refine qq _ _ (S4.sm s5) (Bt.tr B4 (Bt.same s5)) (VT.mono (VT.lst upd_same (s5 _ _ g4) hl4 fun u hu => (hacc4 u hu).keep (tkS s5)) hvd (by omega))
                · refine ⟨_, rfl, p, q, ds, rfl, S4, fun H5 m S5 b5 hmk => ⟨_, rfl, (by show 3 ≤ sizeLine; decide), fun t2 ht2 => ?_⟩⟩
                  have k5 := Bt.tk b5 S4
                  have s6 := same_upd (o := .tup [.str "make", .str (S m), .ref t]) ht2
                  refine qq _ _ (S5.sm s6) (Bt.tr B4 (Bt.tr b5 (Bt.same s6))) (VT.mono (VT.mk hmk upd_same (s6 _ _ (k5 _ _ g4)) hl4 fun u hu => ((hacc4 u hu).keep k5).keep (tkS s6)) hvd (by have := len_S hmk; omega))
theorem ok_gvalue (Z : Defs K mg) : ∀ n, FnOk P w K mg base CX0 (n + 6) Z.fLawValue Z.fdLawValue ["state", "depth"] (spVal n)
  | 0 => gvalue_step Z (Z.DLawValue.F.ok scLawValue (fun vs H Q E h => (show False from h).elim) (fun cdv A outer s H vs Q E hr h => (show False from h).elim))
  | n + 1 => gvalue_step Z (ok_gvalue Z n)
end
end Q40
namespace Q40
open PySem PySem.Spec PyProof.Rows L2 SX HL NM DM
theorem len_B {l : List Nat} (h : TxOk l) : (bB l).length ≤ 403 := by
  have := len_S h
  unfold bB
  split
  · decide
  split
  · decide
  split
  · decide
  rw [List.length_cons]; omega
section
variable {P : Program} {w : World} {K : PySem.W.Frag} {mg : Str → Option Value} {base : Heap}
/-! ### _law_outcome, _law_shape_kind -/
def spGen {D : Type} (R : Hp → D → V → Prop) (f : D → List Nat) (s : Nat) : Sp := fun vs H Q _ => ∃ (p q : Addr) (ds : List Int), vs = [.ref p] ∧ StN H p q ds ∧ ∀ H' x d, StN H' p q ds → Bt H H' p → R H' d x → (f d).length ≤ s → Q x H'
theorem ok_outcome (Z : Defs K mg) : FnOk P w K mg base CX0 11 Z.fLawOutcome Z.fdLawOutcome ["state"] (spGen OuAt bO 30000) := by
  have GLawNext : FnOk P w K mg base CX0 3 Z.fLawNext Z.fdLawNext ["state", "limit"] spNext := ok_next Z
  have GLawWord : FnOk P w K mg base CX0 4 Z.fLawWord Z.fdLawWord ["state"] spGenS := ok_word Z
  have GLawValue : FnOk P w K mg base CX0 9 Z.fLawValue Z.fdLawValue ["state", "depth"] (spVal 3) := ok_gvalue Z 3
  have esz : SZ 3 = 26500 := rfl
  have elv : LV 3 = 39 := rfl
  refine Z.DLawOutcome.F.ok scLawOutcome (fun vs H Q E h => ?_) (fun cdv A outer s H vs Q E hr h => ?_)
  · obtain ⟨p, q, ds, rfl, _⟩ := h
    rfl
  · obtain ⟨p, q, ds, rfl, hS, qq⟩ := h
    refine ⟨_, (pss_cons (ps_set (i := 1) scLawOutcome.nd rfl (.inl rfl) (pe_call GLawNext (hr.mono (by omega)) (by rfl) Z.DLawNext.g Z.DLawNext.F.kp Z.DLawNext.b .nil pass0 (pa_cons (pv 0) (pa_cons pe_int pa_nil))))
        (pss_cons (ps_if (pt_cmpR op_gt (pv 1) pe_int (nomark _)) (pss_one (ps_ret (pe_tup (pa_cons pe_str (pa_cons (pe_call GLawValue (hr.mono (by omega)) (by rfl) Z.DLawValue.g Z.DLawValue.F.kp Z.DLawValue.b .nil pass0 (pa_cons (pv 0) (pa_cons pe_int pa_nil))) pa_nil))))) pss_nil)
        (pss_cons (ps_if (pt_cmpR op_eq (pv 1) pe_int (nomark _)) (pss_one (ps_ret (pe_tup (pa_cons pe_str (pa_cons (pe_tup (pa_cons pe_str (pa_cons (pe_call GLawWord (hr.mono (by omega)) (by rfl) Z.DLawWord.g Z.DLawWord.F.kp Z.DLawWord.b .nil pass0 (pa_cons (pv 0) pa_nil)) pa_nil))) pa_nil))))) pss_nil)
        (pss_one (ps_ret (pe_tup (pa_cons pe_str (pa_cons (pe_tup (pa_cons (pe_ix ix_list (pe_lst (pa_cons pe_str (pa_cons pe_str (pa_cons pe_str (pa_cons pe_str (pa_cons pe_str (pa_cons pe_str pa_nil))))))) (pv 1) (fun _ _ => rfl)) pa_nil)) pa_nil)))))))), ?_⟩
    refine ⟨_, rfl, p, q, ds, 12, rfl, hS, by decide, fun H1 c S1 b1 c0 c1 => ?_⟩
    have B1 := Bt.of b1
    clear b1
    refine ⟨_, rfl, _, 5, rfl, rfl, _, rfl, ite2 (fun e => ?_) (fun e => ?_)⟩
    · refine ⟨_, rfl, p, q, ds, 3, rfl, Nat.le_refl _, by decide, S1, fun H2 x S2 b2 hx => ⟨(by show 2 ≤ sizeLine; decide), fun t ht => ?_⟩⟩
      have s3 := same_upd (o := .tup [.str "value", x]) ht
      obtain ⟨v, hv1, hv2⟩ := hx
      rw [elv] at hv1 hv2
      obtain ⟨hv3, hv4⟩ := hv1.le (m := 40) (by decide)
      exact qq _ _ (.val v) (S2.sm s3) (Bt.tr B1 (Bt.tr b2 (Bt.same s3))) ⟨t, x, rfl, upd_same, hv3.keep (tkS s3)⟩ (by show (0 :: bV 40 v).length ≤ _; rw [List.length_cons, hv4]; omega)
    · have hc5 : c ≤ 5 := by
        have : ¬ c > 5 := fun h => e (decide_eq_true h)
        omega
      refine ⟨_, rfl, rfl, _, rfl, ite2 (fun e => ?_) (fun e => ?_)⟩
      · refine ⟨_, rfl, p, q, ds, rfl, S1, fun H2 m S2 b2 hmk => ⟨(by show 2 ≤ sizeLine; decide), fun t ht => ⟨(by show 2 ≤ sizeLine; decide), fun t2 ht2 => ?_⟩⟩⟩
        have s3 := same_upd (o := .tup [.str "missing", .str (S m)]) ht
        have g3 : upd H2 t (.tup [.str "missing", .str (S m)]) t = some (.tup [.str "missing", .str (S m)]) := upd_same
        generalize upd H2 t (.tup [.str "missing", .str (S m)]) = H3 at *
        have s4 := same_upd (o := .tup [.str "fault", .ref t]) ht2
        have s34 := Same.tr s3 s4
        exact qq _ _ (.miss m) (S2.sm s34) (Bt.tr B1 (Bt.tr b2 (Bt.same s34))) ⟨hmk, t2, t, rfl, upd_same, s4 _ _ g3⟩ (by show (1 :: 3 :: encS m).length ≤ _; rw [List.length_cons, List.length_cons]; have := len_S hmk; omega)
      · rename_i e3
        have hc3 : c ≠ 3 := fun h => e (decide_eq_true (by rw [h]))
        refine ⟨(by show 6 ≤ sizeLine; decide), fun l hl => ?_⟩
        generalize hws : [V.str "division", V.str "deep", V.str "large", V.str "", V.str "stuck", V.str "long"] = ws
        have s2 : Same H1 (upd H1 l (.lst ws)) := same_upd hl
        have g2 : upd H1 l (.lst ws) l = some (.lst ws) := upd_same
        generalize upd H1 l (.lst ws) = H2 at *
        obtain ⟨i, y, hy, hi, hi3, hyl⟩ : ∃ (i : Nat) (y : V), atI ws c = some y ∧ i < 6 ∧ i ≠ 3 ∧ y = .str (FAU.getD i "") := by
          rw [← hws]
          have h : c = 0 ∨ c = 1 ∨ c = 2 ∨ c = 4 ∨ c = 5 := by omega
          rcases h with h | h | h | h | h <;> subst h
          · exact ⟨0, _, rfl, by decide, by decide, rfl⟩
          · exact ⟨1, _, rfl, by decide, by decide, rfl⟩
          · exact ⟨2, _, rfl, by decide, by decide, rfl⟩
          · exact ⟨4, _, rfl, by decide, by decide, rfl⟩
          · exact ⟨5, _, rfl, by decide, by decide, rfl⟩
        refine ⟨_, rfl, l, _, _, _, rfl, rfl, SqL.of g2, hy, (by show 1 ≤ sizeLine; decide), fun t ht => ⟨(by show 2 ≤ sizeLine; decide), fun t2 ht2 => ?_⟩⟩
        have s3 := same_upd (o := .tup [y]) ht
        have g3 : upd H2 t (.tup [y]) t = some (.tup [y]) := upd_same
        generalize upd H2 t (.tup [y]) = H3 at *
        have s4 := same_upd (o := .tup [.str "fault", .ref t]) ht2
        have s14 := Same.tr s2 (Same.tr s3 s4)
        subst hyl
        exact qq _ _ (.flt i) (S1.sm s14) (Bt.tr B1 (Bt.same s14)) ⟨hi, hi3, t2, t, rfl, upd_same, s4 _ _ g3⟩ (by show 2 ≤ 30000; decide)
theorem ok_shapeKind (Z : Defs K mg) : FnOk P w K mg base CX0 4 Z.fLawShapeKind Z.fdLawShapeKind ["state"] (spGen KdAt bK 450) := by
  have GLawNext : FnOk P w K mg base CX0 3 Z.fLawNext Z.fdLawNext ["state", "limit"] spNext := ok_next Z
  refine Z.DLawShapeKind.F.ok scLawShapeKind (fun vs H Q E h => ?_) (fun cdv A outer s H vs Q E hr h => ?_)
  · obtain ⟨p, q, ds, rfl, _⟩ := h
    rfl
  · obtain ⟨p, q, ds, rfl, hS, qq⟩ := h
    refine ⟨_, (pss_one (ps_ret (pe_tup (pa_cons (pe_ix ix_list (pe_lst (pa_cons pe_int (pa_cons pe_int (pa_cons pe_int (pa_cons pe_int (pa_cons pe_int pa_nil)))))) (pe_call GLawNext (hr.mono (by omega)) (by rfl) Z.DLawNext.g Z.DLawNext.F.kp Z.DLawNext.b .nil pass0 (pa_cons (pv 0) (pa_cons pe_int pa_nil))) (fun _ _ => rfl)) (pa_cons (pe_ix ix_list (pe_lst (pa_cons pe_str (pa_cons pe_str (pa_cons pe_str (pa_cons pe_str (pa_cons pe_str pa_nil)))))) (pe_call GLawNext (hr.mono (by omega)) (by rfl) Z.DLawNext.g Z.DLawNext.F.kp Z.DLawNext.b .nil pass0 (pa_cons (pv 0) (pa_cons pe_int pa_nil))) (fun _ _ => rfl)) pa_nil))))), ?_⟩
    refine ⟨(by show 5 ≤ sizeLine; decide), fun l hl => ?_⟩
    generalize hws : [V.int 0, V.int 1, V.int 2, V.int 12, V.int 130] = ws
    have s1 : Same H (upd H l (.lst ws)) := same_upd hl
    have g1 : upd H l (.lst ws) l = some (.lst ws) := upd_same
    generalize upd H l (.lst ws) = H1 at *
    have S1 := hS.sm s1
    refine ⟨_, rfl, p, q, ds, 5, rfl, S1, by decide, fun H2 c S2 b2 c0 c1 => ?_⟩
    obtain ⟨n, hy, hyl⟩ : ∃ n : Nat, atI ws c = some (vi n) ∧ NOk n := by
      rw [← hws]
      have h : c = 0 ∨ c = 1 ∨ c = 2 ∨ c = 3 ∨ c = 4 := by omega
      rcases h with h | h | h | h | h <;> subst h
      · exact ⟨0, rfl, NOk.small (by decide)⟩
      · exact ⟨1, rfl, NOk.small (by decide)⟩
      · exact ⟨2, rfl, NOk.small (by decide)⟩
      · exact ⟨12, rfl, NOk.small (by decide)⟩
      · exact ⟨130, rfl, NOk.small (by decide)⟩
    refine ⟨l, _, _, _, rfl, rfl, SqL.of (Bt.of b2 _ _ g1 (hS.nn hl)), hy, (by show 5 ≤ sizeLine; decide), fun l2 hl2 => ?_⟩
    generalize hws2 : [V.str "num", V.str "text", V.str "bool", V.str "d", V.str "tree_2"] = ws2
    have s3 : Same H2 (upd H2 l2 (.lst ws2)) := same_upd hl2
    have g3 : upd H2 l2 (.lst ws2) l2 = some (.lst ws2) := upd_same
    generalize upd H2 l2 (.lst ws2) = H3 at *
    have S3 := S2.sm s3
    refine ⟨_, rfl, p, q, ds, 5, rfl, S3, by decide, fun H4 c S4 b4 c0 c1 => ?_⟩
    obtain ⟨z, hz, hzl⟩ : ∃ z : List Nat, atI ws2 c = some (.str (S z)) ∧ TxOk z := by
      rw [← hws2]
      have h : c = 0 ∨ c = 1 ∨ c = 2 ∨ c = 3 ∨ c = 4 := by omega
      rcases h with h | h | h | h | h <;> subst h
      · exact ⟨("num" : Str).cps.toList, rfl, by unfold TxOk; decide +kernel⟩
      · exact ⟨("text" : Str).cps.toList, rfl, by unfold TxOk; decide +kernel⟩
      · exact ⟨("bool" : Str).cps.toList, rfl, by unfold TxOk; decide +kernel⟩
      · exact ⟨("d" : Str).cps.toList, rfl, by unfold TxOk; decide +kernel⟩
      · exact ⟨("tree_2" : Str).cps.toList, rfl, by unfold TxOk; decide +kernel⟩
    refine ⟨l2, _, _, _, rfl, rfl, SqL.of (Bt.of b4 _ _ g3 (S2.nn hl2)), hz, (by show 2 ≤ sizeLine; decide), fun t ht => ?_⟩
    have s5 := same_upd (o := .tup [vi n, .str (S z)]) ht
    exact qq _ _ (n, z) (S4.sm s5) (Bt.tr (Bt.same s1) (Bt.tr (Bt.of b2) (Bt.tr (Bt.same s3) (Bt.tr (Bt.of b4) (Bt.same s5))))) ⟨hyl, hzl, t, rfl, upd_same⟩ (by show (enc n ++ bB z).length ≤ 450; rw [List.length_append]; have h1 := hyl.len; have h2 := len_B hzl; omega)
end
end Q40
namespace Q40
open PySem PySem.Spec PyProof.Rows L2 SX HL NM DM
section
variable {P : Program} {w : World} {K : PySem.W.Frag} {mg : Str → Option Value} {base : Heap}
/-! ### _law_any_deed -/
theorem ok_anyDeed (Z : Defs K mg) : FnOk P w K mg base CX0 5 Z.fLawAnyDeed Z.fdLawAnyDeed ["state"] (spGen DeAt bDe 20000) := by
  have GLawNext : FnOk P w K mg base CX0 3 Z.fLawNext Z.fdLawNext ["state", "limit"] spNext := ok_next Z
  have GLawWord : FnOk P w K mg base CX0 4 Z.fLawWord Z.fdLawWord ["state"] spGenS := ok_word Z
  have GLawBig : FnOk P w K mg base CX0 4 Z.fLawBig Z.fdLawBig ["state"] spBig := ok_big Z
  have GLawTextOf : FnOk P w K mg base CX0 4 Z.fLawTextOf Z.fdLawTextOf ["state"] spTxt := ok_textOf Z
  refine Z.DLawAnyDeed.F.ok scLawAnyDeed (fun vs H Q E h => ?_) (fun cdv A outer s H vs Q E hr h => ?_)
  · obtain ⟨p, q, ds, rfl, _⟩ := h
    rfl
  · obtain ⟨p, q, ds, rfl, hS, qq⟩ := h
    refine ⟨_, (pss_cons (ps_if (pt_cmpR op_eq (pe_call GLawNext (hr.mono (by omega)) (by rfl) Z.DLawNext.g Z.DLawNext.F.kp Z.DLawNext.b .nil pass0 (pa_cons (pv 0) (pa_cons pe_int pa_nil))) pe_int (nomark _)) (pss_one (ps_ret (pe_tup (pa_cons pe_str (pa_cons (pe_call GLawBig (hr.mono (by omega)) (by rfl) Z.DLawBig.g Z.DLawBig.F.kp Z.DLawBig.b .nil pass0 (pa_cons (pv 0) pa_nil)) pa_nil))))) pss_nil)
        (pss_cons (ps_setLc (i := 1) (own := [("k", 3)]) (g := (gName 3)) (by rfl) scLawAnyDeed.nd rfl rfl (sw_true rfl rfl rfl (by decide +kernel)) (pi_range1 (by rfl) Z.range (pa_cons (pe_call GLawNext (hr.mono (by omega)) (by rfl) Z.DLawNext.g Z.DLawNext.F.kp Z.DLawNext.b .nil pass0 (pa_cons (pv 0) (pa_cons pe_int pa_nil))) pa_nil)) (blkOk_by (own := [("k", 3)]) (N := ["state", "removed", "behind", "k"]) (sc := defScope sLawAnyDeed) (by decide +kernel)) (fun _ _ _ _ _ => (pg_name (i := 3) scLawAnyDeed.nd rfl (Or.inl rfl))) (fun _ _ _ _ _ => pts_nil) (fun _ _ _ _ _ => (pe_tup (pa_cons (pe_call GLawBig (hr.mono (by omega)) (by rfl) Z.DLawBig.g Z.DLawBig.F.kp Z.DLawBig.b .nil pass0 (pa_cons (pv 0) pa_nil)) (pa_cons (pe_call GLawNext (hr.mono (by omega)) (by rfl) Z.DLawNext.g Z.DLawNext.F.kp Z.DLawNext.b .nil pass0 (pa_cons (pv 0) (pa_cons pe_int pa_nil))) pa_nil)))))
        (C8.pss_cut (ps_if (pt_cmpR op_eq (pe_call GLawNext (hr.mono (by omega)) (by rfl) Z.DLawNext.g Z.DLawNext.F.kp Z.DLawNext.b .nil pass0 (pa_cons (pv 0) (pa_cons pe_int pa_nil))) pe_int (nomark _)) (pss_one (ps_setLc (i := 1) (own := [("k", 3)]) (g := (gName 3)) (by rfl) scLawAnyDeed.nd rfl rfl (sw_true rfl rfl rfl (by decide +kernel)) (pi_range1 (by rfl) Z.range (pa_cons pe_int pa_nil)) (blkOk_by (own := [("k", 3)]) (N := ["state", "removed", "behind", "k"]) (sc := defScope sLawAnyDeed) (by decide +kernel)) (fun _ _ _ _ _ => (pg_name (i := 3) scLawAnyDeed.nd rfl (Or.inl rfl))) (fun _ _ _ _ _ => pts_nil) (fun _ _ _ _ _ => (pe_tup (pa_cons (pe_op op_add (pv 3) pe_int) (pa_cons pe_int pa_nil)))))) pss_nil)
        (pss_cons (ps_set (i := 2) scLawAnyDeed.nd rfl (.inl rfl) (pe_ix ix_list (pe_lst (pa_cons pe_non (pa_cons (pe_tup (pa_cons (pe_call GLawBig (hr.mono (by omega)) (by rfl) Z.DLawBig.g Z.DLawBig.F.kp Z.DLawBig.b .nil pass0 (pa_cons (pv 0) pa_nil)) (pa_cons (pe_call GLawNext (hr.mono (by omega)) (by rfl) Z.DLawNext.g Z.DLawNext.F.kp Z.DLawNext.b .nil pass0 (pa_cons (pv 0) (pa_cons pe_int pa_nil))) pa_nil))) pa_nil))) (pe_call GLawNext (hr.mono (by omega)) (by rfl) Z.DLawNext.g Z.DLawNext.F.kp Z.DLawNext.b .nil pass0 (pa_cons (pv 0) (pa_cons pe_int pa_nil))) (fun _ _ => rfl)))
        (pss_one (ps_ret (pe_tup (pa_cons pe_str (pa_cons (pe_call GLawWord (hr.mono (by omega)) (by rfl) Z.DLawWord.g Z.DLawWord.F.kp Z.DLawWord.b .nil pass0 (pa_cons (pv 0) pa_nil)) (pa_cons (pe_callTy call_tuple_of (by rfl) Z.tuple HL.boot_tuple (pa_cons (pv 1) pa_nil)) (pa_cons (pv 2) (pa_cons (pe_call GLawBig (hr.mono (by omega)) (by rfl) Z.DLawBig.g Z.DLawBig.F.kp Z.DLawBig.b .nil pass0 (pa_cons (pv 0) pa_nil)) (pa_cons (pe_call GLawTextOf (hr.mono (by omega)) (by rfl) Z.DLawTextOf.g Z.DLawTextOf.F.kp Z.DLawTextOf.b .nil pass0 (pa_cons (pv 0) pa_nil)) pa_nil))))))))))))), ?_⟩
    refine ⟨_, rfl, p, q, ds, 4, rfl, hS, by decide, fun H1 c S1 b1 c0 c1 => ⟨rfl, _, rfl, ite2 (fun e => ?_) (fun e => ?_)⟩⟩
    · refine ⟨_, rfl, p, q, ds, rfl, S1, fun H2 n S2 b2 hnk => ⟨(by show 2 ≤ sizeLine; decide), fun t ht => ?_⟩⟩
      have s3 := same_upd (o := .tup [.str "back", vi n]) ht
      exact qq _ _ (.back n) (S2.sm s3) (Bt.tr (Bt.of b1) (Bt.tr b2 (Bt.same s3))) ⟨hnk, t, rfl, upd_same⟩ (by show (1 :: enc n).length ≤ _; rw [List.length_cons]; have := hnk.len; omega)
    · refine ⟨_, rfl, p, q, ds, 4, rfl, S1, by decide, fun H2 v S2 b2 v0 v1 => ⟨v, rfl, by omega, by omega, fun D hD => ?_⟩⟩
      have B2 := Bt.tr (Bt.of b1) (Bt.of b2)
      have nDp := S2.nn hD
      have nDq := S2.nq hD
      have sD := same_upd (o := .lst []) hD
      refine lc_range (lo := 0) (n := v.toNat) (fun i H' => StN H' p q ds ∧ Bt H2 H' p ∧ ∃ us rem, H' D = some (.lst us) ∧ us.length = i ∧ All2 (fun u m => MarkAt H' m u) us rem) ⟨S2.sm sD, Bt.same sD, [], [], upd_same, rfl, .nil⟩ ?_ ?_
      · rintro i H3 hi ⟨S3, B3, us, rem, hD3, hl3, hus⟩
        refine ⟨rfl, lc_yes ⟨_, rfl, p, q, ds, rfl, S3, fun H4 n S4 B4 hnk => ⟨_, rfl, p, q, ds, 9, rfl, S4, by decide, fun H5 u S5 b5 u0 u1 => ⟨(by show 2 ≤ sizeLine; decide), fun t ht => ?_⟩⟩⟩⟩
        obtain ⟨j, rfl⟩ := Int.eq_ofNat_of_zero_le u0
        have st := same_upd (o := .tup [vi n, .int ((j : Nat) : Int)]) ht
        have gt : upd H5 t (.tup [vi n, .int ((j : Nat) : Int)]) t = some (.tup [vi n, .int ((j : Nat) : Int)]) := upd_same
        have B36 := Bt.tr B4 (Bt.tr (Bt.of b5) (Bt.same st))
        have S6 := S5.sm st
        generalize upd H5 t (.tup [vi n, .int ((j : Nat) : Int)]) = H6 at *
        have hD6 := B36 _ _ hD3 nDp
        have kD : TupK H6 (upd H6 D (.lst (us ++ [.ref t]))) := tk_upd fun xs e => by rw [hD6] at e; cases e
        have k36 := Bt.tk B36 S3
        refine ⟨us, hD6, by rw [hl3]; exact Nat.lt_of_lt_of_le (show i < 4 by omega) (by decide), S6.up nDp nDq, Bt.up (Bt.tr B3 B36) hD, us ++ [.ref t], rem ++ [(n, j)], upd_same, by rw [List.length_append, hl3]; rfl, ?_⟩
        exact (hus.mono fun v e h => (h.keep k36).keep kD).app (.one ⟨⟨hnk, NOk.small (by omega)⟩, t, rfl, kD _ _ gt⟩)
      · rintro H3 ⟨S3, B3, us, rem, hD3, hl3, hus⟩
        have B3' := Bt.tr B2 B3
        refine ⟨fun σ' H' => ∃ (D : Addr) (us : List V) (rem : List Mark), σ' = [some (.ref p), some (.ref D), none, none] ∧ StN H' p q ds ∧ Bt H H' p ∧ D ≠ p ∧ H' D = some (.lst us) ∧ All2 (fun u m => MarkAt H' m u) us rem ∧ rem.length ≤ 130, ?_, ?_⟩
        · refine ⟨_, rfl, p, q, ds, 20, rfl, S3, by decide, fun H4 u S4 b4 u0 u1 => ⟨rfl, _, rfl, ite2 (fun e => ?_) (fun e => ?_)⟩⟩
          · refine ⟨130, rfl, by decide, by decide, fun D2 hD2 => ?_⟩
            have s5 := same_upd (o := .lst []) hD2
            refine lc_range (lo := 0) (n := 130) (fun i H' => Same H4 H' ∧ ∃ us rem, H' D2 = some (.lst us) ∧ us.length = i ∧ All2 (fun u m => MarkAt H' m u) us rem) ⟨s5, [], [], upd_same, rfl, .nil⟩ ?_ ?_
            · rintro i H5 hi ⟨s5, us, rem, hD5, hl5, hus5⟩
              refine ⟨rfl, lc_yes ⟨_, rfl, _, 1, rfl, rfl, (by show 2 ≤ sizeLine; decide), fun t ht => ?_⟩⟩
              have et : V.int (0 + (i : Int) + 1) = vi (i + 1) := congrArg V.int (by omega)
              have st := same_upd (o := .tup [.int (0 + (i : Int) + 1), .int 0]) ht
              have gt : upd H5 t (.tup [.int (0 + (i : Int) + 1), .int 0]) t = some (.tup [vi (i + 1), vi 0]) := by rw [upd_same, et]; rfl
              show ∃ acc, upd H5 t (.tup [.int (0 + (i : Int) + 1), .int 0]) D2 = some (.lst acc) ∧ _
              generalize upd H5 t (.tup [.int (0 + (i : Int) + 1), .int 0]) = H6 at st gt ⊢
              have hD6 := st _ _ hD5
              have kD : TupK H6 (upd H6 D2 (.lst (us ++ [.ref t]))) := tk_upd fun xs e => by rw [hD6] at e; cases e
              refine ⟨us, hD6, by rw [hl5]; exact Nat.lt_of_lt_of_le hi (by decide), fun z o hz => by rw [upd_ne (ne_of_none hz hD2)]; exact st _ _ (s5 _ _ hz), us ++ [.ref t], rem ++ [(i + 1, 0)], upd_same, by rw [List.length_append, hl5]; rfl, ?_⟩
              exact (hus5.mono fun v e h => (h.keep (Same.tk st)).keep kD).app (.one ⟨⟨NOk.small (show i + 1 < 1000000 by omega), NOk.small (show 0 < 1000000 by decide)⟩, t, rfl, kD _ _ gt⟩)
            · rintro H5 ⟨s5, us, rem, hD5, hl5, hus5⟩
              exact ⟨D2, us, rem, rfl, S4.sm s5, Bt.tr B3' (Bt.tr (Bt.of b4) (Bt.same s5)), S4.nn hD2, hD5, hus5, by rw [← hus5.len, hl5]; exact Nat.le_refl _⟩
          · exact ⟨D, us, rem, rfl, S4, Bt.tr B3' (Bt.of b4), nDp, Bt.of b4 _ _ hD3 nDp, hus.mono fun v e h => h.keep (Bt.tk (Bt.of b4) S3), by rw [← hus.len, hl3]; omega⟩
        · clear hus hl3 hD3 B3' B3 S3 B2 nDp nDq sD hD
          rintro σ H4 ⟨D, us, rem, rfl, S4, B4, nDp, hD4, hus, hrl⟩
          refine ⟨_, rfl, p, q, ds, rfl, S4, fun H5 n S5 B5 hnk => ⟨_, rfl, p, q, ds, 9, rfl, S5, by decide, fun H6 u S6 b6 u0 u1 => ⟨(by show 2 ≤ sizeLine; decide), fun t ht => ⟨(by show 2 ≤ sizeLine; decide), fun l hl => ?_⟩⟩⟩⟩
          obtain ⟨j, rfl⟩ := Int.eq_ofNat_of_zero_le u0
          have st := same_upd (o := .tup [vi n, .int ((j : Nat) : Int)]) ht
          have gt : upd H6 t (.tup [vi n, .int ((j : Nat) : Int)]) t = some (.tup [vi n, .int ((j : Nat) : Int)]) := upd_same
          generalize upd H6 t (.tup [vi n, .int ((j : Nat) : Int)]) = H7 at *
          have sl := same_upd (o := .lst [.non, .ref t]) hl
          have gl : upd H7 l (.lst [.non, .ref t]) l = some (.lst [.non, .ref t]) := upd_same
          generalize upd H7 l (.lst [.non, .ref t]) = H8 at *
          have S7 := S6.sm st
          have S8 := S7.sm sl
          refine ⟨_, rfl, p, q, ds, 2, rfl, S8, by decide, fun H9 c S9 b9 c0 c1 => ?_⟩
          have gl9 := Bt.of b9 _ _ gl (S7.nn hl)
          have k89 := Bt.tk (Bt.of b9) S8
          obtain ⟨bx, b, gb, hb⟩ : ∃ bx b, atI [V.non, V.ref t] c = some bx ∧ BeAt H9 b bx := by
            have h : c = 0 ∨ c = 1 := by omega
            rcases h with rfl | rfl
            · exact ⟨.non, none, rfl, rfl⟩
            · exact ⟨.ref t, some (n, j), rfl, ⟨⟨hnk, NOk.small (show j < 1000000 by omega)⟩, t, rfl, k89 _ _ (sl _ _ gt)⟩⟩
          have B49 := Bt.tr B5 (Bt.tr (Bt.of b6) (Bt.tr (Bt.same st) (Bt.tr (Bt.same sl) (Bt.of b9))))
          have hus9 := hus.mono fun v e h => MarkAt.keep (Bt.tk B49 S4) h
          have hD9 := B49 _ _ hD4 nDp
          refine ⟨l, _, _, _, rfl, rfl, SqL.of gl9, gb, ?_⟩
          refine ⟨_, rfl, p, q, ds, rfl, S9, fun H10 m S10 B10 hmk => ?_⟩
          have hD10 := B10 _ _ hD9 nDp
          refine ⟨_, rfl, D, _, rfl, .inl ⟨SqL.of hD10, fun tr htr => ?_⟩⟩
          have s11 := same_upd (o := .tup us) htr
          have g11 : upd H10 tr (.tup us) tr = some (.tup us) := upd_same
          generalize upd H10 tr (.tup us) = H11 at *
          have S11 := S10.sm s11
          have k11 := (Bt.tk B10 S9).trans (Same.tk s11)
          have hus11 := hus9.mono fun v e h => h.keep k11
          have hb11 := hb.keep k11
          refine ⟨_, rfl, _, rfl, p, q, ds, rfl, S11, fun H12 nn S12 B12 hnn => ?_⟩
          refine ⟨_, rfl, p, q, ds, rfl, S12, fun H13 tx S13 B13 htx => ⟨(by show 6 ≤ sizeLine; decide), fun tt htt => ?_⟩⟩
          have s14 := same_upd (o := .tup [.str "change", .str (S m), .ref tr, bx, vi nn, .str (S tx)]) htt
          have k14 := (Bt.tk B12 S11).trans ((Bt.tk B13 S12).trans (Same.tk s14))
          refine qq _ _ (.change m rem b nn tx) (S13.sm s14) (Bt.tr B4 (Bt.tr B49 (Bt.tr B10 (Bt.tr (Bt.same s11) (Bt.tr B12 (Bt.tr B13 (Bt.same s14))))))) ⟨hmk, hnn, htx, tt, .ref tr, bx, rfl, upd_same, ⟨tr, us, rfl, k14 _ _ g11, by rw [hus.len]; omega, hus11.mono fun v e h => h.keep k14⟩, hb11.keep k14⟩ ?_
          have h1 := len_S hmk
          have h2 := len_S htx
          have h3 := hnn.len
          have h4 := len_L (xs := rem.map bMk) (c := 130) (m := 42) (by rw [List.length_map]; exact hrl) (by decide) (fun y hy => by
            obtain ⟨mm, hmm, rfl⟩ := List.mem_map.mp hy
            obtain ⟨_, _, ⟨⟨q1, q2⟩, _⟩⟩ := all2_memR hus hmm
            have := q1.len
            have := q2.len
            unfold bMk
            rw [List.length_append]
            omega)
          have h5 : (bBe b).length ≤ 43 := by
            cases b with
            | none => exact (by decide : 1 ≤ 43)
            | some mm =>
              obtain ⟨⟨q1, q2⟩, _⟩ := hb
              have := q1.len
              have := q2.len
              show (1 :: bMk mm).length ≤ 43
              unfold bMk
              rw [List.length_cons, List.length_append]
              omega
          simp only [bDe, List.length_cons, List.length_append]
          omega
end
end Q40
namespace Q40
open PySem PySem.Spec PyProof.Rows L2 SX HL NM DM
/-- something that is told by so many bytes -/
def PT {D : Type} (R : Hp → D → V → Prop) (f : D → List Nat) (s : Nat) (H : Hp) (x : V) : Prop := ∃ d, R H d x ∧ (f d).length ≤ s
theorem PT.keep {D : Type} {R : Hp → D → V → Prop} {f : D → List Nat} {s : Nat} {H H' : Hp} {x : V} (F : Fmt R f) (h : PT R f s H x) (k : TupK H H') : PT R f s H' x := by
  obtain ⟨d, h1, h2⟩ := h
  exact ⟨d, F.keep k h1, h2⟩
theorem pts {D : Type} {R : Hp → D → V → Prop} {f : D → List Nat} {s : Nat} {H : Hp} : ∀ {acc : List V}, (∀ x ∈ acc, PT R f s H x) → ∃ ds, All2 (fun u d => R H d u) acc ds ∧ ∀ d ∈ ds, (f d).length ≤ s
  | [], _ => ⟨[], .nil, fun v h => by cases h⟩
  | x :: acc, h => by
    obtain ⟨v, h1, h2⟩ := h x (List.mem_cons_self ..)
    obtain ⟨vs, h3, h4⟩ := pts fun y hy => h y (List.mem_cons_of_mem _ hy)
    exact ⟨v :: vs, .cons h1 h3, fun z hz => (List.mem_cons.mp hz).elim (fun e => by rw [e]; exact h2) (h4 z)⟩
theorem pts_tup {D : Type} {R : Hp → D → V → Prop} {f : D → List Nat} {s n : Nat} {H : Hp} {t : Addr} {acc : List V} (ht : H t = some (.tup acc)) (hl : acc.length ≤ n) (hn : n ≤ 200) (h : ∀ x ∈ acc, PT R f s H x) : ∃ ds, TupsAt R H ds (.ref t) ∧ (encL (ds.map f)).length ≤ 2 + n * s := by
  obtain ⟨ds, h1, h2⟩ := pts h
  refine ⟨ds, ⟨t, acc, rfl, ht, by omega, h1⟩, len_L (c := n) (m := s) (by rw [List.length_map, ← h1.len]; exact hl) (by omega) (fun y hy => ?_)⟩
  obtain ⟨v, hv, rfl⟩ := List.mem_map.mp hy
  exact h2 v hv
section
variable {P : Program} {w : World} {K : PySem.W.Frag} {mg : Str → Option Value} {base : Heap}
/-! ### _law_cell -/
def spCell : Sp := fun vs H Q _ => ∃ (p q : Addr) (ds : List Int) (nm : List Nat), vs = [.ref p, .str (S nm)] ∧ TxOk nm ∧ StN H p q ds ∧
  ∀ H' x c, StN H' p q ds → Bt H H' p → CeAt H' c x → (bC c).length ≤ 40000 → c.1 = nm → Q x H'
theorem ok_cell (Z : Defs K mg) : FnOk P w K mg base CX0 12 Z.fLawCell Z.fdLawCell ["state", "name"] spCell := by
  have GLawNext : FnOk P w K mg base CX0 3 Z.fLawNext Z.fdLawNext ["state", "limit"] spNext := ok_next Z
  have GLawWord : FnOk P w K mg base CX0 4 Z.fLawWord Z.fdLawWord ["state"] spGenS := ok_word Z
  have GLawShapeKind : FnOk P w K mg base CX0 4 Z.fLawShapeKind Z.fdLawShapeKind ["state"] (spGen KdAt bK 450) := ok_shapeKind Z
  have GLawOutcome : FnOk P w K mg base CX0 11 Z.fLawOutcome Z.fdLawOutcome ["state"] (spGen OuAt bO 30000) := ok_outcome Z
  refine Z.DLawCell.F.ok scLawCell (fun vs H Q E h => ?_) (fun cdv A outer s H vs Q E hr h => ?_)
  · obtain ⟨p, q, ds, nm, rfl, _⟩ := h
    rfl
  · obtain ⟨p, q, ds, nm, rfl, hnm, hS, qq⟩ := h
    refine ⟨_, (pss_cons (ps_set (i := 2) scLawCell.nd rfl (.inl rfl) (pe_lst pa_nil))
        (pss_cons (ps_for PassesOwn.never rfl (pi_range1 (by rfl) Z.range (pa_cons (pe_call GLawNext (hr.mono (by omega)) (by rfl) Z.DLawNext.g Z.DLawNext.F.kp Z.DLawNext.b .nil pass0 (pa_cons (pv 0) (pa_cons pe_int pa_nil))) pa_nil)) (pg_name (i := 3) scLawCell.nd rfl (.inl rfl)) (pss_cons (ps_set (i := 4) scLawCell.nd rfl (.inl rfl) (pe_lst pa_nil))
        (pss_cons (ps_for PassesOwn.never rfl (pi_range1 (by rfl) Z.range (pa_cons (pe_call GLawNext (hr.mono (by omega)) (by rfl) Z.DLawNext.g Z.DLawNext.F.kp Z.DLawNext.b .nil pass0 (pa_cons (pv 0) (pa_cons pe_int pa_nil))) pa_nil)) (pg_name (i := 5) scLawCell.nd rfl (.inl rfl)) (pss_cons (ps_set (i := 6) scLawCell.nd rfl (.inl rfl) (pe_callTy call_tuple_of (by rfl) Z.tuple HL.boot_tuple (pa_cons (pe_lc (own := [("i", 7)]) (g := (gName 7)) (by rfl) scLawCell.nd (pi_range1 (by rfl) Z.range (pa_cons (pe_call GLawNext (hr.mono (by omega)) (by rfl) Z.DLawNext.g Z.DLawNext.F.kp Z.DLawNext.b .nil pass0 (pa_cons (pv 0) (pa_cons pe_int pa_nil))) pa_nil)) (blkOk_by (own := [("i", 7)]) (N := ["state", "name", "data", "k", "makers", "j", "kinds", "i"]) (sc := defScope sLawCell) (by decide +kernel)) (fun _ _ _ _ _ => (pg_name (i := 7) scLawCell.nd rfl (Or.inl rfl))) (fun _ _ _ _ _ => pts_nil) (fun _ _ _ _ _ => (pe_call GLawShapeKind (hr.mono (by omega)) (by rfl) Z.DLawShapeKind.g Z.DLawShapeKind.F.kp Z.DLawShapeKind.b .nil pass0 (pa_cons (pv 0) pa_nil)))) pa_nil)))
        (pss_one (ps_expr (pe_bm PySem.F.plainAttrs_list PySem.F.slot_list_append PySem.F.type_list_append mt_append (pv 4) (pa_cons (pe_tup (pa_cons (pe_call GLawWord (hr.mono (by omega)) (by rfl) Z.DLawWord.g Z.DLawWord.F.kp Z.DLawWord.b .nil pass0 (pa_cons (pv 0) pa_nil)) (pa_cons (pv 6) pa_nil))) pa_nil))))))
        (pss_one (ps_expr (pe_bm PySem.F.plainAttrs_list PySem.F.slot_list_append PySem.F.type_list_append mt_append (pv 2) (pa_cons (pe_tup (pa_cons (pe_call GLawWord (hr.mono (by omega)) (by rfl) Z.DLawWord.g Z.DLawWord.F.kp Z.DLawWord.b .nil pass0 (pa_cons (pv 0) pa_nil)) (pa_cons (pe_callTy call_tuple_of (by rfl) Z.tuple HL.boot_tuple (pa_cons (pv 4) pa_nil)) pa_nil))) pa_nil)))))))
        (pss_one (ps_ret (pe_tup (pa_cons (pv 1) (pa_cons (pe_tup (pa_cons (pe_call GLawShapeKind (hr.mono (by omega)) (by rfl) Z.DLawShapeKind.g Z.DLawShapeKind.F.kp Z.DLawShapeKind.b .nil pass0 (pa_cons (pv 0) pa_nil)) (pa_cons (pe_callTy call_tuple_of (by rfl) Z.tuple HL.boot_tuple (pa_cons (pv 2) pa_nil)) pa_nil))) (pa_cons (pe_call GLawOutcome (hr.mono (by omega)) (by rfl) Z.DLawOutcome.g Z.DLawOutcome.F.kp Z.DLawOutcome.b .nil pass0 (pa_cons (pv 0) pa_nil)) pa_nil)))))))), ?_⟩
    refine ⟨Nat.zero_le _, fun D hD => ?_⟩
    have s1 : Same H (upd H D (.lst [])) := same_upd hD
    have g1 : upd H D (.lst []) D = some (.lst []) := upd_same
    generalize upd H D (.lst []) = H1 at s1 g1
    have S1 := hS.sm s1
    have nDp : D ≠ p := hS.nn hD
    have nDq : D ≠ q := hS.nq hD
    refine ⟨_, rfl, p, q, ds, 3, rfl, S1, by decide, fun H2 c S2 b2 c0 c1 => ⟨c, rfl, by omega, by omega, ?_⟩⟩
    have B2 := Bt.tr (Bt.same s1) (Bt.of b2)
    have g2 := Bt.of b2 _ _ g1 nDp
    clear s1 g1 S1 b2
    refine for_range (lo := 0) (n := c.toNat) (fun i σ H' => ∃ (y3 y4 y5 y6 y7 : Option V) (acc : List V), σ = [some (.ref p), some (.str (S nm)), some (.ref D), y3, y4, y5, y6, y7] ∧ StN H' p q ds ∧ Bt H H' p ∧ H' D = some (.lst acc) ∧ acc.length = i ∧ ∀ x ∈ acc, PT DaAt bDa 3012 H' x) ⟨none, none, none, none, none, [], rfl, S2, B2, g2, rfl, fun x h => by cases h⟩ ?_ ?_
    · rintro i σ H3 hi ⟨y3, y4, y5, y6, y7, acc, rfl, S3, B3, hD3, hl3, hacc⟩
      refine ⟨Nat.zero_le _, fun M hM => ?_⟩
      have nMp := S3.nn hM
      have nMq := S3.nq hM
      have nMD : M ≠ D := fun e => by rw [e, hD3] at hM; cases hM
      have sM : Same H3 (upd H3 M (.lst [])) := same_upd hM
      have gM : upd H3 M (.lst []) M = some (.lst []) := upd_same
      generalize upd H3 M (.lst []) = H4 at sM gM
      have S4 := S3.sm sM
      refine ⟨_, rfl, p, q, ds, 3, rfl, S4, by decide, fun H5 e S5 b5 e0 e1 => ⟨e, rfl, by omega, by omega, ?_⟩⟩
      have B5 : Bt H3 H5 p := Bt.tr (Bt.same sM) (Bt.of b5)
      refine for_range (lo := 0) (n := e.toNat) (fun j σ H' => ∃ (y5 y6 y7 : Option V) (mac : List V), σ = [some (.ref p), some (.str (S nm)), some (.ref D), some (V.int (0 + (i : Int))), some (.ref M), y5, y6, y7] ∧ StN H' p q ds ∧ Bt H3 H' p ∧ H' M = some (.lst mac) ∧ mac.length = j ∧ ∀ x ∈ mac, PT MkrAt bM 1304 H' x) ⟨_, _, _, [], rfl, S5, B5, Bt.of b5 _ _ gM nMp, rfl, fun x h => by cases h⟩ ?_ ?_
      · rintro j σ H6 hj ⟨y5, y6, y7, mac, rfl, S6, B6, hM6, hl6, hmac⟩
        refine ⟨_, rfl, p, q, ds, 3, rfl, S6, by decide, fun H7 g S7 b7 g0 g1 => ⟨g, rfl, by omega, by omega, fun L hL => ?_⟩⟩
        have nLp := S7.nn hL
        have nLq := S7.nq hL
        have sL := same_upd (o := .lst []) hL
        refine lc_range (lo := 0) (n := g.toNat) (fun n H' => StN H' p q ds ∧ Bt H7 H' p ∧ ∃ kac, H' L = some (.lst kac) ∧ kac.length = n ∧ ∀ x ∈ kac, PT KdAt bK 450 H' x) ⟨S7.sm sL, Bt.same sL, [], upd_same, rfl, fun x h => by cases h⟩ ?_ ?_
        · rintro n H8 hn ⟨S8, B8, kac, hL8, hl8, hkac⟩
          refine ⟨rfl, lc_yes ⟨_, rfl, p, q, ds, rfl, S8, fun H9 x kd9 S9 B9 hx hxl => ?_⟩⟩
          have hL9 := B9 _ _ hL8 nLp
          have kL : TupK H9 (upd H9 L (.lst (kac ++ [x]))) := tk_upd fun xs e => by rw [hL9] at e; cases e
          refine ⟨kac, hL9, by rw [hl8]; exact Nat.lt_of_lt_of_le (show n < 4 by omega) (by decide), S9.up nLp nLq, Bt.up (Bt.tr B8 B9) hL, kac ++ [x], upd_same, by rw [List.length_append, hl8]; rfl, fun u hu => ?_⟩
          rcases List.mem_append.mp hu with hu | hu
          · exact PT.keep fKd (PT.keep fKd (hkac u hu) (Bt.tk B9 S8)) kL
          · rw [List.mem_singleton.mp hu]
            exact ⟨kd9, hx.keep kL, hxl⟩
        · rintro H8 ⟨S8, B8, kac, hL8, hl8, hkac⟩
          refine ⟨L, _, rfl, .inl ⟨SqL.of hL8, fun t ht => ?_⟩⟩
          have st := same_upd (o := .tup kac) ht
          have gt : upd H8 t (.tup kac) t = some (.tup kac) := upd_same
          generalize upd H8 t (.tup kac) = H9 at st gt
          have S9 := S8.sm st
          have B79 := Bt.tr B8 (Bt.same st)
          have B69 : Bt H6 H9 p := Bt.tr (Bt.of b7) B79
          have hM9 := B69 _ _ hM6 nMp
          refine ⟨_, rfl, .inl ⟨rfl, _, SqL.of hM9⟩, _, rfl, p, q, ds, rfl, S9, fun H10 m S10 B10 hmk => ⟨_, rfl, (by show 2 ≤ sizeLine; decide), fun t2 ht2 => ?_⟩⟩
          have s2 := same_upd (o := .tup [.str (S m), .ref t]) ht2
          have g2 : upd H10 t2 (.tup [.str (S m), .ref t]) t2 = some (.tup [.str (S m), .ref t]) := upd_same
          generalize upd H10 t2 (.tup [.str (S m), .ref t]) = H11 at s2 g2
          have S11 := S10.sm s2
          have B9_11 := Bt.tr B10 (Bt.same s2)
          have k9 := (Bt.tk B10 S9).trans (Same.tk s2)
          obtain ⟨ks, hks, hkl⟩ := pts_tup (n := 2) (k9 _ _ gt) (by omega) (by decide) fun u hu => PT.keep fKd (PT.keep fKd (hkac u hu) (Same.tk st)) k9
          have r2 : PT MkrAt bM 1304 H11 (.ref t2) := ⟨(m, ks), ⟨hmk, t2, .ref t, rfl, g2, hks⟩, by show (encS m ++ encL (ks.map bK)).length ≤ _; rw [List.length_append]; have := len_S hmk; omega⟩
          have hM11 := B9_11 _ _ hM9 nMp
          have k6 := (Bt.tk B69 S6).trans k9
          have kM : TupK H11 (upd H11 M (.lst (mac ++ [.ref t2]))) := tk_upd fun xs e => by rw [hM11] at e; cases e
          refine ⟨M, _, _, rfl, rfl, hM11, by rw [hl6]; exact Nat.lt_of_lt_of_le (show j < 4 by omega) (by decide), ?_⟩
          refine ⟨_, _, _, mac ++ [.ref t2], rfl, S11.up nMp nMq, Bt.up (Bt.tr B6 (Bt.tr B69 B9_11)) hM, upd_same, by rw [List.length_append, hl6]; rfl, fun u hu => ?_⟩
          rcases List.mem_append.mp hu with hu | hu
          · exact PT.keep fMkr (PT.keep fMkr (hmac u hu) k6) kM
          · rw [List.mem_singleton.mp hu]
            exact PT.keep fMkr r2 kM
      · rintro σ H6 ⟨y5, y6, y7, mac, rfl, S6, B6, hM6, hl6, hmac⟩
        have hD6 := B6 _ _ hD3 nDp
        refine ⟨_, rfl, .inl ⟨rfl, _, SqL.of hD6⟩, _, rfl, p, q, ds, rfl, S6, fun H7 m S7 B7 hmk => ?_⟩
        have hM7 := B7 _ _ hM6 nMp
        refine ⟨_, rfl, M, _, rfl, .inl ⟨SqL.of hM7, fun t ht => ⟨(by show 2 ≤ sizeLine; decide), fun t2 ht2 => ?_⟩⟩⟩
        have st := same_upd (o := .tup mac) ht
        have gt : upd H7 t (.tup mac) t = some (.tup mac) := upd_same
        generalize upd H7 t (.tup mac) = H8 at *
        have s2 := same_upd (o := .tup [.str (S m), .ref t]) ht2
        have g2 : upd H8 t2 (.tup [.str (S m), .ref t]) t2 = some (.tup [.str (S m), .ref t]) := upd_same
        generalize upd H8 t2 (.tup [.str (S m), .ref t]) = H9 at s2 g2
        have s79 := Same.tr st s2
        have S9 := S7.sm s79
        have k69 := (Bt.tk B7 S6).trans (Same.tk s79)
        obtain ⟨ms, hms, hml⟩ := pts_tup (n := 2) (s2 _ _ gt) (by omega) (by decide) fun u hu => PT.keep fMkr (hmac u hu) k69
        have r2 : PT DaAt bDa 3012 H9 (.ref t2) := ⟨(m, ms), ⟨hmk, t2, .ref t, rfl, g2, hms⟩, by show (encS m ++ encL (ms.map bM)).length ≤ _; rw [List.length_append]; have := len_S hmk; omega⟩
        have B69 := Bt.tr B7 (Bt.same s79)
        have hD9 := B69 _ _ hD6 nDp
        have k39 := (Bt.tk B6 S3).trans k69
        have kD : TupK H9 (upd H9 D (.lst (acc ++ [.ref t2]))) := tk_upd fun xs e => by rw [hD9] at e; cases e
        refine ⟨D, _, _, rfl, rfl, hD9, by rw [hl3]; exact Nat.lt_of_lt_of_le (show i < 4 by omega) (by decide), ?_⟩
        refine ⟨_, _, _, _, _, acc ++ [.ref t2], rfl, S9.up nDp nDq, Bt.up (Bt.tr B3 (Bt.tr B6 B69)) hD, upd_same, by rw [List.length_append, hl3]; rfl, fun u hu => ?_⟩
        rcases List.mem_append.mp hu with hu | hu
        · exact PT.keep fDa (PT.keep fDa (hacc u hu) k39) kD
        · rw [List.mem_singleton.mp hu]
          exact PT.keep fDa r2 kD
    · rintro σ H3 ⟨y3, y4, y5, y6, y7, acc, rfl, S3, B3, hD3, hl3, hacc⟩
      refine ⟨_, rfl, _, rfl, p, q, ds, rfl, S3, fun H4 x kd4 S4 B4 hx hxl => ?_⟩
      have hD4 := B4 _ _ hD3 nDp
      refine ⟨_, rfl, D, _, rfl, .inl ⟨SqL.of hD4, fun t ht => ⟨(by show 2 ≤ sizeLine; decide), fun t2 ht2 => ?_⟩⟩⟩
      have st := same_upd (o := .tup acc) ht
      have gt : upd H4 t (.tup acc) t = some (.tup acc) := upd_same
      generalize upd H4 t (.tup acc) = H5 at *
      have s2 := same_upd (o := .tup [x, .ref t]) ht2
      have g2 : upd H5 t2 (.tup [x, .ref t]) t2 = some (.tup [x, .ref t]) := upd_same
      generalize upd H5 t2 (.tup [x, .ref t]) = H6 at s2 g2
      have s46 := Same.tr st s2
      have S6 := S4.sm s46
      obtain ⟨dts, hdts, hdl⟩ := pts_tup (n := 2) (s2 _ _ gt) (by omega) (by decide) fun u hu => PT.keep fDa (hacc u hu) ((Bt.tk B4 S3).trans (Same.tk s46))
      have r2 : ShAt H6 (kd4, dts) (.ref t2) := ⟨t2, x, .ref t, rfl, g2, hx.keep (Same.tk s46), hdts⟩
      refine ⟨_, rfl, p, q, ds, rfl, S6, fun H7 o oc S7 B7 ho hol => ⟨(by show 3 ≤ sizeLine; decide), fun t3 ht3 => ?_⟩⟩
      have s3 := same_upd (o := .tup [.str (S nm), .ref t2, o]) ht3
      exact qq _ _ (nm, (kd4, dts), oc) (S7.sm s3) (Bt.tr B3 (Bt.tr B4 (Bt.tr (Bt.same s46) (Bt.tr B7 (Bt.same s3))))) ⟨hnm, t3, .ref t2, o, rfl, upd_same, (r2.keep (Bt.tk B7 S6)).keep (Same.tk s3), ho.keep (Same.tk s3)⟩ (by show (encS nm ++ ((bK kd4 ++ encL (dts.map bDa)) ++ bO oc)).length ≤ _; rw [List.length_append, List.length_append, List.length_append]; have := len_S hnm; omega) rfl
end
end Q40
namespace Q40
open PySem PySem.Spec PyProof.Rows L2 SX HL NM DM
section
variable {P : Program} {w : World} {K : PySem.W.Frag} {mg : Str → Option Value} {base : Heap}
/-! ### _law_read, the end -/
/-- what is read at a word: the promise of its reader -/
inductive RdW (C : Addr) : Str → Sp → Prop
  | number : RdW C "number" (spRd C NumAt enc)
  | integer : RdW C "integer" (spRd C IntAt encI)
  | string : RdW C "string" (spRd C TxtAt encS)
  | deed : RdW C "deed" (spRd C DeAt bDe)
  | packet : RdW C "packet" (spRd C (LstsAt TriAt) (fun ts => 1 :: encL (ts.map bTri)))
  | value : RdW C "value" (spRd C V40 (bV 40))
  | outcome : RdW C "outcome" (spRd C OuAt bO)
  | cell : RdW C "cell" (spRd C CeAt bC)
  | group : RdW C "group" (spRd C GrAt bGr)
def spLRead (C : Addr) : Sp := fun vs H Q E => ∃ (x : V) (wd : Str) (sp : Sp), vs = [x, .str wd] ∧ RdW C wd sp ∧ sp [x] H Q E
theorem ok_lawRead (Z : Defs K mg) : FnOk P w K mg base CX0 89 Z.fLawRead Z.fdLawRead ["reader", "form_v"] (spLRead Z.cReader) := by
  have GReaderReadNumber : FnOk P w K mg base CX0 88 Z.fReaderReadNumber Z.fdReaderReadNumber ["self"] (spRd Z.cReader NumAt enc) := (ok_numQ (k := 0) Z).mono (by omega)
  have GReaderReadInteger : FnOk P w K mg base CX0 88 Z.fReaderReadInteger Z.fdReaderReadInteger ["self"] (spRd Z.cReader IntAt encI) := (ok_readInteger (k := 0) Z).mono (by omega)
  have GReaderReadString : FnOk P w K mg base CX0 88 Z.fReaderReadString Z.fdReaderReadString ["self"] (spRd Z.cReader TxtAt encS) := (ok_readString (k := 0) Z).mono (by omega)
  have GReaderReadDeed : FnOk P w K mg base CX0 88 Z.fReaderReadDeed Z.fdReaderReadDeed ["self"] (spRd Z.cReader DeAt bDe) := (ok_readDeed (k := 0) Z).mono (by omega)
  have GReaderReadPacket : FnOk P w K mg base CX0 88 Z.fReaderReadPacket Z.fdReaderReadPacket ["self"] (spRd Z.cReader (LstsAt TriAt) (fun ts => 1 :: encL (ts.map bTri))) := (ok_readPacket (k := 0) Z).mono (by omega)
  have GReaderReadValue : FnOk P w K mg base CX0 88 Z.fReaderReadValue Z.fdReaderReadValue ["self"] (spRd Z.cReader V40 (bV 40)) := (ok_readValue (k := 0) Z).mono (by omega)
  have GReaderReadOutcome : FnOk P w K mg base CX0 88 Z.fReaderReadOutcome Z.fdReaderReadOutcome ["self"] (spRd Z.cReader OuAt bO) := (ok_readOutcome (k := 0) Z).mono (by omega)
  have GReaderReadCell : FnOk P w K mg base CX0 88 Z.fReaderReadCell Z.fdReaderReadCell ["self"] (spRd Z.cReader CeAt bC) := (ok_readCell (k := 0) Z).mono (by omega)
  have GReaderReadGroup : FnOk P w K mg base CX0 88 Z.fReaderReadGroup Z.fdReaderReadGroup ["self"] (spRd Z.cReader GrAt bGr) := (ok_readGroup (k := 0) Z).mono (by omega)
  refine Z.DLawRead.F.ok scLawRead (fun vs H Q E h => ?_) (fun cdv A outer s H vs Q E hr h => ?_)
  · obtain ⟨x, wd, sp, rfl, _⟩ := h
    rfl
  · obtain ⟨x, wd, sp, rfl, hw, hsp⟩ := h
    refine ⟨_, (pss_cons (ps_if (pt_cmpR op_eq (pv 1) pe_str (nomark _)) (pss_one (ps_ret (pe_meth0 (pv 0) Z.CReader.cl Z.DReaderReadNumber.m GReaderReadNumber (hr.mono (by omega)) Z.DReaderReadNumber.b .nil pass0))) pss_nil)
        (pss_cons (ps_if (pt_cmpR op_eq (pv 1) pe_str (nomark _)) (pss_one (ps_ret (pe_meth0 (pv 0) Z.CReader.cl Z.DReaderReadInteger.m GReaderReadInteger (hr.mono (by omega)) Z.DReaderReadInteger.b .nil pass0))) pss_nil)
        (pss_cons (ps_if (pt_cmpR op_eq (pv 1) pe_str (nomark _)) (pss_one (ps_ret (pe_meth0 (pv 0) Z.CReader.cl Z.DReaderReadString.m GReaderReadString (hr.mono (by omega)) Z.DReaderReadString.b .nil pass0))) pss_nil)
        (pss_cons (ps_if (pt_cmpR op_eq (pv 1) pe_str (nomark _)) (pss_one (ps_ret (pe_meth0 (pv 0) Z.CReader.cl Z.DReaderReadDeed.m GReaderReadDeed (hr.mono (by omega)) Z.DReaderReadDeed.b .nil pass0))) pss_nil)
        (pss_cons (ps_if (pt_cmpR op_eq (pv 1) pe_str (nomark _)) (pss_one (ps_ret (pe_meth0 (pv 0) Z.CReader.cl Z.DReaderReadPacket.m GReaderReadPacket (hr.mono (by omega)) Z.DReaderReadPacket.b .nil pass0))) pss_nil)
        (pss_cons (ps_if (pt_cmpR op_eq (pv 1) pe_str (nomark _)) (pss_one (ps_ret (pe_meth0 (pv 0) Z.CReader.cl Z.DReaderReadValue.m GReaderReadValue (hr.mono (by omega)) Z.DReaderReadValue.b .nil pass0))) pss_nil)
        (pss_cons (ps_if (pt_cmpR op_eq (pv 1) pe_str (nomark _)) (pss_one (ps_ret (pe_meth0 (pv 0) Z.CReader.cl Z.DReaderReadOutcome.m GReaderReadOutcome (hr.mono (by omega)) Z.DReaderReadOutcome.b .nil pass0))) pss_nil)
        (pss_cons (ps_if (pt_cmpR op_eq (pv 1) pe_str (nomark _)) (pss_one (ps_ret (pe_meth0 (pv 0) Z.CReader.cl Z.DReaderReadCell.m GReaderReadCell (hr.mono (by omega)) Z.DReaderReadCell.b .nil pass0))) pss_nil)
        (pss_one (ps_ret (pe_meth0 (pv 0) Z.CReader.cl Z.DReaderReadGroup.m GReaderReadGroup (hr.mono (by omega)) Z.DReaderReadGroup.b .nil pass0))))))))))), ?_⟩
    cases hw with
    | number =>
      obtain ⟨p, b, c, x', a, d, rest, e, R, hx, hat, hd, qq⟩ := hsp
      cases e
      obtain ⟨⟨dx0, ho0⟩, _⟩ := id R
      exact ⟨_, rfl, rfl, _, rfl, iteYes (by decide +kernel) ⟨_, rfl, p, dx0, _, rfl, ho0, rflds_no _ _ _ (by decide +kernel) (by decide +kernel) (by decide +kernel), p, b, c, x', a, d, rest, rfl, R, hx, hat, hd, qq⟩⟩
    | integer =>
      obtain ⟨p, b, c, x', a, d, rest, e, R, hx, hat, hd, qq⟩ := hsp
      cases e
      obtain ⟨⟨dx0, ho0⟩, _⟩ := id R
      exact ⟨_, rfl, rfl, _, rfl, iteNo (by decide +kernel) ⟨_, rfl, rfl, _, rfl, iteYes (by decide +kernel) ⟨_, rfl, p, dx0, _, rfl, ho0, rflds_no _ _ _ (by decide +kernel) (by decide +kernel) (by decide +kernel), p, b, c, x', a, d, rest, rfl, R, hx, hat, hd, qq⟩⟩⟩
    | string =>
      obtain ⟨p, b, c, x', a, d, rest, e, R, hx, hat, hd, qq⟩ := hsp
      cases e
      obtain ⟨⟨dx0, ho0⟩, _⟩ := id R
      exact ⟨_, rfl, rfl, _, rfl, iteNo (by decide +kernel) ⟨_, rfl, rfl, _, rfl, iteNo (by decide +kernel) ⟨_, rfl, rfl, _, rfl, iteYes (by decide +kernel) ⟨_, rfl, p, dx0, _, rfl, ho0, rflds_no _ _ _ (by decide +kernel) (by decide +kernel) (by decide +kernel), p, b, c, x', a, d, rest, rfl, R, hx, hat, hd, qq⟩⟩⟩⟩
    | deed =>
      obtain ⟨p, b, c, x', a, d, rest, e, R, hx, hat, hd, qq⟩ := hsp
      cases e
      obtain ⟨⟨dx0, ho0⟩, _⟩ := id R
      exact ⟨_, rfl, rfl, _, rfl, iteNo (by decide +kernel) ⟨_, rfl, rfl, _, rfl, iteNo (by decide +kernel) ⟨_, rfl, rfl, _, rfl, iteNo (by decide +kernel) ⟨_, rfl, rfl, _, rfl, iteYes (by decide +kernel) ⟨_, rfl, p, dx0, _, rfl, ho0, rflds_no _ _ _ (by decide +kernel) (by decide +kernel) (by decide +kernel), p, b, c, x', a, d, rest, rfl, R, hx, hat, hd, qq⟩⟩⟩⟩⟩
    | packet =>
      obtain ⟨p, b, c, x', a, d, rest, e, R, hx, hat, hd, qq⟩ := hsp
      cases e
      obtain ⟨⟨dx0, ho0⟩, _⟩ := id R
      exact ⟨_, rfl, rfl, _, rfl, iteNo (by decide +kernel) ⟨_, rfl, rfl, _, rfl, iteNo (by decide +kernel) ⟨_, rfl, rfl, _, rfl, iteNo (by decide +kernel) ⟨_, rfl, rfl, _, rfl, iteNo (by decide +kernel) ⟨_, rfl, rfl, _, rfl, iteYes (by decide +kernel) ⟨_, rfl, p, dx0, _, rfl, ho0, rflds_no _ _ _ (by decide +kernel) (by decide +kernel) (by decide +kernel), p, b, c, x', a, d, rest, rfl, R, hx, hat, hd, qq⟩⟩⟩⟩⟩⟩
    | value =>
      obtain ⟨p, b, c, x', a, d, rest, e, R, hx, hat, hd, qq⟩ := hsp
      cases e
      obtain ⟨⟨dx0, ho0⟩, _⟩ := id R
      exact ⟨_, rfl, rfl, _, rfl, iteNo (by decide +kernel) ⟨_, rfl, rfl, _, rfl, iteNo (by decide +kernel) ⟨_, rfl, rfl, _, rfl, iteNo (by decide +kernel) ⟨_, rfl, rfl, _, rfl, iteNo (by decide +kernel) ⟨_, rfl, rfl, _, rfl, iteNo (by decide +kernel) ⟨_, rfl, rfl, _, rfl, iteYes (by decide +kernel) ⟨_, rfl, p, dx0, _, rfl, ho0, rflds_no _ _ _ (by decide +kernel) (by decide +kernel) (by decide +kernel), p, b, c, x', a, d, rest, rfl, R, hx, hat, hd, qq⟩⟩⟩⟩⟩⟩⟩
    | outcome =>
      obtain ⟨p, b, c, x', a, d, rest, e, R, hx, hat, hd, qq⟩ := hsp
      cases e
      obtain ⟨⟨dx0, ho0⟩, _⟩ := id R
      exact ⟨_, rfl, rfl, _, rfl, iteNo (by decide +kernel) ⟨_, rfl, rfl, _, rfl, iteNo (by decide +kernel) ⟨_, rfl, rfl, _, rfl, iteNo (by decide +kernel) ⟨_, rfl, rfl, _, rfl, iteNo (by decide +kernel) ⟨_, rfl, rfl, _, rfl, iteNo (by decide +kernel) ⟨_, rfl, rfl, _, rfl, iteNo (by decide +kernel) ⟨_, rfl, rfl, _, rfl, iteYes (by decide +kernel) ⟨_, rfl, p, dx0, _, rfl, ho0, rflds_no _ _ _ (by decide +kernel) (by decide +kernel) (by decide +kernel), p, b, c, x', a, d, rest, rfl, R, hx, hat, hd, qq⟩⟩⟩⟩⟩⟩⟩⟩
    | cell =>
      obtain ⟨p, b, c, x', a, d, rest, e, R, hx, hat, hd, qq⟩ := hsp
      cases e
      obtain ⟨⟨dx0, ho0⟩, _⟩ := id R
      exact ⟨_, rfl, rfl, _, rfl, iteNo (by decide +kernel) ⟨_, rfl, rfl, _, rfl, iteNo (by decide +kernel) ⟨_, rfl, rfl, _, rfl, iteNo (by decide +kernel) ⟨_, rfl, rfl, _, rfl, iteNo (by decide +kernel) ⟨_, rfl, rfl, _, rfl, iteNo (by decide +kernel) ⟨_, rfl, rfl, _, rfl, iteNo (by decide +kernel) ⟨_, rfl, rfl, _, rfl, iteNo (by decide +kernel) ⟨_, rfl, rfl, _, rfl, iteYes (by decide +kernel) ⟨_, rfl, p, dx0, _, rfl, ho0, rflds_no _ _ _ (by decide +kernel) (by decide +kernel) (by decide +kernel), p, b, c, x', a, d, rest, rfl, R, hx, hat, hd, qq⟩⟩⟩⟩⟩⟩⟩⟩⟩
    | group =>
      obtain ⟨p, b, c, x', a, d, rest, e, R, hx, hat, hd, qq⟩ := hsp
      cases e
      obtain ⟨⟨dx0, ho0⟩, _⟩ := id R
      exact ⟨_, rfl, rfl, _, rfl, iteNo (by decide +kernel) ⟨_, rfl, rfl, _, rfl, iteNo (by decide +kernel) ⟨_, rfl, rfl, _, rfl, iteNo (by decide +kernel) ⟨_, rfl, rfl, _, rfl, iteNo (by decide +kernel) ⟨_, rfl, rfl, _, rfl, iteNo (by decide +kernel) ⟨_, rfl, rfl, _, rfl, iteNo (by decide +kernel) ⟨_, rfl, rfl, _, rfl, iteNo (by decide +kernel) ⟨_, rfl, rfl, _, rfl, iteNo (by decide +kernel) ⟨_, rfl, p, dx0, _, rfl, ho0, rflds_no _ _ _ (by decide +kernel) (by decide +kernel) (by decide +kernel), p, b, c, x', a, d, rest, rfl, R, hx, hat, hd, qq⟩⟩⟩⟩⟩⟩⟩⟩⟩
def spEnd (C X : Addr) : Sp := fun vs H Q E => ∃ (p b c : Addr) (x : List Nat) (a : Nat), vs = [.ref p] ∧ RdAt C H p b c x a ∧ x.length ≤ 500000 ∧ a ≤ x.length ∧
  ((a = x.length ∧ Q .non H) ∨ (a < x.length ∧ E (.ref X) none H))
theorem ok_end {k : Nat} (Z : Defs K mg) : FnOk P w K mg base (L2.CX P w) (k + 1) Z.fReaderEnd Z.fdReaderEnd ["self"] (spEnd Z.cReader Z.eDamagedPacket) := by
  refine Z.DReaderEnd.F.okX scReaderEnd (fun vs H Q E h => ?_) (fun cdv A outer s H vs Q E hr h => ?_)
  · obtain ⟨p, b, c, x, a, rfl, _⟩ := h
    rfl
  · obtain ⟨p, b, c, x, a, rfl, R, hl, ha, hh⟩ := h
    refine ⟨_, (pss_one (ps_if (pt_cmpR op_ne (pe_fld (pv 0) rfl) (pe_callB call_len_seq (by rfl) Z.len PySem.boot_len (pa_cons (pe_fld (pv 0) rfl) pa_nil)) (nomark _)) (pss_one (ps_raise rfl (takes_of rfl rfl rfl rfl) (SkE.pmk_own1 PySem.F.excBase_ValueError Z.EDamagedPacket.ex Z.EDamagedPacket.g Z.EDamagedPacket.kp (raises_own Z.EDamagedPacket.sub Z.EDamagedPacket.ty) (by rfl) (pe_joined (.cons pe_str (.cons (pe_fmt (pe_fld (pv 0) rfl)) .nil)))))) pss_nil)), ?_⟩
    obtain ⟨⟨dx, ho⟩, hd, hch⟩ := id R
    refine ⟨_, rfl, p, Z.cReader, dx, _, _, rfl, ho, Z.CReader.cl, Z.nReader_at, rflds_at _ _ _, _, rfl, p, Z.cReader, dx, _, _, rfl, ho, Z.CReader.cl, Z.nReader_data, rflds_data _ _ _, b, _, rfl, .inl (SqL.of hd), rfl, _, rfl, ?_⟩
    rw [List.length_map]
    rcases hh with ⟨he, qq⟩ | ⟨he, ee⟩
    · exact iteNo (by rw [he]; show ¬ (!decide (vi x.length = vi x.length)) = true; simp) qq
    · refine iteYes (by simp; intro z; have := vi_inj z; omega) ?_
      exact ⟨_, rfl, by decide, _, rfl, p, Z.cReader, dx, _, _, rfl, ho, Z.CReader.cl, Z.nReader_at, rflds_at _ _ _, .inr ⟨a, rfl, log_small (by omega), _, rfl, msg_fits (by decide) (by omega), ee⟩⟩
end
end Q40
namespace Q40
open PySem PySem.Spec PyProof.Rows L2 SX HL NM DM
/-- tuples and lists stay -/
def TLK (H H' : Hp) : Prop := ∀ z o, H z = some o → ((∃ us, o = .tup us) ∨ ∃ us, o = .lst us) → H' z = some o
theorem TLK.of {H H' : Hp} (s : Same H H') : TLK H H' := fun z o h _ => s z o h
theorem TLK.kept {C : Addr} {H H' : Hp} {p b c : Addr} {x : List Nat} {a : Nat} (R : RdAt C H p b c x a) (k : Kept H H' p) : TLK H H' := fun z o h ht => k z o (fun e => by
  obtain ⟨⟨dx, ho⟩, _⟩ := R
  rw [e, ho] at h
  cases h
  rcases ht with ⟨_, e⟩ | ⟨_, e⟩ <;> cases e) h
theorem shaped_can {d : PyData} (h : SeqAt.shaped d = true) : d.canLay0 = true := by
  simp only [SeqAt.shaped, Bool.and_eq_true] at h
  exact h.1
theorem ints_two {K : PySem.W.Frag} {H : Hp} : ∀ l : List Nat, All2 (SameD K H 0) (l.map vi) (l.map vi)
  | [] => .nil
  | a :: r => .cons (.leaf True.intro) (ints_two r)
section
variable {P : Program} {w : World} {K : PySem.W.Frag} {mg : Str → Option Value} {base : Heap}
/-! ### _law_asks -/
def spAsks (C : Addr) (K : PySem.W.Frag) : Sp := fun vs H Q _ => ∃ (D : Type) (R : Hp → D → V → Prop) (f : D → List Nat) (wd : Str) (x y z : V) (tl : Addr) (d : D) (ts : List Nat), vs = [.str wd, x, y, z, .ref tl] ∧ RdW C wd (spRd C R f) ∧ R H d x ∧ LsAt H y (f d) ∧ LsAt H z (f d) ∧ H tl = some (.lst (ts.map vi)) ∧ ts.length ≤ 2 ∧ Byt ts ∧ Byt (f d) ∧ (f d).length ≤ 400000 ∧
  (∀ {H1 H2 : Hp} {d : D} {u : V}, TLK H1 H2 → R H1 d u → R H2 d u) ∧ (∀ (H1 : Hp) (d : D) (u v : V), R H1 d u → R H1 d v → SameD K H1 95 u v) ∧ ∀ H', Same H H' → Q (.bl true) H'
theorem ok_asks (Z : Defs K mg) : FnOk P w K mg base CX0 98 Z.fLawAsks Z.fdLawAsks ["form_v", "thing", "told", "due", "tail"] (spAsks Z.cReader K) := by
  have GLawSame : FnOk P w K mg base CX0 97 Z.fLawSame Z.fdLawSame ["actual", "expected"] (spSameG K 95) := ok_same Z 95
  have GLawRead : FnOk P w K mg base CX0 97 Z.fLawRead Z.fdLawRead ["reader", "form_v"] (spLRead Z.cReader) := (ok_lawRead Z).mono (by omega)
  have GReaderInit : FnOk P w K mg base CX0 1 Z.fReaderInit Z.fdReaderInit ["self", "data"] (spRInit Z.cReader) := ok_rinit (k := 0) Z
  have GReaderEnd : FnOk P w K mg base (L2.CX P w) 97 Z.fReaderEnd Z.fdReaderEnd ["self"] (spEnd Z.cReader Z.eDamagedPacket) := (ok_end (k := 0) Z).mono (by omega)
  refine Z.DLawAsks.F.ok scLawAsks (fun vs H Q E h => ?_) (fun cdv A outer s H vs Q E hr h => ?_)
  · obtain ⟨D, R, f, wd, x, y, z, tl, d, ts, rfl, _⟩ := h
    rfl
  · obtain ⟨D, R, f, wd, x, y, z, tl, d, ts, rfl, hw, hx, ⟨l1, rfl, hl1⟩, ⟨l2, rfl, hl2⟩, ht, htl, htb, hfb, hfl, keep, same, qq⟩ := h
    refine ⟨_, (pss_cons (ps_if (pt_not (pt_val (pe_call GLawSame (hr.mono (by omega)) (by rfl) Z.DLawSame.g Z.DLawSame.F.kp Z.DLawSame.b .nil pass0 (pa_cons (pv 2) (pa_cons (pv 3) pa_nil))))) (pss_one (ps_ret pe_bl)) pss_nil)
        (pss_cons (ps_set (i := 5) scLawAsks.nd rfl (.inl rfl) (pe_op op_cat (pv 3) (pv 4)))
        (pss_cons (ps_set (i := 6) scLawAsks.nd rfl (.inl rfl) (pe_callTy call_list_of (by rfl) Z.list HL.boot_list (pa_cons (pv 5) pa_nil)))
        (pss_cons (ps_set (i := 7) scLawAsks.nd rfl (.inl rfl) (pe_make Z.CReader.make GReaderInit (hr.mono (by omega)) rfl Z.CReader.g Z.DReaderInit.b .nil pass0 (pa_cons (pv 6) pa_nil)))
        (pss_cons (ps_if (PW.pt (pw_or (pt_not (pt_val (pe_call GLawSame (hr.mono (by omega)) (by rfl) Z.DLawSame.g Z.DLawSame.F.kp Z.DLawSame.b .nil pass0 (pa_cons (pe_call GLawRead (hr.mono (by omega)) (by rfl) Z.DLawRead.g Z.DLawRead.F.kp Z.DLawRead.b .nil pass0 (pa_cons (pv 7) (pa_cons (pv 0) pa_nil))) (pa_cons (pv 1) pa_nil))))) (pw_or (pt_not (pt_val (pe_call GLawSame (hr.mono (by omega)) (by rfl) Z.DLawSame.g Z.DLawSame.F.kp Z.DLawSame.b .nil pass0 (pa_cons (pe_fld (pv 7) rfl) (pa_cons (pe_callB call_len_seq (by rfl) Z.len PySem.boot_len (pa_cons (pv 3) pa_nil)) pa_nil))))) (pw_or1 (pt_cmpR (op_neD hr.units) (pv 6) (pv 5) (nomark _)))))) (pss_one (ps_ret pe_bl)) pss_nil)
        (pss_cons (ps_try_as (i := 8) (Wout := fun _ _ _ _ => False) rfl rfl scLawAsks.nd rfl rfl ⟨rfl, by decide, .inl Z.EQuillrunError.g⟩ takes0 (fun W pn xe tk _ => (pss_one (ps_expr (HX.pe_methS0 (pv 7) Z.CReader.cl Z.DReaderEnd.m GReaderEnd (hr.mono (by omega)) Z.DReaderEnd.b (fun σ => passAt tk σ)))))
        (fun a oe cls d pn hz hf => (pss_one (ps_ret (pe_and (pe_cmpR op_gt (pe_callB (HX.call_len_seqK (K := K) rfl) (by rfl) Z.len PySem.boot_len (pa_cons (pv 4) pa_nil)) pe_int (nomark _)) (pe_and (pe_callB (XI.call_isX (K := K) rfl hz hf) (by rfl) Z.isinstance HL.boot_isinstance (pa_cons (pv 8) (pa_cons (pe_glob (v := .ref Z.eDamagedPacket) rfl Z.EDamagedPacket.g rfl) pa_nil))) (pe_one (pe_callB (XI.call_isX (K := K) rfl hz hf) (by rfl) Z.isinstance HL.boot_isinstance (pa_cons (pv 8) (pa_cons (pe_bltn (v := .ty "ValueError") (by rfl) Z.ValueError (by decide +kernel) rfl) pa_nil))))))))))
        (pss_one (ps_ret (pe_cmpR op_eq (pe_callB (HX.call_len_seqK (K := K) rfl) (by rfl) Z.len PySem.boot_len (pa_cons (pv 4) pa_nil)) pe_int (nomark _)))))))))), ?_⟩
    have two : ∀ (H' : Hp), H' l1 = some (.lst ((f d).map vi)) → H' l2 = some (.lst ((f d).map vi)) → SameD K H' 95 (.ref l1) (.ref l2) := fun H' h1 h2 => SameD.le (same_lst (n := 0) h1 h2 (ints_two _) (by rw [List.length_map]; exact Nat.le_trans hfl (by decide))) (by decide)
    refine ⟨_, rfl, _, rfl, .ref l1, .ref l2, rfl, two H hl1 hl2, fun H1 s1 => ⟨true, rfl, iteF ?_⟩⟩
    refine ⟨_, rfl, _, rfl, l2, tl, _, _, rfl, rfl, s1 _ _ hl2, s1 _ _ ht, cat_fits (by omega), fun Da hDa => ?_⟩
    have s2 := same_upd (o := .lst ((f d).map vi ++ ts.map vi)) hDa
    have gDa : upd H1 Da (.lst ((f d).map vi ++ ts.map vi)) Da = some (.lst ((f d ++ ts).map vi)) := by rw [upd_same, List.map_append]
    generalize upd H1 Da (.lst ((f d).map vi ++ ts.map vi)) = H2 at s2 gDa ⊢
    refine ⟨_, rfl, Da, _, rfl, .inl (SqL.of gDa), fun Pa hPa => ?_⟩
    have s3 := same_upd (o := .lst ((f d ++ ts).map vi)) hPa
    have gPa : upd H2 Pa (.lst ((f d ++ ts).map vi)) Pa = some (.lst ((f d ++ ts).map vi)) := upd_same
    generalize upd H2 Pa (.lst ((f d ++ ts).map vi)) = H3 at s3 gPa ⊢
    refine ⟨_, rfl, fun p dx np ndx nex => ?_⟩
    have s4 : Same H3 (upd (upd H3 dx (.own p)) p (.ins Z.cReader dx [])) := fun b o e => by
      rw [upd_ne (ne_of_none e np), upd_ne (ne_of_none e ndx)]
      exact e
    refine ⟨p, dx, Pa, f d ++ ts, rfl, upd_same, s4 _ _ gPa, fun b c H4 R4 k4 => ?_⟩
    have s34 : Same H3 H4 := fun z o hz => k4 z o (s4 z o hz) (ne_of_none hz np)
    refine ⟨rfl, ?_⟩
    have sH3 : Same H H3 := Same.tr s1 (Same.tr s2 s3)
    have sH4 := Same.tr sH3 s34
    have hxo : XOk (f d ++ ts) := ⟨by rw [List.length_append]; omega, fun y hy => (List.mem_append.mp hy).elim (hfb y) (htb y)⟩
    have hat : Atx (f d ++ ts) 0 (f d) ts := ⟨Nat.zero_le _, rfl⟩
    have hx4 := keep (TLK.of sH4) hx
    refine ⟨_, rfl, _, rfl, .ref p, wd, _, rfl, hw, p, b, c, _, 0, d, ts, rfl, R4, hxo, hat, ⟨H, x, hx⟩, fun H5 y K5 R5 hy => ?_⟩
    have hx5 := keep (TLK.kept R4 K5) hx4
    refine ⟨_, rfl, y, x, rfl, same _ _ _ _ hy hx5, fun H6 s6 => ⟨true, rfl, iteF ?_⟩⟩
    have R6 := R5.same s6
    obtain ⟨⟨dx6, ho6⟩, hda6, _⟩ := id R6
    have npz : ∀ z o, H4 z = some o → z ≠ p → H6 z = some o := fun z o h m => s6 _ _ (K5 z o m h)
    have nl2 : l2 ≠ p := fun e => by
      obtain ⟨⟨dxz, hoz⟩, _⟩ := R4
      have := sH4 _ _ hl2
      rw [e, hoz] at this
      cases this
    refine ⟨_, rfl, p, Z.cReader, dx6, _, _, rfl, ho6, Z.CReader.cl, Z.nReader_at, rflds_at _ _ _, _, rfl, l2, _, rfl, .inl (SqL.of (npz _ _ (sH4 _ _ hl2) nl2)), vi (0 + (f d).length), vi (0 + (f d).length), by rw [List.length_map, Nat.zero_add]; rfl, .leaf True.intro, fun H7 s7 => ⟨true, rfl, iteF ?_⟩⟩
    have nPa : Pa ≠ p := fun e => by
      obtain ⟨⟨dxz, hoz⟩, _⟩ := R4
      have := s34 _ _ gPa
      rw [e, hoz] at this
      cases this
    have nDa : Da ≠ p := fun e => by
      obtain ⟨⟨dxz, hoz⟩, _⟩ := R4
      have := s34 _ _ (s3 _ _ gDa)
      rw [e, hoz] at this
      cases this
    have gPa7 := s7 _ _ (npz _ _ (s34 _ _ gPa) nPa)
    have gDa7 := s7 _ _ (npz _ _ (s34 _ _ (s3 _ _ gDa)) nDa)
    refine ⟨_, rfl, _, rfl, _, _, dp_list gPa7, dp_list gDa7, shaped_ints _, shaped_ints _, false, ?_, iteF ?_⟩
    · rw [SeqAt.eqv_refl _ (shaped_can (shaped_ints (f d ++ ts)))]
      rfl
    have R7 := R6.same s7
    obtain ⟨⟨dx7, ho7⟩, _⟩ := id R7
    have hHp : H p = none := by
      cases e : H p with
      | none => rfl
      | some o =>
        rw [sH3 _ _ e] at np
        cases np
    have sH7 : Same H H7 := fun z o h => s7 _ _ (npz _ _ (sH4 _ _ h) (ne_of_none h hHp))
    have ht7 := sH7 _ _ ht
    have hle : 0 + (f d).length ≤ (f d ++ ts).length := by rw [List.length_append]; omega
    refine ⟨_, rfl, p, dx7, _, rfl, ho7, rflds_no _ _ _ (by decide +kernel) (by decide +kernel) (by decide +kernel), p, b, c, f d ++ ts, _, rfl, R7, hxo.1, hle, ?_⟩
    by_cases h0 : ts.length = 0
    · refine .inl ⟨by rw [List.length_append]; omega, ?_⟩
      refine ⟨_, rfl, tl, _, rfl, .inl (SqL.of ht7), rfl, ?_⟩
      have e0 : decide (V.int ((ts.map vi).length : Int) = V.int 0) = true := decide_eq_true (by rw [List.length_map, h0]; rfl)
      rw [e0]
      exact qq H7 sH7
    · refine .inr ⟨by rw [List.length_append]; omega, true, Z.xDQ, fun _ a ha => ?_, fun q => nomatch q⟩
      have e1 : V.bl (decide ((0 : Int) < ((ts.map vi).length : Int))) = V.bl true := congrArg V.bl (decide_eq_true (by rw [List.length_map]; omega))
      refine ⟨_, rfl, tl, _, rfl, .inl (SqL.of ht7), _, _, rfl, rfl, true, e1, iteT ⟨_, rfl, Z.eDamagedPacket, _, _, true, rfl, rfl, Z.XO, rfl, (fun u r => r), Z.kDD, ?_⟩⟩
      refine ⟨true, rfl, iteT ⟨_, rfl, Z.eDamagedPacket, _, _, true, rfl, rfl, Z.XO, rfl, (fun u r => r), Z.kDV, ?_⟩⟩
      exact qq H7 sH7
end
end Q40
namespace Q40
open PySem PySem.Spec PyProof.Rows L2 SX HL NM DM
section
variable {P : Program} {w : World} {K : PySem.W.Frag} {mg : Str → Option Value} {base : Heap}
/-! ### what is asked -/
theorem TLK.tk {H H' : Hp} (k : TLK H H') : TupK H H' := fun z o h => k z _ h (.inl ⟨_, rfl⟩)
theorem LstsAt.keepL {D : Type} {R : Hp → D → V → Prop} {f : D → List Nat} (F : Fmt R f) {H H' : Hp} (k : TLK H H') {ds : List D} {x : V} (h : LstsAt R H ds x) : LstsAt R H' ds x := by
  obtain ⟨q, us, e, h1, h2, h3⟩ := h
  exact ⟨q, us, e, k _ _ h1 (.inr ⟨_, rfl⟩), h2, h3.mono fun _ _ r => F.keep k.tk r⟩
theorem LstsAt.same {D : Type} {R : Hp → D → V → Prop} {H : Hp} {n : Nat} (hR : ∀ x y d, R H d x → R H d y → SameD K H n x y) {ds : List D} {x y : V} (h : LstsAt R H ds x) (h' : LstsAt R H ds y) : SameD K H (n + 1) x y := by
  obtain ⟨q, us, rfl, h1, h2, h3⟩ := h
  obtain ⟨q', us', rfl, h1', h2', h3'⟩ := h'
  exact same_lst h1 h1' (all2_two (R := fun u d => R H d u) hR h3 h3') (by omega)
theorem LstsAt.byt {D : Type} {R : Hp → D → V → Prop} {H : Hp} {f : D → List Nat} (hR : ∀ x d, R H d x → Byt (f d)) {ds : List D} {x : V} (h : LstsAt R H ds x) : Byt (encL (ds.map f)) := by
  obtain ⟨q, us, e, h1, h2, h3⟩ := h
  refine byt_L fun y hy => ?_
  obtain ⟨d, hd, rfl⟩ := List.mem_map.mp hy
  obtain ⟨u, _, hu⟩ := all2_memR h3 hd
  exact hR _ _ hu
structure AskF {D : Type} (C : Addr) (K : PySem.W.Frag) (wd : Str) (R : Hp → D → V → Prop) (f : D → List Nat) : Prop where
  rd : RdW C wd (spRd C R f)
  keep : ∀ {H1 H2 : Hp} {d : D} {u : V}, TLK H1 H2 → R H1 d u → R H2 d u
  same : ∀ (H1 : Hp) (d : D) (u v : V), R H1 d u → R H1 d v → SameD K H1 95 u v
theorem aNum (C : Addr) (K : PySem.W.Frag) : AskF C K "number" NumAt enc := ⟨.number, fun _ h => h, fun H1 d u v h h' => by rw [h.2, h'.2]; exact .leaf True.intro⟩
theorem aInt (C : Addr) (K : PySem.W.Frag) : AskF C K "integer" IntAt encI := ⟨.integer, fun _ h => h, fun H1 d u v h h' => by rw [h.1, h'.1]; exact .leaf True.intro⟩
theorem aTxt (C : Addr) (K : PySem.W.Frag) : AskF C K "string" TxtAt encS := ⟨.string, fun _ h => h, fun H1 d u v h h' => by rw [h.1, h'.1]; exact .leaf True.intro⟩
theorem aDe (C : Addr) (K : PySem.W.Frag) : AskF C K "deed" DeAt bDe := ⟨.deed, fun k h => DeAt.keep k.tk h, fun H1 d u v h h' => SameD.le (DeAt.same h h') (by decide)⟩
theorem aPk (C : Addr) (K : PySem.W.Frag) : AskF C K "packet" (LstsAt TriAt) (fun ts => 1 :: encL (ts.map bTri)) := ⟨.packet, fun k h => h.keepL fTri k, fun H1 d u v h h' => SameD.le (h.same (fun _ _ _ r r' => TriAt.same r r') h') (by decide)⟩
theorem aVa (C : Addr) (K : PySem.W.Frag) : AskF C K "value" V40 (bV 40) := ⟨.value, fun k h => VaAt.keep k.tk h, fun H1 d u v h h' => SameD.le (VaAt.same h h') (by decide)⟩
theorem aOu (C : Addr) (K : PySem.W.Frag) : AskF C K "outcome" OuAt bO := ⟨.outcome, fun k h => OuAt.keep k.tk h, fun H1 d u v h h' => SameD.le (OuAt.same h h') (by decide)⟩
theorem aCe (C : Addr) (K : PySem.W.Frag) : AskF C K "cell" CeAt bC := ⟨.cell, fun k h => CeAt.keep k.tk h, fun H1 d u v h h' => SameD.le (CeAt.same h h') (by decide)⟩
theorem aGr (C : Addr) (K : PySem.W.Frag) : AskF C K "group" GrAt bGr := ⟨.group, fun k h => by
  obtain ⟨t, u, v, e, h1, h2, h3⟩ := h
  exact ⟨t, u, v, e, k _ _ h1 (.inl ⟨_, rfl⟩), h2.keepL fTri k, h3.keepL fCe k⟩, fun H1 d u v h h' => by
  obtain ⟨t, u, v, rfl, h1, h2, h3⟩ := h
  obtain ⟨t', u', v', rfl, h1', h2', h3'⟩ := h'
  exact SameD.le (n := 84) (same_tup h1 h1' (.cons (SameD.le (n := 5) (h2.same (fun _ _ _ r r' => TriAt.same r r') h2') (by decide)) (.cons (h3.same (fun _ _ _ r r' => CeAt.same r r') h3') .nil)) (by show 2 ≤ _; decide)) (by decide)⟩
theorem GrAt.byt {H : Hp} {g : List Tri × List Ce} {x : V} (h : GrAt H g x) : Byt (bGr g) := by
  obtain ⟨t, u, v, e, h1, h2, h3⟩ := h
  exact (h2.byt fun _ _ r => TriAt.byt r).app (h3.byt fun _ _ r => CeAt.byt r)
/-- the law's state and its tail -/
structure LS (p q tl : Addr) (ds : List Int) (ts : List Nat) (H : Hp) : Prop where
  S : StN H p q ds
  h : H tl = some (.lst (ts.map vi))
  n : tl ≠ p
  l : ts.length ≤ 2
  b : Byt ts
theorem LS.bt {p q tl : Addr} {ds : List Int} {ts : List Nat} {H H' : Hp} (L : LS p q tl ds ts H) (S : StN H' p q ds) (b : Bt H H' p) : LS p q tl ds ts H' := ⟨S, b _ _ L.h L.n, L.n, L.l, L.b⟩
theorem LS.sm {p q tl : Addr} {ds : List Int} {ts : List Nat} {H H' : Hp} (L : LS p q tl ds ts H) (s : Same H H') : LS p q tl ds ts H' := L.bt (L.S.sm s) (Bt.same s)
/-- a list that is told, none of the state -/
def LsN {D : Type} (R : Hp → D → V → Prop) (H : Hp) (p l : Addr) (us : List V) (xs : List D) : Prop := l ≠ p ∧ H l = some (.lst us) ∧ us.length ≤ 200 ∧ All2 (fun u d => R H d u) us xs
theorem LsN.at {D : Type} {R : Hp → D → V → Prop} {H : Hp} {p l : Addr} {us : List V} {xs : List D} (h : LsN R H p l us xs) : LstsAt R H xs (.ref l) := ⟨l, us, rfl, h.2.1, h.2.2.1, h.2.2.2⟩
theorem LsN.bt {D : Type} {R : Hp → D → V → Prop} {f : D → List Nat} (F : Fmt R f) {H H' : Hp} {p q l : Addr} {us : List V} {xs : List D} {ds : List Int} (h : LsN R H p l us xs) (S : StN H p q ds) (b : Bt H H' p) : LsN R H' p l us xs :=
  ⟨h.1, b _ _ h.2.1 h.1, h.2.2.1, h.2.2.2.mono fun _ _ r => F.keep (Bt.tk b S) r⟩
theorem LsN.sm {D : Type} {R : Hp → D → V → Prop} {f : D → List Nat} (F : Fmt R f) {H H' : Hp} {p l : Addr} {us : List V} {xs : List D} (h : LsN R H p l us xs) (s : Same H H') : LsN R H' p l us xs :=
  ⟨h.1, s _ _ h.2.1, h.2.2.1, h.2.2.2.mono fun _ _ r => F.keep (tkS s) r⟩
theorem LsN.cp {D : Type} {R : Hp → D → V → Prop} {f : D → List Nat} (F : Fmt R f) {H : Hp} {p l c : Addr} {us : List V} {xs : List D} (h : LsN R H p l us xs) (hc : H c = none) : LstsAt R (upd H c (.lst us)) xs (.ref c) :=
  ⟨c, us, rfl, upd_same, h.2.2.1, h.2.2.2.mono fun _ _ r => F.keep (tkS (same_upd hc)) r⟩
/-! ### law -/
def spLaw (K : PySem.W.Frag) : Sp := fun vs H Q _ => ∃ (a : Addr) (ns : List Int), vs = [.ref a] ∧ SqL K H a (ns.map V.int) ∧ ns.length ≤ 63 ∧ ∀ H', Q (.bl true) H'
theorem ok_law (Z : Defs K mg) : FnOk P w K mg base CX0 99 Z.fLaw Z.fdLaw ["script"] (spLaw K) := by
  have GLawDraws : FnOk P w K mg base CX0 98 Z.fLawDraws Z.fdLawDraws ["script"] (spDraws K) := (ok_draws (k := 0) Z).mono (by omega)
  have GLawNext : FnOk P w K mg base CX0 98 Z.fLawNext Z.fdLawNext ["state", "limit"] spNext := (ok_next (k := 0) Z).mono (by omega)
  have GLawBig : FnOk P w K mg base CX0 98 Z.fLawBig Z.fdLawBig ["state"] spBig := (ok_big (k := 0) Z).mono (by omega)
  have GLawAsks : FnOk P w K mg base CX0 98 Z.fLawAsks Z.fdLawAsks ["form_v", "thing", "told", "due", "tail"] (spAsks Z.cReader K) := ok_asks Z
  have GWriteNumber : FnOk P w K mg base CX0 98 Z.fWriteNumber Z.fdWriteNumber ["number"] spNum := (ok_writeNumber (k := 0) Z).mono (by omega)
  have GLawNumber : FnOk P w K mg base CX0 98 Z.fLawNumber Z.fdLawNumber ["number"] spNum := (ok_lawNumber (k := 0) Z).mono (by omega)
  have GWriteInteger : FnOk P w K mg base CX0 98 Z.fWriteInteger Z.fdWriteInteger ["number"] (spWr IntAt encI) := (ok_writeInteger (k := 0) Z).mono (by omega)
  have GLawTextOf : FnOk P w K mg base CX0 98 Z.fLawTextOf Z.fdLawTextOf ["state"] spTxt := (ok_textOf (k := 0) Z).mono (by omega)
  have GWriteString : FnOk P w K mg base CX0 98 Z.fWriteString Z.fdWriteString ["text"] (spWr TxtAt encS) := (ok_writeString (k := 0) Z).mono (by omega)
  have GLawString : FnOk P w K mg base CX0 98 Z.fLawString Z.fdLawString ["text"] (spWr TxtAt encS) := (ok_lawString (k := 0) Z).mono (by omega)
  have GLawAnyDeed : FnOk P w K mg base CX0 98 Z.fLawAnyDeed Z.fdLawAnyDeed ["state"] (spGen DeAt bDe 20000) := (ok_anyDeed Z).mono (by omega)
  have GWritePacket : FnOk P w K mg base CX0 98 Z.fWritePacket Z.fdWritePacket ["packet"] (spWr (LstsAt TriAt) fun ts => 1 :: encL (ts.map bTri)) := (ok_writePacket (k := 0) Z).mono (by omega)
  have GLawTriplesBytes : FnOk P w K mg base CX0 98 Z.fLawTriplesBytes Z.fdLawTriplesBytes ["triples"] (spWr (LstsAt TriAt) fun ts => encL (ts.map bTri)) := (ok_lawTriples (k := 0) Z).mono (by omega)
  have GWriteDeed : FnOk P w K mg base CX0 98 Z.fWriteDeed Z.fdWriteDeed ["deed"] (spWr DeAt bDe) := (ok_writeDeed (k := 0) Z).mono (by omega)
  have GLawDeedBytes : FnOk P w K mg base CX0 98 Z.fLawDeedBytes Z.fdLawDeedBytes ["deed"] (spWr DeAt bDe) := (ok_lawDeed (k := 0) Z).mono (by omega)
  have GLawValue : FnOk P w K mg base CX0 98 Z.fLawValue Z.fdLawValue ["state", "depth"] (spVal 4) := (ok_gvalue Z 4).mono (by omega)
  have GWriteValue : FnOk P w K mg base CX0 98 Z.fWriteValue Z.fdWriteValue ["value"] (spWr V40 (bV 40)) := (ok_writeValue Z 40).mono (by omega)
  have GLawValueBytes : FnOk P w K mg base CX0 98 Z.fLawValueBytes Z.fdLawValueBytes ["value"] (spWr V40 (bV 40)) := (ok_lawValue Z 40).mono (by omega)
  have GLawOutcome : FnOk P w K mg base CX0 98 Z.fLawOutcome Z.fdLawOutcome ["state"] (spGen OuAt bO 30000) := (ok_outcome Z).mono (by omega)
  have GWriteOutcome : FnOk P w K mg base CX0 98 Z.fWriteOutcome Z.fdWriteOutcome ["outcome"] (spWr OuAt bO) := (ok_writeOutcome (k := 0) Z).mono (by omega)
  have GLawOutcomeBytes : FnOk P w K mg base CX0 98 Z.fLawOutcomeBytes Z.fdLawOutcomeBytes ["outcome"] (spWr OuAt bO) := (ok_lawOutcome (k := 0) Z).mono (by omega)
  have GLawCell : FnOk P w K mg base CX0 98 Z.fLawCell Z.fdLawCell ["state", "name"] spCell := (ok_cell Z).mono (by omega)
  have GLawWord : FnOk P w K mg base CX0 98 Z.fLawWord Z.fdLawWord ["state"] spGenS := (ok_word (k := 0) Z).mono (by omega)
  have GWriteCell : FnOk P w K mg base CX0 98 Z.fWriteCell Z.fdWriteCell ["name", "shape", "outcome"] spWCell := (ok_writeCell (k := 0) Z).mono (by omega)
  have GLawCellBytes : FnOk P w K mg base CX0 98 Z.fLawCellBytes Z.fdLawCellBytes ["cell"] (spWr CeAt bC) := (ok_lawCell (k := 0) Z).mono (by omega)
  have GWriteGroup : FnOk P w K mg base CX0 98 Z.fWriteGroup Z.fdWriteGroup ["triples", "cells"] spWGroup := (ok_writeGroup (k := 0) Z).mono (by omega)
  have GLawGroupBytes : FnOk P w K mg base CX0 98 Z.fLawGroupBytes Z.fdLawGroupBytes ["triples", "cells"] spLGroup := (ok_lawGroup (k := 0) Z).mono (by omega)
  refine Z.DLaw.F.ok scLaw (fun vs H Q E h => ?_) (fun cdv A outer s H vs Q E hr h => ?_)
  · obtain ⟨a, ns, rfl, _⟩ := h
    rfl
  · obtain ⟨a, ns, rfl, hS, hl, qq⟩ := h
    refine ⟨_, (pss_cons (ps_set (i := 1) scLaw.nd rfl (.inr rfl) (pe_lst (pa_cons (pe_call GLawDraws (hr.mono (by omega)) (by rfl) Z.DLawDraws.g Z.DLawDraws.F.kp Z.DLawDraws.b .nil pass0 (pa_cons (pv 0) pa_nil)) (pa_cons pe_int pa_nil))))
        (pss_cons (ps_setLc (i := 2) (own := [("k", 14)]) (g := (gName 14)) (by rfl) scLaw.nd rfl rfl (sw_true rfl rfl rfl (by decide +kernel)) (pi_range1 (by rfl) Z.range (pa_cons (pe_call GLawNext (hr.mono (by omega)) (by rfl) Z.DLawNext.g Z.DLawNext.F.kp Z.DLawNext.b .nil pass0 (pa_cons (pv 1) (pa_cons pe_int pa_nil))) pa_nil)) (blkOk_by (own := [("k", 14)]) (N := ["script", "state", "tail", "number", "each", "text", "triples", "deed", "value", "outcome", "cells", "name", "shape", "told", "k"]) (sc := defScope sLaw) (by decide +kernel)) (fun _ _ _ _ _ => (pg_name (i := 14) scLaw.nd rfl (Or.inl rfl))) (fun _ _ _ _ _ => pts_nil) (fun _ _ _ _ _ => (pe_call GLawNext (hr.mono (by omega)) (by rfl) Z.DLawNext.g Z.DLawNext.F.kp Z.DLawNext.b .nil pass0 (pa_cons (pv 1) (pa_cons pe_int pa_nil)))))
        (pss_cons (ps_set (i := 3) scLaw.nd rfl (.inl rfl) (pe_call GLawBig (hr.mono (by omega)) (by rfl) Z.DLawBig.g Z.DLawBig.F.kp Z.DLawBig.b .nil pass0 (pa_cons (pv 1) pa_nil)))
        (pss_cons (ps_if (pt_not (pt_val (pe_call GLawAsks (hr.mono (by omega)) (by rfl) Z.DLawAsks.g Z.DLawAsks.F.kp Z.DLawAsks.b .nil pass0 (pa_cons pe_str (pa_cons (pv 3) (pa_cons (pe_call GWriteNumber (hr.mono (by omega)) (by rfl) Z.DWriteNumber.g Z.DWriteNumber.F.kp Z.DWriteNumber.b .nil pass0 (pa_cons (pv 3) pa_nil)) (pa_cons (pe_call GLawNumber (hr.mono (by omega)) (by rfl) Z.DLawNumber.g Z.DLawNumber.F.kp Z.DLawNumber.b .nil pass0 (pa_cons (pv 3) pa_nil)) (pa_cons (pv 2) pa_nil)))))))) (pss_one (ps_ret pe_bl)) pss_nil)
        (pss_cons (ps_for PassesOwn.never rfl (pi_list (pe_lst (pa_cons (pv 3) (pa_cons (pe_un un_neg (pv 3)) pa_nil)))) (pg_name (i := 4) scLaw.nd rfl (.inl rfl)) (pss_one (ps_if (pt_not (pt_val (pe_call GLawAsks (hr.mono (by omega)) (by rfl) Z.DLawAsks.g Z.DLawAsks.F.kp Z.DLawAsks.b .nil pass0 (pa_cons pe_str (pa_cons (pv 4) (pa_cons (pe_call GWriteInteger (hr.mono (by omega)) (by rfl) Z.DWriteInteger.g Z.DWriteInteger.F.kp Z.DWriteInteger.b .nil pass0 (pa_cons (pv 4) pa_nil)) (pa_cons (pe_op op_cat (pe_lst (pa_cons (pe_callTy call_int1 (by rfl) Z.int HL.boot_int (pa_cons (pe_cmpR op_lt (pv 4) pe_int (nomark _)) pa_nil)) pa_nil)) (pe_call GLawNumber (hr.mono (by omega)) (by rfl) Z.DLawNumber.g Z.DLawNumber.F.kp Z.DLawNumber.b .nil pass0 (pa_cons (pe_callB call_abs (by rfl) Z.abs (by decide +kernel) (pa_cons (pv 4) pa_nil)) pa_nil))) (pa_cons (pv 2) pa_nil)))))))) (pss_one (ps_ret pe_bl)) pss_nil)))
        (pss_cons (ps_set (i := 5) scLaw.nd rfl (.inl rfl) (pe_call GLawTextOf (hr.mono (by omega)) (by rfl) Z.DLawTextOf.g Z.DLawTextOf.F.kp Z.DLawTextOf.b .nil pass0 (pa_cons (pv 1) pa_nil)))
        (pss_cons (ps_if (pt_not (pt_val (pe_call GLawAsks (hr.mono (by omega)) (by rfl) Z.DLawAsks.g Z.DLawAsks.F.kp Z.DLawAsks.b .nil pass0 (pa_cons pe_str (pa_cons (pv 5) (pa_cons (pe_call GWriteString (hr.mono (by omega)) (by rfl) Z.DWriteString.g Z.DWriteString.F.kp Z.DWriteString.b .nil pass0 (pa_cons (pv 5) pa_nil)) (pa_cons (pe_call GLawString (hr.mono (by omega)) (by rfl) Z.DLawString.g Z.DLawString.F.kp Z.DLawString.b .nil pass0 (pa_cons (pv 5) pa_nil)) (pa_cons (pv 2) pa_nil)))))))) (pss_one (ps_ret pe_bl)) pss_nil)
        (pss_cons (ps_setLc (i := 6) (own := [("k", 14)]) (g := (gName 14)) (by rfl) scLaw.nd rfl rfl (sw_true rfl rfl rfl (by decide +kernel)) (pi_range1 (by rfl) Z.range (pa_cons (pe_call GLawNext (hr.mono (by omega)) (by rfl) Z.DLawNext.g Z.DLawNext.F.kp Z.DLawNext.b .nil pass0 (pa_cons (pv 1) (pa_cons pe_int pa_nil))) pa_nil)) (blkOk_by (own := [("k", 14)]) (N := ["script", "state", "tail", "number", "each", "text", "triples", "deed", "value", "outcome", "cells", "name", "shape", "told", "k"]) (sc := defScope sLaw) (by decide +kernel)) (fun _ _ _ _ _ => (pg_name (i := 14) scLaw.nd rfl (Or.inl rfl))) (fun _ _ _ _ _ => pts_nil) (fun _ _ _ _ _ => (pe_tup (pa_cons (pe_call GLawNext (hr.mono (by omega)) (by rfl) Z.DLawNext.g Z.DLawNext.F.kp Z.DLawNext.b .nil pass0 (pa_cons (pv 1) (pa_cons pe_int pa_nil))) (pa_cons (pe_call GLawBig (hr.mono (by omega)) (by rfl) Z.DLawBig.g Z.DLawBig.F.kp Z.DLawBig.b .nil pass0 (pa_cons (pv 1) pa_nil)) (pa_cons (pe_call GLawAnyDeed (hr.mono (by omega)) (by rfl) Z.DLawAnyDeed.g Z.DLawAnyDeed.F.kp Z.DLawAnyDeed.b .nil pass0 (pa_cons (pv 1) pa_nil)) pa_nil))))))
        (pss_cons (ps_if (pt_not (pt_val (pe_call GLawAsks (hr.mono (by omega)) (by rfl) Z.DLawAsks.g Z.DLawAsks.F.kp Z.DLawAsks.b .nil pass0 (pa_cons pe_str (pa_cons (pv 6) (pa_cons (pe_call GWritePacket (hr.mono (by omega)) (by rfl) Z.DWritePacket.g Z.DWritePacket.F.kp Z.DWritePacket.b .nil pass0 (pa_cons (pe_callTy call_list_of (by rfl) Z.list HL.boot_list (pa_cons (pv 6) pa_nil)) pa_nil)) (pa_cons (pe_op op_cat (pe_lst (pa_cons pe_int pa_nil)) (pe_call GLawTriplesBytes (hr.mono (by omega)) (by rfl) Z.DLawTriplesBytes.g Z.DLawTriplesBytes.F.kp Z.DLawTriplesBytes.b .nil pass0 (pa_cons (pv 6) pa_nil))) (pa_cons (pv 2) pa_nil)))))))) (pss_one (ps_ret pe_bl)) pss_nil)
        (pss_cons (ps_set (i := 7) scLaw.nd rfl (.inl rfl) (pe_call GLawAnyDeed (hr.mono (by omega)) (by rfl) Z.DLawAnyDeed.g Z.DLawAnyDeed.F.kp Z.DLawAnyDeed.b .nil pass0 (pa_cons (pv 1) pa_nil)))
        (pss_cons (ps_if (pt_not (pt_val (pe_call GLawAsks (hr.mono (by omega)) (by rfl) Z.DLawAsks.g Z.DLawAsks.F.kp Z.DLawAsks.b .nil pass0 (pa_cons pe_str (pa_cons (pv 7) (pa_cons (pe_call GWriteDeed (hr.mono (by omega)) (by rfl) Z.DWriteDeed.g Z.DWriteDeed.F.kp Z.DWriteDeed.b .nil pass0 (pa_cons (pv 7) pa_nil)) (pa_cons (pe_call GLawDeedBytes (hr.mono (by omega)) (by rfl) Z.DLawDeedBytes.g Z.DLawDeedBytes.F.kp Z.DLawDeedBytes.b .nil pass0 (pa_cons (pv 7) pa_nil)) (pa_cons (pv 2) pa_nil)))))))) (pss_one (ps_ret pe_bl)) pss_nil)
        (pss_cons (ps_set (i := 8) scLaw.nd rfl (.inl rfl) (pe_call GLawValue (hr.mono (by omega)) (by rfl) Z.DLawValue.g Z.DLawValue.F.kp Z.DLawValue.b .nil pass0 (pa_cons (pv 1) (pa_cons pe_int pa_nil))))
        (pss_cons (ps_if (pt_not (pt_val (pe_call GLawAsks (hr.mono (by omega)) (by rfl) Z.DLawAsks.g Z.DLawAsks.F.kp Z.DLawAsks.b .nil pass0 (pa_cons pe_str (pa_cons (pv 8) (pa_cons (pe_call GWriteValue (hr.mono (by omega)) (by rfl) Z.DWriteValue.g Z.DWriteValue.F.kp Z.DWriteValue.b .nil pass0 (pa_cons (pv 8) pa_nil)) (pa_cons (pe_call GLawValueBytes (hr.mono (by omega)) (by rfl) Z.DLawValueBytes.g Z.DLawValueBytes.F.kp Z.DLawValueBytes.b .nil pass0 (pa_cons (pv 8) pa_nil)) (pa_cons (pv 2) pa_nil)))))))) (pss_one (ps_ret pe_bl)) pss_nil)
        (pss_cons (ps_set (i := 9) scLaw.nd rfl (.inl rfl) (pe_call GLawOutcome (hr.mono (by omega)) (by rfl) Z.DLawOutcome.g Z.DLawOutcome.F.kp Z.DLawOutcome.b .nil pass0 (pa_cons (pv 1) pa_nil)))
        (pss_cons (ps_if (pt_not (pt_val (pe_call GLawAsks (hr.mono (by omega)) (by rfl) Z.DLawAsks.g Z.DLawAsks.F.kp Z.DLawAsks.b .nil pass0 (pa_cons pe_str (pa_cons (pv 9) (pa_cons (pe_call GWriteOutcome (hr.mono (by omega)) (by rfl) Z.DWriteOutcome.g Z.DWriteOutcome.F.kp Z.DWriteOutcome.b .nil pass0 (pa_cons (pv 9) pa_nil)) (pa_cons (pe_call GLawOutcomeBytes (hr.mono (by omega)) (by rfl) Z.DLawOutcomeBytes.g Z.DLawOutcomeBytes.F.kp Z.DLawOutcomeBytes.b .nil pass0 (pa_cons (pv 9) pa_nil)) (pa_cons (pv 2) pa_nil)))))))) (pss_one (ps_ret pe_bl)) pss_nil)
        (pss_cons (ps_setLc (i := 10) (own := [("k", 14)]) (g := (gName 14)) (by rfl) scLaw.nd rfl rfl (sw_true rfl rfl rfl (by decide +kernel)) (pi_range1 (by rfl) Z.range (pa_cons (pe_op op_add pe_int (pe_call GLawNext (hr.mono (by omega)) (by rfl) Z.DLawNext.g Z.DLawNext.F.kp Z.DLawNext.b .nil pass0 (pa_cons (pv 1) (pa_cons pe_int pa_nil)))) pa_nil)) (blkOk_by (own := [("k", 14)]) (N := ["script", "state", "tail", "number", "each", "text", "triples", "deed", "value", "outcome", "cells", "name", "shape", "told", "k"]) (sc := defScope sLaw) (by decide +kernel)) (fun _ _ _ _ _ => (pg_name (i := 14) scLaw.nd rfl (Or.inl rfl))) (fun _ _ _ _ _ => pts_nil) (fun _ _ _ _ _ => (pe_call GLawCell (hr.mono (by omega)) (by rfl) Z.DLawCell.g Z.DLawCell.F.kp Z.DLawCell.b .nil pass0 (pa_cons (pv 1) (pa_cons (pe_call GLawWord (hr.mono (by omega)) (by rfl) Z.DLawWord.g Z.DLawWord.F.kp Z.DLawWord.b .nil pass0 (pa_cons (pv 1) pa_nil)) pa_nil)))))
        (pss_cons (ps_asg (pe_ix ix_list (pv 10) pe_int (fun _ _ => rfl)) (pg_tup rfl (pgs_cons (pg_name (i := 11) scLaw.nd rfl (.inl rfl)) (pgs_cons (pg_name (i := 12) scLaw.nd rfl (.inl rfl)) (pgs_cons (pg_name (i := 9) scLaw.nd rfl (.inl rfl)) pgs_nil)))))
        (pss_cons (ps_if (pt_not (pt_val (pe_call GLawAsks (hr.mono (by omega)) (by rfl) Z.DLawAsks.g Z.DLawAsks.F.kp Z.DLawAsks.b .nil pass0 (pa_cons pe_str (pa_cons (pe_ix ix_list (pv 10) pe_int (fun _ _ => rfl)) (pa_cons (pe_call GWriteCell (hr.mono (by omega)) (by rfl) Z.DWriteCell.g Z.DWriteCell.F.kp Z.DWriteCell.b .nil pass0 (pa_cons (pv 11) (pa_cons (pv 12) (pa_cons (pv 9) pa_nil)))) (pa_cons (pe_call GLawCellBytes (hr.mono (by omega)) (by rfl) Z.DLawCellBytes.g Z.DLawCellBytes.F.kp Z.DLawCellBytes.b .nil pass0 (pa_cons (pe_ix ix_list (pv 10) pe_int (fun _ _ => rfl)) pa_nil)) (pa_cons (pv 2) pa_nil)))))))) (pss_one (ps_ret pe_bl)) pss_nil)
        (pss_cons (ps_set (i := 13) scLaw.nd rfl (.inl rfl) (pe_call GWriteGroup (hr.mono (by omega)) (by rfl) Z.DWriteGroup.g Z.DWriteGroup.F.kp Z.DWriteGroup.b .nil pass0 (pa_cons (pe_callTy call_list_of (by rfl) Z.list HL.boot_list (pa_cons (pv 6) pa_nil)) (pa_cons (pe_callTy call_list_of (by rfl) Z.list HL.boot_list (pa_cons (pv 10) pa_nil)) pa_nil))))
        (pss_one (ps_ret (pe_call GLawAsks (hr.mono (by omega)) (by rfl) Z.DLawAsks.g Z.DLawAsks.F.kp Z.DLawAsks.b .nil pass0 (pa_cons pe_str (pa_cons (pe_tup (pa_cons (pv 6) (pa_cons (pv 10) pa_nil))) (pa_cons (pv 13) (pa_cons (pe_call GLawGroupBytes (hr.mono (by omega)) (by rfl) Z.DLawGroupBytes.g Z.DLawGroupBytes.F.kp Z.DLawGroupBytes.b .nil pass0 (pa_cons (pv 6) (pa_cons (pv 10) pa_nil))) (pa_cons (pv 2) pa_nil))))))))))))))))))))))))))), ?_⟩
    refine ⟨_, rfl, a, ns, rfl, hS, hl, fun d H1 ds hd0 s1 hd hdl hD => ?_⟩
    refine ⟨by show 2 ≤ sizeLine; decide, fun p hp => ?_⟩
    have S2 : StN (upd H1 p (.lst [.ref d, .int 20])) p d ds := ⟨by rw [upd_ne (ne_of_none hd hp)]; exact hd, hD, 20, by decide, upd_same⟩
    generalize upd H1 p (.lst [.ref d, .int 20]) = H2 at S2 ⊢
    refine ⟨_, rfl, p, d, ds, 3, rfl, S2, by decide, fun H3 g S3 b3 g0 g1 => ⟨g, rfl, by omega, by omega, fun tl htl => ?_⟩⟩
    have ntp := S3.nn htl
    have ntq := S3.nq htl
    refine lc_range (lo := 0) (n := g.toNat) (fun i H' => StN H' p d ds ∧ ∃ ts : List Nat, H' tl = some (.lst (ts.map vi)) ∧ ts.length = i ∧ Byt ts) ⟨S3.sm (same_upd htl), [], upd_same, rfl, fun x h => by cases h⟩ ?_ ?_
    · rintro i H4 hi ⟨S4, ts, ht4, hl4, hb4⟩
      refine ⟨rfl, lc_yes ⟨_, rfl, p, d, ds, 256, rfl, S4, by decide, fun H5 v S5 b5 v0 v1 => ?_⟩⟩
      obtain ⟨j, rfl⟩ := Int.eq_ofNat_of_zero_le v0
      have ht5 := Bt.of b5 _ _ ht4 ntp
      refine ⟨_, ht5, by rw [List.length_map, hl4]; exact Nat.lt_of_lt_of_le (show i < 4 by omega) (by decide), S5.up ntp ntq, ts ++ [j], by rw [upd_same, List.map_append]; rfl, by rw [List.length_append, hl4]; rfl, hb4.app (Byt.cons (by omega) fun _ h => by cases h)⟩
    rintro H4 ⟨S4, ts, ht4, hl4, hb4⟩
    have L4 : LS p d tl ds ts H4 := ⟨S4, ht4, ntp, by omega, hb4⟩
    clear S4 ht4 hl4 hb4
    refine ⟨_, rfl, p, d, ds, rfl, L4.S, fun H5 n S5 B5 hn => ?_⟩
    have L5 := L4.bt S5 B5
    refine ⟨_, rfl, _, rfl, n, rfl, enc_le _ hn, fun p6 H6 s6 hp6 h6 => ⟨_, rfl, n, rfl, enc_le _ hn, fun p7 H7 s7 hp7 h7 => ⟨_, rfl, _, NumAt, enc, _, _, _, _, tl, n, ts, rfl, (aNum Z.cReader K).rd, ⟨hn, rfl⟩, ⟨p6, rfl, s7 _ _ h6⟩, ⟨p7, rfl, h7⟩, ((L5.sm s6).sm s7).h, L5.l, L5.b, byt_enc _, Nat.le_trans (enc_le _ hn) (by decide), (aNum Z.cReader K).keep, (aNum Z.cReader K).same, fun H8 s8 => ⟨true, rfl, iteF ?_⟩⟩⟩⟩
    have L8 := ((L5.sm s6).sm s7).sm s8
    refine ⟨_, rfl, _, rfl, n, rfl, by show 2 ≤ sizeLine; decide, fun N hN => ?_⟩
    have s9 := same_upd (o := .lst [vi n, V.int (-(n : Int))]) hN
    have gN : upd H8 N (.lst [vi n, V.int (-(n : Int))]) N = some (.lst [vi n, V.int (-(n : Int))]) := upd_same
    have nNp := L8.S.nn hN
    generalize upd H8 N (.lst [vi n, V.int (-(n : Int))]) = H9 at s9 gN ⊢
    refine ⟨N, rfl, ⟨_, SqL.of gN⟩, ?_⟩
    have L9 := L8.sm s9
    refine for_it walk_list (fun i σ H' => ∃ y4 : Option V, σ = [some (.ref a), some (.ref p), some (.ref tl), some (vi n), y4, none, none, none, none, none, none, none, none, none, none] ∧ Same H9 H') ⟨none, rfl, Same.refl _⟩ (fun i σ H' _ ⟨_, _, h⟩ => SqL.of (h _ _ gN)) ?_ ?_
    · rintro i u σ H10z H10 hi ⟨y4, rfl, s10⟩ ⟨rfl, hu⟩
      obtain ⟨e, rfl, he⟩ : ∃ e : Int, u = .int e ∧ NOk e.natAbs := by
        have h : i = 0 ∨ i = 1 := by have : i < 2 := hi; omega
        rcases h with rfl | rfl
        · cases hu; exact ⟨n, rfl, by exact hn⟩
        · cases hu; exact ⟨-(n : Int), rfl, by rw [Int.natAbs_neg]; exact hn⟩
      have L10 := L9.sm s10
      refine ⟨_, rfl, _, rfl, .int e, e, rfl, ⟨rfl, he⟩, Nat.le_trans (len_I he) (by decide), fun p11 H11 s11 hp11 h11 => ?_⟩
      refine ⟨_, rfl, e, 0, rfl, rfl, .inr ⟨_, rfl, by show 1 ≤ sizeLine; decide, fun C hC => ?_⟩⟩
      have eA : V.int (if e < 0 then -e else e) = vi e.natAbs := congrArg V.int (by split <;> omega)
      refine ⟨_, rfl, e, rfl, e.natAbs, congrArg (fun z => [z]) eA, enc_le _ he, fun p12 H12 s12 hp12 h12 => ?_⟩
      have s13 := Same.tr (same_upd hC) s12
      have hC12 := s12 _ _ (upd_same (H := H11) (a := C) (o := .lst [V.int (if decide (e < 0) = true then 1 else 0)]))
      refine ⟨C, p12, _, _, rfl, rfl, hC12, h12, fits (by rw [List.length_map]; have := enc_le _ he; show 1 + _ ≤ _; omega), fun Da hDa => ?_⟩
      have s14 := same_upd (o := .lst ([V.int (if decide (e < 0) = true then 1 else 0)] ++ (enc e.natAbs).map vi)) hDa
      have eI : [V.int (if decide (e < 0) = true then 1 else 0)] ++ (enc e.natAbs).map vi = (encI e).map vi := by
        unfold encI
        by_cases h : e < 0
        · rw [if_pos h, decide_eq_true h]; rfl
        · rw [if_neg h, decide_eq_false h]; rfl
      have gDa : upd H12 Da (.lst ([V.int (if decide (e < 0) = true then 1 else 0)] ++ (enc e.natAbs).map vi)) Da = some (.lst ((encI e).map vi)) := by rw [upd_same, eI]
      generalize upd H12 Da (.lst ([V.int (if decide (e < 0) = true then 1 else 0)] ++ (enc e.natAbs).map vi)) = H14 at s14 gDa ⊢
      refine ⟨_, rfl, _, IntAt, encI, _, _, _, _, tl, e, ts, rfl, (aInt Z.cReader K).rd, ⟨rfl, he⟩, ⟨p11, rfl, s14 _ _ (s13 _ _ h11)⟩, ⟨Da, rfl, gDa⟩, (((L10.sm s11).sm s13).sm s14).h, L5.l, L5.b, byt_I _, Nat.le_trans (len_I he) (by decide), (aInt Z.cReader K).keep, (aInt Z.cReader K).same, fun H15 s15 => ⟨true, rfl, iteF ?_⟩⟩
      exact ⟨_, rfl, Same.tr s10 (Same.tr s11 (Same.tr s13 (Same.tr s14 s15)))⟩
    rintro σ H10 ⟨y4, rfl, s10⟩
    have L10 := L9.sm s10
    clear s6 s7 s8 s9 s10 L9 L8 L5 L4
    refine ⟨_, rfl, p, d, ds, rfl, L10.S, fun H11 m S11 B11 hm => ?_⟩
    have L11 := L10.bt S11 B11
    have hmS := len_S hm
    refine ⟨_, rfl, _, rfl, _, m, rfl, ⟨rfl, hm⟩, by omega, fun p12 H12 s12 hp12 h12 => ⟨_, rfl, _, m, rfl, ⟨rfl, hm⟩, by omega, fun p13 H13 s13 hp13 h13 => ⟨_, rfl, _, TxtAt, encS, _, _, _, _, tl, m, ts, rfl, (aTxt Z.cReader K).rd, ⟨rfl, hm⟩, ⟨p12, rfl, s13 _ _ h12⟩, ⟨p13, rfl, h13⟩, ((L11.sm s12).sm s13).h, L11.l, L11.b, byt_S hm, by omega, (aTxt Z.cReader K).keep, (aTxt Z.cReader K).same, fun H14 s14 => ⟨true, rfl, iteF ?_⟩⟩⟩⟩
    have L14 := ((L11.sm s12).sm s13).sm s14
    clear s12 s13 s14 L11 L10 h12 h13 hp12 hp13
    /- triples -/
    refine ⟨_, rfl, p, d, ds, 5, rfl, L14.S, by decide, fun H15 g S15 b15 g0 g1 => ⟨g, rfl, by omega, by omega, fun T hT => ?_⟩⟩
    have nTp := S15.nn hT
    have nTq := S15.nq hT
    refine lc_range (lo := 0) (n := g.toNat) (fun i H' => StN H' p d ds ∧ Bt H15 H' p ∧ ∃ acc, H' T = some (.lst acc) ∧ acc.length = i ∧ ∀ x ∈ acc, PT TriAt bTri 20042 H' x) ⟨S15.sm (same_upd hT), Bt.same (same_upd hT), [], upd_same, rfl, fun x h => by cases h⟩ ?_ ?_
    · rintro i H16 hi ⟨S16, B16, acc, hT16, hl16, hacc⟩
      refine ⟨rfl, lc_yes ⟨_, rfl, p, d, ds, 10, rfl, S16, by decide, fun H17 v S17 b17 v0 v1 => ?_⟩⟩
      obtain ⟨j, rfl⟩ := Int.eq_ofNat_of_zero_le v0
      refine ⟨_, rfl, p, d, ds, rfl, S17, fun H18 k S18 B18 hk => ⟨_, rfl, p, d, ds, rfl, S18, fun H19 x de S19 B19 hx hxl => ⟨by show 3 ≤ sizeLine; decide, fun t ht => ?_⟩⟩⟩
      have st := same_upd (o := .tup [V.int ((j : Nat) : Int), vi k, x]) ht
      have gt : upd H19 t (.tup [V.int ((j : Nat) : Int), vi k, x]) t = some (.tup [vi j, vi k, x]) := upd_same
      generalize upd H19 t (.tup [V.int ((j : Nat) : Int), vi k, x]) = H20 at st gt ⊢
      have B1620 : Bt H16 H20 p := Bt.tr (Bt.of b17) (Bt.tr B18 (Bt.tr B19 (Bt.same st)))
      have S20 := S19.sm st
      have hT20 := B1620 _ _ hT16 nTp
      have r : PT TriAt bTri 20042 H20 (.ref t) := ⟨(j, k, de), ⟨NOk.small (show j < 1000000 by omega), hk, t, x, rfl, gt, hx.keep (tkS st)⟩, by
        show (enc j ++ (enc k ++ bDe de)).length ≤ _
        rw [List.length_append, List.length_append]
        have := (NOk.small (show j < 1000000 by omega)).len
        have := hk.len
        omega⟩
      have kT : TupK H20 (upd H20 T (.lst (acc ++ [.ref t]))) := tk_upd fun xs e => by rw [hT20] at e; cases e
      refine ⟨acc, hT20, by rw [hl16]; exact Nat.lt_of_lt_of_le (show i < 8 by omega) (by decide), S20.up nTp nTq, Bt.up (Bt.tr B16 B1620) hT, acc ++ [.ref t], upd_same, by rw [List.length_append, hl16]; rfl, fun u hu => ?_⟩
      rcases List.mem_append.mp hu with hu | hu
      · exact PT.keep fTri (PT.keep fTri (hacc u hu) (Bt.tk B1620 S16)) kT
      · rw [List.mem_singleton.mp hu]
        exact PT.keep fTri r kT
    rintro H16 ⟨S16, B16, tac, hT16, hl16, hacc⟩
    have L16 : LS p d tl ds ts H16 := L14.bt S16 (Bt.tr (Bt.of b15) B16)
    clear B16 b15 S15
    obtain ⟨tri, htri, htl2⟩ := pts hacc
    have T16 : LsN TriAt H16 p T tac tri := ⟨nTp, hT16, by omega, htri⟩
    have lT : (encL (tri.map bTri)).length ≤ 90000 := Nat.le_trans (len_L (c := 4) (m := 20042) (by rw [List.length_map, ← htri.len]; omega) (by decide) fun y hy => by
      obtain ⟨z, hz, rfl⟩ := List.mem_map.mp hy
      exact htl2 z hz) (by decide)
    clear hacc htl2 htri hT16 S16 L14
    refine ⟨_, rfl, _, rfl, T, _, rfl, .inl (SqL.of T16.2.1), fun C1 hC1 => ?_⟩
    have s17 := same_upd (o := .lst tac) hC1
    have g17 := T16.cp fTri hC1
    generalize upd H16 C1 (.lst tac) = H17 at s17 g17 ⊢
    refine ⟨_, tri, rfl, g17, by rw [List.length_cons]; omega, fun p18 H18 s18 hp18 h18 => ⟨by show 1 ≤ sizeLine; decide, fun C2 hC2 => ?_⟩⟩
    have s19 := same_upd (o := .lst [.int 1]) hC2
    have g19 : upd H18 C2 (.lst [.int 1]) C2 = some (.lst [.int 1]) := upd_same
    generalize upd H18 C2 (.lst [.int 1]) = H19 at s19 g19 ⊢
    have T19 := T16.sm fTri (Same.tr s17 (Same.tr s18 s19))
    refine ⟨_, rfl, _, tri, rfl, T19.at, Nat.le_trans lT (by decide), fun p20 H20 s20 hp20 h20 => ⟨C2, p20, _, _, rfl, rfl, s20 _ _ g19, h20, fits (by rw [List.length_map]; show 1 + (encL (tri.map bTri)).length ≤ _; omega), fun Da hDa => ?_⟩⟩
    have s21 := same_upd (o := .lst ([V.int 1] ++ (encL (tri.map bTri)).map vi)) hDa
    have gDa : upd H20 Da (.lst ([V.int 1] ++ (encL (tri.map bTri)).map vi)) Da = some (.lst ((1 :: encL (tri.map bTri)).map vi)) := upd_same
    generalize upd H20 Da (.lst ([V.int 1] ++ (encL (tri.map bTri)).map vi)) = H21 at s21 gDa ⊢
    have s1621 := Same.tr s17 (Same.tr s18 (Same.tr s19 (Same.tr s20 s21)))
    have L21 := L16.sm s1621
    have T21 := T16.sm fTri s1621
    refine ⟨_, rfl, _, LstsAt TriAt, _, _, _, _, _, tl, tri, ts, rfl, (aPk Z.cReader K).rd, T21.at, ⟨p18, rfl, s21 _ _ (s20 _ _ (s19 _ _ h18))⟩, ⟨Da, rfl, gDa⟩, L21.h, L21.l, L21.b, Byt.cons (by decide) (T21.at.byt fun _ _ r => TriAt.byt r), by rw [List.length_cons]; omega, (aPk Z.cReader K).keep, (aPk Z.cReader K).same, fun H22 s22 => ⟨true, rfl, iteF ?_⟩⟩
    have L22 := L21.sm s22
    have T22 := T21.sm fTri s22
    clear L21 T21 s1621 s17 s18 s19 s20 s21 s22 g17 g19 gDa h18 h20 T19 T16 L16
    /- deed -/
    refine ⟨_, rfl, p, d, ds, rfl, L22.S, fun H23 x1 de S23 B23 hx hxl => ?_⟩
    have T23 := T22.bt fTri L22.S B23
    have L23 := L22.bt S23 B23
    refine ⟨_, rfl, _, rfl, x1, de, rfl, hx, by omega, fun p24 H24 s24 hp24 h24 => ⟨_, rfl, x1, de, rfl, hx.keep (tkS s24), by omega, fun p25 H25 s25 hp25 h25 => ⟨_, rfl, _, DeAt, bDe, _, _, _, _, tl, de, ts, rfl, (aDe Z.cReader K).rd, (hx.keep (tkS s24)).keep (tkS s25), ⟨p24, rfl, s25 _ _ h24⟩, ⟨p25, rfl, h25⟩, ((L23.sm s24).sm s25).h, L23.l, L23.b, hx.byt, by omega, (aDe Z.cReader K).keep, (aDe Z.cReader K).same, fun H26 s26 => ⟨true, rfl, iteF ?_⟩⟩⟩⟩
    have L26 := ((L23.sm s24).sm s25).sm s26
    have T26 := ((T23.sm fTri s24).sm fTri s25).sm fTri s26
    clear L22 T22 L23 T23 s24 s25 s26 h24 h25 hp24 hp25 B23 S23
    /- value -/
    refine ⟨_, rfl, p, d, ds, 4, rfl, by decide, by decide, L26.S, fun H33 x2 S33 B33 hV => ?_⟩
    obtain ⟨va, hx2, hx2l⟩ : ∃ va, VaAt H33 40 va x2 ∧ (bV 40 va).length ≤ 80500 := hV
    have T33 := T26.bt fTri L26.S B33
    have L33 := L26.bt S33 B33
    refine ⟨_, rfl, _, rfl, x2, va, rfl, hx2, by omega, fun p34 H34 s34 hp34 h34 => ⟨_, rfl, x2, va, rfl, hx2.keep (tkS s34), by omega, fun p35 H35 s35 hp35 h35 => ⟨_, rfl, _, V40, bV 40, _, _, _, _, tl, va, ts, rfl, (aVa Z.cReader K).rd, (hx2.keep (tkS s34)).keep (tkS s35), ⟨p34, rfl, s35 _ _ h34⟩, ⟨p35, rfl, h35⟩, ((L33.sm s34).sm s35).h, L33.l, L33.b, hx2.byt, by omega, (aVa Z.cReader K).keep, (aVa Z.cReader K).same, fun H36 s36 => ⟨true, rfl, iteF ?_⟩⟩⟩⟩
    have L36 := ((L33.sm s34).sm s35).sm s36
    have T36 := ((T33.sm fTri s34).sm fTri s35).sm fTri s36
    clear L26 T26 L33 T33 s34 s35 s36 h34 h35 hp34 hp35 B33 S33
    /- outcome -/
    refine ⟨_, rfl, p, d, ds, rfl, L36.S, fun H43 x3 oc S43 B43 hx3 hx3l => ?_⟩
    have T43 := T36.bt fTri L36.S B43
    have L43 := L36.bt S43 B43
    refine ⟨_, rfl, _, rfl, x3, oc, rfl, hx3, by omega, fun p44 H44 s44 hp44 h44 => ⟨_, rfl, x3, oc, rfl, hx3.keep (tkS s44), by omega, fun p45 H45 s45 hp45 h45 => ⟨_, rfl, _, OuAt, bO, _, _, _, _, tl, oc, ts, rfl, (aOu Z.cReader K).rd, (hx3.keep (tkS s44)).keep (tkS s45), ⟨p44, rfl, s45 _ _ h44⟩, ⟨p45, rfl, h45⟩, ((L43.sm s44).sm s45).h, L43.l, L43.b, hx3.byt, by omega, (aOu Z.cReader K).keep, (aOu Z.cReader K).same, fun H46 s46 => ⟨true, rfl, iteF ?_⟩⟩⟩⟩
    have L46 := ((L43.sm s44).sm s45).sm s46
    have T46 := ((T43.sm fTri s44).sm fTri s45).sm fTri s46
    clear L36 T36 L43 T43 s44 s45 s46 h44 h45 hp44 hp45 B43 S43
    /- cells -/
    refine ⟨_, rfl, p, d, ds, 3, rfl, L46.S, by decide, fun H50 g S50 b50 g0 g1 => ⟨1, _, rfl, rfl, ?_⟩⟩
    refine ⟨1 + g, rfl, by omega, by omega, fun W hW => ?_⟩
    have nWp := S50.nn hW
    have nWq := S50.nq hW
    refine lc_range (lo := 0) (n := (1 + g).toNat) (fun i H' => StN H' p d ds ∧ Bt H50 H' p ∧ ∃ acc, H' W = some (.lst acc) ∧ acc.length = i ∧ ∀ x ∈ acc, PT CeAt bC 40000 H' x) ⟨S50.sm (same_upd hW), Bt.same (same_upd hW), [], upd_same, rfl, fun x h => by cases h⟩ ?_ ?_
    · rintro i H51 hi ⟨S51, B51, acc, hW51, hl51, hacc⟩
      refine ⟨rfl, lc_yes ⟨_, rfl, _, rfl, p, d, ds, rfl, S51, fun H52 m S52 B52 hm2 => ⟨p, d, ds, m, rfl, hm2, S52, fun H53 x c S53 B53 hx hxl _ => ?_⟩⟩⟩
      have B5153 := Bt.tr B52 B53
      have hW53 := B5153 _ _ hW51 nWp
      have kW : TupK H53 (upd H53 W (.lst (acc ++ [x]))) := tk_upd fun xs e => by rw [hW53] at e; cases e
      refine ⟨acc, hW53, by rw [hl51]; exact Nat.lt_of_lt_of_le (show i < 8 by omega) (by decide), S53.up nWp nWq, Bt.up (Bt.tr B51 B5153) hW, acc ++ [x], upd_same, by rw [List.length_append, hl51]; rfl, fun u hu => ?_⟩
      rcases List.mem_append.mp hu with hu | hu
      · exact PT.keep fCe (PT.keep fCe (hacc u hu) (Bt.tk B5153 S51)) kW
      · rw [List.mem_singleton.mp hu]
        exact PT.keep fCe ⟨c, hx, hxl⟩ kW
    rintro H51 ⟨S51, B51, wac, hW51, hl51, hacc⟩
    have L51 : LS p d tl ds ts H51 := L46.bt S51 (Bt.tr (Bt.of b50) B51)
    have T51 := T46.bt fTri L46.S (Bt.tr (Bt.of b50) B51)
    clear B51 b50 S50 L46 T46
    obtain ⟨ces, hces, hcl⟩ := pts hacc
    have W51 : LsN CeAt H51 p W wac ces := ⟨nWp, hW51, by omega, hces⟩
    have lW : (encL (ces.map bC)).length ≤ 130000 := Nat.le_trans (len_L (c := 3) (m := 40000) (by rw [List.length_map, ← hces.len]; omega) (by decide) fun y hy => by
      obtain ⟨z, hz, rfl⟩ := List.mem_map.mp hy
      exact hcl z hz) (by decide)
    obtain ⟨x0, hx0⟩ : ∃ x0, wac[0]? = some x0 := ⟨_, List.getElem?_eq_getElem (by omega)⟩
    obtain ⟨c0, hc0', hc0⟩ := hces.get hx0
    have lc0 := hcl c0 (List.mem_of_getElem? hc0')
    have hc0k := hc0
    have aW : atI wac (0 : Int) = some x0 := atI_nat (j := 0) hx0
    obtain ⟨nm0, ⟨sh0, oc0⟩⟩ := c0
    obtain ⟨hnm, t0, sv, ov, rfl, ht0, hsh, hoc⟩ := hc0
    refine ⟨_, rfl, W, _, _, _, rfl, rfl, SqL.of hW51, aW, t0, _, rfl, SqT.of ht0, rfl, _, _, rfl, _, _, rfl, _, _, rfl, rfl, ?_⟩
    /- a cell -/
    refine ⟨_, rfl, W, _, _, _, rfl, rfl, SqL.of hW51, aW, ?_⟩
    refine ⟨_, rfl, _, rfl, _, rfl, _, _, _, (nm0, (sh0, oc0)), rfl, ⟨rfl, hnm⟩, hsh, hoc, Nat.le_trans lc0 (by decide), fun p54 H54 s54 hp54 h54 => ?_⟩
    refine ⟨_, rfl, W, _, _, _, rfl, rfl, SqL.of (s54 _ _ hW51), aW, ?_⟩
    refine ⟨_, (nm0, (sh0, oc0)), rfl, hc0k.keep (tkS s54), Nat.le_trans lc0 (by decide), fun p55 H55 s55 hp55 h55 => ?_⟩
    refine ⟨_, rfl, _, CeAt, bC, _, _, _, _, tl, (nm0, (sh0, oc0)), ts, rfl, (aCe Z.cReader K).rd, (hc0k.keep (tkS s54)).keep (tkS s55), ⟨p54, rfl, s55 _ _ h54⟩, ⟨p55, rfl, h55⟩, ((L51.sm s54).sm s55).h, L51.l, L51.b, hc0k.byt, by omega, (aCe Z.cReader K).keep, (aCe Z.cReader K).same, fun H56 s56 => ⟨true, rfl, iteF ?_⟩⟩
    have L56 := ((L51.sm s54).sm s55).sm s56
    have T56 := ((T51.sm fTri s54).sm fTri s55).sm fTri s56
    have W56 := ((W51.sm fCe s54).sm fCe s55).sm fCe s56
    clear L51 T51 W51 s54 s55 s56 h54 h55 hp54 hp55
    /- group -/
    have lG : (bG tri ces).length ≤ 250000 := by unfold bG; rw [List.length_append]; omega
    refine ⟨_, rfl, T, _, rfl, .inl (SqL.of T56.2.1), fun C1 hC1 => ?_⟩
    have s57 := same_upd (o := .lst tac) hC1
    have g57 := T56.cp fTri hC1
    generalize upd H56 C1 (.lst tac) = H57 at s57 g57 ⊢
    have W57 := W56.sm fCe s57
    refine ⟨_, rfl, W, _, rfl, .inl (SqL.of W57.2.1), fun C2 hC2 => ?_⟩
    have s58 := same_upd (o := .lst wac) hC2
    have g58 := W57.cp fCe hC2
    generalize upd H57 C2 (.lst wac) = H58 at s58 g58 ⊢
    refine ⟨_, _, tri, ces, rfl, g57.keepL fTri (TLK.of s58), g58, Nat.le_trans lG (by decide), fun p59 H59 s59 hp59 h59 => ?_⟩
    have s5659 := Same.tr s57 (Same.tr s58 s59)
    have T59 := T56.sm fTri s5659
    have W59 := W56.sm fCe s5659
    refine ⟨_, rfl, _, rfl, by show 2 ≤ sizeLine; decide, fun G hG => ?_⟩
    have s60 := same_upd (o := .tup [.ref T, .ref W]) hG
    have gG : upd H59 G (.tup [.ref T, .ref W]) G = some (.tup [.ref T, .ref W]) := upd_same
    generalize upd H59 G (.tup [.ref T, .ref W]) = H60 at s60 gG ⊢
    have T60 := T59.sm fTri s60
    have W60 := W59.sm fCe s60
    refine ⟨_, rfl, _, rfl, _, rfl, _, _, tri, ces, rfl, T60.at, W60.at, Nat.le_trans lG (by decide), fun p61 H61 s61 hp61 h61 => ?_⟩
    have gr : GrAt H61 (tri, ces) (.ref G) := ⟨G, .ref T, .ref W, rfl, s61 _ _ gG, (T60.sm fTri s61).at, (W60.sm fCe s61).at⟩
    exact ⟨_, rfl, _, GrAt, bGr, _, _, _, _, tl, (tri, ces), ts, rfl, (aGr Z.cReader K).rd, gr, ⟨p59, rfl, s61 _ _ (s60 _ _ h59)⟩, ⟨p61, rfl, h61⟩, (((L56.sm s5659).sm s60).sm s61).h, L56.l, L56.b, gr.byt, Nat.le_trans lG (by decide), (aGr Z.cReader K).keep, (aGr Z.cReader K).same, fun H62 s62 => qq _⟩
end
end Q40
namespace Q40
open PySem PySem.Spec PyProof.Rows L2 SX HL
theorem all_mk {l : PySem.W.OpenLaw} {w : World} {K : PySem.W.Frag} {h : Heap} {mg : Str → Option Value} {fa f1 f2 f3 f4 f5 f6 f7 f8 f9 f10 f11 f12 f13 f14 f15 f16 f17 f18 f19 f20 f21 f22 f23 f24 f25 f26 f27 f28 f29 f30 f31 f32 f33 f34 f35 f36 f37 f38 f39 f40 f41 f42 f43 f44 f45 f46 f47 f48 : Addr} (X : K.In h) (G : h.Ns mainGlobals mg) (hfa : mg "law" = some (.ref fa))
    {od1 an1 od2 an2 od3 an3 od4 an4 od5 an5 od6 an6 od7 an7 od8 an8 od9 an9 od10 an10 od11 an11 od12 an12 od13 an13 od14 an14 od15 an15 od16 an16 od17 an17 od18 an18 od19 an19 od20 an20 od21 an21 od22 an22 od23 an23 od24 an24 od25 an25 od26 an26 od27 an27 od28 an28 od29 an29 od30 an30 od31 an31 od32 an32 od33 an33 od34 an34 od35 an35 od36 an36 od37 an37 od38 an38 od39 an39 od40 an40 od41 an41 od42 an42 od43 an43 od44 an44 od45 an45 od46 an46 od47 an47 od48 an48 : Option Addr} {sl1 sl2 sl3 sl4 sl5 sl6 sl7 sl8 sl9 sl10 sl11 sl12 sl13 sl14 sl15 sl16 sl17 sl18 sl19 sl20 sl21 sl22 sl23 sl24 sl25 sl26 sl27 sl28 sl29 sl30 sl31 sl32 sl33 sl34 sl35 sl36 sl37 sl38 sl39 sl40 sl41 sl42 sl43 sl44 sl45 sl46 sl47 sl48 : Array (Option Value)} {oc1 kV1 dc1 pm1 cd1 ct1 oc2 kV2 dc2 pm2 cd2 ct2 oc3 kV3 dc3 pm3 cd3 ct3 oc4 kV4 dc4 pm4 cd4 ct4 oc5 kV5 dc5 pm5 cd5 ct5 oc6 kV6 dc6 pm6 cd6 ct6 oc7 kV7 dc7 pm7 cd7 ct7 oc8 kV8 dc8 pm8 cd8 ct8 oc9 kV9 dc9 pm9 cd9 ct9 oc10 kV10 dc10 pm10 cd10 ct10 oc11 kV11 dc11 pm11 cd11 ct11 oc12 kV12 dc12 pm12 cd12 ct12 oc13 kV13 dc13 pm13 cd13 ct13 oc14 kV14 dc14 pm14 cd14 ct14 oc15 kV15 dc15 pm15 cd15 ct15 oc16 kV16 dc16 pm16 cd16 ct16 oc17 kV17 dc17 pm17 cd17 ct17 oc18 kV18 dc18 pm18 cd18 ct18 oc19 kV19 dc19 pm19 cd19 ct19 oc20 kV20 dc20 pm20 cd20 ct20 oc21 kV21 dc21 pm21 cd21 ct21 oc22 kV22 dc22 pm22 cd22 ct22 oc23 kV23 dc23 pm23 cd23 ct23 oc24 kV24 dc24 pm24 cd24 ct24 oc25 kV25 dc25 pm25 cd25 ct25 oc26 kV26 dc26 pm26 cd26 ct26 oc27 kV27 dc27 pm27 cd27 ct27 oc28 kV28 dc28 pm28 cd28 ct28 oc29 kV29 dc29 pm29 cd29 ct29 oc30 kV30 dc30 pm30 cd30 ct30 oc31 kV31 dc31 pm31 cd31 ct31 oc32 kV32 dc32 pm32 cd32 ct32 oc33 kV33 dc33 pm33 cd33 ct33 oc34 kV34 dc34 pm34 cd34 ct34 oc35 kV35 dc35 pm35 cd35 ct35 oc36 kV36 dc36 pm36 cd36 ct36 oc37 kV37 dc37 pm37 cd37 ct37 oc38 kV38 dc38 pm38 cd38 ct38 oc39 kV39 dc39 pm39 cd39 ct39 oc40 kV40 dc40 pm40 cd40 ct40 oc41 kV41 dc41 pm41 cd41 ct41 oc42 kV42 dc42 pm42 cd42 ct42 oc43 kV43 dc43 pm43 cd43 ct43 oc44 kV44 dc44 pm44 cd44 ct44 oc45 kV45 dc45 pm45 cd45 ct45 oc46 kV46 dc46 pm46 cd46 ct46 oc47 kV47 dc47 pm47 cd47 ct47 oc48 kV48 dc48 pm48 cd48 ct48 : Value}
    {cReader g1 g2 g3 g4 g5 g6 g7 g8 g9 g10 g11 g12 g13 g14 g15 g16 g17 g18 g19 g20 g21 g22 g23 g24 : Addr} {Od1 An1 Od2 An2 Od3 An3 Od4 An4 Od5 An5 Od6 An6 Od7 An7 Od8 An8 Od9 An9 Od10 An10 Od11 An11 Od12 An12 Od13 An13 Od14 An14 Od15 An15 Od16 An16 Od17 An17 Od18 An18 Od19 An19 Od20 An20 Od21 An21 Od22 An22 Od23 An23 Od24 An24 : Option Addr} {Sl1 Sl2 Sl3 Sl4 Sl5 Sl6 Sl7 Sl8 Sl9 Sl10 Sl11 Sl12 Sl13 Sl14 Sl15 Sl16 Sl17 Sl18 Sl19 Sl20 Sl21 Sl22 Sl23 Sl24 : Array (Option Value)} {Oc1 KV1 Dc1 Pm1 Cd1 Ct1 Oc2 KV2 Dc2 Pm2 Cd2 Ct2 Oc3 KV3 Dc3 Pm3 Cd3 Ct3 Oc4 KV4 Dc4 Pm4 Cd4 Ct4 Oc5 KV5 Dc5 Pm5 Cd5 Ct5 Oc6 KV6 Dc6 Pm6 Cd6 Ct6 Oc7 KV7 Dc7 Pm7 Cd7 Ct7 Oc8 KV8 Dc8 Pm8 Cd8 Ct8 Oc9 KV9 Dc9 Pm9 Cd9 Ct9 Oc10 KV10 Dc10 Pm10 Cd10 Ct10 Oc11 KV11 Dc11 Pm11 Cd11 Ct11 Oc12 KV12 Dc12 Pm12 Cd12 Ct12 Oc13 KV13 Dc13 Pm13 Cd13 Ct13 Oc14 KV14 Dc14 Pm14 Cd14 Ct14 Oc15 KV15 Dc15 Pm15 Cd15 Ct15 Oc16 KV16 Dc16 Pm16 Cd16 Ct16 Oc17 KV17 Dc17 Pm17 Cd17 Ct17 Oc18 KV18 Dc18 Pm18 Cd18 Ct18 Oc19 KV19 Dc19 Pm19 Cd19 Ct19 Oc20 KV20 Dc20 Pm20 Cd20 Ct20 Oc21 KV21 Dc21 Pm21 Cd21 Ct21 Oc22 KV22 Dc22 Pm22 Cd22 Ct22 Oc23 KV23 Dc23 Pm23 Cd23 Ct23 Oc24 KV24 Dc24 Pm24 Cd24 Ct24 : Value}
    {dT3 : Addr} {dTo3 : Option Addr} {dTn3 : Nat} {dTs3 : Array (Option Value)} {dTt3_0 : Tok}
    {eQuillrunError eDamagedPacket : Addr}
    {tMOST_DEPTH tPACKET tLONGEST_NUMBER tCHARACTERS : Tok}
    {aBASES : Addr} {odBASES : Option Addr} {nBASES : Nat} {slBASES : Array (Option Value)} {tkBASES0 tkBASES1 tkBASES2 : Tok}
    {aFAULTS : Addr} {odFAULTS : Option Addr} {nFAULTS : Nat} {slFAULTS : Array (Option Value)} {tkFAULTS0 tkFAULTS1 tkFAULTS2 tkFAULTS3 tkFAULTS4 tkFAULTS5 : Tok}
    (a1 : PySem.W.nsIn K mainGlobals "form" = some (some (.ref f1)))
    (l1 : K.lookup f1 = some ⟨oc1, od1, .func (PySem.W.fnOf "form" "form" (defArgs sForm) (defBody sForm) (defScope sForm) .none kV1 dc1 pm1 an1 cd1 ct1), sl1⟩)
    (c1 : PySem.W.codeIn K cd1 "form" = true)
    (k1 : PySem.W.keepIn K (.ref f1) = true)
    (a2 : PySem.W.nsIn K mainGlobals "write_number" = some (some (.ref f2)))
    (l2 : K.lookup f2 = some ⟨oc2, od2, .func (PySem.W.fnOf "write_number" "write_number" (defArgs sWriteNumber) (defBody sWriteNumber) (defScope sWriteNumber) .none kV2 dc2 pm2 an2 cd2 ct2), sl2⟩)
    (c2 : PySem.W.codeIn K cd2 "write_number" = true)
    (k2 : PySem.W.keepIn K (.ref f2) = true)
    (a3 : PySem.W.nsIn K mainGlobals "write_integer" = some (some (.ref f3)))
    (l3 : K.lookup f3 = some ⟨oc3, od3, .func (PySem.W.fnOf "write_integer" "write_integer" (defArgs sWriteInteger) (defBody sWriteInteger) (defScope sWriteInteger) .none kV3 dc3 pm3 an3 cd3 ct3), sl3⟩)
    (c3 : PySem.W.codeIn K cd3 "write_integer" = true)
    (k3 : PySem.W.keepIn K (.ref f3) = true)
    (a4 : PySem.W.nsIn K mainGlobals "write_string" = some (some (.ref f4)))
    (l4 : K.lookup f4 = some ⟨oc4, od4, .func (PySem.W.fnOf "write_string" "write_string" (defArgs sWriteString) (defBody sWriteString) (defScope sWriteString) .none kV4 dc4 pm4 an4 cd4 ct4), sl4⟩)
    (c4 : PySem.W.codeIn K cd4 "write_string" = true)
    (k4 : PySem.W.keepIn K (.ref f4) = true)
    (a5 : PySem.W.nsIn K mainGlobals "write_list" = some (some (.ref f5)))
    (l5 : K.lookup f5 = some ⟨oc5, od5, .func (PySem.W.fnOf "write_list" "write_list" (defArgs sWriteList) (defBody sWriteList) (defScope sWriteList) .none kV5 dc5 pm5 an5 cd5 ct5), sl5⟩)
    (c5 : PySem.W.codeIn K cd5 "write_list" = true)
    (k5 : PySem.W.keepIn K (.ref f5) = true)
    (a6 : PySem.W.nsIn K mainGlobals "write_mark" = some (some (.ref f6)))
    (l6 : K.lookup f6 = some ⟨oc6, od6, .func (PySem.W.fnOf "write_mark" "write_mark" (defArgs sWriteMark) (defBody sWriteMark) (defScope sWriteMark) .none kV6 dc6 pm6 an6 cd6 ct6), sl6⟩)
    (c6 : PySem.W.codeIn K cd6 "write_mark" = true)
    (k6 : PySem.W.keepIn K (.ref f6) = true)
    (a7 : PySem.W.nsIn K mainGlobals "write_deed" = some (some (.ref f7)))
    (l7 : K.lookup f7 = some ⟨oc7, od7, .func (PySem.W.fnOf "write_deed" "write_deed" (defArgs sWriteDeed) (defBody sWriteDeed) (defScope sWriteDeed) .none kV7 dc7 pm7 an7 cd7 ct7), sl7⟩)
    (c7 : PySem.W.codeIn K cd7 "write_deed" = true)
    (k7 : PySem.W.keepIn K (.ref f7) = true)
    (a8 : PySem.W.nsIn K mainGlobals "write_triple" = some (some (.ref f8)))
    (l8 : K.lookup f8 = some ⟨oc8, od8, .func (PySem.W.fnOf "write_triple" "write_triple" (defArgs sWriteTriple) (defBody sWriteTriple) (defScope sWriteTriple) .none kV8 dc8 pm8 an8 cd8 ct8), sl8⟩)
    (c8 : PySem.W.codeIn K cd8 "write_triple" = true)
    (k8 : PySem.W.keepIn K (.ref f8) = true)
    (a9 : PySem.W.nsIn K mainGlobals "write_packet" = some (some (.ref f9)))
    (l9 : K.lookup f9 = some ⟨oc9, od9, .func (PySem.W.fnOf "write_packet" "write_packet" (defArgs sWritePacket) (defBody sWritePacket) (defScope sWritePacket) .none kV9 dc9 pm9 an9 cd9 ct9), sl9⟩)
    (c9 : PySem.W.codeIn K cd9 "write_packet" = true)
    (k9 : PySem.W.keepIn K (.ref f9) = true)
    (a10 : PySem.W.nsIn K mainGlobals "write_kind" = some (some (.ref f10)))
    (l10 : K.lookup f10 = some ⟨oc10, od10, .func (PySem.W.fnOf "write_kind" "write_kind" (defArgs sWriteKind) (defBody sWriteKind) (defScope sWriteKind) .none kV10 dc10 pm10 an10 cd10 ct10), sl10⟩)
    (c10 : PySem.W.codeIn K cd10 "write_kind" = true)
    (k10 : PySem.W.keepIn K (.ref f10) = true)
    (a11 : PySem.W.nsIn K mainGlobals "write_value" = some (some (.ref f11)))
    (l11 : K.lookup f11 = some ⟨oc11, od11, .func (PySem.W.fnOf "write_value" "write_value" (defArgs sWriteValue) (defBody sWriteValue) (defScope sWriteValue) .none kV11 dc11 pm11 an11 cd11 ct11), sl11⟩)
    (c11 : PySem.W.codeIn K cd11 "write_value" = true)
    (k11 : PySem.W.keepIn K (.ref f11) = true)
    (a12 : PySem.W.nsIn K mainGlobals "write_values" = some (some (.ref f12)))
    (l12 : K.lookup f12 = some ⟨oc12, od12, .func (PySem.W.fnOf "write_values" "write_values" (defArgs sWriteValues) (defBody sWriteValues) (defScope sWriteValues) .none kV12 dc12 pm12 an12 cd12 ct12), sl12⟩)
    (c12 : PySem.W.codeIn K cd12 "write_values" = true)
    (k12 : PySem.W.keepIn K (.ref f12) = true)
    (a13 : PySem.W.nsIn K mainGlobals "write_fault" = some (some (.ref f13)))
    (l13 : K.lookup f13 = some ⟨oc13, od13, .func (PySem.W.fnOf "write_fault" "write_fault" (defArgs sWriteFault) (defBody sWriteFault) (defScope sWriteFault) .none kV13 dc13 pm13 an13 cd13 ct13), sl13⟩)
    (c13 : PySem.W.codeIn K cd13 "write_fault" = true)
    (k13 : PySem.W.keepIn K (.ref f13) = true)
    (a14 : PySem.W.nsIn K mainGlobals "write_outcome" = some (some (.ref f14)))
    (l14 : K.lookup f14 = some ⟨oc14, od14, .func (PySem.W.fnOf "write_outcome" "write_outcome" (defArgs sWriteOutcome) (defBody sWriteOutcome) (defScope sWriteOutcome) .none kV14 dc14 pm14 an14 cd14 ct14), sl14⟩)
    (c14 : PySem.W.codeIn K cd14 "write_outcome" = true)
    (k14 : PySem.W.keepIn K (.ref f14) = true)
    (a15 : PySem.W.nsIn K mainGlobals "write_maker" = some (some (.ref f15)))
    (l15 : K.lookup f15 = some ⟨oc15, od15, .func (PySem.W.fnOf "write_maker" "write_maker" (defArgs sWriteMaker) (defBody sWriteMaker) (defScope sWriteMaker) .none kV15 dc15 pm15 an15 cd15 ct15), sl15⟩)
    (c15 : PySem.W.codeIn K cd15 "write_maker" = true)
    (k15 : PySem.W.keepIn K (.ref f15) = true)
    (a16 : PySem.W.nsIn K mainGlobals "write_data" = some (some (.ref f16)))
    (l16 : K.lookup f16 = some ⟨oc16, od16, .func (PySem.W.fnOf "write_data" "write_data" (defArgs sWriteData) (defBody sWriteData) (defScope sWriteData) .none kV16 dc16 pm16 an16 cd16 ct16), sl16⟩)
    (c16 : PySem.W.codeIn K cd16 "write_data" = true)
    (k16 : PySem.W.keepIn K (.ref f16) = true)
    (a17 : PySem.W.nsIn K mainGlobals "write_shape" = some (some (.ref f17)))
    (l17 : K.lookup f17 = some ⟨oc17, od17, .func (PySem.W.fnOf "write_shape" "write_shape" (defArgs sWriteShape) (defBody sWriteShape) (defScope sWriteShape) .none kV17 dc17 pm17 an17 cd17 ct17), sl17⟩)
    (c17 : PySem.W.codeIn K cd17 "write_shape" = true)
    (k17 : PySem.W.keepIn K (.ref f17) = true)
    (a18 : PySem.W.nsIn K mainGlobals "write_cell" = some (some (.ref f18)))
    (l18 : K.lookup f18 = some ⟨oc18, od18, .func (PySem.W.fnOf "write_cell" "write_cell" (defArgs sWriteCell) (defBody sWriteCell) (defScope sWriteCell) .none kV18 dc18 pm18 an18 cd18 ct18), sl18⟩)
    (c18 : PySem.W.codeIn K cd18 "write_cell" = true)
    (k18 : PySem.W.keepIn K (.ref f18) = true)
    (a19 : PySem.W.nsIn K mainGlobals "write_cells" = some (some (.ref f19)))
    (l19 : K.lookup f19 = some ⟨oc19, od19, .func (PySem.W.fnOf "write_cells" "write_cells" (defArgs sWriteCells) (defBody sWriteCells) (defScope sWriteCells) .none kV19 dc19 pm19 an19 cd19 ct19), sl19⟩)
    (c19 : PySem.W.codeIn K cd19 "write_cells" = true)
    (k19 : PySem.W.keepIn K (.ref f19) = true)
    (a20 : PySem.W.nsIn K mainGlobals "write_group" = some (some (.ref f20)))
    (l20 : K.lookup f20 = some ⟨oc20, od20, .func (PySem.W.fnOf "write_group" "write_group" (defArgs sWriteGroup) (defBody sWriteGroup) (defScope sWriteGroup) .none kV20 dc20 pm20 an20 cd20 ct20), sl20⟩)
    (c20 : PySem.W.codeIn K cd20 "write_group" = true)
    (k20 : PySem.W.keepIn K (.ref f20) = true)
    (a21 : PySem.W.nsIn K mainGlobals "_law_mix" = some (some (.ref f21)))
    (l21 : K.lookup f21 = some ⟨oc21, od21, .func (PySem.W.fnOf "_law_mix" "_law_mix" (defArgs sLawMix) (defBody sLawMix) (defScope sLawMix) .none kV21 dc21 pm21 an21 cd21 ct21), sl21⟩)
    (c21 : PySem.W.codeIn K cd21 "_law_mix" = true)
    (k21 : PySem.W.keepIn K (.ref f21) = true)
    (a22 : PySem.W.nsIn K mainGlobals "_law_draws" = some (some (.ref f22)))
    (l22 : K.lookup f22 = some ⟨oc22, od22, .func (PySem.W.fnOf "_law_draws" "_law_draws" (defArgs sLawDraws) (defBody sLawDraws) (defScope sLawDraws) .none kV22 dc22 pm22 an22 cd22 ct22), sl22⟩)
    (c22 : PySem.W.codeIn K cd22 "_law_draws" = true)
    (k22 : PySem.W.keepIn K (.ref f22) = true)
    (a23 : PySem.W.nsIn K mainGlobals "_law_at" = some (some (.ref f23)))
    (l23 : K.lookup f23 = some ⟨oc23, od23, .func (PySem.W.fnOf "_law_at" "_law_at" (defArgs sLawAt) (defBody sLawAt) (defScope sLawAt) .none kV23 dc23 pm23 an23 cd23 ct23), sl23⟩)
    (c23 : PySem.W.codeIn K cd23 "_law_at" = true)
    (k23 : PySem.W.keepIn K (.ref f23) = true)
    (a24 : PySem.W.nsIn K mainGlobals "_law_is_integer" = some (some (.ref f24)))
    (l24 : K.lookup f24 = some ⟨oc24, od24, .func (PySem.W.fnOf "_law_is_integer" "_law_is_integer" (defArgs sLawIsInteger) (defBody sLawIsInteger) (defScope sLawIsInteger) .none kV24 dc24 pm24 an24 cd24 ct24), sl24⟩)
    (c24 : PySem.W.codeIn K cd24 "_law_is_integer" = true)
    (k24 : PySem.W.keepIn K (.ref f24) = true)
    (a25 : PySem.W.nsIn K mainGlobals "_law_same" = some (some (.ref f25)))
    (l25 : K.lookup f25 = some ⟨oc25, od25, .func (PySem.W.fnOf "_law_same" "_law_same" (defArgs sLawSame) (defBody sLawSame) (defScope sLawSame) .none kV25 dc25 pm25 an25 cd25 ct25), sl25⟩)
    (c25 : PySem.W.codeIn K cd25 "_law_same" = true)
    (k25 : PySem.W.keepIn K (.ref f25) = true)
    (a26 : PySem.W.nsIn K mainGlobals "_law_next" = some (some (.ref f26)))
    (l26 : K.lookup f26 = some ⟨oc26, od26, .func (PySem.W.fnOf "_law_next" "_law_next" (defArgs sLawNext) (defBody sLawNext) (defScope sLawNext) .none kV26 dc26 pm26 an26 cd26 ct26), sl26⟩)
    (c26 : PySem.W.codeIn K cd26 "_law_next" = true)
    (k26 : PySem.W.keepIn K (.ref f26) = true)
    (a27 : PySem.W.nsIn K mainGlobals "_law_number" = some (some (.ref f27)))
    (l27 : K.lookup f27 = some ⟨oc27, od27, .func (PySem.W.fnOf "_law_number" "_law_number" (defArgs sLawNumber) (defBody sLawNumber) (defScope sLawNumber) .none kV27 dc27 pm27 an27 cd27 ct27), sl27⟩)
    (c27 : PySem.W.codeIn K cd27 "_law_number" = true)
    (k27 : PySem.W.keepIn K (.ref f27) = true)
    (a28 : PySem.W.nsIn K mainGlobals "_law_listed" = some (some (.ref f28)))
    (l28 : K.lookup f28 = some ⟨oc28, od28, .func (PySem.W.fnOf "_law_listed" "_law_listed" (defArgs sLawListed) (defBody sLawListed) (defScope sLawListed) .none kV28 dc28 pm28 an28 cd28 ct28), sl28⟩)
    (c28 : PySem.W.codeIn K cd28 "_law_listed" = true)
    (k28 : PySem.W.keepIn K (.ref f28) = true)
    (a29 : PySem.W.nsIn K mainGlobals "_law_string" = some (some (.ref f29)))
    (l29 : K.lookup f29 = some ⟨oc29, od29, .func (PySem.W.fnOf "_law_string" "_law_string" (defArgs sLawString) (defBody sLawString) (defScope sLawString) .none kV29 dc29 pm29 an29 cd29 ct29), sl29⟩)
    (c29 : PySem.W.codeIn K cd29 "_law_string" = true)
    (k29 : PySem.W.keepIn K (.ref f29) = true)
    (a30 : PySem.W.nsIn K mainGlobals "_law_mark_bytes" = some (some (.ref f30)))
    (l30 : K.lookup f30 = some ⟨oc30, od30, .func (PySem.W.fnOf "_law_mark_bytes" "_law_mark_bytes" (defArgs sLawMarkBytes) (defBody sLawMarkBytes) (defScope sLawMarkBytes) .none kV30 dc30 pm30 an30 cd30 ct30), sl30⟩)
    (c30 : PySem.W.codeIn K cd30 "_law_mark_bytes" = true)
    (k30 : PySem.W.keepIn K (.ref f30) = true)
    (a31 : PySem.W.nsIn K mainGlobals "_law_deed_bytes" = some (some (.ref f31)))
    (l31 : K.lookup f31 = some ⟨oc31, od31, .func (PySem.W.fnOf "_law_deed_bytes" "_law_deed_bytes" (defArgs sLawDeedBytes) (defBody sLawDeedBytes) (defScope sLawDeedBytes) .none kV31 dc31 pm31 an31 cd31 ct31), sl31⟩)
    (c31 : PySem.W.codeIn K cd31 "_law_deed_bytes" = true)
    (k31 : PySem.W.keepIn K (.ref f31) = true)
    (a32 : PySem.W.nsIn K mainGlobals "_law_triples_bytes" = some (some (.ref f32)))
    (l32 : K.lookup f32 = some ⟨oc32, od32, .func (PySem.W.fnOf "_law_triples_bytes" "_law_triples_bytes" (defArgs sLawTriplesBytes) (defBody sLawTriplesBytes) (defScope sLawTriplesBytes) .none kV32 dc32 pm32 an32 cd32 ct32), sl32⟩)
    (c32 : PySem.W.codeIn K cd32 "_law_triples_bytes" = true)
    (k32 : PySem.W.keepIn K (.ref f32) = true)
    (a33 : PySem.W.nsIn K mainGlobals "_law_value_bytes" = some (some (.ref f33)))
    (l33 : K.lookup f33 = some ⟨oc33, od33, .func (PySem.W.fnOf "_law_value_bytes" "_law_value_bytes" (defArgs sLawValueBytes) (defBody sLawValueBytes) (defScope sLawValueBytes) .none kV33 dc33 pm33 an33 cd33 ct33), sl33⟩)
    (c33 : PySem.W.codeIn K cd33 "_law_value_bytes" = true)
    (k33 : PySem.W.keepIn K (.ref f33) = true)
    (a34 : PySem.W.nsIn K mainGlobals "_law_outcome_bytes" = some (some (.ref f34)))
    (l34 : K.lookup f34 = some ⟨oc34, od34, .func (PySem.W.fnOf "_law_outcome_bytes" "_law_outcome_bytes" (defArgs sLawOutcomeBytes) (defBody sLawOutcomeBytes) (defScope sLawOutcomeBytes) .none kV34 dc34 pm34 an34 cd34 ct34), sl34⟩)
    (c34 : PySem.W.codeIn K cd34 "_law_outcome_bytes" = true)
    (k34 : PySem.W.keepIn K (.ref f34) = true)
    (a35 : PySem.W.nsIn K mainGlobals "_law_kind_bytes" = some (some (.ref f35)))
    (l35 : K.lookup f35 = some ⟨oc35, od35, .func (PySem.W.fnOf "_law_kind_bytes" "_law_kind_bytes" (defArgs sLawKindBytes) (defBody sLawKindBytes) (defScope sLawKindBytes) .none kV35 dc35 pm35 an35 cd35 ct35), sl35⟩)
    (c35 : PySem.W.codeIn K cd35 "_law_kind_bytes" = true)
    (k35 : PySem.W.keepIn K (.ref f35) = true)
    (a36 : PySem.W.nsIn K mainGlobals "_law_cell_bytes" = some (some (.ref f36)))
    (l36 : K.lookup f36 = some ⟨oc36, od36, .func (PySem.W.fnOf "_law_cell_bytes" "_law_cell_bytes" (defArgs sLawCellBytes) (defBody sLawCellBytes) (defScope sLawCellBytes) .none kV36 dc36 pm36 an36 cd36 ct36), sl36⟩)
    (c36 : PySem.W.codeIn K cd36 "_law_cell_bytes" = true)
    (k36 : PySem.W.keepIn K (.ref f36) = true)
    (a37 : PySem.W.nsIn K mainGlobals "_law_group_bytes" = some (some (.ref f37)))
    (l37 : K.lookup f37 = some ⟨oc37, od37, .func (PySem.W.fnOf "_law_group_bytes" "_law_group_bytes" (defArgs sLawGroupBytes) (defBody sLawGroupBytes) (defScope sLawGroupBytes) .none kV37 dc37 pm37 an37 cd37 ct37), sl37⟩)
    (c37 : PySem.W.codeIn K cd37 "_law_group_bytes" = true)
    (k37 : PySem.W.keepIn K (.ref f37) = true)
    (a38 : PySem.W.nsIn K mainGlobals "_law_word" = some (some (.ref f38)))
    (l38 : K.lookup f38 = some ⟨oc38, od38, .func (PySem.W.fnOf "_law_word" "_law_word" (defArgs sLawWord) (defBody sLawWord) (defScope sLawWord) .none kV38 dc38 pm38 an38 cd38 ct38), sl38⟩)
    (c38 : PySem.W.codeIn K cd38 "_law_word" = true)
    (k38 : PySem.W.keepIn K (.ref f38) = true)
    (a39 : PySem.W.nsIn K mainGlobals "_law_text_of" = some (some (.ref f39)))
    (l39 : K.lookup f39 = some ⟨oc39, od39, .func (PySem.W.fnOf "_law_text_of" "_law_text_of" (defArgs sLawTextOf) (defBody sLawTextOf) (defScope sLawTextOf) .none kV39 dc39 pm39 an39 cd39 ct39), sl39⟩)
    (c39 : PySem.W.codeIn K cd39 "_law_text_of" = true)
    (k39 : PySem.W.keepIn K (.ref f39) = true)
    (a40 : PySem.W.nsIn K mainGlobals "_law_big" = some (some (.ref f40)))
    (l40 : K.lookup f40 = some ⟨oc40, od40, .func (PySem.W.fnOf "_law_big" "_law_big" (defArgs sLawBig) (defBody sLawBig) (defScope sLawBig) .none kV40 dc40 pm40 an40 cd40 ct40), sl40⟩)
    (c40 : PySem.W.codeIn K cd40 "_law_big" = true)
    (k40 : PySem.W.keepIn K (.ref f40) = true)
    (a41 : PySem.W.nsIn K mainGlobals "_law_value" = some (some (.ref f41)))
    (l41 : K.lookup f41 = some ⟨oc41, od41, .func (PySem.W.fnOf "_law_value" "_law_value" (defArgs sLawValue) (defBody sLawValue) (defScope sLawValue) .none kV41 dc41 pm41 an41 cd41 ct41), sl41⟩)
    (c41 : PySem.W.codeIn K cd41 "_law_value" = true)
    (k41 : PySem.W.keepIn K (.ref f41) = true)
    (a42 : PySem.W.nsIn K mainGlobals "_law_outcome" = some (some (.ref f42)))
    (l42 : K.lookup f42 = some ⟨oc42, od42, .func (PySem.W.fnOf "_law_outcome" "_law_outcome" (defArgs sLawOutcome) (defBody sLawOutcome) (defScope sLawOutcome) .none kV42 dc42 pm42 an42 cd42 ct42), sl42⟩)
    (c42 : PySem.W.codeIn K cd42 "_law_outcome" = true)
    (k42 : PySem.W.keepIn K (.ref f42) = true)
    (a43 : PySem.W.nsIn K mainGlobals "_law_shape_kind" = some (some (.ref f43)))
    (l43 : K.lookup f43 = some ⟨oc43, od43, .func (PySem.W.fnOf "_law_shape_kind" "_law_shape_kind" (defArgs sLawShapeKind) (defBody sLawShapeKind) (defScope sLawShapeKind) .none kV43 dc43 pm43 an43 cd43 ct43), sl43⟩)
    (c43 : PySem.W.codeIn K cd43 "_law_shape_kind" = true)
    (k43 : PySem.W.keepIn K (.ref f43) = true)
    (a44 : PySem.W.nsIn K mainGlobals "_law_cell" = some (some (.ref f44)))
    (l44 : K.lookup f44 = some ⟨oc44, od44, .func (PySem.W.fnOf "_law_cell" "_law_cell" (defArgs sLawCell) (defBody sLawCell) (defScope sLawCell) .none kV44 dc44 pm44 an44 cd44 ct44), sl44⟩)
    (c44 : PySem.W.codeIn K cd44 "_law_cell" = true)
    (k44 : PySem.W.keepIn K (.ref f44) = true)
    (a45 : PySem.W.nsIn K mainGlobals "_law_any_deed" = some (some (.ref f45)))
    (l45 : K.lookup f45 = some ⟨oc45, od45, .func (PySem.W.fnOf "_law_any_deed" "_law_any_deed" (defArgs sLawAnyDeed) (defBody sLawAnyDeed) (defScope sLawAnyDeed) .none kV45 dc45 pm45 an45 cd45 ct45), sl45⟩)
    (c45 : PySem.W.codeIn K cd45 "_law_any_deed" = true)
    (k45 : PySem.W.keepIn K (.ref f45) = true)
    (a46 : PySem.W.nsIn K mainGlobals "_law_read" = some (some (.ref f46)))
    (l46 : K.lookup f46 = some ⟨oc46, od46, .func (PySem.W.fnOf "_law_read" "_law_read" (defArgs sLawRead) (defBody sLawRead) (defScope sLawRead) .none kV46 dc46 pm46 an46 cd46 ct46), sl46⟩)
    (c46 : PySem.W.codeIn K cd46 "_law_read" = true)
    (k46 : PySem.W.keepIn K (.ref f46) = true)
    (a47 : PySem.W.nsIn K mainGlobals "_law_asks" = some (some (.ref f47)))
    (l47 : K.lookup f47 = some ⟨oc47, od47, .func (PySem.W.fnOf "_law_asks" "_law_asks" (defArgs sLawAsks) (defBody sLawAsks) (defScope sLawAsks) .none kV47 dc47 pm47 an47 cd47 ct47), sl47⟩)
    (c47 : PySem.W.codeIn K cd47 "_law_asks" = true)
    (k47 : PySem.W.keepIn K (.ref f47) = true)
    (a48 : PySem.W.nsIn K mainGlobals "law" = some (some (.ref f48)))
    (l48 : K.lookup f48 = some ⟨oc48, od48, .func (PySem.W.fnOf "law" "law" (defArgs sLaw) (defBody sLaw) (defScope sLaw) .none kV48 dc48 pm48 an48 cd48 ct48), sl48⟩)
    (c48 : PySem.W.codeIn K cd48 "law" = true)
    (k48 : PySem.W.keepIn K (.ref f48) = true)
    (caReader : PySem.W.nsIn K mainGlobals "Reader" = some (some (.ref cReader)))
    (ma1 : PySem.W.findIn K (.ref cReader) "__init__" = some (some (.ref g1)))
    (mi1 : PySem.W.isFn K (.ref g1) = true)
    (ml1 : K.lookup g1 = some ⟨Oc1, Od1, .func (PySem.W.fnOf "__init__" "Reader.__init__" (defArgs sReaderInit) (defBody sReaderInit) (defScope sReaderInit) .none KV1 Dc1 Pm1 An1 Cd1 Ct1), Sl1⟩)
    (mc1 : PySem.W.codeIn K Cd1 "Reader.__init__" = true)
    (mk1 : PySem.W.keepIn K (.ref g1) = true)
    (ma2 : PySem.W.findIn K (.ref cReader) "end" = some (some (.ref g2)))
    (mi2 : PySem.W.isFn K (.ref g2) = true)
    (ml2 : K.lookup g2 = some ⟨Oc2, Od2, .func (PySem.W.fnOf "end" "Reader.end" (defArgs sReaderEnd) (defBody sReaderEnd) (defScope sReaderEnd) .none KV2 Dc2 Pm2 An2 Cd2 Ct2), Sl2⟩)
    (mc2 : PySem.W.codeIn K Cd2 "Reader.end" = true)
    (mk2 : PySem.W.keepIn K (.ref g2) = true)
    (ma3 : PySem.W.findIn K (.ref cReader) "read_byte" = some (some (.ref g3)))
    (mi3 : PySem.W.isFn K (.ref g3) = true)
    (ml3 : K.lookup g3 = some ⟨Oc3, Od3, .func (PySem.W.fnOf "read_byte" "Reader.read_byte" (defArgs sReaderReadByte) (defBody sReaderReadByte) (defScope sReaderReadByte) (.ref dT3) KV3 Dc3 Pm3 An3 Cd3 Ct3), Sl3⟩)
    (mt3 : K.lookup dT3 = some ⟨.type "tuple", dTo3, .seq (List.toArray [.int 255 dTt3_0]) dTn3, dTs3⟩)
    (mc3 : PySem.W.codeIn K Cd3 "Reader.read_byte" = true)
    (mk3 : PySem.W.keepIn K (.ref g3) = true)
    (ma4 : PySem.W.findIn K (.ref cReader) "read_bytes" = some (some (.ref g4)))
    (mi4 : PySem.W.isFn K (.ref g4) = true)
    (ml4 : K.lookup g4 = some ⟨Oc4, Od4, .func (PySem.W.fnOf "read_bytes" "Reader.read_bytes" (defArgs sReaderReadBytes) (defBody sReaderReadBytes) (defScope sReaderReadBytes) .none KV4 Dc4 Pm4 An4 Cd4 Ct4), Sl4⟩)
    (mc4 : PySem.W.codeIn K Cd4 "Reader.read_bytes" = true)
    (mk4 : PySem.W.keepIn K (.ref g4) = true)
    (ma5 : PySem.W.findIn K (.ref cReader) "expect" = some (some (.ref g5)))
    (mi5 : PySem.W.isFn K (.ref g5) = true)
    (ml5 : K.lookup g5 = some ⟨Oc5, Od5, .func (PySem.W.fnOf "expect" "Reader.expect" (defArgs sReaderExpect) (defBody sReaderExpect) (defScope sReaderExpect) .none KV5 Dc5 Pm5 An5 Cd5 Ct5), Sl5⟩)
    (mc5 : PySem.W.codeIn K Cd5 "Reader.expect" = true)
    (mk5 : PySem.W.keepIn K (.ref g5) = true)
    (ma6 : PySem.W.findIn K (.ref cReader) "read_number" = some (some (.ref g6)))
    (mi6 : PySem.W.isFn K (.ref g6) = true)
    (ml6 : K.lookup g6 = some ⟨Oc6, Od6, .func (PySem.W.fnOf "read_number" "Reader.read_number" (defArgs sReaderReadNumber) (defBody sReaderReadNumber) (defScope sReaderReadNumber) .none KV6 Dc6 Pm6 An6 Cd6 Ct6), Sl6⟩)
    (mc6 : PySem.W.codeIn K Cd6 "Reader.read_number" = true)
    (mk6 : PySem.W.keepIn K (.ref g6) = true)
    (ma7 : PySem.W.findIn K (.ref cReader) "read_count" = some (some (.ref g7)))
    (mi7 : PySem.W.isFn K (.ref g7) = true)
    (ml7 : K.lookup g7 = some ⟨Oc7, Od7, .func (PySem.W.fnOf "read_count" "Reader.read_count" (defArgs sReaderReadCount) (defBody sReaderReadCount) (defScope sReaderReadCount) .none KV7 Dc7 Pm7 An7 Cd7 Ct7), Sl7⟩)
    (mc7 : PySem.W.codeIn K Cd7 "Reader.read_count" = true)
    (mk7 : PySem.W.keepIn K (.ref g7) = true)
    (ma8 : PySem.W.findIn K (.ref cReader) "read_integer" = some (some (.ref g8)))
    (mi8 : PySem.W.isFn K (.ref g8) = true)
    (ml8 : K.lookup g8 = some ⟨Oc8, Od8, .func (PySem.W.fnOf "read_integer" "Reader.read_integer" (defArgs sReaderReadInteger) (defBody sReaderReadInteger) (defScope sReaderReadInteger) .none KV8 Dc8 Pm8 An8 Cd8 Ct8), Sl8⟩)
    (mc8 : PySem.W.codeIn K Cd8 "Reader.read_integer" = true)
    (mk8 : PySem.W.keepIn K (.ref g8) = true)
    (ma9 : PySem.W.findIn K (.ref cReader) "read_string" = some (some (.ref g9)))
    (mi9 : PySem.W.isFn K (.ref g9) = true)
    (ml9 : K.lookup g9 = some ⟨Oc9, Od9, .func (PySem.W.fnOf "read_string" "Reader.read_string" (defArgs sReaderReadString) (defBody sReaderReadString) (defScope sReaderReadString) .none KV9 Dc9 Pm9 An9 Cd9 Ct9), Sl9⟩)
    (mc9 : PySem.W.codeIn K Cd9 "Reader.read_string" = true)
    (mk9 : PySem.W.keepIn K (.ref g9) = true)
    (ma10 : PySem.W.findIn K (.ref cReader) "read_mark" = some (some (.ref g10)))
    (mi10 : PySem.W.isFn K (.ref g10) = true)
    (ml10 : K.lookup g10 = some ⟨Oc10, Od10, .func (PySem.W.fnOf "read_mark" "Reader.read_mark" (defArgs sReaderReadMark) (defBody sReaderReadMark) (defScope sReaderReadMark) .none KV10 Dc10 Pm10 An10 Cd10 Ct10), Sl10⟩)
    (mc10 : PySem.W.codeIn K Cd10 "Reader.read_mark" = true)
    (mk10 : PySem.W.keepIn K (.ref g10) = true)
    (ma11 : PySem.W.findIn K (.ref cReader) "read_deed" = some (some (.ref g11)))
    (mi11 : PySem.W.isFn K (.ref g11) = true)
    (ml11 : K.lookup g11 = some ⟨Oc11, Od11, .func (PySem.W.fnOf "read_deed" "Reader.read_deed" (defArgs sReaderReadDeed) (defBody sReaderReadDeed) (defScope sReaderReadDeed) .none KV11 Dc11 Pm11 An11 Cd11 Ct11), Sl11⟩)
    (mc11 : PySem.W.codeIn K Cd11 "Reader.read_deed" = true)
    (mk11 : PySem.W.keepIn K (.ref g11) = true)
    (ma12 : PySem.W.findIn K (.ref cReader) "read_triples" = some (some (.ref g12)))
    (mi12 : PySem.W.isFn K (.ref g12) = true)
    (ml12 : K.lookup g12 = some ⟨Oc12, Od12, .func (PySem.W.fnOf "read_triples" "Reader.read_triples" (defArgs sReaderReadTriples) (defBody sReaderReadTriples) (defScope sReaderReadTriples) .none KV12 Dc12 Pm12 An12 Cd12 Ct12), Sl12⟩)
    (mc12 : PySem.W.codeIn K Cd12 "Reader.read_triples" = true)
    (mk12 : PySem.W.keepIn K (.ref g12) = true)
    (ma13 : PySem.W.findIn K (.ref cReader) "read_packet" = some (some (.ref g13)))
    (mi13 : PySem.W.isFn K (.ref g13) = true)
    (ml13 : K.lookup g13 = some ⟨Oc13, Od13, .func (PySem.W.fnOf "read_packet" "Reader.read_packet" (defArgs sReaderReadPacket) (defBody sReaderReadPacket) (defScope sReaderReadPacket) .none KV13 Dc13 Pm13 An13 Cd13 Ct13), Sl13⟩)
    (mc13 : PySem.W.codeIn K Cd13 "Reader.read_packet" = true)
    (mk13 : PySem.W.keepIn K (.ref g13) = true)
    (ma14 : PySem.W.findIn K (.ref cReader) "read_value" = some (some (.ref g14)))
    (mi14 : PySem.W.isFn K (.ref g14) = true)
    (ml14 : K.lookup g14 = some ⟨Oc14, Od14, .func (PySem.W.fnOf "read_value" "Reader.read_value" (defArgs sReaderReadValue) (defBody sReaderReadValue) (defScope sReaderReadValue) .none KV14 Dc14 Pm14 An14 Cd14 Ct14), Sl14⟩)
    (mc14 : PySem.W.codeIn K Cd14 "Reader.read_value" = true)
    (mk14 : PySem.W.keepIn K (.ref g14) = true)
    (ma15 : PySem.W.findIn K (.ref cReader) "_read_value" = some (some (.ref g15)))
    (mi15 : PySem.W.isFn K (.ref g15) = true)
    (ml15 : K.lookup g15 = some ⟨Oc15, Od15, .func (PySem.W.fnOf "_read_value" "Reader._read_value" (defArgs sReaderReadValueU) (defBody sReaderReadValueU) (defScope sReaderReadValueU) .none KV15 Dc15 Pm15 An15 Cd15 Ct15), Sl15⟩)
    (mc15 : PySem.W.codeIn K Cd15 "Reader._read_value" = true)
    (mk15 : PySem.W.keepIn K (.ref g15) = true)
    (ma16 : PySem.W.findIn K (.ref cReader) "_read_values" = some (some (.ref g16)))
    (mi16 : PySem.W.isFn K (.ref g16) = true)
    (ml16 : K.lookup g16 = some ⟨Oc16, Od16, .func (PySem.W.fnOf "_read_values" "Reader._read_values" (defArgs sReaderReadValues) (defBody sReaderReadValues) (defScope sReaderReadValues) .none KV16 Dc16 Pm16 An16 Cd16 Ct16), Sl16⟩)
    (mc16 : PySem.W.codeIn K Cd16 "Reader._read_values" = true)
    (mk16 : PySem.W.keepIn K (.ref g16) = true)
    (ma17 : PySem.W.findIn K (.ref cReader) "read_outcome" = some (some (.ref g17)))
    (mi17 : PySem.W.isFn K (.ref g17) = true)
    (ml17 : K.lookup g17 = some ⟨Oc17, Od17, .func (PySem.W.fnOf "read_outcome" "Reader.read_outcome" (defArgs sReaderReadOutcome) (defBody sReaderReadOutcome) (defScope sReaderReadOutcome) .none KV17 Dc17 Pm17 An17 Cd17 Ct17), Sl17⟩)
    (mc17 : PySem.W.codeIn K Cd17 "Reader.read_outcome" = true)
    (mk17 : PySem.W.keepIn K (.ref g17) = true)
    (ma18 : PySem.W.findIn K (.ref cReader) "read_kind" = some (some (.ref g18)))
    (mi18 : PySem.W.isFn K (.ref g18) = true)
    (ml18 : K.lookup g18 = some ⟨Oc18, Od18, .func (PySem.W.fnOf "read_kind" "Reader.read_kind" (defArgs sReaderReadKind) (defBody sReaderReadKind) (defScope sReaderReadKind) .none KV18 Dc18 Pm18 An18 Cd18 Ct18), Sl18⟩)
    (mc18 : PySem.W.codeIn K Cd18 "Reader.read_kind" = true)
    (mk18 : PySem.W.keepIn K (.ref g18) = true)
    (ma19 : PySem.W.findIn K (.ref cReader) "read_maker" = some (some (.ref g19)))
    (mi19 : PySem.W.isFn K (.ref g19) = true)
    (ml19 : K.lookup g19 = some ⟨Oc19, Od19, .func (PySem.W.fnOf "read_maker" "Reader.read_maker" (defArgs sReaderReadMaker) (defBody sReaderReadMaker) (defScope sReaderReadMaker) .none KV19 Dc19 Pm19 An19 Cd19 Ct19), Sl19⟩)
    (mc19 : PySem.W.codeIn K Cd19 "Reader.read_maker" = true)
    (mk19 : PySem.W.keepIn K (.ref g19) = true)
    (ma20 : PySem.W.findIn K (.ref cReader) "read_data" = some (some (.ref g20)))
    (mi20 : PySem.W.isFn K (.ref g20) = true)
    (ml20 : K.lookup g20 = some ⟨Oc20, Od20, .func (PySem.W.fnOf "read_data" "Reader.read_data" (defArgs sReaderReadData) (defBody sReaderReadData) (defScope sReaderReadData) .none KV20 Dc20 Pm20 An20 Cd20 Ct20), Sl20⟩)
    (mc20 : PySem.W.codeIn K Cd20 "Reader.read_data" = true)
    (mk20 : PySem.W.keepIn K (.ref g20) = true)
    (ma21 : PySem.W.findIn K (.ref cReader) "read_shape" = some (some (.ref g21)))
    (mi21 : PySem.W.isFn K (.ref g21) = true)
    (ml21 : K.lookup g21 = some ⟨Oc21, Od21, .func (PySem.W.fnOf "read_shape" "Reader.read_shape" (defArgs sReaderReadShape) (defBody sReaderReadShape) (defScope sReaderReadShape) .none KV21 Dc21 Pm21 An21 Cd21 Ct21), Sl21⟩)
    (mc21 : PySem.W.codeIn K Cd21 "Reader.read_shape" = true)
    (mk21 : PySem.W.keepIn K (.ref g21) = true)
    (ma22 : PySem.W.findIn K (.ref cReader) "read_cell" = some (some (.ref g22)))
    (mi22 : PySem.W.isFn K (.ref g22) = true)
    (ml22 : K.lookup g22 = some ⟨Oc22, Od22, .func (PySem.W.fnOf "read_cell" "Reader.read_cell" (defArgs sReaderReadCell) (defBody sReaderReadCell) (defScope sReaderReadCell) .none KV22 Dc22 Pm22 An22 Cd22 Ct22), Sl22⟩)
    (mc22 : PySem.W.codeIn K Cd22 "Reader.read_cell" = true)
    (mk22 : PySem.W.keepIn K (.ref g22) = true)
    (ma23 : PySem.W.findIn K (.ref cReader) "read_cells" = some (some (.ref g23)))
    (mi23 : PySem.W.isFn K (.ref g23) = true)
    (ml23 : K.lookup g23 = some ⟨Oc23, Od23, .func (PySem.W.fnOf "read_cells" "Reader.read_cells" (defArgs sReaderReadCells) (defBody sReaderReadCells) (defScope sReaderReadCells) .none KV23 Dc23 Pm23 An23 Cd23 Ct23), Sl23⟩)
    (mc23 : PySem.W.codeIn K Cd23 "Reader.read_cells" = true)
    (mk23 : PySem.W.keepIn K (.ref g23) = true)
    (ma24 : PySem.W.findIn K (.ref cReader) "read_group" = some (some (.ref g24)))
    (mi24 : PySem.W.isFn K (.ref g24) = true)
    (ml24 : K.lookup g24 = some ⟨Oc24, Od24, .func (PySem.W.fnOf "read_group" "Reader.read_group" (defArgs sReaderReadGroup) (defBody sReaderReadGroup) (defScope sReaderReadGroup) .none KV24 Dc24 Pm24 An24 Cd24 Ct24), Sl24⟩)
    (mc24 : PySem.W.codeIn K Cd24 "Reader.read_group" = true)
    (mk24 : PySem.W.keepIn K (.ref g24) = true)
    (cpgReader : PySem.W.plainGet K cReader Str.empty = true)
    (chdReader : PySem.W.hasDictIn K cReader = true)
    (cpoReader : PySem.W.plainOver K cReader = true)
    (csaReader : PySem.W.findIn K (.ref cReader) "__setattr__" = some (some (.builtin "object.__setattr__")))
    (cmkReader : PySem.W.makesIn K cReader = true)
    (ckcReader : PySem.W.keepIn K (.ref cReader) = true)
    (cnReader_0 : PySem.W.findIn K (.ref cReader) "at" = some none)
    (cnReader_1 : PySem.W.findIn K (.ref cReader) "_data" = some none)
    (cnReader_2 : PySem.W.findIn K (.ref cReader) "_characters" = some none)
    (eaQuillrunError : PySem.W.nsIn K mainGlobals "QuillrunError" = some (some (.ref eQuillrunError)))
    (exQuillrunError : PySem.W.excIn K eQuillrunError [.type "ValueError", .type "Exception", .type "BaseException", .type "object"] "ValueError.__new__" = true)
    (ekQuillrunError : PySem.W.keepIn K (.ref eQuillrunError) = true)
    (ebQuillrunError : PySem.W.subIn K (.ref eQuillrunError) (.type "BaseException") = some true)
    (etQuillrunError : PySem.W.typeIn K (.ref eQuillrunError) = some (.type "type"))
    (eiQuillrunError : PySem.W.isClsIn K eQuillrunError = true)
    (esQuillrunError : PySem.W.subIn K (.ref eQuillrunError) (.ref eQuillrunError) = some true)
    (eaDamagedPacket : PySem.W.nsIn K mainGlobals "DamagedPacket" = some (some (.ref eDamagedPacket)))
    (exDamagedPacket : PySem.W.excIn K eDamagedPacket [.type "ValueError", .type "Exception", .type "BaseException", .type "object"] "ValueError.__new__" = true)
    (ekDamagedPacket : PySem.W.keepIn K (.ref eDamagedPacket) = true)
    (ebDamagedPacket : PySem.W.subIn K (.ref eDamagedPacket) (.type "BaseException") = some true)
    (etDamagedPacket : PySem.W.typeIn K (.ref eDamagedPacket) = some (.type "type"))
    (eiDamagedPacket : PySem.W.isClsIn K eDamagedPacket = true)
    (esDamagedPacket : PySem.W.subIn K (.ref eDamagedPacket) (.ref eDamagedPacket) = some true)
    (z_ValueError : PySem.W.nsIn K mainGlobals "ValueError" = some none)
    (z_abs : PySem.W.nsIn K mainGlobals "abs" = some none)
    (z_any : PySem.W.nsIn K mainGlobals "any" = some none)
    (z_bool : PySem.W.nsIn K mainGlobals "bool" = some none)
    (z_int : PySem.W.nsIn K mainGlobals "int" = some none)
    (z_isinstance : PySem.W.nsIn K mainGlobals "isinstance" = some none)
    (z_len : PySem.W.nsIn K mainGlobals "len" = some none)
    (z_list : PySem.W.nsIn K mainGlobals "list" = some none)
    (z_min : PySem.W.nsIn K mainGlobals "min" = some none)
    (z_ord : PySem.W.nsIn K mainGlobals "ord" = some none)
    (z_range : PySem.W.nsIn K mainGlobals "range" = some none)
    (z_str : PySem.W.nsIn K mainGlobals "str" = some none)
    (z_tuple : PySem.W.nsIn K mainGlobals "tuple" = some none)
    (g_MOST_DEPTH : PySem.W.nsIn K mainGlobals "MOST_DEPTH" = some (some (.int 40 tMOST_DEPTH)))
    (g_PACKET : PySem.W.nsIn K mainGlobals "PACKET" = some (some (.int 1 tPACKET)))
    (g_LONGEST_NUMBER : PySem.W.nsIn K mainGlobals "LONGEST_NUMBER" = some (some (.int 60 tLONGEST_NUMBER)))
    (g_CHARACTERS : PySem.W.nsIn K mainGlobals "CHARACTERS" = some (some (.str "\n !\"#$&'()*+,-./0123456789:;<=>?@ABCDEFGHIJKLMNOPQRSTUVWXYZ[\\]^_`abcdefghijklmnopqrstuvwxyz{|}~" tCHARACTERS)))
    (p_gBASES : PySem.W.nsIn K mainGlobals "BASES" = some (some (.ref aBASES)))
    (x_BASES : K.lookup aBASES = some ⟨.type "tuple", odBASES, .seq (List.toArray [.str "num" tkBASES0, .str "text" tkBASES1, .str "bool" tkBASES2]) nBASES, slBASES⟩)
    (p_gFAULTS : PySem.W.nsIn K mainGlobals "FAULTS" = some (some (.ref aFAULTS)))
    (x_FAULTS : K.lookup aFAULTS = some ⟨.type "tuple", odFAULTS, .seq (List.toArray [.str "division" tkFAULTS0, .str "deep" tkFAULTS1, .str "large" tkFAULTS2, .str "missing" tkFAULTS3, .str "stuck" tkFAULTS4, .str "long" tkFAULTS5]) nFAULTS, slFAULTS⟩)
    (y_BASES : odBASES = none)
    (y_FAULTS : odFAULTS = none)
    (xo_hg : PySem.W.findIn K (.ref eDamagedPacket) "__getattribute__" = some (some (.builtin "BaseException.__getattribute__")))
    (xo_hk : PySem.W.findIn K (.ref eDamagedPacket) "__getattr__" = some none)
    (xo_hd : PySem.W.hasDictIn K eDamagedPacket = true)
    (xo_ha : PySem.W.findIn K (.ref eDamagedPacket) "__class__" = some (some (.builtin "object.__class__")))
    (xo_hn : PySem.W.specialIn K (.builtin "object.__class__") "__get__" = some (some (.builtin "getset_descriptor.__get__")))
    (xo_ht : PySem.W.takesIn K (.builtin "object.__class__") = some true)
    (xo_hm : PySem.W.mroIn K eDamagedPacket (.type "object") = some true)
    (kt_oo : PySem.W.kitOne K (.ref eDamagedPacket) (.ref eDamagedPacket) = some true)
    (kt_ov : PySem.W.kitOne K (.ref eDamagedPacket) (.type "ValueError") = some true)
    (xs_oq : PySem.W.subIn K (.ref eDamagedPacket) (.ref eQuillrunError) = some true)
    : ∃ fd : FuncData, (∀ (s : Shared) (v : Value), BindsTo s fd ⟨[v], []⟩ [("script", v)]) ∧ ∀ base : Heap, K.In base → base.Ns mainGlobals mg → FnOk l.prog w K mg base CX0 99 fa fd ["script"] (spLaw K) := by
  have e := hfa.symm.trans (PySem.W.mg_of X G a48)
  cases e
  have F1 := fun_mk (st := sForm) l1 c1 k1
  have b1 := F1.binds (ps := ["value"]) fun _ _ _ _ _ _ us hl => match us, hl with | [_], _ => rfl
  have F2 := fun_mk (st := sWriteNumber) l2 c2 k2
  have b2 := F2.binds (ps := ["number"]) fun _ _ _ _ _ _ us hl => match us, hl with | [_], _ => rfl
  have F3 := fun_mk (st := sWriteInteger) l3 c3 k3
  have b3 := F3.binds (ps := ["number"]) fun _ _ _ _ _ _ us hl => match us, hl with | [_], _ => rfl
  have F4 := fun_mk (st := sWriteString) l4 c4 k4
  have b4 := F4.binds (ps := ["text"]) fun _ _ _ _ _ _ us hl => match us, hl with | [_], _ => rfl
  have F5 := fun_mk (st := sWriteList) l5 c5 k5
  have b5 := F5.binds (ps := ["items"]) fun _ _ _ _ _ _ us hl => match us, hl with | [_], _ => rfl
  have F6 := fun_mk (st := sWriteMark) l6 c6 k6
  have b6 := F6.binds (ps := ["mark"]) fun _ _ _ _ _ _ us hl => match us, hl with | [_], _ => rfl
  have F7 := fun_mk (st := sWriteDeed) l7 c7 k7
  have b7 := F7.binds (ps := ["deed"]) fun _ _ _ _ _ _ us hl => match us, hl with | [_], _ => rfl
  have F8 := fun_mk (st := sWriteTriple) l8 c8 k8
  have b8 := F8.binds (ps := ["triple"]) fun _ _ _ _ _ _ us hl => match us, hl with | [_], _ => rfl
  have F9 := fun_mk (st := sWritePacket) l9 c9 k9
  have b9 := F9.binds (ps := ["packet"]) fun _ _ _ _ _ _ us hl => match us, hl with | [_], _ => rfl
  have F10 := fun_mk (st := sWriteKind) l10 c10 k10
  have b10 := F10.binds (ps := ["kind"]) fun _ _ _ _ _ _ us hl => match us, hl with | [_], _ => rfl
  have F11 := fun_mk (st := sWriteValue) l11 c11 k11
  have b11 := F11.binds (ps := ["value"]) fun _ _ _ _ _ _ us hl => match us, hl with | [_], _ => rfl
  have F12 := fun_mk (st := sWriteValues) l12 c12 k12
  have b12 := F12.binds (ps := ["values"]) fun _ _ _ _ _ _ us hl => match us, hl with | [_], _ => rfl
  have F13 := fun_mk (st := sWriteFault) l13 c13 k13
  have b13 := F13.binds (ps := ["fault"]) fun _ _ _ _ _ _ us hl => match us, hl with | [_], _ => rfl
  have F14 := fun_mk (st := sWriteOutcome) l14 c14 k14
  have b14 := F14.binds (ps := ["outcome"]) fun _ _ _ _ _ _ us hl => match us, hl with | [_], _ => rfl
  have F15 := fun_mk (st := sWriteMaker) l15 c15 k15
  have b15 := F15.binds (ps := ["maker"]) fun _ _ _ _ _ _ us hl => match us, hl with | [_], _ => rfl
  have F16 := fun_mk (st := sWriteData) l16 c16 k16
  have b16 := F16.binds (ps := ["data"]) fun _ _ _ _ _ _ us hl => match us, hl with | [_], _ => rfl
  have F17 := fun_mk (st := sWriteShape) l17 c17 k17
  have b17 := F17.binds (ps := ["shape"]) fun _ _ _ _ _ _ us hl => match us, hl with | [_], _ => rfl
  have F18 := fun_mk (st := sWriteCell) l18 c18 k18
  have b18 := F18.binds (ps := ["name", "shape", "outcome"]) fun _ _ _ _ _ _ us hl => match us, hl with | [_, _, _], _ => rfl
  have F19 := fun_mk (st := sWriteCells) l19 c19 k19
  have b19 := F19.binds (ps := ["cells"]) fun _ _ _ _ _ _ us hl => match us, hl with | [_], _ => rfl
  have F20 := fun_mk (st := sWriteGroup) l20 c20 k20
  have b20 := F20.binds (ps := ["triples", "cells"]) fun _ _ _ _ _ _ us hl => match us, hl with | [_, _], _ => rfl
  have F21 := fun_mk (st := sLawMix) l21 c21 k21
  have b21 := F21.binds (ps := ["cell", "k"]) fun _ _ _ _ _ _ us hl => match us, hl with | [_, _], _ => rfl
  have F22 := fun_mk (st := sLawDraws) l22 c22 k22
  have b22 := F22.binds (ps := ["script"]) fun _ _ _ _ _ _ us hl => match us, hl with | [_], _ => rfl
  have F23 := fun_mk (st := sLawAt) l23 c23 k23
  have b23 := F23.binds (ps := ["draws", "index"]) fun _ _ _ _ _ _ us hl => match us, hl with | [_, _], _ => rfl
  have F24 := fun_mk (st := sLawIsInteger) l24 c24 k24
  have b24 := F24.binds (ps := ["actual"]) fun _ _ _ _ _ _ us hl => match us, hl with | [_], _ => rfl
  have F25 := fun_mk (st := sLawSame) l25 c25 k25
  have b25 := F25.binds (ps := ["actual", "expected"]) fun _ _ _ _ _ _ us hl => match us, hl with | [_, _], _ => rfl
  have F26 := fun_mk (st := sLawNext) l26 c26 k26
  have b26 := F26.binds (ps := ["state", "limit"]) fun _ _ _ _ _ _ us hl => match us, hl with | [_, _], _ => rfl
  have F27 := fun_mk (st := sLawNumber) l27 c27 k27
  have b27 := F27.binds (ps := ["number"]) fun _ _ _ _ _ _ us hl => match us, hl with | [_], _ => rfl
  have F28 := fun_mk (st := sLawListed) l28 c28 k28
  have b28 := F28.binds (ps := ["parts"]) fun _ _ _ _ _ _ us hl => match us, hl with | [_], _ => rfl
  have F29 := fun_mk (st := sLawString) l29 c29 k29
  have b29 := F29.binds (ps := ["text"]) fun _ _ _ _ _ _ us hl => match us, hl with | [_], _ => rfl
  have F30 := fun_mk (st := sLawMarkBytes) l30 c30 k30
  have b30 := F30.binds (ps := ["mark"]) fun _ _ _ _ _ _ us hl => match us, hl with | [_], _ => rfl
  have F31 := fun_mk (st := sLawDeedBytes) l31 c31 k31
  have b31 := F31.binds (ps := ["deed"]) fun _ _ _ _ _ _ us hl => match us, hl with | [_], _ => rfl
  have F32 := fun_mk (st := sLawTriplesBytes) l32 c32 k32
  have b32 := F32.binds (ps := ["triples"]) fun _ _ _ _ _ _ us hl => match us, hl with | [_], _ => rfl
  have F33 := fun_mk (st := sLawValueBytes) l33 c33 k33
  have b33 := F33.binds (ps := ["value"]) fun _ _ _ _ _ _ us hl => match us, hl with | [_], _ => rfl
  have F34 := fun_mk (st := sLawOutcomeBytes) l34 c34 k34
  have b34 := F34.binds (ps := ["outcome"]) fun _ _ _ _ _ _ us hl => match us, hl with | [_], _ => rfl
  have F35 := fun_mk (st := sLawKindBytes) l35 c35 k35
  have b35 := F35.binds (ps := ["kind"]) fun _ _ _ _ _ _ us hl => match us, hl with | [_], _ => rfl
  have F36 := fun_mk (st := sLawCellBytes) l36 c36 k36
  have b36 := F36.binds (ps := ["cell"]) fun _ _ _ _ _ _ us hl => match us, hl with | [_], _ => rfl
  have F37 := fun_mk (st := sLawGroupBytes) l37 c37 k37
  have b37 := F37.binds (ps := ["triples", "cells"]) fun _ _ _ _ _ _ us hl => match us, hl with | [_, _], _ => rfl
  have F38 := fun_mk (st := sLawWord) l38 c38 k38
  have b38 := F38.binds (ps := ["state"]) fun _ _ _ _ _ _ us hl => match us, hl with | [_], _ => rfl
  have F39 := fun_mk (st := sLawTextOf) l39 c39 k39
  have b39 := F39.binds (ps := ["state"]) fun _ _ _ _ _ _ us hl => match us, hl with | [_], _ => rfl
  have F40 := fun_mk (st := sLawBig) l40 c40 k40
  have b40 := F40.binds (ps := ["state"]) fun _ _ _ _ _ _ us hl => match us, hl with | [_], _ => rfl
  have F41 := fun_mk (st := sLawValue) l41 c41 k41
  have b41 := F41.binds (ps := ["state", "depth"]) fun _ _ _ _ _ _ us hl => match us, hl with | [_, _], _ => rfl
  have F42 := fun_mk (st := sLawOutcome) l42 c42 k42
  have b42 := F42.binds (ps := ["state"]) fun _ _ _ _ _ _ us hl => match us, hl with | [_], _ => rfl
  have F43 := fun_mk (st := sLawShapeKind) l43 c43 k43
  have b43 := F43.binds (ps := ["state"]) fun _ _ _ _ _ _ us hl => match us, hl with | [_], _ => rfl
  have F44 := fun_mk (st := sLawCell) l44 c44 k44
  have b44 := F44.binds (ps := ["state", "name"]) fun _ _ _ _ _ _ us hl => match us, hl with | [_, _], _ => rfl
  have F45 := fun_mk (st := sLawAnyDeed) l45 c45 k45
  have b45 := F45.binds (ps := ["state"]) fun _ _ _ _ _ _ us hl => match us, hl with | [_], _ => rfl
  have F46 := fun_mk (st := sLawRead) l46 c46 k46
  have b46 := F46.binds (ps := ["reader", "form_v"]) fun _ _ _ _ _ _ us hl => match us, hl with | [_, _], _ => rfl
  have F47 := fun_mk (st := sLawAsks) l47 c47 k47
  have b47 := F47.binds (ps := ["form_v", "thing", "told", "due", "tail"]) fun _ _ _ _ _ _ us hl => match us, hl with | [_, _, _, _, _], _ => rfl
  have F48 := fun_mk (st := sLaw) l48 c48 k48
  have b48 := F48.binds (ps := ["script"]) fun _ _ _ _ _ _ us hl => match us, hl with | [_], _ => rfl
  have E1 := fun_mk (st := sReaderInit) ml1 mc1 mk1
  have e1 := E1.binds (ps := ["self", "data"]) fun _ _ _ _ _ _ us hl => match us, hl with | [_, _], _ => rfl
  have E2 := fun_mk (st := sReaderEnd) ml2 mc2 mk2
  have e2 := E2.binds (ps := ["self"]) fun _ _ _ _ _ _ us hl => match us, hl with | [_], _ => rfl
  have E3 := (⟨⟨_, _, _, _, _, _, _, _, _, _, rfl, ml3, mc3, .inr ⟨by simp, _, _, _, _, rfl, mt3, rfl, (by repeat (first | exact .nil | refine .cons ⟨_, rfl⟩ ?_))⟩, .inl rfl⟩, mk3⟩ : FunD K "read_byte" "Reader.read_byte" (defArgs sReaderReadByte) (defBody sReaderReadByte) (defScope sReaderReadByte) [V.int 255] [] g3 _)
  have e3 := E3.binds1 (ps := ["self", "most"]) 1 0 (by simp) rfl fun _ _ _ _ _ _ _ us its hu hi => match us, its, hu, hi with | [_], [_], _, _ => ⟨_, rfl, rfl⟩
  have e3b := HX.bd_full (E3.binds1 (ps := ["self", "most"]) 2 1 (by simp) rfl fun _ _ _ _ _ _ _ us its hu hi => match us, its, hu, hi with | [_, _], [_], _, _ => ⟨_, rfl, rfl⟩)
  have E4 := fun_mk (st := sReaderReadBytes) ml4 mc4 mk4
  have e4 := E4.binds (ps := ["self", "count"]) fun _ _ _ _ _ _ us hl => match us, hl with | [_, _], _ => rfl
  have E5 := fun_mk (st := sReaderExpect) ml5 mc5 mk5
  have e5 := E5.binds (ps := ["self", "byte"]) fun _ _ _ _ _ _ us hl => match us, hl with | [_, _], _ => rfl
  have E6 := fun_mk (st := sReaderReadNumber) ml6 mc6 mk6
  have e6 := E6.binds (ps := ["self"]) fun _ _ _ _ _ _ us hl => match us, hl with | [_], _ => rfl
  have E7 := fun_mk (st := sReaderReadCount) ml7 mc7 mk7
  have e7 := E7.binds (ps := ["self"]) fun _ _ _ _ _ _ us hl => match us, hl with | [_], _ => rfl
  have E8 := fun_mk (st := sReaderReadInteger) ml8 mc8 mk8
  have e8 := E8.binds (ps := ["self"]) fun _ _ _ _ _ _ us hl => match us, hl with | [_], _ => rfl
  have E9 := fun_mk (st := sReaderReadString) ml9 mc9 mk9
  have e9 := E9.binds (ps := ["self"]) fun _ _ _ _ _ _ us hl => match us, hl with | [_], _ => rfl
  have E10 := fun_mk (st := sReaderReadMark) ml10 mc10 mk10
  have e10 := E10.binds (ps := ["self"]) fun _ _ _ _ _ _ us hl => match us, hl with | [_], _ => rfl
  have E11 := fun_mk (st := sReaderReadDeed) ml11 mc11 mk11
  have e11 := E11.binds (ps := ["self"]) fun _ _ _ _ _ _ us hl => match us, hl with | [_], _ => rfl
  have E12 := fun_mk (st := sReaderReadTriples) ml12 mc12 mk12
  have e12 := E12.binds (ps := ["self"]) fun _ _ _ _ _ _ us hl => match us, hl with | [_], _ => rfl
  have E13 := fun_mk (st := sReaderReadPacket) ml13 mc13 mk13
  have e13 := E13.binds (ps := ["self"]) fun _ _ _ _ _ _ us hl => match us, hl with | [_], _ => rfl
  have E14 := fun_mk (st := sReaderReadValue) ml14 mc14 mk14
  have e14 := E14.binds (ps := ["self"]) fun _ _ _ _ _ _ us hl => match us, hl with | [_], _ => rfl
  have E15 := fun_mk (st := sReaderReadValueU) ml15 mc15 mk15
  have e15 := E15.binds (ps := ["self", "most_depth"]) fun _ _ _ _ _ _ us hl => match us, hl with | [_, _], _ => rfl
  have E16 := fun_mk (st := sReaderReadValues) ml16 mc16 mk16
  have e16 := E16.binds (ps := ["self", "most_depth"]) fun _ _ _ _ _ _ us hl => match us, hl with | [_, _], _ => rfl
  have E17 := fun_mk (st := sReaderReadOutcome) ml17 mc17 mk17
  have e17 := E17.binds (ps := ["self"]) fun _ _ _ _ _ _ us hl => match us, hl with | [_], _ => rfl
  have E18 := fun_mk (st := sReaderReadKind) ml18 mc18 mk18
  have e18 := E18.binds (ps := ["self"]) fun _ _ _ _ _ _ us hl => match us, hl with | [_], _ => rfl
  have E19 := fun_mk (st := sReaderReadMaker) ml19 mc19 mk19
  have e19 := E19.binds (ps := ["self"]) fun _ _ _ _ _ _ us hl => match us, hl with | [_], _ => rfl
  have E20 := fun_mk (st := sReaderReadData) ml20 mc20 mk20
  have e20 := E20.binds (ps := ["self"]) fun _ _ _ _ _ _ us hl => match us, hl with | [_], _ => rfl
  have E21 := fun_mk (st := sReaderReadShape) ml21 mc21 mk21
  have e21 := E21.binds (ps := ["self"]) fun _ _ _ _ _ _ us hl => match us, hl with | [_], _ => rfl
  have E22 := fun_mk (st := sReaderReadCell) ml22 mc22 mk22
  have e22 := E22.binds (ps := ["self"]) fun _ _ _ _ _ _ us hl => match us, hl with | [_], _ => rfl
  have E23 := fun_mk (st := sReaderReadCells) ml23 mc23 mk23
  have e23 := E23.binds (ps := ["self"]) fun _ _ _ _ _ _ us hl => match us, hl with | [_], _ => rfl
  have E24 := fun_mk (st := sReaderReadGroup) ml24 mc24 mk24
  have e24 := E24.binds (ps := ["self"]) fun _ _ _ _ _ _ us hl => match us, hl with | [_], _ => rfl
  let Z : Defs K mg :=
    { ValueError := PySem.W.mg_none_of X G z_ValueError,
      abs := PySem.W.mg_none_of X G z_abs,
      any := PySem.W.mg_none_of X G z_any,
      bool := PySem.W.mg_none_of X G z_bool,
      int := PySem.W.mg_none_of X G z_int,
      isinstance := PySem.W.mg_none_of X G z_isinstance,
      len := PySem.W.mg_none_of X G z_len,
      list := PySem.W.mg_none_of X G z_list,
      min := PySem.W.mg_none_of X G z_min,
      ord := PySem.W.mg_none_of X G z_ord,
      range := PySem.W.mg_none_of X G z_range,
      str := PySem.W.mg_none_of X G z_str,
      tuple := PySem.W.mg_none_of X G z_tuple,
      kMOST_DEPTH := ⟨_, PySem.W.mg_of X G g_MOST_DEPTH⟩,
      kPACKET := ⟨_, PySem.W.mg_of X G g_PACKET⟩,
      kLONGEST_NUMBER := ⟨_, PySem.W.mg_of X G g_LONGEST_NUMBER⟩,
      kCHARACTERS := ⟨_, PySem.W.mg_of X G g_CHARACTERS⟩,
      fForm := f1,
      fdForm := _,
      DForm := ⟨F1, b1, PySem.W.mg_of X G a1⟩,
      fWriteNumber := f2,
      fdWriteNumber := _,
      DWriteNumber := ⟨F2, b2, PySem.W.mg_of X G a2⟩,
      fWriteInteger := f3,
      fdWriteInteger := _,
      DWriteInteger := ⟨F3, b3, PySem.W.mg_of X G a3⟩,
      fWriteString := f4,
      fdWriteString := _,
      DWriteString := ⟨F4, b4, PySem.W.mg_of X G a4⟩,
      fWriteList := f5,
      fdWriteList := _,
      DWriteList := ⟨F5, b5, PySem.W.mg_of X G a5⟩,
      fWriteMark := f6,
      fdWriteMark := _,
      DWriteMark := ⟨F6, b6, PySem.W.mg_of X G a6⟩,
      fWriteDeed := f7,
      fdWriteDeed := _,
      DWriteDeed := ⟨F7, b7, PySem.W.mg_of X G a7⟩,
      fWriteTriple := f8,
      fdWriteTriple := _,
      DWriteTriple := ⟨F8, b8, PySem.W.mg_of X G a8⟩,
      fWritePacket := f9,
      fdWritePacket := _,
      DWritePacket := ⟨F9, b9, PySem.W.mg_of X G a9⟩,
      fWriteKind := f10,
      fdWriteKind := _,
      DWriteKind := ⟨F10, b10, PySem.W.mg_of X G a10⟩,
      fWriteValue := f11,
      fdWriteValue := _,
      DWriteValue := ⟨F11, b11, PySem.W.mg_of X G a11⟩,
      fWriteValues := f12,
      fdWriteValues := _,
      DWriteValues := ⟨F12, b12, PySem.W.mg_of X G a12⟩,
      fWriteFault := f13,
      fdWriteFault := _,
      DWriteFault := ⟨F13, b13, PySem.W.mg_of X G a13⟩,
      fWriteOutcome := f14,
      fdWriteOutcome := _,
      DWriteOutcome := ⟨F14, b14, PySem.W.mg_of X G a14⟩,
      fWriteMaker := f15,
      fdWriteMaker := _,
      DWriteMaker := ⟨F15, b15, PySem.W.mg_of X G a15⟩,
      fWriteData := f16,
      fdWriteData := _,
      DWriteData := ⟨F16, b16, PySem.W.mg_of X G a16⟩,
      fWriteShape := f17,
      fdWriteShape := _,
      DWriteShape := ⟨F17, b17, PySem.W.mg_of X G a17⟩,
      fWriteCell := f18,
      fdWriteCell := _,
      DWriteCell := ⟨F18, b18, PySem.W.mg_of X G a18⟩,
      fWriteCells := f19,
      fdWriteCells := _,
      DWriteCells := ⟨F19, b19, PySem.W.mg_of X G a19⟩,
      fWriteGroup := f20,
      fdWriteGroup := _,
      DWriteGroup := ⟨F20, b20, PySem.W.mg_of X G a20⟩,
      fLawMix := f21,
      fdLawMix := _,
      DLawMix := ⟨F21, b21, PySem.W.mg_of X G a21⟩,
      fLawDraws := f22,
      fdLawDraws := _,
      DLawDraws := ⟨F22, b22, PySem.W.mg_of X G a22⟩,
      fLawAt := f23,
      fdLawAt := _,
      DLawAt := ⟨F23, b23, PySem.W.mg_of X G a23⟩,
      fLawIsInteger := f24,
      fdLawIsInteger := _,
      DLawIsInteger := ⟨F24, b24, PySem.W.mg_of X G a24⟩,
      fLawSame := f25,
      fdLawSame := _,
      DLawSame := ⟨F25, b25, PySem.W.mg_of X G a25⟩,
      fLawNext := f26,
      fdLawNext := _,
      DLawNext := ⟨F26, b26, PySem.W.mg_of X G a26⟩,
      fLawNumber := f27,
      fdLawNumber := _,
      DLawNumber := ⟨F27, b27, PySem.W.mg_of X G a27⟩,
      fLawListed := f28,
      fdLawListed := _,
      DLawListed := ⟨F28, b28, PySem.W.mg_of X G a28⟩,
      fLawString := f29,
      fdLawString := _,
      DLawString := ⟨F29, b29, PySem.W.mg_of X G a29⟩,
      fLawMarkBytes := f30,
      fdLawMarkBytes := _,
      DLawMarkBytes := ⟨F30, b30, PySem.W.mg_of X G a30⟩,
      fLawDeedBytes := f31,
      fdLawDeedBytes := _,
      DLawDeedBytes := ⟨F31, b31, PySem.W.mg_of X G a31⟩,
      fLawTriplesBytes := f32,
      fdLawTriplesBytes := _,
      DLawTriplesBytes := ⟨F32, b32, PySem.W.mg_of X G a32⟩,
      fLawValueBytes := f33,
      fdLawValueBytes := _,
      DLawValueBytes := ⟨F33, b33, PySem.W.mg_of X G a33⟩,
      fLawOutcomeBytes := f34,
      fdLawOutcomeBytes := _,
      DLawOutcomeBytes := ⟨F34, b34, PySem.W.mg_of X G a34⟩,
      fLawKindBytes := f35,
      fdLawKindBytes := _,
      DLawKindBytes := ⟨F35, b35, PySem.W.mg_of X G a35⟩,
      fLawCellBytes := f36,
      fdLawCellBytes := _,
      DLawCellBytes := ⟨F36, b36, PySem.W.mg_of X G a36⟩,
      fLawGroupBytes := f37,
      fdLawGroupBytes := _,
      DLawGroupBytes := ⟨F37, b37, PySem.W.mg_of X G a37⟩,
      fLawWord := f38,
      fdLawWord := _,
      DLawWord := ⟨F38, b38, PySem.W.mg_of X G a38⟩,
      fLawTextOf := f39,
      fdLawTextOf := _,
      DLawTextOf := ⟨F39, b39, PySem.W.mg_of X G a39⟩,
      fLawBig := f40,
      fdLawBig := _,
      DLawBig := ⟨F40, b40, PySem.W.mg_of X G a40⟩,
      fLawValue := f41,
      fdLawValue := _,
      DLawValue := ⟨F41, b41, PySem.W.mg_of X G a41⟩,
      fLawOutcome := f42,
      fdLawOutcome := _,
      DLawOutcome := ⟨F42, b42, PySem.W.mg_of X G a42⟩,
      fLawShapeKind := f43,
      fdLawShapeKind := _,
      DLawShapeKind := ⟨F43, b43, PySem.W.mg_of X G a43⟩,
      fLawCell := f44,
      fdLawCell := _,
      DLawCell := ⟨F44, b44, PySem.W.mg_of X G a44⟩,
      fLawAnyDeed := f45,
      fdLawAnyDeed := _,
      DLawAnyDeed := ⟨F45, b45, PySem.W.mg_of X G a45⟩,
      fLawRead := f46,
      fdLawRead := _,
      DLawRead := ⟨F46, b46, PySem.W.mg_of X G a46⟩,
      fLawAsks := f47,
      fdLawAsks := _,
      DLawAsks := ⟨F47, b47, PySem.W.mg_of X G a47⟩,
      fLaw := fa,
      fdLaw := _,
      DLaw := ⟨F48, b48, PySem.W.mg_of X G a48⟩,
      cReader := cReader,
      fReaderInit := g1,
      fdReaderInit := _,
      DReaderInit := ⟨E1, e1⟩,
      CReader := ⟨PySem.W.mg_of X G caReader, ⟨cpgReader, chdReader, cpoReader, csaReader⟩, ⟨cmkReader, ma1, mi1, ckcReader⟩⟩,
      fReaderEnd := g2,
      fdReaderEnd := _,
      DReaderEnd := ⟨E2, e2, ⟨ma2, mi2, mk2⟩⟩,
      fReaderReadByte := g3,
      fdReaderReadByte := _,
      DReaderReadByte := ⟨E3, ⟨ma3, mi3, mk3⟩, e3, e3b⟩,
      fReaderReadBytes := g4,
      fdReaderReadBytes := _,
      DReaderReadBytes := ⟨E4, e4, ⟨ma4, mi4, mk4⟩⟩,
      fReaderExpect := g5,
      fdReaderExpect := _,
      DReaderExpect := ⟨E5, e5, ⟨ma5, mi5, mk5⟩⟩,
      fReaderReadNumber := g6,
      fdReaderReadNumber := _,
      DReaderReadNumber := ⟨E6, e6, ⟨ma6, mi6, mk6⟩⟩,
      fReaderReadCount := g7,
      fdReaderReadCount := _,
      DReaderReadCount := ⟨E7, e7, ⟨ma7, mi7, mk7⟩⟩,
      fReaderReadInteger := g8,
      fdReaderReadInteger := _,
      DReaderReadInteger := ⟨E8, e8, ⟨ma8, mi8, mk8⟩⟩,
      fReaderReadString := g9,
      fdReaderReadString := _,
      DReaderReadString := ⟨E9, e9, ⟨ma9, mi9, mk9⟩⟩,
      fReaderReadMark := g10,
      fdReaderReadMark := _,
      DReaderReadMark := ⟨E10, e10, ⟨ma10, mi10, mk10⟩⟩,
      fReaderReadDeed := g11,
      fdReaderReadDeed := _,
      DReaderReadDeed := ⟨E11, e11, ⟨ma11, mi11, mk11⟩⟩,
      fReaderReadTriples := g12,
      fdReaderReadTriples := _,
      DReaderReadTriples := ⟨E12, e12, ⟨ma12, mi12, mk12⟩⟩,
      fReaderReadPacket := g13,
      fdReaderReadPacket := _,
      DReaderReadPacket := ⟨E13, e13, ⟨ma13, mi13, mk13⟩⟩,
      fReaderReadValue := g14,
      fdReaderReadValue := _,
      DReaderReadValue := ⟨E14, e14, ⟨ma14, mi14, mk14⟩⟩,
      fReaderReadValueU := g15,
      fdReaderReadValueU := _,
      DReaderReadValueU := ⟨E15, e15, ⟨ma15, mi15, mk15⟩⟩,
      fReaderReadValues := g16,
      fdReaderReadValues := _,
      DReaderReadValues := ⟨E16, e16, ⟨ma16, mi16, mk16⟩⟩,
      fReaderReadOutcome := g17,
      fdReaderReadOutcome := _,
      DReaderReadOutcome := ⟨E17, e17, ⟨ma17, mi17, mk17⟩⟩,
      fReaderReadKind := g18,
      fdReaderReadKind := _,
      DReaderReadKind := ⟨E18, e18, ⟨ma18, mi18, mk18⟩⟩,
      fReaderReadMaker := g19,
      fdReaderReadMaker := _,
      DReaderReadMaker := ⟨E19, e19, ⟨ma19, mi19, mk19⟩⟩,
      fReaderReadData := g20,
      fdReaderReadData := _,
      DReaderReadData := ⟨E20, e20, ⟨ma20, mi20, mk20⟩⟩,
      fReaderReadShape := g21,
      fdReaderReadShape := _,
      DReaderReadShape := ⟨E21, e21, ⟨ma21, mi21, mk21⟩⟩,
      fReaderReadCell := g22,
      fdReaderReadCell := _,
      DReaderReadCell := ⟨E22, e22, ⟨ma22, mi22, mk22⟩⟩,
      fReaderReadCells := g23,
      fdReaderReadCells := _,
      DReaderReadCells := ⟨E23, e23, ⟨ma23, mi23, mk23⟩⟩,
      fReaderReadGroup := g24,
      fdReaderReadGroup := _,
      DReaderReadGroup := ⟨E24, e24, ⟨ma24, mi24, mk24⟩⟩,
      nReader_at := cnReader_0,
      nReader_data := cnReader_1,
      nReader_characters := cnReader_2,
      eQuillrunError := eQuillrunError,
      EQuillrunError := ⟨PySem.W.mg_of X G eaQuillrunError, exQuillrunError, ekQuillrunError, ebQuillrunError, etQuillrunError, exm_of ebQuillrunError eiQuillrunError etQuillrunError esQuillrunError⟩,
      eDamagedPacket := eDamagedPacket,
      EDamagedPacket := ⟨PySem.W.mg_of X G eaDamagedPacket, exDamagedPacket, ekDamagedPacket, ebDamagedPacket, etDamagedPacket, exm_of ebDamagedPacket eiDamagedPacket etDamagedPacket esDamagedPacket⟩,
      aBASES := aBASES,
      gBASES := PySem.W.mg_of X G p_gBASES,
      sBASES := fun H => TG.sqt_tup x_BASES (by show 3 ≤ sizeLine; decide) (by repeat (first | exact .nil | refine .cons ⟨_, rfl⟩ ?_)) H,
      aFAULTS := aFAULTS,
      gFAULTS := PySem.W.mg_of X G p_gFAULTS,
      sFAULTS := fun H => TG.sqt_tup x_FAULTS (by show 6 ≤ sizeLine; decide) (by repeat (first | exact .nil | refine .cons ⟨_, rfl⟩ ?_)) H,
      tBASES := ⟨_, x_BASES, rfl, y_BASES⟩,
      tFAULTS := ⟨_, x_FAULTS, rfl, y_FAULTS⟩,
      XO := ⟨xo_hg, xo_hk, ebDamagedPacket, xo_hd, xo_ha, xo_hn, xo_ht, xo_hm⟩,
      kDD := kt_oo,
      kDV := kt_ov,
      xDQ := XI.exm_of2 ebQuillrunError eiQuillrunError etQuillrunError xs_oq }
  exact ⟨PySem.W.fnOf "law" "law" (defArgs sLaw) (defBody sLaw) (defScope sLaw) .none kV48 dc48 pm48 an48 cd48 ct48, fun s v => .of_eq rfl, fun base _ _ => ok_law Z⟩
end Q40
open PySem PySem.W PyProof.Rows
set_option maxHeartbeats 0 in
theorem PySem.Challenge.cw_quillrun_k40_bytes_of_data_holds : PySem.Challenge.rw_quillrun_k40_bytes_of_data.Holds := by
  w_on; o_law; k_head; (case hw => w_witness2)
  k_fill
  refine L2.walk_of (l := PySem.Challenge.rw_quillrun_k40_bytes_of_data) (n := 63) (k := 99) (x := "script") (CX := fun _ => L2.CX0) (sp := fun w => Q40.spLaw _) rfl (by decide) rfl ⟨rfl, by decide, by decide⟩ (fun w h Y => PySem.W.kIn_of Y) ?F (fun _ _ a ns hl _ hS => ⟨a, ns, rfl, hS, hl, fun _ => rfl⟩) (fun _ _ _ _ _ h => h)
  case F =>
    intro w mg fa h KX G hmg
    refine' Q40.all_mk KX G hmg ?a1 ?l1 ?c1 ?k1 ?a2 ?l2 ?c2 ?k2 ?a3 ?l3 ?c3 ?k3 ?a4 ?l4 ?c4 ?k4 ?a5 ?l5 ?c5 ?k5 ?a6 ?l6 ?c6 ?k6 ?a7 ?l7 ?c7 ?k7 ?a8 ?l8 ?c8 ?k8 ?a9 ?l9 ?c9 ?k9 ?a10 ?l10 ?c10 ?k10 ?a11 ?l11 ?c11 ?k11 ?a12 ?l12 ?c12 ?k12 ?a13 ?l13 ?c13 ?k13 ?a14 ?l14 ?c14 ?k14 ?a15 ?l15 ?c15 ?k15 ?a16 ?l16 ?c16 ?k16 ?a17 ?l17 ?c17 ?k17 ?a18 ?l18 ?c18 ?k18 ?a19 ?l19 ?c19 ?k19 ?a20 ?l20 ?c20 ?k20 ?a21 ?l21 ?c21 ?k21 ?a22 ?l22 ?c22 ?k22 ?a23 ?l23 ?c23 ?k23 ?a24 ?l24 ?c24 ?k24 ?a25 ?l25 ?c25 ?k25 ?a26 ?l26 ?c26 ?k26 ?a27 ?l27 ?c27 ?k27 ?a28 ?l28 ?c28 ?k28 ?a29 ?l29 ?c29 ?k29 ?a30 ?l30 ?c30 ?k30 ?a31 ?l31 ?c31 ?k31 ?a32 ?l32 ?c32 ?k32 ?a33 ?l33 ?c33 ?k33 ?a34 ?l34 ?c34 ?k34 ?a35 ?l35 ?c35 ?k35 ?a36 ?l36 ?c36 ?k36 ?a37 ?l37 ?c37 ?k37 ?a38 ?l38 ?c38 ?k38 ?a39 ?l39 ?c39 ?k39 ?a40 ?l40 ?c40 ?k40 ?a41 ?l41 ?c41 ?k41 ?a42 ?l42 ?c42 ?k42 ?a43 ?l43 ?c43 ?k43 ?a44 ?l44 ?c44 ?k44 ?a45 ?l45 ?c45 ?k45 ?a46 ?l46 ?c46 ?k46 ?a47 ?l47 ?c47 ?k47 ?a48 ?l48 ?c48 ?k48 ?caReader ?ma1 ?mi1 ?ml1 ?mc1 ?mk1 ?ma2 ?mi2 ?ml2 ?mc2 ?mk2 ?ma3 ?mi3 ?ml3 ?mt3 ?mc3 ?mk3 ?ma4 ?mi4 ?ml4 ?mc4 ?mk4 ?ma5 ?mi5 ?ml5 ?mc5 ?mk5 ?ma6 ?mi6 ?ml6 ?mc6 ?mk6 ?ma7 ?mi7 ?ml7 ?mc7 ?mk7 ?ma8 ?mi8 ?ml8 ?mc8 ?mk8 ?ma9 ?mi9 ?ml9 ?mc9 ?mk9 ?ma10 ?mi10 ?ml10 ?mc10 ?mk10 ?ma11 ?mi11 ?ml11 ?mc11 ?mk11 ?ma12 ?mi12 ?ml12 ?mc12 ?mk12 ?ma13 ?mi13 ?ml13 ?mc13 ?mk13 ?ma14 ?mi14 ?ml14 ?mc14 ?mk14 ?ma15 ?mi15 ?ml15 ?mc15 ?mk15 ?ma16 ?mi16 ?ml16 ?mc16 ?mk16 ?ma17 ?mi17 ?ml17 ?mc17 ?mk17 ?ma18 ?mi18 ?ml18 ?mc18 ?mk18 ?ma19 ?mi19 ?ml19 ?mc19 ?mk19 ?ma20 ?mi20 ?ml20 ?mc20 ?mk20 ?ma21 ?mi21 ?ml21 ?mc21 ?mk21 ?ma22 ?mi22 ?ml22 ?mc22 ?mk22 ?ma23 ?mi23 ?ml23 ?mc23 ?mk23 ?ma24 ?mi24 ?ml24 ?mc24 ?mk24 ?cpgReader ?chdReader ?cpoReader ?csaReader ?cmkReader ?ckcReader ?cnReader_0 ?cnReader_1 ?cnReader_2 ?eaQuillrunError ?exQuillrunError ?ekQuillrunError ?ebQuillrunError ?etQuillrunError ?eiQuillrunError ?esQuillrunError ?eaDamagedPacket ?exDamagedPacket ?ekDamagedPacket ?ebDamagedPacket ?etDamagedPacket ?eiDamagedPacket ?esDamagedPacket ?z_ValueError ?z_abs ?z_any ?z_bool ?z_int ?z_isinstance ?z_len ?z_list ?z_min ?z_ord ?z_range ?z_str ?z_tuple ?g_MOST_DEPTH ?g_PACKET ?g_LONGEST_NUMBER ?g_CHARACTERS ?p_gBASES ?x_BASES ?p_gFAULTS ?x_FAULTS ?y_BASES ?y_FAULTS ?xo_hg ?xo_hk ?xo_hd ?xo_ha ?xo_hn ?xo_ht ?xo_hm ?kt_oo ?kt_ov ?xs_oq
    (case a1 => k_is)
    (case l1 => k_is)
    (case c1 => k_is)
    (case k1 => k_is)
    (case a2 => k_is)
    (case l2 => k_is)
    (case c2 => k_is)
    (case k2 => k_is)
    (case a3 => k_is)
    (case l3 => k_is)
    (case c3 => k_is)
    (case k3 => k_is)
    (case a4 => k_is)
    (case l4 => k_is)
    (case c4 => k_is)
    (case k4 => k_is)
    (case a5 => k_is)
    (case l5 => k_is)
    (case c5 => k_is)
    (case k5 => k_is)
    (case a6 => k_is)
    (case l6 => k_is)
    (case c6 => k_is)
    (case k6 => k_is)
    (case a7 => k_is)
    (case l7 => k_is)
    (case c7 => k_is)
    (case k7 => k_is)
    (case a8 => k_is)
    (case l8 => k_is)
    (case c8 => k_is)
    (case k8 => k_is)
    (case a9 => k_is)
    (case l9 => k_is)
    (case c9 => k_is)
    (case k9 => k_is)
    (case a10 => k_is)
    (case l10 => k_is)
    (case c10 => k_is)
    (case k10 => k_is)
    (case a11 => k_is)
    (case l11 => k_is)
    (case c11 => k_is)
    (case k11 => k_is)
    (case a12 => k_is)
    (case l12 => k_is)
    (case c12 => k_is)
    (case k12 => k_is)
    (case a13 => k_is)
    (case l13 => k_is)
    (case c13 => k_is)
    (case k13 => k_is)
    (case a14 => k_is)
    (case l14 => k_is)
    (case c14 => k_is)
    (case k14 => k_is)
    (case a15 => k_is)
    (case l15 => k_is)
    (case c15 => k_is)
    (case k15 => k_is)
    (case a16 => k_is)
    (case l16 => k_is)
    (case c16 => k_is)
    (case k16 => k_is)
    (case a17 => k_is)
    (case l17 => k_is)
    (case c17 => k_is)
    (case k17 => k_is)
    (case a18 => k_is)
    (case l18 => k_is)
    (case c18 => k_is)
    (case k18 => k_is)
    (case a19 => k_is)
    (case l19 => k_is)
    (case c19 => k_is)
    (case k19 => k_is)
    (case a20 => k_is)
    (case l20 => k_is)
    (case c20 => k_is)
    (case k20 => k_is)
    (case a21 => k_is)
    (case l21 => k_is)
    (case c21 => k_is)
    (case k21 => k_is)
    (case a22 => k_is)
    (case l22 => k_is)
    (case c22 => k_is)
    (case k22 => k_is)
    (case a23 => k_is)
    (case l23 => k_is)
    (case c23 => k_is)
    (case k23 => k_is)
    (case a24 => k_is)
    (case l24 => k_is)
    (case c24 => k_is)
    (case k24 => k_is)
    (case a25 => k_is)
    (case l25 => k_is)
    (case c25 => k_is)
    (case k25 => k_is)
    (case a26 => k_is)
    (case l26 => k_is)
    (case c26 => k_is)
    (case k26 => k_is)
    (case a27 => k_is)
    (case l27 => k_is)
    (case c27 => k_is)
    (case k27 => k_is)
    (case a28 => k_is)
    (case l28 => k_is)
    (case c28 => k_is)
    (case k28 => k_is)
    (case a29 => k_is)
    (case l29 => k_is)
    (case c29 => k_is)
    (case k29 => k_is)
    (case a30 => k_is)
    (case l30 => k_is)
    (case c30 => k_is)
    (case k30 => k_is)
    (case a31 => k_is)
    (case l31 => k_is)
    (case c31 => k_is)
    (case k31 => k_is)
    (case a32 => k_is)
    (case l32 => k_is)
    (case c32 => k_is)
    (case k32 => k_is)
    (case a33 => k_is)
    (case l33 => k_is)
    (case c33 => k_is)
    (case k33 => k_is)
    (case a34 => k_is)
    (case l34 => k_is)
    (case c34 => k_is)
    (case k34 => k_is)
    (case a35 => k_is)
    (case l35 => k_is)
    (case c35 => k_is)
    (case k35 => k_is)
    (case a36 => k_is)
    (case l36 => k_is)
    (case c36 => k_is)
    (case k36 => k_is)
    (case a37 => k_is)
    (case l37 => k_is)
    (case c37 => k_is)
    (case k37 => k_is)
    (case a38 => k_is)
    (case l38 => k_is)
    (case c38 => k_is)
    (case k38 => k_is)
    (case a39 => k_is)
    (case l39 => k_is)
    (case c39 => k_is)
    (case k39 => k_is)
    (case a40 => k_is)
    (case l40 => k_is)
    (case c40 => k_is)
    (case k40 => k_is)
    (case a41 => k_is)
    (case l41 => k_is)
    (case c41 => k_is)
    (case k41 => k_is)
    (case a42 => k_is)
    (case l42 => k_is)
    (case c42 => k_is)
    (case k42 => k_is)
    (case a43 => k_is)
    (case l43 => k_is)
    (case c43 => k_is)
    (case k43 => k_is)
    (case a44 => k_is)
    (case l44 => k_is)
    (case c44 => k_is)
    (case k44 => k_is)
    (case a45 => k_is)
    (case l45 => k_is)
    (case c45 => k_is)
    (case k45 => k_is)
    (case a46 => k_is)
    (case l46 => k_is)
    (case c46 => k_is)
    (case k46 => k_is)
    (case a47 => k_is)
    (case l47 => k_is)
    (case c47 => k_is)
    (case k47 => k_is)
    (case a48 => k_is)
    (case l48 => k_is)
    (case c48 => k_is)
    (case k48 => k_is)
    (case caReader => k_is)
    (case ma1 => k_is)
    (case mi1 => k_is)
    (case ml1 => k_is)
    (case mc1 => k_is)
    (case mk1 => k_is)
    (case ma2 => k_is)
    (case mi2 => k_is)
    (case ml2 => k_is)
    (case mc2 => k_is)
    (case mk2 => k_is)
    (case ma3 => k_is)
    (case mi3 => k_is)
    (case ml3 => k_is)
    (case mt3 => k_is)
    (case mc3 => k_is)
    (case mk3 => k_is)
    (case ma4 => k_is)
    (case mi4 => k_is)
    (case ml4 => k_is)
    (case mc4 => k_is)
    (case mk4 => k_is)
    (case ma5 => k_is)
    (case mi5 => k_is)
    (case ml5 => k_is)
    (case mc5 => k_is)
    (case mk5 => k_is)
    (case ma6 => k_is)
    (case mi6 => k_is)
    (case ml6 => k_is)
    (case mc6 => k_is)
    (case mk6 => k_is)
    (case ma7 => k_is)
    (case mi7 => k_is)
    (case ml7 => k_is)
    (case mc7 => k_is)
    (case mk7 => k_is)
    (case ma8 => k_is)
    (case mi8 => k_is)
    (case ml8 => k_is)
    (case mc8 => k_is)
    (case mk8 => k_is)
    (case ma9 => k_is)
    (case mi9 => k_is)
    (case ml9 => k_is)
    (case mc9 => k_is)
    (case mk9 => k_is)
    (case ma10 => k_is)
    (case mi10 => k_is)
    (case ml10 => k_is)
    (case mc10 => k_is)
    (case mk10 => k_is)
    (case ma11 => k_is)
    (case mi11 => k_is)
    (case ml11 => k_is)
    (case mc11 => k_is)
    (case mk11 => k_is)
    (case ma12 => k_is)
    (case mi12 => k_is)
    (case ml12 => k_is)
    (case mc12 => k_is)
    (case mk12 => k_is)
    (case ma13 => k_is)
    (case mi13 => k_is)
    (case ml13 => k_is)
    (case mc13 => k_is)
    (case mk13 => k_is)
    (case ma14 => k_is)
    (case mi14 => k_is)
    (case ml14 => k_is)
    (case mc14 => k_is)
    (case mk14 => k_is)
    (case ma15 => k_is)
    (case mi15 => k_is)
    (case ml15 => k_is)
    (case mc15 => k_is)
    (case mk15 => k_is)
    (case ma16 => k_is)
    (case mi16 => k_is)
    (case ml16 => k_is)
    (case mc16 => k_is)
    (case mk16 => k_is)
    (case ma17 => k_is)
    (case mi17 => k_is)
    (case ml17 => k_is)
    (case mc17 => k_is)
    (case mk17 => k_is)
    (case ma18 => k_is)
    (case mi18 => k_is)
    (case ml18 => k_is)
    (case mc18 => k_is)
    (case mk18 => k_is)
    (case ma19 => k_is)
    (case mi19 => k_is)
    (case ml19 => k_is)
    (case mc19 => k_is)
    (case mk19 => k_is)
    (case ma20 => k_is)
    (case mi20 => k_is)
    (case ml20 => k_is)
    (case mc20 => k_is)
    (case mk20 => k_is)
    (case ma21 => k_is)
    (case mi21 => k_is)
    (case ml21 => k_is)
    (case mc21 => k_is)
    (case mk21 => k_is)
    (case ma22 => k_is)
    (case mi22 => k_is)
    (case ml22 => k_is)
    (case mc22 => k_is)
    (case mk22 => k_is)
    (case ma23 => k_is)
    (case mi23 => k_is)
    (case ml23 => k_is)
    (case mc23 => k_is)
    (case mk23 => k_is)
    (case ma24 => k_is)
    (case mi24 => k_is)
    (case ml24 => k_is)
    (case mc24 => k_is)
    (case mk24 => k_is)
    (case cpgReader => k_is)
    (case chdReader => k_is)
    (case cpoReader => k_is)
    (case csaReader => k_is)
    (case cmkReader => k_is)
    (case ckcReader => k_is)
    (case cnReader_0 => k_is)
    (case cnReader_1 => k_is)
    (case cnReader_2 => k_is)
    (case eaQuillrunError => k_is)
    (case exQuillrunError => k_exc)
    (case ekQuillrunError => k_is)
    (case ebQuillrunError => k_is)
    (case etQuillrunError => k_is)
    (case eiQuillrunError => k_is)
    (case esQuillrunError => k_is)
    (case eaDamagedPacket => k_is)
    (case exDamagedPacket => k_exc)
    (case ekDamagedPacket => k_is)
    (case ebDamagedPacket => k_is)
    (case etDamagedPacket => k_is)
    (case eiDamagedPacket => k_is)
    (case esDamagedPacket => k_is)
    (case z_ValueError => k_is)
    (case z_abs => k_is)
    (case z_any => k_is)
    (case z_bool => k_is)
    (case z_int => k_is)
    (case z_isinstance => k_is)
    (case z_len => k_is)
    (case z_list => k_is)
    (case z_min => k_is)
    (case z_ord => k_is)
    (case z_range => k_is)
    (case z_str => k_is)
    (case z_tuple => k_is)
    (case g_MOST_DEPTH => k_is)
    (case g_PACKET => k_is)
    (case g_LONGEST_NUMBER => k_is)
    (case g_CHARACTERS => k_is)
    (case p_gBASES => k_is)
    (case x_BASES => k_is)
    (case p_gFAULTS => k_is)
    (case x_FAULTS => k_is)
    (case y_BASES => rfl)
    (case y_FAULTS => rfl)
    (case xo_hg => k_is)
    (case xo_hk => k_is)
    (case xo_hd => k_is)
    (case xo_ha => k_is)
    (case xo_hn => k_is)
    (case xo_ht => k_is)
    (case xo_hm => k_is)
    (case kt_oo => kit_is)
    (case kt_ov => kit_is)
    (case xs_oq => k_is)
#print axioms PySem.Challenge.cw_quillrun_k40_bytes_of_data_holds
