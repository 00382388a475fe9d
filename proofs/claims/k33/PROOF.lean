import PyProof.Rows.All
import Wide.All
import OpenK.AllK
import Wide.FinOn
import PyProof.Rows.All
import HandS.ForMost
import HandS.ForExc
import HandS.IsInst
import HandS.Codes
import HandS.Walk
import HandS.Star
import HandS.TryOnly
import HandS.ExcOwn
import HandS.Defaults
import HandS.Deep
import HandS.Comp
import HandS.DictComp
import PyProof.Draws
import PyProof.RulesMatchSeq
import PyProof.Rows.MatchSeqLen
import HandS.Rev
import HandS.RevTup
import KE.KRevIter
import HandS.Zip
import HandS.FStr
import HandS.StrMore
import HandS.NoneIn
import HandS.SetKeys
import HandS.More
import HandS.RaiseMore
import HandS.HeadHook3
import HandS.OwnEq
import PyProof.AutoSeq1
import KE.GoesZip
import KE.GoesMore
import HandS.TupAny
import KE.RegKIsAll
import PySem.Challenge.RW_quillrun_k33_code_of_expressions
set_option Elab.async false
set_option linter.all false
set_option maxRecDepth 100000
set_option maxHeartbeats 4000000
namespace HL
open PySem PySem.Spec PyProof.Rows L2 SX
/-! ## short words of my own, over the hand layer -/
theorem boot_isinstance : bootBuiltins "isinstance" = some (.builtin "isinstance") := by decide +kernel
theorem boot_bool : bootBuiltins "bool" = some (.type "bool") := by decide +kernel
theorem boot_int : bootBuiltins "int" = some (.type "int") := by decide +kernel
theorem boot_str : bootBuiltins "str" = some (.type "str") := by decide +kernel
theorem boot_tuple : bootBuiltins "tuple" = some (.type "tuple") := by decide +kernel
theorem boot_list : bootBuiltins "list" = some (.type "list") := by decide +kernel
theorem boot_dict : bootBuiltins "dict" = some (.type "dict") := by decide +kernel
/-- a def of the module: its body, its arguments, its name -/
structure DefN (K : PySem.W.Frag) (mg : Str → Option Value) (x : Str) (st : Stmt) (ps : List Str) (f : Addr) (fd : FuncData) : Prop where
  F : Fun K x x st f fd
  b : Binds K fd ps []
  g : mg x = some (.ref f)
theorem small (n : Nat) (h : n ≤ 1000000) : n ≤ sizeLine := Nat.le_trans h (by decide)
theorem same_upd {H : Hp} {p : Addr} {o : HO} (h : H p = none) : Same H (upd H p o) := fun b x e => by
  rw [upd_ne (ne_of_none e h)]
  exact e
theorem S_app (a b : List Nat) : (S a ++ S b : Str) = S (a ++ b) := S_cat a b
theorem sign_at {t : List Nat} {k : Nat} (h : k < t.length) : atI (S t).cps.toList (k : Int) = some (t.getD k 0) := by
  show atI t.toArray.toList (k : Int) = _
  refine atI_nat ?_
  simp [List.getD_eq_getElem?_getD, h]
theorem cutS_nat (t : List Nat) (a b : Nat) (h : a ≤ b) (h2 : b ≤ t.length) : cutS (S t) (some (a : Int)) (some (b : Int)) = S ((t.drop a).take (b - a)) := by
  unfold cutS
  rw [S_len, HT.sIx_nat, HT.sIx_nat]
  have e1 : min a t.length = a := by omega
  have e2 : min b t.length = b := by omega
  rw [e1, e2]
/-- ends beyond the end -/
theorem cutS_any (t : List Nat) (a b : Nat) : cutS (S t) (some (a : Int)) (some (b : Int)) = S ((t.drop a).take (b - a)) := by
  unfold cutS
  rw [S_len, HT.sIx_nat, HT.sIx_nat]
  congr 2
  show List.take _ (List.drop _ t) = _
  by_cases ha : a ≤ t.length
  · have e1 : min a t.length = a := by omega
    rw [e1]
    by_cases hb : b ≤ t.length
    · have e2 : min b t.length = b := by omega
      rw [e2]
    · have e2 : min b t.length = t.length := by omega
      rw [e2, List.take_of_length_le (by rw [List.length_drop]; omega), List.take_of_length_le (by rw [List.length_drop]; omega)]
  · have e1 : min a t.length = t.length := by omega
    rw [e1, List.drop_of_length_le (Nat.le_refl _), List.drop_of_length_le (show t.length ≤ a by omega)]
    simp
theorem joinL_nil : ∀ C : List (List Nat), TL.joinL [] C = C.flatten
  | [] => rfl
  | [c] => by simp [TL.joinL]
  | c :: d :: r => by
    show c ++ ([] ++ TL.joinL [] (d :: r)) = _
    rw [joinL_nil (d :: r)]
    simp
/-- a test whose answer is known -/
theorem iteNo {c A B : Prop} [Decidable c] (h : ¬ c) (hb : B) : if c then A else B := by
  rw [if_neg h]
  exact hb
theorem iteYes {c A B : Prop} [Decidable c] (h : c) (ha : A) : if c then A else B := by
  rw [if_pos h]
  exact ha
/-- a comprehension without a test -/
theorem lc_yes {te : TE} {σ : L2.St} {H : Hp} {R : VK} {B : Hp → Prop} (h : te σ H R) : tYes σ H (fun b H3 => if b = true then te σ H3 R else B H3) := by
  show (if true = true then te σ H R else B H)
  rw [if_pos rfl]
  exact h
/-- all but p is as it was -/
def But (H H' : Hp) (p : Addr) : Prop := ∀ b, b ≠ p → H' b = H b
theorem but_upd {H : Hp} {p : Addr} {o : HO} : But H (upd H p o) p := fun _ h => upd_ne h
theorem But.refl {H : Hp} {p : Addr} : But H H p := fun _ _ => rfl
theorem But.trans {H H1 H2 : Hp} {p : Addr} (a : But H H1 p) (b : But H1 H2 p) : But H H2 p := fun c h => (b c h).trans (a c h)
/-- all but p, and what is new, is as it was -/
def Kept (H H' : Hp) (p : Addr) : Prop := ∀ b o, b ≠ p → H b = some o → H' b = some o
theorem Kept.refl {H : Hp} {p : Addr} : Kept H H p := fun _ _ _ h => h
theorem Kept.trans {H H1 H2 : Hp} {p : Addr} (a : Kept H H1 p) (b : Kept H1 H2 p) : Kept H H2 p := fun c o n h => b c o n (a c o n h)
theorem But.kept {H H' : Hp} {p : Addr} (b : But H H' p) : Kept H H' p := fun c o n h => (b c n).trans h
theorem _root_.L2.Same.kept {H H' : Hp} (s : Same H H') (p : Addr) : Kept H H' p := fun c o _ h => s c o h
section
variable {X : Cx}
/-- a constant of the module: a text, a number -/
theorem pe_gstr {x z : Str} {pos : Pos} (hg : Gl X x) (hm : ∃ t, X.mg x = some (.str z t)) (hd : (x == ("__debug__" : Str)) = false := by decide) : PE X (.Name x pos) (tC (.str z)) := by
  obtain ⟨t, h⟩ := hm
  exact pe_glob hg h ⟨t, rfl⟩ hd
theorem pe_gint {x : Str} {i : Int} {pos : Pos} (hg : Gl X x) (hm : ∃ t, X.mg x = some (.int i t)) (hd : (x == ("__debug__" : Str)) = false := by decide) : PE X (.Name x pos) (tC (.int i)) := by
  obtain ⟨t, h⟩ := hm
  exact pe_glob hg h ⟨t, rfl⟩ hd
/-- within a comprehension -/
theorem ix_listK {K : PySem.W.Frag} (h : X.K = K) : IxR X (rIxL K) := by
  subst h
  exact ix_list
theorem ix_tupK {K : PySem.W.Frag} (h : X.K = K) : IxR X (rIxT K) := by
  subst h
  exact ix_tup
/-- o[i] of a list, for o[i] op= e -/
def rGetL (K : PySem.W.Frag) : V → V → Hp → VK → Prop := fun x y H Q => ∃ p xs i v, x = .ref p ∧ y = .int i ∧ SqL K H p xs ∧ 0 ≤ i ∧ atI xs i = some v ∧ Q v H
theorem pget_list : PGet X (rGetL X.K) := by
  intro pins s σ H x y v u Q I rx ry h
  obtain ⟨p, xs, i, z, rfl, rfl, hq, h0, he, q⟩ := h
  cases rx
  obtain ⟨t, rfl⟩ := ry
  obtain ⟨its, r, pl, hz⟩ := I.list hq
  obtain ⟨j, h1, h2, h3, h4, h5⟩ := atI_get he
  obtain ⟨w, ew, rw'⟩ := r.get h2
  have hl := r.length
  have hn := line63
  have hj : i.toNat = j := by
    rw [seqIndex_of h0 h5] at h1
    exact Option.some.inj h1
  exact wpAny_getItem_list pl.isList h0 (by omega) (by rw [hj]; simpa using ew) ⟨z, H, I, rw', q⟩
/-- isinstance(x, T), T a built-in class -/
def rIsB (K : PySem.W.Frag) : List V → Hp → VK → Prop := fun xs H Q => ∃ (x : V) (T n : String) (b : Bool), xs = [x, .ty n] ∧ TyX K H x (.type T) ∧ kitB T n = some b ∧ Q (.bl b) H
theorem call_isB : CallR X (.builtin "isinstance") (rIsB X.K) := by
  intro pins s σ H xs us Q I r h
  obtain ⟨x, T, n, b, rfl, ty, e, q⟩ := h
  exact call_isi pins s σ H _ us Q I r ⟨x, .ty n, .type T, .type n, b, rfl, .ty n, ty, kit_ty e, q⟩
/-- a text, n times -/
theorem rep_fold (z : Str) : ∀ n : Nat, ((List.replicate n z.cps).foldl (· ++ ·) (#[] : Array Nat)).toList = (List.replicate n z.cps.toList).flatten := by
  have h : ∀ (l : List (Array Nat)) (a : Array Nat), (l.foldl (· ++ ·) a).toList = a.toList ++ (l.map (·.toList)).flatten := by
    intro l
    induction l with
    | nil => intro a; simp
    | cons x l ih => intro a; rw [List.foldl_cons, ih]; simp
  intro n
  rw [h]
  simp
theorem op_mul_strR : OpR X (binaryOp .Mult) (fun x y H Q => ∃ (l : List Nat) (n : Nat), x = .str (S l) ∧ y = .int (n : Int) ∧ 2 ≤ n ∧ n ≤ 1000 ∧ 1 ≤ l.length ∧ l.length ≤ 1000 ∧ Q (.str (S (List.replicate n l).flatten)) H) := by
  intro pins s σ H x y v u Q I rx ry h
  obtain ⟨l, n, rfl, rfl, h2, h3, h4, h5, q⟩ := h
  obtain ⟨t, rfl⟩ := rx
  obtain ⟨t', rfl⟩ := ry
  have hl : (S l).length = l.length := S_len l
  have e1 : ((n : Int) == 1 || (S l).length == 0) = false := by
    rw [hl]
    have a1 : ((n : Int) == 1) = false := by simp; omega
    have a2 : (l.length == 0) = false := by simp; intro z; rw [z] at h4; simp at h4
    rw [a1, a2]; rfl
  have hsz : l.length * n ≤ 1000000 := Nat.le_trans (Nat.mul_le_mul h5 h3) (by decide)
  refine PySem.P.mul_str ?_ (fun _ _ => ?_) (fun _ _ => ?_) ?_
  · have b1 : decide ((n : Int) < -(2 ^ 63 : Int)) = false := decide_eq_false (by omega)
    have b2 : decide ((n : Int) ≥ 2 ^ 63) = false := decide_eq_false (by omega)
    rw [b1, b2]; rfl
  · rw [hl]
    have hp : (l.length : Int) * (n : Int) ≤ 1000000 := by
      have := Int.ofNat_le.mpr hsz
      rw [Int.natCast_mul] at this
      exact this
    have := Int.le_ediv_of_mul_le (show (0 : Int) < (n : Int) by omega) (show (l.length : Int) * (n : Int) ≤ 2 ^ 63 - 1 from Int.le_trans hp (by decide))
    omega
  · rw [hl]
    exact decide_eq_false (by rw [sizeLine_eq, Int.toNat_natCast]; omega)
  · rw [if_neg (by omega), if_neg (by rw [e1]; simp)]
    have ef : (⟨(List.replicate (n : Int).toNat (S l).cps).foldl (· ++ ·) #[]⟩ : Str) = S (List.replicate n l).flatten := by
      have : ((List.replicate (n : Int).toNat (S l).cps).foldl (· ++ ·) (#[] : Array Nat)) = ((List.replicate n l).flatten).toArray := by
        apply Array.ext'
        rw [rep_fold]
        simp
      rw [this]
    rw [ef]
    refine ⟨?_, .str _, H, I.tok _, ⟨_, rfl⟩, q⟩
    rw [S_len, sizeLine_eq]
    simp
    rw [Nat.mul_comm]
    omega
end
/-! ### data that are told the same: _law_same -/
/-- the type of a list or a tuple that is read -/
def IsSeq (K : PySem.W.Frag) (H : Hp) (t : String) (a : Addr) (xs : List V) : Prop := (t = "tuple" ∧ SqT K H a xs ∧ TyX K H (.ref a) (.type "tuple")) ∨ (t = "list" ∧ SqL K H a xs ∧ TyX K H (.ref a) (.type "list"))
theorem IsSeq.tup {K : PySem.W.Frag} {H : Hp} {a : Addr} {xs : List V} (h : H a = some (.tup xs)) : IsSeq K H "tuple" a xs := .inl ⟨rfl, SqT.of h, .base (.tup h)⟩
theorem IsSeq.lst {K : PySem.W.Frag} {H : Hp} {a : Addr} {xs : List V} (h : H a = some (.lst xs)) : IsSeq K H "list" a xs := .inr ⟨rfl, SqL.of h, .base (.lst h)⟩
/-- a number, a text, a truth, None -/
def Leaf : V → Prop
  | .int _ => True
  | .str _ => True
  | .bl _ => True
  | .non => True
  | _ => False
def SameD (K : PySem.W.Frag) (H : Hp) : Nat → V → V → Prop
  | 0, x, y => Leaf x ∧ x = y
  | n + 1, x, y => (Leaf x ∧ x = y) ∨ ∃ (t : String) (a b : Addr) (xs ys : List V), x = .ref a ∧ y = .ref b ∧ IsSeq K H t a xs ∧ IsSeq K H t b ys ∧ xs.length = ys.length ∧ ys.length ≤ 1000000 ∧
      ∀ (i : Nat) (u v : V), xs[i]? = some u → ys[i]? = some v → SameD K H n u v
theorem SameD.leaf {K : PySem.W.Frag} {H : Hp} {n : Nat} {x : V} (h : Leaf x) : SameD K H n x x := by
  cases n with
  | zero => exact ⟨h, rfl⟩
  | succ n => exact .inl ⟨h, rfl⟩
theorem SameD.seq {K : PySem.W.Frag} {H : Hp} {n : Nat} {t : String} {a b : Addr} {xs ys : List V} (h1 : IsSeq K H t a xs) (h2 : IsSeq K H t b ys) (hl : xs.length = ys.length) (hz : ys.length ≤ 1000000)
    (h : ∀ (i : Nat) (u v : V), xs[i]? = some u → ys[i]? = some v → SameD K H n u v) : SameD K H (n + 1) (.ref a) (.ref b) := .inr ⟨t, a, b, xs, ys, rfl, rfl, h1, h2, hl, hz, h⟩
/-- rows of leaves -/
theorem SameD.row {K : PySem.W.Frag} {H : Hp} {n : Nat} {a b : Addr} {xs : List V} (h1 : H a = some (.tup xs)) (h2 : H b = some (.tup xs)) (hz : xs.length ≤ 1000000) (h : ∀ x ∈ xs, Leaf x) : SameD K H (n + 1) (.ref a) (.ref b) :=
  .seq (.tup h1) (.tup h2) rfl hz fun i u v hu hv => by
    rw [hu] at hv
    cases hv
    exact .leaf (h u (List.mem_of_getElem? hu))
def spSame (K : PySem.W.Frag) (n : Nat) : Sp := fun vs H Q _ => ∃ x y : V, vs = [x, y] ∧ SameD K H n x y ∧ Q (.bl true) H
end HL
namespace HL
open PySem PySem.Spec PyProof.Rows L2 SX
/-- isinstance of two built-in classes -/
theorem kit_two {K : PySem.W.Frag} {T a b : String} {x y : Bool} (h1 : kitB T a = some x) (h2 : kitB T b = some y) : PySem.W.kitAny K (.type T) [.type a, .type b] = some (x || y) := by
  have e1 := kit_ty (K := K) h1
  have e2 := kit_ty (K := K) h2
  simp only [PySem.W.kitAny, e1, e2]
  cases x <;> cases y <;> rfl
theorem tyx_same {K : PySem.W.Frag} {H H' : Hp} {x : V} {t : Value} (s : Same H H') (h : TyX K H x t) : TyX K H' x t := by
  cases h with
  | base b =>
    cases b with
    | non => exact .base .non
    | bl y => exact .base (.bl y)
    | int i => exact .base (.int i)
    | str y => exact .base (.str y)
    | flt y => exact .base (.flt y)
    | lst e => exact .base (.lst (s _ _ e))
    | frz e => exact .base (.frz (s _ _ e))
    | tup e => exact .base (.tup (s _ _ e))
    | dK e => exact .base (.dK (s _ _ e))
    | dT e => exact .base (.dT (s _ _ e))
    | ins e h1 h2 h3 h4 h5 => exact .base (.ins (s _ _ e) h1 h2 h3 h4 h5)
  | byt y => exact .byt y
  | set e => exact .set (s _ _ e)
  | kList e c => exact .kList e c
  | kTuple e c => exact .kTuple e c
  | kDict e c => exact .kDict e c
  | fTuple e => exact .fTuple (s _ _ e)
  | fDict e => exact .fDict (s _ _ e)
theorem seqT_same {K : PySem.W.Frag} {H H' : Hp} {a : Addr} {xs : List V} (e : Same H H') (h : SqT K H a xs) : SqT K H' a xs := by
  rcases h with (h | ⟨o, h⟩) | h
  · exact .inl (.inl (e _ _ h))
  · exact .inl (.inr ⟨o, e _ _ h⟩)
  · exact .inr h
theorem isSeq_same {K : PySem.W.Frag} {H H' : Hp} {t : String} {a : Addr} {xs : List V} (s : Same H H') (h : IsSeq K H t a xs) : IsSeq K H' t a xs := by
  rcases h with ⟨e, h1, h2⟩ | ⟨e, h1, h2⟩
  · exact .inl ⟨e, seqT_same s h1, tyx_same s h2⟩
  · exact .inr ⟨e, s.seq h1, tyx_same s h2⟩
theorem sameD_same {K : PySem.W.Frag} {H H' : Hp} (s : Same H H') : ∀ {n : Nat} {x y : V}, SameD K H n x y → SameD K H' n x y
  | 0, x, y, h => h
  | n + 1, x, y, h => by
    rcases h with h | ⟨t, a, b, xs, ys, e1, e2, h1, h2, el, hz, hh⟩
    · exact .inl h
    · exact .inr ⟨t, a, b, xs, ys, e1, e2, isSeq_same s h1, isSeq_same s h2, el, hz, fun i u v hu hv => sameD_same s (hh i u v hu hv)⟩
/-- told the same; the heap may grow -/
def spSameG (K : PySem.W.Frag) (n : Nat) : Sp := fun vs H Q _ => ∃ x y : V, vs = [x, y] ∧ SameD K H n x y ∧ ∀ H', Same H H' → Q (.bl true) H'
end HL
namespace HL
open PySem PySem.Spec PyProof.Rows L2 SX
/-- a list or a tuple, also a locked one -/
def Seqo : HO → Prop
  | .lst _ => True
  | .tup _ => True
  | .frz _ (.lst _) => True
  | .frz _ (.tup _) => True
  | _ => False
def SeqKept (H H' : Hp) : Prop := ∀ a o, H a = some o → Seqo o → H' a = some o
theorem _root_.L2.Same.seqKept {H H' : Hp} (s : Same H H') : SeqKept H H' := fun a o h _ => s a o h
theorem SeqKept.seqT {K : PySem.W.Frag} {H H' : Hp} {a : Addr} {xs : List V} (e : SeqKept H H') (h : SqT K H a xs) : SqT K H' a xs := by
  rcases h with (h | ⟨o, h⟩) | h
  · exact .inl (.inl (e _ _ h True.intro))
  · exact .inl (.inr ⟨o, e _ _ h True.intro⟩)
  · exact .inr h
theorem SeqKept.seq {K : PySem.W.Frag} {H H' : Hp} {a : Addr} {xs : List V} (e : SeqKept H H') (h : SqL K H a xs) : SqL K H' a xs := by
  rcases h with (h | ⟨o, h⟩) | h
  · exact .inl (.inl (e _ _ h True.intro))
  · exact .inl (.inr ⟨o, e _ _ h True.intro⟩)
  · exact .inr h
theorem tyx_tup {K : PySem.W.Frag} {H H' : Hp} {x : V} {t : Value} (s : SeqKept H H') (ht : t = .type "tuple" ∨ t = .type "list") (h : TyX K H x t) : TyX K H' x t := by
  cases h with
  | base b =>
    cases b with
    | non => exact .base .non
    | bl y => exact .base (.bl y)
    | int i => exact .base (.int i)
    | str y => exact .base (.str y)
    | flt y => exact .base (.flt y)
    | lst e => exact .base (.lst (s _ _ e True.intro))
    | frz e => exact .base (.frz (s _ _ e True.intro))
    | tup e => exact .base (.tup (s _ _ e True.intro))
    | dK e => rcases ht with z | z <;> exact absurd (Value.type.inj z) (by decide)
    | dT e => rcases ht with z | z <;> exact absurd (Value.type.inj z) (by decide)
    | ins e h1 h2 h3 h4 h5 => rcases ht with z | z <;> cases z
  | byt y => exact .byt y
  | set e => rcases ht with z | z <;> exact absurd (Value.type.inj z) (by decide)
  | kList e c => exact .kList e c
  | kTuple e c => exact .kTuple e c
  | kDict e c => exact .kDict e c
  | fTuple e => exact .fTuple (s _ _ e True.intro)
  | fDict e => rcases ht with z | z <;> exact absurd (Value.type.inj z) (by decide)
theorem isSeq_kept {K : PySem.W.Frag} {H H' : Hp} {t : String} {a : Addr} {xs : List V} (s : SeqKept H H') (h : IsSeq K H t a xs) : IsSeq K H' t a xs := by
  rcases h with ⟨e, h1, h2⟩ | ⟨e, h1, h2⟩
  · exact .inl ⟨e, s.seqT h1, tyx_tup s (.inl rfl) h2⟩
  · exact .inr ⟨e, s.seq h1, tyx_tup s (.inr rfl) h2⟩
theorem sameD_kept {K : PySem.W.Frag} {H H' : Hp} (s : SeqKept H H') : ∀ {n : Nat} {x y : V}, SameD K H n x y → SameD K H' n x y
  | 0, x, y, h => h
  | n + 1, x, y, h => by
    rcases h with h | ⟨t, a, b, xs, ys, e1, e2, h1, h2, el, hz, hh⟩
    · exact .inl h
    · exact .inr ⟨t, a, b, xs, ys, e1, e2, isSeq_kept s h1, isSeq_kept s h2, el, hz, fun i u v hu hv => sameD_kept s (hh i u v hu hv)⟩
/-- a dict locked, and the way back -/
theorem seqKept_lock {H : Hp} {d : Addr} {kvs : List (Key × V)} {o : HO} (h : H d = some (.dK kvs)) : SeqKept H (upd H d o) := fun a x hx hs => by
  have ne : a ≠ d := fun e => by
    rw [e, h] at hx
    cases hx
    exact hs
  rw [upd_ne ne]
  exact hx
theorem unlock {H H' : Hp} {d : Addr} {u o : HO} (h : H d = some u) (s : Same (upd H d o) H') : Same H (upd H' d u) := fun a x hx => by
  by_cases e : a = d
  · subst e
    rw [upd_same, ← h, hx]
  · rw [upd_ne e]
    exact s a x (by rw [upd_ne e]; exact hx)
end HL
namespace HL
open PySem PySem.Spec PyProof.Rows L2 SX
/-! ### methods, classes -/
/-- a method of the class at C -/
structure DefM (K : PySem.W.Frag) (C : Addr) (x q : Str) (st : Stmt) (ps : List Str) (f : Addr) (fd : FuncData) : Prop where
  F : Fun K x q st f fd
  b : Binds K fd ps []
  m : Meth K C x f
/-- its __init__ -/
structure DefI (K : PySem.W.Frag) (q : Str) (st : Stmt) (ps : List Str) (f : Addr) (fd : FuncData) : Prop where
  F : Fun K "__init__" q st f fd
  b : Binds K fd ps []
structure ClsN (K : PySem.W.Frag) (mg : Str → Option Value) (x : Str) (C fI : Addr) : Prop where
  g : mg x = some (.ref C)
  cl : Cls K C
  make : Mk K C fI
/-- an own exception without an __init__, under ValueError -/
structure ExcN (K : PySem.W.Frag) (mg : Str → Option Value) (x : Str) (C : Addr) : Prop where
  g : mg x = some (.ref C)
  ex : PySem.W.excIn K C [.type "ValueError", .type "Exception", .type "BaseException", .type "object"] "ValueError.__new__" = true
  kp : PySem.W.keepIn K (.ref C) = true
  sub : PySem.W.subIn K (.ref C) (.type "BaseException") = some true
  ty : PySem.W.typeIn K (.ref C) = some (.type "type")
  te : PySem.W.exmOne K (.ref C) (.ref C) = some true
/-- its class is caught by its name -/
theorem exm_of {K : PySem.W.Frag} {S : Addr} (h1 : PySem.W.subIn K (.ref S) (.type "BaseException") = some true) (h2 : PySem.W.isClsIn K S = true) (h3 : PySem.W.typeIn K (.ref S) = some (.type "type")) (h4 : PySem.W.subIn K (.ref S) (.ref S) = some true) :
    PySem.W.exmOne K (.ref S) (.ref S) = some true := by
  have e1 : (PySem.W.subIn K (.ref S) (.type "BaseException") == some true) = true := by rw [h1] <;> rfl
  have e2 : ((PySem.W.clsIn K S).isSome && PySem.W.typeIn K (.ref S) == some (.type "type")) = true := by
    have h2' : (PySem.W.clsIn K S).isSome = true := h2
    rw [h2', h3] <;> rfl
  show (if (PySem.W.subIn K (.ref S) (.type "BaseException") == some true) = true then (if ((PySem.W.clsIn K S).isSome && PySem.W.typeIn K (.ref S) == some (.type "type")) = true then PySem.W.subIn K (.ref S) (.ref S) else none) else none) = some true
  rw [if_pos e1, if_pos e2]
  exact h4
/-! ### fields -/
theorem putF_nil (f : Str) (v : V) : putF f v [] = [(f, v)] := rfl
theorem putF_eq (f : Str) (v x : V) (r : List (Str × V)) : putF f v ((f, x) :: r) = (f, v) :: r := if_pos rfl
theorem putF_ne {f g : Str} (h : ¬ g = f) (v x : V) (r : List (Str × V)) : putF f v ((g, x) :: r) = (g, x) :: putF f v r := if_neg h
theorem lkF_eq (f : Str) (v : V) (r : List (Str × V)) : List.lookup f ((f, v) :: r) = some v := by
  have h : (f == f) = true := beq_iff_eq.mpr rfl
  simp only [List.lookup, h]
theorem lkF_ne {f g : Str} (h : ¬ g = f) (v : V) (r : List (Str × V)) : List.lookup g ((f, v) :: r) = List.lookup g r := by
  have h' : (g == f) = false := beq_eq_false_iff_ne.mpr h
  simp only [List.lookup, h']
/-! ### two lists, item by item -/
inductive All2 {α β : Type _} (R : α → β → Prop) : List α → List β → Prop
  | nil : All2 R [] []
  | cons {x : α} {y : β} {xs : List α} {ys : List β} : R x y → All2 R xs ys → All2 R (x :: xs) (y :: ys)
namespace All2
variable {α β γ : Type _} {R S : α → β → Prop}
theorem len {xs : List α} {ys : List β} (h : All2 R xs ys) : xs.length = ys.length := by
  induction h with
  | nil => rfl
  | cons _ _ ih => simp [ih]
theorem mono {xs : List α} {ys : List β} (h : All2 R xs ys) (f : ∀ x y, R x y → S x y) : All2 S xs ys := by
  induction h with
  | nil => exact .nil
  | cons a _ ih => exact .cons (f _ _ a) ih
theorem app {xs xs' : List α} {ys ys' : List β} (h : All2 R xs ys) (h' : All2 R xs' ys') : All2 R (xs ++ xs') (ys ++ ys') := by
  induction h with
  | nil => exact h'
  | cons a _ ih => exact .cons a ih
theorem one {x : α} {y : β} (h : R x y) : All2 R [x] [y] := .cons h .nil
theorem snoc {xs : List α} {ys : List β} {x : α} {y : β} (h : All2 R xs ys) (a : R x y) : All2 R (xs ++ [x]) (ys ++ [y]) := h.app (one a)
theorem take {xs : List α} {ys : List β} (h : All2 R xs ys) (n : Nat) : All2 R (xs.take n) (ys.take n) := by
  induction h generalizing n with
  | nil => simp; exact .nil
  | cons a _ ih =>
    cases n with
    | zero => exact .nil
    | succ n => exact .cons a (ih n)
theorem drop {xs : List α} {ys : List β} (h : All2 R xs ys) (n : Nat) : All2 R (xs.drop n) (ys.drop n) := by
  induction h generalizing n with
  | nil => simp; exact .nil
  | cons a hb ih =>
    cases n with
    | zero => exact .cons a hb
    | succ n => exact ih n
theorem get {xs : List α} {ys : List β} (h : All2 R xs ys) {i : Nat} {x : α} (e : xs[i]? = some x) : ∃ y, ys[i]? = some y ∧ R x y := by
  induction h generalizing i with
  | nil => simp at e
  | cons a _ ih =>
    cases i with
    | zero =>
      simp at e
      subst e
      exact ⟨_, rfl, a⟩
    | succ i => exact ih (by simpa using e)
theorem getR {xs : List α} {ys : List β} (h : All2 R xs ys) {i : Nat} {y : β} (e : ys[i]? = some y) : ∃ x, xs[i]? = some x ∧ R x y := by
  induction h generalizing i with
  | nil => simp at e
  | cons a _ ih =>
    cases i with
    | zero =>
      simp at e
      subst e
      exact ⟨_, rfl, a⟩
    | succ i => exact ih (by simpa using e)
theorem of_at {xs : List α} {ys : List β} (hl : xs.length = ys.length) (h : ∀ (i : Nat) (x : α) (y : β), xs[i]? = some x → ys[i]? = some y → R x y) : All2 R xs ys := by
  induction xs generalizing ys with
  | nil =>
    cases ys with
    | nil => exact .nil
    | cons _ _ => simp at hl
  | cons x xs ih =>
    cases ys with
    | nil => simp at hl
    | cons y ys => exact .cons (h 0 x y rfl rfl) (ih (by simpa using hl) fun i a b ha hb => h (i + 1) a b (by simpa using ha) (by simpa using hb))
end All2
/-- a row: at v stands a tuple of what f tells -/
def IsRow {α : Type _} (f : α → List V) (H : Hp) (v : V) (x : α) : Prop := ∃ t, v = .ref t ∧ H t = some (.tup (f x))
theorem IsRow.same {α : Type _} {f : α → List V} {H H' : Hp} {v : V} {x : α} (h : IsRow f H v x) (s : ∀ t o, H t = some (.tup o) → H' t = some (.tup o)) : IsRow f H' v x := by
  obtain ⟨t, e, ht⟩ := h
  exact ⟨t, e, s _ _ ht⟩
/-- slices with an end -/
theorem cut_to (xs : List V) (n : Nat) : cutV xs none (some (n : Int)) = xs.take n := by
  unfold cutV
  rw [HT.sIx_none, HT.sIx_nat, Nat.sub_zero, List.drop_zero]
  by_cases h : n ≤ xs.length
  · rw [Nat.min_eq_left h]
  · have h' : xs.length ≤ n := by omega
    rw [Nat.min_eq_right h', List.take_of_length_le (Nat.le_refl _), List.take_of_length_le h']
theorem cut_from (xs : List V) (n : Nat) : cutV xs (some (n : Int)) none = xs.drop n := by
  unfold cutV
  rw [HT.sIx_none, HT.sIx_nat]
  by_cases h : n ≤ xs.length
  · rw [Nat.min_eq_left h, List.take_of_length_le]
    rw [List.length_drop]
    exact Nat.le_refl _
  · have h' : xs.length ≤ n := by omega
    rw [Nat.min_eq_right h', Nat.sub_self, List.take_zero, List.drop_of_length_le h']
theorem cut_mid (xs : List V) (a b : Nat) : cutV xs (some (a : Int)) (some (b : Int)) = (xs.drop a).take (b - a) := by
  unfold cutV
  rw [HT.sIx_nat, HT.sIx_nat]
  by_cases ha : a ≤ xs.length
  · rw [Nat.min_eq_left ha]
    by_cases hb : b ≤ xs.length
    · rw [Nat.min_eq_left hb]
    · have hb' : xs.length ≤ b := by omega
      rw [Nat.min_eq_right hb', List.take_of_length_le (by rw [List.length_drop]; omega), List.take_of_length_le (by rw [List.length_drop]; omega)]
  · have ha' : xs.length ≤ a := by omega
    rw [Nat.min_eq_right ha', List.drop_of_length_le (Nat.le_refl _), List.drop_of_length_le ha']
    simp
/-- a natural number -/
def vi (n : Nat) : V := .int (n : Int)
theorem vi_inj {a b : Nat} (h : vi a = vi b) : a = b := by
  have := V.int.inj h
  omega
theorem map_vi (l : List Nat) : l.map vi = (l.map fun n : Nat => (n : Int)).map V.int := by
  rw [List.map_map]
  rfl
theorem get_vi {l : List Nat} {i : Nat} {x : V} (h : (l.map vi)[i]? = some x) : ∃ n, l[i]? = some n ∧ x = vi n := by
  rw [List.getElem?_map] at h
  cases e : l[i]? with
  | none => rw [e] at h; cases h
  | some n => rw [e] at h; exact ⟨n, rfl, (Option.some.inj h).symm⟩
theorem take_snoc {α : Type _} {l : List α} {i : Nat} {x : α} (h : l[i]? = some x) : l.take (i + 1) = l.take i ++ [x] := by
  rw [List.take_add_one, h]
  rfl
theorem same_list {K : PySem.W.Frag} {H : Hp} {n : Nat} {a b : Addr} {xs : List Nat} (h1 : H a = some (.lst (xs.map vi))) (h2 : H b = some (.lst (xs.map vi))) (hl : xs.length ≤ 1000000) : SameD K H (n + 1) (.ref a) (.ref b) :=
  .seq (.lst h1) (.lst h2) rfl (by rw [List.length_map]; omega) fun i u v hu hv => by
    rw [hu] at hv
    cases hv
    obtain ⟨k, _, rfl⟩ := get_vi hu
    exact .leaf True.intro
theorem Same.none {H H' : Hp} (s : Same H H') {b : Addr} (h : H' b = none) : H b = none := by
  cases e : H b with
  | none => rfl
  | some o => rw [s _ _ e] at h; cases h
theorem Same.tr {H H1 H2 : Hp} (a : Same H H1) (b : Same H1 H2) : Same H H2 := fun c o h => b c o (a c o h)
/-- lists of natural numbers as data -/
def di (n : Nat) : PyData := .int (n : Int)
theorem dp_vis {K : PySem.W.Frag} {H : Hp} : ∀ xs : List Nat, DpAll K H (xs.map vi) (xs.map di)
  | [] => .nil
  | n :: xs => .cons (.int (n : Int)) (dp_vis xs)
theorem dis_can : ∀ xs : List Nat, PyData.canLayAll0 (xs.map di) = true
  | [] => rfl
  | n :: xs => by
    show (true && PyData.canLayAll0 (xs.map di)) = true
    rw [dis_can xs]
    rfl
theorem dis_depth : ∀ xs : List Nat, PyData.depthAll (xs.map di) ≤ 1
  | [] => Nat.zero_le _
  | n :: xs => by
    have := dis_depth xs
    simp only [List.map_cons, PyData.depthAll, di, PyData.depth] at this ⊢
    omega
theorem shaped_ints (xs : List Nat) : SeqAt.shaped (.list (xs.map di)) = true := by
  have h1 := dis_can xs
  have h2 := dis_depth xs
  simp only [SeqAt.shaped, PyData.canLay0, PyData.depth, Bool.and_eq_true, decide_eq_true_eq]
  exact ⟨h1, decide_eq_true (by omega)⟩
theorem eqv_ints (xs ys : List Nat) : PyData.eqv (.list (xs.map di)) (.list (ys.map di)) = decide (xs = ys) := by
  have h : ∀ xs ys : List Nat, PyData.eqvAll (xs.map di) (ys.map di) = decide (xs = ys) := by
    intro xs
    induction xs with
    | nil =>
      intro ys
      cases ys with
      | nil => rfl
      | cons y ys => simp [PyData.eqvAll]
    | cons x xs ih =>
      intro ys
      cases ys with
      | nil => simp [PyData.eqvAll]
      | cons y ys =>
        show (PyData.eqv (di x) (di y) && PyData.eqvAll (xs.map di) (ys.map di)) = _
        rw [ih ys]
        by_cases e : x = y
        · subst e
          simp [PyData.eqv, di]
        · have h' : ¬ (x : Int) = (y : Int) := by omega
          simp [PyData.eqv, di, e, h']
  show PyData.eqvAll (xs.map di) (ys.map di) = _
  exact h xs ys
theorem dp_list {K : PySem.W.Frag} {H : Hp} {a : Addr} {xs : List Nat} (h : H a = some (.lst (xs.map vi))) : Dp K H (.ref a) (.list (xs.map di)) := .lst (SqL.of h) (dp_vis xs)
end HL
namespace HX
open PySem PySem.Spec PyProof.Rows L2 SX HL
section
variable {Y : Cx} {cx : CXT} {n : Nat} {g cl : Addr} {gd : FuncData} {qs : List Str} {pr : Sp} {Ex : L2.St → XK} {nm : Str} {p0 q0 r0 : Pos} {a0 o0 : Expr} {as : List Expr} {to_ : TE} {ar : TA}
/-- a method called where what it lets out is wanted by the slots -/
def tMethS (cl : Addr) (nm : Str) (pr : Sp) (Ex : L2.St → XK) (to_ : TE) (ar : TA) : TE := fun σ H Q => to_ σ H fun x H1 => ∃ a dx fs, x = .ref a ∧ H1 a = some (.ins cl dx fs) ∧ fs.lookup nm = none ∧
  ar σ H1 fun vs H2 => pr (x :: vs) H2 Q (Ex σ)
theorem pe_methS1 {pl : Sem Bool} (ho : PE Y o0 to_) (cc : Cls Y.K cl) (mm : Meth Y.K cl nm g) (G : FnOk Y.prog Y.w Y.K Y.mg Y.base cx n g gd qs pr) (room : Room n Y.A) (bb : Binds Y.K gd qs []) (hx : ∀ σ, PassesAt cx Y σ (Ex σ)) (ha : PA Y (a0 :: as) ar)
    (hst : starEach (a0 :: as) Y.env = (false, eval a0 Y.env) :: starEach as Y.env := by rfl) (hpl : (backTo p0 (starEach as Y.env)).any (·.1) = false := by rfl)
    (ht : eval (.Call (.Attribute o0 nm r0) (a0 :: as) [] p0) Y.env = (do
      let ob ← eval o0 Y.env
      standAt r0.atName
      let (fn, fst) ← holding [ob] (getMethod ob nm pl)
      callWith p0 fn fst (backTo p0 (starEach (a0 :: as) Y.env)) (backToKw p0 (keywordEach [] Y.env))) := by rfl) :
    PE Y (.Call (.Attribute o0 nm r0) (a0 :: as) [] p0) (tMethS cl nm pr Ex to_ ar) := by
  refine ⟨fun pins s σ H Q I0 h0 => PySem.W.methodCall_KW (pl := pl) (thn (ho.run pins s σ H _ I0 h0) fun u s1 ⟨x, H1, I1, rx, a, dx, fs, ex, ea, l, q⟩ => ?_) ht⟩
  subst ex
  obtain rfl : u = Value.ref a := rx
  refine getmeth_ok I1 ea cc mm l (PySem.W.callWith_K (first := [.ref a]) (h₀ := Y.base) I1.ok.mod.kin mm.kp (thn (ha.run p0 pins s1 σ H1 _ I1 q) fun us s2 ⟨vs, H2, I2, r, q2⟩ => ⟨I2.kIn, ?_⟩) hst hpl)
  exact run_fnS (us := .ref a :: us) (vs := .ref a :: vs) G room bb (hx σ) I2 (.cons rfl r) q2
theorem pe_methS0 {pl : Sem Bool} (ho : PE Y o0 to_) (cc : Cls Y.K cl) (mm : Meth Y.K cl nm g) (G : FnOk Y.prog Y.w Y.K Y.mg Y.base cx n g gd qs pr) (room : Room n Y.A) (bb : Binds Y.K gd qs []) (hx : ∀ σ, PassesAt cx Y σ (Ex σ))
    (ht : eval (.Call (.Attribute o0 nm r0) [] [] p0) Y.env = (do
      let ob ← eval o0 Y.env
      standAt r0.atName
      let (fn, fst) ← holding [ob] (getMethod ob nm pl)
      callWith p0 fn fst (backTo p0 (starEach [] Y.env)) (backToKw p0 (keywordEach [] Y.env))) := by rfl) :
    PE Y (.Call (.Attribute o0 nm r0) [] [] p0) (tMethS cl nm pr Ex to_ tNil) := by
  refine ⟨fun pins s σ H Q I0 h0 => PySem.W.methodCall_KW (pl := pl) (thn (ho.run pins s σ H _ I0 h0) fun u s1 ⟨x, H1, I1, rx, a, dx, fs, ex, ea, l, q⟩ => ?_) ht⟩
  subst ex
  obtain rfl : u = Value.ref a := rx
  exact getmeth_ok I1 ea cc mm l (PySem.W.callWith_K0 (first := [.ref a]) I1.kIn mm.kp (run_fnS (us := [.ref a]) (vs := [.ref a]) G room bb (hx σ) I1 (.cons rfl .nil) q))
theorem pe_callS0 (G : FnOk Y.prog Y.w Y.K Y.mg Y.base cx n g gd qs pr) (room : Room n Y.A) (hg : Gl Y nm) (hm : Y.mg nm = some (.ref g)) (hk : PySem.W.keepIn Y.K (.ref g) = true) (bb : Binds Y.K gd qs []) (hx : ∀ σ, PassesAt cx Y σ (Ex σ))
    (hdb : (nm == ("__debug__" : Str)) = false := by decide) : PE Y (.Call (.Name nm q0) [] [] p0) (tCallS pr Ex tNil) := by
  refine ⟨fun pins s σ H Q I0 h0 => wpAny_Call_Name_kw (ld_glob I0 hg hm ?_ hdb)⟩
  exact PySem.W.callWith_K0 I0.kIn hk (run_fnS (us := []) G room bb (hx σ) I0 .nil h0)
end
end HX
namespace HX
open PySem PySem.Spec PyProof.Rows L2 SX HL
theorem bd_full {K : PySem.W.Frag} {fd : FuncData} {ps : List Str} (h : ∃ ds, Vals [] ds ∧ Binds K fd ps ds) : Binds K fd ps [] := by
  obtain ⟨ds, v, b⟩ := h
  cases v
  exact b
/-- a method whose last parameters have defaults -/
structure DefMD (K : PySem.W.Frag) (C : Addr) (x q : Str) (st : Stmt) (ps : List Str) (dvs : List V) (f : Addr) (fd : FuncData) : Prop where
  F : FunD K x q (defArgs st) (defBody st) (defScope st) dvs [] f fd
  m : Meth K C x f
  bd : ∃ ds, Vals dvs ds ∧ Binds K fd ps ds
  b : Binds K fd ps []
end HX
namespace HX
open PySem PySem.Spec PyProof.Rows L2 SX HL
/-! ### rules within comprehensions: K is told -/
section
variable {X : Cx} {K : PySem.W.Frag}
theorem call_len_seqK (h : X.K = K) : CallR X (.builtin "len") (fun xs H Q => ∃ p ys, xs = [.ref p] ∧ (SqL K H p ys ∨ SqT K H p ys) ∧ Q (.int ys.length) H) := by
  subst h
  exact call_len_seq
theorem op_eqDK (h : X.K = K) (hu : X.A.units + 64 < cLine) : OpR X (compareOp .Eq) (rEqD K) := by
  subst h
  exact op_eqD hu
theorem op_neDK (h : X.K = K) (hu : X.A.units + 64 < cLine) : OpR X (compareOp .NotEq) (rNeD K) := by
  subst h
  exact op_neD hu
theorem sl_listK (h : X.K = K) : SlR X (rSlL K) := by
  subst h
  exact sl_list
theorem ix_seqK (h : X.K = K) : IxR X (rIx K) := by
  subst h
  exact ix_seq
theorem op_inDK (h : X.K = K) (hu : X.A.units + 65 < cLine) : OpR X (compareOp .In) (rInD K) := by
  subst h
  exact op_inD hu
theorem op_notInDK (h : X.K = K) (hu : X.A.units + 65 < cLine) : OpR X (compareOp .NotIn) (rNotInD K) := by
  subst h
  exact op_notInD hu
theorem call_list_ofK (h : X.K = K) : CallR X (.type "list") (fun xs H Q => ∃ p ys, xs = [.ref p] ∧ (SqL K H p ys ∨ SqT K H p ys) ∧ ∀ l, H l = none → Q (.ref l) (upd H l (.lst ys))) := by
  subst h
  exact call_list_of
theorem call_isBK (h : X.K = K) : CallR X (.builtin "isinstance") (rIsB K) := by
  subst h
  exact call_isB
end
end HX
namespace HE
open PySem PySem.Spec PyProof.Rows L2 SX HL
/-! ## enumerate of a text, of a dict's keys -/
section
variable {prog : Program} {w : World} {A : Around} {E : Value → Shared → Prop} {s : Shared}
theorem keys_item {it d : Addr} {i n ep : Nat} {od : Obj} {es : Array DictEntry} {en : DictEntry} {Q : Value → Shared → Prop} (hit : s.heap.IsKeyIter it d i n ep) (hod : s.heap.get? d = some od) (hdd : od.data = .dict es ep) (hn : es.size = n) (hx : es[i]? = some en)
    (q : ∀ h', h'.IsKeyIter it d (i + 1) n ep → Heap.SameBut it s.heap h' → Q en.key { s with heap := h' }) : wpAny (model prog w) A (Builtin.SmallTypes.nextOf (.ref it)) Q E s := by
  obtain ⟨o, ho, oc, hd⟩ := id hit
  unfold Builtin.SmallTypes.nextOf
  refine wpAny_bind (wpAny_callSpecial?_slot (name := Str.ofString "__next__") hit.typeIs F.slot_dict_keyiterator_next (wpAny_call_entry F.slot_dict_keyiterator_next hit.typeIs F.entry_dict_keyiterator_next ?_ (F.args_dict_keyiterator_next_1 _)))
  refine wpAny_bind (wpAny_pure (wpAny_bind (wpAny_bind ?_)))
  first | refine wpAny_bind (wpAny_typeNameOfWhole_keyiter hit.typeIs (wpAny_pure (wpAny_bind (wpAny_fieldsOf ho hd ?_)))) | refine wpAny_bind (wpAny_typeNameOf_keyiter hit.typeIs (wpAny_pure (wpAny_bind (wpAny_fieldsOf ho hd ?_))))
  have own : Builtin.Dict_items.ownsTuple "dict_keyiterator" = false := by decide
  simp only [own, Bool.false_eq_true, if_false]
  show wpAny _ A.in1 (if (Value.ref d == Value.none) = true then _ else _) _ _ s
  rw [if_neg (show ¬ (Value.ref d == Value.none) = true from Bool.false_ne_true)]; refine wpAny_bind (wpAny_pure (wpAny_bind (wpAny_dictEntries hod hdd ?_)))
  rw [if_neg (by rw [hn]; simp)]; refine wpAny_bind (wpAny_pure (wpAny_bind (wpAny_dictEpoch hod hdd ?_)))
  rw [if_neg (by simp)]; refine wpAny_pure ?_
  obtain ⟨lt, he⟩ := Array.getElem?_eq_some_iff.mp hx
  simp only [show ¬ ((i : Int) < 0) from by omega, if_false, Int.toNat_natCast, Array.getElem?_eq_getElem lt]; refine wpAny_bind ?_
  first | refine wpAny_bind (wpAny_typeNameOfWhole_keyiter hit.typeIs (wpAny_pure (wpAny_bind (wpAny_isOneOf_keyiter hit.typeIs ?_)))) | refine wpAny_bind (wpAny_typeNameOf_keyiter hit.typeIs (wpAny_pure (wpAny_bind (wpAny_isOneOf_keyiter hit.typeIs ?_))))
  show wpAny _ _ (setField (.ref it) 1 (rawInt ((i : Int) + 1)) >>= _) _ _ s
  refine wpAny_bind (wpAny_setField ho hd (by simp) ?_)
  have it2 : (s.heap.update it (Obj.mapFields (·.setIfInBounds 1 (rawInt ((i : Int) + 1))))).IsKeyIter it d (i + 1) n ep := ⟨_, Heap.get?_update_self _ ho (Obj.isFreed_of_fields (Obj.data_mapFields hd _)), (Obj.cls_mapFields ..).trans oc, by rw [Obj.data_mapFields hd]; simp [rawInt]⟩
  refine wpAny_bind (wpAny_holding (wpAny_bind (wpAny_isOneOf_keyiter (s := { s with heap := s.heap.update it (Obj.mapFields (·.setIfInBounds 1 (rawInt ((i : Int) + 1)))) }) it2.typeIs ?_)))
  show wpAny _ A.in1 (pure es[i].key) _ _ _
  rw [he]; exact wpAny_pure (wpAny_pure ⟨_, rfl, wpAny_pure (q _ it2 (Heap.SameBut.update ..))⟩)
theorem keys_end {it d : Addr} {i n ep : Nat} {od : Obj} {es : Array DictEntry} {Q : Value → Shared → Prop} (hh : A.handled = none) (hit : s.heap.IsKeyIter it d i n ep) (hod : s.heap.get? d = some od) (hdd : od.data = .dict es ep) (hn : es.size = n) (hge : n ≤ i)
    (q : ∀ h' x, Heap.ExtBut it s.heap h' → (∃ o, h'.get? x = some o ∧ o.cls = .type "StopIteration") → E (.ref x) { s with heap := h' }) : wpAny (model prog w) A (Builtin.SmallTypes.nextOf (.ref it)) Q E s := by
  obtain ⟨o, ho, oc, hd⟩ := id hit
  unfold Builtin.SmallTypes.nextOf
  refine wpAny_bind (wpAny_callSpecial?_slot (name := Str.ofString "__next__") hit.typeIs F.slot_dict_keyiterator_next (wpAny_call_entry F.slot_dict_keyiterator_next hit.typeIs F.entry_dict_keyiterator_next ?_ (F.args_dict_keyiterator_next_1 _)))
  refine wpAny_bind (wpAny_pure (wpAny_bind (wpAny_bind ?_)))
  first | refine wpAny_bind (wpAny_typeNameOfWhole_keyiter hit.typeIs (wpAny_pure (wpAny_bind (wpAny_fieldsOf ho hd ?_)))) | refine wpAny_bind (wpAny_typeNameOf_keyiter hit.typeIs (wpAny_pure (wpAny_bind (wpAny_fieldsOf ho hd ?_))))
  have own : Builtin.Dict_items.ownsTuple "dict_keyiterator" = false := by decide
  simp only [own, Bool.false_eq_true, if_false]
  show wpAny _ A.in1 (if (Value.ref d == Value.none) = true then _ else _) _ _ s
  rw [if_neg (show ¬ (Value.ref d == Value.none) = true from Bool.false_ne_true)]; refine wpAny_bind (wpAny_pure (wpAny_bind (wpAny_dictEntries hod hdd ?_)))
  rw [if_neg (by rw [hn]; simp)]; refine wpAny_bind (wpAny_pure (wpAny_bind (wpAny_dictEpoch hod hdd ?_)))
  rw [if_neg (by simp)]; refine wpAny_pure ?_
  have ge : es.size ≤ i := by rw [hn]; exact hge
  simp only [show ¬ ((i : Int) < 0) from by omega, if_false, Int.toNat_natCast, Array.getElem?_eq_none ge]; refine wpAny_bind ?_
  first | refine wpAny_bind (wpAny_typeNameOfWhole_keyiter hit.typeIs (wpAny_pure ?_)) | refine wpAny_bind (wpAny_typeNameOf_keyiter hit.typeIs (wpAny_pure ?_))
  show wpAny _ A.in1 (setField (.ref it) 0 .none >>= _) _ _ s
  refine wpAny_bind (wpAny_setField ho hd (by simp) ?_)
  show wpAny _ A.in1 (newExc (.type "StopIteration") [] >>= _) _ _ _
  refine wpAny_bind ?_
  simp only [newExc, newTuple]; refine wpAny_bind (wpAny_newObj_type ?_ (by size_fits))
  refine wpAny_bind (m := firstArgMember _ _) (wpAny_of_eq (a := Value.none) (by first | rfl | (simp only [firstArgMember]; rfl)) (wpAny_newObj_type ?_ (by size_fits)))
  simp only [raiseNew]; refine wpAny_bind (wpAny_handled ?_)
  first | rw [show A.in1.handled = none from hh] | rw [hh]
  refine wpAny_bind (wpAny_pure (wpAny_throw ?_))
  exact q _ _ (((Heap.SameBut.update ..).extBut.push _).push _) ⟨_, Heap.get?_push_size _ rfl, rfl⟩
theorem draws_keys (hh : A.handled = none) (it d : Addr) (hne : d ≠ it) {od : Obj} {es : Array DictEntry} {ep : Nat} (hdd : od.data = .dict es ep) :
    Draws prog w A it [it, d] es.size (fun i v => ∃ en, es[i]? = some en ∧ v = en.key) (fun i h => h.IsKeyIter it d i es.size ep ∧ h.get? d = some od) where
  live := fun _ _ st => let ⟨o, ho, _⟩ := st.1; ⟨o, ho⟩
  frame := fun _ _ _ st k => ⟨st.1.at fun o e => k it (by simp) o e, k d (by simp) _ st.2⟩
  item := fun i s Q E hi st q => by
    refine keys_item st.1 st.2 hdd rfl (en := es[i]) (Array.getElem?_eq_getElem hi) fun h' it' sb => ?_
    exact q _ h' s.toks ⟨_, Array.getElem?_eq_getElem hi, rfl⟩ ⟨it', (sb.2 d hne).trans st.2⟩ sb
  done := fun s Q E st q => keys_end hh st.1 st.2 hdd rfl (Nat.le_refl _) q
end
open AutoSeq1 (wpAny_loadPart')
theorem meets_keys (d : Addr) (o : Obj) (es : Array DictEntry) (ep : Nat) (hd : (d == sysModules) = false) (hc : o.ExactDict) (hdat : o.data = .dict es ep) :
    Meets (Builtin.«enumerate.__new__» ⟨[.type "enumerate", .ref d], []⟩) (fun _ R s => s.heap.get? d = some o ∧
      R (.ok (.ret (.ref (s.heap.push { cls := .type "dict_keyiterator", data := .fields #[.ref d, .int 0 0, .int es.size 0, .int ep 0] }).objs.size)))
        { s with heap := (s.heap.push { cls := .type "dict_keyiterator", data := .fields #[.ref d, .int 0 0, .int es.size 0, .int ep 0] }).push { cls := .type "enumerate", data := .fields #[.none, .bool false, .ref s.heap.objs.size, rawInt 0, .none, .none] } }) :=
  .of_wp fun prog w A R s h => by
    obtain ⟨hp, g, dr, tk, os⟩ := s
    obtain ⟨ho, h⟩ := h
    have hsub := sub_enumerate
    have ik : ∀ {A : Around} {E : Value → Shared → Prop} {Q : Value → Shared → Prop}, Q (.ref hp.objs.size) ⟨hp.push { cls := .type "dict_keyiterator", data := .fields #[.ref d, .int 0 0, .int es.size 0, .int ep 0] }, g, dr, tk, os⟩ → wpAny (model prog w) A (pyIter (.ref d)) Q E ⟨hp, g, dr, tk, os⟩ := fun q => iter_keys (s := ⟨hp, g, dr, tk, os⟩) hd ho hc hdat q
    wp_walk using wpAny_loadPart' ho
    refine wpAny_stack_any fun st => wpAny_pure ?_
    split
    · rename_i c _ _ _ _ _
      cases (c == Value.type "enumerate") <;> (wp_walk using wpAny_loadPart' ho, ik; exact ⟨_, rfl, h⟩)
    · wp_walk using wpAny_loadPart' ho, ik
      exact ⟨_, rfl, h⟩
theorem call_enum_keys {prog : Program} {w : World} {A : Around} {E : Value → Shared → Prop} {s : Shared} {d : Addr} {o : Obj} {es : Array DictEntry} {ep : Nat} {Q : Value → Shared → Prop} (hd : (d == sysModules) = false) (ho : s.heap.get? d = some o) (hc : o.ExactDict) (hdat : o.data = .dict es ep)
    (q : ∀ h', IsEnum h' (s.heap.objs.size + 1) s.heap.objs.size 0 .none → h'.IsKeyIter s.heap.objs.size d 0 es.size ep → (∀ b x, s.heap.get? b = some x → h'.get? b = some x) → Q (.ref (s.heap.objs.size + 1)) { s with heap := h' }) :
    wpAny (model prog w) A (call (.type "enumerate") [.ref d]) Q E s := by
  refine callType_new F.called_enumerate (by decide) (F.typeCall_enumerate_1 _) (F.newCall_enumerate_1 _) (fun obj => F.args_object_init_2 obj _) F.entry_enumerate_new (meets_keys d o es ep hd hc hdat) ⟨ho, ?_⟩
  have hz : (s.heap.push { cls := .type "dict_keyiterator", data := .fields #[.ref d, .int 0 0, .int es.size 0, .int ep 0] }).objs.size = s.heap.objs.size + 1 := Heap.size_push ..
  show _ ∧ _
  rw [hz]
  have he : IsEnum ((s.heap.push { cls := .type "dict_keyiterator", data := .fields #[.ref d, .int 0 0, .int es.size 0, .int ep 0] }).push { cls := .type "enumerate", data := .fields #[.none, .bool false, .ref s.heap.objs.size, rawInt 0, .none, .none] }) (s.heap.objs.size + 1) s.heap.objs.size 0 .none := by
    have := Heap.get?_push_size (s.heap.push { cls := .type "dict_keyiterator", data := .fields #[.ref d, .int 0 0, .int es.size 0, .int ep 0] }) (o := { cls := .type "enumerate", data := .fields #[.none, .bool false, .ref s.heap.objs.size, rawInt 0, .none, .none] }) rfl
    rwa [hz] at this
  exact ⟨⟨_, he, rfl⟩, q _ he ⟨_, Heap.get?_push_of_some _ (Heap.get?_push_size _ rfl), rfl, rfl⟩ fun b x e => Heap.get?_push_of_some _ (Heap.get?_push_of_some _ e)⟩
/-- (0, key), (1, key), ..: the locked dict at d -/
def Itek (d : Addr) (o : Obj) (kvs : List (Key × V)) : It :=
  ⟨fun i H => H d = some (.frz o (.dK kvs)) ∧ i < kvs.length, fun i H v H' => ∃ T k x, kvs[i]? = some (k, x) ∧ v = .ref T ∧ H T = none ∧ H' = upd H T (.tup [.int (i : Nat), kV k]), fun i H => H d = some (.frz o (.dK kvs)) ∧ kvs.length ≤ i⟩
theorem turn_enumK {P : Program} {w : World} {K : PySem.W.Frag} {elts : List Expr} {kk : Nat} {tpos : Pos} {d : Addr} {o : Obj} {kvs : List (Key × V)} {es : Array DictEntry} {ep : Nat} (e it : Addr) (hod : o.data = .dict es ep) :
    Turn P w K (.Tuple elts kk tpos) (Itek d o kvs) [e, it] e (fun i h => (∃ old, IsEnum h e it ((i : Nat) : Int) old) ∧ h.IsKeyIter it d i kvs.length ep ∧ e ≠ it ∧ i ≤ kvs.length) where
  mem := by simp
  obj := fun i h st b hb => by
    obtain ⟨⟨old, he⟩, ⟨o', ho, hc, hd⟩, _⟩ := st
    rcases (show b = e ∨ b = it by simpa using hb) with z | z
    · rw [z]; exact ⟨_, he, fun v q => nomatch q⟩
    · rw [z]; exact ⟨o', ho, fun v q => by rw [hd] at q; cases q⟩
  keep := fun i h h' st k => let ⟨⟨old, he⟩, hi, hne, hle⟩ := st; ⟨⟨old, k e (by simp) _ he⟩, hi.at fun o q => k it (by simp) o q, hne, hle⟩
  item := by
    intro X hP hw hK hc i pins s σ H E I hf st hg
    subst hP hw hK
    obtain ⟨⟨old, he⟩, hit, hne, hle⟩ := st
    obtain ⟨hd, hi⟩ := hg
    obtain ⟨hs, hgd, hx, es', ep', vs, hdt, hsz, kv, hm⟩ := I.frzK hd
    obtain ⟨rfl, rfl⟩ := dict_ep hod hdt
    have hel : e < s.heap.objs.size := Heap.lt_size he
    have hil : it < s.heap.objs.size := by obtain ⟨_, q, _⟩ := hit; exact Heap.lt_size q
    have nd : ∀ b, FpOk X pins H b → d ≠ b := fun b hb z => by rw [← z] at hb; have := hb.1; rw [hd] at this; cases this
    have ndi := nd it (hf it (by simp))
    have nde := nd e (hf e (by simp))
    obtain ⟨⟨k, v⟩, hkv⟩ : ∃ p, kvs[i]? = some p := ⟨kvs[i], List.getElem?_eq_getElem hi⟩
    have D := draws_keys (prog := X.prog) (w := X.w) (A := X.A.in1) (I.ok.hd hc) it d ndi hdt
    rw [← hsz] at hit hi
    refine wpAny_pyNext_enum_itemD D he ⟨hit, hgd⟩ hi hne (by simp [hne, nde.symm]) fun x h' tk hP ho st' hT hsz' hk => ?_
    obtain ⟨en, hen, rfl⟩ := hP
    refine ⟨_, rfl, wpAny_letOwnedTupleGo_enum (s := { s with heap := h', toks := tk + 1 }) ho fun h'' he' sb => ?_⟩
    have hT2 : h''.get? s.heap.objs.size = some { cls := .type "tuple", data := .seq #[.int i tk, en.key] } := (sb.2 _ (Nat.ne_of_gt hel)).trans hT
    have rk : RelV (kV k) en.key := by
      obtain ⟨u, hu, _⟩ := kv_get kv hkv
      obtain ⟨od, es2, hod2, hcd, hdd, hks, hp, hnn⟩ := id hm
      rw [hgd] at hod2
      cases hod2
      rw [hdt] at hdd
      cases hdd
      exact relV_key (hp.get? (by simpa using hen) hu).1
    have new : ObjOk X.prog X.w (upd H s.heap.objs.size (.tup [.int (i : Nat), kV k])) h'' s.heap.objs.size (.tup [.int (i : Nat), kV k]) :=
      ⟨by show 2 ≤ sizeLine; decide, [.int i tk, en.key], .cons ⟨_, rfl⟩ (.cons rk .nil), ⟨_, hT2, rfl, _, rfl⟩⟩
    have I1 : Inv X pins σ (upd H s.heap.objs.size (.tup [.int (i : Nat), kV k])) { s with heap := h'', toks := tk + 1 } :=
      I.turnedNew (ch := [e, it]) (fun b ob hb q => (sb.2 b (fun z => hb (by simp [z]))).trans (hk b ob (fun z => hb (by simp [z])) (fun z => hb (by simp [z])) q)) hf (Nat.le_refl _) new
    refine ⟨.ref s.heap.objs.size, _, I1, rfl, ⟨_, k, v, hkv, rfl, I.hok.fresh (Nat.le_refl _), rfl⟩, ⟨⟨en.key, ?_⟩, ?_, hne, by omega⟩, fun b hb => ?_⟩
    · have e1 : ((i + 1 : Nat) : Int) = (i : Int) + 1 := by omega
      rw [e1]; exact he'
    · rw [← hsz]
      exact st'.1.at fun o q => (sb.2 it (Ne.symm hne)).trans q
    · have hb' : b < s.heap.objs.size := by
        rcases (show b = e ∨ b = it by simpa using hb) with z | z
        · rw [z]; exact hel
        · rw [z]; exact hil
      rw [upd_ne (Nat.ne_of_lt hb')]
      exact (hf b hb).1
  done := by
    intro X hP hw hK hc i pins s σ H E I hf st hg
    subst hP hw hK
    obtain ⟨⟨old, he⟩, hit, hne, hle⟩ := st
    obtain ⟨hd, hi⟩ := hg
    obtain ⟨hs, hgd, hx, es', ep', vs, hdt, hsz, kv, hm⟩ := I.frzK hd
    obtain ⟨rfl, rfl⟩ := dict_ep hod hdt
    obtain ⟨f0, f1, f2, f3, f4, f5⟩ := hf it (by simp)
    have nd : d ≠ it := fun z => by rw [← z, hd] at f0; cases f0
    have nde : d ≠ e := fun z => by have := (hf e (by simp)).1; rw [← z, hd] at this; cases this
    have ei : i = es'.size := by omega
    have D := draws_keys (prog := X.prog) (w := X.w) (A := X.A.in1) (I.ok.hd hc) it d nd hdt
    rw [← hsz, ei] at hit
    rw [ei] at he
    exact wpAny_pyNext_enum_endD D he ⟨hit, hgd⟩ fun h' eb => ⟨rfl, I.turned (t' := s.toks) (fun b o hb q => eb b o hb q) f0 f1 f3 f4 f5⟩
  self := fun A i s Q E st h => let ⟨⟨_, he⟩, _⟩ := st; wpAny_pyIter_enum he h
def iEnumK (ta : TA) : TI := fun σ H R => ta σ H fun vs H1 => ∃ d o kvs, vs = [.ref d] ∧ H1 d = some (.frz o (.dK kvs)) ∧ R (Itek d o kvs) H1
/-- for i, k in enumerate(d), d locked -/
theorem pi_enumK {X : Cx} {e : Expr} {ta : TA} {p pos tpos : Pos} {elts : List Expr} {kk : Nat} (hg : Gl X "enumerate") (hm : X.mg "enumerate" = none) (ha : PA X [e] ta) (hs : starEach [e] X.env = [(false, eval e X.env)] := by rfl) :
    PI X (.Tuple elts kk tpos) (.Call (.Name "enumerate" p) [e] [] pos) (iEnumK ta) := by
  refine ⟨fun pins s σ H R I h => Call_ (ld_blt I hg hm boot_enumerate (PyProof.Rows.callWith_type1 (thn (ha.run pos pins s σ H _ I h) fun us s1 ⟨vs, H1, I1, r1, q1⟩ => ?_) hs rfl))⟩
  obtain ⟨d, o, kvs, ex, hd, q⟩ := q1
  subst ex
  cases r1 with
  | cons r rr =>
    cases rr
    cases r
    obtain ⟨hsm, hgd, hx, es, ep, vs, hdt, hsz, kv, hmm⟩ := I1.frzK hd
    refine call_enum_keys hsm hgd hx hdt fun h' he hit hk => wpAny_pyIter_enum he ?_
    have I2 : Inv X pins σ H1 { s1 with heap := h' } := I1.kept (t' := s1.toks) hk
    rw [hsz] at hit
    refine ⟨s1.heap.objs.size + 1, [s1.heap.objs.size + 1, s1.heap.objs.size], _, _, H1, rfl, I2, turn_enumK (s1.heap.objs.size + 1) s1.heap.objs.size hdt, ⟨⟨.none, he⟩, hit, Nat.succ_ne_self _, Nat.zero_le _⟩, fun b hb => ?_, q⟩
    have hle : s1.heap.objs.size ≤ b := by
      rcases (show b = s1.heap.objs.size + 1 ∨ b = s1.heap.objs.size by simpa using hb) with z | z
      · rw [z]; exact Nat.le_add_right _ _
      · rw [z]; exact Nat.le_refl _
    exact I1.fpOk hle (I1.hok.fresh hle)
/-- (0, sign), (1, sign), ..: a text -/
def Ites (z : Str) : It :=
  ⟨fun i _ => i < z.cps.size, fun i H v H' => ∃ T c, z.cps[i]? = some c ∧ v = .ref T ∧ H T = none ∧ H' = upd H T (.tup [.int (i : Nat), .str ⟨#[c]⟩]), fun i _ => z.cps.size ≤ i⟩
theorem draws_str {prog : Program} {w : World} {A : Around} (hh : A.handled = none) (it : Addr) (x : Str) (t : Tok) : Draws prog w A it [it] x.cps.size (fun i v => ∃ c u, x.cps[i]? = some c ∧ v = .str ⟨#[c]⟩ u) (fun i h => h.IsStrIter it (strIterType x) x t i) := by
  unfold strIterType
  split
  · exact Draws.strAscii hh it x t
  · exact Draws.strWide hh it x t
theorem turn_enumS {P : Program} {w : World} {K : PySem.W.Frag} {elts : List Expr} {kk : Nat} {tpos : Pos} {z : Str} {t : Tok} (e it : Addr) :
    Turn P w K (.Tuple elts kk tpos) (Ites z) [e, it] e (fun i h => (∃ old, IsEnum h e it ((i : Nat) : Int) old) ∧ h.IsStrIter it (strIterType z) z t i ∧ e ≠ it ∧ i ≤ z.cps.size) where
  mem := by simp
  obj := fun i h st b hb => by
    obtain ⟨⟨old, he⟩, ⟨o', ho, hc, hd⟩, _⟩ := st
    rcases (show b = e ∨ b = it by simpa using hb) with y | y
    · rw [y]; exact ⟨_, he, fun v q => nomatch q⟩
    · rw [y]; exact ⟨o', ho, fun v q => by rw [hd] at q; cases q⟩
  keep := fun i h h' st k => let ⟨⟨old, he⟩, ⟨o, ho, r⟩, hne, hle⟩ := st; ⟨⟨old, k e (by simp) _ he⟩, ⟨o, k it (by simp) o ho, r⟩, hne, hle⟩
  item := by
    intro X hP hw hK hc i pins s σ H E I hf st hi
    subst hP hw hK
    obtain ⟨⟨old, he⟩, hit, hne, hle⟩ := st
    have hel : e < s.heap.objs.size := Heap.lt_size he
    have hil : it < s.heap.objs.size := by obtain ⟨_, q, _⟩ := hit; exact Heap.lt_size q
    have D := draws_str (prog := X.prog) (w := X.w) (A := X.A.in1) (I.ok.hd hc) it z t
    refine wpAny_pyNext_enum_itemD D he hit hi hne (by simp [hne]) fun x h' tk hP ho st' hT hsz' hk => ?_
    obtain ⟨c, u, hcu, rfl⟩ := hP
    refine ⟨_, rfl, wpAny_letOwnedTupleGo_enum (s := { s with heap := h', toks := tk + 1 }) ho fun h'' he' sb => ?_⟩
    have hT2 : h''.get? s.heap.objs.size = some { cls := .type "tuple", data := .seq #[.int i tk, .str ⟨#[c]⟩ u] } := (sb.2 _ (Nat.ne_of_gt hel)).trans hT
    have new : ObjOk X.prog X.w (upd H s.heap.objs.size (.tup [.int (i : Nat), .str ⟨#[c]⟩])) h'' s.heap.objs.size (.tup [.int (i : Nat), .str ⟨#[c]⟩]) :=
      ⟨by show 2 ≤ sizeLine; decide, [.int i tk, .str ⟨#[c]⟩ u], .cons ⟨_, rfl⟩ (.cons ⟨_, rfl⟩ .nil), ⟨_, hT2, rfl, _, rfl⟩⟩
    have I1 : Inv X pins σ (upd H s.heap.objs.size (.tup [.int (i : Nat), .str ⟨#[c]⟩])) { s with heap := h'', toks := tk + 1 } :=
      I.turnedNew (ch := [e, it]) (fun b ob hb q => (sb.2 b (fun z => hb (by simp [z]))).trans (hk b ob (fun z => hb (by simp [z])) (fun z => hb (by simp [z])) q)) hf (Nat.le_refl _) new
    have hi' : i < z.cps.size := hi
    refine ⟨.ref s.heap.objs.size, _, I1, rfl, ⟨_, c, hcu, rfl, I.hok.fresh (Nat.le_refl _), rfl⟩, ⟨⟨.str ⟨#[c]⟩ u, ?_⟩, ?_, hne, by omega⟩, fun b hb => ?_⟩
    · have e1 : ((i + 1 : Nat) : Int) = (i : Int) + 1 := by omega
      rw [e1]; exact he'
    · obtain ⟨o, ho', r⟩ := st'
      exact ⟨o, (sb.2 it (Ne.symm hne)).trans ho', r⟩
    · have hb' : b < s.heap.objs.size := by
        rcases (show b = e ∨ b = it by simpa using hb) with y | y
        · rw [y]; exact hel
        · rw [y]; exact hil
      rw [upd_ne (Nat.ne_of_lt hb')]
      exact (hf b hb).1
  done := by
    intro X hP hw hK hc i pins s σ H E I hf st hi
    subst hP hw hK
    obtain ⟨⟨old, he⟩, hit, hne, hle⟩ := st
    obtain ⟨f0, f1, f2, f3, f4, f5⟩ := hf it (by simp)
    have hi' : z.cps.size ≤ i := hi
    have ei : i = z.cps.size := by omega
    have D := draws_str (prog := X.prog) (w := X.w) (A := X.A.in1) (I.ok.hd hc) it z t
    rw [ei] at hit he
    exact wpAny_pyNext_enum_endD D he hit fun h' eb => ⟨rfl, I.turned (t' := s.toks) (fun b o hb q => eb b o hb q) f0 f1 f3 f4 f5⟩
  self := fun A i s Q E st h => let ⟨⟨_, he⟩, _⟩ := st; wpAny_pyIter_enum he h
def iEnumS (ta : TA) : TI := fun σ H R => ta σ H fun vs H1 => ∃ z, vs = [.str z] ∧ R (Ites z) H1
/-- for i, c in enumerate(text) -/
theorem pi_enumS {X : Cx} {e : Expr} {ta : TA} {p pos tpos : Pos} {elts : List Expr} {kk : Nat} (hg : Gl X "enumerate") (hm : X.mg "enumerate" = none) (ha : PA X [e] ta) (hs : starEach [e] X.env = [(false, eval e X.env)] := by rfl) :
    PI X (.Tuple elts kk tpos) (.Call (.Name "enumerate" p) [e] [] pos) (iEnumS ta) := by
  refine ⟨fun pins s σ H R I h => Call_ (ld_blt I hg hm boot_enumerate (PyProof.Rows.callWith_type1 (thn (ha.run pos pins s σ H _ I h) fun us s1 ⟨vs, H1, I1, r1, q1⟩ => ?_) hs rfl))⟩
  obtain ⟨z, ex, q⟩ := q1
  subst ex
  cases r1 with
  | cons r rr =>
    cases rr
    obtain ⟨t, rfl⟩ := r
    refine call_enumerate_str fun h' he hit hsz hk => wpAny_pyIter_enum he ?_
    have I2 : Inv X pins σ H1 { s1 with heap := h' } := I1.kept (t' := s1.toks) hk
    refine ⟨s1.heap.objs.size + 1, [s1.heap.objs.size + 1, s1.heap.objs.size], _, _, H1, rfl, I2, turn_enumS (s1.heap.objs.size + 1) s1.heap.objs.size, ⟨⟨.none, he⟩, hit, Nat.succ_ne_self _, Nat.zero_le _⟩, fun b hb => ?_, q⟩
    have hle : s1.heap.objs.size ≤ b := by
      rcases (show b = s1.heap.objs.size + 1 ∨ b = s1.heap.objs.size by simpa using hb) with y | y
      · rw [y]; exact Nat.le_add_right _ _
      · rw [y]; exact Nat.le_refl _
    exact I1.fpOk hle (I1.hok.fresh hle)
/-! ## name = {k: v for ..} on one line, the name a local -/
section
variable {X : Cx}
theorem ps_setDc {i : Nat} {y : Str} {py : Pos} {kx vx tg iter : Expr} {ifs : List Expr} {scope : Scope} {own : List (Str × Nat)} {pos spos : Pos} {wi : TI} {g : TG} {tt : TT} {tk tv : TE} (hc : X.calm = true) (hN : X.N.Nodup) (hy : X.N[i]? = some y) (hyl : X.env.scope.names.lookup y = some .local)
    (hsw : swapsWith (.DictComp kx vx [⟨tg, iter, ifs, 0⟩] scope pos) (some (.Name y py)) spos.line X.env = pure true) (hi : PI X tg iter wi) (ok : BlkOk X.N X.env.scope scope own)
    (hg : ∀ (s : Shared) (H : Hp) (C : Addr) (cl : List (Str × Addr)) (fp : List Addr), PG (X.blk s H scope (compEnvC scope cl C X.env) fp) tg g) (ht : ∀ (s : Shared) (H : Hp) (C : Addr) (cl : List (Str × Addr)) (fp : List Addr), PTs (X.blk s H scope (compEnvC scope cl C X.env) fp) ifs tt)
    (hk : ∀ (s : Shared) (H : Hp) (C : Addr) (cl : List (Str × Addr)) (fp : List Addr), PE (X.blk s H scope (compEnvC scope cl C X.env) fp) kx tk)
    (he : ∀ (s : Shared) (H : Hp) (C : Addr) (cl : List (Str × Addr)) (fp : List Addr), PE (X.blk s H scope (compEnvC scope cl C X.env) fp) vx tv) (hs : ∀ x, foldedSetIterable iter X.env x = pure x := by intro _; rfl) :
    PS X (.Assign [.Name y py] (.DictComp kx vx [⟨tg, iter, ifs, 0⟩] scope pos) spos) (tAsg (tDc wi g tt tk tv (own.map (·.2))) (gName i)) := by
  refine ⟨fun pins s σ H D I h => ?_⟩
  rw [exec_Assign_Name_used _ _ _ _ hsw]
  refine wpAny_bind (wpAny_standAt (wpAny_bind ?_))
  show wpAny _ X.A (do let _ ← comprehension (.DictComp kx vx [⟨tg, iter, ifs, 0⟩] scope pos) scope X.env (firstIterPos [⟨tg, iter, ifs, 0⟩] pos) newDict false (eval iter X.env) (some (assign (.Name y py) X.env))) _ _ s
  have h : tDc wi g tt tk tv (own.map (·.2)) σ H (fun x H1 => gName i x σ H1 D.nx) := h
  refine wpAny_bind (thn (dc_core (Qf := fun _ s' => SP X pins D .next s') hc hN I hi ok hg ht hk he hs h fun L C s' m H' I' q hn f => ?_) fun _ s' hq => wpAny_pure (wpAny_pure hq))
  show wpAny _ _ (assign (.Name y py) X.env (.ref L)) _ _ _
  refine wpAny_assign_Name (store_ok2 (v := V.ref L) I' hN hy (.inl hyl) rfl (fun s2 I2 ⟨a, sb, ha⟩ => ?_) (.inr hyl))
  obtain ⟨f0, f1, f2, f3, f4, f5⟩ := f
  have haC : C ≠ a := by
    rcases ha with z | z
    · rw [z]; exact f1
    · exact fun e => f4 y a z e.symm
  refine ⟨m, hn.sameBut sb haC, fun h3 sb3 => ?_⟩
  exact ⟨_, H', I2.turned (t' := s2.toks) (fun b o hb e => (sb3.2 b hb).trans e) f0 f1 f3 f4 f5, q⟩
theorem swd_true {kx vx : Expr} {gs : List Comprehension} {scope : Scope} {pos py : Pos} {y : Str} {l : Nat} {env : Env} (hk : env.scope.kind = .function) (hy : env.scope.names.lookup y = some .local) (hl : (py.line == pos.line) = true)
    (ha : (scope.names.any fun (n, k) => n == y && (k == .local || k == .cell)) = false) : swapsWith (.DictComp kx vx gs scope pos) (some (.Name y py)) l env = pure true := by
  have ky : env.kindOf y = some .local := hy
  have hb : env.blockKind = .function := by unfold Env.blockKind; rw [hk]; rfl
  unfold swapsWith
  simp only [hb, ky, ha, Expr.pos, hl]
  rfl
end
section
theorem walk_enumK {d : Addr} {o : Obj} {kvs : List (Key × V)} : Walk (Itek d o kvs) kvs.length (fun H => H d = some (.frz o (.dK kvs))) (YPair (fun i => some (.int (i : Nat))) (fun i => kvs[i]?.map fun kv => kV kv.1)) := by
  refine ⟨fun _ _ hi q => ⟨q, hi⟩, fun _ q => ⟨q, Nat.le_refl _⟩, fun i H x H' _ _ y => ?_⟩
  obtain ⟨T, k, v, h1, h2, h3, h4⟩ := y
  exact ⟨T, .int (i : Nat), kV k, h2, h3, h4, rfl, by simp [h1]⟩
theorem walk_enumS {z : Str} : Walk (Ites z) z.cps.size (fun _ => True) (YPair (fun i => some (.int (i : Nat))) (fun i => z.cps[i]?.map fun c => V.str ⟨#[c]⟩)) := by
  refine ⟨fun _ _ hi _ => hi, fun _ _ => Nat.le_refl _, fun i H x H' _ _ y => ?_⟩
  obtain ⟨T, c, h1, h2, h3, h4⟩ := y
  exact ⟨T, .int (i : Nat), .str ⟨#[c]⟩, h2, h3, h4, rfl, by simp [h1]⟩
variable {J : It} {n : Nat} {G : Hp → Prop} {Y : Nat → Hp → V → Hp → Prop}
/-- a dict comprehension over it -/
theorem dc_it (w : Walk J n G Y) {g : TG} {tt : TT} {tk tv : TE} {vs : List Nat} {σ : L2.St} {H1 : Hp} {D : Addr} {Qd : Hp → Prop} (Pv : Nat → Hp → Prop) (h0 : Pv 0 (upd H1 D (.dK []))) (hG : ∀ i H, i ≤ n → Pv i H → G H)
    (hs : ∀ i x H H', i < n → Pv i H → Y i H x H' → g x (wipe σ vs) H' fun σ2 H2 => wipe σ2 vs = wipe σ vs ∧ tt σ2 H2 fun b H3 =>
      if b = true then tk σ2 H3 fun y H4 => tv σ2 H4 fun z H5 => ∃ kvs k, y = kV k ∧ H5 D = some (.dK kvs) ∧ kvs.length < sizeLine ∧ Pv (i + 1) (upd H5 D (.dK (putK kvs k z))) else Pv (i + 1) H3) (hd : ∀ H, Pv n H → Qd H) :
    ∃ W : Nat → Nat → Hp → Prop, (∃ m, W 0 m (upd H1 D (.dK []))) ∧ ∀ i m H, W i m H →
      (J.stop i H ∧ Qd H) ∨ (J.go i H ∧ ∃ Nx : Hp → Prop, (∀ H', Nx H' → ∃ m', m' < m ∧ W (i + 1) m' H') ∧ ∀ x H', J.yld i H x H' → g x (wipe σ vs) H' fun σ2 H2 => wipe σ2 vs = wipe σ vs ∧ tt σ2 H2 fun b H3 =>
        if b = true then tk σ2 H3 fun y H4 => tv σ2 H4 fun z H5 => ∃ kvs k, y = kV k ∧ H5 D = some (.dK kvs) ∧ kvs.length < sizeLine ∧ Nx (upd H5 D (.dK (putK kvs k z))) else Nx H3) := by
  refine ⟨fun i m H => m = n - i ∧ i ≤ n ∧ Pv i H, ⟨n, by simp, Nat.zero_le _, h0⟩, ?_⟩
  rintro i m H ⟨rfl, hi, p⟩
  have q := hG i H hi p
  by_cases hlt : i < n
  · exact .inr ⟨w.goes i H hlt q, Pv (i + 1), fun H' p' => ⟨n - (i + 1), by omega, rfl, hlt, p'⟩, fun x H' y => hs i x H H' hlt p (w.yields i H x H' hlt q y)⟩
  · have e : i = n := by omega
    subst e
    exact .inl ⟨w.stops H q, hd H p⟩
end
end HE
namespace HM
open PySem PySem.Spec PyProof.Rows L2 SX HL
/-! ## match: a value against constant texts; a tuple whose first item is a text against [text, names ..] -/
/-- what captures and wildcards bind, by slot -/
inductive Caps (X : Cx) : List Pattern → List (Option Nat) → Prop
  | nil : Caps X [] []
  | name {i : Nat} {x : Str} {pos : Pos} {ps : List Pattern} {cs : List (Option Nat)} : X.N[i]? = some x → Loc X.env.scope x → (X.fn x = true ∨ X.env.scope.names.lookup x = some .local) → Caps X ps cs → Caps X (.MatchAs none (some x) pos :: ps) (some i :: cs)
  | wild {pos : Pos} {ps : List Pattern} {cs : List (Option Nat)} : Caps X ps cs → Caps X (.MatchAs none none pos :: ps) (none :: cs)
def setCaps : L2.St → List (Option Nat) → List V → L2.St
  | σ, some i :: cs, v :: vs => setCaps (σ.set i (some v)) cs vs
  | σ, none :: cs, _ :: vs => setCaps σ cs vs
  | σ, _, _ => σ
def bsOf : List Pattern → List Value → List (Str × Value)
  | .MatchAs none (some n) _ :: ps, u :: us => (n, u) :: bsOf ps us
  | _ :: ps, _ :: us => bsOf ps us
  | _, _ => []
section
variable {X : Cx} {pins : List (Addr × Obj)}
theorem Caps.len {ps : List Pattern} {cs : List (Option Nat)} (h : Caps X ps cs) : ps.length = cs.length := by
  induction h with
  | nil => rfl
  | name _ _ _ _ ih => simp [ih]
  | wild _ ih => simp [ih]
theorem caps_each {M : Model} {A : Around} {E : Value → Shared → Prop} {env : Env} {ps : List Pattern} {cs : List (Option Nat)} (h : Caps X ps cs) : ∀ {us : List Value} {s : Shared} {Q : Option (List (Str × Value)) → Shared → Prop}, us.length = ps.length → Q (some (bsOf ps us)) s → wpAny M A (matchEach ps env us) Q E s := by
  induction h with
  | nil =>
    intro us s Q hl q
    cases us with
    | nil => exact wpAny_matchEach_nil q
    | cons u us => simp at hl
  | @name i x pos ps cs _ _ _ _ ih =>
    intro us s Q hl q
    cases us with
    | nil => simp at hl
    | cons u us =>
      refine wpAny_matchEach_cons (wpAny_matchPattern_Capture ?_)
      exact ih (by simpa using hl) q
  | @wild pos ps cs _ ih =>
    intro us s Q hl q
    cases us with
    | nil => simp at hl
    | cons u us =>
      refine wpAny_matchEach_cons (wpAny_matchPattern_Capture ?_)
      exact ih (by simpa using hl) q
theorem caps_assign {M : Model} {A : Around} {E : Value → Shared → Prop} {ps : List Pattern} {cs : List (Option Nat)} (hN : X.N.Nodup) (h : Caps X ps cs) : ∀ {us : List Value} {vs : List V} {σ : L2.St} {H : Hp} {s : Shared} {Q : Unit → Shared → Prop}, Vals vs us → us.length = ps.length →
    Inv X pins σ H s → (∀ s', Inv X pins (setCaps σ cs vs) H s' → Q () s') → wpAny M A (assignInOrder ((bsOf ps us).map fun p => bindName X.env p.1) ((bsOf ps us).map (·.2))) Q E s := by
  induction h with
  | nil =>
    intro us vs σ H s Q r hl I q
    cases r with
    | nil => exact assignInOrder_nil (q s I)
    | cons _ _ => simp at hl
  | @name i x pos ps cs h1 h2 h3 _ ih =>
    intro us vs σ H s Q r hl I q
    cases r with
    | nil => simp at hl
    | @cons v u vs us rv rr =>
      show wpAny M A (assignInOrder (bindName X.env x :: (bsOf ps us).map fun p => bindName X.env p.1) (u :: (bsOf ps us).map (·.2))) Q E s
      refine assignInOrder_cons (wpAny_bindName (store_ok I hN h1 h2 rv (fun s' I' => ?_) h3))
      exact ih rr (by simpa using hl) I' q
  | @wild pos ps cs _ ih =>
    intro us vs σ H s Q r hl I q
    cases r with
    | nil => simp at hl
    | @cons v u vs us rv rr =>
      show wpAny M A (assignInOrder ((bsOf ps us).map fun p => bindName X.env p.1) ((bsOf ps us).map (·.2))) Q E s
      exact ih rr (by simpa using hl) I q
/-- cases of a match: what is read of each -/
abbrev TMs := V → Ends → L2.St → Hp → Prop
structure PMs (X : Cx) (cases : List MatchCase) (t : TMs) : Prop where
  run : ∀ (first : Bool) (pins : List (Addr × Obj)) (s : Shared) (σ : L2.St) (H : Hp) (D : Ends) (v : V) (u : Value), Inv X pins σ H s → RelV v u → t v D σ H → wpAny (model X.prog X.w) X.A (matchCases cases X.env u first) (SP X pins D) X.xe s
theorem ps_match {subject : Expr} {cases : List MatchCase} {pos : Pos} {te : TE} {t : TMs} (he : PE X subject te) (hc : PMs X cases t) : PS X (.Match subject cases pos) (fun D σ H => te σ H fun v H1 => t v D σ H1) := by
  refine ⟨fun pins s σ H D I h => ?_⟩
  refine wpAny_Match (thn (he.run pins s σ H _ I h) fun u s1 ⟨v, H1, I1, r, q⟩ => ?_)
  exact hc.run true pins s1 σ H1 D v u I1 r q
/-- no case is left -/
theorem pm_nil : PMs X [] (fun _ D σ H => D.nx σ H) := ⟨fun first pins s σ H D v u I r h => wpAny_matchCases_nil ⟨σ, H, I, h⟩⟩
/-- case _: -/
theorem pm_wild {body : List Stmt} {rest : List MatchCase} {pos : Pos} {tb : TS} (hb : PSs X body tb) : PMs X (⟨.MatchAs none none pos, none, body⟩ :: rest) (fun _ D σ H => tb D σ H) := by
  refine ⟨fun first pins s σ H D v u I r h => ?_⟩
  refine wpAny_matchCases_cons (wpAny_matchPattern_Capture ?_)
  exact assignInOrder_nil (hb.run pins s σ H D I h)
/-- case 'text': -/
theorem pm_val {z : Str} {body : List Stmt} {rest : List MatchCase} {k pos : Pos} {j : Nat} {tb : TS} {t : TMs} (hb : PSs X body tb) (hr : PMs X rest t) :
    PMs X (⟨.MatchValue (.Constant (.str z) j k) pos, none, body⟩ :: rest) (fun v D σ H => ∃ y, v = .str y ∧ if y = z then tb D σ H else t v D σ H) := by
  refine ⟨fun first pins s σ H D v u I r h => ?_⟩
  obtain ⟨y, rfl, h⟩ := h
  refine wpAny_matchCases_cons (wpAny_matchPattern_Value ?_)
  refine thn ((pe_str (X := X) (x := z)).run pins s σ H (fun w H1 => w = .str z ∧ H1 = H) I ⟨rfl, rfl⟩) fun x s1 ⟨w, H1, I1, r1, e1, e2⟩ => ?_
  subst e1
  rw [e2] at I1
  refine thn (op_eq (X := X) pins s1 σ H (.str y) (.str z) u x (fun c H2 => c = .bl (decide (V.str y = V.str z)) ∧ H2 = H) I1 r r1 ⟨rfl, rfl, rfl⟩) fun c s2 ⟨w, H2, I2, r2, e3, e4⟩ => ?_
  subst e3
  rw [e4] at I2
  obtain rfl : c = .bool (decide (V.str y = V.str z)) := r2
  refine wpAny_truthy_bool ?_
  by_cases e : y = z
  · have ed : decide (V.str y = V.str z) = true := decide_eq_true (by rw [e])
    rw [if_pos e] at h
    rw [ed, if_pos rfl]
    exact assignInOrder_nil (hb.run pins s2 σ H D I2 h)
  · have ed : decide (V.str y = V.str z) = false := decide_eq_false (fun q => e (V.str.inj q))
    rw [if_neg e] at h
    rw [ed, if_neg (by simp)]
    exact hr.run false pins s2 σ H D _ u I2 r h
/-- case ['text', names ..]: -/
theorem pm_tag {z : Str} {ps : List Pattern} {cs : List (Option Nat)} {body : List Stmt} {rest : List MatchCase} {k pos pos' : Pos} {j : Nat} {tb : TS} {t : TMs} (hc : X.calm = true) (hN : X.N.Nodup) (hcap : Caps X ps cs) (hb : PSs X body tb) (hr : PMs X rest t)
    (hstar : (Pattern.MatchValue (.Constant (.str z) j k) pos :: ps).findIdx? (·.isStar) = none := by rfl) :
    PMs X (⟨.MatchSequence (.MatchValue (.Constant (.str z) j k) pos :: ps) pos', none, body⟩ :: rest) (fun v D σ H => ∃ a y xs, v = .ref a ∧ SqT X.K H a (.str y :: xs) ∧ if y = z ∧ xs.length = cs.length then tb D (setCaps σ cs xs) H else t v D σ H) := by
  refine ⟨fun first pins s σ H D v u I r h => ?_⟩
  obtain ⟨a, y, xs, rfl, hq, h⟩ := h
  obtain rfl : u = .ref a := r
  obtain ⟨its, rv, ht, hz⟩ := I.tuple hq
  cases rv with
  | @cons _ w _ us rw' rr =>
  have hlen : us.length = xs.length := rr.length.symm
  have hl : (w :: us).toArray.size = us.length + 1 := by simp
  have l63 := line63
  have hfit : (((w :: us).toArray.size : Nat) : Int) < 2 ^ 63 := by
    rw [hl, hlen]
    simp at hz
    have : (sizeLine : Int) < 2 ^ 63 := by exact_mod_cast l63
    omega
  refine wpAny_matchCases_cons ?_
  by_cases hn : us.length = ps.length
  · refine matchSeq_tuple_hit ht hfit (by rw [hl, hn]; rfl) ?_ hstar rfl
    have hsz : (Pattern.MatchValue (.Constant (.str z) j k) pos :: ps).length = (w :: us).toArray.size := by rw [hl, hn]; rfl
    rw [hsz]
    have I1 : Inv X pins σ H { s with toks := s.toks + 1 + 1 } := I.tok _
    refine unpackItems_tuple (I.ok.hd hc) ht fun h' hx => ?_
    have I2 : Inv X pins σ H { s with heap := h', toks := s.toks + 1 + 1 } := I.kept fun b o e => hx b o (Nat.ne_of_lt (Heap.lt_size e)) e
    refine wpAny_matchEach_cons (wpAny_matchPattern_Value ?_)
    refine thn ((pe_str (X := X) (x := z)).run pins _ σ H (fun w H1 => w = .str z ∧ H1 = H) I2 ⟨rfl, rfl⟩) fun x s1 ⟨w1, H1, I1, r1, e1, e2⟩ => ?_
    subst e1
    rw [e2] at I1
    refine thn (op_eq (X := X) pins s1 σ H (.str y) (.str z) w x (fun c H2 => c = .bl (decide (V.str y = V.str z)) ∧ H2 = H) I1 rw' r1 ⟨rfl, rfl, rfl⟩) fun c s2 ⟨w2, H2, I2, r2, e3, e4⟩ => ?_
    subst e3
    rw [e4] at I2
    obtain rfl : c = .bool (decide (V.str y = V.str z)) := r2
    refine wpAny_truthy_bool ?_
    by_cases e : y = z
    · have ed : decide (V.str y = V.str z) = true := decide_eq_true (by rw [e])
      rw [if_pos ⟨e, by rw [← hlen, hn, hcap.len]⟩] at h
      rw [ed, if_pos rfl]
      refine caps_each hcap hn ?_
      exact caps_assign hN hcap rr hn I2 fun s3 I3 => hb.run pins s3 _ H D I3 h
    · have ed : decide (V.str y = V.str z) = false := decide_eq_false (fun q => e (V.str.inj q))
      rw [if_neg (fun q => e q.1)] at h
      rw [ed, if_neg (by simp)]
      exact hr.run false pins s2 σ H D (.ref a) _ I2 rfl h
  · refine matchSeq_tuple_miss ht hfit (by rw [hl]; simpa using hn) ?_ hstar rfl
    rw [if_neg (fun q => hn (by rw [hlen, q.2, hcap.len]))] at h
    exact hr.run false pins _ σ H D (.ref a) _ (I.tok _) rfl h
end
end HM
namespace HV
open PySem PySem.Spec PyProof.Rows L2 RT
section
variable {prog : Program} {w : World} {A : Around} {E : Value → Shared → Prop} {s : Shared}
/-- an item of reversed(tuple), asked by an iterator over it -/
theorem rt_item {it t : Addr} {i : Nat} {items : Array Value} {x : Value} {Q : Value → Shared → Prop} (hit : IsRt s.heap it t (i : Int)) (ht : IsTup s.heap t items) (hx : items[i]? = some x) (hsz : items.size ≤ sizeLine)
    (q : ∀ h', IsRt h' it t ((i : Int) - 1) → Heap.SameBut it s.heap h' → Q x { s with heap := h', toks := s.toks + 1 }) : wpAny (model prog w) A (Builtin.SmallTypes.nextOf (.ref it)) Q E s := by
  obtain ⟨o, ho, hc, hd⟩ := id hit
  have hi : i < items.size := (Array.getElem?_eq_some_iff.mp hx).1
  have hT : s.TypeIs (.ref t) "tuple" := IsTup.typeOf' ht
  rw [sizeLine_eq] at hsz
  unfold Builtin.SmallTypes.nextOf
  refine wpAny_bind (wpAny_callSpecial?_slot (name := Str.ofString "__next__") hit.typeIs slot_rt_next (wpAny_call_entry slot_rt_next hit.typeIs entry_rt_next ?_ (args_rt_next _)))
  unfold Builtin.«reversed.__next__»
  refine wpAny_bind (wpAny_of_eq (a := (Value.ref it, [])) rfl ?_)
  try dsimp only
  refine wpAny_bind (wpAny_field ho hd (x := .ref t) rfl (wpAny_bind (wpAny_field ho hd (x := rawInt (i : Int)) rfl ?_)))
  show wpAny _ _ (if (i : Int) < 0 then _ else _) _ _ s
  rw [if_neg (by omega)]
  refine wpAny_bind (wpAny_specialOf hT get_tuple ?_)
  try dsimp only
  try rw [if_neg (by decide)]
  refine wpAny_bind (wpAny_mkInt (wpAny_bind (wpAny_attempt ?_)))
  refine PyProof.Rows.getItem_tuple (s := { s with toks := s.toks + 1 }) ht (by omega) (by omega) (seqIndex_of (by omega) (by omega)) hx ?_
  try dsimp only
  refine wpAny_bind (wpAny_field (s := { s with toks := s.toks + 1 }) ho hd (x := rawInt (i : Int)) rfl ?_)
  refine wpAny_bind (wpAny_setField (s := { s with toks := s.toks + 1 }) ho hd (by simp) ?_)
  first
  | refine wpAny_pure ⟨x, rfl, wpAny_pure (q _ ?_ (Heap.SameBut.update ..))⟩
  | refine wpAny_bind (wpAny_pure (wpAny_pure ⟨x, rfl, wpAny_pure (q _ ?_ (Heap.SameBut.update ..))⟩))
  exact ⟨_, Heap.get?_update_self _ ho (Obj.isFreed_of_fields (Obj.data_mapFields hd _)), (Obj.cls_mapFields ..).trans hc, by rw [Obj.data_mapFields hd]; simp⟩
theorem rt_end {it t : Addr} {Q : Value → Shared → Prop} (hh : A.handled = none) (hit : IsRt s.heap it t (-1)) (q : ∀ h' x, Heap.ExtBut it s.heap h' → (∃ o, h'.get? x = some o ∧ o.cls = .type "StopIteration") → E (.ref x) { s with heap := h' }) :
    wpAny (model prog w) A (Builtin.SmallTypes.nextOf (.ref it)) Q E s := by
  obtain ⟨o, ho, hc, hd⟩ := id hit
  unfold Builtin.SmallTypes.nextOf
  refine wpAny_bind (wpAny_callSpecial?_slot (name := Str.ofString "__next__") hit.typeIs slot_rt_next (wpAny_call_entry slot_rt_next hit.typeIs entry_rt_next ?_ (args_rt_next _)))
  unfold Builtin.«reversed.__next__»
  refine wpAny_bind (wpAny_of_eq (a := (Value.ref it, [])) rfl ?_)
  try dsimp only
  refine wpAny_bind (wpAny_field ho hd (x := .ref t) rfl (wpAny_bind (wpAny_field ho hd (x := rawInt (-1)) rfl ?_)))
  show wpAny _ _ (if (-1 : Int) < 0 then _ else _) _ _ s
  rw [if_pos (by decide)]
  try dsimp only
  refine wpAny_bind (wpAny_rule (wpAny_bind ?_))
  wp_delta
  refine wpAny_bind (wpAny_setField ho hd (by simp) ?_)
  have ho2 := Heap.get?_update_self (Obj.mapFields (·.setIfInBounds 1 (rawInt (-1)))) ho (Obj.isFreed_of_fields (Obj.data_mapFields hd _))
  refine wpAny_setField (s := { s with heap := s.heap.update it (Obj.mapFields (·.setIfInBounds 1 (rawInt (-1)))) }) ho2 (Obj.data_mapFields hd _) (by simp) ?_
  try dsimp only
  first
  | show wpAny _ _ (newExc (.type "StopIteration") [] >>= _) _ _ _
  | (refine wpAny_bind ?_; show wpAny _ _ (newExc (.type "StopIteration") [] >>= _) _ _ _)
  | (refine wpAny_bind ?_; wp_delta; show wpAny _ _ (newExc (.type "StopIteration") [] >>= _) _ _ _)
  refine wpAny_bind ?_
  simp only [newExc, newTuple]; refine wpAny_bind (wpAny_newObj_type ?_ (by size_fits))
  refine wpAny_bind (m := firstArgMember _ _) (wpAny_of_eq (a := Value.none) (by first | rfl | (simp only [firstArgMember]; rfl)) (wpAny_newObj_type ?_ (by size_fits)))
  simp only [raiseNew]; refine wpAny_bind (wpAny_handled ?_)
  first | rw [show A.in1.handled = none from hh] | rw [hh]
  refine wpAny_bind (wpAny_pure (wpAny_throw ?_))
  refine q _ _ (((?_ : Heap.ExtBut it s.heap _).push _).push _) ⟨_, Heap.get?_push_size _ rfl, rfl⟩
  exact fun b ob hb e => (Heap.get?_update_other _ _ (Ne.symm hb)).trans ((Heap.get?_update_other _ _ (Ne.symm hb)).trans e)
theorem lri_item {it l : Addr} {i : Nat} {items : Array Value} {x : Value} {Q : Value → Shared → Prop} (hit : s.heap.IsRevIter it l (i : Int)) (hl : s.heap.IsList l items) (hx : items[i]? = some x)
    (q : ∀ h', h'.IsRevIter it l ((i : Int) - 1) → Heap.SameBut it s.heap h' → Q x { s with heap := h' }) : wpAny (model prog w) A (Builtin.SmallTypes.nextOf (.ref it)) Q E s := by
  obtain ⟨o, ho, hc, hd⟩ := id hit
  obtain ⟨ol, hol, _, nl, hdl⟩ := hl
  unfold Builtin.SmallTypes.nextOf
  refine wpAny_bind (wpAny_callSpecial?_slot (name := Str.ofString "__next__") hit.typeIs F.slot_lri_next (wpAny_call_entry F.slot_lri_next hit.typeIs F.entry_lri_next ?_ (F.args_lri_next_1 _)))
  unfold Builtin.«list_reverseiterator.__next__»
  refine wpAny_bind (wpAny_of_eq (a := (Value.ref it, [])) rfl ?_)
  try dsimp only
  refine wpAny_bind (wpAny_field ho hd (x := rawInt (i : Int)) rfl ?_)
  show wpAny _ _ (if (i : Int) < 0 then _ else _) _ _ s
  rw [if_neg (by omega)]
  show wpAny _ _ (field (.ref it) 0 >>= _) _ _ s
  refine wpAny_bind (wpAny_field ho hd (x := .ref l) rfl ?_)
  show wpAny _ _ (seqItems? (.ref l) >>= _) _ _ s
  refine wpAny_bind (wpAny_seqItems hol hdl ?_)
  simp only [Int.toNat_natCast, hx]
  refine wpAny_bind (wpAny_setField ho hd (by simp) ?_)
  first
  | refine wpAny_pure ⟨x, rfl, wpAny_pure (q _ ?_ (Heap.SameBut.update ..))⟩
  | refine wpAny_bind (wpAny_pure (wpAny_pure ⟨x, rfl, wpAny_pure (q _ ?_ (Heap.SameBut.update ..))⟩))
  exact ⟨_, Heap.get?_update_self _ ho (Obj.isFreed_of_fields (Obj.data_mapFields hd _)), (Obj.cls_mapFields ..).trans hc, by rw [Obj.data_mapFields hd]; simp⟩
theorem lri_end {it l : Addr} {Q : Value → Shared → Prop} (hh : A.handled = none) (hit : s.heap.IsRevIter it l (-1)) (q : ∀ h' x, Heap.ExtBut it s.heap h' → (∃ o, h'.get? x = some o ∧ o.cls = .type "StopIteration") → E (.ref x) { s with heap := h' }) :
    wpAny (model prog w) A (Builtin.SmallTypes.nextOf (.ref it)) Q E s := by
  obtain ⟨o, ho, hc, hd⟩ := id hit
  unfold Builtin.SmallTypes.nextOf
  refine wpAny_bind (wpAny_callSpecial?_slot (name := Str.ofString "__next__") hit.typeIs F.slot_lri_next (wpAny_call_entry F.slot_lri_next hit.typeIs F.entry_lri_next ?_ (F.args_lri_next_1 _)))
  unfold Builtin.«list_reverseiterator.__next__»
  refine wpAny_bind (wpAny_of_eq (a := (Value.ref it, [])) rfl ?_)
  try dsimp only
  refine wpAny_bind (wpAny_field ho hd (x := rawInt (-1)) rfl ?_)
  show wpAny _ _ (if (-1 : Int) < 0 then _ else _) _ _ s
  rw [if_pos (by decide)]
  refine wpAny_bind (wpAny_rule ?_)
  first
  | show wpAny _ _ (newExc (.type "StopIteration") [] >>= _) _ _ _
  | (refine wpAny_bind ?_; show wpAny _ _ (newExc (.type "StopIteration") [] >>= _) _ _ _)
  refine wpAny_bind ?_
  simp only [newExc, newTuple]; refine wpAny_bind (wpAny_newObj_type ?_ (by size_fits))
  refine wpAny_bind (m := firstArgMember _ _) (wpAny_of_eq (a := Value.none) (by first | rfl | (simp only [firstArgMember]; rfl)) (wpAny_newObj_type ?_ (by size_fits)))
  simp only [raiseNew]; refine wpAny_bind (wpAny_handled ?_)
  first | rw [show A.in1.handled = none from hh] | rw [hh]
  refine wpAny_bind (wpAny_pure (wpAny_throw ?_))
  exact q _ _ (((Heap.ExtBut.refl _ _).push _).push _) ⟨_, Heap.get?_push_size _ rfl, rfl⟩
/-- what reversed(tuple) gives, asked one by one -/
theorem draws_rt (hh : A.handled = none) (it t : Addr) (hne : t ≠ it) {items : Array Value} (hsz : items.size ≤ sizeLine) :
    Draws prog w A it [it, t] items.size (fun i v => items[items.size - 1 - i]? = some v) (fun i h => i ≤ items.size ∧ IsRt h it t ((items.size : Int) - 1 - (i : Nat)) ∧ IsTup h t items) where
  live := fun _ _ st => let ⟨o, ho, _⟩ := st.2.1; ⟨o, ho⟩
  frame := fun _ _ _ st k => ⟨st.1, st.2.1.at fun o e => k it (by simp) o e, let ⟨o, e, x⟩ := st.2.2; ⟨o, k t (by simp) o e, x⟩⟩
  item := fun i s Q E hi st q => by
    obtain ⟨_, hit, ht⟩ := st
    have e1 : (items.size : Int) - 1 - ((i : Nat) : Int) = ((items.size - 1 - i : Nat) : Int) := by omega
    rw [e1] at hit
    have hlt : items.size - 1 - i < items.size := by omega
    refine rt_item hit ht (Array.getElem?_eq_getElem hlt) hsz fun h' it' sb => ?_
    have e2 : ((items.size - 1 - i : Nat) : Int) - 1 = (items.size : Int) - 1 - ((i + 1 : Nat) : Int) := by omega
    rw [e2] at it'
    exact q _ h' (s.toks + 1) (Array.getElem?_eq_getElem hlt) ⟨hi, it', let ⟨o, e, x⟩ := ht; ⟨o, (sb.2 t hne).trans e, x⟩⟩ sb
  done := fun s Q E st q => by
    obtain ⟨_, hit, _⟩ := st
    have e1 : (items.size : Int) - 1 - ((items.size : Nat) : Int) = -1 := by omega
    rw [e1] at hit
    exact rt_end hh hit q
theorem draws_lri (hh : A.handled = none) (it l : Addr) (hne : l ≠ it) {items : Array Value} :
    Draws prog w A it [it, l] items.size (fun i v => items[items.size - 1 - i]? = some v) (fun i h => i ≤ items.size ∧ h.IsRevIter it l ((items.size : Int) - 1 - (i : Nat)) ∧ h.IsList l items) where
  live := fun _ _ st => let ⟨o, ho, _⟩ := st.2.1; ⟨o, ho⟩
  frame := fun _ _ _ st k => ⟨st.1, st.2.1.at fun o e => k it (by simp) o e, let ⟨o, e, x⟩ := st.2.2; ⟨o, k l (by simp) o e, x⟩⟩
  item := fun i s Q E hi st q => by
    obtain ⟨_, hit, ht⟩ := st
    have e1 : (items.size : Int) - 1 - ((i : Nat) : Int) = ((items.size - 1 - i : Nat) : Int) := by omega
    rw [e1] at hit
    have hlt : items.size - 1 - i < items.size := by omega
    refine lri_item hit ht (Array.getElem?_eq_getElem hlt) fun h' it' sb => ?_
    have e2 : ((items.size - 1 - i : Nat) : Int) - 1 = (items.size : Int) - 1 - ((i + 1 : Nat) : Int) := by omega
    rw [e2] at it'
    exact q _ h' s.toks (Array.getElem?_eq_getElem hlt) ⟨hi, it', let ⟨o, e, x⟩ := ht; ⟨o, (sb.2 l hne).trans e, x⟩⟩ sb
  done := fun s Q E st q => by
    obtain ⟨_, hit, _⟩ := st
    have e1 : (items.size : Int) - 1 - ((items.size : Nat) : Int) = -1 := by omega
    rw [e1] at hit
    exact lri_end hh hit q
end
open AutoSeq1 (wpAny_loadPart')
theorem meets_it (r : Addr) (o : Obj) (ik : ∀ (prog : Program) (w : World) (A : Around) (E : Value → Shared → Prop) (Q : Value → Shared → Prop) (s : Shared), s.heap.get? r = some o → Q (.ref r) s → wpAny (model prog w) A (pyIter (.ref r)) Q E s) :
    Meets (Builtin.«enumerate.__new__» ⟨[.type "enumerate", .ref r], []⟩) (fun _ R s => s.heap.get? r = some o ∧
      R (.ok (.ret (.ref s.heap.objs.size))) { s with heap := s.heap.push { cls := .type "enumerate", data := .fields #[.none, .bool false, .ref r, rawInt 0, .none, .none] } }) :=
  .of_wp fun prog w A R s h => by
    obtain ⟨hp, g, dr, tk, os⟩ := s
    obtain ⟨ho, h⟩ := h
    have hsub := sub_enumerate
    have ik2 : ∀ {A : Around} {E : Value → Shared → Prop} {Q : Value → Shared → Prop}, Q (.ref r) ⟨hp, g, dr, tk, os⟩ → wpAny (model prog w) A (pyIter (.ref r)) Q E ⟨hp, g, dr, tk, os⟩ := fun q => ik _ _ _ _ _ _ ho q
    wp_walk using wpAny_loadPart' ho
    refine wpAny_stack_any fun st => wpAny_pure ?_
    split
    · rename_i c _ _ _ _ _
      cases (c == Value.type "enumerate") <;> (wp_walk using wpAny_loadPart' ho, ik2; exact ⟨_, rfl, h⟩)
    · wp_walk using wpAny_loadPart' ho, ik2
      exact ⟨_, rfl, h⟩
theorem call_enum_it {prog : Program} {w : World} {A : Around} {E : Value → Shared → Prop} {s : Shared} {r : Addr} {o : Obj} {Q : Value → Shared → Prop} (ik : ∀ (prog : Program) (w : World) (A : Around) (E : Value → Shared → Prop) (Q : Value → Shared → Prop) (s : Shared), s.heap.get? r = some o → Q (.ref r) s → wpAny (model prog w) A (pyIter (.ref r)) Q E s) (ho : s.heap.get? r = some o)
    (q : ∀ h', IsEnum h' s.heap.objs.size r 0 .none → (∀ b x, s.heap.get? b = some x → h'.get? b = some x) → Q (.ref s.heap.objs.size) { s with heap := h' }) : wpAny (model prog w) A (call (.type "enumerate") [.ref r]) Q E s := by
  refine callType_new F.called_enumerate (by decide) (F.typeCall_enumerate_1 _) (F.newCall_enumerate_1 _) (fun obj => F.args_object_init_2 obj _) F.entry_enumerate_new (meets_it r o ik) ⟨ho, ?_⟩
  have he : IsEnum (s.heap.push { cls := .type "enumerate", data := .fields #[.none, .bool false, .ref r, rawInt 0, .none, .none] }) s.heap.objs.size r 0 .none := Heap.get?_push_size _ rfl
  exact ⟨⟨_, he, rfl⟩, q _ he fun b x e => Heap.get?_push_of_some _ e⟩
/-- (0, last), (1, the one before it), ..: reversed(tuple) of n items -/
def ItER (K : PySem.W.Frag) (a : Addr) (n : Nat) : It :=
  ⟨fun i H => i < n ∧ ∃ xs, SqT K H a xs ∧ xs.length = n, fun i H v H' => ∃ T x, v = .ref T ∧ H T = none ∧ H' = upd H T (.tup [.int (i : Nat), x]) ∧ ∀ xs, SqT K H a xs → xs[n - 1 - i]? = some x, fun i H => n ≤ i ∧ ∃ xs, SqT K H a xs ∧ xs.length = n⟩
theorem turn_er {P : Program} {w : World} {K : PySem.W.Frag} {elts : List Expr} {kk : Nat} {tpos : Pos} {a : Addr} {n : Nat} (e it : Addr) (hai : a ≠ it) (hae : a ≠ e) :
    Turn P w K (.Tuple elts kk tpos) (ItER K a n) [e, it] e (fun i h => (∃ old, IsEnum h e it ((i : Nat) : Int) old) ∧ IsRt h it a ((n : Int) - 1 - (i : Nat)) ∧ e ≠ it ∧ i ≤ n) where
  mem := by simp
  obj := fun i h st b hb => by
    obtain ⟨⟨old, he⟩, ⟨o', ho, hc, hd⟩, _⟩ := st
    rcases (show b = e ∨ b = it by simpa using hb) with z | z
    · rw [z]; exact ⟨_, he, fun v q => nomatch q⟩
    · rw [z]; exact ⟨o', ho, fun v q => by rw [hd] at q; cases q⟩
  keep := fun i h h' st k => let ⟨⟨old, he⟩, hi, hne, hle⟩ := st; ⟨⟨old, k e (by simp) _ he⟩, hi.at fun o q => k it (by simp) o q, hne, hle⟩
  item := by
    intro X hP hw hK hc i pins s σ H E I hf st hg
    subst hP hw hK
    obtain ⟨⟨old, he⟩, hit, hne, hle⟩ := st
    obtain ⟨hi, xs, hq, hxl⟩ := hg
    obtain ⟨its, rv, p, hz⟩ := I.tuple hq
    have hlen : its.toArray.size = n := by rw [List.size_toArray, ← rv.length, hxl]
    have hel : e < s.heap.objs.size := Heap.lt_size he
    have hil : it < s.heap.objs.size := by obtain ⟨_, q, _⟩ := hit; exact Heap.lt_size q
    have D := draws_rt (prog := X.prog) (w := X.w) (A := X.A.in1) (I.ok.hd hc) it a hai (items := its.toArray) (by rw [hlen, ← hxl]; exact hz)
    rw [← hlen] at hit
    refine wpAny_pyNext_enum_itemD D he ⟨by omega, hit, p⟩ (by omega) hne (by simp [hne, Ne.symm hae]) fun x h' tk hP ho st' hT hsz' hk => ?_
    refine ⟨_, rfl, wpAny_letOwnedTupleGo_enum (s := { s with heap := h', toks := tk + 1 }) ho fun h'' he' sb => ?_⟩
    have hT2 : h''.get? s.heap.objs.size = some { cls := .type "tuple", data := .seq #[.int i tk, x] } := (sb.2 _ (Nat.ne_of_gt hel)).trans hT
    have hP' : its[n - 1 - i]? = some x := by
      have h1 : its.toArray[its.toArray.size - 1 - i]? = some x := hP
      rw [hlen] at h1
      simpa using h1
    obtain ⟨v, hv, rk⟩ : ∃ v, xs[n - 1 - i]? = some v ∧ RelV v x := by
      have hlt : n - 1 - i < xs.length := by omega
      obtain ⟨u, hu, ru⟩ := rv.get (List.getElem?_eq_getElem hlt)
      rw [hP'] at hu
      cases hu
      exact ⟨_, List.getElem?_eq_getElem hlt, ru⟩
    have new : ObjOk X.prog X.w (upd H s.heap.objs.size (.tup [.int (i : Nat), v])) h'' s.heap.objs.size (.tup [.int (i : Nat), v]) :=
      ⟨by show 2 ≤ sizeLine; decide, [.int i tk, x], .cons ⟨_, rfl⟩ (.cons rk .nil), ⟨_, hT2, rfl, _, rfl⟩⟩
    have I1 : Inv X pins σ (upd H s.heap.objs.size (.tup [.int (i : Nat), v])) { s with heap := h'', toks := tk + 1 } :=
      I.turnedNew (ch := [e, it]) (fun b ob hb q => (sb.2 b (fun z => hb (by simp [z]))).trans (hk b ob (fun z => hb (by simp [z])) (fun z => hb (by simp [z])) q)) hf (Nat.le_refl _) new
    refine ⟨.ref s.heap.objs.size, _, I1, rfl, ⟨_, v, rfl, I.hok.fresh (Nat.le_refl _), rfl, fun ys hy => by rw [I.tuple_inj hy hq]; exact hv⟩, ⟨⟨x, ?_⟩, ?_, hne, by omega⟩, fun b hb => ?_⟩
    · have e1 : ((i + 1 : Nat) : Int) = (i : Int) + 1 := by omega
      rw [e1]; exact he'
    · rw [← hlen]
      exact st'.2.1.at fun o q => (sb.2 it (Ne.symm hne)).trans q
    · have hb' : b < s.heap.objs.size := by
        rcases (show b = e ∨ b = it by simpa using hb) with z | z
        · rw [z]; exact hel
        · rw [z]; exact hil
      rw [upd_ne (Nat.ne_of_lt hb')]
      exact (hf b hb).1
  done := by
    intro X hP hw hK hc i pins s σ H E I hf st hg
    subst hP hw hK
    obtain ⟨⟨old, he⟩, hit, hne, hle⟩ := st
    obtain ⟨hi, xs, hq, hxl⟩ := hg
    obtain ⟨its, rv, p, hz⟩ := I.tuple hq
    have hlen : its.toArray.size = n := by rw [List.size_toArray, ← rv.length, hxl]
    obtain ⟨f0, f1, f2, f3, f4, f5⟩ := hf it (by simp)
    have D := draws_rt (prog := X.prog) (w := X.w) (A := X.A.in1) (I.ok.hd hc) it a hai (items := its.toArray) (by rw [hlen, ← hxl]; exact hz)
    have ei : i = its.toArray.size := by omega
    rw [← hlen, ei] at hit
    rw [ei] at he
    exact wpAny_pyNext_enum_endD D he ⟨Nat.le_refl _, hit, p⟩ fun h' eb => ⟨rfl, I.turned (t' := s.toks) (fun b o hb q => eb b o hb q) f0 f1 f3 f4 f5⟩
  self := fun A i s Q E st h => let ⟨⟨_, he⟩, _⟩ := st; wpAny_pyIter_enum he h
/-- (0, last), (1, the one before it), ..: reversed(list) of n items -/
def ItEL (K : PySem.W.Frag) (a : Addr) (n : Nat) : It :=
  ⟨fun i H => i < n ∧ ∃ xs, SqL K H a xs ∧ xs.length = n, fun i H v H' => ∃ T x, v = .ref T ∧ H T = none ∧ H' = upd H T (.tup [.int (i : Nat), x]) ∧ ∀ xs, SqL K H a xs → xs[n - 1 - i]? = some x, fun i H => n ≤ i ∧ ∃ xs, SqL K H a xs ∧ xs.length = n⟩
theorem turn_el {P : Program} {w : World} {K : PySem.W.Frag} {elts : List Expr} {kk : Nat} {tpos : Pos} {a : Addr} {n : Nat} (e it : Addr) (hai : a ≠ it) (hae : a ≠ e) :
    Turn P w K (.Tuple elts kk tpos) (ItEL K a n) [e, it] e (fun i h => (∃ old, IsEnum h e it ((i : Nat) : Int) old) ∧ Heap.IsRevIter h it a ((n : Int) - 1 - (i : Nat)) ∧ e ≠ it ∧ i ≤ n) where
  mem := by simp
  obj := fun i h st b hb => by
    obtain ⟨⟨old, he⟩, ⟨o', ho, hc, hd⟩, _⟩ := st
    rcases (show b = e ∨ b = it by simpa using hb) with z | z
    · rw [z]; exact ⟨_, he, fun v q => nomatch q⟩
    · rw [z]; exact ⟨o', ho, fun v q => by rw [hd] at q; cases q⟩
  keep := fun i h h' st k => let ⟨⟨old, he⟩, hi, hne, hle⟩ := st; ⟨⟨old, k e (by simp) _ he⟩, hi.at fun o q => k it (by simp) o q, hne, hle⟩
  item := by
    intro X hP hw hK hc i pins s σ H E I hf st hg
    subst hP hw hK
    obtain ⟨⟨old, he⟩, hit, hne, hle⟩ := st
    obtain ⟨hi, xs, hq, hxl⟩ := hg
    obtain ⟨its, rv, p, hz⟩ := I.list hq
    have hlen : its.toArray.size = n := by rw [List.size_toArray, ← rv.length, hxl]
    have hel : e < s.heap.objs.size := Heap.lt_size he
    have hil : it < s.heap.objs.size := by obtain ⟨_, q, _⟩ := hit; exact Heap.lt_size q
    have D := draws_lri (prog := X.prog) (w := X.w) (A := X.A.in1) (I.ok.hd hc) it a hai (items := its.toArray)
    rw [← hlen] at hit
    refine wpAny_pyNext_enum_itemD D he ⟨by omega, hit, p.isList⟩ (by omega) hne (by simp [hne, Ne.symm hae]) fun x h' tk hP ho st' hT hsz' hk => ?_
    refine ⟨_, rfl, wpAny_letOwnedTupleGo_enum (s := { s with heap := h', toks := tk + 1 }) ho fun h'' he' sb => ?_⟩
    have hT2 : h''.get? s.heap.objs.size = some { cls := .type "tuple", data := .seq #[.int i tk, x] } := (sb.2 _ (Nat.ne_of_gt hel)).trans hT
    have hP' : its[n - 1 - i]? = some x := by
      have h1 : its.toArray[its.toArray.size - 1 - i]? = some x := hP
      rw [hlen] at h1
      simpa using h1
    obtain ⟨v, hv, rk⟩ : ∃ v, xs[n - 1 - i]? = some v ∧ RelV v x := by
      have hlt : n - 1 - i < xs.length := by omega
      obtain ⟨u, hu, ru⟩ := rv.get (List.getElem?_eq_getElem hlt)
      rw [hP'] at hu
      cases hu
      exact ⟨_, List.getElem?_eq_getElem hlt, ru⟩
    have new : ObjOk X.prog X.w (upd H s.heap.objs.size (.tup [.int (i : Nat), v])) h'' s.heap.objs.size (.tup [.int (i : Nat), v]) :=
      ⟨by show 2 ≤ sizeLine; decide, [.int i tk, x], .cons ⟨_, rfl⟩ (.cons rk .nil), ⟨_, hT2, rfl, _, rfl⟩⟩
    have I1 : Inv X pins σ (upd H s.heap.objs.size (.tup [.int (i : Nat), v])) { s with heap := h'', toks := tk + 1 } :=
      I.turnedNew (ch := [e, it]) (fun b ob hb q => (sb.2 b (fun z => hb (by simp [z]))).trans (hk b ob (fun z => hb (by simp [z])) (fun z => hb (by simp [z])) q)) hf (Nat.le_refl _) new
    refine ⟨.ref s.heap.objs.size, _, I1, rfl, ⟨_, v, rfl, I.hok.fresh (Nat.le_refl _), rfl, fun ys hy => by rw [I.list_inj hy hq]; exact hv⟩, ⟨⟨x, ?_⟩, ?_, hne, by omega⟩, fun b hb => ?_⟩
    · have e1 : ((i + 1 : Nat) : Int) = (i : Int) + 1 := by omega
      rw [e1]; exact he'
    · rw [← hlen]
      exact st'.2.1.at fun o q => (sb.2 it (Ne.symm hne)).trans q
    · have hb' : b < s.heap.objs.size := by
        rcases (show b = e ∨ b = it by simpa using hb) with z | z
        · rw [z]; exact hel
        · rw [z]; exact hil
      rw [upd_ne (Nat.ne_of_lt hb')]
      exact (hf b hb).1
  done := by
    intro X hP hw hK hc i pins s σ H E I hf st hg
    subst hP hw hK
    obtain ⟨⟨old, he⟩, hit, hne, hle⟩ := st
    obtain ⟨hi, xs, hq, hxl⟩ := hg
    obtain ⟨its, rv, p, hz⟩ := I.list hq
    have hlen : its.toArray.size = n := by rw [List.size_toArray, ← rv.length, hxl]
    obtain ⟨f0, f1, f2, f3, f4, f5⟩ := hf it (by simp)
    have D := draws_lri (prog := X.prog) (w := X.w) (A := X.A.in1) (I.ok.hd hc) it a hai (items := its.toArray)
    have ei : i = its.toArray.size := by omega
    rw [← hlen, ei] at hit
    rw [ei] at he
    exact wpAny_pyNext_enum_endD D he ⟨Nat.le_refl _, hit, p.isList⟩ fun h' eb => ⟨rfl, I.turned (t' := s.toks) (fun b o hb q => eb b o hb q) f0 f1 f3 f4 f5⟩
  self := fun A i s Q E st h => let ⟨⟨_, he⟩, _⟩ := st; wpAny_pyIter_enum he h
/-- enumerate(reversed(x)), x a tuple or a list -/
def iEnumR (K : PySem.W.Frag) (te : TE) : TI := fun σ H R => te σ H fun v H1 => ∃ (a : Addr) (xs : List V), v = .ref a ∧ ((SqL K H1 a xs ∧ R (ItEL K a xs.length) H1) ∨ (SqT K H1 a xs ∧ R (ItER K a xs.length) H1))
theorem pi_enumR {X : Cx} {e : Expr} {te : TE} {p pos p2 pos2 tpos : Pos} {elts : List Expr} {kk : Nat} (hg : Gl X "enumerate") (hm : X.mg "enumerate" = none) (hg2 : Gl X "reversed") (hm2 : X.mg "reversed" = none) (he : PE X e te)
    (hs2 : starEach [e] X.env = (false, eval e X.env) :: starEach [] X.env := by rfl) (hs : starEach [.Call (.Name "reversed" p2) [e] [] pos2] X.env = (false, eval (.Call (.Name "reversed" p2) [e] [] pos2) X.env) :: starEach [] X.env := by rfl) :
    PI X (.Tuple elts kk tpos) (.Call (.Name "enumerate" p) [.Call (.Name "reversed" p2) [e] [] pos2] [] pos) (iEnumR X.K te) := by
  refine ⟨fun pins s σ H R I h => ?_⟩
  refine Call_ (ld_blt I hg hm boot_enumerate (PyProof.Rows.callWith_type1 (args_cons (Call_ (ld_blt I hg2 hm2 PyProof.Rows.boot_reversed (PyProof.Rows.callWith_type1 (args_cons (thn (he.run pins s σ H _ I h) fun u s1 ⟨v, H1, I1, r1, q1⟩ => args_nil ?_) hs2) hs2 rfl))) hs) hs rfl))
  obtain ⟨a, xs, ev, q⟩ := q1
  subst ev
  obtain rfl : u = Value.ref a := r1
  rcases q with ⟨hq, q⟩ | ⟨hq, q⟩
  · obtain ⟨its, rv, p', hz⟩ := I1.list hq
    have hl := rv.length
    have e1 : ((its.toArray.size : Nat) : Int) - 1 = (xs.length : Int) - 1 - ((0 : Nat) : Int) := by simp only [List.size_toArray]; omega
    have hal : a < s1.heap.objs.size := by obtain ⟨o, ho, _⟩ := p'.isList; exact Heap.lt_size ho
    refine call_reversed_list p'.isList (args_nil (call_enum_it (o := revObj a ((its.toArray.size : Int) - 1)) (fun _ _ _ _ _ _ ho q => wpAny_pyIter_revIter ⟨_, ho, rfl, rfl⟩ q) (Heap.get?_push_size _ rfl) fun h' hen hk => wpAny_pyIter_enum hen ?_))
    have hsz : (s1.heap.push (revObj a ((its.toArray.size : Int) - 1))).objs.size = s1.heap.objs.size + 1 := Heap.size_push ..
    have I2 : Inv X pins σ H1 { s1 with heap := h' } := I1.kept (t' := s1.toks) fun b o q => hk b o (Heap.get?_push_of_some _ q)
    have hr := hk _ _ (Heap.get?_push_size (h := s1.heap) (o := revObj a ((its.toArray.size : Int) - 1)) rfl)
    rw [e1] at hr
    have hen' : IsEnum h' (s1.heap.objs.size + 1) s1.heap.objs.size 0 .none := by rw [← hsz]; exact hen
    show PIE X pins σ _ R (.ref (s1.heap.push (revObj a ((its.toArray.size : Int) - 1))).objs.size) _
    rw [hsz]
    refine ⟨s1.heap.objs.size + 1, [s1.heap.objs.size + 1, s1.heap.objs.size], _, _, H1, rfl, I2, turn_el (a := a) (n := xs.length) (s1.heap.objs.size + 1) s1.heap.objs.size (Nat.ne_of_lt hal) (Nat.ne_of_lt (Nat.lt_succ_of_lt hal)), ⟨⟨.none, hen'⟩, ⟨_, hr, rfl, rfl⟩, Nat.succ_ne_self _, Nat.zero_le _⟩, fun b hb => ?_, q⟩
    have hle : s1.heap.objs.size ≤ b := by
      rcases (show b = s1.heap.objs.size + 1 ∨ b = s1.heap.objs.size by simpa using hb) with z | z
      · rw [z]; exact Nat.le_add_right _ _
      · rw [z]; exact Nat.le_refl _
    exact I1.fpOk hle (I1.hok.fresh hle)
  · obtain ⟨its, rv, p', hz⟩ := I1.tuple hq
    have hl := rv.length
    have hn := line63
    have e1 : ((its.toArray.size : Nat) : Int) - 1 = (xs.length : Int) - 1 - ((0 : Nat) : Int) := by simp only [List.size_toArray]; omega
    have hal : a < s1.heap.objs.size := by obtain ⟨o, ho, _⟩ := p'; exact Heap.lt_size ho
    refine call_reversed_tup p' (fun A E Q k => len_tuple p' (by simp only [List.size_toArray] <;> omega) k) (args_nil (call_enum_it (o := rtObj a ((its.toArray.size : Int) - 1)) (fun _ _ _ _ _ _ ho q => iter_rt ⟨_, ho, rfl, rfl⟩ q) (Heap.get?_push_size _ rfl) fun h' hen hk => wpAny_pyIter_enum hen ?_))
    have hsz : (s1.heap.push (rtObj a ((its.toArray.size : Int) - 1))).objs.size = s1.heap.objs.size + 1 := Heap.size_push ..
    have I2 : Inv X pins σ H1 { s1 with heap := h', toks := s1.toks + 1 + 1 } := I1.kept (t' := s1.toks + 1 + 1) fun b o q => hk b o (Heap.get?_push_of_some _ q)
    have hr := hk _ _ (Heap.get?_push_size (h := s1.heap) (o := rtObj a ((its.toArray.size : Int) - 1)) rfl)
    rw [e1] at hr
    have hen' : IsEnum h' (s1.heap.objs.size + 1) s1.heap.objs.size 0 .none := by rw [← hsz]; exact hen
    show PIE X pins σ _ R (.ref (s1.heap.push (rtObj a ((its.toArray.size : Int) - 1))).objs.size) _
    rw [hsz]
    refine ⟨s1.heap.objs.size + 1, [s1.heap.objs.size + 1, s1.heap.objs.size], _, _, H1, rfl, I2, turn_er (a := a) (n := xs.length) (s1.heap.objs.size + 1) s1.heap.objs.size (Nat.ne_of_lt hal) (Nat.ne_of_lt (Nat.lt_succ_of_lt hal)), ⟨⟨.none, hen'⟩, ⟨_, hr, rfl, rfl⟩, Nat.succ_ne_self _, Nat.zero_le _⟩, fun b hb => ?_, q⟩
    have hle : s1.heap.objs.size ≤ b := by
      rcases (show b = s1.heap.objs.size + 1 ∨ b = s1.heap.objs.size by simpa using hb) with z | z
      · rw [z]; exact Nat.le_add_right _ _
      · rw [z]; exact Nat.le_refl _
    exact I1.fpOk hle (I1.hok.fresh hle)
theorem walk_er {K : PySem.W.Frag} {a : Addr} {xs : List V} : Walk (ItER K a xs.length) xs.length (fun H => SqT K H a xs) (YPair (fun i => some (.int (i : Nat))) (fun i => xs[xs.length - 1 - i]?)) := by
  refine ⟨fun i H hi q => ⟨hi, xs, q, rfl⟩, fun H q => ⟨Nat.le_refl _, xs, q, rfl⟩, fun i H v H' _ q y => ?_⟩
  obtain ⟨T, x, h1, h2, h3, h4⟩ := y
  exact ⟨T, .int (i : Nat), x, h1, h2, h3, rfl, h4 xs q⟩
theorem walk_el {K : PySem.W.Frag} {a : Addr} {xs : List V} : Walk (ItEL K a xs.length) xs.length (fun H => SqL K H a xs) (YPair (fun i => some (.int (i : Nat))) (fun i => xs[xs.length - 1 - i]?)) := by
  refine ⟨fun i H hi q => ⟨hi, xs, q, rfl⟩, fun H q => ⟨Nat.le_refl _, xs, q, rfl⟩, fun i H v H' _ q y => ?_⟩
  obtain ⟨T, x, h1, h2, h3, h4⟩ := y
  exact ⟨T, .int (i : Nat), x, h1, h2, h3, rfl, h4 xs q⟩
end HV
namespace KX
open PySem PySem.Spec PyProof.Rows L2 SX HL
/-! ### more rules within comprehensions: K is told -/
section
variable {X : Cx} {K : PySem.W.Frag}
theorem pa_starK {e : Expr} {es : List Expr} {te : TE} {t : TA} {p : Pos} (h : X.K = K) (he : PE X e te) (hr : PA X es t) (hs : starEach (.Starred e p :: es) X.env = (true, eval e X.env) :: starEach es X.env := by rfl) : PA X (.Starred e p :: es) (StX.tStar K te t) := by
  subst h
  exact StX.pa_star he hr hs
theorem call_tuple_ofK (h : X.K = K) : CallR X (.type "tuple") (fun xs H Q => ∃ p ys, xs = [.ref p] ∧ ((SqL K H p ys ∧ ∀ l, H l = none → Q (.ref l) (upd H l (.tup ys))) ∨ (SqT K H p ys ∧ Q (.ref p) H))) := by
  subst h
  exact call_tuple_of
theorem pe_fldK {e : Expr} {ta : TE} {f : Str} {pos : Pos} (h : X.K = K) (he : PE X e ta) (hb : attributeBase e f X.env (eval e X.env) = eval e X.env) : PE X (.Attribute e f pos) (tFld K ta f) := by
  subst h
  exact pe_fld he hb
theorem op_catTK (h : X.K = K) : OpR X (binaryOp .Add) (rCatT K) := by
  subst h
  exact op_catT
end
end KX
namespace HC
open PySem PySem.Spec PyProof.Rows L2
section
variable {J : It} {n : Nat} {G : Hp → Prop} {Y : Nat → Hp → V → Hp → Prop}
/-- any walk, any body: for the two clauses of a comprehension -/
theorem wk_it (w : Walk J n G Y) {B : V → Hp → (Hp → Prop) → Prop} {H0 : Hp} {Qd : Hp → Prop} (Pv : Nat → Hp → Prop) (h0 : Pv 0 H0) (hG : ∀ i H, i ≤ n → Pv i H → G H)
    (hs : ∀ i x H H', i < n → Pv i H → Y i H x H' → B x H' (Pv (i + 1))) (hd : ∀ H, Pv n H → Qd H) :
    ∃ W : Nat → Nat → Hp → Prop, (∃ m, W 0 m H0) ∧ ∀ i m H, W i m H →
      (J.stop i H ∧ Qd H) ∨ (J.go i H ∧ ∃ Nx : Hp → Prop, (∀ H', Nx H' → ∃ m', m' < m ∧ W (i + 1) m' H') ∧ ∀ x H', J.yld i H x H' → B x H' Nx) := by
  refine ⟨fun i m H => m = n - i ∧ i ≤ n ∧ Pv i H, ⟨n, by simp, Nat.zero_le _, h0⟩, ?_⟩
  rintro i m H ⟨rfl, hi, p⟩
  have q := hG i H hi p
  by_cases hlt : i < n
  · exact .inr ⟨w.goes i H hlt q, Pv (i + 1), fun H' p' => ⟨n - (i + 1), by omega, rfl, hlt, p'⟩, fun x H' y => hs i x H H' hlt p (w.yields i H x H' hlt q y)⟩
  · obtain rfl : i = n := by omega
    exact .inl ⟨w.stops H q, hd H p⟩
end
theorem yes {f : Bool → Hp → Prop} {σ : L2.St} {H : Hp} (h : f true H) : tYes σ H f := h
theorem pi_zipK {K : PySem.W.Frag} {X : Cx} {e e2 : Expr} {ta : TA} {p pos tpos : Pos} {elts : List Expr} {kk : Nat} (hK : X.K = K) (hg : Gl X "zip") (hm : X.mg "zip" = none) (ha : PA X [e, e2] ta)
    (hs : starEach [e, e2] X.env = (false, eval e X.env) :: starEach [e2] X.env := by rfl) (hpl : (backTo pos (starEach [e2] X.env)).any (·.1) = false := by rfl) :
    PI X (.Tuple elts kk tpos) (.Call (.Name "zip" p) [e, e2] [] pos) (iZip K ta) := by
  subst hK
  exact pi_zip hg hm ha hs hpl
theorem pi_listK {K : PySem.W.Frag} {X : Cx} {e tg : Expr} {t : TE} (hK : X.K = K) (h : PI X tg e (iList X.K t)) : PI X tg e (iList K t) := by
  subst hK
  exact h
theorem op_ltTK {K : PySem.W.Frag} {X : Cx} (hK : X.K = K) (hu : X.A.units < cLine) : OpR X (compareOp .Lt) (rLtT K) := by
  subst hK
  exact op_ltT hu
end HC
namespace Q33
open PySem PySem.Spec PyProof.Rows L2 SX HL
def topS (i : Nat) : Stmt := PySem.Challenge.pw_quillrun_k33_code_of_expressions.main.body.getD i (.Pass ⟨0, 0, 0, 0⟩)
abbrev sExpressions : Stmt := topS 1
theorem scExpressions : FnScope ["definition", "e", "settings", "setting"] ["definition"] (defScope sExpressions) := ⟨rfl, rfl, rfl, by decide +kernel, rfl, by decide +kernel, by decide +kernel⟩
abbrev sParameters : Stmt := topS 2
theorem scParameters : FnScope ["definition"] ["definition"] (defScope sParameters) := ⟨rfl, rfl, rfl, by decide +kernel, rfl, by decide +kernel, by decide +kernel⟩
abbrev sDefinitionCode : Stmt := topS 5
theorem scDefinitionCode : FnScope ["definition", "e"] ["definition"] (defScope sDefinitionCode) := ⟨rfl, rfl, rfl, by decide +kernel, rfl, by decide +kernel, by decide +kernel⟩
abbrev sCodeOf : Stmt := topS 6
theorem scCodeOf : FnScope ["e", "names", "name", "operator", "first", "second", "items", "maker", "arguments", "whole", "arms"] ["e", "names"] (defScope sCodeOf) := ⟨rfl, rfl, rfl, by decide +kernel, rfl, by decide +kernel, by decide +kernel⟩
abbrev sCodeOfChoice : Stmt := topS 7
theorem scCodeOfChoice : FnScope ["e", "names", "condition", "first", "second", "one", "other", "whole", "item", "rest", "start"] ["e", "names"] (defScope sCodeOfChoice) := ⟨rfl, rfl, rfl, by decide +kernel, rfl, by decide +kernel, by decide +kernel⟩
abbrev sCodeOfAll : Stmt := topS 8
theorem scCodeOfAll : FnScope ["parts", "names", "e", "instruction"] ["parts", "names"] (defScope sCodeOfAll) := ⟨rfl, rfl, rfl, by decide +kernel, rfl, by decide +kernel, by decide +kernel⟩
abbrev sCodeOfName : Stmt := topS 9
theorem scCodeOfName : FnScope ["name", "names", "nearer", "known"] ["name", "names"] (defScope sCodeOfName) := ⟨rfl, rfl, rfl, by decide +kernel, rfl, by decide +kernel, by decide +kernel⟩
abbrev sCodeOfBinary : Stmt := topS 10
theorem scCodeOfBinary : FnScope ["operator", "first", "second"] ["operator", "first", "second"] (defScope sCodeOfBinary) := ⟨rfl, rfl, rfl, by decide +kernel, rfl, by decide +kernel, by decide +kernel⟩
abbrev sCodeOfArms : Stmt := topS 11
theorem scCodeOfArms : FnScope ["arms", "names", "blocks", "total", "choices", "code", "arm", "block", "_", "own", "e"] ["arms", "names"] (defScope sCodeOfArms) := ⟨rfl, rfl, rfl, by decide +kernel, rfl, by decide +kernel, by decide +kernel⟩
abbrev sLawNext : Stmt := topS 13
theorem scLawNext : FnScope ["state", "limit", "cell", "value"] ["state", "limit"] (defScope sLawNext) := ⟨rfl, rfl, rfl, by decide +kernel, rfl, by decide +kernel, by decide +kernel⟩
abbrev sLawSame : Stmt := topS 14
theorem scLawSame : FnScope ["actual", "expected", "k"] ["actual", "expected"] (defScope sLawSame) := ⟨rfl, rfl, rfl, by decide +kernel, rfl, by decide +kernel, by decide +kernel⟩
abbrev sLawWild : Stmt := topS 15
theorem scLawWild : FnScope ["state", "names", "depth", "pick", "parts", "local", "operators", "arms", "k"] ["state", "names", "depth"] (defScope sLawWild) := ⟨rfl, rfl, rfl, by decide +kernel, rfl, by decide +kernel, by decide +kernel⟩
abbrev sLawCode : Stmt := topS 16
theorem scLawCode : FnScope ["e", "names", "form", "k", "code", "part", "count", "empty", "filled", "parts"] ["e", "names"] (defScope sLawCode) := ⟨rfl, rfl, rfl, by decide +kernel, rfl, by decide +kernel, by decide +kernel⟩
abbrev sLawMatchCode : Stmt := topS 17
theorem scLawMatchCode : FnScope ["e", "names", "arms", "code", "choices", "k", "maker", "parts", "result", "arm"] ["e", "names"] (defScope sLawMatchCode) := ⟨rfl, rfl, rfl, by decide +kernel, rfl, by decide +kernel, by decide +kernel⟩
abbrev sLawEndsWithin : Stmt := topS 18
theorem scLawEndsWithin : FnScope ["code", "k", "skips", "maker", "count", "skipped"] ["code"] (defScope sLawEndsWithin) := ⟨rfl, rfl, rfl, by decide +kernel, rfl, by decide +kernel, by decide +kernel⟩
abbrev sLaw : Stmt := topS 19
theorem scLaw : FnScope ["script", "state", "names", "es", "k", "codes", "actual", "settings", "own", "e", "cell"] ["script"] (defScope sLaw) := ⟨rfl, rfl, rfl, by decide +kernel, rfl, by decide +kernel, by decide +kernel⟩
/-- what the top has written -/
structure Defs (K : PySem.W.Frag) (mg : Str → Option Value) where
  bool : mg "bool" = none
  enumerate : mg "enumerate" = none
  int : mg "int" = none
  isinstance : mg "isinstance" = none
  len : mg "len" = none
  list : mg "list" = none
  max : mg "max" = none
  min : mg "min" = none
  range : mg "range" = none
  reversed : mg "reversed" = none
  str : mg "str" = none
  sum : mg "sum" = none
  tuple : mg "tuple" = none
  zip : mg "zip" = none
  fExpressions : Addr
  fdExpressions : FuncData
  DExpressions : DefN K mg "expressions" sExpressions ["definition"] fExpressions fdExpressions
  fParameters : Addr
  fdParameters : FuncData
  DParameters : DefN K mg "parameters" sParameters ["definition"] fParameters fdParameters
  fDefinitionCode : Addr
  fdDefinitionCode : FuncData
  DDefinitionCode : DefN K mg "definition_code" sDefinitionCode ["definition"] fDefinitionCode fdDefinitionCode
  fCodeOf : Addr
  fdCodeOf : FuncData
  DCodeOf : DefN K mg "code_of" sCodeOf ["e", "names"] fCodeOf fdCodeOf
  fCodeOfChoice : Addr
  fdCodeOfChoice : FuncData
  DCodeOfChoice : DefN K mg "code_of_choice" sCodeOfChoice ["e", "names"] fCodeOfChoice fdCodeOfChoice
  fCodeOfAll : Addr
  fdCodeOfAll : FuncData
  DCodeOfAll : DefN K mg "code_of_all" sCodeOfAll ["parts", "names"] fCodeOfAll fdCodeOfAll
  fCodeOfName : Addr
  fdCodeOfName : FuncData
  DCodeOfName : DefN K mg "code_of_name" sCodeOfName ["name", "names"] fCodeOfName fdCodeOfName
  fCodeOfBinary : Addr
  fdCodeOfBinary : FuncData
  DCodeOfBinary : DefN K mg "code_of_binary" sCodeOfBinary ["operator", "first", "second"] fCodeOfBinary fdCodeOfBinary
  fCodeOfArms : Addr
  fdCodeOfArms : FuncData
  DCodeOfArms : DefN K mg "code_of_arms" sCodeOfArms ["arms", "names"] fCodeOfArms fdCodeOfArms
  fLawNext : Addr
  fdLawNext : FuncData
  DLawNext : DefN K mg "_law_next" sLawNext ["state", "limit"] fLawNext fdLawNext
  fLawSame : Addr
  fdLawSame : FuncData
  DLawSame : DefN K mg "_law_same" sLawSame ["actual", "expected"] fLawSame fdLawSame
  fLawWild : Addr
  fdLawWild : FuncData
  DLawWild : DefN K mg "_law_wild" sLawWild ["state", "names", "depth"] fLawWild fdLawWild
  fLawCode : Addr
  fdLawCode : FuncData
  DLawCode : DefN K mg "_law_code" sLawCode ["e", "names"] fLawCode fdLawCode
  fLawMatchCode : Addr
  fdLawMatchCode : FuncData
  DLawMatchCode : DefN K mg "_law_match_code" sLawMatchCode ["e", "names"] fLawMatchCode fdLawMatchCode
  fLawEndsWithin : Addr
  fdLawEndsWithin : FuncData
  DLawEndsWithin : DefN K mg "_law_ends_within" sLawEndsWithin ["code"] fLawEndsWithin fdLawEndsWithin
  fLaw : Addr
  fdLaw : FuncData
  DLaw : DefN K mg "law" sLaw ["script"] fLaw fdLaw
  aD : Addr
  gD : mg "DECIDING" = some (.ref aD)
  dAnd : PySem.W.nsIn K aD "and" = some (some (.bool false))
  dOr : PySem.W.nsIn K aD "or" = some (some (.bool true))
  dAdd : PySem.W.nsIn K aD "+" = some none
  dSub : PySem.W.nsIn K aD "-" = some none
  dMul : PySem.W.nsIn K aD "*" = some none
  dDiv : PySem.W.nsIn K aD "/" = some none
  dMod : PySem.W.nsIn K aD "mod" = some none
  dCat : PySem.W.nsIn K aD "++" = some none
  dEq : PySem.W.nsIn K aD "=" = some none
  dLt : PySem.W.nsIn K aD "<" = some none
end Q33
namespace Q33
open PySem PySem.Spec PyProof.Rows L2 SX HL
section
variable {P : Program} {w : World} {K : PySem.W.Frag} {mg : Str → Option Value} {base : Heap}
/-! ### code_of_name -/
/-- how many names stand nearer than x -/
def near : List Str → Str → Option Nat
  | [], _ => none
  | y :: r, x => if y = x then some 0 else (near r x).map (· + 1)
theorem near_hit (x : Str) : ∀ (l : List Str) (i : Nat), near (l.take i) x = none → l[i]? = some x → near l x = some i
  | [], i, _, h => by simp at h
  | y :: l, 0, _, h => by
    have e : y = x := by simpa using h
    unfold near
    rw [if_pos e]
  | y :: l, i + 1, h1, h2 => by
    have h1 : near (y :: l.take i) x = none := h1
    unfold near at h1 ⊢
    by_cases e : y = x
    · rw [if_pos e] at h1
      cases h1
    · rw [if_neg e] at h1 ⊢
      rw [near_hit x l i (by simpa using h1) (by simpa using h2)]
      rfl
theorem near_snoc (x : Str) : ∀ (l : List Str) (y : Str), near l x = none → y ≠ x → near (l ++ [y]) x = none
  | [], y, _, h => by
    show near [y] x = none
    unfold near
    rw [if_neg h]
    rfl
  | z :: l, y, h1, h2 => by
    show near (z :: (l ++ [y])) x = none
    unfold near at h1 ⊢
    by_cases e : z = x
    · rw [if_pos e] at h1
      cases h1
    · rw [if_neg e] at h1 ⊢
      rw [near_snoc x l y (by simpa using h1) h2]
      rfl
def nameI (ns : List Str) (x : Str) : List V := match near ns.reverse x with
  | some k => [.str "local", .int (k : Int)]
  | none => [.str "look", .str x]
/-- the names, in a list or a tuple -/
def Names (K : PySem.W.Frag) (H : Hp) (v : V) (ns : List Str) : Prop := ∃ a, v = .ref a ∧ (SqL K H a (ns.map V.str) ∨ SqT K H a (ns.map V.str))
def spName (K : PySem.W.Frag) : Sp := fun vs H Q _ => ∃ (x : Str) (v : V) (ns : List Str), vs = [.str x, v] ∧ Names K H v ns ∧ ∀ T H', Same H H' → H T = none → H' T = some (.tup (nameI ns x)) → Q (.ref T) H'
theorem ok_name {k : Nat} (Z : Defs K mg) : FnOk P w K mg base CX0 (k + 1) Z.fCodeOfName Z.fdCodeOfName ["name", "names"] (spName K) := by
  refine Z.DCodeOfName.F.ok scCodeOfName (fun vs H Q E h => ?_) (fun cdv A outer s H vs Q E hr h => ?_)
  · obtain ⟨x, v, ns, rfl, _⟩ := h
    rfl
  · obtain ⟨x, v, ns, rfl, ⟨a, rfl, hN⟩, qq⟩ := h
    refine ⟨_, (pss_cons (ps_for PassesOwn.never rfl (HV.pi_enumR (by rfl) Z.enumerate (by rfl) Z.reversed (pv 1)) (pg_tup rfl (pgs_cons (pg_name (i := 2) scCodeOfName.nd rfl (.inl rfl)) (pgs_cons (pg_name (i := 3) scCodeOfName.nd rfl (.inl rfl)) pgs_nil))) (pss_one (ps_if (pt_cmpR op_eq (pv 3) (pv 0) (nomark _)) (pss_one (ps_ret (pe_tup (pa_cons pe_str (pa_cons (pv 2) pa_nil))))) pss_nil)))
        (pss_one (ps_ret (pe_tup (pa_cons pe_str (pa_cons (pv 0) pa_nil)))))), ?_⟩
    have hrl : (ns.map V.str).length = ns.reverse.length := by simp
    have at_ : ∀ i v, i < (ns.map V.str).length → (ns.map V.str)[(ns.map V.str).length - 1 - i]? = some v → ∃ y, ns.reverse[i]? = some y ∧ v = V.str y := fun i v hi e => by
      rw [List.length_map] at hi e
      rw [List.getElem?_map] at e
      rw [List.getElem?_reverse hi]
      cases q : ns[ns.length - 1 - i]? with
      | none => rw [q] at e; cases e
      | some y => rw [q] at e; cases e; exact ⟨y, rfl, rfl⟩
    rcases hN with hN | hN
    case' inl => refine ⟨_, rfl, a, _, rfl, .inl ⟨hN, for_it HV.walk_el (fun i σ H' => ∃ y2 y3, σ = [some (.str x), some (.ref a), y2, y3] ∧ Same H H' ∧ near (ns.reverse.take i) x = none) ⟨_, _, rfl, fun _ _ h => h, rfl⟩ (fun i σ H' _ p => by obtain ⟨_, _, _, sm, _⟩ := p; exact SqL.ext hN sm) ?_ ?_⟩⟩
    case' inr => refine ⟨_, rfl, a, _, rfl, .inr ⟨hN, for_it HV.walk_er (fun i σ H' => ∃ y2 y3, σ = [some (.str x), some (.ref a), y2, y3] ∧ Same H H' ∧ near (ns.reverse.take i) x = none) ⟨_, _, rfl, fun _ _ h => h, rfl⟩ (fun i σ H' _ p => by obtain ⟨_, _, _, sm, _⟩ := p; exact SqT.ext hN sm) ?_ ?_⟩⟩
    case' inl.refine_1 => rintro i v σ H1 H2 hi ⟨y2, y3, rfl, sm, hnr⟩ ⟨Tp, x1, x2, rfl, hT, rfl, e1, e2⟩
    case' inr.refine_1 => rintro i v σ H1 H2 hi ⟨y2, y3, rfl, sm, hnr⟩ ⟨Tp, x1, x2, rfl, hT, rfl, e1, e2⟩
    case' inl.refine_2 => rintro σ H1 ⟨y2, y3, rfl, sm, hnr⟩
    case' inr.refine_2 => rintro σ H1 ⟨y2, y3, rfl, sm, hnr⟩
    case' inl.refine_2 =>
      rw [hrl, List.take_length] at hnr
      refine ⟨_, rfl, by show 2 ≤ sizeLine; decide, fun t ht => qq t _ (fun b o hb => same_upd ht _ _ (sm b o hb)) (sm.free ht) (by rw [upd_same]; unfold nameI; rw [hnr])⟩
    case' inr.refine_2 =>
      rw [hrl, List.take_length] at hnr
      refine ⟨_, rfl, by show 2 ≤ sizeLine; decide, fun t ht => qq t _ (fun b o hb => same_upd ht _ _ (sm b o hb)) (sm.free ht) (by rw [upd_same]; unfold nameI; rw [hnr])⟩
    all_goals obtain rfl : V.int (i : Nat) = x1 := Option.some.inj e1
    all_goals obtain ⟨y, hy, rfl⟩ := at_ i x2 hi e2
    all_goals have sm2 : Same H (upd H1 Tp (.tup [.int (i : Nat), .str y])) := fun b o hb => same_upd hT _ _ (sm b o hb)
    all_goals refine ⟨Tp, _, rfl, SqT.of upd_same, rfl, _, _, rfl, _, _, rfl, rfl, _, rfl, _, rfl, rfl, decide (y = x), by show V.bl (decide (V.str y = V.str x)) = _; congr 1; simp, ?_⟩
    all_goals have tk : ns.reverse.take (i + 1) = ns.reverse.take i ++ [y] := by rw [List.take_add_one, hy]; rfl
    all_goals by_cases e : y = x
    case' pos =>
      rw [decide_eq_true e]
      refine iteT ⟨_, rfl, by show 2 ≤ sizeLine; decide, fun t ht => qq t _ (fun b o hb => same_upd ht _ _ (sm2 b o hb)) (sm2.free ht) ?_⟩
      rw [upd_same]
      unfold nameI
      rw [near_hit x _ _ hnr (by rw [← e]; exact hy)]
    case' neg =>
      rw [decide_eq_false e]
      refine iteF ⟨_, _, rfl, sm2, ?_⟩
      rw [tk]
      exact near_snoc x _ _ hnr e
    case' pos =>
      rw [decide_eq_true e]
      refine iteT ⟨_, rfl, by show 2 ≤ sizeLine; decide, fun t ht => qq t _ (fun b o hb => same_upd ht _ _ (sm2 b o hb)) (sm2.free ht) ?_⟩
      rw [upd_same]
      unfold nameI
      rw [near_hit x _ _ hnr (by rw [← e]; exact hy)]
    case' neg =>
      rw [decide_eq_false e]
      refine iteF ⟨_, _, rfl, sm2, ?_⟩
      rw [tk]
      exact near_snoc x _ _ hnr e
end
end Q33
namespace Q33
open PySem PySem.Spec PyProof.Rows L2 SX HL
section
variable {P : Program} {w : World} {K : PySem.W.Frag} {mg : Str → Option Value} {base : Heap}
/-! ### _law_next -/
def StAt (H : Hp) (p q : Addr) (ns : List Int) (g : Int) : Prop := H q = some (.lst (ns.map V.int)) ∧ ns.length ≤ 63 ∧ ∃ (i c z : Int), H p = some (.lst [.ref q, .int i, .int c, .int z, .int g]) ∧ 0 ≤ i ∧ 0 ≤ c ∧ 0 ≤ z ∧ z < 2147483648
theorem StAt.upd {H : Hp} {p q : Addr} {ns : List Int} {g : Int} (h : StAt H p q ns g) {i c z : Int} (hi : 0 ≤ i) (hc : 0 ≤ c) (hz : 0 ≤ z) (hz2 : z < 2147483648) : StAt (upd H p (.lst [.ref q, .int i, .int c, .int z, .int g])) p q ns g := by
  obtain ⟨h1, hl, i0, c0, z0, h2, _⟩ := h
  have ne : q ≠ p := by
    intro e
    subst e
    rw [h1] at h2
    have e2 := HO.lst.inj (Option.some.inj h2)
    cases ns with
    | nil => cases e2
    | cons x r => cases e2
  exact ⟨by rw [upd_ne ne]; exact h1, hl, i, c, z, upd_same, hi, hc, hz, hz2⟩
def spNext : Sp := fun vs H Q _ => ∃ (p q : Addr) (ns : List Int) (g lim : Int), vs = [.ref p, .int lim] ∧ StAt H p q ns g ∧ 0 < lim ∧ lim < 1000 ∧
  ∀ H' v, StAt H' p q ns g → But H H' p → 0 ≤ v → v < lim → Q (.int v) H'
theorem ok_next {k : Nat} (Z : Defs K mg) : FnOk P w K mg base CX0 (k + 1) Z.fLawNext Z.fdLawNext ["state", "limit"] spNext := by
  refine Z.DLawNext.F.ok scLawNext (fun vs H Q E h => ?_) (fun cdv A outer s H vs Q E hr h => ?_)
  · obtain ⟨p, q, ns, g, lim, rfl, _⟩ := h
    rfl
  · obtain ⟨p, q, ns, g, lim, rfl, hS, l0, l1, qq⟩ := h
    refine ⟨_, (C8.pss_cut (ps_if (PW.pt (pw_and (pt_cmpR op_eq (pe_ix ix_list (pv 0) pe_int (fun _ _ => rfl)) pe_int (nomark _)) (pw_and1 (pt_cmpR op_lt (pe_ix ix_list (pv 0) pe_int (fun _ _ => rfl)) (pe_callB call_len_seq (by rfl) Z.len PySem.boot_len (pa_cons (pe_ix ix_list (pv 0) pe_int (fun _ _ => rfl)) pa_nil)) (nomark _))))) (pss_cons (ps_set (i := 2) scLawNext.nd rfl (.inl rfl) (pe_ix ix_list (pe_ix ix_list (pv 0) pe_int (fun _ _ => rfl)) (pe_ix ix_list (pv 0) pe_int (fun _ _ => rfl)) (fun _ _ => rfl)))
        (pss_cons (ps_augS (pv 0) pe_int pget_list pe_int ip_add set_list)
        (pss_one (ps_if (pt_cmpR op_ge (pv 2) (pe_op op_pow pe_int pe_int) (nomark _)) (pss_one (ps_asg (pv 2) (pg_sub (pv 0) pe_int set_list))) (pss_one (ps_asg (pe_op op_mod (pe_callTy call_int1 (by rfl) Z.int HL.boot_int (pa_cons (pe_op op_add (pe_op op_add (pe_op op_mul (pe_ix ix_list (pv 0) pe_int (fun _ _ => rfl)) pe_int) (pe_op op_mod (pe_callTy call_int1 (by rfl) Z.int HL.boot_int (pa_cons (pv 2) pa_nil)) pe_int)) pe_int) pa_nil)) pe_int) (pg_sub (pv 0) pe_int set_list))))))) pss_nil)
        (pss_cons (ps_if (pt_cmpR op_gt (pe_ix ix_list (pv 0) pe_int (fun _ _ => rfl)) pe_int (nomark _)) (pss_cons (ps_set (i := 3) scLawNext.nd rfl (.inl rfl) (pe_op op_mod (pe_callTy call_int1 (by rfl) Z.int HL.boot_int (pa_cons (pe_ix ix_list (pv 0) pe_int (fun _ _ => rfl)) pa_nil)) (pv 1)))
        (pss_cons (ps_asg (pe_op op_fdiv (pe_ix ix_list (pv 0) pe_int (fun _ _ => rfl)) (pv 1)) (pg_sub (pv 0) pe_int set_list))
        (pss_one (ps_ret (pv 3))))) pss_nil)
        (pss_cons (ps_asg (pe_op op_mod (pe_callTy call_int1 (by rfl) Z.int HL.boot_int (pa_cons (pe_op op_add (pe_op op_mul (pe_ix ix_list (pv 0) pe_int (fun _ _ => rfl)) pe_int) pe_int) pa_nil)) pe_int) (pg_sub (pv 0) pe_int set_list))
        (pss_one (ps_ret (pe_op op_mod (pe_callTy call_int1 (by rfl) Z.int HL.boot_int (pa_cons (pe_op op_fdiv (pe_ix ix_list (pv 0) pe_int (fun _ _ => rfl)) pe_int) pa_nil)) (pv 1))))))), ?_⟩
    obtain ⟨hq, hlen, i, c, z, hp, hi, hc, hz, hz2⟩ := id hS
    refine ⟨fun σ' H' => StAt H' p q ns g ∧ But H H' p ∧ ∃ y, σ' = [some (.ref p), some (.int lim), y, none], ?_, ?_⟩
    · refine ⟨.ref p, rfl, p, _, 2, .int c, rfl, rfl, SqL.of hp, rfl, rfl, _, rfl, ite2 (fun e => ?_) (fun e => iteF ⟨hS, But.refl, _, rfl⟩)⟩
      refine ⟨.ref p, rfl, p, _, 1, .int i, rfl, rfl, SqL.of hp, rfl, .ref p, rfl, p, _, 0, .ref q, rfl, rfl, SqL.of hp, rfl, q, _, rfl, .inl (SqL.of hq), _, _, rfl, rfl, _, rfl, ite2 (fun e2 => ?_) (fun e2 => ⟨hS, But.refl, _, rfl⟩)⟩
      have h2 : i < (ns.map V.int).length := of_decide_eq_true e2
      rw [List.length_map] at h2
      have hg : (ns.map V.int)[i.toNat]? = some (.int (ns.getD i.toNat 0)) := by
        have : i.toNat < ns.length := by omega
        simp [this]
      have hat : atI (ns.map V.int) i = some (.int (ns.getD i.toNat 0)) := by
        have : i = (i.toNat : Int) := by omega
        rw [this]
        exact atI_nat hg
      generalize ns.getD i.toNat 0 = x at hat
      refine ⟨.ref p, rfl, p, _, 0, .ref q, rfl, rfl, SqL.of hp, rfl, .ref p, rfl, p, _, 1, .int i, rfl, rfl, SqL.of hp, rfl, q, _, i, _, rfl, rfl, SqL.of hq, hat, ?_⟩
      refine ⟨.ref p, rfl, p, _, 1, .int i, rfl, rfl, SqL.of hp, by decide, rfl, i, 1, rfl, rfl, p, _, 1, 1, rfl, rfl, hp, rfl, ?_⟩
      have s1 := hS.upd (i := i + 1) (c := c) (z := z) (by omega) hc hz hz2
      refine ⟨_, rfl, _, _, rfl, rfl, ⟨by decide, by decide, by decide⟩, _, _, rfl, rfl, _, rfl, ite2 (fun e3 => ?_) (fun e3 => ?_)⟩
      · have h3 : (10 : Int) ^ 18 ≤ x := of_decide_eq_true e3
        have h4 : (0 : Int) ≤ x := Int.le_trans (by decide) h3
        refine ⟨_, rfl, .ref p, rfl, p, _, 2, 2, rfl, rfl, upd_same, rfl, ?_⟩
        rw [upd_upd]
        exact ⟨hS.upd (by show (0 : Int) ≤ i + 1; omega) h4 hz hz2, but_upd, _, rfl⟩
      · refine ⟨.ref p, rfl, p, _, 3, .int z, rfl, rfl, SqL.of upd_same, rfl, z, 48271, rfl, rfl, .inl ⟨by omega, by omega⟩, _, rfl, .inl ⟨x, rfl, x, _, rfl, rfl, (by show (0 : Int) < 2147483647; decide), _, _, rfl, rfl, _, _, rfl, rfl, .inl ⟨_, rfl, _, _, rfl, rfl, (by show (0 : Int) < 2147483647; decide), .ref p, rfl, p, _, 3, 3, rfl, rfl, upd_same, rfl, ?_⟩⟩⟩
        rw [upd_upd]
        refine ⟨hS.upd (by show (0 : Int) ≤ i + 1; omega) hc ?_ ?_, but_upd, _, rfl⟩
        · exact Int.emod_nonneg _ (by decide)
        · have := Int.emod_lt_of_pos (z * 48271 + x % 2147483647 + 7) (b := 2147483647) (by decide)
          omega
    · rintro σ' H' ⟨hS', hB, y, rfl⟩
      obtain ⟨hq', hlen', i', c', z', hp', hi', hc', hz', hz2'⟩ := id hS'
      refine ⟨.ref p, rfl, p, _, 2, .int c', rfl, rfl, SqL.of hp', rfl, c', 0, rfl, rfl, _, rfl, ite2 (fun e => ?_) (fun e => ?_)⟩
      · refine ⟨.ref p, rfl, p, _, 2, .int c', rfl, rfl, SqL.of hp', rfl, .inl ⟨c', rfl, .int lim, rfl, c', lim, rfl, rfl, l0, ?_⟩⟩
        refine ⟨.ref p, rfl, p, _, 2, .int c', rfl, rfl, SqL.of hp', rfl, .int lim, rfl, c', lim, rfl, rfl, ⟨l0, by omega⟩, .ref p, rfl, p, _, 2, 2, rfl, rfl, hp', rfl, _, rfl, ?_⟩
        refine qq _ _ (hS'.upd hi' (Int.ediv_nonneg hc' (by omega)) hz' hz2') (hB.trans but_upd) (Int.emod_nonneg _ (by omega)) (Int.emod_lt_of_pos _ l0)
      · refine ⟨.ref p, rfl, p, _, 3, .int z', rfl, rfl, SqL.of hp', rfl, z', 69621, rfl, rfl, .inl ⟨by omega, by omega⟩, _, _, rfl, rfl, .inl ⟨_, rfl, _, _, rfl, rfl, (by show (0 : Int) < 2147483647; decide), .ref p, rfl, p, _, 3, 3, rfl, rfl, hp', rfl, ?_⟩⟩
        have b1 : 0 ≤ (z' * 69621 + 12345) % 2147483647 := Int.emod_nonneg _ (by decide)
        have b2 := Int.emod_lt_of_pos (z' * 69621 + 12345) (b := 2147483647) (by decide)
        refine ⟨.ref p, rfl, p, _, 3, .int ((z' * 69621 + 12345) % 2147483647), rfl, rfl, SqL.of upd_same, rfl, _, 7, rfl, rfl, ⟨by decide, by decide⟩, .inl ⟨_, rfl, .int lim, rfl, _, lim, rfl, rfl, l0, ?_⟩⟩
        exact qq _ _ (hS'.upd hi' hc' b1 (by omega)) (hB.trans but_upd) (Int.emod_nonneg _ (by omega)) (Int.emod_lt_of_pos _ l0)
end
end Q33
namespace Q33
open PySem PySem.Spec PyProof.Rows L2 SX HL
section
variable {P : Program} {w : World} {K : PySem.W.Frag} {mg : Str → Option Value} {base : Heap}
/-! ### _law_same -/
theorem same_zero {k : Nat} (Z : Defs K mg) : FnOk P w K mg base CX0 (k + 1) Z.fLawSame Z.fdLawSame ["actual", "expected"] (spSame K 0) := by
  refine Z.DLawSame.F.ok scLawSame (fun vs H Q E h => ?_) (fun cdv A outer s H vs Q E hr h => ?_)
  · obtain ⟨x, y, rfl, _⟩ := h
    rfl
  · obtain ⟨x, y, rfl, ⟨lf, rfl⟩, q⟩ := h
    refine ⟨_, (pss_cons (ps_if (pt_cmp (pc_isN (pv 1))) (pss_one (ps_ret (pe_cmp (pc_isN (pv 0)) rfl))) pss_nil)
        (pss_cons (ps_if (pt_val (pe_callB call_isB (by rfl) Z.isinstance HL.boot_isinstance (pa_cons (pv 1) (pa_cons (pe_bltn (v := .ty "bool") (by rfl) Z.bool HL.boot_bool rfl) pa_nil)))) (pss_one (ps_ret (pe_and (pe_callB call_isB (by rfl) Z.isinstance HL.boot_isinstance (pa_cons (pv 0) (pa_cons (pe_bltn (v := .ty "bool") (by rfl) Z.bool HL.boot_bool rfl) pa_nil))) (pe_one (pe_cmpR op_eq (pv 0) (pv 1) (nomark _)))))) pss_nil)
        (pss_cons (ps_if (pt_val (pe_callB call_isB (by rfl) Z.isinstance HL.boot_isinstance (pa_cons (pv 1) (pa_cons (pe_bltn (v := .ty "int") (by rfl) Z.int HL.boot_int rfl) pa_nil)))) (pss_one (ps_ret (pe_and (pe_callB call_isB (by rfl) Z.isinstance HL.boot_isinstance (pa_cons (pv 0) (pa_cons (pe_bltn (v := .ty "int") (by rfl) Z.int HL.boot_int rfl) pa_nil))) (pe_and (pe_not (pe_callB call_isB (by rfl) Z.isinstance HL.boot_isinstance (pa_cons (pv 0) (pa_cons (pe_bltn (v := .ty "bool") (by rfl) Z.bool HL.boot_bool rfl) pa_nil)))) (pe_one (pe_cmpR op_eq (pv 0) (pv 1) (nomark _))))))) pss_nil)
        (pss_cons (ps_if (pt_val (pe_callB call_isB (by rfl) Z.isinstance HL.boot_isinstance (pa_cons (pv 1) (pa_cons (pe_bltn (v := .ty "str") (by rfl) Z.str HL.boot_str rfl) pa_nil)))) (pss_one (ps_ret (pe_and (pe_callB call_isB (by rfl) Z.isinstance HL.boot_isinstance (pa_cons (pv 0) (pa_cons (pe_bltn (v := .ty "str") (by rfl) Z.str HL.boot_str rfl) pa_nil))) (pe_one (pe_cmpR op_eq (pv 0) (pv 1) (nomark _)))))) pss_nil) pss_never)))), ?_⟩
    cases x with
    | int i =>
      refine ⟨_, rfl, _, rfl, iteF ?_⟩
      refine ⟨_, rfl, _, "int", "bool", false, rfl, .base (.int i), by decide +kernel, false, rfl, iteF ?_⟩
      refine ⟨_, rfl, _, "int", "int", true, rfl, .base (.int i), by decide +kernel, true, rfl, iteT ?_⟩
      refine ⟨_, rfl, _, "int", "int", true, rfl, .base (.int i), by decide +kernel, true, rfl, iteT ?_⟩
      refine ⟨_, rfl, _, "int", "bool", false, rfl, .base (.int i), by decide +kernel, false, rfl, true, rfl, iteT ?_⟩
      refine ⟨_, rfl, _, rfl, rfl, ?_⟩
      rw [decide_eq_true rfl]
      exact q
    | str z =>
      refine ⟨_, rfl, _, rfl, iteF ?_⟩
      refine ⟨_, rfl, _, "str", "bool", false, rfl, .base (.str z), by decide +kernel, false, rfl, iteF ?_⟩
      refine ⟨_, rfl, _, "str", "int", false, rfl, .base (.str z), by decide +kernel, false, rfl, iteF ?_⟩
      refine ⟨_, rfl, _, "str", "str", true, rfl, .base (.str z), by decide +kernel, true, rfl, iteT ?_⟩
      refine ⟨_, rfl, _, "str", "str", true, rfl, .base (.str z), by decide +kernel, true, rfl, iteT ?_⟩
      refine ⟨_, rfl, _, rfl, rfl, ?_⟩
      rw [decide_eq_true rfl]
      exact q
    | bl b =>
      refine ⟨_, rfl, _, rfl, iteF ?_⟩
      refine ⟨_, rfl, _, "bool", "bool", true, rfl, .base (.bl b), by decide +kernel, true, rfl, iteT ?_⟩
      refine ⟨_, rfl, _, "bool", "bool", true, rfl, .base (.bl b), by decide +kernel, true, rfl, iteT ?_⟩
      refine ⟨_, rfl, _, rfl, rfl, ?_⟩
      rw [decide_eq_true rfl]
      exact q
    | non =>
      refine ⟨_, rfl, _, rfl, iteT ?_⟩
      exact ⟨_, rfl, q⟩
    | _ => exact (show False from lf).elim
theorem same_step {k n : Nat} (Z : Defs K mg) (GLawSame : FnOk P w K mg base CX0 k Z.fLawSame Z.fdLawSame ["actual", "expected"] (spSame K n)) : FnOk P w K mg base CX0 (k + 1) Z.fLawSame Z.fdLawSame ["actual", "expected"] (spSame K (n + 1)) := by
  refine Z.DLawSame.F.ok scLawSame (fun vs H Q E h => ?_) (fun cdv A outer s H vs Q E hr h => ?_)
  · obtain ⟨x, y, rfl, _⟩ := h
    rfl
  · obtain ⟨x, y, rfl, hs, q⟩ := h
    refine ⟨_, (pss_cons (ps_if (pt_cmp (pc_isN (pv 1))) (pss_one (ps_ret (pe_cmp (pc_isN (pv 0)) rfl))) pss_nil)
        (pss_cons (ps_if (pt_val (pe_callB call_isB (by rfl) Z.isinstance HL.boot_isinstance (pa_cons (pv 1) (pa_cons (pe_bltn (v := .ty "bool") (by rfl) Z.bool HL.boot_bool rfl) pa_nil)))) (pss_one (ps_ret (pe_and (pe_callB call_isB (by rfl) Z.isinstance HL.boot_isinstance (pa_cons (pv 0) (pa_cons (pe_bltn (v := .ty "bool") (by rfl) Z.bool HL.boot_bool rfl) pa_nil))) (pe_one (pe_cmpR op_eq (pv 0) (pv 1) (nomark _)))))) pss_nil)
        (pss_cons (ps_if (pt_val (pe_callB call_isB (by rfl) Z.isinstance HL.boot_isinstance (pa_cons (pv 1) (pa_cons (pe_bltn (v := .ty "int") (by rfl) Z.int HL.boot_int rfl) pa_nil)))) (pss_one (ps_ret (pe_and (pe_callB call_isB (by rfl) Z.isinstance HL.boot_isinstance (pa_cons (pv 0) (pa_cons (pe_bltn (v := .ty "int") (by rfl) Z.int HL.boot_int rfl) pa_nil))) (pe_and (pe_not (pe_callB call_isB (by rfl) Z.isinstance HL.boot_isinstance (pa_cons (pv 0) (pa_cons (pe_bltn (v := .ty "bool") (by rfl) Z.bool HL.boot_bool rfl) pa_nil)))) (pe_one (pe_cmpR op_eq (pv 0) (pv 1) (nomark _))))))) pss_nil)
        (pss_cons (ps_if (pt_val (pe_callB call_isB (by rfl) Z.isinstance HL.boot_isinstance (pa_cons (pv 1) (pa_cons (pe_bltn (v := .ty "str") (by rfl) Z.str HL.boot_str rfl) pa_nil)))) (pss_one (ps_ret (pe_and (pe_callB call_isB (by rfl) Z.isinstance HL.boot_isinstance (pa_cons (pv 0) (pa_cons (pe_bltn (v := .ty "str") (by rfl) Z.str HL.boot_str rfl) pa_nil))) (pe_one (pe_cmpR op_eq (pv 0) (pv 1) (nomark _)))))) pss_nil)
        (pss_cons (ps_if (PW.pt (pw_and (pt_val (pe_callB call_isB (by rfl) Z.isinstance HL.boot_isinstance (pa_cons (pv 1) (pa_cons (pe_bltn (v := .ty "tuple") (by rfl) Z.tuple HL.boot_tuple rfl) pa_nil)))) (pw_and1 (pt_not (pt_val (pe_callB call_isB (by rfl) Z.isinstance HL.boot_isinstance (pa_cons (pv 0) (pa_cons (pe_bltn (v := .ty "tuple") (by rfl) Z.tuple HL.boot_tuple rfl) pa_nil)))))))) (pss_one (ps_ret pe_bl)) pss_nil)
        (pss_cons (ps_if (PW.pt (pw_and (pt_val (pe_callB call_isB (by rfl) Z.isinstance HL.boot_isinstance (pa_cons (pv 1) (pa_cons (pe_bltn (v := .ty "list") (by rfl) Z.list HL.boot_list rfl) pa_nil)))) (pw_and1 (pt_not (pt_val (pe_callB call_isB (by rfl) Z.isinstance HL.boot_isinstance (pa_cons (pv 0) (pa_cons (pe_bltn (v := .ty "list") (by rfl) Z.list HL.boot_list rfl) pa_nil)))))))) (pss_one (ps_ret pe_bl)) pss_nil)
        (pss_cons (ps_if (pt_cmpR op_ne (pe_callB call_len_seq (by rfl) Z.len PySem.boot_len (pa_cons (pv 0) pa_nil)) (pe_callB call_len_seq (by rfl) Z.len PySem.boot_len (pa_cons (pv 1) pa_nil)) (nomark _)) (pss_one (ps_ret pe_bl)) pss_nil)
        (pss_cons (ps_for PassesOwn.never rfl (pi_range1 (by rfl) Z.range (pa_cons (pe_callB call_len_seq (by rfl) Z.len PySem.boot_len (pa_cons (pv 1) pa_nil)) pa_nil)) (pg_name (i := 2) scLawSame.nd rfl (.inl rfl)) (pss_one (ps_if (pt_not (pt_val (pe_call GLawSame (hr.mono (by omega)) (by rfl) Z.DLawSame.g Z.DLawSame.F.kp Z.DLawSame.b .nil pass0 (pa_cons (pe_ix ix_seq (pv 0) (pv 2) (fun _ _ => rfl)) (pa_cons (pe_ix ix_seq (pv 1) (pv 2) (fun _ _ => rfl)) pa_nil))))) (pss_one (ps_ret pe_bl)) pss_nil)))
        (pss_one (ps_ret pe_bl)))))))))), ?_⟩
    rcases hs with ⟨lf, rfl⟩ | ⟨t, a, b, xs, ys, rfl, rfl, h1, h2, el, hz, hh⟩
    · cases x with
      | int i =>
        refine ⟨_, rfl, _, rfl, iteF ?_⟩
        refine ⟨_, rfl, _, "int", "bool", false, rfl, .base (.int i), by decide +kernel, false, rfl, iteF ?_⟩
        refine ⟨_, rfl, _, "int", "int", true, rfl, .base (.int i), by decide +kernel, true, rfl, iteT ?_⟩
        refine ⟨_, rfl, _, "int", "int", true, rfl, .base (.int i), by decide +kernel, true, rfl, iteT ?_⟩
        refine ⟨_, rfl, _, "int", "bool", false, rfl, .base (.int i), by decide +kernel, false, rfl, true, rfl, iteT ?_⟩
        refine ⟨_, rfl, _, rfl, rfl, ?_⟩
        rw [decide_eq_true rfl]
        exact q
      | str z =>
        refine ⟨_, rfl, _, rfl, iteF ?_⟩
        refine ⟨_, rfl, _, "str", "bool", false, rfl, .base (.str z), by decide +kernel, false, rfl, iteF ?_⟩
        refine ⟨_, rfl, _, "str", "int", false, rfl, .base (.str z), by decide +kernel, false, rfl, iteF ?_⟩
        refine ⟨_, rfl, _, "str", "str", true, rfl, .base (.str z), by decide +kernel, true, rfl, iteT ?_⟩
        refine ⟨_, rfl, _, "str", "str", true, rfl, .base (.str z), by decide +kernel, true, rfl, iteT ?_⟩
        refine ⟨_, rfl, _, rfl, rfl, ?_⟩
        rw [decide_eq_true rfl]
        exact q
      | bl b =>
        refine ⟨_, rfl, _, rfl, iteF ?_⟩
        refine ⟨_, rfl, _, "bool", "bool", true, rfl, .base (.bl b), by decide +kernel, true, rfl, iteT ?_⟩
        refine ⟨_, rfl, _, "bool", "bool", true, rfl, .base (.bl b), by decide +kernel, true, rfl, iteT ?_⟩
        refine ⟨_, rfl, _, rfl, rfl, ?_⟩
        rw [decide_eq_true rfl]
        exact q
      | non =>
        refine ⟨_, rfl, _, rfl, iteT ?_⟩
        exact ⟨_, rfl, q⟩
      | _ => exact (show False from lf).elim
    · have rest : ∀ (i : Nat) (u v : V), xs[i]? = some u → ys[i]? = some v → atI xs ((0 : Int) + (i : Int)) = some u ∧ atI ys ((0 : Int) + (i : Int)) = some v := fun i u v hu hv => by
        rw [Int.zero_add]
        exact ⟨atI_nat hu, atI_nat hv⟩
      have turn : ∀ i : Nat, i < (ys.length : Int).toNat → ∃ u v, xs[i]? = some u ∧ ys[i]? = some v := fun i hi => by
        have i1 : i < ys.length := by omega
        have i2 : i < xs.length := by omega
        exact ⟨_, _, List.getElem?_eq_getElem i2, List.getElem?_eq_getElem i1⟩
      rcases h1 with ⟨rfl, s1, t1⟩ | ⟨rfl, s1, t1⟩
      · rcases h2 with ⟨_, s2, t2⟩ | ⟨z, _⟩
        · refine ⟨_, rfl, _, rfl, iteF ?_⟩
          refine ⟨_, rfl, _, "tuple", "bool", false, rfl, t2, by decide +kernel, false, rfl, iteF ?_⟩
          refine ⟨_, rfl, _, "tuple", "int", false, rfl, t2, by decide +kernel, false, rfl, iteF ?_⟩
          refine ⟨_, rfl, _, "tuple", "str", false, rfl, t2, by decide +kernel, false, rfl, iteF ?_⟩
          refine ⟨_, rfl, _, "tuple", "tuple", true, rfl, t2, by decide +kernel, true, rfl, iteT ?_⟩
          refine ⟨_, rfl, _, "tuple", "tuple", true, rfl, t1, by decide +kernel, true, rfl, iteF ?_⟩
          refine ⟨_, rfl, _, "tuple", "list", false, rfl, t2, by decide +kernel, false, rfl, iteF (iteF ?_)⟩
          refine ⟨_, rfl, a, xs, rfl, .inr s1, _, rfl, b, ys, rfl, .inr s2, rfl, _, rfl, iteNS (by rw [el]) ?_⟩
          refine ⟨_, rfl, b, ys, rfl, .inr s2, _, rfl, by omega, by omega, ?_⟩
          refine for_range (lo := 0) (n := (ys.length : Int).toNat) (fun i σ H' => H' = H ∧ ∃ y, σ = [some (.ref a), some (.ref b), y]) ⟨rfl, none, rfl⟩ ?_ ?_
          · rintro i σ H' hi ⟨rfl, y, rfl⟩
            obtain ⟨u, v, hu, hv⟩ := turn i hi
            obtain ⟨r1, r2⟩ := rest i u v hu hv
            exact ⟨_, rfl, _, rfl, .inr (.inl ⟨a, xs, _, u, rfl, rfl, s1, r1, _, rfl, _, rfl, .inr (.inl ⟨b, ys, _, v, rfl, rfl, s2, r2, u, v, rfl, hh i u v hu hv, true, rfl, iteF ⟨rfl, _, rfl⟩⟩)⟩)⟩
          · rintro σ H' ⟨rfl, y, rfl⟩
            exact q
        · exact absurd z (by decide)
      · rcases h2 with ⟨z, _⟩ | ⟨_, s2, t2⟩
        · exact absurd z (by decide)
        · refine ⟨_, rfl, _, rfl, iteF ?_⟩
          refine ⟨_, rfl, _, "list", "bool", false, rfl, t2, by decide +kernel, false, rfl, iteF ?_⟩
          refine ⟨_, rfl, _, "list", "int", false, rfl, t2, by decide +kernel, false, rfl, iteF ?_⟩
          refine ⟨_, rfl, _, "list", "str", false, rfl, t2, by decide +kernel, false, rfl, iteF ?_⟩
          refine ⟨_, rfl, _, "list", "tuple", false, rfl, t2, by decide +kernel, false, rfl, iteF (iteF ?_)⟩
          refine ⟨_, rfl, _, "list", "list", true, rfl, t2, by decide +kernel, true, rfl, iteT ?_⟩
          refine ⟨_, rfl, _, "list", "list", true, rfl, t1, by decide +kernel, true, rfl, iteF ?_⟩
          refine ⟨_, rfl, a, xs, rfl, .inl s1, _, rfl, b, ys, rfl, .inl s2, rfl, _, rfl, iteNS (by rw [el]) ?_⟩
          refine ⟨_, rfl, b, ys, rfl, .inl s2, _, rfl, by omega, by omega, ?_⟩
          refine for_range (lo := 0) (n := (ys.length : Int).toNat) (fun i σ H' => H' = H ∧ ∃ y, σ = [some (.ref a), some (.ref b), y]) ⟨rfl, none, rfl⟩ ?_ ?_
          · rintro i σ H' hi ⟨rfl, y, rfl⟩
            obtain ⟨u, v, hu, hv⟩ := turn i hi
            obtain ⟨r1, r2⟩ := rest i u v hu hv
            exact ⟨_, rfl, _, rfl, .inl ⟨a, xs, _, u, rfl, rfl, s1, r1, _, rfl, _, rfl, .inl ⟨b, ys, _, v, rfl, rfl, s2, r2, u, v, rfl, hh i u v hu hv, true, rfl, iteF ⟨rfl, _, rfl⟩⟩⟩⟩
          · rintro σ H' ⟨rfl, y, rfl⟩
            exact q
theorem ok_same {k : Nat} (Z : Defs K mg) : ∀ n, FnOk P w K mg base CX0 (k + n + 1) Z.fLawSame Z.fdLawSame ["actual", "expected"] (spSame K n)
  | 0 => same_zero Z
  | n + 1 => same_step Z (ok_same Z n)
end
end Q33
namespace Q33
open PySem PySem.Spec PyProof.Rows L2 SX HL
/-! ### expressions and their code -/
inductive Ex
  | lit (f : Str) (v : V)
  | name (x : Str)
  | bin (op : Str) (a b : Ex)
  | neg (a : Ex)
  | ife (a b c : Ex)
  | lt (x : Str) (a b : Ex)
  | cons (a b : Ex)
  | list (es : List Ex)
  | call (f : Str) (es : List Ex)
  | make (f : Str) (es : List Ex)
  | split (a b : Ex) (x y : Str) (c : Ex)
  | mat (a : Ex) (arms : List (Str × List Str × Ex))
inductive Ins
  | plain (f : Str) (xs : List V)
  | jump (f : Str) (n : Nat)
  | stays (b : Bool) (n : Nat)
  | pick (cs : List (Str × Nat × Nat))
abbrev Blk := Str × Nat × List Ins
def tot : List Blk → Nat
  | [] => 0
  | b :: r => b.2.2.length + 1 + tot r
def blocks : List Blk → List Ins
  | [] => []
  | b :: r => b.2.2 ++ [Ins.jump "skip" (tot r)] ++ blocks r
def choices : Nat → List Blk → List (Str × Nat × Nat)
  | _, [] => []
  | o, b :: r => (b.1, b.2.1, o) :: choices (o + b.2.2.length + 1) r
def nameC (ns : List Str) (x : Str) : Ins := match near ns.reverse x with
  | some k => .plain "local" [.int (k : Int)]
  | none => .plain "look" [.str x]
def OPS : List Str := ["+", "-", "*", "/", "mod", "++", "=", "<", "and", "or"]
def binC (op : Str) (a b : List Ins) : List Ins := if op = "and" then a ++ [.stays false b.length] ++ b else if op = "or" then a ++ [.stays true b.length] ++ b else a ++ b ++ [.plain "op" [.str op]]
def code : Nat → Ex → List Str → List Ins
  | 0, _, _ => []
  | _ + 1, .lit _ v, _ => [.plain "push" [v]]
  | _ + 1, .name x, ns => [nameC ns x]
  | n + 1, .bin op a b, ns => binC op (code n a ns) (code n b ns)
  | n + 1, .neg a, ns => code n a ns ++ [.plain "not" []]
  | n + 1, .ife a b c, ns => code n a ns ++ [.jump "unless" ((code n b ns).length + 1)] ++ code n b ns ++ [.jump "skip" (code n c ns).length] ++ code n c ns
  | n + 1, .lt x a b, ns => code n a ns ++ [.plain "keep" []] ++ code n b (ns ++ [x]) ++ [.plain "leave" [.int 1]]
  | n + 1, .cons a b, ns => code n a ns ++ code n b ns ++ [.plain "pair" []]
  | n + 1, .list es, ns => (es.map fun e => code n e ns).flatten ++ [.plain "list" [vi es.length]]
  | n + 1, .call f es, ns => (es.map fun e => code n e ns).flatten ++ [.plain "call" [.str f, vi es.length]]
  | n + 1, .make f es, ns => (es.map fun e => code n e ns).flatten ++ [.plain "make" [.str f, vi es.length]]
  | n + 1, .split a b x y c, ns => code n a ns ++ [.jump "open" ((code n b ns).length + 1)] ++ code n b ns ++ [.jump "skip" ((code n c (ns ++ [x, y])).length + 1)] ++ code n c (ns ++ [x, y]) ++ [.plain "leave" [.int 2]]
  | n + 1, .mat a arms, ns => code n a ns ++ ([.pick (choices 0 (arms.map fun m => (m.1, m.2.1.length, code n m.2.2 (ns ++ m.2.1) ++ [.plain "leave" [vi m.2.1.length]])))] ++ blocks (arms.map fun m => (m.1, m.2.1.length, code n m.2.2 (ns ++ m.2.1) ++ [.plain "leave" [vi m.2.1.length]])))
/-- an instruction stands at v -/
def ChAt (H : Hp) (v : V) (c : Str × Nat × Nat) : Prop := IsRow (fun c : Str × Nat × Nat => [V.str c.1, vi c.2.1, vi c.2.2]) H v c
def InsAt (H : Hp) (v : V) : Ins → Prop
  | .plain f xs => ∃ t, v = .ref t ∧ H t = some (.tup (.str f :: xs))
  | .jump f n => ∃ t, v = .ref t ∧ H t = some (.tup [.str f, vi n])
  | .stays b n => ∃ t, v = .ref t ∧ H t = some (.tup [.str "stays", .bl b, vi n])
  | .pick cs => ∃ t q us, v = .ref t ∧ H t = some (.tup [.str "pick", .ref q]) ∧ H q = some (.tup us) ∧ All2 (ChAt H) us cs
def TupK (H H' : Hp) : Prop := ∀ a xs, H a = some (.tup xs) → H' a = some (.tup xs)
theorem TupK.refl {H : Hp} : TupK H H := fun _ _ h => h
theorem TupK.tr {H H1 H2 : Hp} (a : TupK H H1) (b : TupK H1 H2) : TupK H H2 := fun z o h => b z o (a z o h)
theorem TupK.of {H H' : Hp} (s : Same H H') : TupK H H' := fun a xs h => s a _ h
theorem InsAt.keep {H H' : Hp} {v : V} {i : Ins} (h : InsAt H v i) (k : TupK H H') : InsAt H' v i := by
  cases i with
  | plain f xs => obtain ⟨t, e, h⟩ := h; exact ⟨t, e, k _ _ h⟩
  | jump f n => obtain ⟨t, e, h⟩ := h; exact ⟨t, e, k _ _ h⟩
  | stays b n => obtain ⟨t, e, h⟩ := h; exact ⟨t, e, k _ _ h⟩
  | pick cs =>
    obtain ⟨t, q, us, e, h, hq, a⟩ := h
    exact ⟨t, q, us, e, k _ _ h, k _ _ hq, a.mono fun x y r => r.same k⟩
def CodeAt (H : Hp) (us : List V) (cs : List Ins) : Prop := All2 (InsAt H) us cs
theorem CodeAt.keep {H H' : Hp} {us : List V} {cs : List Ins} (h : CodeAt H us cs) (k : TupK H H') : CodeAt H' us cs := All2.mono h fun _ _ r => r.keep k
theorem CodeAt.nil {H : Hp} : CodeAt H [] [] := All2.nil
theorem CodeAt.app {H : Hp} {us vs : List V} {cs ds : List Ins} (h : CodeAt H us cs) (h' : CodeAt H vs ds) : CodeAt H (us ++ vs) (cs ++ ds) := All2.app h h'
/-- literals -/
def LitV : V → Prop
  | .int _ => True
  | .str _ => True
  | .bl _ => True
  | _ => False
/-- an expression stands at x -/
def ExAt (H : Hp) : Nat → Ex → V → Prop
  | 0, _, _ => False
  | _ + 1, .lit f v, x => (f = "number" ∨ f = "text" ∨ f = "bool") ∧ LitV v ∧ ∃ t, x = .ref t ∧ H t = some (.tup [.str f, v])
  | _ + 1, .name z, x => ∃ t, x = .ref t ∧ H t = some (.tup [.str "name", .str z])
  | n + 1, .bin op a b, x => op ∈ OPS ∧ ∃ t u v, x = .ref t ∧ H t = some (.tup [.str "binary", .str op, u, v]) ∧ ExAt H n a u ∧ ExAt H n b v
  | n + 1, .neg a, x => ∃ t u, x = .ref t ∧ H t = some (.tup [.str "not", u]) ∧ ExAt H n a u
  | n + 1, .ife a b c, x => ∃ t u v w, x = .ref t ∧ H t = some (.tup [.str "if", u, v, w]) ∧ ExAt H n a u ∧ ExAt H n b v ∧ ExAt H n c w
  | n + 1, .lt z a b, x => ∃ t u v, x = .ref t ∧ H t = some (.tup [.str "let", .str z, u, v]) ∧ ExAt H n a u ∧ ExAt H n b v
  | n + 1, .cons a b, x => ∃ t u v, x = .ref t ∧ H t = some (.tup [.str "cons", u, v]) ∧ ExAt H n a u ∧ ExAt H n b v
  | n + 1, .list es, x => ∃ t q us, x = .ref t ∧ H t = some (.tup [.str "list", .ref q]) ∧ H q = some (.tup us) ∧ us.length ≤ 3 ∧ All2 (fun u e => ExAt H n e u) us es
  | n + 1, .call f es, x => ∃ t q us, x = .ref t ∧ H t = some (.tup [.str "call", .str f, .ref q]) ∧ H q = some (.tup us) ∧ us.length ≤ 3 ∧ All2 (fun u e => ExAt H n e u) us es
  | n + 1, .make f es, x => ∃ t q us, x = .ref t ∧ H t = some (.tup [.str "make", .str f, .ref q]) ∧ H q = some (.tup us) ∧ us.length ≤ 3 ∧ All2 (fun u e => ExAt H n e u) us es
  | n + 1, .split a b z y c, x => ∃ t u v w, x = .ref t ∧ H t = some (.tup [.str "split", u, v, .str z, .str y, w]) ∧ ExAt H n a u ∧ ExAt H n b v ∧ ExAt H n c w
  | n + 1, .mat a arms, x => ∃ t u q us, x = .ref t ∧ H t = some (.tup [.str "match", u, .ref q]) ∧ H q = some (.tup us) ∧ (1 ≤ us.length ∧ us.length ≤ 3) ∧ ExAt H n a u ∧
      All2 (fun u m => ∃ ta tn w, u = .ref ta ∧ H ta = some (.tup [.str m.1, .ref tn, w]) ∧ H tn = some (.tup (m.2.1.map V.str)) ∧ m.2.1.length ≤ 2 ∧ ExAt H n m.2.2 w) us arms
def ArmAt (H : Hp) (n : Nat) (u : V) (m : Str × List Str × Ex) : Prop := ∃ ta tn w, u = .ref ta ∧ H ta = some (.tup [.str m.1, .ref tn, w]) ∧ H tn = some (.tup (m.2.1.map V.str)) ∧ m.2.1.length ≤ 2 ∧ ExAt H n m.2.2 w
theorem ExAt.keep {H H' : Hp} (k : TupK H H') : ∀ {n : Nat} {e : Ex} {x : V}, ExAt H n e x → ExAt H' n e x
  | 0, _, _, h => h
  | n + 1, .lit f v, x, ⟨h1, h2, t, e, h⟩ => ⟨h1, h2, t, e, k _ _ h⟩
  | n + 1, .name z, x, ⟨t, e, h⟩ => ⟨t, e, k _ _ h⟩
  | n + 1, .bin op a b, x, ⟨h0, t, u, v, e, h, ha, hb⟩ => ⟨h0, t, u, v, e, k _ _ h, ExAt.keep k ha, ExAt.keep k hb⟩
  | n + 1, .neg a, x, ⟨t, u, e, h, ha⟩ => ⟨t, u, e, k _ _ h, ExAt.keep k ha⟩
  | n + 1, .ife a b c, x, ⟨t, u, v, w, e, h, ha, hb, hc⟩ => ⟨t, u, v, w, e, k _ _ h, ExAt.keep k ha, ExAt.keep k hb, ExAt.keep k hc⟩
  | n + 1, .lt z a b, x, ⟨t, u, v, e, h, ha, hb⟩ => ⟨t, u, v, e, k _ _ h, ExAt.keep k ha, ExAt.keep k hb⟩
  | n + 1, .cons a b, x, ⟨t, u, v, e, h, ha, hb⟩ => ⟨t, u, v, e, k _ _ h, ExAt.keep k ha, ExAt.keep k hb⟩
  | n + 1, .list es, x, ⟨t, q, us, e, h, hq, hl, ha⟩ => ⟨t, q, us, e, k _ _ h, k _ _ hq, hl, ha.mono fun _ _ r => ExAt.keep k r⟩
  | n + 1, .call f es, x, ⟨t, q, us, e, h, hq, hl, ha⟩ => ⟨t, q, us, e, k _ _ h, k _ _ hq, hl, ha.mono fun _ _ r => ExAt.keep k r⟩
  | n + 1, .make f es, x, ⟨t, q, us, e, h, hq, hl, ha⟩ => ⟨t, q, us, e, k _ _ h, k _ _ hq, hl, ha.mono fun _ _ r => ExAt.keep k r⟩
  | n + 1, .split a b z y c, x, ⟨t, u, v, w, e, h, ha, hb, hc⟩ => ⟨t, u, v, w, e, k _ _ h, ExAt.keep k ha, ExAt.keep k hb, ExAt.keep k hc⟩
  | n + 1, .mat a arms, x, ⟨t, u, q, us, e, h, hq, hl, ha, hm⟩ => ⟨t, u, q, us, e, k _ _ h, k _ _ hq, hl, ExAt.keep k ha, hm.mono fun _ _ ⟨ta, tn, w, e1, h1, h2, h3, h4⟩ => ⟨ta, tn, w, e1, k _ _ h1, k _ _ h2, h3, ExAt.keep k h4⟩⟩
/-! ### sizes -/
def cB : Nat → Nat
  | 0 => 0
  | n + 1 => 4 * cB n + 8
theorem cB_succ (n : Nat) : cB (n + 1) = 4 * cB n + 8 := rfl
theorem cB_mono {n m : Nat} (h : n ≤ m) : cB n ≤ cB m := by
  induction m with
  | zero =>
    have : n = 0 := by omega
    subst this
    exact Nat.le_refl _
  | succ m ih =>
    by_cases e : n = m + 1
    · subst e
      exact Nat.le_refl _
    · have := ih (by omega)
      rw [cB_succ]
      omega
theorem blocks_len : ∀ bs : List Blk, (blocks bs).length = tot bs
  | [] => rfl
  | b :: r => by
    show (b.2.2 ++ [Ins.jump "skip" (tot r)] ++ blocks r).length = b.2.2.length + 1 + tot r
    rw [List.length_append, List.length_append, blocks_len r]
    rfl
theorem flat_le {β : Type} {α : Type} (f : α → List β) (B : Nat) : ∀ es : List α, (∀ e ∈ es, (f e).length ≤ B) → ((es.map f).flatten).length ≤ es.length * B
  | [], _ => by simp
  | e :: es, h => by
    have h1 := h e (List.mem_cons_self ..)
    have h2 := flat_le f B es fun x hx => h x (List.mem_cons_of_mem _ hx)
    rw [List.map_cons, List.flatten_cons, List.length_append, List.length_cons, Nat.succ_mul]
    omega
theorem tot_le (B : Nat) : ∀ bs : List Blk, (∀ b ∈ bs, b.2.2.length ≤ B) → tot bs ≤ bs.length * (B + 1)
  | [], _ => by simp [tot]
  | b :: bs, h => by
    have h1 := h b (List.mem_cons_self ..)
    have h2 := tot_le B bs fun x hx => h x (List.mem_cons_of_mem _ hx)
    show b.2.2.length + 1 + tot bs ≤ _
    rw [List.length_cons, Nat.succ_mul]
    omega
theorem memR {α β : Type} {R : α → β → Prop} {xs : List α} {ys : List β} (h : All2 R xs ys) {y : β} (hy : y ∈ ys) : ∃ x ∈ xs, R x y := by
  obtain ⟨i, hi⟩ := List.mem_iff_getElem?.mp hy
  obtain ⟨x, hx, r⟩ := h.getR hi
  exact ⟨x, List.mem_of_getElem? hx, r⟩
theorem mul3 {n B : Nat} (h : n ≤ 3) : n * B ≤ 3 * B := Nat.mul_le_mul_right B h
theorem code_len {H : Hp} : ∀ {n : Nat} {e : Ex} {x : V} (ns : List Str), ExAt H n e x → (code n e ns).length ≤ cB n
  | 0, _, _, _, h => h.elim
  | n + 1, .lit f v, x, ns, _ => by rw [cB_succ]; show 1 ≤ _; omega
  | n + 1, .name z, x, ns, _ => by rw [cB_succ]; show 1 ≤ _; omega
  | n + 1, .bin op a b, x, ns, ⟨h0, t, u, v, e, h, ha, hb⟩ => by
    have h1 := code_len ns ha
    have h2 := code_len ns hb
    rw [cB_succ]
    show (binC op (code n a ns) (code n b ns)).length ≤ _
    unfold binC
    split
    · simp only [List.length_append, List.length_cons, List.length_nil]; omega
    · split
      · simp only [List.length_append, List.length_cons, List.length_nil]; omega
      · simp only [List.length_append, List.length_cons, List.length_nil]; omega
  | n + 1, .neg a, x, ns, ⟨t, u, e, h, ha⟩ => by
    have h1 := code_len ns ha
    rw [cB_succ]
    simp only [code, List.length_append, List.length_cons, List.length_nil]; omega
  | n + 1, .ife a b c, x, ns, ⟨t, u, v, w, e, h, ha, hb, hc⟩ => by
    have h1 := code_len ns ha
    have h2 := code_len ns hb
    have h3 := code_len ns hc
    rw [cB_succ]
    simp only [code, List.length_append, List.length_cons, List.length_nil]; omega
  | n + 1, .lt z a b, x, ns, ⟨t, u, v, e, h, ha, hb⟩ => by
    have h1 := code_len ns ha
    have h2 := code_len (ns ++ [z]) hb
    rw [cB_succ]
    simp only [code, List.length_append, List.length_cons, List.length_nil]; omega
  | n + 1, .cons a b, x, ns, ⟨t, u, v, e, h, ha, hb⟩ => by
    have h1 := code_len ns ha
    have h2 := code_len ns hb
    rw [cB_succ]
    simp only [code, List.length_append, List.length_cons, List.length_nil]; omega
  | n + 1, .list es, x, ns, ⟨t, q, us, e, h, hq, hl, ha⟩ => by
    have h1 := flat_le (fun e => code n e ns) (cB n) es fun e he => by
      obtain ⟨u, _, r⟩ := memR ha he
      exact code_len ns r
    have h2 := mul3 (B := cB n) (ha.len ▸ hl)
    rw [cB_succ]
    simp only [code, List.length_append, List.length_cons, List.length_nil]; omega
  | n + 1, .call f es, x, ns, ⟨t, q, us, e, h, hq, hl, ha⟩ => by
    have h1 := flat_le (fun e => code n e ns) (cB n) es fun e he => by
      obtain ⟨u, _, r⟩ := memR ha he
      exact code_len ns r
    have h2 := mul3 (B := cB n) (ha.len ▸ hl)
    rw [cB_succ]
    simp only [code, List.length_append, List.length_cons, List.length_nil]; omega
  | n + 1, .make f es, x, ns, ⟨t, q, us, e, h, hq, hl, ha⟩ => by
    have h1 := flat_le (fun e => code n e ns) (cB n) es fun e he => by
      obtain ⟨u, _, r⟩ := memR ha he
      exact code_len ns r
    have h2 := mul3 (B := cB n) (ha.len ▸ hl)
    rw [cB_succ]
    simp only [code, List.length_append, List.length_cons, List.length_nil]; omega
  | n + 1, .split a b z y c, x, ns, ⟨t, u, v, w, e, h, ha, hb, hc⟩ => by
    have h1 := code_len ns ha
    have h2 := code_len ns hb
    have h3 := code_len (ns ++ [z, y]) hc
    rw [cB_succ]
    simp only [code, List.length_append, List.length_cons, List.length_nil]; omega
  | n + 1, .mat a arms, x, ns, ⟨t, u, q, us, e, h, hq, hl, ha, hm⟩ => by
    have h1 := code_len ns ha
    have h2 := tot_le (cB n + 1) (arms.map fun m => (m.1, m.2.1.length, code n m.2.2 (ns ++ m.2.1) ++ [.plain "leave" [vi m.2.1.length]])) fun b hb => by
      obtain ⟨m, hm', rfl⟩ := List.mem_map.mp hb
      obtain ⟨u, _, ta, tn, w, _, _, _, _, r⟩ := memR hm hm'
      have := code_len (ns ++ m.2.1) r
      simp only [List.length_append, List.length_cons, List.length_nil]; omega
    rw [List.length_map] at h2
    have h3 := mul3 (B := cB n + 1 + 1) (hm.len ▸ hl.2)
    rw [cB_succ]
    simp only [code, List.length_append, List.length_cons, List.length_nil, blocks_len]; omega
/-! ### no instruction skips beyond the end -/
def Fits (r : Nat) : Ins → Prop
  | .plain f _ => f ≠ "skip" ∧ f ≠ "unless" ∧ f ≠ "open" ∧ f ≠ "stays" ∧ f ≠ "pick"
  | .jump f n => (f = "skip" ∨ f = "unless" ∨ f = "open") ∧ n ≤ r
  | .stays _ n => n ≤ r
  | .pick cs => cs ≠ [] ∧ cs.length ≤ 3 ∧ ∀ c ∈ cs, c.2.2 ≤ r
/-- with k more behind them -/
def Within (k : Nat) : List Ins → Prop
  | [] => True
  | i :: r => Fits (r.length + k) i ∧ Within k r
theorem Fits.mono {r s : Nat} {i : Ins} (h : Fits r i) (hs : r ≤ s) : Fits s i := by
  cases i with
  | plain f xs => exact h
  | jump f n => exact ⟨h.1, Nat.le_trans h.2 hs⟩
  | stays b n => exact Nat.le_trans h hs
  | pick cs => exact ⟨h.1, h.2.1, fun c hc => Nat.le_trans (h.2.2 c hc) hs⟩
theorem Within.mono {k m : Nat} (hm : k ≤ m) : ∀ {l : List Ins}, Within k l → Within m l
  | [], _ => trivial
  | i :: r, h => ⟨h.1.mono (by omega), h.2.mono hm⟩
theorem Within.app {k : Nat} : ∀ {a b : List Ins}, Within (b.length + k) a → Within k b → Within k (a ++ b)
  | [], b, _, h => h
  | i :: a, b, h, h' => by
    refine ⟨?_, Within.app h.2 h'⟩
    have := h.1
    show Fits ((a ++ b).length + k) i
    rw [List.length_append]
    exact this.mono (by omega)
theorem Within.to {k : Nat} {l : List Ins} (h : Within 0 l) : Within k l := h.mono (Nat.zero_le _)
theorem Within.one {k : Nat} {i : Ins} (h : Fits k i) : Within k [i] := ⟨h.mono (by simp), trivial⟩
theorem Within.at {k : Nat} : ∀ {l : List Ins} {j : Nat} {i : Ins}, Within k l → l[j]? = some i → Fits (l.length - j - 1 + k) i
  | [], _, _, _, h => by simp at h
  | x :: l, 0, i, h, e => by
    obtain rfl : x = i := by simpa using e
    exact h.1.mono (by simp)
  | x :: l, j + 1, i, h, e => by
    have := h.2.at (j := j) (by simpa using e)
    refine this.mono ?_
    simp only [List.length_cons]
    omega
theorem Within.flat {α : Type} (f : α → List Ins) : ∀ es : List α, (∀ e ∈ es, Within 0 (f e)) → ∀ k, Within k (es.map f).flatten
  | [], _, _ => trivial
  | e :: es, h, k => by
    rw [List.map_cons, List.flatten_cons]
    exact Within.app (h e (List.mem_cons_self ..)).to (Within.flat f es (fun x hx => h x (List.mem_cons_of_mem _ hx)) k)
theorem within_blocks : ∀ bs : List Blk, (∀ b ∈ bs, Within 0 b.2.2) → Within 0 (blocks bs)
  | [], _ => trivial
  | b :: r, h => by
    show Within 0 (b.2.2 ++ [Ins.jump "skip" (tot r)] ++ blocks r)
    refine Within.app (Within.app (h b (List.mem_cons_self ..)).to (Within.one ⟨.inl rfl, ?_⟩)) (within_blocks r fun x hx => h x (List.mem_cons_of_mem _ hx))
    rw [blocks_len]
    exact Nat.le_refl _
theorem choices_le : ∀ (bs : List Blk) (o : Nat), ∀ c ∈ choices o bs, c.2.2 ≤ o + tot bs
  | [], _, c, h => by cases h
  | b :: r, o, c, h => by
    rcases List.mem_cons.mp h with rfl | h
    · exact Nat.le_add_right _ _
    · have := choices_le r _ c h
      show c.2.2 ≤ o + (b.2.2.length + 1 + tot r)
      omega
theorem choices_len : ∀ (bs : List Blk) (o : Nat), (choices o bs).length = bs.length
  | [], _ => rfl
  | b :: r, o => by
    show (choices _ r).length + 1 = r.length + 1
    rw [choices_len r]
theorem pl {r : Nat} {f : Str} {xs : List V} (h : (f ≠ "skip" ∧ f ≠ "unless" ∧ f ≠ "open" ∧ f ≠ "stays" ∧ f ≠ "pick") := by decide +kernel) : Fits r (.plain f xs) := h
theorem code_within {H : Hp} : ∀ {n : Nat} {e : Ex} {x : V} (ns : List Str), ExAt H n e x → Within 0 (code n e ns)
  | 0, _, _, _, h => h.elim
  | n + 1, .lit f v, x, ns, _ => .one pl
  | n + 1, .name z, x, ns, _ => by
    show Within 0 [nameC ns z]
    refine .one ?_
    unfold nameC
    split
    · exact pl
    · exact pl
  | n + 1, .bin op a b, x, ns, ⟨h0, t, u, v, e, h, ha, hb⟩ => by
    have h1 := code_within ns ha
    have h2 := code_within ns hb
    show Within 0 (binC op (code n a ns) (code n b ns))
    unfold binC
    split
    · exact .app (.app h1.to (.one (by show _ ≤ _; omega))) h2
    · split
      · exact .app (.app h1.to (.one (by show _ ≤ _; omega))) h2
      · exact .app (.app h1.to h2.to) (.one pl)
  | n + 1, .neg a, x, ns, ⟨t, u, e, h, ha⟩ => .app (code_within ns ha).to (.one pl)
  | n + 1, .ife a b c, x, ns, ⟨t, u, v, w, e, h, ha, hb, hc⟩ => by
    refine .app (.app (.app (.app (code_within ns ha).to (.one ⟨.inr (.inl rfl), ?_⟩)) (code_within ns hb).to) (.one ⟨.inl rfl, ?_⟩)) (code_within ns hc)
    · simp only [List.length_append, List.length_cons, List.length_nil]; omega
    · omega
  | n + 1, .lt z a b, x, ns, ⟨t, u, v, e, h, ha, hb⟩ => .app (.app (.app (code_within ns ha).to (.one pl)) (code_within _ hb).to) (.one pl)
  | n + 1, .cons a b, x, ns, ⟨t, u, v, e, h, ha, hb⟩ => .app (.app (code_within ns ha).to (code_within ns hb).to) (.one pl)
  | n + 1, .list es, x, ns, ⟨t, q, us, e, h, hq, hl, ha⟩ => .app (.flat _ es (fun e he => by
      obtain ⟨u, _, r⟩ := memR ha he
      exact code_within ns r) _) (.one pl)
  | n + 1, .call f es, x, ns, ⟨t, q, us, e, h, hq, hl, ha⟩ => .app (.flat _ es (fun e he => by
      obtain ⟨u, _, r⟩ := memR ha he
      exact code_within ns r) _) (.one pl)
  | n + 1, .make f es, x, ns, ⟨t, q, us, e, h, hq, hl, ha⟩ => .app (.flat _ es (fun e he => by
      obtain ⟨u, _, r⟩ := memR ha he
      exact code_within ns r) _) (.one pl)
  | n + 1, .split a b z y c, x, ns, ⟨t, u, v, w, e, h, ha, hb, hc⟩ => by
    refine .app (.app (.app (.app (.app (code_within ns ha).to (.one ⟨.inr (.inr rfl), ?_⟩)) (code_within ns hb).to) (.one ⟨.inl rfl, ?_⟩)) (code_within _ hc).to) (.one pl)
    · simp only [List.length_append, List.length_cons, List.length_nil]; omega
    · simp only [List.length_append, List.length_cons, List.length_nil]; omega
  | n + 1, .mat a arms, x, ns, ⟨t, u, q, us, e, h, hq, hl, ha, hm⟩ => by
    refine .app (code_within ns ha).to (.app (.one ⟨?_, ?_, ?_⟩) (within_blocks _ ?_))
    · intro e
      have := congrArg List.length e
      rw [choices_len, List.length_map] at this
      have h2 := hm.len
      simp at this
      rw [this] at h2
      simp at h2
      rw [h2] at hl
      exact absurd hl.1 (by decide)
    · rw [choices_len, List.length_map, ← hm.len]
      exact hl.2
    · intro c hc
      have := choices_le _ _ c hc
      rw [blocks_len]
      omega
    · intro b hb
      obtain ⟨m, hm', rfl⟩ := List.mem_map.mp hb
      obtain ⟨u, _, ta, tn, w, _, _, _, _, r⟩ := memR hm hm'
      exact .app (code_within _ r).to (.one pl)
/-! ### told the same -/
theorem ch_same {K : PySem.W.Frag} {H : Hp} {u v : V} {c : Str × Nat × Nat} (h1 : ChAt H u c) (h2 : ChAt H v c) : SameD K H 1 u v := by
  obtain ⟨t, rfl, ht⟩ := h1
  obtain ⟨s, rfl, hs⟩ := h2
  refine .row ht hs (by show 3 ≤ 1000000; decide) fun x hx => ?_
  rcases List.mem_cons.mp hx with rfl | hx
  · trivial
  rcases List.mem_cons.mp hx with rfl | hx
  · trivial
  rw [List.mem_singleton.mp hx]
  trivial
/-- what stands in it is a leaf -/
def InsL : Ins → Prop
  | .plain _ xs => xs.length ≤ 3 ∧ ∀ x ∈ xs, Leaf x
  | .pick cs => cs.length ≤ 3
  | _ => True
theorem ins_same {K : PySem.W.Frag} {H : Hp} {u v : V} {i : Ins} (hl : InsL i) (h1 : InsAt H u i) (h2 : InsAt H v i) : SameD K H 3 u v := by
  cases i with
  | plain f xs =>
    obtain ⟨t, rfl, ht⟩ := h1
    obtain ⟨s, rfl, hs⟩ := h2
    refine .row ht hs (by have := hl.1; simp only [List.length_cons]; omega) fun x hx => ?_
    rcases List.mem_cons.mp hx with rfl | hx
    · trivial
    · exact hl.2 x hx
  | jump f n =>
    obtain ⟨t, rfl, ht⟩ := h1
    obtain ⟨s, rfl, hs⟩ := h2
    refine .row ht hs (by show 2 ≤ 1000000; decide) fun x hx => ?_
    rcases List.mem_cons.mp hx with rfl | hx
    · trivial
    rw [List.mem_singleton.mp hx]
    trivial
  | stays b n =>
    obtain ⟨t, rfl, ht⟩ := h1
    obtain ⟨s, rfl, hs⟩ := h2
    refine .row ht hs (by show 3 ≤ 1000000; decide) fun x hx => ?_
    rcases List.mem_cons.mp hx with rfl | hx
    · trivial
    rcases List.mem_cons.mp hx with rfl | hx
    · trivial
    rw [List.mem_singleton.mp hx]
    trivial
  | pick cs =>
    obtain ⟨t, q, us, rfl, ht, hq, a⟩ := h1
    obtain ⟨s, r, vs, rfl, hs, hr, b⟩ := h2
    have e : us.length = vs.length := by rw [a.len, b.len]
    refine .seq (.tup ht) (.tup hs) rfl (by show 2 ≤ 1000000; decide) fun i x y hx hy => ?_
    match i, hx, hy with
    | 0, hx, hy =>
      cases Option.some.inj hx
      cases Option.some.inj hy
      exact .leaf trivial
    | 1, hx, hy =>
      cases Option.some.inj hx
      cases Option.some.inj hy
      refine .seq (.tup hq) (.tup hr) e (by rw [b.len]; have h : cs.length ≤ 3 := hl; omega) fun i x y hx hy => ?_
      obtain ⟨c, hc, r1⟩ := a.get hx
      obtain ⟨d, hd, r2⟩ := b.get hy
      rw [hc] at hd
      cases hd
      exact ch_same r1 r2
    | i + 2, hx, hy => simp at hx
theorem code_same {K : PySem.W.Frag} {H : Hp} {t s : Addr} {us vs : List V} {cs : List Ins} (hl : ∀ i ∈ cs, InsL i) (hz : cs.length ≤ 1000000) (ht : H t = some (.tup us)) (hs : H s = some (.tup vs)) (h1 : CodeAt H us cs) (h2 : CodeAt H vs cs) : SameD K H 4 (.ref t) (.ref s) := by
  refine .seq (.tup ht) (.tup hs) (by rw [All2.len h1, All2.len h2]) (by rw [All2.len h2]; exact hz) fun i x y hx hy => ?_
  obtain ⟨c, hc, r1⟩ := All2.get h1 hx
  obtain ⟨d, hd, r2⟩ := All2.get h2 hy
  rw [hc] at hd
  cases hd
  exact ins_same (hl _ (List.mem_of_getElem? hc)) r1 r2
theorem insL_app {a b : List Ins} (ha : ∀ i ∈ a, InsL i) (hb : ∀ i ∈ b, InsL i) : ∀ i ∈ a ++ b, InsL i := fun i h => by
  rcases List.mem_append.mp h with h | h
  · exact ha i h
  · exact hb i h
theorem insL_one {i : Ins} (h : InsL i) : ∀ j ∈ [i], InsL j := fun j hj => by rw [List.mem_singleton.mp hj]; exact h
theorem insL_flat {α : Type} (f : α → List Ins) (es : List α) (h : ∀ e ∈ es, ∀ i ∈ f e, InsL i) : ∀ i ∈ (es.map f).flatten, InsL i := fun i hi => by
  obtain ⟨l, hl, hi⟩ := List.mem_flatten.mp hi
  obtain ⟨e, he, rfl⟩ := List.mem_map.mp hl
  exact h e he i hi
theorem insL_blocks : ∀ bs : List Blk, (∀ b ∈ bs, ∀ i ∈ b.2.2, InsL i) → ∀ i ∈ blocks bs, InsL i
  | [], _ => fun i h => by cases h
  | b :: r, h => insL_app (insL_app (h b (List.mem_cons_self ..)) (insL_one trivial)) (insL_blocks r fun x hx => h x (List.mem_cons_of_mem _ hx))
theorem leaf_lit {v : V} (h : LitV v) : Leaf v := by
  cases v <;> first | trivial | exact h.elim
theorem lf0 : ∀ x ∈ ([] : List V), Leaf x := fun x h => by cases h
theorem lf1 {v : V} (h : Leaf v) : ∀ x ∈ [v], Leaf x := fun x hx => by rw [List.mem_singleton.mp hx]; exact h
theorem lf2 {v w : V} (h : Leaf v) (h' : Leaf w) : ∀ x ∈ [v, w], Leaf x := fun x hx => by
  rcases List.mem_cons.mp hx with rfl | hx
  · exact h
  · rw [List.mem_singleton.mp hx]; exact h'
theorem code_leaf {H : Hp} : ∀ {n : Nat} {e : Ex} {x : V} (ns : List Str), ExAt H n e x → ∀ i ∈ code n e ns, InsL i
  | 0, _, _, _, h => h.elim
  | n + 1, .lit f v, x, ns, ⟨h1, h2, _⟩ => insL_one ⟨by show 1 ≤ 3; decide, lf1 (leaf_lit h2)⟩
  | n + 1, .name z, x, ns, _ => by
    show ∀ i ∈ [nameC ns z], InsL i
    refine insL_one ?_
    unfold nameC
    split
    · exact ⟨by show 1 ≤ 3; decide, lf1 trivial⟩
    · exact ⟨by show 1 ≤ 3; decide, lf1 trivial⟩
  | n + 1, .bin op a b, x, ns, ⟨h0, t, u, v, e, h, ha, hb⟩ => by
    have h1 := code_leaf ns ha
    have h2 := code_leaf ns hb
    show ∀ i ∈ binC op (code n a ns) (code n b ns), InsL i
    unfold binC
    split
    · exact insL_app (insL_app h1 (insL_one trivial)) h2
    · split
      · exact insL_app (insL_app h1 (insL_one trivial)) h2
      · exact insL_app (insL_app h1 h2) (insL_one ⟨by show 1 ≤ 3; decide, lf1 trivial⟩)
  | n + 1, .neg a, x, ns, ⟨t, u, e, h, ha⟩ => insL_app (code_leaf ns ha) (insL_one ⟨by decide, lf0⟩)
  | n + 1, .ife a b c, x, ns, ⟨t, u, v, w, e, h, ha, hb, hc⟩ => insL_app (insL_app (insL_app (insL_app (code_leaf ns ha) (insL_one trivial)) (code_leaf ns hb)) (insL_one trivial)) (code_leaf ns hc)
  | n + 1, .lt z a b, x, ns, ⟨t, u, v, e, h, ha, hb⟩ => insL_app (insL_app (insL_app (code_leaf ns ha) (insL_one ⟨by decide, lf0⟩)) (code_leaf _ hb)) (insL_one ⟨by show 1 ≤ 3; decide, lf1 trivial⟩)
  | n + 1, .cons a b, x, ns, ⟨t, u, v, e, h, ha, hb⟩ => insL_app (insL_app (code_leaf ns ha) (code_leaf ns hb)) (insL_one ⟨by decide, lf0⟩)
  | n + 1, .list es, x, ns, ⟨t, q, us, e, h, hq, hl, ha⟩ => insL_app (insL_flat _ es fun e he => by
      obtain ⟨u, _, r⟩ := memR ha he
      exact code_leaf ns r) (insL_one ⟨by show 1 ≤ 3; decide, lf1 trivial⟩)
  | n + 1, .call f es, x, ns, ⟨t, q, us, e, h, hq, hl, ha⟩ => insL_app (insL_flat _ es fun e he => by
      obtain ⟨u, _, r⟩ := memR ha he
      exact code_leaf ns r) (insL_one ⟨by show 2 ≤ 3; decide, lf2 trivial trivial⟩)
  | n + 1, .make f es, x, ns, ⟨t, q, us, e, h, hq, hl, ha⟩ => insL_app (insL_flat _ es fun e he => by
      obtain ⟨u, _, r⟩ := memR ha he
      exact code_leaf ns r) (insL_one ⟨by show 2 ≤ 3; decide, lf2 trivial trivial⟩)
  | n + 1, .split a b z y c, x, ns, ⟨t, u, v, w, e, h, ha, hb, hc⟩ => insL_app (insL_app (insL_app (insL_app (insL_app (code_leaf ns ha) (insL_one trivial)) (code_leaf ns hb)) (insL_one trivial)) (code_leaf _ hc)) (insL_one ⟨by show 1 ≤ 3; decide, lf1 trivial⟩)
  | n + 1, .mat a arms, x, ns, ⟨t, u, q, us, e, h, hq, hl, ha, hm⟩ => by
    refine insL_app (code_leaf ns ha) (insL_app (insL_one ?_) (insL_blocks _ ?_))
    · show (choices 0 _).length ≤ 3
      rw [choices_len, List.length_map, ← hm.len]
      exact hl.2
    · intro b hb
      obtain ⟨m, hm', rfl⟩ := List.mem_map.mp hb
      obtain ⟨u, _, ta, tn, w, _, _, _, _, r⟩ := memR hm hm'
      exact insL_app (code_leaf _ r) (insL_one ⟨by show 1 ≤ 3; decide, lf1 trivial⟩)
end Q33
/-! list.extend of a tuple -/
namespace HK
open PySem PySem.Spec PyProof.Rows L2 SX
open AutoSeq1
theorem ext_tup (l : Addr) (us : Array Value) (n : Nat) (b : Addr) (vs : Array Value) (m : Nat) (od : Option Addr) (sl : Array (Option Value)) (h0 : ¬ (!us.isEmpty && Builtin.List.listTooLong (us.size + vs.size)) = true) (h1 : us.size ≤ sizeLine) (h2 : us.size + vs.size ≤ sizeLine + 1) :
    Meets (Builtin.«list.extend» ⟨[.ref l, .ref b], []⟩) (fun _ R s => (s.heap.get? l = some { cls := .type "list", dict := none, data := .seq us n, slots := #[] } ∧ s.heap.get? b = some { cls := .type "tuple", dict := od, data := .seq vs m, slots := sl }) ∧
      R (.ok (.ret Value.none)) { s with heap := s.heap.update l (Obj.mapSeq fun x => x ++ vs), toks := s.toks }) :=
  .of_wp fun prog w A R s h => by
    obtain ⟨hp, g, d, tk, os⟩ := s
    obtain ⟨⟨hl, hb⟩, h⟩ := h
    have f1 := idx_int
    have f2 := AutoSeq1.sub_tuple_tuple
    have f3 := AutoSeq1.sub_list_list
    have f4 := AutoSeq1.sub_tuple_list
    have f5 := AutoSeq1.sub_list_tuple
    have hz' : (us ++ vs).size ≤ sizeLine + 1 := by
      rw [Array.size_append]
      exact h2
    wp_walk using (wpAny_updateSeq hl rfl (hz := h1) (_hz' := hz')), wpAny_loadPart' hl, wpAny_loadPart' hb
    exact ⟨_, rfl, h⟩
section
variable {X : Cx}
def rExtT (K : PySem.W.Frag) : V → List V → Hp → VK → Prop := fun x vs H Q => ∃ l b xs zs, x = .ref l ∧ vs = [.ref b] ∧ H l = some (.lst xs) ∧ SqT K H b zs ∧ xs.length + zs.length ≤ sizeLine ∧ Q .non (upd H l (.lst (xs ++ zs)))
theorem mt_extendT : MtM X "list.extend" (rExtT X.K) := by
  intro pins s σ H x vs v us Q I rx rv h
  obtain ⟨l, b, xs, zs, rfl, rfl, hH, hB, hz, q⟩ := h
  cases rx
  obtain ⟨u, rfl, ru⟩ := rv.one
  cases ru
  obtain ⟨z, its, n, r, hl, e⟩ := I.lstM hH
  obtain ⟨its2, r2, ⟨⟨oc, od, dt, sl⟩, hb, hc, m, hd⟩, z2⟩ := I.tuple hB
  cases hc
  cases hd
  have e1 := r.length
  have e2 := r2.length
  have hsz : its.toArray.size + its2.toArray.size ≤ sizeLine := by
    rw [List.size_toArray, List.size_toArray]
    omega
  have hlong : ¬ (!its.toArray.isEmpty && Builtin.List.listTooLong (its.toArray.size + its2.toArray.size)) = true := by
    rw [notLongL hsz, Bool.and_false]
    decide
  refine call_meets F.slot_list_extend ⟨_, e, rfl⟩ F.entry_list_extend (F.args_list_extend_2 _ _) (ext_tup l its.toArray n b its2.toArray m od sl hlong (by omega) (by omega)) ⟨⟨e, hb⟩, .non, _, I.lset (its' := its ++ its2) hH e (by simp) (r.append r2) (by rw [List.length_append]; omega), rfl, q⟩
theorem op_in_kdK {K : PySem.W.Frag} {w : World} {d : Addr} {es : Array DictEntry} {n : Nat} (hK : X.K = K) (hw : X.w = w) (D : KDict K w d es n) : OpR X (compareOp .In) (fun x y H Q => ∃ (z : Str) (r : Option Value), x = .str z ∧ y = .ref d ∧ PySem.W.nsIn K d z = some r ∧ Q (.bl r.isSome) H) := by
  subst hK
  subst hw
  exact op_in_kd D
theorem ix_kdictK {K : PySem.W.Frag} {w : World} (hK : X.K = K) (hw : X.w = w) : IxR X (rIxD K w) := by
  subst hK
  subst hw
  exact ix_kdict
theorem pi_tupK {K : PySem.W.Frag} {tg l : Expr} {tl : TE} (hK : X.K = K) (hl : PE X l tl) : PI X tg l (iTup K tl) := by
  subst hK
  exact pi_tup hl
end
end HK
/-! zip of a tuple and a list -/
namespace ZM
open PySem PySem.Spec PyProof.Rows L2 SX HL
def ItM (K : PySem.W.Frag) (a b : Addr) : It :=
  ⟨fun i H => ∃ xs ys : List V, SqT K H a xs ∧ SqL K H b ys ∧ i < xs.length ∧ i < ys.length,
   fun i H v H' => ∃ T x y, v = .ref T ∧ H T = none ∧ H' = upd H T (.tup [x, y]) ∧ (∀ l, SqT K H a l → l[i]? = some x) ∧ ∀ l, SqL K H b l → l[i]? = some y,
   fun i H => ∃ xs ys : List V, SqT K H a xs ∧ SqL K H b ys ∧ i ≤ xs.length ∧ i ≤ ys.length ∧ (i = xs.length ∨ i = ys.length)⟩
abbrev StM (a b z TI TO i1 i2 : Addr) (i : Nat) (h : Heap) : Prop := IsZip h z TI TO .none ∧ IsTupOf2 h TI (.ref i1) (.ref i2) ∧ (∃ x y, IsTupOf2 h TO x y) ∧ h.IsTupleIter i1 a i ∧ h.IsListIter i2 b i
theorem five {c z TI TO i1 i2 : Addr} (h : c ∈ [z, TI, TO, i1, i2]) : c = z ∨ c = TI ∨ c = TO ∨ c = i1 ∨ c = i2 := by simpa using h
theorem turn_m {P : Program} {w : World} {K : PySem.W.Frag} {elts : List Expr} {kk : Nat} {tpos : Pos} {a b z TI TO i1 i2 : Addr} (S : ZipSep2 z TI TO i1 i2 [i1, a] [i2, b]) (na : a ≠ i1) (nb : b ≠ i2) :
    Turn P w K (.Tuple elts kk tpos) (ItM K a b) [z, TI, TO, i1, i2] z (StM a b z TI TO i1 i2) where
  mem := by simp
  obj := fun i h ⟨hz, hTI, ⟨x, y, hTO⟩, ⟨o1, e1, _, d1⟩, ⟨o2, e2, _, d2⟩⟩ c hc => by
    rcases five hc with rfl | rfl | rfl | rfl | rfl
    · exact ⟨_, hz, fun v q => nomatch q⟩
    · exact ⟨_, hTI, fun v q => nomatch q⟩
    · exact ⟨_, hTO, fun v q => nomatch q⟩
    · exact ⟨o1, e1, fun v q => by rw [d1] at q; cases q⟩
    · exact ⟨o2, e2, fun v q => by rw [d2] at q; cases q⟩
  keep := fun i h h' ⟨hz, hTI, ⟨x, y, hTO⟩, h1, h2⟩ k => ⟨k z (by simp) _ hz, k TI (by simp) _ hTI, ⟨x, y, k TO (by simp) _ hTO⟩, h1.at fun o q => k i1 (by simp) o q, h2.at fun o q => k i2 (by simp) o q⟩
  item := by
    intro X hP hw hK hc i pins s σ H E I hf st hg
    subst hP hw hK
    obtain ⟨hz, hTI, ⟨x0, y0, hTO⟩, h1, h2⟩ := st
    obtain ⟨xs, ys, hqx, hqy, lx, ly⟩ := hg
    obtain ⟨its, rv, p, _⟩ := I.tuple hqx
    obtain ⟨its2, rv2, p2, _⟩ := I.list hqy
    have hcd := I.ok.hd hc
    have D1 := Draws.tuple (prog := X.prog) (w := X.w) (A := X.A.in1) hcd i1 a na its.toArray
    have D2 := Draws.list (prog := X.prog) (w := X.w) (A := X.A.in1) hcd i2 b nb its2.toArray
    have g1 : i < its.toArray.size := by rw [List.size_toArray, ← rv.length]; exact lx
    have g2 : i < its2.toArray.size := by rw [List.size_toArray, ← rv2.length]; exact ly
    have zlt : z < s.heap.objs.size := Heap.lt_size hz
    have clt : ∀ c ∈ [z, TI, TO, i1, i2], c < s.heap.objs.size := fun c hcm => by
      rcases five hcm with rfl | rfl | rfl | rfl | rfl
      · exact zlt
      · exact Heap.lt_size hTI
      · exact Heap.lt_size hTO
      · exact h1.elim fun _ q => Heap.lt_size q.1
      · exact h2.elim fun _ q => Heap.lt_size q.1
    refine wpAny_pyNext_zipD2_item S D1 D2 hz hTI hTO ⟨h1, p⟩ ⟨h2, p2.isList⟩ g1 g2 fun u u2 h' tk q1 q2 z' TO' n1 n2 hT hsz hk => ?_
    refine ⟨_, rfl, wpAny_letOwnedTupleGo_zip (s := { s with heap := h', toks := tk }) z' fun h'' z'' sb => ?_⟩
    have hT2 : h''.get? s.heap.objs.size = some { cls := .type "tuple", data := .seq #[u, u2] } := (sb.2 _ (Nat.ne_of_gt zlt)).trans hT
    have q1' : its[i]? = some u := by simpa using q1
    have q2' : its2[i]? = some u2 := by simpa using q2
    obtain ⟨x, hx, ru⟩ : ∃ x, xs[i]? = some x ∧ RelV x u := by
      obtain ⟨v, hv, r⟩ := rv.get (List.getElem?_eq_getElem lx)
      rw [q1'] at hv
      cases hv
      exact ⟨_, List.getElem?_eq_getElem lx, r⟩
    obtain ⟨y, hy, ru2⟩ : ∃ y, ys[i]? = some y ∧ RelV y u2 := by
      obtain ⟨v, hv, r⟩ := rv2.get (List.getElem?_eq_getElem ly)
      rw [q2'] at hv
      cases hv
      exact ⟨_, List.getElem?_eq_getElem ly, r⟩
    have new : ObjOk X.prog X.w (upd H s.heap.objs.size (.tup [x, y])) h'' s.heap.objs.size (.tup [x, y]) := ⟨by show 2 ≤ sizeLine; decide, [u, u2], .cons ru (.cons ru2 .nil), ⟨_, hT2, rfl, _, rfl⟩⟩
    have stay : ∀ c o, c ∉ [z, TI, TO, i1, i2] → s.heap.get? c = some o → h''.get? c = some o := fun c o hb q =>
      (sb.2 c (fun e => hb (by simp [e]))).trans (hk c o (fun e => hb (by simp [e])) (fun e => hb (by simp [e])) (fun e => hb (by simp [e])) (fun e => hb (by simp [e])) q)
    have I1 : Inv X pins σ (upd H s.heap.objs.size (.tup [x, y])) { s with heap := h'', toks := tk } := I.turnedNew (ch := [z, TI, TO, i1, i2]) stay hf (Nat.le_refl _) new
    have nz1 : i1 ≠ z := fun e => S.zf1 (by rw [e]; simp)
    have nz2 : i2 ≠ z := fun e => S.zf2 (by rw [e]; simp)
    refine ⟨.ref s.heap.objs.size, _, I1, rfl, ⟨_, x, y, rfl, I.hok.fresh (Nat.le_refl _), rfl, fun l hl => by rw [I.tuple_inj hl hqx]; exact hx, fun l hl => by rw [I.list_inj hl hqy]; exact hy⟩, ⟨z'', ?_, ⟨u, u2, ?_⟩, ?_, ?_⟩, fun c hcm => ?_⟩
    · exact (sb.2 _ S.TIz).trans (hk _ _ S.TIz S.TITO S.TIi1 S.TIi2 hTI)
    · exact (sb.2 _ S.TOz).trans TO'
    · exact n1.1.at fun o q => (sb.2 _ nz1).trans q
    · exact n2.1.at fun o q => (sb.2 _ nz2).trans q
    · rw [upd_ne (Nat.ne_of_lt (clt c hcm))]
      exact (hf c hcm).1
  done := by
    intro X hP hw hK hc i pins s σ H E I hf st hg
    subst hP hw hK
    obtain ⟨hz, hTI, ⟨x0, y0, hTO⟩, h1, h2⟩ := st
    obtain ⟨xs, ys, hqx, hqy, lx, ly, hend⟩ := hg
    obtain ⟨its, rv, p, _⟩ := I.tuple hqx
    obtain ⟨its2, rv2, p2, _⟩ := I.list hqy
    have hcd := I.ok.hd hc
    have D1 := Draws.tuple (prog := X.prog) (w := X.w) (A := X.A.in1) hcd i1 a na its.toArray
    have D2 := Draws.list (prog := X.prog) (w := X.w) (A := X.A.in1) hcd i2 b nb its2.toArray
    have l1 : its.toArray.size = xs.length := by rw [List.size_toArray, ← rv.length]
    have l2 : its2.toArray.size = ys.length := by rw [List.size_toArray, ← rv2.length]
    refine wpAny_pyNext_zipD2_end S D1 D2 hz hTI hTO ⟨h1, p⟩ ⟨h2, p2.isList⟩ (by omega) (by omega) (by omega) fun h' tk hk => ⟨rfl, I.turnedL (t' := tk) (ch := [z, TI, TO, i1, i2]) (fun c o hb q => ?_) hf⟩
    exact hk c o (fun e => hb (by simp [e])) (fun e => hb (by simp [e])) (fun e => hb (by simp [e])) (fun e => hb (by simp [e])) q
  self := fun A i s Q E st h => wpAny_pyIter_zip st.1 h
theorem nm2 {x p q : Nat} (h1 : x ≠ p) (h2 : x ≠ q) : x ∉ [p, q] := by simp [h1, h2]
theorem sep_of (n a b : Nat) (la : a < n) (lb : b < n) : ZipSep2 (n + 4) (n + 2) (n + 3) n (n + 1) [n, a] [n + 1, b] :=
  have h1 : n + 2 ≠ n + 4 := by omega
  have h2 : n + 3 ≠ n + 4 := by omega
  have h3 : n + 2 ≠ n + 3 := by omega
  have h4 : n + 2 ≠ n := by omega
  have h5 : n + 2 ≠ n + 1 := by omega
  ⟨h1, h2, h3, h4, List.mem_cons_self .., nm2 (by omega) (by omega), nm2 (by omega) (by omega), h5, List.mem_cons_self .., nm2 (by omega) (by omega), nm2 (by omega) (by omega), nm2 (by omega) (by omega), nm2 (by omega) (by omega)⟩
def iM (K : PySem.W.Frag) (ta : TA) : TI := fun σ H R => ta σ H fun vs H1 => ∃ a b xs ys, vs = [.ref a, .ref b] ∧ SqT K H1 a xs ∧ SqL K H1 b ys ∧ R (ItM K a b) H1
/-- for x, y in zip(tuple, list) -/
theorem pi_m {X : Cx} {e e2 : Expr} {ta : TA} {p pos tpos : Pos} {elts : List Expr} {kk : Nat} (hg : Gl X "zip") (hm : X.mg "zip" = none) (ha : PA X [e, e2] ta)
    (hs : starEach [e, e2] X.env = (false, eval e X.env) :: starEach [e2] X.env := by rfl) (hpl : (backTo pos (starEach [e2] X.env)).any (·.1) = false := by rfl) : PI X (.Tuple elts kk tpos) (.Call (.Name "zip" p) [e, e2] [] pos) (iM X.K ta) := by
  refine ⟨fun pins s σ H R I h => Call_ (ld_blt I hg hm PyProof.Rows.boot_zip (PyProof.Rows.callWith_type1 (thn (ha.run pos pins s σ H _ I h) fun us s1 ⟨vs, H1, I1, r1, q1⟩ => ?_) hs hpl))⟩
  obtain ⟨a, b, xs, ys, rfl, hqx, hqy, q⟩ := q1
  cases r1 with
  | cons r rr =>
  cases rr with
  | cons r' rr =>
  cases rr
  cases r
  cases r'
  obtain ⟨its, rv, p1, _⟩ := I1.tuple hqx
  obtain ⟨its2, rv2, p2, _⟩ := I1.list hqy
  have la : a < s1.heap.objs.size := p1.elim fun _ q => Heap.lt_size q.1
  have lb : b < s1.heap.objs.size := p2.isList.elim fun _ q => Heap.lt_size q.1
  have above : ∀ c, c ∈ [s1.heap.objs.size + 4, s1.heap.objs.size + 2, s1.heap.objs.size + 3, s1.heap.objs.size, s1.heap.objs.size + 1] → s1.heap.objs.size ≤ c := fun c hcm => by
    rcases five hcm with rfl | rfl | rfl | rfl | rfl <;> omega
  refine zip_begins2 (begins_tuple a its.toArray) (begins_list b its2.toArray) p1 p2.isList fun h' hz hTI hTO g1 g2 hsz hk => wpAny_pyIter_zip hz ?_
  have I2 : Inv X pins σ H1 { s1 with heap := h' } := I1.kept (t' := s1.toks) hk
  have S := sep_of s1.heap.objs.size a b la lb
  exact ⟨s1.heap.objs.size + 4, [s1.heap.objs.size + 4, s1.heap.objs.size + 2, s1.heap.objs.size + 3, s1.heap.objs.size, s1.heap.objs.size + 1], _, _, H1, rfl, I2, turn_m S (Nat.ne_of_lt la) (Nat.ne_of_lt (Nat.lt_succ_of_lt lb)), ⟨hz, hTI, ⟨_, _, hTO⟩, ⟨_, g1, rfl, rfl⟩, ⟨_, g2, rfl, rfl⟩⟩, fun c hcm => I1.fpOk (above c hcm) (I1.hok.fresh (above c hcm)), q⟩
theorem walk_m {K : PySem.W.Frag} {a b : Addr} {xs ys : List V} {n : Nat} (hn : n = xs.length) (hl : xs.length = ys.length) : Walk (ItM K a b) n (fun H => SqT K H a xs ∧ SqL K H b ys) (YPair (fun i => xs[i]?) (fun i => ys[i]?)) := by
  subst hn
  refine ⟨fun i H hi q => ⟨xs, ys, q.1, q.2, hi, hl ▸ hi⟩, fun H q => ⟨xs, ys, q.1, q.2, Nat.le_refl _, Nat.le_of_eq hl, .inl rfl⟩, fun i H v H' _ q y => ?_⟩
  obtain ⟨T, x, z, h1, h2, h3, h4, h5⟩ := y
  exact ⟨T, x, z, h1, h2, h3, h4 xs q.1, h5 ys q.2⟩
end ZM
namespace Q33
open PySem PySem.Spec PyProof.Rows L2 SX HL
/-- what is returned: a tuple of this code -/
def Ret (H : Hp) (Q : VK) (c : List Ins) : Prop := ∀ t H' ws, Same H H' → H' t = some (.tup ws) → CodeAt H' ws c → Q (.ref t) H'
theorem ret_new {H H1 : Hp} {Q : VK} {c : List Ins} {us : List V} (q : Ret H Q c) (s : Same H H1) (h : CodeAt H1 us c) : ∀ p, H1 p = none → Q (.ref p) (upd H1 p (.tup us)) :=
  fun p hp => q p _ us (Same.tr s (same_upd hp)) upd_same (h.keep (TupK.of (same_upd hp)))
theorem Ret.same {H H1 : Hp} {Q : VK} {c : List Ins} (q : Ret H Q c) (s : Same H H1) : Ret H1 Q c := fun t H' ws s' h c => q t H' ws (Same.tr s s') h c
theorem ca1 {H : Hp} {v : V} {i : Ins} (h : InsAt H v i) : CodeAt H [v] [i] := All2.one h
theorem ca_len {H : Hp} {us : List V} {c : List Ins} (h : CodeAt H us c) : us.length = c.length := All2.len h
section
variable {P : Program} {w : World} {K : PySem.W.Frag} {mg : Str → Option Value} {base : Heap}
/-! ### code_of_binary -/
def spBin : Sp := fun vs H Q _ => ∃ (op : Str) (a b : Addr) (us ws : List V) (ca cb : List Ins), vs = [.str op, .ref a, .ref b] ∧ op ∈ OPS ∧ H a = some (.tup us) ∧ H b = some (.tup ws) ∧ CodeAt H us ca ∧ CodeAt H ws cb ∧ ca.length ≤ 1000000 ∧ cb.length ≤ 1000000 ∧ Ret H Q (binC op ca cb)
theorem ok_binary {k : Nat} (Z : Defs K mg) {es : Array DictEntry} {nD : Nat} (DK : KDict K w Z.aD es nD) : FnOk P w K mg base CX0 (k + 1) Z.fCodeOfBinary Z.fdCodeOfBinary ["operator", "first", "second"] spBin := by
  refine Z.DCodeOfBinary.F.ok scCodeOfBinary (fun vs H Q E h => ?_) (fun cdv A outer s H vs Q E hr h => ?_)
  · obtain ⟨op, a, b, us, ws, ca, cb, rfl, _⟩ := h
    rfl
  · obtain ⟨op, a, b, us, ws, ca, cb, rfl, hop, ha, hb, hca, hcb, la, lb, qq⟩ := h
    refine ⟨_, (pss_cons (ps_if (pt_cmpR (HK.op_in_kdK (K := K) (w := w) rfl rfl DK) (pv 0) (pe_glob (v := .ref Z.aD) rfl Z.gD rfl) rfl) (pss_one (ps_ret (pe_tup (StX.pa_star (pv 1) (pa_cons (pe_tup (pa_cons pe_str (pa_cons (pe_ix (HK.ix_kdictK (K := K) (w := w) rfl rfl) (pe_glob (v := .ref Z.aD) rfl Z.gD rfl) (pv 0) (fun _ _ => rfl)) (pa_cons (pe_callB call_len_seq (by rfl) Z.len PySem.boot_len (pa_cons (pv 2) pa_nil)) pa_nil)))) (StX.pa_star (pv 2) pa_nil)))))) pss_nil)
        (pss_one (ps_ret (pe_tup (StX.pa_star (pv 1) (StX.pa_star (pv 2) (pa_cons (pe_tup (pa_cons pe_str (pa_cons (pv 0) pa_nil))) pa_nil))))))), ?_⟩
    have ea := ca_len hca
    have eb := ca_len hcb
    have hz : 3000000 ≤ sizeLine := by decide
    have yes : ∀ (v : Bool), KDct K w Z.aD op (.bl v) → binC op ca cb = ca ++ [.stays v cb.length] ++ cb → ∀ T, H T = none → (us ++ (V.ref T :: (ws ++ []))).length ≤ sizeLine ∧ ∀ p, upd H T (.tup [.str "stays", .bl v, vi ws.length]) p = none → Q (.ref p) (upd (upd H T (.tup [.str "stays", .bl v, vi ws.length])) p (.tup (us ++ (V.ref T :: (ws ++ []))))) := fun v _ e T hT => by
      have s1 : Same H (upd H T (.tup [.str "stays", .bl v, vi ws.length])) := same_upd hT
      have k1 := TupK.of s1
      refine ⟨by simp only [List.length_append, List.length_cons, List.length_nil]; omega, ret_new qq s1 ?_⟩
      rw [e, List.append_nil, List.append_assoc]
      exact (hca.keep k1).app (All2.cons ⟨T, rfl, by rw [upd_same, eb]⟩ (hcb.keep k1))
    have no : op ≠ "and" → op ≠ "or" → ∀ T, H T = none → (us ++ (ws ++ [V.ref T])).length ≤ sizeLine ∧ ∀ p, upd H T (.tup [.str "op", .str op]) p = none → Q (.ref p) (upd (upd H T (.tup [.str "op", .str op])) p (.tup (us ++ (ws ++ [V.ref T])))) := fun n1 n2 T hT => by
      have s1 : Same H (upd H T (.tup [.str "op", .str op])) := same_upd hT
      have k1 := TupK.of s1
      refine ⟨by simp only [List.length_append, List.length_cons, List.length_nil]; omega, ret_new qq s1 ?_⟩
      unfold binC
      rw [if_neg n1, if_neg n2, List.append_assoc]
      exact (hca.keep k1).app ((hcb.keep k1).app (ca1 ⟨T, rfl, upd_same⟩))
    have key : ∃ r : Option Value, PySem.W.nsIn K Z.aD op = some r ∧ (∀ u, r = some u → ∃ v, RelV (.bl v) u ∧ binC op ca cb = ca ++ [.stays v cb.length] ++ cb) ∧ (r = none → op ≠ "and" ∧ op ≠ "or") := by
      have n : PySem.W.nsIn K Z.aD op = some none → op ≠ "and" → op ≠ "or" → ∃ r : Option Value, PySem.W.nsIn K Z.aD op = some r ∧ (∀ u, r = some u → ∃ v, RelV (.bl v) u ∧ binC op ca cb = ca ++ [.stays v cb.length] ++ cb) ∧ (r = none → op ≠ "and" ∧ op ≠ "or") := fun h n1 n2 => ⟨none, h, fun u e => (nomatch e), fun _ => ⟨n1, n2⟩⟩
      rcases (show op = "+" ∨ op = "-" ∨ op = "*" ∨ op = "/" ∨ op = "mod" ∨ op = "++" ∨ op = "=" ∨ op = "<" ∨ op = "and" ∨ op = "or" by simpa [OPS] using hop) with e | e | e | e | e | e | e | e | e | e
      · exact n (by rw [e]; exact Z.dAdd) (by rw [e]; decide +kernel) (by rw [e]; decide +kernel)
      · exact n (by rw [e]; exact Z.dSub) (by rw [e]; decide +kernel) (by rw [e]; decide +kernel)
      · exact n (by rw [e]; exact Z.dMul) (by rw [e]; decide +kernel) (by rw [e]; decide +kernel)
      · exact n (by rw [e]; exact Z.dDiv) (by rw [e]; decide +kernel) (by rw [e]; decide +kernel)
      · exact n (by rw [e]; exact Z.dMod) (by rw [e]; decide +kernel) (by rw [e]; decide +kernel)
      · exact n (by rw [e]; exact Z.dCat) (by rw [e]; decide +kernel) (by rw [e]; decide +kernel)
      · exact n (by rw [e]; exact Z.dEq) (by rw [e]; decide +kernel) (by rw [e]; decide +kernel)
      · exact n (by rw [e]; exact Z.dLt) (by rw [e]; decide +kernel) (by rw [e]; decide +kernel)
      · exact ⟨some (.bool false), by rw [e]; exact Z.dAnd, fun u h => ⟨false, Option.some.inj h.symm, by unfold binC; rw [if_pos e]⟩, fun h => nomatch h⟩
      · exact ⟨some (.bool true), by rw [e]; exact Z.dOr, fun u h => ⟨true, Option.some.inj h.symm, by unfold binC; rw [if_neg (by rw [e]; decide +kernel), if_pos e]⟩, fun h => nomatch h⟩
    obtain ⟨r, hr1, h1, h2⟩ := key
    refine ⟨_, rfl, op, r, rfl, rfl, hr1, _, rfl, ?_⟩
    cases r with
    | some u =>
      obtain ⟨v, rv, e⟩ := h1 u rfl
      have kd : KDct K w Z.aD op (.bl v) := ⟨es, nD, u, DK.at_, DK.lit, hr1, rv⟩
      refine iteT ?_
      refine ⟨_, rfl, a, us, rfl, .inl (SqT.of ha), ?_⟩
      refine ⟨_, rfl, Z.aD, op, _, rfl, rfl, kd, ?_⟩
      exact ⟨_, rfl, b, ws, rfl, .inr (SqT.of hb), by show 3 ≤ sizeLine; decide, fun T hT => ⟨_, rfl, b, ws, rfl, .inl (SqT.of (same_upd hT _ _ hb)), yes v kd e T hT⟩⟩
    | none => exact iteF ⟨_, rfl, a, us, rfl, .inl (SqT.of ha), _, rfl, b, ws, rfl, .inl (SqT.of hb), _, rfl, by show 2 ≤ sizeLine; decide, fun T hT => no (h2 rfl).1 (h2 rfl).2 T hT⟩
end
end Q33
namespace Q33
open PySem PySem.Spec PyProof.Rows L2 SX HL
theorem tk_lst {H : Hp} {D : Addr} {acc : List V} {o : HO} (h : H D = some (.lst acc)) : TupK H (upd H D o) := fun a xs e => by
  rw [upd_ne (fun z => by rw [z, h] at e; cases e)]
  exact e
theorem Names.same {K : PySem.W.Frag} {H H' : Hp} {v : V} {ns : List Str} (h : Names K H v ns) (s : Same H H') : Names K H' v ns := by
  obtain ⟨a, e, h | h⟩ := h
  · exact ⟨a, e, .inl (h.ext s)⟩
  · exact ⟨a, e, .inr (h.ext s)⟩
theorem cB7 {n : Nat} (h : n ≤ 7) : cB n ≤ 43688 := Nat.le_trans (cB_mono h) (by decide)
section
variable {P : Program} {w : World} {K : PySem.W.Frag} {mg : Str → Option Value} {base : Heap}
def spCode (K : PySem.W.Frag) (n : Nat) : Sp := fun vs H Q _ => ∃ (x v : V) (e : Ex) (ns : List Str), vs = [x, v] ∧ ExAt H n e x ∧ Names K H v ns ∧ ns.length + 2 * n ≤ 1000 ∧ Ret H Q (code n e ns)
/-! ### code_of_all -/
def spAll (K : PySem.W.Frag) (n : Nat) : Sp := fun vs H Q _ => ∃ (q : Addr) (v : V) (us : List V) (es : List Ex) (ns : List Str), vs = [.ref q, v] ∧ H q = some (.tup us) ∧ us.length ≤ 3 ∧ All2 (fun u e => ExAt H n e u) us es ∧ Names K H v ns ∧ ns.length + 2 * n ≤ 1000 ∧ Ret H Q ((es.map fun e => code n e ns).flatten)
theorem ok_all {k n : Nat} (hn : n ≤ 7) (Z : Defs K mg) (GCodeOf : FnOk P w K mg base CX0 k Z.fCodeOf Z.fdCodeOf ["e", "names"] (spCode K n)) : FnOk P w K mg base CX0 (k + 1) Z.fCodeOfAll Z.fdCodeOfAll ["parts", "names"] (spAll K n) := by
  refine Z.DCodeOfAll.F.ok scCodeOfAll (fun vs H Q E h => ?_) (fun cdv A outer s H vs Q E hr h => ?_)
  · obtain ⟨q, v, us, es, ns, rfl, _⟩ := h
    rfl
  · obtain ⟨q, v, us, es, ns, rfl, hq, hl, ha, hN, hns, qq⟩ := h
    refine ⟨_, (pss_one (ps_ret (pe_callTy call_tuple_of (by rfl) Z.tuple HL.boot_tuple (pa_cons (pe_lc2 (own := [("e", 2), ("instruction", 3)]) (vs1 := [3]) (g := (gName 2)) (g1 := (gName 3)) (by rfl) scCodeOfAll.nd  (pi_tup (pv 0)) (blkOk_by (own := [("e", 2), ("instruction", 3)]) (N := ["parts", "names", "e", "instruction"]) (sc := defScope sCodeOfAll) (by decide +kernel)) (by decide) (fun _ _ _ _ _ => (pg_name (i := 2) scCodeOfAll.nd rfl (Or.inl rfl))) (fun _ _ _ _ _ => pts_nil) (fun _ _ _ _ _ => (HK.pi_tupK (K := K) rfl (pe_call GCodeOf (hr.mono (by omega)) (by rfl) Z.DCodeOf.g Z.DCodeOf.F.kp Z.DCodeOf.b .nil pass0 (pa_cons (pv 2) (pa_cons (pv 1) pa_nil))))) (fun _ _ _ _ _ => (pg_name (i := 3) scCodeOfAll.nd rfl (Or.inl rfl))) (fun _ _ _ _ _ => pts_nil) (fun _ _ _ _ _ => (pv 3))) pa_nil)))), ?_⟩
    have hB := cB7 hn
    have hz : 1000000 ≤ sizeLine := by decide
    have flen : ∀ i, ((es.take i).map fun e => code n e ns).flatten.length ≤ 3 * cB n := fun i => by
      have h1 := flat_le (fun e => code n e ns) (cB n) (es.take i) fun e he => by
        obtain ⟨u, _, r⟩ := memR ha (List.mem_of_mem_take he)
        exact code_len ns r
      exact Nat.le_trans h1 (mul3 (by rw [List.length_take, ← ha.len]; omega))
    refine ⟨_, rfl, q, rfl, ⟨us, SqT.of hq⟩, fun D hD => ?_⟩
    refine HC.wk_it walk_tup (fun i H' => Same H H' ∧ ∃ acc, H' D = some (.lst acc) ∧ CodeAt H' acc (((es.take i).map fun e => code n e ns).flatten)) ⟨same_upd hD, [], upd_same, .nil⟩ (fun i H' _ p => SqT.of (p.1 _ _ hq)) ?_ ?_
    · rintro i x H1 H1' hi ⟨s1, acc, hD1, hacc⟩ ⟨rfl, hx⟩
      obtain ⟨e, he, hxe⟩ := ha.get hx
      refine ⟨rfl, HC.yes (iteT ?_)⟩
      refine ⟨_, rfl, _, rfl, x, v, e, ns, rfl, hxe.keep (TupK.of s1), hN.same s1, hns, fun t H2 ws s2 ht hc => ?_⟩
      have el := code_len ns hxe
      refine ⟨t, rfl, ⟨ws, SqT.of ht⟩, ?_⟩
      refine HC.wk_it walk_tup (fun j H' => Same H H' ∧ H' t = some (.tup ws) ∧ CodeAt H' ws (code n e ns) ∧ ∃ acc, H' D = some (.lst acc) ∧ CodeAt H' acc (((es.take i).map fun e => code n e ns).flatten ++ (code n e ns).take j)) ⟨Same.tr s1 s2, ht, hc, acc, s2 _ _ hD1, by rw [List.take_zero, List.append_nil]; exact hacc.keep (TupK.of s2)⟩ (fun j H' _ p => SqT.of p.2.1) ?_ ?_
      · rintro j y H3 H3' hj ⟨s3, ht3, hc3, acc3, hD3, hacc3⟩ ⟨rfl, hy⟩
        obtain ⟨c, hcj, hyc⟩ := All2.get hc3 hy
        have hlen := ca_len hacc3
        have := flen i
        refine ⟨rfl, HC.yes (iteT ⟨_, rfl, acc3, hD3, ?_, ?_⟩)⟩
        · rw [hlen, List.length_append, List.length_take]; omega
        · have k3 := tk_lst (o := .lst (acc3 ++ [y])) hD3
          refine ⟨fun b o hb => ?_, k3 _ _ ht3, hc3.keep k3, _, upd_same, ?_⟩
          · rw [upd_ne (ne_of_none hb hD)]
            exact s3 b o hb
          · rw [List.take_add_one, hcj, ← List.append_assoc]
            exact (hacc3.keep k3).app (ca1 (hyc.keep k3))
      · rintro H3 ⟨s3, ht3, hc3, acc3, hD3, hacc3⟩
        refine ⟨s3, acc3, hD3, ?_⟩
        rw [List.take_add_one, he, List.map_append, List.flatten_append]
        rw [ca_len hc3, List.take_length] at hacc3
        show CodeAt H3 acc3 (_ ++ ([code n e ns] : List (List Ins)).flatten)
        rw [List.flatten_cons, List.flatten_nil, List.append_nil]
        exact hacc3
    · rintro H1 ⟨s1, acc, hD1, hacc⟩
      rw [ha.len, List.take_length] at hacc
      exact ⟨D, acc, rfl, .inl ⟨SqL.of hD1, ret_new qq s1 hacc⟩⟩
end
end Q33
namespace Q33
open PySem PySem.Spec PyProof.Rows L2 SX HL
/-! ### the arms of a match -/
def bks (n : Nat) (ns : List Str) (arms : List (Str × List Str × Ex)) : List Blk := arms.map fun m => (m.1, m.2.1.length, code n m.2.2 (ns ++ m.2.1) ++ [.plain "leave" [vi m.2.1.length]])
def blkR (r : Nat) : List Blk → List Ins
  | [] => []
  | b :: d => b.2.2 ++ [Ins.jump "skip" (tot d + r)] ++ blkR r d
theorem blkR_zero : ∀ bs, blkR 0 bs = blocks bs
  | [] => rfl
  | b :: d => by
    show b.2.2 ++ [Ins.jump "skip" (tot d + 0)] ++ blkR 0 d = b.2.2 ++ [Ins.jump "skip" (tot d)] ++ blocks d
    rw [blkR_zero d]
    rfl
theorem tot_app : ∀ a b, tot (a ++ b) = tot a + tot b
  | [], b => by simp [tot]
  | x :: a, b => by
    show x.2.2.length + 1 + tot (a ++ b) = x.2.2.length + 1 + tot a + tot b
    rw [tot_app a b]
    omega
theorem blkR_len (r : Nat) : ∀ bs, (blkR r bs).length = tot bs
  | [] => rfl
  | b :: d => by
    show (b.2.2 ++ [Ins.jump "skip" (tot d + r)] ++ blkR r d).length = b.2.2.length + 1 + tot d
    rw [List.length_append, List.length_append, blkR_len r d]
    rfl
theorem blkR_snoc (r : Nat) (b : Blk) : ∀ d, blkR r (d ++ [b]) = blkR (r + b.2.2.length + 1) d ++ (b.2.2 ++ [Ins.jump "skip" r])
  | [] => by
    show b.2.2 ++ [Ins.jump "skip" (0 + r)] ++ [] = [] ++ (b.2.2 ++ [Ins.jump "skip" r])
    rw [List.append_nil, List.nil_append, Nat.zero_add]
  | x :: d => by
    show x.2.2 ++ [Ins.jump "skip" (tot (d ++ [b]) + r)] ++ blkR r (d ++ [b]) = x.2.2 ++ [Ins.jump "skip" (tot d + (r + b.2.2.length + 1))] ++ blkR (r + b.2.2.length + 1) d ++ (b.2.2 ++ [Ins.jump "skip" r])
    have e : tot (d ++ [b]) + r = tot d + (r + b.2.2.length + 1) := by
      rw [tot_app]
      show tot d + (b.2.2.length + 1 + 0) + r = _
      omega
    rw [blkR_snoc r b d, e]
    simp only [List.append_assoc]
theorem choices_snoc (b : Blk) : ∀ (d : List Blk) (o : Nat), choices o (d ++ [b]) = choices o d ++ [(b.1, b.2.1, o + tot d)]
  | [], o => rfl
  | x :: d, o => by
    show (x.1, x.2.1, o) :: choices (o + x.2.2.length + 1) (d ++ [b]) = (x.1, x.2.1, o) :: choices (o + x.2.2.length + 1) d ++ [(b.1, b.2.1, o + (x.2.2.length + 1 + tot d))]
    rw [choices_snoc b d]
    have e : o + x.2.2.length + 1 + tot d = o + (x.2.2.length + 1 + tot d) := by omega
    rw [e]
    rfl
/-- block b's code stands in a tuple -/
def BlkAt (H : Hp) (v : V) (b : Blk) : Prop := ∃ t ws, v = .ref t ∧ H t = some (.tup ws) ∧ CodeAt H ws b.2.2
theorem BlkAt.keep {H H' : Hp} {v : V} {b : Blk} (h : BlkAt H v b) (k : TupK H H') : BlkAt H' v b := by
  obtain ⟨t, ws, e, h1, h2⟩ := h
  exact ⟨t, ws, e, k _ _ h1, h2.keep k⟩
theorem ArmAt.keep {H H' : Hp} {n : Nat} {v : V} {m : Str × List Str × Ex} (h : ArmAt H n v m) (k : TupK H H') : ArmAt H' n v m := by
  obtain ⟨ta, tn, w, e, h1, h2, h3, h4⟩ := h
  exact ⟨ta, tn, w, e, k _ _ h1, k _ _ h2, h3, h4.keep k⟩
theorem sumI : ∀ bs : List Blk, (bs.map fun b => ((b.2.2.length : Nat) : Int) + 1).sum = ((tot bs : Nat) : Int)
  | [] => rfl
  | b :: d => by
    rw [List.map_cons, List.sum_cons, sumI d]
    show _ = ((b.2.2.length + 1 + tot d : Nat) : Int)
    omega
section
variable {P : Program} {w : World} {K : PySem.W.Frag} {mg : Str → Option Value} {base : Heap}
def spArms (K : PySem.W.Frag) (n : Nat) : Sp := fun vs H Q _ => ∃ (q : Addr) (v : V) (us : List V) (arms : List (Str × List Str × Ex)) (ns : List Str), vs = [.ref q, v] ∧ H q = some (.tup us) ∧ us.length ≤ 3 ∧ All2 (fun u m => ArmAt H n u m) us arms ∧ Names K H v ns ∧ ns.length + 2 + 2 * n ≤ 1000 ∧
  Ret H Q ([.pick (choices 0 (bks n ns arms))] ++ blocks (bks n ns arms))
theorem ok_arms {k n : Nat} (hn : n ≤ 7) (Z : Defs K mg) (GCodeOf : FnOk P w K mg base CX0 k Z.fCodeOf Z.fdCodeOf ["e", "names"] (spCode K n)) : FnOk P w K mg base CX0 (k + 1) Z.fCodeOfArms Z.fdCodeOfArms ["arms", "names"] (spArms K n) := by
  refine Z.DCodeOfArms.F.ok scCodeOfArms (fun vs H Q E h => ?_) (fun cdv A outer s H vs Q E hr h => ?_)
  · obtain ⟨q, v, us, arms, ns, rfl, _⟩ := h
    rfl
  · obtain ⟨q, v, us, arms, ns, rfl, hq, hl, ha, hN, hns, qq⟩ := h
    refine ⟨_, (pss_cons (ps_setLc (i := 2) (own := [("_", 8), ("own", 9), ("e", 10)]) (g := (gTup K 3 (gCons (gName 8) (gCons (gName 9) (gCons (gName 10) gNil))))) (by rfl) scCodeOfArms.nd rfl rfl (sw_true rfl rfl rfl (by decide +kernel)) (HK.pi_tupK (K := K) rfl (pv 0)) (blkOk_by (own := [("_", 8), ("own", 9), ("e", 10)]) (N := ["arms", "names", "blocks", "total", "choices", "code", "arm", "block", "_", "own", "e"]) (sc := defScope sCodeOfArms) (by decide +kernel)) (fun _ _ _ _ _ => (pg_tup rfl (pgs_cons (pg_name (i := 8) scCodeOfArms.nd rfl (.inl rfl)) (pgs_cons (pg_name (i := 9) scCodeOfArms.nd rfl (.inl rfl)) (pgs_cons (pg_name (i := 10) scCodeOfArms.nd rfl (.inl rfl)) pgs_nil))))) (fun _ _ _ _ _ => pts_nil) (fun _ _ _ _ _ => (pe_tup (KX.pa_starK (K := K) rfl (pe_call GCodeOf (hr.mono (by omega)) (by rfl) Z.DCodeOf.g Z.DCodeOf.F.kp Z.DCodeOf.b .nil pass0 (pa_cons (pv 10) (pa_cons (pe_tup (KX.pa_starK (K := K) rfl (pv 1) (KX.pa_starK (K := K) rfl (pv 9) pa_nil))) pa_nil))) (pa_cons (pe_tup (pa_cons pe_str (pa_cons (pe_callB (HX.call_len_seqK (K := K) rfl) (by rfl) Z.len PySem.boot_len (pa_cons (pv 9) pa_nil)) pa_nil))) pa_nil)))))
        (pss_cons (ps_set (i := 3) scCodeOfArms.nd rfl (.inl rfl) (pe_callB (cr_sum rfl) (by rfl) Z.sum (by decide +kernel) (pa_cons (pe_lc (own := [("block", 7)]) (g := (gName 7)) (by rfl) scCodeOfArms.nd (pi_list (pv 2)) (blkOk_by (own := [("block", 7)]) (N := ["arms", "names", "blocks", "total", "choices", "code", "arm", "block", "_", "own", "e"]) (sc := defScope sCodeOfArms) (by decide +kernel)) (fun _ _ _ _ _ => (pg_name (i := 7) scCodeOfArms.nd rfl (Or.inl rfl))) (fun _ _ _ _ _ => pts_nil) (fun _ _ _ _ _ => (pe_op op_add (pe_callB (HX.call_len_seqK (K := K) rfl) (by rfl) Z.len PySem.boot_len (pa_cons (pv 7) pa_nil)) pe_int))) pa_nil)))
        (pss_cons (ps_set (i := 4) scCodeOfArms.nd rfl (.inl rfl) (pe_lst pa_nil))
        (pss_cons (ps_set (i := 5) scCodeOfArms.nd rfl (.inl rfl) (pe_lst pa_nil))
        (pss_cons (ps_for PassesOwn.never rfl (ZM.pi_m (by rfl) Z.zip (pa_cons (pv 0) (pa_cons (pv 2) pa_nil))) (pg_tup rfl (pgs_cons (pg_name (i := 6) scCodeOfArms.nd rfl (.inl rfl)) (pgs_cons (pg_name (i := 7) scCodeOfArms.nd rfl (.inl rfl)) pgs_nil))) (pss_cons (ps_expr (pe_bm PySem.F.plainAttrs_list PySem.F.slot_list_append PySem.F.type_list_append mt_append (pv 4) (pa_cons (pe_tup (pa_cons (pe_ix ix_tup (pv 6) pe_int (fun _ _ => rfl)) (pa_cons (pe_callB call_len_seq (by rfl) Z.len PySem.boot_len (pa_cons (pe_ix ix_tup (pv 6) pe_int (fun _ _ => rfl)) pa_nil)) (pa_cons (pe_callB call_len_seq (by rfl) Z.len PySem.boot_len (pa_cons (pv 5) pa_nil)) pa_nil)))) pa_nil)))
        (pss_cons (ps_expr (pe_bm PySem.F.plainAttrs_list PySem.F.slot_list_extend PySem.F.type_list_extend HK.mt_extendT (pv 5) (pa_cons (pv 7) pa_nil)))
        (pss_one (ps_expr (pe_bm PySem.F.plainAttrs_list PySem.F.slot_list_append PySem.F.type_list_append mt_append (pv 5) (pa_cons (pe_tup (pa_cons pe_str (pa_cons (pe_op op_sub (pe_op op_sub (pv 3) (pe_callB call_len_seq (by rfl) Z.len PySem.boot_len (pa_cons (pv 5) pa_nil))) pe_int) pa_nil))) pa_nil)))))))
        (pss_one (ps_ret (pe_tup (pa_cons (pe_tup (pa_cons pe_str (pa_cons (pe_callTy call_tuple_of (by rfl) Z.tuple HL.boot_tuple (pa_cons (pv 4) pa_nil)) pa_nil))) (StX.pa_star (pv 5) pa_nil)))))))))), ?_⟩
    have hB := cB7 hn
    have hz : 1000000 ≤ sizeLine := by decide
    generalize hbs : bks n ns arms = bs at qq
    have hbl : bs.length = us.length := by rw [← hbs, ha.len]; exact List.length_map ..
    have hbc : ∀ b ∈ bs, b.2.2.length ≤ cB n + 1 := fun b hb => by
      rw [← hbs] at hb
      obtain ⟨m, hm', rfl⟩ := List.mem_map.mp hb
      obtain ⟨u, _, ta, tn, w, _, _, _, _, r⟩ := memR ha hm'
      have := code_len (ns ++ m.2.1) r
      simp only [List.length_append, List.length_cons, List.length_nil]; omega
    have htot : tot bs ≤ 3 * (cB n + 1 + 1) := Nat.le_trans (tot_le (cB n + 1) bs hbc) (mul3 (by omega))
    -- blocks
    refine ⟨_, rfl, q, rfl, ⟨us, SqT.of hq⟩, fun B hB0 => ?_⟩
    refine lc_it walk_tup (fun i H' => Same H H' ∧ ∃ acc, H' B = some (.lst acc) ∧ All2 (BlkAt H') acc (bs.take i)) ⟨same_upd hB0, [], upd_same, .nil⟩ (fun i H' _ p => SqT.of (p.1 _ _ hq)) ?_ ?_
    · rintro i x H0 H1 hi ⟨s1, acc, hB1, hacc⟩ ⟨rfl, hx⟩
      obtain ⟨m, hm, hxm⟩ := ha.get hx
      obtain ⟨ta, tn, ew, rfl, hta, htn, hm2, he⟩ := hxm.keep (TupK.of s1)
      obtain ⟨nv, rfl, hnv⟩ := hN.same s1
      refine ⟨ta, _, rfl, SqT.of hta, rfl, _, _, rfl, _, _, rfl, _, _, rfl, rfl, rfl, lc_yes ?_⟩
      refine ⟨_, rfl, _, rfl, nv, _, rfl, hnv.symm, _, rfl, tn, _, rfl, .inl (SqT.of htn), ?_, fun T hT => ?_⟩
      · simp only [List.length_append, List.length_map, List.length_nil]; omega
      have s2 : Same H1 (upd H1 T (.tup (ns.map V.str ++ (m.2.1.map V.str ++ [])))) := same_upd hT
      have g2 : upd H1 T (.tup (ns.map V.str ++ (m.2.1.map V.str ++ []))) T = some (.tup ((ns ++ m.2.1).map V.str)) := by rw [upd_same, List.append_nil, List.map_append]
      generalize upd H1 T (.tup (ns.map V.str ++ (m.2.1.map V.str ++ []))) = H2 at s2 g2
      refine ⟨ew, .ref T, m.2.2, ns ++ m.2.1, rfl, he.keep (TupK.of s2), ⟨T, rfl, .inr (SqT.of g2)⟩, by rw [List.length_append]; omega, fun t H3 ws s3 ht hc => ?_⟩
      have el := code_len (ns ++ m.2.1) he
      refine ⟨t, ws, rfl, .inl (SqT.of ht), ?_⟩
      refine ⟨_, rfl, tn, _, rfl, .inr (SqT.of (s3 _ _ (s2 _ _ htn))), by show 2 ≤ sizeLine; decide, fun T2 hT2 => ?_⟩
      have s4 : Same H3 (upd H3 T2 (.tup [.str "leave", .int ((m.2.1.map V.str).length : Int)])) := same_upd hT2
      have g4 : upd H3 T2 (.tup [.str "leave", .int ((m.2.1.map V.str).length : Int)]) T2 = some (.tup [.str "leave", vi m.2.1.length]) := by rw [upd_same, List.length_map] <;> rfl
      show _ ∧ ∀ p, upd H3 T2 (.tup [.str "leave", .int ((m.2.1.map V.str).length : Int)]) p = none → _
      generalize upd H3 T2 (.tup [.str "leave", .int ((m.2.1.map V.str).length : Int)]) = H4 at s4 g4
      refine ⟨by rw [List.length_append, ca_len hc]; show _ + 1 ≤ _; omega, fun T3 hT3 => ?_⟩
      have s5 : Same H4 (upd H4 T3 (.tup (ws ++ [V.ref T2]))) := same_upd hT3
      have g5 : upd H4 T3 (.tup (ws ++ [V.ref T2])) T3 = some (.tup (ws ++ [V.ref T2])) := upd_same
      generalize upd H4 T3 (.tup (ws ++ [V.ref T2])) = H5 at s5 g5
      have s15 : Same H1 H5 := Same.tr s2 (Same.tr s3 (Same.tr s4 s5))
      have hB5 := s15 _ _ hB1
      have k5 := tk_lst (o := .lst (acc ++ [V.ref T3])) hB5
      have hbi : bs[i]? = some (m.1, m.2.1.length, code n m.2.2 (ns ++ m.2.1) ++ [.plain "leave" [vi m.2.1.length]]) := by
        rw [← hbs]
        show (arms.map _)[i]? = _
        rw [List.getElem?_map, hm]
        rfl
      refine ⟨acc, hB5, by rw [hacc.len, List.length_take]; omega, fun b o hb => ?_, _, upd_same, ?_⟩
      · rw [upd_ne (ne_of_none hb hB0)]
        exact s15 _ _ (s1 _ _ hb)
      · rw [List.take_add_one, hbi]
        refine (hacc.mono fun x y h => h.keep ((TupK.of s15).tr k5)).app (.one ⟨T3, _, rfl, k5 _ _ g5, ?_⟩)
        exact (hc.keep ((TupK.of (Same.tr s4 s5)).tr k5)).app (ca1 ⟨T2, rfl, k5 _ _ (s5 _ _ g4)⟩)
    · rintro H1 ⟨s1, bl, hB1, hbl2⟩
      rw [← hbl, List.take_length] at hbl2
      have hbll : bl.length = bs.length := hbl2.len
      refine ⟨_, rfl, B, rfl, ⟨bl, SqL.of hB1⟩, fun S hS => ?_⟩
      refine lc_it walk_list (fun i H' => Same H1 H' ∧ H' S = some (.lst (((bs.take i).map fun b => ((b.2.2.length : Nat) : Int) + 1).map V.int))) ⟨same_upd hS, upd_same⟩ (fun i H' _ p => SqL.of (p.1 _ _ hB1)) ?_ ?_
      · rintro i x H2 H2' hi ⟨s2, hS2⟩ ⟨rfl, hx⟩
        obtain ⟨b, hb, t, ws, rfl, ht, hc⟩ := hbl2.get hx
        refine ⟨rfl, lc_yes ⟨_, rfl, t, ws, rfl, .inr (SqT.of (s2 _ _ ht)), _, _, rfl, rfl, _, hS2, ?_, fun c o hco => ?_, ?_⟩⟩
        · rw [List.length_map, List.length_map, List.length_take]; omega
        · rw [upd_ne (ne_of_none hco hS)]
          exact s2 _ _ hco
        · rw [upd_same, List.take_add_one, hb, List.map_append, List.map_append, ca_len hc]
          rfl
      · rintro H2 ⟨s2, hS2⟩
        rw [hbll, List.take_length] at hS2
        refine ⟨S, _, rfl, SqL.of hS2, ?_⟩
        rw [sumI]
        refine ⟨Nat.zero_le _, fun C hC => ⟨Nat.zero_le _, fun D hD => ?_⟩⟩
        have s3 : Same H2 (upd H2 C (.lst [])) := same_upd hC
        have gC : upd H2 C (.lst []) C = some (.lst []) := upd_same
        generalize upd H2 C (.lst []) = H3 at s3 gC hD
        have s4 : Same H3 (upd H3 D (.lst [])) := same_upd hD
        have gD : upd H3 D (.lst []) D = some (.lst []) := upd_same
        show _
        generalize upd H3 D (.lst []) = H4 at s4 gD
        have s14 : Same H1 H4 := Same.tr s2 (Same.tr s3 s4)
        have s04 : Same H H4 := Same.tr s1 s14
        have hB4 := s14 _ _ hB1
        have hbl4 := hbl2.mono fun x y h => h.keep (TupK.of s14)
        have nDC : D ≠ C := fun e => by rw [e, gC] at hD; cases hD
        have nBC : B ≠ C := ne_of_none (s2 _ _ hB1) hC
        have nBD : B ≠ D := ne_of_none (s3 _ _ (s2 _ _ hB1)) hD
        have gC4 := s4 _ _ gC
        refine ⟨_, rfl, _, rfl, q, B, us, bl, rfl, SqT.of (s04 _ _ hq), SqL.of hB4, ?_⟩
        refine for_it (ZM.walk_m (xs := us) (ys := bl) rfl (by rw [hbll, hbl])) (fun j σ H' => ∃ (y6 y7 : Option V) (cs ds : List V), σ = [some (.ref q), some v, some (.ref B), some (vi (tot bs)), some (.ref C), some (.ref D), y6, y7, none, none, none] ∧ (∀ z o, H4 z = some o → z ≠ C → z ≠ D → H' z = some o) ∧ H' C = some (.lst cs) ∧ H' D = some (.lst ds) ∧
            All2 (ChAt H') cs (choices 0 (bs.take j)) ∧ CodeAt H' ds (blkR (tot (bs.drop j)) (bs.take j))) ⟨_, _, [], [], rfl, fun z o h _ _ => h, gC4, gD, .nil, .nil⟩ (fun j σ H' _ p => ?_) ?_ ?_
        · obtain ⟨_, _, _, _, _, f, _⟩ := p
          have k : TupK H4 H' := fun a xs h => f a _ h (fun e => by rw [e, gC4] at h; cases h) (fun e => by rw [e, gD] at h; cases h)
          exact ⟨SqT.of (k _ _ (s04 _ _ hq)), SqL.of (f _ _ hB4 nBC nBD)⟩
        · rintro j x σ H5' H5 hj ⟨y6, y7, cs, ds, rfl, f, hC5, hD5, hcs, hds⟩ ⟨T, x1, x2, rfl, hT, rfl, e1, e2⟩
          replace e1 : us[j]? = some x1 := e1
          replace e2 : bl[j]? = some x2 := e2
          have k5 : TupK H4 H5' := fun a xs h => f a _ h (fun e => by rw [e, gC4] at h; cases h) (fun e => by rw [e, gD] at h; cases h)
          obtain ⟨m, hm, ta, tn, ew, rfl, hta, htn, hm2, he⟩ := ha.get e1
          obtain ⟨b, hb, t, ws, rfl, ht, hc⟩ := hbl4.get e2
          have hbi : bs[j]? = some (m.1, m.2.1.length, code n m.2.2 (ns ++ m.2.1) ++ [.plain "leave" [vi m.2.1.length]]) := by
            rw [← hbs]
            show (arms.map _)[j]? = _
            rw [List.getElem?_map, hm]
            rfl
          have eb1 : b.1 = m.1 ∧ b.2.1 = m.2.1.length := by rw [hb] at hbi; cases hbi; exact ⟨rfl, rfl⟩
          clear hbi
          have s6 : Same H5' (upd H5' T (.tup [.ref ta, .ref t])) := same_upd hT
          have g6 : upd H5' T (.tup [.ref ta, .ref t]) T = some (.tup [.ref ta, .ref t]) := upd_same
          generalize upd H5' T (.tup [.ref ta, .ref t]) = H6 at s6 g6
          have k6 : TupK H4 H6 := k5.tr (TupK.of s6)
          have hta6 := k6 _ _ (s04 _ _ hta)
          have htn6 := k6 _ _ (s04 _ _ htn)
          have ht6 := k6 _ _ ht
          have hD6 := s6 _ _ hD5
          have hC6 := s6 _ _ hC5
          have hcs6 := hcs.mono fun x y r => IsRow.same r (TupK.of s6)
          have hds6 := hds.keep (TupK.of s6)
          have elen := ca_len hc
          have dlen : ds.length = tot (bs.take j) := by rw [ca_len hds, blkR_len]
          have clen : cs.length = (bs.take j).length := by rw [hcs.len, choices_len]
          have tsplit : tot bs = tot (bs.take j) + tot (bs.drop j) := by rw [← tot_app, List.take_append_drop]
          have dsplit : bs.drop j = b :: bs.drop (j + 1) := (List.drop_eq_getElem?_toList_append ..).trans (by rw [hb]; rfl)
          have tcons : tot (bs.drop j) = b.2.2.length + 1 + tot (bs.drop (j + 1)) := by rw [dsplit]; rfl
          have tsnoc : bs.take (j + 1) = bs.take j ++ [b] := by rw [List.take_add_one, hb]; rfl
          refine ⟨T, _, rfl, SqT.of g6, rfl, _, _, rfl, _, _, rfl, rfl, ?_⟩
          refine ⟨_, rfl, .inl ⟨rfl, _, SqL.of hC6⟩, ?_⟩
          refine ⟨_, rfl, ta, _, 0, _, rfl, rfl, SqT.of hta6, rfl, ?_⟩
          refine ⟨_, rfl, ta, _, 1, _, rfl, rfl, SqT.of hta6, rfl, tn, _, rfl, .inr (SqT.of htn6), ?_⟩
          refine ⟨_, rfl, D, _, rfl, .inl (SqL.of hD6), by show 3 ≤ sizeLine; decide, fun T2 hT2 => ?_⟩
          have s7 : Same H6 (upd H6 T2 (.tup [.str m.1, .int ((m.2.1.map V.str).length : Int), .int (ds.length : Int)])) := same_upd hT2
          have g7 : upd H6 T2 (.tup [.str m.1, .int ((m.2.1.map V.str).length : Int), .int (ds.length : Int)]) T2 = some (.tup [.str b.1, vi b.2.1, vi (0 + tot (bs.take j))]) := by rw [upd_same, List.length_map, eb1.1, eb1.2, dlen, Nat.zero_add] <;> rfl
          generalize upd H6 T2 (.tup [.str m.1, .int ((m.2.1.map V.str).length : Int), .int (ds.length : Int)]) = H7 at s7 g7
          have hC7 := s7 _ _ hC6
          refine ⟨C, _, _, rfl, rfl, hC7, by rw [clen, List.length_take]; omega, ?_⟩
          have k8 := tk_lst (o := .lst (cs ++ [V.ref T2])) hC7
          have f8 : ∀ z o, H7 z = some o → z ≠ C → upd H7 C (.lst (cs ++ [V.ref T2])) z = some o := fun z o h n => by rw [upd_ne n]; exact h
          have hC8 : upd H7 C (.lst (cs ++ [V.ref T2])) C = some (.lst (cs ++ [V.ref T2])) := upd_same
          generalize upd H7 C (.lst (cs ++ [V.ref T2])) = H8 at k8 f8 hC8
          have hD8 := f8 _ _ (s7 _ _ hD6) nDC
          refine ⟨_, rfl, .inl ⟨rfl, _, SqL.of hD8⟩, _, rfl, D, t, _, ws, rfl, rfl, hD8, SqT.of (k8 _ _ (s7 _ _ ht6)), by rw [dlen, elen]; omega, ?_⟩
          have k9 := tk_lst (o := .lst (ds ++ ws)) hD8
          have f9 : ∀ z o, H8 z = some o → z ≠ D → upd H8 D (.lst (ds ++ ws)) z = some o := fun z o h n => by rw [upd_ne n]; exact h
          have hD9 : upd H8 D (.lst (ds ++ ws)) D = some (.lst (ds ++ ws)) := upd_same
          generalize upd H8 D (.lst (ds ++ ws)) = H9 at k9 f9 hD9
          refine ⟨_, rfl, .inl ⟨rfl, _, SqL.of hD9⟩, _, rfl, _, rfl, D, _, rfl, .inl (SqL.of hD9), _, _, rfl, rfl, _, _, rfl, rfl, by show 2 ≤ sizeLine; decide, fun T3 hT3 => ?_⟩
          have ei : ((tot bs : Nat) : Int) - ((ds ++ ws).length : Int) - 1 = ((tot (bs.drop (j + 1)) : Nat) : Int) := by
            rw [List.length_append]
            omega
          have s10 : Same H9 (upd H9 T3 (.tup [.str "skip", .int (((tot bs : Nat) : Int) - ((ds ++ ws).length : Int) - 1)])) := same_upd hT3
          have g10 : upd H9 T3 (.tup [.str "skip", .int (((tot bs : Nat) : Int) - ((ds ++ ws).length : Int) - 1)]) T3 = some (.tup [.str "skip", vi (tot (bs.drop (j + 1)))]) := by rw [upd_same, ei] <;> rfl
          generalize upd H9 T3 (.tup [.str "skip", .int (((tot bs : Nat) : Int) - ((ds ++ ws).length : Int) - 1)]) = H10 at s10 g10
          have hD10 := s10 _ _ hD9
          refine ⟨D, _, _, rfl, rfl, hD10, by rw [List.length_append, dlen, elen]; omega, ?_⟩
          have k11 := tk_lst (o := .lst (ds ++ ws ++ [V.ref T3])) hD10
          have f11 : ∀ z o, H10 z = some o → z ≠ D → upd H10 D (.lst (ds ++ ws ++ [V.ref T3])) z = some o := fun z o h n => by rw [upd_ne n]; exact h
          have hC10 := s10 _ _ (f9 _ _ hC8 (fun e => nDC e.symm))
          have kk : TupK H8 (upd H10 D (.lst (ds ++ ws ++ [V.ref T3]))) := k9.tr ((TupK.of s10).tr k11)
          refine ⟨_, _, cs ++ [V.ref T2], ds ++ ws ++ [V.ref T3], rfl, fun z o h nC nD => ?_, by rw [upd_ne (fun e => nDC e.symm)]; exact hC10, upd_same, ?_, ?_⟩
          · exact f11 _ _ (s10 _ _ (f9 _ _ (f8 _ _ (s7 _ _ (s6 _ _ (f _ _ h nC nD))) nC) nD)) nD
          · rw [tsnoc, choices_snoc]
            refine (hcs6.mono fun x y r => IsRow.same r ((TupK.of s7).tr (k8.tr kk))).app (.one ⟨T2, rfl, kk _ _ (k8 _ _ g7)⟩)
          · rw [tsnoc, blkR_snoc]
            have er : tot (bs.drop (j + 1)) + b.2.2.length + 1 = tot (bs.drop j) := by omega
            rw [er]
            have r := (hds6.keep ((TupK.of s7).tr (k8.tr kk))).app ((hc.keep (k6.tr ((TupK.of s7).tr (k8.tr kk)))).app (ca1 (i := .jump "skip" (tot (bs.drop (j + 1)))) ⟨T3, rfl, k11 _ _ g10⟩))
            rw [← List.append_assoc ds ws] at r
            exact r
        · rintro σ H5 ⟨y6, y7, cs, ds, rfl, f, hC5, hD5, hcs, hds⟩
          rw [← hbl, List.take_length, List.drop_length] at hds
          rw [← hbl, List.take_length] at hcs
          have hds : CodeAt H5 ds (blocks bs) := by rw [← blkR_zero]; exact hds
          have s45 : Same H H5 := fun z o h => f _ _ (s04 _ _ h) (fun e => by have := s2 _ _ (s1 _ _ h); rw [e, hC] at this; cases this) (fun e => by have := s3 _ _ (s2 _ _ (s1 _ _ h)); rw [e, hD] at this; cases this)
          have clen : cs.length = bs.length := by rw [hcs.len, choices_len]
          have dlen : ds.length = tot bs := by rw [ca_len hds, blocks_len]
          refine ⟨_, rfl, C, cs, rfl, .inl ⟨SqL.of hC5, fun T hT => ?_⟩⟩
          have s6 : Same H5 (upd H5 T (.tup cs)) := same_upd hT
          have g6 : upd H5 T (.tup cs) T = some (.tup cs) := upd_same
          generalize upd H5 T (.tup cs) = H6 at s6 g6
          refine ⟨by show 2 ≤ sizeLine; decide, fun T2 hT2 => ?_⟩
          have s7 : Same H6 (upd H6 T2 (.tup [.str "pick", .ref T])) := same_upd hT2
          have g7 : upd H6 T2 (.tup [.str "pick", .ref T]) T2 = some (.tup [.str "pick", .ref T]) := upd_same
          generalize upd H6 T2 (.tup [.str "pick", .ref T]) = H7 at s7 g7
          have k57 := TupK.of (Same.tr s6 s7)
          refine ⟨_, rfl, D, ds, rfl, .inr (SqL.of (Same.tr s6 s7 _ _ hD5)), by simp only [List.length_append, List.length_cons, List.length_nil]; omega, ret_new qq (Same.tr s45 (Same.tr s6 s7)) ?_⟩
          rw [List.append_nil]
          exact All2.cons ⟨T2, T, cs, rfl, g7, s7 _ _ g6, hcs.mono fun x y r => IsRow.same r k57⟩ (hds.keep k57)
end
end Q33
namespace Q33
open PySem PySem.Spec PyProof.Rows L2 SX HL
section
variable {P : Program} {w : World} {K : PySem.W.Frag} {mg : Str → Option Value} {base : Heap}
/-! ### code_of_choice -/
def Choi : Ex → Prop
  | .lit _ _ => True
  | .ife _ _ _ => True
  | .split _ _ _ _ _ => True
  | _ => False
def spChoi (K : PySem.W.Frag) (n : Nat) : Sp := fun vs H Q _ => ∃ (x v : V) (e : Ex) (ns : List Str), vs = [x, v] ∧ ExAt H (n + 1) e x ∧ Choi e ∧ Names K H v ns ∧ ns.length + 2 * (n + 1) ≤ 1000 ∧ Ret H Q (code (n + 1) e ns)
theorem ok_choice {k n : Nat} (hn : n ≤ 7) (Z : Defs K mg) (GCodeOf : FnOk P w K mg base CX0 k Z.fCodeOf Z.fdCodeOf ["e", "names"] (spCode K n)) : FnOk P w K mg base CX0 (k + 1) Z.fCodeOfChoice Z.fdCodeOfChoice ["e", "names"] (spChoi K n) := by
  refine Z.DCodeOfChoice.F.ok scCodeOfChoice (fun vs H Q E h => ?_) (fun cdv A outer s H vs Q E hr h => ?_)
  · obtain ⟨x, v, e, ns, rfl, _⟩ := h
    rfl
  · obtain ⟨x, v, e, ns, rfl, he, hch, hN, hns, qq⟩ := h
    refine ⟨_, (pss_cons (HM.ps_match (pv 0) (HM.pm_tag rfl scCodeOfChoice.nd (.name (i := 2) rfl (.inl rfl) (by first | exact .inl rfl | exact .inr rfl) (.name (i := 3) rfl (.inl rfl) (by first | exact .inl rfl | exact .inr rfl) (.name (i := 4) rfl (.inl rfl) (by first | exact .inl rfl | exact .inr rfl) .nil))) (pss_cons (ps_set (i := 5) scCodeOfChoice.nd rfl (.inl rfl) (pe_call GCodeOf (hr.mono (by omega)) (by rfl) Z.DCodeOf.g Z.DCodeOf.F.kp Z.DCodeOf.b .nil pass0 (pa_cons (pv 3) (pa_cons (pv 1) pa_nil))))
        (pss_cons (ps_set (i := 6) scCodeOfChoice.nd rfl (.inl rfl) (pe_call GCodeOf (hr.mono (by omega)) (by rfl) Z.DCodeOf.g Z.DCodeOf.F.kp Z.DCodeOf.b .nil pass0 (pa_cons (pv 4) (pa_cons (pv 1) pa_nil))))
        (pss_one (ps_ret (pe_tup (StX.pa_star (pe_call GCodeOf (hr.mono (by omega)) (by rfl) Z.DCodeOf.g Z.DCodeOf.F.kp Z.DCodeOf.b .nil pass0 (pa_cons (pv 2) (pa_cons (pv 1) pa_nil))) (pa_cons (pe_tup (pa_cons pe_str (pa_cons (pe_op op_add (pe_callB call_len_seq (by rfl) Z.len PySem.boot_len (pa_cons (pv 5) pa_nil)) pe_int) pa_nil))) (StX.pa_star (pv 5) (pa_cons (pe_tup (pa_cons pe_str (pa_cons (pe_callB call_len_seq (by rfl) Z.len PySem.boot_len (pa_cons (pv 6) pa_nil)) pa_nil))) (StX.pa_star (pv 6) pa_nil))))))))))
          (HM.pm_tag rfl scCodeOfChoice.nd (.name (i := 7) rfl (.inl rfl) (by first | exact .inl rfl | exact .inr rfl) (.name (i := 3) rfl (.inl rfl) (by first | exact .inl rfl | exact .inr rfl) (.name (i := 8) rfl (.inl rfl) (by first | exact .inl rfl | exact .inr rfl) (.name (i := 9) rfl (.inl rfl) (by first | exact .inl rfl | exact .inr rfl) (.name (i := 4) rfl (.inl rfl) (by first | exact .inl rfl | exact .inr rfl) .nil))))) (pss_cons (ps_set (i := 5) scCodeOfChoice.nd rfl (.inl rfl) (pe_call GCodeOf (hr.mono (by omega)) (by rfl) Z.DCodeOf.g Z.DCodeOf.F.kp Z.DCodeOf.b .nil pass0 (pa_cons (pv 3) (pa_cons (pv 1) pa_nil))))
        (pss_cons (ps_set (i := 6) scCodeOfChoice.nd rfl (.inl rfl) (pe_call GCodeOf (hr.mono (by omega)) (by rfl) Z.DCodeOf.g Z.DCodeOf.F.kp Z.DCodeOf.b .nil pass0 (pa_cons (pv 4) (pa_cons (pe_tup (StX.pa_star (pv 1) (pa_cons (pv 8) (pa_cons (pv 9) pa_nil)))) pa_nil))))
        (pss_cons (ps_set (i := 10) scCodeOfChoice.nd rfl (.inl rfl) (pe_tup (StX.pa_star (pe_call GCodeOf (hr.mono (by omega)) (by rfl) Z.DCodeOf.g Z.DCodeOf.F.kp Z.DCodeOf.b .nil pass0 (pa_cons (pv 7) (pa_cons (pv 1) pa_nil))) (pa_cons (pe_tup (pa_cons pe_str (pa_cons (pe_op op_add (pe_callB call_len_seq (by rfl) Z.len PySem.boot_len (pa_cons (pv 5) pa_nil)) pe_int) pa_nil))) pa_nil))))
        (pss_one (ps_ret (pe_tup (StX.pa_star (pv 10) (StX.pa_star (pv 5) (pa_cons (pe_tup (pa_cons pe_str (pa_cons (pe_op op_add (pe_callB call_len_seq (by rfl) Z.len PySem.boot_len (pa_cons (pv 6) pa_nil)) pe_int) pa_nil))) (StX.pa_star (pv 6) (pa_cons (pe_tup (pa_cons pe_str (pa_cons pe_int pa_nil))) pa_nil)))))))))))
          HM.pm_nil)))
        (pss_one (ps_ret (pe_tup (pa_cons (pe_tup (pa_cons pe_str (pa_cons (pe_ix ix_tup (pv 0) pe_int (fun _ _ => rfl)) pa_nil))) pa_nil))))), ?_⟩
    have hB := cB7 hn
    have hz : 1000000 ≤ sizeLine := by decide
    cases e with
    | lit f z =>
      obtain ⟨hf, hl, t, rfl, ht⟩ := he
      have n1 : ¬ (f = "if" ∧ [z].length = 3) := fun h => absurd h.2 (by simp)
      have n2 : ¬ (f = "split" ∧ [z].length = 5) := fun h => absurd h.2 (by simp)
      refine ⟨_, rfl, t, f, [z], rfl, SqT.of ht, iteNo n1 ⟨t, f, [z], rfl, SqT.of ht, iteNo n2 ?_⟩⟩
      refine ⟨_, rfl, t, _, 1, _, rfl, rfl, SqT.of ht, rfl, by show 2 ≤ sizeLine; decide, fun T hT => ?_⟩
      have s1 : Same H (upd H T (.tup [.str "push", z])) := same_upd hT
      have g1 : upd H T (.tup [.str "push", z]) T = some (.tup [.str "push", z]) := upd_same
      generalize upd H T (.tup [.str "push", z]) = H1 at s1 g1
      exact ⟨by show 1 ≤ sizeLine; decide, ret_new qq s1 (ca1 ⟨T, rfl, g1⟩)⟩
    | ife a b c =>
      obtain ⟨t, u, y, z, rfl, ht, ha, hb, hc⟩ := he
      refine ⟨_, rfl, t, "if", [u, y, z], rfl, SqT.of ht, iteYes ⟨rfl, rfl⟩ ?_⟩
      refine ⟨_, rfl, _, rfl, y, v, b, ns, rfl, hb, hN, by omega, fun t1 H1 w1 s1 ht1 hc1 => ?_⟩
      refine ⟨_, rfl, _, rfl, z, v, c, ns, rfl, hc.keep (TupK.of s1), hN.same s1, by omega, fun t2 H2 w2 s2 ht2 hc2 => ?_⟩
      have s02 := Same.tr s1 s2
      refine ⟨_, rfl, _, rfl, u, v, a, ns, rfl, ha.keep (TupK.of s02), hN.same s02, by omega, fun t3 H3 w3 s3 ht3 hc3 => ?_⟩
      have s03 := Same.tr s02 s3
      have s13 := Same.tr s2 s3
      have l1 := ca_len hc1
      have l2 := ca_len hc2
      have l3 := ca_len hc3
      have m1 := code_len ns ha
      have m2 := code_len ns hb
      have m3 := code_len ns hc
      refine ⟨t3, w3, rfl, .inl (SqT.of ht3), ?_⟩
      refine ⟨_, rfl, t1, w1, rfl, .inr (SqT.of (s13 _ _ ht1)), _, _, rfl, rfl, by show 2 ≤ sizeLine; decide, fun T hT => ?_⟩
      have s4 : Same H3 (upd H3 T (.tup [.str "unless", .int ((w1.length : Int) + 1)])) := same_upd hT
      have g4 : upd H3 T (.tup [.str "unless", .int ((w1.length : Int) + 1)]) T = some (.tup [.str "unless", vi ((code n b ns).length + 1)]) := by rw [upd_same, l1] <;> rfl
      generalize upd H3 T (.tup [.str "unless", .int ((w1.length : Int) + 1)]) = H4 at s4 g4
      refine ⟨_, rfl, t1, w1, rfl, .inl (SqT.of (s4 _ _ (s13 _ _ ht1))), ?_⟩
      refine ⟨_, rfl, t2, w2, rfl, .inr (SqT.of (s4 _ _ (s3 _ _ ht2))), by show 2 ≤ sizeLine; decide, fun T2 hT2 => ?_⟩
      have s5 : Same H4 (upd H4 T2 (.tup [.str "skip", .int (w2.length : Int)])) := same_upd hT2
      have g5 : upd H4 T2 (.tup [.str "skip", .int (w2.length : Int)]) T2 = some (.tup [.str "skip", vi (code n c ns).length]) := by rw [upd_same, l2] <;> rfl
      generalize upd H4 T2 (.tup [.str "skip", .int (w2.length : Int)]) = H5 at s5 g5
      have s35 := Same.tr s4 s5
      refine ⟨_, rfl, t2, w2, rfl, .inl (SqT.of (s35 _ _ (s3 _ _ ht2))), by simp only [List.length_append, List.length_cons, List.length_nil]; omega, ret_new qq (Same.tr s03 s35) ?_⟩
      have r := (((((hc3.keep (TupK.of s35)).app (ca1 (i := .jump "unless" ((code n b ns).length + 1)) ⟨T, rfl, s5 _ _ g4⟩)).app (hc1.keep (TupK.of (Same.tr s13 s35)))).app (ca1 (i := .jump "skip" (code n c ns).length) ⟨T2, rfl, g5⟩)).app (hc2.keep (TupK.of (Same.tr s3 s35))))
      rw [List.append_nil]
      simp only [List.append_assoc, List.cons_append, List.nil_append] at r ⊢
      exact cast (by simp only [code, List.append_assoc, List.cons_append, List.nil_append]) r
    | split a b p q c =>
      obtain ⟨t, u, y, z, rfl, ht, ha, hb, hc⟩ := he
      refine ⟨_, rfl, t, "split", [u, y, .str p, .str q, z], rfl, SqT.of ht, iteNo (fun h => absurd h.1 (by decide +kernel)) ⟨t, "split", [u, y, .str p, .str q, z], rfl, SqT.of ht, iteYes ⟨rfl, rfl⟩ ?_⟩⟩
      refine ⟨_, rfl, _, rfl, y, v, b, ns, rfl, hb, hN, by omega, fun t1 H1 w1 s1 ht1 hc1 => ?_⟩
      obtain ⟨nv, rfl, hnv⟩ := hN.same s1
      refine ⟨_, rfl, _, rfl, nv, _, rfl, hnv.symm, _, rfl, _, rfl, by simp only [List.length_append, List.length_map, List.length_cons, List.length_nil]; omega, fun N hNn => ?_⟩
      have sN : Same H1 (upd H1 N (.tup (ns.map V.str ++ [.str p, .str q]))) := same_upd hNn
      have gN : upd H1 N (.tup (ns.map V.str ++ [.str p, .str q])) N = some (.tup ((ns ++ [p, q]).map V.str)) := by rw [upd_same, List.map_append] <;> rfl
      generalize upd H1 N (.tup (ns.map V.str ++ [.str p, .str q])) = H1n at sN gN
      have s1n := Same.tr s1 sN
      refine ⟨z, .ref N, c, ns ++ [p, q], rfl, hc.keep (TupK.of s1n), ⟨N, rfl, .inr (SqT.of gN)⟩, by rw [List.length_append]; show ns.length + 2 + 2 * n ≤ 1000; omega, fun t2 H2 w2 s2 ht2 hc2 => ?_⟩
      have s02 := Same.tr s1n s2
      refine ⟨_, rfl, _, rfl, u, .ref nv, a, ns, rfl, ha.keep (TupK.of s02), hN.same s02, by omega, fun t3 H3 w3 s3 ht3 hc3 => ?_⟩
      have s03 := Same.tr s02 s3
      have s13 := Same.tr (Same.tr sN s2) s3
      have l1 := ca_len hc1
      have l2 := ca_len hc2
      have l3 := ca_len hc3
      have m1 := code_len ns ha
      have m2 := code_len ns hb
      have m3 := code_len (ns ++ [p, q]) hc
      refine ⟨t3, w3, rfl, .inl (SqT.of ht3), ?_⟩
      refine ⟨_, rfl, t1, w1, rfl, .inr (SqT.of (s13 _ _ ht1)), _, _, rfl, rfl, by show 2 ≤ sizeLine; decide, fun T hT => ?_⟩
      have s4 : Same H3 (upd H3 T (.tup [.str "open", .int ((w1.length : Int) + 1)])) := same_upd hT
      have g4 : upd H3 T (.tup [.str "open", .int ((w1.length : Int) + 1)]) T = some (.tup [.str "open", vi ((code n b ns).length + 1)]) := by rw [upd_same, l1] <;> rfl
      generalize upd H3 T (.tup [.str "open", .int ((w1.length : Int) + 1)]) = H4 at s4 g4
      refine ⟨by simp only [List.length_append, List.length_cons, List.length_nil]; omega, fun ST hST => ?_⟩
      have sS : Same H4 (upd H4 ST (.tup (w3 ++ [.ref T]))) := same_upd hST
      have gS : upd H4 ST (.tup (w3 ++ [.ref T])) ST = some (.tup (w3 ++ [.ref T])) := upd_same
      generalize upd H4 ST (.tup (w3 ++ [.ref T])) = H4s at sS gS
      have s4s := Same.tr s4 sS
      refine ⟨_, rfl, ST, _, rfl, .inl (SqT.of gS), ?_⟩
      refine ⟨_, rfl, t1, w1, rfl, .inl (SqT.of (s4s _ _ (s13 _ _ ht1))), ?_⟩
      refine ⟨_, rfl, t2, w2, rfl, .inr (SqT.of (s4s _ _ (s3 _ _ ht2))), _, _, rfl, rfl, by show 2 ≤ sizeLine; decide, fun T2 hT2 => ?_⟩
      have s5 : Same H4s (upd H4s T2 (.tup [.str "skip", .int ((w2.length : Int) + 1)])) := same_upd hT2
      have g5 : upd H4s T2 (.tup [.str "skip", .int ((w2.length : Int) + 1)]) T2 = some (.tup [.str "skip", vi ((code n c (ns ++ [p, q])).length + 1)]) := by rw [upd_same, l2] <;> rfl
      generalize upd H4s T2 (.tup [.str "skip", .int ((w2.length : Int) + 1)]) = H5 at s5 g5
      have s35 := Same.tr s4s s5
      refine ⟨_, rfl, t2, w2, rfl, .inl (SqT.of (s35 _ _ (s3 _ _ ht2))), by show 2 ≤ sizeLine; decide, fun T3 hT3 => ?_⟩
      have s6 : Same H5 (upd H5 T3 (.tup [.str "leave", .int 2])) := same_upd hT3
      have g6 : upd H5 T3 (.tup [.str "leave", .int 2]) T3 = some (.tup [.str "leave", .int 2]) := upd_same
      generalize upd H5 T3 (.tup [.str "leave", .int 2]) = H6 at s6 g6
      have s36 := Same.tr s35 s6
      refine ⟨by simp only [List.length_append, List.length_cons, List.length_nil]; omega, ret_new qq (Same.tr s03 s36) ?_⟩
      have r := ((((((hc3.keep (TupK.of s36)).app (ca1 (i := .jump "open" ((code n b ns).length + 1)) ⟨T, rfl, s6 _ _ (s5 _ _ (sS _ _ g4))⟩)).app (hc1.keep (TupK.of (Same.tr s13 s36)))).app (ca1 (i := .jump "skip" ((code n c (ns ++ [p, q])).length + 1)) ⟨T2, rfl, s6 _ _ g5⟩)).app (hc2.keep (TupK.of (Same.tr s3 s36)))).app (ca1 (i := .plain "leave" [.int 2]) ⟨T3, rfl, g6⟩))
      simp only [List.append_assoc, List.cons_append, List.nil_append] at r ⊢
      exact cast (by simp only [code, List.append_assoc, List.cons_append, List.nil_append]) r
    | _ => exact hch.elim
end
end Q33
namespace Q33
open PySem PySem.Spec PyProof.Rows L2 SX HL
section
variable {P : Program} {w : World} {K : PySem.W.Frag} {mg : Str → Option Value} {base : Heap}
/-! ### code_of -/
theorem name_at {H : Hp} {T : Addr} {ns : List Str} {x : Str} (h : H T = some (.tup (nameI ns x))) : InsAt H (.ref T) (nameC ns x) := by
  unfold nameI at h
  unfold nameC
  cases e : near ns.reverse x with
  | none => rw [e] at h; exact ⟨T, rfl, h⟩
  | some k => rw [e] at h; exact ⟨T, rfl, h⟩
theorem code_zero {k : Nat} (Z : Defs K mg) : FnOk P w K mg base CX0 (k + 1) Z.fCodeOf Z.fdCodeOf ["e", "names"] (spCode K 0) := by
  refine Z.DCodeOf.F.ok scCodeOf (fun vs H Q E h => ?_) (fun cdv A outer s H vs Q E hr h => ?_)
  · obtain ⟨x, v, e, ns, rfl, _⟩ := h
    rfl
  · obtain ⟨x, v, e, ns, rfl, he, _⟩ := h
    exact he.elim
theorem code_step {k n : Nat} (hn : n ≤ 7) (Z : Defs K mg) {es : Array DictEntry} {nD : Nat} (DK : KDict K w Z.aD es nD) (GCodeOf' : FnOk P w K mg base CX0 (k + 1) Z.fCodeOf Z.fdCodeOf ["e", "names"] (spCode K n)) : FnOk P w K mg base CX0 (k + 3) Z.fCodeOf Z.fdCodeOf ["e", "names"] (spCode K (n + 1)) := by
  have GCodeOf : FnOk P w K mg base CX0 (k + 1) Z.fCodeOf Z.fdCodeOf ["e", "names"] (spCode K n) := GCodeOf'
  have GCodeOfName : FnOk P w K mg base CX0 (k + 1) Z.fCodeOfName Z.fdCodeOfName ["name", "names"] (spName K) := ok_name Z
  have GCodeOfBinary : FnOk P w K mg base CX0 (k + 1) Z.fCodeOfBinary Z.fdCodeOfBinary ["operator", "first", "second"] spBin := ok_binary Z DK
  have GCodeOfAll : FnOk P w K mg base CX0 (k + 2) Z.fCodeOfAll Z.fdCodeOfAll ["parts", "names"] (spAll K n) := ok_all hn Z GCodeOf
  have GCodeOfArms : FnOk P w K mg base CX0 (k + 2) Z.fCodeOfArms Z.fdCodeOfArms ["arms", "names"] (spArms K n) := ok_arms hn Z GCodeOf
  have GCodeOfChoice : FnOk P w K mg base CX0 (k + 2) Z.fCodeOfChoice Z.fdCodeOfChoice ["e", "names"] (spChoi K n) := ok_choice hn Z GCodeOf
  refine Z.DCodeOf.F.ok scCodeOf (fun vs H Q E h => ?_) (fun cdv A outer s H vs Q E hr h => ?_)
  · obtain ⟨x, v, e, ns, rfl, _⟩ := h
    rfl
  · obtain ⟨x, v, e, ns, rfl, he, hN, hns, qq⟩ := h
    refine ⟨_, (pss_one (HM.ps_match (pv 0) (HM.pm_tag rfl scCodeOf.nd (.name (i := 2) rfl (.inl rfl) (by first | exact .inl rfl | exact .inr rfl) .nil) (pss_one (ps_ret (pe_tup (pa_cons (pe_call GCodeOfName (hr.mono (by omega)) (by rfl) Z.DCodeOfName.g Z.DCodeOfName.F.kp Z.DCodeOfName.b .nil pass0 (pa_cons (pv 2) (pa_cons (pv 1) pa_nil))) pa_nil))))
          (HM.pm_tag rfl scCodeOf.nd (.name (i := 3) rfl (.inl rfl) (by first | exact .inl rfl | exact .inr rfl) (.name (i := 4) rfl (.inl rfl) (by first | exact .inl rfl | exact .inr rfl) (.name (i := 5) rfl (.inl rfl) (by first | exact .inl rfl | exact .inr rfl) .nil))) (pss_one (ps_ret (pe_call GCodeOfBinary (hr.mono (by omega)) (by rfl) Z.DCodeOfBinary.g Z.DCodeOfBinary.F.kp Z.DCodeOfBinary.b .nil pass0 (pa_cons (pv 3) (pa_cons (pe_call GCodeOf (hr.mono (by omega)) (by rfl) Z.DCodeOf.g Z.DCodeOf.F.kp Z.DCodeOf.b .nil pass0 (pa_cons (pv 4) (pa_cons (pv 1) pa_nil))) (pa_cons (pe_call GCodeOf (hr.mono (by omega)) (by rfl) Z.DCodeOf.g Z.DCodeOf.F.kp Z.DCodeOf.b .nil pass0 (pa_cons (pv 5) (pa_cons (pv 1) pa_nil))) pa_nil))))))
          (HM.pm_tag rfl scCodeOf.nd (.name (i := 4) rfl (.inl rfl) (by first | exact .inl rfl | exact .inr rfl) .nil) (pss_one (ps_ret (pe_tup (StX.pa_star (pe_call GCodeOf (hr.mono (by omega)) (by rfl) Z.DCodeOf.g Z.DCodeOf.F.kp Z.DCodeOf.b .nil pass0 (pa_cons (pv 4) (pa_cons (pv 1) pa_nil))) (pa_cons (pe_tup (pa_cons pe_str pa_nil)) pa_nil)))))
          (HM.pm_tag rfl scCodeOf.nd (.name (i := 4) rfl (.inl rfl) (by first | exact .inl rfl | exact .inr rfl) (.name (i := 5) rfl (.inl rfl) (by first | exact .inl rfl | exact .inr rfl) .nil)) (pss_one (ps_ret (pe_tup (StX.pa_star (pe_call GCodeOf (hr.mono (by omega)) (by rfl) Z.DCodeOf.g Z.DCodeOf.F.kp Z.DCodeOf.b .nil pass0 (pa_cons (pv 4) (pa_cons (pv 1) pa_nil))) (StX.pa_star (pe_call GCodeOf (hr.mono (by omega)) (by rfl) Z.DCodeOf.g Z.DCodeOf.F.kp Z.DCodeOf.b .nil pass0 (pa_cons (pv 5) (pa_cons (pv 1) pa_nil))) (pa_cons (pe_tup (pa_cons pe_str pa_nil)) pa_nil))))))
          (HM.pm_tag rfl scCodeOf.nd (.name (i := 6) rfl (.inl rfl) (by first | exact .inl rfl | exact .inr rfl) .nil) (pss_one (ps_ret (pe_tup (StX.pa_star (pe_call GCodeOfAll (hr.mono (by omega)) (by rfl) Z.DCodeOfAll.g Z.DCodeOfAll.F.kp Z.DCodeOfAll.b .nil pass0 (pa_cons (pv 6) (pa_cons (pv 1) pa_nil))) (pa_cons (pe_tup (pa_cons pe_str (pa_cons (pe_callB call_len_seq (by rfl) Z.len PySem.boot_len (pa_cons (pv 6) pa_nil)) pa_nil))) pa_nil)))))
          (HM.pm_tag rfl scCodeOf.nd (.name (i := 7) rfl (.inl rfl) (by first | exact .inl rfl | exact .inr rfl) (.name (i := 8) rfl (.inl rfl) (by first | exact .inl rfl | exact .inr rfl) .nil)) (pss_one (ps_ret (pe_tup (StX.pa_star (pe_call GCodeOfAll (hr.mono (by omega)) (by rfl) Z.DCodeOfAll.g Z.DCodeOfAll.F.kp Z.DCodeOfAll.b .nil pass0 (pa_cons (pv 8) (pa_cons (pv 1) pa_nil))) (pa_cons (pe_tup (pa_cons pe_str (pa_cons (pv 7) (pa_cons (pe_callB call_len_seq (by rfl) Z.len PySem.boot_len (pa_cons (pv 8) pa_nil)) pa_nil)))) pa_nil)))))
          (HM.pm_tag rfl scCodeOf.nd (.name (i := 2) rfl (.inl rfl) (by first | exact .inl rfl | exact .inr rfl) (.name (i := 8) rfl (.inl rfl) (by first | exact .inl rfl | exact .inr rfl) .nil)) (pss_one (ps_ret (pe_tup (StX.pa_star (pe_call GCodeOfAll (hr.mono (by omega)) (by rfl) Z.DCodeOfAll.g Z.DCodeOfAll.F.kp Z.DCodeOfAll.b .nil pass0 (pa_cons (pv 8) (pa_cons (pv 1) pa_nil))) (pa_cons (pe_tup (pa_cons pe_str (pa_cons (pv 2) (pa_cons (pe_callB call_len_seq (by rfl) Z.len PySem.boot_len (pa_cons (pv 8) pa_nil)) pa_nil)))) pa_nil)))))
          (HM.pm_tag rfl scCodeOf.nd (.name (i := 2) rfl (.inl rfl) (by first | exact .inl rfl | exact .inr rfl) (.name (i := 4) rfl (.inl rfl) (by first | exact .inl rfl | exact .inr rfl) (.name (i := 5) rfl (.inl rfl) (by first | exact .inl rfl | exact .inr rfl) .nil))) (pss_one (ps_ret (pe_tup (StX.pa_star (pe_call GCodeOf (hr.mono (by omega)) (by rfl) Z.DCodeOf.g Z.DCodeOf.F.kp Z.DCodeOf.b .nil pass0 (pa_cons (pv 4) (pa_cons (pv 1) pa_nil))) (pa_cons (pe_tup (pa_cons pe_str pa_nil)) (StX.pa_star (pe_call GCodeOf (hr.mono (by omega)) (by rfl) Z.DCodeOf.g Z.DCodeOf.F.kp Z.DCodeOf.b .nil pass0 (pa_cons (pv 5) (pa_cons (pe_tup (StX.pa_star (pv 1) (pa_cons (pv 2) pa_nil))) pa_nil))) (pa_cons (pe_tup (pa_cons pe_str (pa_cons pe_int pa_nil))) pa_nil)))))))
          (HM.pm_tag rfl scCodeOf.nd (.name (i := 9) rfl (.inl rfl) (by first | exact .inl rfl | exact .inr rfl) (.name (i := 10) rfl (.inl rfl) (by first | exact .inl rfl | exact .inr rfl) .nil)) (pss_one (ps_ret (pe_tup (StX.pa_star (pe_call GCodeOf (hr.mono (by omega)) (by rfl) Z.DCodeOf.g Z.DCodeOf.F.kp Z.DCodeOf.b .nil pass0 (pa_cons (pv 9) (pa_cons (pv 1) pa_nil))) (StX.pa_star (pe_call GCodeOfArms (hr.mono (by omega)) (by rfl) Z.DCodeOfArms.g Z.DCodeOfArms.F.kp Z.DCodeOfArms.b .nil pass0 (pa_cons (pv 10) (pa_cons (pv 1) pa_nil))) pa_nil)))))
          (HM.pm_wild (pss_one (ps_ret (pe_call GCodeOfChoice (hr.mono (by omega)) (by rfl) Z.DCodeOfChoice.g Z.DCodeOfChoice.F.kp Z.DCodeOfChoice.b .nil pass0 (pa_cons (pv 0) (pa_cons (pv 1) pa_nil))))))))))))))))), ?_⟩
    have hB := cB7 hn
    have hz : 1000000 ≤ sizeLine := by decide
    have he0 := he
    have ml := cB_succ n
    have m0 := code_len ns he
    cases e with
    | lit f z =>
      obtain ⟨hf, hl, t, rfl, ht⟩ := he
      have no : ∀ (y : Str) (m : Nat), y ≠ "number" ∧ y ≠ "text" ∧ y ≠ "bool" → ¬ (f = y ∧ [z].length = m) := fun y m hy h => by
        rcases hf with e | e | e
        · exact hy.1 (h.1.symm.trans e)
        · exact hy.2.1 (h.1.symm.trans e)
        · exact hy.2.2 (h.1.symm.trans e)
      refine ⟨_, rfl, t, f, [z], rfl, SqT.of ht, iteNo (no _ _ (by decide +kernel)) ⟨t, f, [z], rfl, SqT.of ht, iteNo (no _ _ (by decide +kernel)) ⟨t, f, [z], rfl, SqT.of ht, iteNo (no _ _ (by decide +kernel)) ⟨t, f, [z], rfl, SqT.of ht, iteNo (no _ _ (by decide +kernel)) ⟨t, f, [z], rfl, SqT.of ht, iteNo (no _ _ (by decide +kernel)) ⟨t, f, [z], rfl, SqT.of ht, iteNo (no _ _ (by decide +kernel)) ⟨t, f, [z], rfl, SqT.of ht, iteNo (no _ _ (by decide +kernel)) ⟨t, f, [z], rfl, SqT.of ht, iteNo (no _ _ (by decide +kernel)) ⟨t, f, [z], rfl, SqT.of ht, iteNo (no _ _ (by decide +kernel)) ?_⟩⟩⟩⟩⟩⟩⟩⟩⟩
      exact ⟨_, rfl, _, rfl, .ref t, v, .lit f z, ns, rfl, he0, trivial, hN, hns, qq⟩
    | name z =>
      obtain ⟨t, rfl, ht⟩ := he
      refine ⟨_, rfl, t, "name", [.str z], rfl, SqT.of ht, iteYes ⟨rfl, rfl⟩ ?_⟩
      exact ⟨_, rfl, _, rfl, z, v, ns, rfl, hN, fun T H1 s1 hT hT1 => ⟨by show 1 ≤ sizeLine; decide, ret_new qq s1 (ca1 (name_at hT1))⟩⟩
    | bin op a b =>
      obtain ⟨hop, t, u, y, rfl, ht, ha, hb⟩ := he
      refine ⟨_, rfl, t, "binary", [.str op, u, y], rfl, SqT.of ht, iteNo (fun h => absurd h.1 (by decide +kernel)) ⟨t, "binary", [.str op, u, y], rfl, SqT.of ht, iteYes ⟨rfl, rfl⟩ ?_⟩⟩
      refine ⟨_, rfl, _, rfl, _, rfl, u, v, a, ns, rfl, ha, hN, by omega, fun t1 H1 w1 s1 ht1 hc1 => ?_⟩
      refine ⟨_, rfl, _, rfl, y, v, b, ns, rfl, hb.keep (TupK.of s1), hN.same s1, by omega, fun t2 H2 w2 s2 ht2 hc2 => ?_⟩
      have m1 := code_len ns ha
      have m2 := code_len ns hb
      exact ⟨op, t1, t2, w1, w2, _, _, rfl, hop, s2 _ _ ht1, ht2, hc1.keep (TupK.of s2), hc2, by omega, by omega, qq.same (Same.tr s1 s2)⟩
    | neg a =>
      obtain ⟨t, u, rfl, ht, ha⟩ := he
      refine ⟨_, rfl, t, "not", [u], rfl, SqT.of ht, iteNo (fun h => absurd h.1 (by decide +kernel)) ⟨t, "not", [u], rfl, SqT.of ht, iteNo (fun h => absurd h.1 (by decide +kernel)) ⟨t, "not", [u], rfl, SqT.of ht, iteYes ⟨rfl, rfl⟩ ?_⟩⟩⟩
      refine ⟨_, rfl, _, rfl, u, v, a, ns, rfl, ha, hN, by omega, fun t1 H1 w1 s1 ht1 hc1 => ⟨t1, w1, rfl, .inl (SqT.of ht1), by show 1 ≤ sizeLine; decide, fun T hT => ?_⟩⟩
      have m1 := code_len ns ha
      have l1 := ca_len hc1
      have s2 : Same H1 (upd H1 T (.tup [.str "not"])) := same_upd hT
      have g2 : upd H1 T (.tup [.str "not"]) T = some (.tup [.str "not"]) := upd_same
      generalize upd H1 T (.tup [.str "not"]) = H2 at s2 g2
      exact ⟨by simp only [List.length_append, List.length_cons, List.length_nil]; omega, ret_new qq (Same.tr s1 s2) ((hc1.keep (TupK.of s2)).app (ca1 (i := .plain "not" []) ⟨T, rfl, g2⟩))⟩
    | cons a b =>
      obtain ⟨t, u, y, rfl, ht, ha, hb⟩ := he
      refine ⟨_, rfl, t, "cons", [u, y], rfl, SqT.of ht, iteNo (fun h => absurd h.1 (by decide +kernel)) ⟨t, "cons", [u, y], rfl, SqT.of ht, iteNo (fun h => absurd h.1 (by decide +kernel)) ⟨t, "cons", [u, y], rfl, SqT.of ht, iteNo (fun h => absurd h.1 (by decide +kernel)) ⟨t, "cons", [u, y], rfl, SqT.of ht, iteYes ⟨rfl, rfl⟩ ?_⟩⟩⟩⟩
      refine ⟨_, rfl, _, rfl, u, v, a, ns, rfl, ha, hN, by omega, fun t1 H1 w1 s1 ht1 hc1 => ⟨t1, w1, rfl, .inl (SqT.of ht1), ?_⟩⟩
      refine ⟨_, rfl, _, rfl, y, v, b, ns, rfl, hb.keep (TupK.of s1), hN.same s1, by omega, fun t2 H2 w2 s2 ht2 hc2 => ⟨t2, w2, rfl, .inl (SqT.of ht2), by show 1 ≤ sizeLine; decide, fun T hT => ?_⟩⟩
      have m1 := code_len ns ha
      have m2 := code_len ns hb
      have l1 := ca_len hc1
      have l2 := ca_len hc2
      have s3 : Same H2 (upd H2 T (.tup [.str "pair"])) := same_upd hT
      have g3 : upd H2 T (.tup [.str "pair"]) T = some (.tup [.str "pair"]) := upd_same
      generalize upd H2 T (.tup [.str "pair"]) = H3 at s3 g3
      refine ⟨by simp only [List.length_append, List.length_cons, List.length_nil]; omega, ret_new qq (Same.tr (Same.tr s1 s2) s3) ?_⟩
      have r := ((hc1.keep (TupK.of (Same.tr s2 s3))).app (hc2.keep (TupK.of s3))).app (ca1 (i := .plain "pair" []) ⟨T, rfl, g3⟩)
      rw [List.append_assoc] at r
      exact r
    | list es =>
      obtain ⟨t, q, us, rfl, ht, hq, hl, ha⟩ := he
      refine ⟨_, rfl, t, "list", [.ref q], rfl, SqT.of ht, iteNo (fun h => absurd h.1 (by decide +kernel)) ⟨t, "list", [.ref q], rfl, SqT.of ht, iteNo (fun h => absurd h.1 (by decide +kernel)) ⟨t, "list", [.ref q], rfl, SqT.of ht, iteNo (fun h => absurd h.1 (by decide +kernel)) ⟨t, "list", [.ref q], rfl, SqT.of ht, iteNo (fun h => absurd h.1 (by decide +kernel)) ⟨t, "list", [.ref q], rfl, SqT.of ht, iteYes ⟨rfl, rfl⟩ ?_⟩⟩⟩⟩⟩
      refine ⟨_, rfl, _, rfl, q, v, us, es, ns, rfl, hq, hl, ha, hN, by omega, fun t1 H1 w1 s1 ht1 hc1 => ⟨t1, w1, rfl, .inl (SqT.of ht1), ?_⟩⟩
      refine ⟨_, rfl, q, us, rfl, .inr (SqT.of (s1 _ _ hq)), by show 2 ≤ sizeLine; decide, fun T hT => ?_⟩
      have l1 := ca_len hc1
      have l0 : ((es.map fun e => code n e ns).flatten ++ [Ins.plain "list" [vi es.length]]).length ≤ cB (n + 1) := m0
      have s2 : Same H1 (upd H1 T (.tup [.str "list", .int (us.length : Int)])) := same_upd hT
      have g2 : upd H1 T (.tup [.str "list", .int (us.length : Int)]) T = some (.tup [.str "list", vi es.length]) := by rw [upd_same, ha.len] <;> rfl
      generalize upd H1 T (.tup [.str "list", .int (us.length : Int)]) = H2 at s2 g2
      rw [List.length_append] at l0
      exact ⟨by rw [List.length_append, l1]; show _ + 1 ≤ _; omega, ret_new qq (Same.tr s1 s2) ((hc1.keep (TupK.of s2)).app (ca1 (i := .plain "list" [vi es.length]) ⟨T, rfl, g2⟩))⟩
    | make f es =>
      obtain ⟨t, q, us, rfl, ht, hq, hl, ha⟩ := he
      refine ⟨_, rfl, t, "make", [.str f, .ref q], rfl, SqT.of ht, iteNo (fun h => absurd h.1 (by decide +kernel)) ⟨t, "make", [.str f, .ref q], rfl, SqT.of ht, iteNo (fun h => absurd h.1 (by decide +kernel)) ⟨t, "make", [.str f, .ref q], rfl, SqT.of ht, iteNo (fun h => absurd h.1 (by decide +kernel)) ⟨t, "make", [.str f, .ref q], rfl, SqT.of ht, iteNo (fun h => absurd h.1 (by decide +kernel)) ⟨t, "make", [.str f, .ref q], rfl, SqT.of ht, iteNo (fun h => absurd h.1 (by decide +kernel)) ⟨t, "make", [.str f, .ref q], rfl, SqT.of ht, iteYes ⟨rfl, rfl⟩ ?_⟩⟩⟩⟩⟩⟩
      refine ⟨_, rfl, _, rfl, q, v, us, es, ns, rfl, hq, hl, ha, hN, by omega, fun t1 H1 w1 s1 ht1 hc1 => ⟨t1, w1, rfl, .inl (SqT.of ht1), ?_⟩⟩
      refine ⟨_, rfl, _, rfl, q, us, rfl, .inr (SqT.of (s1 _ _ hq)), by show 3 ≤ sizeLine; decide, fun T hT => ?_⟩
      have l1 := ca_len hc1
      have l0 : ((es.map fun e => code n e ns).flatten ++ [Ins.plain "make" [.str f, vi es.length]]).length ≤ cB (n + 1) := m0
      have s2 : Same H1 (upd H1 T (.tup [.str "make", .str f, .int (us.length : Int)])) := same_upd hT
      have g2 : upd H1 T (.tup [.str "make", .str f, .int (us.length : Int)]) T = some (.tup [.str "make", .str f, vi es.length]) := by rw [upd_same, ha.len] <;> rfl
      generalize upd H1 T (.tup [.str "make", .str f, .int (us.length : Int)]) = H2 at s2 g2
      rw [List.length_append] at l0
      exact ⟨by rw [List.length_append, l1]; show _ + 1 ≤ _; omega, ret_new qq (Same.tr s1 s2) ((hc1.keep (TupK.of s2)).app (ca1 (i := .plain "make" [.str f, vi es.length]) ⟨T, rfl, g2⟩))⟩
    | call f es =>
      obtain ⟨t, q, us, rfl, ht, hq, hl, ha⟩ := he
      refine ⟨_, rfl, t, "call", [.str f, .ref q], rfl, SqT.of ht, iteNo (fun h => absurd h.1 (by decide +kernel)) ⟨t, "call", [.str f, .ref q], rfl, SqT.of ht, iteNo (fun h => absurd h.1 (by decide +kernel)) ⟨t, "call", [.str f, .ref q], rfl, SqT.of ht, iteNo (fun h => absurd h.1 (by decide +kernel)) ⟨t, "call", [.str f, .ref q], rfl, SqT.of ht, iteNo (fun h => absurd h.1 (by decide +kernel)) ⟨t, "call", [.str f, .ref q], rfl, SqT.of ht, iteNo (fun h => absurd h.1 (by decide +kernel)) ⟨t, "call", [.str f, .ref q], rfl, SqT.of ht, iteNo (fun h => absurd h.1 (by decide +kernel)) ⟨t, "call", [.str f, .ref q], rfl, SqT.of ht, iteYes ⟨rfl, rfl⟩ ?_⟩⟩⟩⟩⟩⟩⟩
      refine ⟨_, rfl, _, rfl, q, v, us, es, ns, rfl, hq, hl, ha, hN, by omega, fun t1 H1 w1 s1 ht1 hc1 => ⟨t1, w1, rfl, .inl (SqT.of ht1), ?_⟩⟩
      refine ⟨_, rfl, _, rfl, q, us, rfl, .inr (SqT.of (s1 _ _ hq)), by show 3 ≤ sizeLine; decide, fun T hT => ?_⟩
      have l1 := ca_len hc1
      have l0 : ((es.map fun e => code n e ns).flatten ++ [Ins.plain "call" [.str f, vi es.length]]).length ≤ cB (n + 1) := m0
      have s2 : Same H1 (upd H1 T (.tup [.str "call", .str f, .int (us.length : Int)])) := same_upd hT
      have g2 : upd H1 T (.tup [.str "call", .str f, .int (us.length : Int)]) T = some (.tup [.str "call", .str f, vi es.length]) := by rw [upd_same, ha.len] <;> rfl
      generalize upd H1 T (.tup [.str "call", .str f, .int (us.length : Int)]) = H2 at s2 g2
      rw [List.length_append] at l0
      exact ⟨by rw [List.length_append, l1]; show _ + 1 ≤ _; omega, ret_new qq (Same.tr s1 s2) ((hc1.keep (TupK.of s2)).app (ca1 (i := .plain "call" [.str f, vi es.length]) ⟨T, rfl, g2⟩))⟩
    | lt z a b =>
      obtain ⟨t, u, y, rfl, ht, ha, hb⟩ := he
      refine ⟨_, rfl, t, "let", [.str z, u, y], rfl, SqT.of ht, iteNo (fun h => absurd h.1 (by decide +kernel)) ⟨t, "let", [.str z, u, y], rfl, SqT.of ht, iteNo (fun h => absurd h.1 (by decide +kernel)) ⟨t, "let", [.str z, u, y], rfl, SqT.of ht, iteNo (fun h => absurd h.1 (by decide +kernel)) ⟨t, "let", [.str z, u, y], rfl, SqT.of ht, iteNo (fun h => absurd h.1 (by decide +kernel)) ⟨t, "let", [.str z, u, y], rfl, SqT.of ht, iteNo (fun h => absurd h.1 (by decide +kernel)) ⟨t, "let", [.str z, u, y], rfl, SqT.of ht, iteNo (fun h => absurd h.1 (by decide +kernel)) ⟨t, "let", [.str z, u, y], rfl, SqT.of ht, iteNo (fun h => absurd h.1 (by decide +kernel)) ⟨t, "let", [.str z, u, y], rfl, SqT.of ht, iteYes ⟨rfl, rfl⟩ ?_⟩⟩⟩⟩⟩⟩⟩⟩
      refine ⟨_, rfl, _, rfl, u, v, a, ns, rfl, ha, hN, by omega, fun t1 H1 w1 s1 ht1 hc1 => ⟨t1, w1, rfl, .inl (SqT.of ht1), by show 1 ≤ sizeLine; decide, fun T hT => ?_⟩⟩
      have s2 : Same H1 (upd H1 T (.tup [.str "keep"])) := same_upd hT
      have g2 : upd H1 T (.tup [.str "keep"]) T = some (.tup [.str "keep"]) := upd_same
      generalize upd H1 T (.tup [.str "keep"]) = H2 at s2 g2
      have s02 := Same.tr s1 s2
      obtain ⟨nv, rfl, hnv⟩ := hN.same s02
      refine ⟨_, rfl, _, rfl, nv, _, rfl, hnv.symm, _, rfl, by simp only [List.length_append, List.length_map, List.length_cons, List.length_nil]; omega, fun N hNn => ?_⟩
      have sN : Same H2 (upd H2 N (.tup (ns.map V.str ++ [.str z]))) := same_upd hNn
      have gN : upd H2 N (.tup (ns.map V.str ++ [.str z])) N = some (.tup ((ns ++ [z]).map V.str)) := by rw [upd_same, List.map_append] <;> rfl
      generalize upd H2 N (.tup (ns.map V.str ++ [.str z])) = H2n at sN gN
      have s0n := Same.tr s02 sN
      refine ⟨y, .ref N, b, ns ++ [z], rfl, hb.keep (TupK.of s0n), ⟨N, rfl, .inr (SqT.of gN)⟩, by rw [List.length_append]; show ns.length + 1 + 2 * n ≤ 1000; omega, fun t3 H3 w3 s3 ht3 hc3 => ⟨t3, w3, rfl, .inl (SqT.of ht3), by show 2 ≤ sizeLine; decide, fun T2 hT2 => ?_⟩⟩
      have m1 := code_len ns ha
      have m2 := code_len (ns ++ [z]) hb
      have l1 := ca_len hc1
      have l2 := ca_len hc3
      have s4 : Same H3 (upd H3 T2 (.tup [.str "leave", .int 1])) := same_upd hT2
      have g4 : upd H3 T2 (.tup [.str "leave", .int 1]) T2 = some (.tup [.str "leave", .int 1]) := upd_same
      generalize upd H3 T2 (.tup [.str "leave", .int 1]) = H4 at s4 g4
      have s24 := Same.tr (Same.tr sN s3) s4
      refine ⟨by simp only [List.length_append, List.length_cons, List.length_nil]; omega, ret_new qq (Same.tr (Same.tr s0n s3) s4) ?_⟩
      have r := (((hc1.keep (TupK.of (Same.tr s2 s24))).app (ca1 (i := .plain "keep" []) ⟨T, rfl, s24 _ _ g2⟩)).app (hc3.keep (TupK.of s4))).app (ca1 (i := .plain "leave" [.int 1]) ⟨T2, rfl, g4⟩)
      simp only [List.append_assoc, List.cons_append, List.nil_append] at r ⊢
      exact cast (by simp only [code, List.append_assoc, List.cons_append, List.nil_append]) r
    | mat a arms =>
      obtain ⟨t, u, q, us, rfl, ht, hq, hl, ha, hm⟩ := he
      refine ⟨_, rfl, t, "match", [u, .ref q], rfl, SqT.of ht, iteNo (fun h => absurd h.1 (by decide +kernel)) ⟨t, "match", [u, .ref q], rfl, SqT.of ht, iteNo (fun h => absurd h.1 (by decide +kernel)) ⟨t, "match", [u, .ref q], rfl, SqT.of ht, iteNo (fun h => absurd h.1 (by decide +kernel)) ⟨t, "match", [u, .ref q], rfl, SqT.of ht, iteNo (fun h => absurd h.1 (by decide +kernel)) ⟨t, "match", [u, .ref q], rfl, SqT.of ht, iteNo (fun h => absurd h.1 (by decide +kernel)) ⟨t, "match", [u, .ref q], rfl, SqT.of ht, iteNo (fun h => absurd h.1 (by decide +kernel)) ⟨t, "match", [u, .ref q], rfl, SqT.of ht, iteNo (fun h => absurd h.1 (by decide +kernel)) ⟨t, "match", [u, .ref q], rfl, SqT.of ht, iteNo (fun h => absurd h.1 (by decide +kernel)) ⟨t, "match", [u, .ref q], rfl, SqT.of ht, iteYes ⟨rfl, rfl⟩ ?_⟩⟩⟩⟩⟩⟩⟩⟩⟩
      refine ⟨_, rfl, _, rfl, u, v, a, ns, rfl, ha, hN, by omega, fun t1 H1 w1 s1 ht1 hc1 => ⟨t1, w1, rfl, .inl (SqT.of ht1), ?_⟩⟩
      refine ⟨_, rfl, _, rfl, q, v, us, arms, ns, rfl, s1 _ _ hq, hl.2, hm.mono (fun x y h => (show ArmAt H n x y from h).keep (TupK.of s1)), hN.same s1, by omega, fun t2 H2 w2 s2 ht2 hc2 => ⟨t2, w2, rfl, .inl (SqT.of ht2), ?_⟩⟩
      have l1 := ca_len hc1
      have l2 := ca_len hc2
      have m1 : (code n a ns ++ ([Ins.pick (choices 0 (bks n ns arms))] ++ blocks (bks n ns arms))).length ≤ cB (n + 1) := m0
      rw [List.length_append] at m1
      refine ⟨by rw [List.append_nil, List.length_append, l1, l2]; omega, ret_new qq (Same.tr s1 s2) ?_⟩
      rw [List.append_nil]
      exact (hc1.keep (TupK.of s2)).app hc2
    | ife a b c =>
      obtain ⟨t, u, y, z, rfl, ht, ha, hb, hc⟩ := he
      refine ⟨_, rfl, t, "if", [u, y, z], rfl, SqT.of ht, iteNo (fun h => absurd h.1 (by decide +kernel)) ⟨t, "if", [u, y, z], rfl, SqT.of ht, iteNo (fun h => absurd h.1 (by decide +kernel)) ⟨t, "if", [u, y, z], rfl, SqT.of ht, iteNo (fun h => absurd h.1 (by decide +kernel)) ⟨t, "if", [u, y, z], rfl, SqT.of ht, iteNo (fun h => absurd h.1 (by decide +kernel)) ⟨t, "if", [u, y, z], rfl, SqT.of ht, iteNo (fun h => absurd h.1 (by decide +kernel)) ⟨t, "if", [u, y, z], rfl, SqT.of ht, iteNo (fun h => absurd h.1 (by decide +kernel)) ⟨t, "if", [u, y, z], rfl, SqT.of ht, iteNo (fun h => absurd h.1 (by decide +kernel)) ⟨t, "if", [u, y, z], rfl, SqT.of ht, iteNo (fun h => absurd h.1 (by decide +kernel)) ⟨t, "if", [u, y, z], rfl, SqT.of ht, iteNo (fun h => absurd h.1 (by decide +kernel)) ?_⟩⟩⟩⟩⟩⟩⟩⟩⟩
      exact ⟨_, rfl, _, rfl, .ref t, v, .ife a b c, ns, rfl, he0, trivial, hN, hns, qq⟩
    | split a b p q c =>
      obtain ⟨t, u, y, z, rfl, ht, ha, hb, hc⟩ := he
      refine ⟨_, rfl, t, "split", [u, y, .str p, .str q, z], rfl, SqT.of ht, iteNo (fun h => absurd h.1 (by decide +kernel)) ⟨t, "split", [u, y, .str p, .str q, z], rfl, SqT.of ht, iteNo (fun h => absurd h.1 (by decide +kernel)) ⟨t, "split", [u, y, .str p, .str q, z], rfl, SqT.of ht, iteNo (fun h => absurd h.1 (by decide +kernel)) ⟨t, "split", [u, y, .str p, .str q, z], rfl, SqT.of ht, iteNo (fun h => absurd h.1 (by decide +kernel)) ⟨t, "split", [u, y, .str p, .str q, z], rfl, SqT.of ht, iteNo (fun h => absurd h.1 (by decide +kernel)) ⟨t, "split", [u, y, .str p, .str q, z], rfl, SqT.of ht, iteNo (fun h => absurd h.1 (by decide +kernel)) ⟨t, "split", [u, y, .str p, .str q, z], rfl, SqT.of ht, iteNo (fun h => absurd h.1 (by decide +kernel)) ⟨t, "split", [u, y, .str p, .str q, z], rfl, SqT.of ht, iteNo (fun h => absurd h.1 (by decide +kernel)) ⟨t, "split", [u, y, .str p, .str q, z], rfl, SqT.of ht, iteNo (fun h => absurd h.1 (by decide +kernel)) ?_⟩⟩⟩⟩⟩⟩⟩⟩⟩
      exact ⟨_, rfl, _, rfl, .ref t, v, .split a b p q c, ns, rfl, he0, trivial, hN, hns, qq⟩
theorem ok_code {k : Nat} (Z : Defs K mg) {es : Array DictEntry} {nD : Nat} (DK : KDict K w Z.aD es nD) : ∀ n, n ≤ 8 → FnOk P w K mg base CX0 (k + 2 * n + 1) Z.fCodeOf Z.fdCodeOf ["e", "names"] (spCode K n)
  | 0, _ => code_zero Z
  | n + 1, h => code_step (k := k + 2 * n) (by omega) Z DK (ok_code Z DK n (by omega))
end
end Q33
namespace Q33
open PySem PySem.Spec PyProof.Rows L2 SX HL
/-! ### definitions -/
inductive Df
  | fn (ns : List Str) (e : Ex)
  | view (e : Ex)
  | act (ns : List Str) (sets : List Ex) (e : Ex)
def Df.ns : Df → List Str
  | .fn ns _ => ns
  | .view _ => []
  | .act ns _ _ => ns
def Df.es : Df → List Ex
  | .fn _ e => [e]
  | .view e => [e]
  | .act _ sets e => sets ++ [e]
def SetAt (H : Hp) (n : Nat) (y : V) (e : Ex) : Prop := ∃ c z u, y = .ref c ∧ H c = some (.tup [z, u]) ∧ ExAt H n e u
def DfAt (H : Hp) (n : Nat) : Df → V → Prop
  | .fn ns e, x => ∃ t z q u, x = .ref t ∧ H t = some (.tup [.str "fun", z, .ref q, u]) ∧ H q = some (.tup (ns.map V.str)) ∧ ExAt H n e u
  | .view e, x => ∃ t z u, x = .ref t ∧ H t = some (.tup [.str "view", z, u]) ∧ ExAt H n e u
  | .act ns sets e, x => ∃ t z q r ss u, x = .ref t ∧ H t = some (.tup [.str "act", z, .ref q, .ref r, u]) ∧ H q = some (.tup (ns.map V.str)) ∧ H r = some (.tup ss) ∧ ss.length ≤ 2 ∧ All2 (SetAt H n) ss sets ∧ ExAt H n e u
theorem DfAt.keep {H H' : Hp} {n : Nat} {d : Df} {x : V} (h : DfAt H n d x) (k : TupK H H') : DfAt H' n d x := by
  cases d with
  | fn ns e =>
    obtain ⟨t, z, q, u, e1, h1, h2, h3⟩ := h
    exact ⟨t, z, q, u, e1, k _ _ h1, k _ _ h2, h3.keep k⟩
  | view e =>
    obtain ⟨t, z, u, e1, h1, h3⟩ := h
    exact ⟨t, z, u, e1, k _ _ h1, h3.keep k⟩
  | act ns sets e =>
    obtain ⟨t, z, q, r, ss, u, e1, h1, h2, h3, h4, h5, h6⟩ := h
    exact ⟨t, z, q, r, ss, u, e1, k _ _ h1, k _ _ h2, k _ _ h3, h4, h5.mono fun y e ⟨c, z, u, e1, h1, h2⟩ => ⟨c, z, u, e1, k _ _ h1, h2.keep k⟩, h6.keep k⟩
/-- codes in a tuple -/
def CdAt (H : Hp) (v : V) (c : List Ins) : Prop := ∃ t ws, v = .ref t ∧ H t = some (.tup ws) ∧ CodeAt H ws c
theorem CdAt.keep {H H' : Hp} {v : V} {c : List Ins} (h : CdAt H v c) (k : TupK H H') : CdAt H' v c := by
  obtain ⟨t, ws, e, h1, h2⟩ := h
  exact ⟨t, ws, e, k _ _ h1, h2.keep k⟩
theorem cdk {H H' : Hp} {us : List V} {cs : List (List Ins)} (h : All2 (CdAt H) us cs) (k : TupK H H') : All2 (CdAt H') us cs := h.mono fun _ _ r => r.keep k
section
variable {P : Program} {w : World} {K : PySem.W.Frag} {mg : Str → Option Value} {base : Heap}
def spExprs (n : Nat) : Sp := fun vs H Q _ => ∃ (x : V) (d : Df), vs = [x] ∧ DfAt H n d x ∧ ∀ t H' us, Same H H' → H' t = some (.tup us) → us.length ≤ 3 → All2 (fun u e => ExAt H' n e u) us d.es → Q (.ref t) H'
theorem ok_expressions {k n : Nat} (Z : Defs K mg) : FnOk P w K mg base CX0 (k + 1) Z.fExpressions Z.fdExpressions ["definition"] (spExprs n) := by
  refine Z.DExpressions.F.ok scExpressions (fun vs H Q E h => ?_) (fun cdv A outer s H vs Q E hr h => ?_)
  · obtain ⟨x, d, rfl, _⟩ := h
    rfl
  · obtain ⟨x, d, rfl, hd, qq⟩ := h
    refine ⟨_, (pss_cons (HM.ps_match (pv 0) (HM.pm_tag rfl scExpressions.nd (.wild (.wild (.name (i := 1) rfl (.inl rfl) (by first | exact .inl rfl | exact .inr rfl) .nil))) (pss_one (ps_ret (pe_tup (pa_cons (pv 1) pa_nil))))
          (HM.pm_tag rfl scExpressions.nd (.wild (.wild (.name (i := 1) rfl (.inl rfl) (by first | exact .inl rfl | exact .inr rfl) (.wild .nil)))) (pss_one (ps_ret (pe_tup (pa_cons (pv 1) pa_nil))))
          (HM.pm_tag rfl scExpressions.nd (.wild (.name (i := 1) rfl (.inl rfl) (by first | exact .inl rfl | exact .inr rfl) .nil)) (pss_one (ps_ret (pe_tup (pa_cons (pv 1) pa_nil))))
          (HM.pm_tag rfl scExpressions.nd (.wild (.wild (.name (i := 2) rfl (.inl rfl) (by first | exact .inl rfl | exact .inr rfl) (.name (i := 1) rfl (.inl rfl) (by first | exact .inl rfl | exact .inr rfl) .nil)))) (pss_one (ps_ret (pe_tup (StX.pa_star (pe_lc (own := [("setting", 3)]) (g := (gName 3)) (by rfl) scExpressions.nd (HK.pi_tupK (K := K) rfl (pv 2)) (blkOk_by (own := [("setting", 3)]) (N := ["definition", "e", "settings", "setting"]) (sc := defScope sExpressions) (by decide +kernel)) (fun _ _ _ _ _ => (pg_name (i := 3) scExpressions.nd rfl (Or.inl rfl))) (fun _ _ _ _ _ => pts_nil) (fun _ _ _ _ _ => (pe_ix (HL.ix_tupK (K := K) rfl) (pv 3) pe_int (fun _ _ => rfl)))) (pa_cons (pv 1) pa_nil)))))
          HM.pm_nil)))))
        (pss_one (ps_ret (pe_tup pa_nil)))), ?_⟩
    cases d with
    | fn ns e =>
      obtain ⟨t, z, q, u, rfl, ht, hq, he⟩ := hd
      refine ⟨_, rfl, t, "fun", [z, .ref q, u], rfl, SqT.of ht, iteYes ⟨rfl, rfl⟩ ?_⟩
      refine ⟨_, rfl, by show 1 ≤ sizeLine; decide, fun T hT => qq T _ [u] (same_upd hT) upd_same (by show 1 ≤ 3; decide) (.one (he.keep (TupK.of (same_upd hT))))⟩
    | view e =>
      obtain ⟨t, z, u, rfl, ht, he⟩ := hd
      refine ⟨_, rfl, t, "view", [z, u], rfl, SqT.of ht, iteNo (fun h => absurd h.1 (by decide +kernel)) ⟨t, "view", [z, u], rfl, SqT.of ht, iteNo (fun h => absurd h.1 (by decide +kernel)) ⟨t, "view", [z, u], rfl, SqT.of ht, iteYes ⟨rfl, rfl⟩ ?_⟩⟩⟩
      refine ⟨_, rfl, by show 1 ≤ sizeLine; decide, fun T hT => qq T _ [u] (same_upd hT) upd_same (by show 1 ≤ 3; decide) (.one (he.keep (TupK.of (same_upd hT))))⟩
    | act ns sets e =>
      obtain ⟨t, z, q, r, ss, u, rfl, ht, hq, hr2, hl, hs, he⟩ := hd
      refine ⟨_, rfl, t, "act", [z, .ref q, .ref r, u], rfl, SqT.of ht, iteNo (fun h => absurd h.1 (by decide +kernel)) ⟨t, "act", [z, .ref q, .ref r, u], rfl, SqT.of ht, iteNo (fun h => absurd h.1 (by decide +kernel)) ⟨t, "act", [z, .ref q, .ref r, u], rfl, SqT.of ht, iteNo (fun h => absurd h.1 (by decide +kernel)) ⟨t, "act", [z, .ref q, .ref r, u], rfl, SqT.of ht, iteYes ⟨rfl, rfl⟩ ?_⟩⟩⟩⟩
      refine ⟨_, rfl, r, rfl, ⟨ss, SqT.of hr2⟩, fun D hD => ?_⟩
      refine lc_it walk_tup (fun i H' => Same H H' ∧ ∃ acc, H' D = some (.lst acc) ∧ All2 (fun u e => ExAt H' n e u) acc (sets.take i)) ⟨same_upd hD, [], upd_same, .nil⟩ (fun i H' _ p => SqT.of (p.1 _ _ hr2)) ?_ ?_
      · rintro i x H0 H1 hi ⟨s1, acc, hD1, hacc⟩ ⟨rfl, hx⟩
        obtain ⟨e', he', c, z', u', rfl, hc, hu'⟩ := hs.get hx
        have k1 := tk_lst (o := .lst (acc ++ [u'])) hD1
        refine ⟨rfl, lc_yes ⟨_, rfl, c, _, 1, _, rfl, rfl, SqT.of (s1 _ _ hc), rfl, acc, hD1, ?_, fun b o hb => ?_, _, upd_same, ?_⟩⟩
        · have := hacc.len
          rw [List.length_take] at this
          have : 3 ≤ sizeLine := by decide
          omega
        · rw [upd_ne (ne_of_none hb hD)]
          exact s1 _ _ hb
        · rw [List.take_add_one, he']
          exact (hacc.mono fun x y h => h.keep k1).app (.one (hu'.keep ((TupK.of s1).tr k1)))
      · rintro H1 ⟨s1, acc, hD1, hacc⟩
        rw [hs.len, List.take_length] at hacc
        have hal : acc.length ≤ 2 := by rw [hacc.len, ← hs.len]; exact hl
        refine ⟨D, acc, rfl, .inr (SqL.of hD1), _, rfl, ?_, fun T hT => ?_⟩
        · have : 3 ≤ sizeLine := by decide
          rw [List.length_append]
          show acc.length + 1 ≤ _
          omega
        · have k2 := TupK.of (same_upd (o := .tup (acc ++ [u])) hT)
          exact qq T _ (acc ++ [u]) (Same.tr s1 (same_upd hT)) upd_same (by rw [List.length_append]; show acc.length + 1 ≤ 3; omega) ((hacc.mono fun x y h => h.keep k2).app (.one (he.keep ((TupK.of s1).tr k2))))
def spParams (n : Nat) : Sp := fun vs H Q _ => ∃ (x : V) (d : Df), vs = [x] ∧ DfAt H n d x ∧ ∀ t H', Same H H' → H' t = some (.tup (d.ns.map V.str)) → Q (.ref t) H'
theorem ok_parameters {k n : Nat} (Z : Defs K mg) : FnOk P w K mg base CX0 (k + 1) Z.fParameters Z.fdParameters ["definition"] (spParams n) := by
  refine Z.DParameters.F.ok scParameters (fun vs H Q E h => ?_) (fun cdv A outer s H vs Q E hr h => ?_)
  · obtain ⟨x, d, rfl, _⟩ := h
    rfl
  · obtain ⟨x, d, rfl, hd, qq⟩ := h
    refine ⟨_, (pss_one (ps_ret (pe_ifExp (pt_cmpR op_in_seq (pe_ix ix_tup (pv 0) pe_int (fun _ _ => rfl)) (pe_tup (pa_cons pe_str (pa_cons pe_str pa_nil))) rfl) (pe_ix ix_tup (pv 0) pe_int (fun _ _ => rfl)) (pe_tup pa_nil)))), ?_⟩
    cases d with
    | fn ns e =>
      obtain ⟨t, z, q, u, rfl, ht, hq, he⟩ := hd
      refine ⟨_, rfl, t, _, 0, _, rfl, rfl, SqT.of ht, rfl, by show 2 ≤ sizeLine; decide, fun T hT => ⟨T, _, rfl, .inr (SqT.of upd_same), rfl, rfl, _, rfl, iteYes (by decide +kernel) ?_⟩⟩
      exact ⟨_, rfl, t, _, 2, _, rfl, rfl, SqT.of (same_upd hT _ _ ht), rfl, qq q _ (same_upd hT) (same_upd hT _ _ hq)⟩
    | view e =>
      obtain ⟨t, z, u, rfl, ht, he⟩ := hd
      refine ⟨_, rfl, t, _, 0, _, rfl, rfl, SqT.of ht, rfl, by show 2 ≤ sizeLine; decide, fun T hT => ⟨T, _, rfl, .inr (SqT.of upd_same), rfl, rfl, _, rfl, iteNo (by decide +kernel) ?_⟩⟩
      exact ⟨Nat.zero_le _, fun T2 hT2 => qq T2 _ (Same.tr (same_upd hT) (same_upd hT2)) upd_same⟩
    | act ns sets e =>
      obtain ⟨t, z, q, r, ss, u, rfl, ht, hq, hr2, hl, hs, he⟩ := hd
      refine ⟨_, rfl, t, _, 0, _, rfl, rfl, SqT.of ht, rfl, by show 2 ≤ sizeLine; decide, fun T hT => ⟨T, _, rfl, .inr (SqT.of upd_same), rfl, rfl, _, rfl, iteYes (by decide +kernel) ?_⟩⟩
      exact ⟨_, rfl, t, _, 2, _, rfl, rfl, SqT.of (same_upd hT _ _ ht), rfl, qq q _ (same_upd hT) (same_upd hT _ _ hq)⟩
def spDef (n : Nat) : Sp := fun vs H Q _ => ∃ (x : V), vs = [x] ∧
  ((∃ d : Df, DfAt H n d x ∧ d.ns.length + 2 * n ≤ 1000 ∧ ∀ t H' us, Same H H' → H' t = some (.tup us) → All2 (CdAt H') us (d.es.map fun e => code n e d.ns) → Q (.ref t) H') ∨
   (∃ t y xs, x = .ref t ∧ H t = some (.tup (.str y :: xs)) ∧ (y = "cell" ∨ y = "data") ∧ ∀ H', Same H H' → Q .non H'))
theorem ok_definition {k n : Nat} (Z : Defs K mg) (GCodeOf' : FnOk P w K mg base CX0 (k + 1) Z.fCodeOf Z.fdCodeOf ["e", "names"] (spCode K n)) : FnOk P w K mg base CX0 (k + 2) Z.fDefinitionCode Z.fdDefinitionCode ["definition"] (spDef n) := by
  have GCodeOf : FnOk P w K mg base CX0 (k + 1) Z.fCodeOf Z.fdCodeOf ["e", "names"] (spCode K n) := GCodeOf'
  have GExpressions : FnOk P w K mg base CX0 (k + 1) Z.fExpressions Z.fdExpressions ["definition"] (spExprs n) := ok_expressions Z
  have GParameters : FnOk P w K mg base CX0 (k + 1) Z.fParameters Z.fdParameters ["definition"] (spParams n) := ok_parameters Z
  refine Z.DDefinitionCode.F.ok scDefinitionCode (fun vs H Q E h => ?_) (fun cdv A outer s H vs Q E hr h => ?_)
  · obtain ⟨x, rfl, _⟩ := h
    rfl
  · obtain ⟨x, rfl, ⟨d, hd, hns, qq⟩ | ⟨t, y, xs, rfl, ht, hy, qq⟩⟩ := h
    · refine ⟨_, (pss_cons (ps_if (pt_cmpR op_notIn_seq (pe_ix ix_tup (pv 0) pe_int (fun _ _ => rfl)) (pe_tup (pa_cons pe_str (pa_cons pe_str (pa_cons pe_str pa_nil)))) rfl) (pss_one (ps_ret pe_non)) pss_nil)
        (pss_one (ps_ret (pe_callTy call_tuple_of (by rfl) Z.tuple HL.boot_tuple (pa_cons (pe_lc (own := [("e", 1)]) (g := (gName 1)) (by rfl) scDefinitionCode.nd (HK.pi_tupK (K := K) rfl (pe_call GExpressions (hr.mono (by omega)) (by rfl) Z.DExpressions.g Z.DExpressions.F.kp Z.DExpressions.b .nil pass0 (pa_cons (pv 0) pa_nil))) (blkOk_by (own := [("e", 1)]) (N := ["definition", "e"]) (sc := defScope sDefinitionCode) (by decide +kernel)) (fun _ _ _ _ _ => (pg_name (i := 1) scDefinitionCode.nd rfl (Or.inl rfl))) (fun _ _ _ _ _ => pts_nil) (fun _ _ _ _ _ => (pe_call GCodeOf (hr.mono (by omega)) (by rfl) Z.DCodeOf.g Z.DCodeOf.F.kp Z.DCodeOf.b .nil pass0 (pa_cons (pv 1) (pa_cons (pe_call GParameters (hr.mono (by omega)) (by rfl) Z.DParameters.g Z.DParameters.F.kp Z.DParameters.b .nil pass0 (pa_cons (pv 0) pa_nil)) pa_nil))))) pa_nil))))), ?_⟩
      have key : ∃ t y xs, x = .ref t ∧ H t = some (.tup (.str y :: xs)) ∧ (y = "fun" ∨ y = "view" ∨ y = "act") := by
        cases d with
        | fn ns e => obtain ⟨t, z, q, u, rfl, ht, _⟩ := hd; exact ⟨t, _, _, rfl, ht, .inl rfl⟩
        | view e => obtain ⟨t, z, u, rfl, ht, _⟩ := hd; exact ⟨t, _, _, rfl, ht, .inr (.inl rfl)⟩
        | act ns sets e => obtain ⟨t, z, q, r, ss, u, rfl, ht, _⟩ := hd; exact ⟨t, _, _, rfl, ht, .inr (.inr rfl)⟩
      obtain ⟨t, y, xs, rfl, ht, hy⟩ := key
      refine ⟨_, rfl, t, _, 0, .str y, rfl, rfl, SqT.of ht, atI_nat (j := 0) rfl, by show 3 ≤ sizeLine; decide, fun T hT => ⟨T, _, rfl, .inr (SqT.of upd_same), rfl, rfl, _, rfl, iteNo (by rcases hy with rfl | rfl | rfl <;> decide +kernel) ?_⟩⟩
      have s1 := same_upd (o := .tup [.str "fun", .str "view", .str "act"]) hT
      have d1 := hd.keep (TupK.of s1)
      generalize upd H T (.tup [.str "fun", .str "view", .str "act"]) = H1 at s1 d1
      refine ⟨_, rfl, _, d, rfl, d1, fun q H2 us s2 hq hl hes => ⟨q, rfl, ⟨us, SqT.of hq⟩, fun D hD => ?_⟩⟩
      have d2 := d1.keep (TupK.of s2)
      refine lc_it walk_tup (fun i H' => Same H2 H' ∧ ∃ acc, H' D = some (.lst acc) ∧ All2 (CdAt H') acc ((d.es.take i).map fun e => code n e d.ns)) ⟨same_upd hD, [], upd_same, .nil⟩ (fun i H' _ p => SqT.of (p.1 _ _ hq)) ?_ ?_
      · rintro i x H0 H3 hi ⟨s3, acc, hD3, hacc⟩ ⟨rfl, hx⟩
        obtain ⟨e, he, hxe⟩ := hes.get hx
        refine ⟨rfl, lc_yes ⟨_, rfl, _, rfl, _, d, rfl, d2.keep (TupK.of s3), fun p H4 s4 hp => ?_⟩⟩
        refine ⟨x, .ref p, e, d.ns, rfl, hxe.keep (TupK.of (Same.tr s3 s4)), ⟨p, rfl, .inr (SqT.of hp)⟩, hns, fun t5 H5 w5 s5 ht5 hc5 => ?_⟩
        have s35 := Same.tr s4 s5
        have hD5 := s35 _ _ hD3
        have k5 := tk_lst (o := .lst (acc ++ [V.ref t5])) hD5
        refine ⟨acc, hD5, ?_, fun b o hb => ?_, _, upd_same, ?_⟩
        · have := hacc.len
          rw [List.length_map, List.length_take] at this
          have : 3 ≤ sizeLine := by decide
          omega
        · rw [upd_ne (ne_of_none hb hD)]
          exact s35 _ _ (s3 _ _ hb)
        · rw [List.take_add_one, he, List.map_append]
          exact (cdk hacc ((TupK.of s35).tr k5)).app (.one ⟨t5, w5, rfl, k5 _ _ ht5, hc5.keep k5⟩)
      · rintro H3 ⟨s3, acc, hD3, hacc⟩
        rw [hes.len, List.take_length] at hacc
        exact ⟨D, acc, rfl, .inl ⟨SqL.of hD3, fun T2 hT2 => qq T2 _ acc (Same.tr (Same.tr s1 s2) (Same.tr s3 (same_upd hT2))) upd_same (cdk hacc (TupK.of (same_upd hT2)))⟩⟩
    · refine ⟨_, (pss_cons (ps_if (pt_cmpR op_notIn_seq (pe_ix ix_tup (pv 0) pe_int (fun _ _ => rfl)) (pe_tup (pa_cons pe_str (pa_cons pe_str (pa_cons pe_str pa_nil)))) rfl) (pss_one (ps_ret pe_non)) pss_nil)
        (pss_one (ps_ret (pe_callTy call_tuple_of (by rfl) Z.tuple HL.boot_tuple (pa_cons (pe_lc (own := [("e", 1)]) (g := (gName 1)) (by rfl) scDefinitionCode.nd (HK.pi_tupK (K := K) rfl (pe_call GExpressions (hr.mono (by omega)) (by rfl) Z.DExpressions.g Z.DExpressions.F.kp Z.DExpressions.b .nil pass0 (pa_cons (pv 0) pa_nil))) (blkOk_by (own := [("e", 1)]) (N := ["definition", "e"]) (sc := defScope sDefinitionCode) (by decide +kernel)) (fun _ _ _ _ _ => (pg_name (i := 1) scDefinitionCode.nd rfl (Or.inl rfl))) (fun _ _ _ _ _ => pts_nil) (fun _ _ _ _ _ => (pe_call GCodeOf (hr.mono (by omega)) (by rfl) Z.DCodeOf.g Z.DCodeOf.F.kp Z.DCodeOf.b .nil pass0 (pa_cons (pv 1) (pa_cons (pe_call GParameters (hr.mono (by omega)) (by rfl) Z.DParameters.g Z.DParameters.F.kp Z.DParameters.b .nil pass0 (pa_cons (pv 0) pa_nil)) pa_nil))))) pa_nil))))), ?_⟩
      refine ⟨_, rfl, t, _, 0, .str y, rfl, rfl, SqT.of ht, atI_nat (j := 0) rfl, by show 3 ≤ sizeLine; decide, fun T hT => ⟨T, _, rfl, .inr (SqT.of upd_same), rfl, rfl, _, rfl, iteYes (by rcases hy with rfl | rfl <;> decide +kernel) ?_⟩⟩
      exact qq _ (same_upd hT)
end
end Q33
namespace Q33
open PySem PySem.Spec PyProof.Rows L2 SX HL
/-- what is returned: a list of this code -/
def RetL (H : Hp) (Q : VK) (c : List Ins) : Prop := ∀ l H' ws, Same H H' → H l = none → H' l = some (.lst ws) → CodeAt H' ws c → Q (.ref l) H'
theorem retl_new {H H1 : Hp} {Q : VK} {c : List Ins} {us : List V} (q : RetL H Q c) (s : Same H H1) (h : CodeAt H1 us c) : ∀ p, H1 p = none → Q (.ref p) (upd H1 p (.lst us)) :=
  fun p hp => q p _ us (Same.tr s (same_upd hp)) (s.free hp) upd_same (h.keep (TupK.of (same_upd hp)))
theorem RetL.same {H H1 : Hp} {Q : VK} {c : List Ins} (q : RetL H Q c) (s : Same H H1) : RetL H1 Q c := fun l H' ws s' hl h c => q l H' ws (Same.tr s s') (s.free hl) h c
theorem ExAt.tup {H : Hp} : ∀ {n : Nat} {e : Ex} {x : V}, ExAt H n e x → ∃ t us, x = .ref t ∧ H t = some (.tup us)
  | 0, _, _, h => h.elim
  | n + 1, .lit f v, x, ⟨_, _, t, e, h⟩ => ⟨t, _, e, h⟩
  | n + 1, .name z, x, ⟨t, e, h⟩ => ⟨t, _, e, h⟩
  | n + 1, .bin op a b, x, ⟨_, t, u, v, e, h, _⟩ => ⟨t, _, e, h⟩
  | n + 1, .neg a, x, ⟨t, u, e, h, _⟩ => ⟨t, _, e, h⟩
  | n + 1, .ife a b c, x, ⟨t, u, v, w, e, h, _⟩ => ⟨t, _, e, h⟩
  | n + 1, .lt z a b, x, ⟨t, u, v, e, h, _⟩ => ⟨t, _, e, h⟩
  | n + 1, .cons a b, x, ⟨t, u, v, e, h, _⟩ => ⟨t, _, e, h⟩
  | n + 1, .list es, x, ⟨t, q, us, e, h, _⟩ => ⟨t, _, e, h⟩
  | n + 1, .call f es, x, ⟨t, q, us, e, h, _⟩ => ⟨t, _, e, h⟩
  | n + 1, .make f es, x, ⟨t, q, us, e, h, _⟩ => ⟨t, _, e, h⟩
  | n + 1, .split a b z y c, x, ⟨t, u, v, w, e, h, _⟩ => ⟨t, _, e, h⟩
  | n + 1, .mat a arms, x, ⟨t, u, q, us, e, h, _⟩ => ⟨t, _, e, h⟩
/-- codes in lists that are not D -/
def LcAt (D : Addr) (H : Hp) (v : V) (c : List Ins) : Prop := ∃ l ws, v = .ref l ∧ l ≠ D ∧ H l = some (.lst ws) ∧ CodeAt H ws c
theorem LcAt.same {D : Addr} {H H' : Hp} {v : V} {c : List Ins} (h : LcAt D H v c) (s : Same H H') : LcAt D H' v c := by
  obtain ⟨l, ws, e, n, h1, h2⟩ := h
  exact ⟨l, ws, e, n, s _ _ h1, h2.keep (TupK.of s)⟩
theorem LcAt.upd {D : Addr} {H : Hp} {v : V} {c : List Ins} {acc : List V} {o : HO} (h : LcAt D H v c) (hd : H D = some (.lst acc)) : LcAt D (upd H D o) v c := by
  obtain ⟨l, ws, e, n, h1, h2⟩ := h
  exact ⟨l, ws, e, n, by rw [upd_ne n]; exact h1, h2.keep (tk_lst hd)⟩
def ItAt (H : Hp) (n : Nat) (x : V) : Option Ex → Prop
  | none => ∃ z, x = .str z
  | some e => ExAt H n e x
def NmL (H : Hp) (v : V) (ns : List Str) : Prop := ∃ a, v = .ref a ∧ H a = some (.lst (ns.map V.str))
def spLC (n : Nat) : Sp := fun vs H Q _ => ∃ (x v : V) (e : Ex) (ns : List Str), vs = [x, v] ∧ ExAt H n e x ∧ NmL H v ns ∧ ns.length + 2 * n ≤ 1000 ∧ RetL H Q (code n e ns)
section
variable {P : Program} {w : World} {K : PySem.W.Frag} {mg : Str → Option Value} {base : Heap}
def spLM (n : Nat) : Sp := fun vs H Q _ => ∃ (x v : V) (a : Ex) (arms : List (Str × List Str × Ex)) (ns : List Str), vs = [x, v] ∧ ExAt H (n + 1) (.mat a arms) x ∧ NmL H v ns ∧ ns.length + 2 * (n + 1) ≤ 1000 ∧ RetL H Q (code (n + 1) (.mat a arms) ns)
theorem lcode_step {k n : Nat} (hn7 : n ≤ 7) (Z : Defs K mg) (GLawCode' : FnOk P w K mg base CX0 (k + 1) Z.fLawCode Z.fdLawCode ["e", "names"] (spLC n)) (GLawMatchCode' : FnOk P w K mg base CX0 (k + 2) Z.fLawMatchCode Z.fdLawMatchCode ["e", "names"] (spLM n)) : FnOk P w K mg base CX0 (k + 3) Z.fLawCode Z.fdLawCode ["e", "names"] (spLC (n + 1)) := by
  have GLawCode : FnOk P w K mg base CX0 (k + 1) Z.fLawCode Z.fdLawCode ["e", "names"] (spLC n) := GLawCode'
  have GLawMatchCode : FnOk P w K mg base CX0 (k + 2) Z.fLawMatchCode Z.fdLawMatchCode ["e", "names"] (spLM n) := GLawMatchCode'
  refine Z.DLawCode.F.ok scLawCode (fun vs H Q E h => ?_) (fun cdv A outer s H vs Q E hr h => ?_)
  · obtain ⟨x, v, e, ns, rfl, _⟩ := h
    rfl
  · obtain ⟨x, v, e, ns, rfl, he, ⟨nl, rfl, hn⟩, hns, qq⟩ := h
    refine ⟨_, (pss_cons (ps_set (i := 2) scLawCode.nd rfl (.inl rfl) (pe_ix ix_tup (pv 0) pe_int (fun _ _ => rfl)))
        (pss_cons (ps_if (pt_cmpR op_in_seq (pv 2) (pe_lst (pa_cons pe_str (pa_cons pe_str (pa_cons pe_str pa_nil)))) rfl) (pss_one (ps_ret (pe_lst (pa_cons (pe_tup (pa_cons pe_str (pa_cons (pe_ix ix_tup (pv 0) pe_int (fun _ _ => rfl)) pa_nil))) pa_nil)))) pss_nil)
        (pss_cons (ps_if (pt_cmpR op_eq (pv 2) pe_str (nomark _)) (pss_cons (ps_for PassesOwn.never rfl (pi_range1 (by rfl) Z.range (pa_cons (pe_callB call_len_seq (by rfl) Z.len PySem.boot_len (pa_cons (pv 1) pa_nil)) pa_nil)) (pg_name (i := 3) scLawCode.nd rfl (.inl rfl)) (pss_one (ps_if (pt_cmpR op_eq (pe_ix ix_list (pv 1) (pe_op op_sub (pe_op op_sub (pe_callB call_len_seq (by rfl) Z.len PySem.boot_len (pa_cons (pv 1) pa_nil)) pe_int) (pv 3)) (fun _ _ => rfl)) (pe_ix ix_tup (pv 0) pe_int (fun _ _ => rfl)) (nomark _)) (pss_one (ps_ret (pe_lst (pa_cons (pe_tup (pa_cons pe_str (pa_cons (pv 3) pa_nil))) pa_nil)))) pss_nil)))
        (pss_one (ps_ret (pe_lst (pa_cons (pe_tup (pa_cons pe_str (pa_cons (pe_ix ix_tup (pv 0) pe_int (fun _ _ => rfl)) pa_nil))) pa_nil))))) pss_nil)
        (pss_cons (ps_if (pt_cmpR op_in_seq (pv 2) (pe_lst (pa_cons pe_str (pa_cons pe_str (pa_cons pe_str pa_nil)))) rfl) (pss_cons (ps_set (i := 4) scLawCode.nd rfl (.inl rfl) (pe_lst pa_nil))
        (pss_cons (ps_for PassesOwn.never rfl (pi_tup (pe_ix ix_tup (pv 0) (pe_op op_sub (pe_callB call_len_seq (by rfl) Z.len PySem.boot_len (pa_cons (pv 0) pa_nil)) pe_int) (fun _ _ => rfl))) (pg_name (i := 5) scLawCode.nd rfl (.inl rfl)) (pss_one (ps_set (i := 4) scLawCode.nd rfl (.inl rfl) (pe_op op_cat (pv 4) (pe_call GLawCode (hr.mono (by omega)) (by rfl) Z.DLawCode.g Z.DLawCode.F.kp Z.DLawCode.b .nil pass0 (pa_cons (pv 5) (pa_cons (pv 1) pa_nil)))))))
        (pss_cons (ps_set (i := 6) scLawCode.nd rfl (.inl rfl) (pe_callB call_len_seq (by rfl) Z.len PySem.boot_len (pa_cons (pe_ix ix_tup (pv 0) (pe_op op_sub (pe_callB call_len_seq (by rfl) Z.len PySem.boot_len (pa_cons (pv 0) pa_nil)) pe_int) (fun _ _ => rfl)) pa_nil)))
        (pss_one (ps_ret (pe_op op_cat (pv 4) (pe_lst (pa_cons (pe_dget (hu_of hr) (pe_disp (pps_cons pe_str (pe_tup (pa_cons pe_str (pa_cons (pv 6) pa_nil))) (pps_cons pe_str (pe_tup (pa_cons pe_str (pa_cons (pe_ix ix_tup (pv 0) pe_int (fun _ _ => rfl)) (pa_cons (pv 6) pa_nil)))) (pps_cons pe_str (pe_tup (pa_cons pe_str (pa_cons (pe_ix ix_tup (pv 0) pe_int (fun _ _ => rfl)) (pa_cons (pv 6) pa_nil)))) pps_nil))) (by rfl) (by rfl) (fun z => by cases z) (by decide)) (pv 2) (fun _ _ => rfl)) pa_nil)))))))) pss_nil)
        (pss_cons (ps_if (pt_cmpR op_eq (pv 2) pe_str (nomark _)) (pss_one (ps_ret (pe_call GLawMatchCode (hr.mono (by omega)) (by rfl) Z.DLawMatchCode.g Z.DLawMatchCode.F.kp Z.DLawMatchCode.b .nil pass0 (pa_cons (pv 0) (pa_cons (pv 1) pa_nil))))) pss_nil)
        (pss_cons (ps_if (pt_cmpR op_eq (pv 2) pe_str (nomark _)) (pss_one (ps_ret (pe_op op_cat (pe_op op_cat (pe_op op_cat (pe_call GLawCode (hr.mono (by omega)) (by rfl) Z.DLawCode.g Z.DLawCode.F.kp Z.DLawCode.b .nil pass0 (pa_cons (pe_ix ix_tup (pv 0) pe_int (fun _ _ => rfl)) (pa_cons (pv 1) pa_nil))) (pe_lst (pa_cons (pe_tup (pa_cons pe_str pa_nil)) pa_nil))) (pe_call GLawCode (hr.mono (by omega)) (by rfl) Z.DLawCode.g Z.DLawCode.F.kp Z.DLawCode.b .nil pass0 (pa_cons (pe_ix ix_tup (pv 0) pe_int (fun _ _ => rfl)) (pa_cons (pe_op op_cat (pv 1) (pe_lst (pa_cons (pe_ix ix_tup (pv 0) pe_int (fun _ _ => rfl)) pa_nil))) pa_nil)))) (pe_lst (pa_cons (pe_tup (pa_cons pe_str (pa_cons pe_int pa_nil))) pa_nil))))) pss_nil)
        (pss_cons (ps_if (pt_cmpR op_eq (pv 2) pe_str (nomark _)) (pss_cons (ps_set (i := 7) scLawCode.nd rfl (.inl rfl) (pe_call GLawCode (hr.mono (by omega)) (by rfl) Z.DLawCode.g Z.DLawCode.F.kp Z.DLawCode.b .nil pass0 (pa_cons (pe_ix ix_tup (pv 0) pe_int (fun _ _ => rfl)) (pa_cons (pv 1) pa_nil))))
        (pss_cons (ps_set (i := 8) scLawCode.nd rfl (.inl rfl) (pe_call GLawCode (hr.mono (by omega)) (by rfl) Z.DLawCode.g Z.DLawCode.F.kp Z.DLawCode.b .nil pass0 (pa_cons (pe_ix ix_tup (pv 0) pe_int (fun _ _ => rfl)) (pa_cons (pe_op op_cat (pv 1) (pe_lst (pa_cons (pe_ix ix_tup (pv 0) pe_int (fun _ _ => rfl)) (pa_cons (pe_ix ix_tup (pv 0) pe_int (fun _ _ => rfl)) pa_nil)))) pa_nil))))
        (pss_cons (ps_set (i := 4) scLawCode.nd rfl (.inl rfl) (pe_op op_cat (pe_op op_cat (pe_call GLawCode (hr.mono (by omega)) (by rfl) Z.DLawCode.g Z.DLawCode.F.kp Z.DLawCode.b .nil pass0 (pa_cons (pe_ix ix_tup (pv 0) pe_int (fun _ _ => rfl)) (pa_cons (pv 1) pa_nil))) (pe_lst (pa_cons (pe_tup (pa_cons pe_str (pa_cons (pe_op op_add (pe_callB call_len_seq (by rfl) Z.len PySem.boot_len (pa_cons (pv 7) pa_nil)) pe_int) pa_nil))) pa_nil))) (pv 7)))
        (pss_one (ps_ret (pe_op op_cat (pe_op op_cat (pe_op op_cat (pv 4) (pe_lst (pa_cons (pe_tup (pa_cons pe_str (pa_cons (pe_op op_add (pe_callB call_len_seq (by rfl) Z.len PySem.boot_len (pa_cons (pv 8) pa_nil)) pe_int) pa_nil))) pa_nil))) (pv 8)) (pe_lst (pa_cons (pe_tup (pa_cons pe_str (pa_cons pe_int pa_nil))) pa_nil)))))))) pss_nil)
        (pss_cons (ps_setLc (i := 9) (own := [("part", 5)]) (g := (gName 5)) (by rfl) scLawCode.nd rfl rfl (sw_true rfl rfl rfl (by decide +kernel)) (HK.pi_tupK (K := K) rfl (pe_slice sl_tup (pv 0) (po_some pe_int) po_none)) (blkOk_by (own := [("part", 5)]) (N := ["e", "names", "form", "k", "code", "part", "count", "empty", "filled", "parts"]) (sc := defScope sLawCode) (by decide +kernel)) (fun _ _ _ _ _ => (pg_name (i := 5) scLawCode.nd rfl (Or.inl rfl))) (fun _ _ _ _ _ => (pts_one (pt_val (pe_callB (HX.call_isBK (K := K) rfl) (by rfl) Z.isinstance HL.boot_isinstance (pa_cons (pv 5) (pa_cons (pe_bltn (v := .ty "tuple") (by rfl) Z.tuple HL.boot_tuple rfl) pa_nil)))))) (fun _ _ _ _ _ => (pe_call GLawCode (hr.mono (by omega)) (by rfl) Z.DLawCode.g Z.DLawCode.F.kp Z.DLawCode.b .nil pass0 (pa_cons (pv 5) (pa_cons (pv 1) pa_nil)))))
        (pss_cons (ps_if (pt_cmpR op_eq (pv 2) pe_str (nomark _)) (pss_one (ps_ret (pe_op op_cat (pe_ix ix_list (pv 9) pe_int (fun _ _ => rfl)) (pe_lst (pa_cons (pe_tup (pa_cons pe_str pa_nil)) pa_nil))))) pss_nil)
        (pss_cons (ps_if (pt_cmpR op_eq (pv 2) pe_str (nomark _)) (pss_one (ps_ret (pe_op op_cat (pe_op op_cat (pe_ix ix_list (pv 9) pe_int (fun _ _ => rfl)) (pe_ix ix_list (pv 9) pe_int (fun _ _ => rfl))) (pe_lst (pa_cons (pe_tup (pa_cons pe_str pa_nil)) pa_nil))))) pss_nil)
        (pss_cons (ps_if (pt_cmpR op_eq (pv 2) pe_str (nomark _)) (pss_cons (ps_set (i := 4) scLawCode.nd rfl (.inl rfl) (pe_op op_cat (pe_op op_cat (pe_ix ix_list (pv 9) pe_int (fun _ _ => rfl)) (pe_lst (pa_cons (pe_tup (pa_cons pe_str (pa_cons (pe_op op_add (pe_callB call_len_seq (by rfl) Z.len PySem.boot_len (pa_cons (pe_ix ix_list (pv 9) pe_int (fun _ _ => rfl)) pa_nil)) pe_int) pa_nil))) pa_nil))) (pe_ix ix_list (pv 9) pe_int (fun _ _ => rfl))))
        (pss_one (ps_ret (pe_op op_cat (pe_op op_cat (pv 4) (pe_lst (pa_cons (pe_tup (pa_cons pe_str (pa_cons (pe_callB call_len_seq (by rfl) Z.len PySem.boot_len (pa_cons (pe_ix ix_list (pv 9) pe_int (fun _ _ => rfl)) pa_nil)) pa_nil))) pa_nil))) (pe_ix ix_list (pv 9) pe_int (fun _ _ => rfl)))))) pss_nil)
        (pss_cons (ps_if (pt_cmpR op_in_seq (pe_ix ix_tup (pv 0) pe_int (fun _ _ => rfl)) (pe_lst (pa_cons pe_str (pa_cons pe_str pa_nil))) rfl) (pss_one (ps_ret (pe_op op_cat (pe_op op_cat (pe_ix ix_list (pv 9) pe_int (fun _ _ => rfl)) (pe_lst (pa_cons (pe_tup (pa_cons pe_str (pa_cons (pe_cmpR op_eq (pe_ix ix_tup (pv 0) pe_int (fun _ _ => rfl)) pe_str (nomark _)) (pa_cons (pe_callB call_len_seq (by rfl) Z.len PySem.boot_len (pa_cons (pe_ix ix_list (pv 9) pe_int (fun _ _ => rfl)) pa_nil)) pa_nil)))) pa_nil))) (pe_ix ix_list (pv 9) pe_int (fun _ _ => rfl))))) pss_nil)
        (pss_one (ps_ret (pe_op op_cat (pe_op op_cat (pe_ix ix_list (pv 9) pe_int (fun _ _ => rfl)) (pe_ix ix_list (pv 9) pe_int (fun _ _ => rfl))) (pe_lst (pa_cons (pe_tup (pa_cons pe_str (pa_cons (pe_ix ix_tup (pv 0) pe_int (fun _ _ => rfl)) pa_nil))) pa_nil))))))))))))))))), ?_⟩
    have hB := cB7 hn7
    have hz : 1000000 ≤ sizeLine := by decide
    have he0 := he
    cases e with
    | lt z a b =>
      obtain ⟨t, u, y, rfl, ht, ha, hb⟩ := he
      refine ⟨_, rfl, t, _, 0, _, rfl, rfl, SqT.of ht, rfl, _, rfl, by show 3 ≤ sizeLine; decide, fun X1 hX1 => ⟨X1, _, rfl, .inl (SqL.of upd_same), rfl, rfl, _, rfl, iteNo (by decide +kernel) ?_⟩⟩
      have s1 : Same H (upd H X1 (.lst [.str "number", .str "text", .str "bool"])) := same_upd hX1
      generalize upd H X1 (.lst [.str "number", .str "text", .str "bool"]) = H1 at s1
      refine ⟨_, rfl, rfl, _, rfl, iteNo (by decide +kernel) ?_⟩
      refine ⟨_, rfl, by show 3 ≤ sizeLine; decide, fun X2 hX2 => ⟨X2, _, rfl, .inl (SqL.of upd_same), rfl, rfl, _, rfl, iteNo (by decide +kernel) ?_⟩⟩
      have s2 : Same H1 (upd H1 X2 (.lst [.str "list", .str "call", .str "make"])) := same_upd hX2
      generalize upd H1 X2 (.lst [.str "list", .str "call", .str "make"]) = H2 at s2
      refine ⟨_, rfl, rfl, _, rfl, iteNo (by decide +kernel) ?_⟩
      refine ⟨_, rfl, rfl, _, rfl, iteYes (by decide +kernel) ?_⟩
      refine ⟨_, rfl, t, _, 2, _, rfl, rfl, SqT.of ((Same.tr s1 s2) _ _ ht), rfl, _, rfl, u, .ref nl, a, ns, rfl, (ha.keep (TupK.of (Same.tr s1 s2))), ⟨_, rfl, ((Same.tr s1 s2) _ _ hn)⟩, by omega, fun l3 H3 w3 s3 _ h3 c3 => ?_⟩
      have e3 := ca_len c3
      have m3 := code_len ns ha
      refine ⟨by show 1 ≤ sizeLine; decide, fun X4 hX4 => ?_⟩
      have s4 : Same H3 (upd H3 X4 (.tup [.str "keep"])) := same_upd hX4
      have gX4 : upd H3 X4 (.tup [.str "keep"]) X4 = some (.tup [.str "keep"]) := upd_same
      generalize upd H3 X4 (.tup [.str "keep"]) = H4 at s4 gX4
      refine ⟨by show 1 ≤ sizeLine; decide, fun X5 hX5 => ?_⟩
      have s5 : Same H4 (upd H4 X5 (.lst [.ref X4])) := same_upd hX5
      have gX5 : upd H4 X5 (.lst [.ref X4]) X5 = some (.lst [.ref X4]) := upd_same
      generalize upd H4 X5 (.lst [.ref X4]) = H5 at s5 gX5
      have ci5 : CodeAt H5 [V.ref X4] [Ins.plain "keep" []] := ca1 (i := Ins.plain "keep" []) ⟨X4, rfl, (s5 _ _ gX4)⟩
      refine ⟨l3, X5, _, _, rfl, rfl, ((Same.tr s4 s5) _ _ h3), gX5, by (try simp only [List.length_append, List.length_cons, List.length_nil]); omega, fun X6 hX6 => ?_⟩
      have s6 : Same H5 (upd H5 X6 (.lst (w3 ++ [V.ref X4]))) := same_upd hX6
      have gX6 : upd H5 X6 (.lst (w3 ++ [V.ref X4])) X6 = some (.lst (w3 ++ [V.ref X4])) := upd_same
      have cX6 := CodeAt.keep (CodeAt.app (CodeAt.keep c3 (TupK.of (Same.tr s4 s5))) ci5) (TupK.of s6)
      generalize upd H5 X6 (.lst (w3 ++ [V.ref X4])) = H6 at s6 gX6 cX6
      refine ⟨_, rfl, t, _, 3, _, rfl, rfl, SqT.of ((Same.tr s1 (Same.tr s2 (Same.tr s3 (Same.tr s4 (Same.tr s5 s6))))) _ _ ht), rfl, _, rfl, _, rfl, t, _, 1, _, rfl, rfl, SqT.of ((Same.tr s1 (Same.tr s2 (Same.tr s3 (Same.tr s4 (Same.tr s5 s6))))) _ _ ht), rfl, by show 1 ≤ sizeLine; decide, fun X8 hX8 => ?_⟩
      have s7 : Same H6 (upd H6 X8 (.lst [.str z])) := same_upd hX8
      have gX8 : upd H6 X8 (.lst [.str z]) X8 = some (.lst [.str z]) := upd_same
      generalize upd H6 X8 (.lst [.str z]) = H7 at s7 gX8
      refine ⟨nl, X8, _, _, rfl, rfl, ((Same.tr s1 (Same.tr s2 (Same.tr s3 (Same.tr s4 (Same.tr s5 (Same.tr s6 s7)))))) _ _ hn), gX8, by simp only [List.length_map, List.length_cons, List.length_nil]; omega, fun X9 hX9 => ?_⟩
      have s8 : Same H7 (upd H7 X9 (.lst (ns.map V.str ++ [.str z]))) := same_upd hX9
      have gX9 : upd H7 X9 (.lst (ns.map V.str ++ [.str z])) X9 = some (.lst ((ns ++ [z]).map V.str)) := by rw [upd_same, List.map_append] <;> rfl
      generalize upd H7 X9 (.lst (ns.map V.str ++ [.str z])) = H8 at s8 gX9
      refine ⟨y, .ref X9, b, (ns ++ [z]), rfl, (hb.keep (TupK.of (Same.tr s1 (Same.tr s2 (Same.tr s3 (Same.tr s4 (Same.tr s5 (Same.tr s6 (Same.tr s7 s8))))))))), ⟨_, rfl, gX9⟩, by rw [List.length_append]; simp only [List.length_cons, List.length_nil]; omega, fun l10 H9 w10 s9 _ h10 c10 => ?_⟩
      have e10 := ca_len c10
      have m10 := code_len (ns ++ [z]) hb
      refine ⟨X6, l10, _, _, rfl, rfl, ((Same.tr s7 (Same.tr s8 s9)) _ _ gX6), h10, by (try simp only [List.length_append, List.length_cons, List.length_nil]); omega, fun X11 hX11 => ?_⟩
      have s10 : Same H9 (upd H9 X11 (.lst ((w3 ++ [V.ref X4]) ++ w10))) := same_upd hX11
      have gX11 : upd H9 X11 (.lst ((w3 ++ [V.ref X4]) ++ w10)) X11 = some (.lst ((w3 ++ [V.ref X4]) ++ w10)) := upd_same
      have cX11 := CodeAt.keep (CodeAt.app (CodeAt.keep cX6 (TupK.of (Same.tr s7 (Same.tr s8 s9)))) c10) (TupK.of s10)
      generalize upd H9 X11 (.lst ((w3 ++ [V.ref X4]) ++ w10)) = H10 at s10 gX11 cX11
      refine ⟨by show 2 ≤ sizeLine; decide, fun X12 hX12 => ?_⟩
      have s11 : Same H10 (upd H10 X12 (.tup [.str "leave", .int 1])) := same_upd hX12
      have gX12 : upd H10 X12 (.tup [.str "leave", .int 1]) X12 = some (.tup [.str "leave", .int 1]) := upd_same
      generalize upd H10 X12 (.tup [.str "leave", .int 1]) = H11 at s11 gX12
      refine ⟨by show 1 ≤ sizeLine; decide, fun X13 hX13 => ?_⟩
      have s12 : Same H11 (upd H11 X13 (.lst [.ref X12])) := same_upd hX13
      have gX13 : upd H11 X13 (.lst [.ref X12]) X13 = some (.lst [.ref X12]) := upd_same
      generalize upd H11 X13 (.lst [.ref X12]) = H12 at s12 gX13
      have ci13 : CodeAt H12 [V.ref X12] [Ins.plain "leave" [.int 1]] := ca1 (i := Ins.plain "leave" [.int 1]) ⟨X12, rfl, (s12 _ _ gX12)⟩
      have r := CodeAt.app (CodeAt.keep cX11 (TupK.of (Same.tr s11 s12))) ci13
      refine ⟨X11, X13, _, _, rfl, rfl, ((Same.tr s11 s12) _ _ gX11), gX13, by (try simp only [List.length_append, List.length_cons, List.length_nil]); omega, retl_new qq (Same.tr s1 (Same.tr s2 (Same.tr s3 (Same.tr s4 (Same.tr s5 (Same.tr s6 (Same.tr s7 (Same.tr s8 (Same.tr s9 (Same.tr s10 (Same.tr s11 s12))))))))))) ?_⟩
      try simp only [List.append_assoc, List.cons_append, List.nil_append] at r ⊢
      exact cast (by simp only [code, binC, List.append_assoc, List.cons_append, List.nil_append, ite_true, ite_false]) r
    | split a b z y c =>
      obtain ⟨t, u, v, w, rfl, ht, ha, hb, hc⟩ := he
      refine ⟨_, rfl, t, _, 0, _, rfl, rfl, SqT.of ht, rfl, _, rfl, by show 3 ≤ sizeLine; decide, fun X1 hX1 => ⟨X1, _, rfl, .inl (SqL.of upd_same), rfl, rfl, _, rfl, iteNo (by decide +kernel) ?_⟩⟩
      have s1 : Same H (upd H X1 (.lst [.str "number", .str "text", .str "bool"])) := same_upd hX1
      generalize upd H X1 (.lst [.str "number", .str "text", .str "bool"]) = H1 at s1
      refine ⟨_, rfl, rfl, _, rfl, iteNo (by decide +kernel) ?_⟩
      refine ⟨_, rfl, by show 3 ≤ sizeLine; decide, fun X2 hX2 => ⟨X2, _, rfl, .inl (SqL.of upd_same), rfl, rfl, _, rfl, iteNo (by decide +kernel) ?_⟩⟩
      have s2 : Same H1 (upd H1 X2 (.lst [.str "list", .str "call", .str "make"])) := same_upd hX2
      generalize upd H1 X2 (.lst [.str "list", .str "call", .str "make"]) = H2 at s2
      refine ⟨_, rfl, rfl, _, rfl, iteNo (by decide +kernel) ?_⟩
      refine ⟨_, rfl, rfl, _, rfl, iteNo (by decide +kernel) ?_⟩
      refine ⟨_, rfl, rfl, _, rfl, iteYes (by decide +kernel) ?_⟩
      refine ⟨_, rfl, t, _, 2, _, rfl, rfl, SqT.of ((Same.tr s1 s2) _ _ ht), rfl, _, rfl, v, .ref nl, b, ns, rfl, (hb.keep (TupK.of (Same.tr s1 s2))), ⟨_, rfl, ((Same.tr s1 s2) _ _ hn)⟩, by omega, fun l3 H3 w3 s3 _ h3 c3 => ?_⟩
      have e3 := ca_len c3
      have m3 := code_len ns hb
      refine ⟨_, rfl, t, _, 5, _, rfl, rfl, SqT.of ((Same.tr s1 (Same.tr s2 s3)) _ _ ht), rfl, _, rfl, _, rfl, t, _, 3, _, rfl, rfl, SqT.of ((Same.tr s1 (Same.tr s2 s3)) _ _ ht), rfl, _, rfl, t, _, 4, _, rfl, rfl, SqT.of ((Same.tr s1 (Same.tr s2 s3)) _ _ ht), rfl, by show 2 ≤ sizeLine; decide, fun X4 hX4 => ?_⟩
      have s4 : Same H3 (upd H3 X4 (.lst [.str z, .str y])) := same_upd hX4
      have gX4 : upd H3 X4 (.lst [.str z, .str y]) X4 = some (.lst [.str z, .str y]) := upd_same
      generalize upd H3 X4 (.lst [.str z, .str y]) = H4 at s4 gX4
      refine ⟨nl, X4, _, _, rfl, rfl, ((Same.tr s1 (Same.tr s2 (Same.tr s3 s4))) _ _ hn), gX4, by simp only [List.length_map, List.length_cons, List.length_nil]; omega, fun X5 hX5 => ?_⟩
      have s5 : Same H4 (upd H4 X5 (.lst (ns.map V.str ++ [.str z, .str y]))) := same_upd hX5
      have gX5 : upd H4 X5 (.lst (ns.map V.str ++ [.str z, .str y])) X5 = some (.lst ((ns ++ [z, y]).map V.str)) := by rw [upd_same, List.map_append] <;> rfl
      generalize upd H4 X5 (.lst (ns.map V.str ++ [.str z, .str y])) = H5 at s5 gX5
      refine ⟨w, .ref X5, c, (ns ++ [z, y]), rfl, (hc.keep (TupK.of (Same.tr s1 (Same.tr s2 (Same.tr s3 (Same.tr s4 s5)))))), ⟨_, rfl, gX5⟩, by rw [List.length_append]; simp only [List.length_cons, List.length_nil]; omega, fun l6 H6 w6 s6 _ h6 c6 => ?_⟩
      have e6 := ca_len c6
      have m6 := code_len (ns ++ [z, y]) hc
      refine ⟨_, rfl, t, _, 1, _, rfl, rfl, SqT.of ((Same.tr s1 (Same.tr s2 (Same.tr s3 (Same.tr s4 (Same.tr s5 s6))))) _ _ ht), rfl, _, rfl, u, .ref nl, a, ns, rfl, (ha.keep (TupK.of (Same.tr s1 (Same.tr s2 (Same.tr s3 (Same.tr s4 (Same.tr s5 s6))))))), ⟨_, rfl, ((Same.tr s1 (Same.tr s2 (Same.tr s3 (Same.tr s4 (Same.tr s5 s6))))) _ _ hn)⟩, by omega, fun l7 H7 w7 s7 _ h7 c7 => ?_⟩
      have e7 := ca_len c7
      have m7 := code_len ns ha
      refine ⟨_, rfl, l3, _, rfl, .inl (SqL.of ((Same.tr s4 (Same.tr s5 (Same.tr s6 s7))) _ _ h3)), _, _, rfl, rfl, by show 2 ≤ sizeLine; decide, fun X8 hX8 => ?_⟩
      have s8 : Same H7 (upd H7 X8 (.tup [.str "open", .int ((w3.length : Int) + 1)])) := same_upd hX8
      have gX8 : upd H7 X8 (.tup [.str "open", .int ((w3.length : Int) + 1)]) X8 = some (.tup [.str "open", vi ((code n b ns).length + 1)]) := by rw [upd_same, e3] <;> rfl
      generalize upd H7 X8 (.tup [.str "open", .int ((w3.length : Int) + 1)]) = H8 at s8 gX8
      refine ⟨by show 1 ≤ sizeLine; decide, fun X9 hX9 => ?_⟩
      have s9 : Same H8 (upd H8 X9 (.lst [.ref X8])) := same_upd hX9
      have gX9 : upd H8 X9 (.lst [.ref X8]) X9 = some (.lst [.ref X8]) := upd_same
      generalize upd H8 X9 (.lst [.ref X8]) = H9 at s9 gX9
      have ci9 : CodeAt H9 [V.ref X8] [Ins.jump "open" ((code n b ns).length + 1)] := ca1 (i := Ins.jump "open" ((code n b ns).length + 1)) ⟨X8, rfl, (s9 _ _ gX8)⟩
      refine ⟨l7, X9, _, _, rfl, rfl, ((Same.tr s8 s9) _ _ h7), gX9, by (try simp only [List.length_append, List.length_cons, List.length_nil]); omega, fun X10 hX10 => ?_⟩
      have s10 : Same H9 (upd H9 X10 (.lst (w7 ++ [V.ref X8]))) := same_upd hX10
      have gX10 : upd H9 X10 (.lst (w7 ++ [V.ref X8])) X10 = some (.lst (w7 ++ [V.ref X8])) := upd_same
      have cX10 := CodeAt.keep (CodeAt.app (CodeAt.keep c7 (TupK.of (Same.tr s8 s9))) ci9) (TupK.of s10)
      generalize upd H9 X10 (.lst (w7 ++ [V.ref X8])) = H10 at s10 gX10 cX10
      refine ⟨_, rfl, ?_⟩
      refine ⟨X10, l3, _, _, rfl, rfl, gX10, ((Same.tr s4 (Same.tr s5 (Same.tr s6 (Same.tr s7 (Same.tr s8 (Same.tr s9 s10)))))) _ _ h3), by (try simp only [List.length_append, List.length_cons, List.length_nil]); omega, fun X11 hX11 => ?_⟩
      have s11 : Same H10 (upd H10 X11 (.lst ((w7 ++ [V.ref X8]) ++ w3))) := same_upd hX11
      have gX11 : upd H10 X11 (.lst ((w7 ++ [V.ref X8]) ++ w3)) X11 = some (.lst ((w7 ++ [V.ref X8]) ++ w3)) := upd_same
      have cX11 := CodeAt.keep (CodeAt.app cX10 (CodeAt.keep c3 (TupK.of (Same.tr s4 (Same.tr s5 (Same.tr s6 (Same.tr s7 (Same.tr s8 (Same.tr s9 s10))))))))) (TupK.of s11)
      generalize upd H10 X11 (.lst ((w7 ++ [V.ref X8]) ++ w3)) = H11 at s11 gX11 cX11
      refine ⟨_, rfl, _, rfl, l6, _, rfl, .inl (SqL.of ((Same.tr s7 (Same.tr s8 (Same.tr s9 (Same.tr s10 s11)))) _ _ h6)), _, _, rfl, rfl, by show 2 ≤ sizeLine; decide, fun X12 hX12 => ?_⟩
      have s12 : Same H11 (upd H11 X12 (.tup [.str "skip", .int ((w6.length : Int) + 1)])) := same_upd hX12
      have gX12 : upd H11 X12 (.tup [.str "skip", .int ((w6.length : Int) + 1)]) X12 = some (.tup [.str "skip", vi ((code n c (ns ++ [z, y])).length + 1)]) := by rw [upd_same, e6] <;> rfl
      generalize upd H11 X12 (.tup [.str "skip", .int ((w6.length : Int) + 1)]) = H12 at s12 gX12
      refine ⟨by show 1 ≤ sizeLine; decide, fun X13 hX13 => ?_⟩
      have s13 : Same H12 (upd H12 X13 (.lst [.ref X12])) := same_upd hX13
      have gX13 : upd H12 X13 (.lst [.ref X12]) X13 = some (.lst [.ref X12]) := upd_same
      generalize upd H12 X13 (.lst [.ref X12]) = H13 at s13 gX13
      have ci13 : CodeAt H13 [V.ref X12] [Ins.jump "skip" ((code n c (ns ++ [z, y])).length + 1)] := ca1 (i := Ins.jump "skip" ((code n c (ns ++ [z, y])).length + 1)) ⟨X12, rfl, (s13 _ _ gX12)⟩
      refine ⟨X11, X13, _, _, rfl, rfl, ((Same.tr s12 s13) _ _ gX11), gX13, by (try simp only [List.length_append, List.length_cons, List.length_nil]); omega, fun X14 hX14 => ?_⟩
      have s14 : Same H13 (upd H13 X14 (.lst (((w7 ++ [V.ref X8]) ++ w3) ++ [V.ref X12]))) := same_upd hX14
      have gX14 : upd H13 X14 (.lst (((w7 ++ [V.ref X8]) ++ w3) ++ [V.ref X12])) X14 = some (.lst (((w7 ++ [V.ref X8]) ++ w3) ++ [V.ref X12])) := upd_same
      have cX14 := CodeAt.keep (CodeAt.app (CodeAt.keep cX11 (TupK.of (Same.tr s12 s13))) ci13) (TupK.of s14)
      generalize upd H13 X14 (.lst (((w7 ++ [V.ref X8]) ++ w3) ++ [V.ref X12])) = H14 at s14 gX14 cX14
      refine ⟨_, rfl, ?_⟩
      refine ⟨X14, l6, _, _, rfl, rfl, gX14, ((Same.tr s7 (Same.tr s8 (Same.tr s9 (Same.tr s10 (Same.tr s11 (Same.tr s12 (Same.tr s13 s14))))))) _ _ h6), by (try simp only [List.length_append, List.length_cons, List.length_nil]); omega, fun X15 hX15 => ?_⟩
      have s15 : Same H14 (upd H14 X15 (.lst ((((w7 ++ [V.ref X8]) ++ w3) ++ [V.ref X12]) ++ w6))) := same_upd hX15
      have gX15 : upd H14 X15 (.lst ((((w7 ++ [V.ref X8]) ++ w3) ++ [V.ref X12]) ++ w6)) X15 = some (.lst ((((w7 ++ [V.ref X8]) ++ w3) ++ [V.ref X12]) ++ w6)) := upd_same
      have cX15 := CodeAt.keep (CodeAt.app cX14 (CodeAt.keep c6 (TupK.of (Same.tr s7 (Same.tr s8 (Same.tr s9 (Same.tr s10 (Same.tr s11 (Same.tr s12 (Same.tr s13 s14)))))))))) (TupK.of s15)
      generalize upd H14 X15 (.lst ((((w7 ++ [V.ref X8]) ++ w3) ++ [V.ref X12]) ++ w6)) = H15 at s15 gX15 cX15
      refine ⟨by show 2 ≤ sizeLine; decide, fun X16 hX16 => ?_⟩
      have s16 : Same H15 (upd H15 X16 (.tup [.str "leave", .int 2])) := same_upd hX16
      have gX16 : upd H15 X16 (.tup [.str "leave", .int 2]) X16 = some (.tup [.str "leave", .int 2]) := upd_same
      generalize upd H15 X16 (.tup [.str "leave", .int 2]) = H16 at s16 gX16
      refine ⟨by show 1 ≤ sizeLine; decide, fun X17 hX17 => ?_⟩
      have s17 : Same H16 (upd H16 X17 (.lst [.ref X16])) := same_upd hX17
      have gX17 : upd H16 X17 (.lst [.ref X16]) X17 = some (.lst [.ref X16]) := upd_same
      generalize upd H16 X17 (.lst [.ref X16]) = H17 at s17 gX17
      have ci17 : CodeAt H17 [V.ref X16] [Ins.plain "leave" [.int 2]] := ca1 (i := Ins.plain "leave" [.int 2]) ⟨X16, rfl, (s17 _ _ gX16)⟩
      have r := CodeAt.app (CodeAt.keep cX15 (TupK.of (Same.tr s16 s17))) ci17
      refine ⟨X15, X17, _, _, rfl, rfl, ((Same.tr s16 s17) _ _ gX15), gX17, by (try simp only [List.length_append, List.length_cons, List.length_nil]); omega, retl_new qq (Same.tr s1 (Same.tr s2 (Same.tr s3 (Same.tr s4 (Same.tr s5 (Same.tr s6 (Same.tr s7 (Same.tr s8 (Same.tr s9 (Same.tr s10 (Same.tr s11 (Same.tr s12 (Same.tr s13 (Same.tr s14 (Same.tr s15 (Same.tr s16 s17)))))))))))))))) ?_⟩
      try simp only [List.append_assoc, List.cons_append, List.nil_append] at r ⊢
      exact cast (by simp only [code, binC, List.append_assoc, List.cons_append, List.nil_append, ite_true, ite_false]) r
    | neg a =>
      obtain ⟨t, u, rfl, ht, ha⟩ := he
      refine ⟨_, rfl, t, _, 0, _, rfl, rfl, SqT.of ht, rfl, _, rfl, by show 3 ≤ sizeLine; decide, fun X1 hX1 => ⟨X1, _, rfl, .inl (SqL.of upd_same), rfl, rfl, _, rfl, iteNo (by decide +kernel) ?_⟩⟩
      have s1 : Same H (upd H X1 (.lst [.str "number", .str "text", .str "bool"])) := same_upd hX1
      generalize upd H X1 (.lst [.str "number", .str "text", .str "bool"]) = H1 at s1
      refine ⟨_, rfl, rfl, _, rfl, iteNo (by decide +kernel) ?_⟩
      refine ⟨_, rfl, by show 3 ≤ sizeLine; decide, fun X2 hX2 => ⟨X2, _, rfl, .inl (SqL.of upd_same), rfl, rfl, _, rfl, iteNo (by decide +kernel) ?_⟩⟩
      have s2 : Same H1 (upd H1 X2 (.lst [.str "list", .str "call", .str "make"])) := same_upd hX2
      generalize upd H1 X2 (.lst [.str "list", .str "call", .str "make"]) = H2 at s2
      refine ⟨_, rfl, rfl, _, rfl, iteNo (by decide +kernel) ?_⟩
      refine ⟨_, rfl, rfl, _, rfl, iteNo (by decide +kernel) ?_⟩
      refine ⟨_, rfl, rfl, _, rfl, iteNo (by decide +kernel) ?_⟩
      refine ⟨_, rfl, ((1 : Nat) : Int), rfl, t, _, rfl, SqT.of ((Same.tr s1 s2) _ _ ht), fun z => absurd z.1 (by show ¬ HT.sIx 2 0 (some ((1 : Nat) : Int)) = 0; decide +kernel), fun X3 hX3 => ?_⟩
      have s3 : Same H2 (upd H2 X3 (.tup (cutV [.str "not", u] (some ((1 : Nat) : Int)) none))) := same_upd hX3
      have gX3 : upd H2 X3 (.tup (cutV [.str "not", u] (some ((1 : Nat) : Int)) none)) X3 = some (.tup [u]) := by rw [upd_same, cut_from] <;> rfl
      generalize upd H2 X3 (.tup (cutV [.str "not", u] (some ((1 : Nat) : Int)) none)) = H3 at s3 gX3
      have hit : All2 (ItAt H3 n) [u] [some a] := .cons (ha.keep (TupK.of (Same.tr s1 (Same.tr s2 s3)))) (.nil)
      refine ⟨X3, rfl, ⟨_, SqT.of gX3⟩, fun D hD => ?_⟩
      refine lc_it walk_tup (fun i H' => Same H3 H' ∧ ∃ acc, H' D = some (.lst acc) ∧ All2 (LcAt D H') acc ((([some a].take i).filterMap id).map fun e => code n e ns)) ⟨same_upd hD, [], upd_same, .nil⟩ (fun i H' _ p => SqT.of (p.1 _ _ gX3)) ?_ ?_
      · rintro i x Hx Hy hi ⟨sy, acc, hDy, hacc⟩ ⟨rfl, hx⟩
        obtain ⟨o, ho, hxo⟩ := hit.get hx
        cases o with
        | none =>
          obtain ⟨z, rfl⟩ := hxo
          refine ⟨rfl, _, rfl, _, "str", "tuple", false, rfl, .base (.str z), by decide +kernel, false, rfl, iteF ⟨sy, acc, hDy, ?_⟩⟩
          rw [List.take_add_one, ho, List.filterMap_append, List.map_append]
          show All2 _ acc (_ ++ [])
          rw [List.append_nil]
          exact hacc
        | some e =>
          have hxe : ExAt Hy n e x := ExAt.keep (TupK.of sy) hxo
          obtain ⟨tt, ut, rfl, htt⟩ := hxe.tup
          refine ⟨rfl, _, rfl, _, "tuple", "tuple", true, rfl, .base (.tup htt), by decide +kernel, true, rfl, iteT ?_⟩
          refine ⟨_, rfl, _, rfl, _, .ref nl, e, ns, rfl, hxe, ⟨_, rfl, sy _ _ ((Same.tr s1 (Same.tr s2 s3)) _ _ hn)⟩, by omega, fun l Hz w1 sz hl hz1 hc => ?_⟩
          have nlD : l ≠ D := fun z => by rw [z, hDy] at hl; cases hl
          have hDz := sz _ _ hDy
          refine ⟨acc, hDz, ?_, fun c o hco => ?_, _, upd_same, ?_⟩
          · have h1 := hacc.len
            rw [List.length_map] at h1
            have h2 := List.length_filterMap_le id ([some a].take i)
            rw [List.length_take] at h2
            have h3 : i < 1 := hi
            omega
          · rw [upd_ne (ne_of_none hco hD)]
            exact sz _ _ (sy _ _ hco)
          · rw [List.take_add_one, ho, List.filterMap_append, List.map_append]
            exact (hacc.mono fun x y h => (h.same sz).upd hDz).app (.one ⟨l, w1, rfl, nlD, by rw [upd_ne nlD]; exact hz1, hc.keep (tk_lst hDz)⟩)
      · rintro H4 ⟨s4, acc, hDe, hacc⟩
        have hA0 : All2 (LcAt D H4) acc [code n a ns] := hacc
        clear hacc
        cases hA0 with | cons p0 hA1 =>
        obtain ⟨q0, v0, rfl, _, r0, d0⟩ := p0
        have f0 := ca_len d0
        have n0 := code_len ns ha
        cases hA1
        clear hit
        refine ⟨_, rfl, rfl, _, rfl, iteYes (by decide +kernel) ?_⟩
        refine ⟨_, rfl, D, _, 0, _, rfl, rfl, SqL.of hDe, rfl, ?_⟩
        refine ⟨by show 1 ≤ sizeLine; decide, fun X4 hX4 => ?_⟩
        have s5 : Same H4 (upd H4 X4 (.tup [.str "not"])) := same_upd hX4
        have gX4 : upd H4 X4 (.tup [.str "not"]) X4 = some (.tup [.str "not"]) := upd_same
        generalize upd H4 X4 (.tup [.str "not"]) = H5 at s5 gX4
        refine ⟨by show 1 ≤ sizeLine; decide, fun X5 hX5 => ?_⟩
        have s6 : Same H5 (upd H5 X5 (.lst [.ref X4])) := same_upd hX5
        have gX5 : upd H5 X5 (.lst [.ref X4]) X5 = some (.lst [.ref X4]) := upd_same
        generalize upd H5 X5 (.lst [.ref X4]) = H6 at s6 gX5
        have ci5 : CodeAt H6 [V.ref X4] [Ins.plain "not" []] := ca1 (i := Ins.plain "not" []) ⟨X4, rfl, (s6 _ _ gX4)⟩
        have r := CodeAt.app (CodeAt.keep d0 (TupK.of (Same.tr s5 s6))) ci5
        refine ⟨q0, X5, _, _, rfl, rfl, ((Same.tr s5 s6) _ _ r0), gX5, by (try simp only [List.length_append, List.length_cons, List.length_nil]); omega, retl_new qq (Same.tr s1 (Same.tr s2 (Same.tr s3 (Same.tr s4 (Same.tr s5 s6))))) ?_⟩
        try simp only [List.append_assoc, List.cons_append, List.nil_append] at r ⊢
        exact cast (by simp only [code, binC, List.append_assoc, List.cons_append, List.nil_append, ite_true, ite_false]) r
    | cons a b =>
      obtain ⟨t, u, v, rfl, ht, ha, hb⟩ := he
      refine ⟨_, rfl, t, _, 0, _, rfl, rfl, SqT.of ht, rfl, _, rfl, by show 3 ≤ sizeLine; decide, fun X1 hX1 => ⟨X1, _, rfl, .inl (SqL.of upd_same), rfl, rfl, _, rfl, iteNo (by decide +kernel) ?_⟩⟩
      have s1 : Same H (upd H X1 (.lst [.str "number", .str "text", .str "bool"])) := same_upd hX1
      generalize upd H X1 (.lst [.str "number", .str "text", .str "bool"]) = H1 at s1
      refine ⟨_, rfl, rfl, _, rfl, iteNo (by decide +kernel) ?_⟩
      refine ⟨_, rfl, by show 3 ≤ sizeLine; decide, fun X2 hX2 => ⟨X2, _, rfl, .inl (SqL.of upd_same), rfl, rfl, _, rfl, iteNo (by decide +kernel) ?_⟩⟩
      have s2 : Same H1 (upd H1 X2 (.lst [.str "list", .str "call", .str "make"])) := same_upd hX2
      generalize upd H1 X2 (.lst [.str "list", .str "call", .str "make"]) = H2 at s2
      refine ⟨_, rfl, rfl, _, rfl, iteNo (by decide +kernel) ?_⟩
      refine ⟨_, rfl, rfl, _, rfl, iteNo (by decide +kernel) ?_⟩
      refine ⟨_, rfl, rfl, _, rfl, iteNo (by decide +kernel) ?_⟩
      refine ⟨_, rfl, ((1 : Nat) : Int), rfl, t, _, rfl, SqT.of ((Same.tr s1 s2) _ _ ht), fun z => absurd z.1 (by show ¬ HT.sIx 3 0 (some ((1 : Nat) : Int)) = 0; decide +kernel), fun X3 hX3 => ?_⟩
      have s3 : Same H2 (upd H2 X3 (.tup (cutV [.str "cons", u, v] (some ((1 : Nat) : Int)) none))) := same_upd hX3
      have gX3 : upd H2 X3 (.tup (cutV [.str "cons", u, v] (some ((1 : Nat) : Int)) none)) X3 = some (.tup [u, v]) := by rw [upd_same, cut_from] <;> rfl
      generalize upd H2 X3 (.tup (cutV [.str "cons", u, v] (some ((1 : Nat) : Int)) none)) = H3 at s3 gX3
      have hit : All2 (ItAt H3 n) [u, v] [some a, some b] := .cons (ha.keep (TupK.of (Same.tr s1 (Same.tr s2 s3)))) (.cons (hb.keep (TupK.of (Same.tr s1 (Same.tr s2 s3)))) (.nil))
      refine ⟨X3, rfl, ⟨_, SqT.of gX3⟩, fun D hD => ?_⟩
      refine lc_it walk_tup (fun i H' => Same H3 H' ∧ ∃ acc, H' D = some (.lst acc) ∧ All2 (LcAt D H') acc ((([some a, some b].take i).filterMap id).map fun e => code n e ns)) ⟨same_upd hD, [], upd_same, .nil⟩ (fun i H' _ p => SqT.of (p.1 _ _ gX3)) ?_ ?_
      · rintro i x Hx Hy hi ⟨sy, acc, hDy, hacc⟩ ⟨rfl, hx⟩
        obtain ⟨o, ho, hxo⟩ := hit.get hx
        cases o with
        | none =>
          obtain ⟨z, rfl⟩ := hxo
          refine ⟨rfl, _, rfl, _, "str", "tuple", false, rfl, .base (.str z), by decide +kernel, false, rfl, iteF ⟨sy, acc, hDy, ?_⟩⟩
          rw [List.take_add_one, ho, List.filterMap_append, List.map_append]
          show All2 _ acc (_ ++ [])
          rw [List.append_nil]
          exact hacc
        | some e =>
          have hxe : ExAt Hy n e x := ExAt.keep (TupK.of sy) hxo
          obtain ⟨tt, ut, rfl, htt⟩ := hxe.tup
          refine ⟨rfl, _, rfl, _, "tuple", "tuple", true, rfl, .base (.tup htt), by decide +kernel, true, rfl, iteT ?_⟩
          refine ⟨_, rfl, _, rfl, _, .ref nl, e, ns, rfl, hxe, ⟨_, rfl, sy _ _ ((Same.tr s1 (Same.tr s2 s3)) _ _ hn)⟩, by omega, fun l Hz w1 sz hl hz1 hc => ?_⟩
          have nlD : l ≠ D := fun z => by rw [z, hDy] at hl; cases hl
          have hDz := sz _ _ hDy
          refine ⟨acc, hDz, ?_, fun c o hco => ?_, _, upd_same, ?_⟩
          · have h1 := hacc.len
            rw [List.length_map] at h1
            have h2 := List.length_filterMap_le id ([some a, some b].take i)
            rw [List.length_take] at h2
            have h3 : i < 2 := hi
            omega
          · rw [upd_ne (ne_of_none hco hD)]
            exact sz _ _ (sy _ _ hco)
          · rw [List.take_add_one, ho, List.filterMap_append, List.map_append]
            exact (hacc.mono fun x y h => (h.same sz).upd hDz).app (.one ⟨l, w1, rfl, nlD, by rw [upd_ne nlD]; exact hz1, hc.keep (tk_lst hDz)⟩)
      · rintro H4 ⟨s4, acc, hDe, hacc⟩
        have hA0 : All2 (LcAt D H4) acc [code n a ns, code n b ns] := hacc
        clear hacc
        cases hA0 with | cons p0 hA1 =>
        obtain ⟨q0, v0, rfl, _, r0, d0⟩ := p0
        have f0 := ca_len d0
        have n0 := code_len ns ha
        cases hA1 with | cons p1 hA2 =>
        obtain ⟨q1, v1, rfl, _, r1, d1⟩ := p1
        have f1 := ca_len d1
        have n1 := code_len ns hb
        cases hA2
        clear hit
        refine ⟨_, rfl, rfl, _, rfl, iteNo (by decide +kernel) ?_⟩
        refine ⟨_, rfl, rfl, _, rfl, iteYes (by decide +kernel) ?_⟩
        refine ⟨_, rfl, D, _, 0, _, rfl, rfl, SqL.of hDe, rfl, ?_⟩
        refine ⟨_, rfl, D, _, 1, _, rfl, rfl, SqL.of hDe, rfl, ?_⟩
        refine ⟨q0, q1, _, _, rfl, rfl, r0, r1, by (try simp only [List.length_append, List.length_cons, List.length_nil]); omega, fun X4 hX4 => ?_⟩
        have s5 : Same H4 (upd H4 X4 (.lst (v0 ++ v1))) := same_upd hX4
        have gX4 : upd H4 X4 (.lst (v0 ++ v1)) X4 = some (.lst (v0 ++ v1)) := upd_same
        have cX4 := CodeAt.keep (CodeAt.app d0 d1) (TupK.of s5)
        generalize upd H4 X4 (.lst (v0 ++ v1)) = H5 at s5 gX4 cX4
        refine ⟨by show 1 ≤ sizeLine; decide, fun X5 hX5 => ?_⟩
        have s6 : Same H5 (upd H5 X5 (.tup [.str "pair"])) := same_upd hX5
        have gX5 : upd H5 X5 (.tup [.str "pair"]) X5 = some (.tup [.str "pair"]) := upd_same
        generalize upd H5 X5 (.tup [.str "pair"]) = H6 at s6 gX5
        refine ⟨by show 1 ≤ sizeLine; decide, fun X6 hX6 => ?_⟩
        have s7 : Same H6 (upd H6 X6 (.lst [.ref X5])) := same_upd hX6
        have gX6 : upd H6 X6 (.lst [.ref X5]) X6 = some (.lst [.ref X5]) := upd_same
        generalize upd H6 X6 (.lst [.ref X5]) = H7 at s7 gX6
        have ci6 : CodeAt H7 [V.ref X5] [Ins.plain "pair" []] := ca1 (i := Ins.plain "pair" []) ⟨X5, rfl, (s7 _ _ gX5)⟩
        have r := CodeAt.app (CodeAt.keep cX4 (TupK.of (Same.tr s6 s7))) ci6
        refine ⟨X4, X6, _, _, rfl, rfl, ((Same.tr s6 s7) _ _ gX4), gX6, by (try simp only [List.length_append, List.length_cons, List.length_nil]); omega, retl_new qq (Same.tr s1 (Same.tr s2 (Same.tr s3 (Same.tr s4 (Same.tr s5 (Same.tr s6 s7)))))) ?_⟩
        try simp only [List.append_assoc, List.cons_append, List.nil_append] at r ⊢
        exact cast (by simp only [code, binC, List.append_assoc, List.cons_append, List.nil_append, ite_true, ite_false]) r
    | ife a b c =>
      obtain ⟨t, u, v, w, rfl, ht, ha, hb, hc⟩ := he
      refine ⟨_, rfl, t, _, 0, _, rfl, rfl, SqT.of ht, rfl, _, rfl, by show 3 ≤ sizeLine; decide, fun X1 hX1 => ⟨X1, _, rfl, .inl (SqL.of upd_same), rfl, rfl, _, rfl, iteNo (by decide +kernel) ?_⟩⟩
      have s1 : Same H (upd H X1 (.lst [.str "number", .str "text", .str "bool"])) := same_upd hX1
      generalize upd H X1 (.lst [.str "number", .str "text", .str "bool"]) = H1 at s1
      refine ⟨_, rfl, rfl, _, rfl, iteNo (by decide +kernel) ?_⟩
      refine ⟨_, rfl, by show 3 ≤ sizeLine; decide, fun X2 hX2 => ⟨X2, _, rfl, .inl (SqL.of upd_same), rfl, rfl, _, rfl, iteNo (by decide +kernel) ?_⟩⟩
      have s2 : Same H1 (upd H1 X2 (.lst [.str "list", .str "call", .str "make"])) := same_upd hX2
      generalize upd H1 X2 (.lst [.str "list", .str "call", .str "make"]) = H2 at s2
      refine ⟨_, rfl, rfl, _, rfl, iteNo (by decide +kernel) ?_⟩
      refine ⟨_, rfl, rfl, _, rfl, iteNo (by decide +kernel) ?_⟩
      refine ⟨_, rfl, rfl, _, rfl, iteNo (by decide +kernel) ?_⟩
      refine ⟨_, rfl, ((1 : Nat) : Int), rfl, t, _, rfl, SqT.of ((Same.tr s1 s2) _ _ ht), fun z => absurd z.1 (by show ¬ HT.sIx 4 0 (some ((1 : Nat) : Int)) = 0; decide +kernel), fun X3 hX3 => ?_⟩
      have s3 : Same H2 (upd H2 X3 (.tup (cutV [.str "if", u, v, w] (some ((1 : Nat) : Int)) none))) := same_upd hX3
      have gX3 : upd H2 X3 (.tup (cutV [.str "if", u, v, w] (some ((1 : Nat) : Int)) none)) X3 = some (.tup [u, v, w]) := by rw [upd_same, cut_from] <;> rfl
      generalize upd H2 X3 (.tup (cutV [.str "if", u, v, w] (some ((1 : Nat) : Int)) none)) = H3 at s3 gX3
      have hit : All2 (ItAt H3 n) [u, v, w] [some a, some b, some c] := .cons (ha.keep (TupK.of (Same.tr s1 (Same.tr s2 s3)))) (.cons (hb.keep (TupK.of (Same.tr s1 (Same.tr s2 s3)))) (.cons (hc.keep (TupK.of (Same.tr s1 (Same.tr s2 s3)))) (.nil)))
      refine ⟨X3, rfl, ⟨_, SqT.of gX3⟩, fun D hD => ?_⟩
      refine lc_it walk_tup (fun i H' => Same H3 H' ∧ ∃ acc, H' D = some (.lst acc) ∧ All2 (LcAt D H') acc ((([some a, some b, some c].take i).filterMap id).map fun e => code n e ns)) ⟨same_upd hD, [], upd_same, .nil⟩ (fun i H' _ p => SqT.of (p.1 _ _ gX3)) ?_ ?_
      · rintro i x Hx Hy hi ⟨sy, acc, hDy, hacc⟩ ⟨rfl, hx⟩
        obtain ⟨o, ho, hxo⟩ := hit.get hx
        cases o with
        | none =>
          obtain ⟨z, rfl⟩ := hxo
          refine ⟨rfl, _, rfl, _, "str", "tuple", false, rfl, .base (.str z), by decide +kernel, false, rfl, iteF ⟨sy, acc, hDy, ?_⟩⟩
          rw [List.take_add_one, ho, List.filterMap_append, List.map_append]
          show All2 _ acc (_ ++ [])
          rw [List.append_nil]
          exact hacc
        | some e =>
          have hxe : ExAt Hy n e x := ExAt.keep (TupK.of sy) hxo
          obtain ⟨tt, ut, rfl, htt⟩ := hxe.tup
          refine ⟨rfl, _, rfl, _, "tuple", "tuple", true, rfl, .base (.tup htt), by decide +kernel, true, rfl, iteT ?_⟩
          refine ⟨_, rfl, _, rfl, _, .ref nl, e, ns, rfl, hxe, ⟨_, rfl, sy _ _ ((Same.tr s1 (Same.tr s2 s3)) _ _ hn)⟩, by omega, fun l Hz w1 sz hl hz1 hc => ?_⟩
          have nlD : l ≠ D := fun z => by rw [z, hDy] at hl; cases hl
          have hDz := sz _ _ hDy
          refine ⟨acc, hDz, ?_, fun c o hco => ?_, _, upd_same, ?_⟩
          · have h1 := hacc.len
            rw [List.length_map] at h1
            have h2 := List.length_filterMap_le id ([some a, some b, some c].take i)
            rw [List.length_take] at h2
            have h3 : i < 3 := hi
            omega
          · rw [upd_ne (ne_of_none hco hD)]
            exact sz _ _ (sy _ _ hco)
          · rw [List.take_add_one, ho, List.filterMap_append, List.map_append]
            exact (hacc.mono fun x y h => (h.same sz).upd hDz).app (.one ⟨l, w1, rfl, nlD, by rw [upd_ne nlD]; exact hz1, hc.keep (tk_lst hDz)⟩)
      · rintro H4 ⟨s4, acc, hDe, hacc⟩
        have hA0 : All2 (LcAt D H4) acc [code n a ns, code n b ns, code n c ns] := hacc
        clear hacc
        cases hA0 with | cons p0 hA1 =>
        obtain ⟨q0, v0, rfl, _, r0, d0⟩ := p0
        have f0 := ca_len d0
        have n0 := code_len ns ha
        cases hA1 with | cons p1 hA2 =>
        obtain ⟨q1, v1, rfl, _, r1, d1⟩ := p1
        have f1 := ca_len d1
        have n1 := code_len ns hb
        cases hA2 with | cons p2 hA3 =>
        obtain ⟨q2, v2, rfl, _, r2, d2⟩ := p2
        have f2 := ca_len d2
        have n2 := code_len ns hc
        cases hA3
        clear hit
        refine ⟨_, rfl, rfl, _, rfl, iteNo (by decide +kernel) ?_⟩
        refine ⟨_, rfl, rfl, _, rfl, iteNo (by decide +kernel) ?_⟩
        refine ⟨_, rfl, rfl, _, rfl, iteYes (by decide +kernel) ?_⟩
        refine ⟨_, rfl, D, _, 0, _, rfl, rfl, SqL.of hDe, rfl, ?_⟩
        refine ⟨_, rfl, D, _, 1, _, rfl, rfl, SqL.of hDe, rfl, q1, _, rfl, .inl (SqL.of r1), _, _, rfl, rfl, by show 2 ≤ sizeLine; decide, fun X4 hX4 => ?_⟩
        have s5 : Same H4 (upd H4 X4 (.tup [.str "unless", .int ((v1.length : Int) + 1)])) := same_upd hX4
        have gX4 : upd H4 X4 (.tup [.str "unless", .int ((v1.length : Int) + 1)]) X4 = some (.tup [.str "unless", vi ((code n b ns).length + 1)]) := by rw [upd_same, f1] <;> rfl
        generalize upd H4 X4 (.tup [.str "unless", .int ((v1.length : Int) + 1)]) = H5 at s5 gX4
        refine ⟨by show 1 ≤ sizeLine; decide, fun X5 hX5 => ?_⟩
        have s6 : Same H5 (upd H5 X5 (.lst [.ref X4])) := same_upd hX5
        have gX5 : upd H5 X5 (.lst [.ref X4]) X5 = some (.lst [.ref X4]) := upd_same
        generalize upd H5 X5 (.lst [.ref X4]) = H6 at s6 gX5
        have ci5 : CodeAt H6 [V.ref X4] [Ins.jump "unless" ((code n b ns).length + 1)] := ca1 (i := Ins.jump "unless" ((code n b ns).length + 1)) ⟨X4, rfl, (s6 _ _ gX4)⟩
        refine ⟨q0, X5, _, _, rfl, rfl, ((Same.tr s5 s6) _ _ r0), gX5, by (try simp only [List.length_append, List.length_cons, List.length_nil]); omega, fun X6 hX6 => ?_⟩
        have s7 : Same H6 (upd H6 X6 (.lst (v0 ++ [V.ref X4]))) := same_upd hX6
        have gX6 : upd H6 X6 (.lst (v0 ++ [V.ref X4])) X6 = some (.lst (v0 ++ [V.ref X4])) := upd_same
        have cX6 := CodeAt.keep (CodeAt.app (CodeAt.keep d0 (TupK.of (Same.tr s5 s6))) ci5) (TupK.of s7)
        generalize upd H6 X6 (.lst (v0 ++ [V.ref X4])) = H7 at s7 gX6 cX6
        refine ⟨_, rfl, D, _, 1, _, rfl, rfl, SqL.of ((Same.tr s5 (Same.tr s6 s7)) _ _ hDe), rfl, ?_⟩
        refine ⟨X6, q1, _, _, rfl, rfl, gX6, ((Same.tr s5 (Same.tr s6 s7)) _ _ r1), by (try simp only [List.length_append, List.length_cons, List.length_nil]); omega, fun X7 hX7 => ?_⟩
        have s8 : Same H7 (upd H7 X7 (.lst ((v0 ++ [V.ref X4]) ++ v1))) := same_upd hX7
        have gX7 : upd H7 X7 (.lst ((v0 ++ [V.ref X4]) ++ v1)) X7 = some (.lst ((v0 ++ [V.ref X4]) ++ v1)) := upd_same
        have cX7 := CodeAt.keep (CodeAt.app cX6 (CodeAt.keep d1 (TupK.of (Same.tr s5 (Same.tr s6 s7))))) (TupK.of s8)
        generalize upd H7 X7 (.lst ((v0 ++ [V.ref X4]) ++ v1)) = H8 at s8 gX7 cX7
        refine ⟨_, rfl, ?_⟩
        refine ⟨_, rfl, D, _, 2, _, rfl, rfl, SqL.of ((Same.tr s5 (Same.tr s6 (Same.tr s7 s8))) _ _ hDe), rfl, q2, _, rfl, .inl (SqL.of ((Same.tr s5 (Same.tr s6 (Same.tr s7 s8))) _ _ r2)), by show 2 ≤ sizeLine; decide, fun X8 hX8 => ?_⟩
        have s9 : Same H8 (upd H8 X8 (.tup [.str "skip", .int (v2.length : Int)])) := same_upd hX8
        have gX8 : upd H8 X8 (.tup [.str "skip", .int (v2.length : Int)]) X8 = some (.tup [.str "skip", vi (code n c ns).length]) := by rw [upd_same, f2] <;> rfl
        generalize upd H8 X8 (.tup [.str "skip", .int (v2.length : Int)]) = H9 at s9 gX8
        refine ⟨by show 1 ≤ sizeLine; decide, fun X9 hX9 => ?_⟩
        have s10 : Same H9 (upd H9 X9 (.lst [.ref X8])) := same_upd hX9
        have gX9 : upd H9 X9 (.lst [.ref X8]) X9 = some (.lst [.ref X8]) := upd_same
        generalize upd H9 X9 (.lst [.ref X8]) = H10 at s10 gX9
        have ci9 : CodeAt H10 [V.ref X8] [Ins.jump "skip" (code n c ns).length] := ca1 (i := Ins.jump "skip" (code n c ns).length) ⟨X8, rfl, (s10 _ _ gX8)⟩
        refine ⟨X7, X9, _, _, rfl, rfl, ((Same.tr s9 s10) _ _ gX7), gX9, by (try simp only [List.length_append, List.length_cons, List.length_nil]); omega, fun X10 hX10 => ?_⟩
        have s11 : Same H10 (upd H10 X10 (.lst (((v0 ++ [V.ref X4]) ++ v1) ++ [V.ref X8]))) := same_upd hX10
        have gX10 : upd H10 X10 (.lst (((v0 ++ [V.ref X4]) ++ v1) ++ [V.ref X8])) X10 = some (.lst (((v0 ++ [V.ref X4]) ++ v1) ++ [V.ref X8])) := upd_same
        have cX10 := CodeAt.keep (CodeAt.app (CodeAt.keep cX7 (TupK.of (Same.tr s9 s10))) ci9) (TupK.of s11)
        generalize upd H10 X10 (.lst (((v0 ++ [V.ref X4]) ++ v1) ++ [V.ref X8])) = H11 at s11 gX10 cX10
        refine ⟨_, rfl, D, _, 2, _, rfl, rfl, SqL.of ((Same.tr s5 (Same.tr s6 (Same.tr s7 (Same.tr s8 (Same.tr s9 (Same.tr s10 s11)))))) _ _ hDe), rfl, ?_⟩
        have r := CodeAt.app cX10 (CodeAt.keep d2 (TupK.of (Same.tr s5 (Same.tr s6 (Same.tr s7 (Same.tr s8 (Same.tr s9 (Same.tr s10 s11))))))))
        refine ⟨X10, q2, _, _, rfl, rfl, gX10, ((Same.tr s5 (Same.tr s6 (Same.tr s7 (Same.tr s8 (Same.tr s9 (Same.tr s10 s11)))))) _ _ r2), by (try simp only [List.length_append, List.length_cons, List.length_nil]); omega, retl_new qq (Same.tr s1 (Same.tr s2 (Same.tr s3 (Same.tr s4 (Same.tr s5 (Same.tr s6 (Same.tr s7 (Same.tr s8 (Same.tr s9 (Same.tr s10 s11)))))))))) ?_⟩
        try simp only [List.append_assoc, List.cons_append, List.nil_append] at r ⊢
        exact cast (by simp only [code, binC, List.append_assoc, List.cons_append, List.nil_append, ite_true, ite_false]) r
    | bin op a b =>
      obtain ⟨hop, t, u, v, rfl, ht, ha, hb⟩ := he
      refine ⟨_, rfl, t, _, 0, _, rfl, rfl, SqT.of ht, rfl, _, rfl, by show 3 ≤ sizeLine; decide, fun X1 hX1 => ⟨X1, _, rfl, .inl (SqL.of upd_same), rfl, rfl, _, rfl, iteNo (by decide +kernel) ?_⟩⟩
      have s1 : Same H (upd H X1 (.lst [.str "number", .str "text", .str "bool"])) := same_upd hX1
      generalize upd H X1 (.lst [.str "number", .str "text", .str "bool"]) = H1 at s1
      refine ⟨_, rfl, rfl, _, rfl, iteNo (by decide +kernel) ?_⟩
      refine ⟨_, rfl, by show 3 ≤ sizeLine; decide, fun X2 hX2 => ⟨X2, _, rfl, .inl (SqL.of upd_same), rfl, rfl, _, rfl, iteNo (by decide +kernel) ?_⟩⟩
      have s2 : Same H1 (upd H1 X2 (.lst [.str "list", .str "call", .str "make"])) := same_upd hX2
      generalize upd H1 X2 (.lst [.str "list", .str "call", .str "make"]) = H2 at s2
      refine ⟨_, rfl, rfl, _, rfl, iteNo (by decide +kernel) ?_⟩
      refine ⟨_, rfl, rfl, _, rfl, iteNo (by decide +kernel) ?_⟩
      refine ⟨_, rfl, rfl, _, rfl, iteNo (by decide +kernel) ?_⟩
      refine ⟨_, rfl, ((1 : Nat) : Int), rfl, t, _, rfl, SqT.of ((Same.tr s1 s2) _ _ ht), fun z => absurd z.1 (by show ¬ HT.sIx 4 0 (some ((1 : Nat) : Int)) = 0; decide +kernel), fun X3 hX3 => ?_⟩
      have s3 : Same H2 (upd H2 X3 (.tup (cutV [.str "binary", .str op, u, v] (some ((1 : Nat) : Int)) none))) := same_upd hX3
      have gX3 : upd H2 X3 (.tup (cutV [.str "binary", .str op, u, v] (some ((1 : Nat) : Int)) none)) X3 = some (.tup [.str op, u, v]) := by rw [upd_same, cut_from] <;> rfl
      generalize upd H2 X3 (.tup (cutV [.str "binary", .str op, u, v] (some ((1 : Nat) : Int)) none)) = H3 at s3 gX3
      have hit : All2 (ItAt H3 n) [.str op, u, v] [none, some a, some b] := .cons ⟨_, rfl⟩ (.cons (ha.keep (TupK.of (Same.tr s1 (Same.tr s2 s3)))) (.cons (hb.keep (TupK.of (Same.tr s1 (Same.tr s2 s3)))) (.nil)))
      refine ⟨X3, rfl, ⟨_, SqT.of gX3⟩, fun D hD => ?_⟩
      refine lc_it walk_tup (fun i H' => Same H3 H' ∧ ∃ acc, H' D = some (.lst acc) ∧ All2 (LcAt D H') acc ((([none, some a, some b].take i).filterMap id).map fun e => code n e ns)) ⟨same_upd hD, [], upd_same, .nil⟩ (fun i H' _ p => SqT.of (p.1 _ _ gX3)) ?_ ?_
      · rintro i x Hx Hy hi ⟨sy, acc, hDy, hacc⟩ ⟨rfl, hx⟩
        obtain ⟨o, ho, hxo⟩ := hit.get hx
        cases o with
        | none =>
          obtain ⟨z, rfl⟩ := hxo
          refine ⟨rfl, _, rfl, _, "str", "tuple", false, rfl, .base (.str z), by decide +kernel, false, rfl, iteF ⟨sy, acc, hDy, ?_⟩⟩
          rw [List.take_add_one, ho, List.filterMap_append, List.map_append]
          show All2 _ acc (_ ++ [])
          rw [List.append_nil]
          exact hacc
        | some e =>
          have hxe : ExAt Hy n e x := ExAt.keep (TupK.of sy) hxo
          obtain ⟨tt, ut, rfl, htt⟩ := hxe.tup
          refine ⟨rfl, _, rfl, _, "tuple", "tuple", true, rfl, .base (.tup htt), by decide +kernel, true, rfl, iteT ?_⟩
          refine ⟨_, rfl, _, rfl, _, .ref nl, e, ns, rfl, hxe, ⟨_, rfl, sy _ _ ((Same.tr s1 (Same.tr s2 s3)) _ _ hn)⟩, by omega, fun l Hz w1 sz hl hz1 hc => ?_⟩
          have nlD : l ≠ D := fun z => by rw [z, hDy] at hl; cases hl
          have hDz := sz _ _ hDy
          refine ⟨acc, hDz, ?_, fun c o hco => ?_, _, upd_same, ?_⟩
          · have h1 := hacc.len
            rw [List.length_map] at h1
            have h2 := List.length_filterMap_le id ([none, some a, some b].take i)
            rw [List.length_take] at h2
            have h3 : i < 3 := hi
            omega
          · rw [upd_ne (ne_of_none hco hD)]
            exact sz _ _ (sy _ _ hco)
          · rw [List.take_add_one, ho, List.filterMap_append, List.map_append]
            exact (hacc.mono fun x y h => (h.same sz).upd hDz).app (.one ⟨l, w1, rfl, nlD, by rw [upd_ne nlD]; exact hz1, hc.keep (tk_lst hDz)⟩)
      · rintro H4 ⟨s4, acc, hDe, hacc⟩
        have hA0 : All2 (LcAt D H4) acc [code n a ns, code n b ns] := hacc
        clear hacc
        cases hA0 with | cons p0 hA1 =>
        obtain ⟨q0, v0, rfl, _, r0, d0⟩ := p0
        have f0 := ca_len d0
        have n0 := code_len ns ha
        cases hA1 with | cons p1 hA2 =>
        obtain ⟨q1, v1, rfl, _, r1, d1⟩ := p1
        have f1 := ca_len d1
        have n1 := code_len ns hb
        cases hA2
        clear hit
        refine ⟨_, rfl, rfl, _, rfl, iteNo (by decide +kernel) ?_⟩
        refine ⟨_, rfl, rfl, _, rfl, iteNo (by decide +kernel) ?_⟩
        refine ⟨_, rfl, rfl, _, rfl, iteNo (by decide +kernel) ?_⟩
        have hop2 : flatV (.str op) = true := rfl
        refine ⟨_, rfl, t, _, 1, _, rfl, rfl, SqT.of ((Same.tr s1 (Same.tr s2 (Same.tr s3 s4))) _ _ ht), rfl, by show 2 ≤ sizeLine; decide, fun X4 hX4 => ⟨X4, _, rfl, .inl (SqL.of upd_same), rfl, rfl, _, rfl, ?_⟩⟩
        have s5 : Same H4 (upd H4 X4 (.lst [.str "and", .str "or"])) := same_upd hX4
        generalize upd H4 X4 (.lst [.str "and", .str "or"]) = H5 at s5
        have key : (op = "and" ∨ op = "or") ∨ (op ≠ "and" ∧ op ≠ "or" ∧ inV (.str op) [.str "and", .str "or"] = false) := by
          rcases (show op = "+" ∨ op = "-" ∨ op = "*" ∨ op = "/" ∨ op = "mod" ∨ op = "++" ∨ op = "=" ∨ op = "<" ∨ op = "and" ∨ op = "or" by simpa [OPS] using hop) with rfl | rfl | rfl | rfl | rfl | rfl | rfl | rfl | rfl | rfl
          · exact .inr (by decide +kernel)
          · exact .inr (by decide +kernel)
          · exact .inr (by decide +kernel)
          · exact .inr (by decide +kernel)
          · exact .inr (by decide +kernel)
          · exact .inr (by decide +kernel)
          · exact .inr (by decide +kernel)
          · exact .inr (by decide +kernel)
          · exact .inl (.inl rfl)
          · exact .inl (.inr rfl)
        rcases key with hao | ⟨n1, n2, n3⟩
        · rcases hao with rfl | rfl
          · refine iteYes (by decide +kernel) ?_
            refine ⟨_, rfl, D, _, 0, _, rfl, rfl, SqL.of (s5 _ _ hDe), rfl, ?_⟩
            refine ⟨_, rfl, t, _, 1, _, rfl, rfl, SqT.of ((Same.tr s1 (Same.tr s2 (Same.tr s3 (Same.tr s4 s5)))) _ _ ht), rfl, rfl, _, rfl, D, _, 1, _, rfl, rfl, SqL.of (s5 _ _ hDe), rfl, q1, _, rfl, .inl (SqL.of (s5 _ _ r1)), by show 3 ≤ sizeLine; decide, fun X5 hX5 => ?_⟩
            have s6 : Same H5 (upd H5 X5 (.tup [.str "stays", .bl (decide (V.str "and" = V.str "or")), .int (v1.length : Int)])) := same_upd hX5
            have gX5 : upd H5 X5 (.tup [.str "stays", .bl (decide (V.str "and" = V.str "or")), .int (v1.length : Int)]) X5 = some (.tup [.str "stays", .bl false, vi (code n b ns).length]) := by rw [upd_same, f1, show decide (V.str "and" = V.str "or") = false from by decide +kernel] <;> rfl
            generalize upd H5 X5 (.tup [.str "stays", .bl (decide (V.str "and" = V.str "or")), .int (v1.length : Int)]) = H6 at s6 gX5
            refine ⟨by show 1 ≤ sizeLine; decide, fun X6 hX6 => ?_⟩
            have s7 : Same H6 (upd H6 X6 (.lst [.ref X5])) := same_upd hX6
            have gX6 : upd H6 X6 (.lst [.ref X5]) X6 = some (.lst [.ref X5]) := upd_same
            generalize upd H6 X6 (.lst [.ref X5]) = H7 at s7 gX6
            have ci6 : CodeAt H7 [V.ref X5] [Ins.stays false (code n b ns).length] := ca1 (i := Ins.stays false (code n b ns).length) ⟨X5, rfl, (s7 _ _ gX5)⟩
            refine ⟨q0, X6, _, _, rfl, rfl, ((Same.tr s5 (Same.tr s6 s7)) _ _ r0), gX6, by (try simp only [List.length_append, List.length_cons, List.length_nil]); omega, fun X7 hX7 => ?_⟩
            have s8 : Same H7 (upd H7 X7 (.lst (v0 ++ [V.ref X5]))) := same_upd hX7
            have gX7 : upd H7 X7 (.lst (v0 ++ [V.ref X5])) X7 = some (.lst (v0 ++ [V.ref X5])) := upd_same
            have cX7 := CodeAt.keep (CodeAt.app (CodeAt.keep d0 (TupK.of (Same.tr s5 (Same.tr s6 s7)))) ci6) (TupK.of s8)
            generalize upd H7 X7 (.lst (v0 ++ [V.ref X5])) = H8 at s8 gX7 cX7
            refine ⟨_, rfl, D, _, 1, _, rfl, rfl, SqL.of ((Same.tr s5 (Same.tr s6 (Same.tr s7 s8))) _ _ hDe), rfl, ?_⟩
            have r := CodeAt.app cX7 (CodeAt.keep d1 (TupK.of (Same.tr s5 (Same.tr s6 (Same.tr s7 s8)))))
            refine ⟨X7, q1, _, _, rfl, rfl, gX7, ((Same.tr s5 (Same.tr s6 (Same.tr s7 s8))) _ _ r1), by (try simp only [List.length_append, List.length_cons, List.length_nil]); omega, retl_new qq (Same.tr s1 (Same.tr s2 (Same.tr s3 (Same.tr s4 (Same.tr s5 (Same.tr s6 (Same.tr s7 s8))))))) ?_⟩
            try simp only [List.append_assoc, List.cons_append, List.nil_append] at r ⊢
            exact cast (by simp only [code, binC, List.append_assoc, List.cons_append, List.nil_append, ite_true, ite_false, eq_self]) r
          · refine iteYes (by decide +kernel) ?_
            refine ⟨_, rfl, D, _, 0, _, rfl, rfl, SqL.of (s5 _ _ hDe), rfl, ?_⟩
            refine ⟨_, rfl, t, _, 1, _, rfl, rfl, SqT.of ((Same.tr s1 (Same.tr s2 (Same.tr s3 (Same.tr s4 s5)))) _ _ ht), rfl, rfl, _, rfl, D, _, 1, _, rfl, rfl, SqL.of (s5 _ _ hDe), rfl, q1, _, rfl, .inl (SqL.of (s5 _ _ r1)), by show 3 ≤ sizeLine; decide, fun X5 hX5 => ?_⟩
            have s6 : Same H5 (upd H5 X5 (.tup [.str "stays", .bl (decide (V.str "or" = V.str "or")), .int (v1.length : Int)])) := same_upd hX5
            have gX5 : upd H5 X5 (.tup [.str "stays", .bl (decide (V.str "or" = V.str "or")), .int (v1.length : Int)]) X5 = some (.tup [.str "stays", .bl true, vi (code n b ns).length]) := by rw [upd_same, f1, show decide (V.str "or" = V.str "or") = true from by decide +kernel] <;> rfl
            generalize upd H5 X5 (.tup [.str "stays", .bl (decide (V.str "or" = V.str "or")), .int (v1.length : Int)]) = H6 at s6 gX5
            refine ⟨by show 1 ≤ sizeLine; decide, fun X6 hX6 => ?_⟩
            have s7 : Same H6 (upd H6 X6 (.lst [.ref X5])) := same_upd hX6
            have gX6 : upd H6 X6 (.lst [.ref X5]) X6 = some (.lst [.ref X5]) := upd_same
            generalize upd H6 X6 (.lst [.ref X5]) = H7 at s7 gX6
            have ci6 : CodeAt H7 [V.ref X5] [Ins.stays true (code n b ns).length] := ca1 (i := Ins.stays true (code n b ns).length) ⟨X5, rfl, (s7 _ _ gX5)⟩
            refine ⟨q0, X6, _, _, rfl, rfl, ((Same.tr s5 (Same.tr s6 s7)) _ _ r0), gX6, by (try simp only [List.length_append, List.length_cons, List.length_nil]); omega, fun X7 hX7 => ?_⟩
            have s8 : Same H7 (upd H7 X7 (.lst (v0 ++ [V.ref X5]))) := same_upd hX7
            have gX7 : upd H7 X7 (.lst (v0 ++ [V.ref X5])) X7 = some (.lst (v0 ++ [V.ref X5])) := upd_same
            have cX7 := CodeAt.keep (CodeAt.app (CodeAt.keep d0 (TupK.of (Same.tr s5 (Same.tr s6 s7)))) ci6) (TupK.of s8)
            generalize upd H7 X7 (.lst (v0 ++ [V.ref X5])) = H8 at s8 gX7 cX7
            refine ⟨_, rfl, D, _, 1, _, rfl, rfl, SqL.of ((Same.tr s5 (Same.tr s6 (Same.tr s7 s8))) _ _ hDe), rfl, ?_⟩
            have r := CodeAt.app cX7 (CodeAt.keep d1 (TupK.of (Same.tr s5 (Same.tr s6 (Same.tr s7 s8)))))
            refine ⟨X7, q1, _, _, rfl, rfl, gX7, ((Same.tr s5 (Same.tr s6 (Same.tr s7 s8))) _ _ r1), by (try simp only [List.length_append, List.length_cons, List.length_nil]); omega, retl_new qq (Same.tr s1 (Same.tr s2 (Same.tr s3 (Same.tr s4 (Same.tr s5 (Same.tr s6 (Same.tr s7 s8))))))) ?_⟩
            try simp only [List.append_assoc, List.cons_append, List.nil_append] at r ⊢
            exact cast (by simp only [code, binC, List.append_assoc, List.cons_append, List.nil_append, ite_true, ite_false, eq_self, show (("or" : Str) = "and") = False from eq_false (by decide +kernel)]) r
        · refine iteNo (by rw [n3]; decide) ?_
          refine ⟨_, rfl, D, _, 0, _, rfl, rfl, SqL.of (s5 _ _ hDe), rfl, ?_⟩
          refine ⟨_, rfl, D, _, 1, _, rfl, rfl, SqL.of (s5 _ _ hDe), rfl, ?_⟩
          refine ⟨q0, q1, _, _, rfl, rfl, (s5 _ _ r0), (s5 _ _ r1), by (try simp only [List.length_append, List.length_cons, List.length_nil]); omega, fun X5 hX5 => ?_⟩
          have s6 : Same H5 (upd H5 X5 (.lst (v0 ++ v1))) := same_upd hX5
          have gX5 : upd H5 X5 (.lst (v0 ++ v1)) X5 = some (.lst (v0 ++ v1)) := upd_same
          have cX5 := CodeAt.keep (CodeAt.app (CodeAt.keep d0 (TupK.of s5)) (CodeAt.keep d1 (TupK.of s5))) (TupK.of s6)
          generalize upd H5 X5 (.lst (v0 ++ v1)) = H6 at s6 gX5 cX5
          refine ⟨_, rfl, t, _, 1, _, rfl, rfl, SqT.of ((Same.tr s1 (Same.tr s2 (Same.tr s3 (Same.tr s4 (Same.tr s5 s6))))) _ _ ht), rfl, by show 2 ≤ sizeLine; decide, fun X6 hX6 => ?_⟩
          have s7 : Same H6 (upd H6 X6 (.tup [.str "op", .str op])) := same_upd hX6
          have gX6 : upd H6 X6 (.tup [.str "op", .str op]) X6 = some (.tup [.str "op", .str op]) := upd_same
          generalize upd H6 X6 (.tup [.str "op", .str op]) = H7 at s7 gX6
          refine ⟨by show 1 ≤ sizeLine; decide, fun X7 hX7 => ?_⟩
          have s8 : Same H7 (upd H7 X7 (.lst [.ref X6])) := same_upd hX7
          have gX7 : upd H7 X7 (.lst [.ref X6]) X7 = some (.lst [.ref X6]) := upd_same
          generalize upd H7 X7 (.lst [.ref X6]) = H8 at s8 gX7
          have ci7 : CodeAt H8 [V.ref X6] [Ins.plain "op" [.str op]] := ca1 (i := Ins.plain "op" [.str op]) ⟨X6, rfl, (s8 _ _ gX6)⟩
          have r := CodeAt.app (CodeAt.keep cX5 (TupK.of (Same.tr s7 s8))) ci7
          refine ⟨X5, X7, _, _, rfl, rfl, ((Same.tr s7 s8) _ _ gX5), gX7, by (try simp only [List.length_append, List.length_cons, List.length_nil]); omega, retl_new qq (Same.tr s1 (Same.tr s2 (Same.tr s3 (Same.tr s4 (Same.tr s5 (Same.tr s6 (Same.tr s7 s8))))))) ?_⟩
          try simp only [List.append_assoc, List.cons_append, List.nil_append] at r ⊢
          exact cast (by simp only [code, binC, List.append_assoc, List.cons_append, List.nil_append, ite_true, ite_false, if_neg n1, if_neg n2]) r
    | mat a arms =>
      obtain ⟨t, u, q, us, rfl, ht, _⟩ := id he
      refine ⟨_, rfl, t, _, 0, _, rfl, rfl, SqT.of ht, rfl, _, rfl, by show 3 ≤ sizeLine; decide, fun X1 hX1 => ⟨X1, _, rfl, .inl (SqL.of upd_same), rfl, rfl, _, rfl, iteNo (by decide +kernel) ?_⟩⟩
      have s1 : Same H (upd H X1 (.lst [.str "number", .str "text", .str "bool"])) := same_upd hX1
      generalize upd H X1 (.lst [.str "number", .str "text", .str "bool"]) = H1 at s1
      refine ⟨_, rfl, rfl, _, rfl, iteNo (by decide +kernel) ?_⟩
      refine ⟨_, rfl, by show 3 ≤ sizeLine; decide, fun X2 hX2 => ⟨X2, _, rfl, .inl (SqL.of upd_same), rfl, rfl, _, rfl, iteNo (by decide +kernel) ?_⟩⟩
      have s2 : Same H1 (upd H1 X2 (.lst [.str "list", .str "call", .str "make"])) := same_upd hX2
      generalize upd H1 X2 (.lst [.str "list", .str "call", .str "make"]) = H2 at s2
      refine ⟨_, rfl, rfl, _, rfl, iteYes (by decide +kernel) ?_⟩
      exact ⟨_, rfl, _, rfl, .ref t, .ref nl, a, arms, ns, rfl, he0.keep (TupK.of (Same.tr s1 s2)), ⟨_, rfl, (Same.tr s1 s2) _ _ hn⟩, hns, qq.same (Same.tr s1 s2)⟩
    | lit f z =>
      obtain ⟨hf, hl, t, rfl, ht⟩ := he
      refine ⟨_, rfl, t, _, 0, _, rfl, rfl, SqT.of ht, rfl, _, rfl, by show 3 ≤ sizeLine; decide, fun X1 hX1 => ⟨X1, _, rfl, .inl (SqL.of upd_same), rfl, rfl, _, rfl, iteYes (by rcases hf with rfl | rfl | rfl <;> decide +kernel) ?_⟩⟩
      have s1 : Same H (upd H X1 (.lst [.str "number", .str "text", .str "bool"])) := same_upd hX1
      generalize upd H X1 (.lst [.str "number", .str "text", .str "bool"]) = H1 at s1
      refine ⟨_, rfl, t, _, 1, _, rfl, rfl, SqT.of (s1 _ _ ht), rfl, by show 2 ≤ sizeLine; decide, fun X2 hX2 => ⟨by show 1 ≤ sizeLine; decide, retl_new qq (Same.tr s1 (same_upd hX2)) (ca1 (i := .plain "push" [z]) ⟨X2, rfl, upd_same⟩)⟩⟩
    | name z =>
      obtain ⟨t, rfl, ht⟩ := he
      refine ⟨_, rfl, t, _, 0, _, rfl, rfl, SqT.of ht, rfl, _, rfl, by show 3 ≤ sizeLine; decide, fun X1 hX1 => ⟨X1, _, rfl, .inl (SqL.of upd_same), rfl, rfl, _, rfl, iteNo (by decide +kernel) ?_⟩⟩
      have s1 : Same H (upd H X1 (.lst [.str "number", .str "text", .str "bool"])) := same_upd hX1
      generalize upd H X1 (.lst [.str "number", .str "text", .str "bool"]) = H1 at s1
      have ht1 := s1 _ _ ht
      have hn1 := s1 _ _ hn
      refine ⟨_, rfl, rfl, _, rfl, iteYes (by decide +kernel) ?_⟩
      have hrl : (ns.map V.str).length = ns.reverse.length := by simp
      have hml : (ns.map V.str).length = ns.length := by simp
      have line := line63
      refine ⟨_, rfl, nl, _, rfl, .inl (SqL.of hn1), _, rfl, by omega, by omega, ?_⟩
      refine for_range (lo := 0) (n := ((ns.map V.str).length : Int).toNat) (fun i σ H' => H' = H1 ∧ (∃ y, σ = [some (.ref t), some (.ref nl), some (.str "name"), y, none, none, none, none, none, none]) ∧ near (ns.reverse.take i) z = none) ⟨rfl, ⟨none, rfl⟩, rfl⟩ ?_ ?_
      · rintro i σ H' hi ⟨rfl, ⟨y3, rfl⟩, hnr⟩
        have hi' : i < ns.reverse.length := by omega
        obtain ⟨y, hy⟩ : ∃ y, ns.reverse[i]? = some y := ⟨_, List.getElem?_eq_getElem hi'⟩
        have hat : atI (ns.map V.str) (((ns.map V.str).length : Int) - 1 - (0 + (i : Int))) = some (.str y) := by
          have e1 : ((ns.map V.str).length : Int) - 1 - (0 + (i : Int)) = ((ns.length - 1 - i : Nat) : Int) := by
            rw [List.length_reverse] at hi'
            omega
          rw [e1]
          refine atI_nat ?_
          rw [List.getElem?_map, ← List.getElem?_reverse (by rw [List.length_reverse] at hi'; exact hi'), hy]
          rfl
        refine ⟨_, rfl, _, rfl, nl, _, rfl, .inl (SqL.of hn1), _, _, rfl, rfl, _, rfl, _, _, rfl, rfl, nl, _, _, _, rfl, rfl, SqL.of hn1, hat, ?_⟩
        refine ⟨_, rfl, t, _, 1, _, rfl, rfl, SqT.of ht1, rfl, rfl, decide (y = z), by show V.bl (decide (V.str y = V.str z)) = _; congr 1; simp, ?_⟩
        have tk : ns.reverse.take (i + 1) = ns.reverse.take i ++ [y] := by rw [List.take_add_one, hy]; rfl
        by_cases e : y = z
        · rw [decide_eq_true e]
          refine iteT ⟨_, rfl, by show 2 ≤ sizeLine; decide, fun X2 hX2 => ⟨by show 1 ≤ sizeLine; decide, retl_new qq (Same.tr s1 (same_upd hX2)) (ca1 ?_)⟩⟩
          unfold nameC
          rw [near_hit z _ _ hnr (by rw [← e]; exact hy)]
          refine ⟨X2, rfl, ?_⟩
          rw [upd_same, Int.zero_add]
        · rw [decide_eq_false e]
          refine iteF ⟨rfl, ⟨_, rfl⟩, ?_⟩
          rw [tk]
          exact near_snoc z _ _ hnr e
      · rintro σ H' ⟨rfl, ⟨y3, rfl⟩, hnr⟩
        have hl0 : ((ns.map V.str).length : Int).toNat = ns.reverse.length := by omega
        rw [hl0, List.take_length] at hnr
        refine ⟨_, rfl, t, _, 1, _, rfl, rfl, SqT.of ht1, rfl, by show 2 ≤ sizeLine; decide, fun X2 hX2 => ⟨by show 1 ≤ sizeLine; decide, retl_new qq (Same.tr s1 (same_upd hX2)) (ca1 ?_)⟩⟩
        unfold nameC
        rw [hnr]
        exact ⟨X2, rfl, upd_same⟩
    | list es =>
      obtain ⟨t, q, us, rfl, ht, hq, hl, ha⟩ := he
      refine ⟨_, rfl, t, _, 0, _, rfl, rfl, SqT.of ht, rfl, _, rfl, by show 3 ≤ sizeLine; decide, fun X1 hX1 => ⟨X1, _, rfl, .inl (SqL.of upd_same), rfl, rfl, _, rfl, iteNo (by decide +kernel) ?_⟩⟩
      have s1 : Same H (upd H X1 (.lst [.str "number", .str "text", .str "bool"])) := same_upd hX1
      generalize upd H X1 (.lst [.str "number", .str "text", .str "bool"]) = H1 at s1
      refine ⟨_, rfl, rfl, _, rfl, iteNo (by decide +kernel) ?_⟩
      refine ⟨_, rfl, by show 3 ≤ sizeLine; decide, fun X2 hX2 => ⟨X2, _, rfl, .inl (SqL.of upd_same), rfl, rfl, _, rfl, iteYes (by decide +kernel) ?_⟩⟩
      have s2 : Same H1 (upd H1 X2 (.lst [.str "list", .str "call", .str "make"])) := same_upd hX2
      generalize upd H1 X2 (.lst [.str "list", .str "call", .str "make"]) = H2 at s2
      have s02 := Same.tr s1 s2
      have m0 := code_len ns he0
      have flen : ∀ i, ((es.take i).map fun e => code n e ns).flatten.length ≤ 3 * cB n := fun i => by
        have h1 := flat_le (fun e => code n e ns) (cB n) (es.take i) fun e he => by
          obtain ⟨u, _, r⟩ := memR ha (List.mem_of_mem_take he)
          exact code_len ns r
        exact Nat.le_trans h1 (mul3 (by rw [List.length_take, ← ha.len]; omega))
      refine ⟨Nat.zero_le _, fun C hC => ?_⟩
      have s3 : Same H2 (upd H2 C (.lst [])) := same_upd hC
      have gC : upd H2 C (.lst []) C = some (.lst []) := upd_same
      generalize upd H2 C (.lst []) = H3 at s3 gC
      have s03 := Same.tr s02 s3
      refine ⟨_, rfl, _, rfl, t, _, rfl, .inr (SqT.of (s03 _ _ ht)), _, _, rfl, rfl, t, _, _, .ref q, rfl, rfl, SqT.of (s03 _ _ ht), rfl, q, rfl, ⟨us, SqT.of (s03 _ _ hq)⟩, ?_⟩
      refine for_it (walk_tup (K := K) (a := q) (xs := us)) (fun j σ H' => ∃ (y5 : Option V) (c : Addr) (ws : List V), σ = [some (.ref t), some (.ref nl), some (.str "list"), none, some (.ref c), y5, none, none, none, none] ∧ Same H H' ∧ H' c = some (.lst ws) ∧ CodeAt H' ws (((es.take j).map fun e => code n e ns).flatten)) ⟨none, C, [], rfl, s03, gC, .nil⟩ (fun j σ H' _ p => ?_) ?_ ?_
      · obtain ⟨_, _, _, _, s, _⟩ := p
        exact SqT.of (s _ _ hq)
      · rintro j x σ H4' H4 hj ⟨y5, c, ws, rfl, s4, hc, hcs⟩ ⟨rfl, hx⟩
        obtain ⟨e, he, hxe⟩ := ha.get hx
        have hxe' : ExAt H n e x := hxe
        have m1 := code_len ns hxe'
        refine ⟨_, rfl, _, rfl, _, rfl, x, .ref nl, e, ns, rfl, hxe'.keep (TupK.of s4), ⟨_, rfl, s4 _ _ hn⟩, by omega, fun l H5 w1 s5 _ hl5 hc5 => ?_⟩
        have l5 := ca_len hc5
        have l4 := ca_len hcs
        have := flen j
        refine ⟨c, l, _, _, rfl, rfl, s5 _ _ hc, hl5, by omega, fun X hX => ?_⟩
        have r := CodeAt.keep (CodeAt.app (CodeAt.keep hcs (TupK.of s5)) hc5) (TupK.of (same_upd (o := .lst (ws ++ w1)) hX))
        refine ⟨_, X, ws ++ w1, rfl, Same.tr (Same.tr s4 s5) (same_upd hX), upd_same, ?_⟩
        rw [List.take_add_one, he, List.map_append, List.flatten_append]
        show CodeAt _ _ (_ ++ ([code n e ns] : List (List Ins)).flatten)
        rw [List.flatten_cons, List.flatten_nil, List.append_nil]
        exact r
      · rintro σ H4 ⟨y5, c, ws, rfl, s4, hc, hcs⟩
        rw [ha.len, List.take_length] at hcs
        have l4 := ca_len hcs
        have l6 := flen es.length
        rw [List.take_length] at l6
        refine ⟨_, rfl, _, rfl, t, _, rfl, .inr (SqT.of (s4 _ _ ht)), _, _, rfl, rfl, t, _, _, .ref q, rfl, rfl, SqT.of (s4 _ _ ht), rfl, q, us, rfl, .inr (SqT.of (s4 _ _ hq)), ?_⟩
        refine ⟨_, rfl, fun d hd => ?_⟩
        have s5 : Same H4 (upd H4 d (.dK [])) := same_upd hd
        have gd : upd H4 d (.dK []) d = some (.dK []) := upd_same
        generalize upd H4 d (.dK []) = H5 at s5 gd
        refine ⟨_, rfl, by show 2 ≤ sizeLine; decide, fun T1 hT1 => ?_⟩
        have s6 : Same H5 (upd H5 T1 (.tup [.str "list", .int (us.length : Int)])) := same_upd hT1
        have g1 : upd H5 T1 (.tup [.str "list", .int (us.length : Int)]) T1 = some (.tup [.str "list", vi es.length]) := by rw [upd_same, ha.len] <;> rfl
        generalize upd H5 T1 (.tup [.str "list", .int (us.length : Int)]) = H6 at s6 g1
        refine ⟨_, rfl, t, _, 1, _, rfl, rfl, SqT.of (s6 _ _ (s5 _ _ (s4 _ _ ht))), rfl, _, rfl, by show 3 ≤ sizeLine; decide, fun T2 hT2 => ?_⟩
        have s7 : Same H6 (upd H6 T2 (.tup [.str "call", .ref q, .int (us.length : Int)])) := same_upd hT2
        have g2 : upd H6 T2 (.tup [.str "call", .ref q, .int (us.length : Int)]) T2 = some (.tup [.str "call", .ref q, vi es.length]) := by rw [upd_same, ha.len] <;> rfl
        generalize upd H6 T2 (.tup [.str "call", .ref q, .int (us.length : Int)]) = H7 at s7 g2
        refine ⟨_, rfl, t, _, 1, _, rfl, rfl, SqT.of (s7 _ _ (s6 _ _ (s5 _ _ (s4 _ _ ht)))), rfl, _, rfl, by show 3 ≤ sizeLine; decide, fun T3 hT3 => ?_⟩
        have s8 : Same H7 (upd H7 T3 (.tup [.str "make", .ref q, .int (us.length : Int)])) := same_upd hT3
        have g3 : upd H7 T3 (.tup [.str "make", .ref q, .int (us.length : Int)]) T3 = some (.tup [.str "make", .ref q, vi es.length]) := by rw [upd_same, ha.len] <;> rfl
        generalize upd H7 T3 (.tup [.str "make", .ref q, .int (us.length : Int)]) = H8 at s8 g3
        have gd8 := s8 _ _ (s7 _ _ (s6 _ _ gd))
        refine ⟨gd8, [(.inr "list", .ref T1), (.inr "call", .ref T2), (.inr "make", .ref T3)], rfl, by show 3 ≤ 15; decide, ?_⟩
        have k9 : TupK H8 (upd H8 d (.dK (mergeK [] [(.inr "list", .ref T1), (.inr "call", .ref T2), (.inr "make", .ref T3)]))) := fun a xs h => by
          rw [upd_ne (fun z => by rw [z, gd8] at h; cases h)]
          exact h
        have b9 : ∀ z o, H4 z = some o → upd H8 d (.dK (mergeK [] [(.inr "list", .ref T1), (.inr "call", .ref T2), (.inr "make", .ref T3)])) z = some o := fun z o h => by
          rw [upd_ne (ne_of_none h hd)]
          exact s8 _ _ (s7 _ _ (s6 _ _ (s5 _ _ h)))
        have g9 : upd H8 d (.dK (mergeK [] [(.inr "list", .ref T1), (.inr "call", .ref T2), (.inr "make", .ref T3)])) d = some (.dK (mergeK [] [(.inr "list", .ref T1), (.inr "call", .ref T2), (.inr "make", .ref T3)])) := upd_same
        generalize upd H8 d (.dK (mergeK [] [(.inr "list", .ref T1), (.inr "call", .ref T2), (.inr "make", .ref T3)])) = H9 at k9 b9 g9
        have gt := k9 _ _ (s8 _ _ (s7 _ _ g1))
        refine ⟨_, rfl, d, .ref T1, rfl, (show DGet H9 d (.str "list") (some (.ref T1)) from DGet.k (k := Sum.inr "list") g9), by show 1 ≤ sizeLine; decide, fun X hX => ?_⟩
        have s10 : Same H9 (upd H9 X (.lst [.ref T1])) := same_upd hX
        have g10 : upd H9 X (.lst [.ref T1]) X = some (.lst [.ref T1]) := upd_same
        generalize upd H9 X (.lst [.ref T1]) = H10 at s10 g10
        have b10 : Same H4 H10 := fun z o h => s10 _ _ (b9 _ _ h)
        refine ⟨c, X, _, _, rfl, rfl, b10 _ _ hc, g10, by simp only [List.length_cons, List.length_nil]; omega, retl_new qq (Same.tr s4 b10) ?_⟩
        exact CodeAt.app (CodeAt.keep hcs (TupK.of b10)) (ca1 (i := .plain "list" [vi es.length]) ⟨T1, rfl, s10 _ _ gt⟩)
    | call f es =>
      obtain ⟨t, q, us, rfl, ht, hq, hl, ha⟩ := he
      refine ⟨_, rfl, t, _, 0, _, rfl, rfl, SqT.of ht, rfl, _, rfl, by show 3 ≤ sizeLine; decide, fun X1 hX1 => ⟨X1, _, rfl, .inl (SqL.of upd_same), rfl, rfl, _, rfl, iteNo (by decide +kernel) ?_⟩⟩
      have s1 : Same H (upd H X1 (.lst [.str "number", .str "text", .str "bool"])) := same_upd hX1
      generalize upd H X1 (.lst [.str "number", .str "text", .str "bool"]) = H1 at s1
      refine ⟨_, rfl, rfl, _, rfl, iteNo (by decide +kernel) ?_⟩
      refine ⟨_, rfl, by show 3 ≤ sizeLine; decide, fun X2 hX2 => ⟨X2, _, rfl, .inl (SqL.of upd_same), rfl, rfl, _, rfl, iteYes (by decide +kernel) ?_⟩⟩
      have s2 : Same H1 (upd H1 X2 (.lst [.str "list", .str "call", .str "make"])) := same_upd hX2
      generalize upd H1 X2 (.lst [.str "list", .str "call", .str "make"]) = H2 at s2
      have s02 := Same.tr s1 s2
      have m0 := code_len ns he0
      have flen : ∀ i, ((es.take i).map fun e => code n e ns).flatten.length ≤ 3 * cB n := fun i => by
        have h1 := flat_le (fun e => code n e ns) (cB n) (es.take i) fun e he => by
          obtain ⟨u, _, r⟩ := memR ha (List.mem_of_mem_take he)
          exact code_len ns r
        exact Nat.le_trans h1 (mul3 (by rw [List.length_take, ← ha.len]; omega))
      refine ⟨Nat.zero_le _, fun C hC => ?_⟩
      have s3 : Same H2 (upd H2 C (.lst [])) := same_upd hC
      have gC : upd H2 C (.lst []) C = some (.lst []) := upd_same
      generalize upd H2 C (.lst []) = H3 at s3 gC
      have s03 := Same.tr s02 s3
      refine ⟨_, rfl, _, rfl, t, _, rfl, .inr (SqT.of (s03 _ _ ht)), _, _, rfl, rfl, t, _, _, .ref q, rfl, rfl, SqT.of (s03 _ _ ht), rfl, q, rfl, ⟨us, SqT.of (s03 _ _ hq)⟩, ?_⟩
      refine for_it (walk_tup (K := K) (a := q) (xs := us)) (fun j σ H' => ∃ (y5 : Option V) (c : Addr) (ws : List V), σ = [some (.ref t), some (.ref nl), some (.str "call"), none, some (.ref c), y5, none, none, none, none] ∧ Same H H' ∧ H' c = some (.lst ws) ∧ CodeAt H' ws (((es.take j).map fun e => code n e ns).flatten)) ⟨none, C, [], rfl, s03, gC, .nil⟩ (fun j σ H' _ p => ?_) ?_ ?_
      · obtain ⟨_, _, _, _, s, _⟩ := p
        exact SqT.of (s _ _ hq)
      · rintro j x σ H4' H4 hj ⟨y5, c, ws, rfl, s4, hc, hcs⟩ ⟨rfl, hx⟩
        obtain ⟨e, he, hxe⟩ := ha.get hx
        have hxe' : ExAt H n e x := hxe
        have m1 := code_len ns hxe'
        refine ⟨_, rfl, _, rfl, _, rfl, x, .ref nl, e, ns, rfl, hxe'.keep (TupK.of s4), ⟨_, rfl, s4 _ _ hn⟩, by omega, fun l H5 w1 s5 _ hl5 hc5 => ?_⟩
        have l5 := ca_len hc5
        have l4 := ca_len hcs
        have := flen j
        refine ⟨c, l, _, _, rfl, rfl, s5 _ _ hc, hl5, by omega, fun X hX => ?_⟩
        have r := CodeAt.keep (CodeAt.app (CodeAt.keep hcs (TupK.of s5)) hc5) (TupK.of (same_upd (o := .lst (ws ++ w1)) hX))
        refine ⟨_, X, ws ++ w1, rfl, Same.tr (Same.tr s4 s5) (same_upd hX), upd_same, ?_⟩
        rw [List.take_add_one, he, List.map_append, List.flatten_append]
        show CodeAt _ _ (_ ++ ([code n e ns] : List (List Ins)).flatten)
        rw [List.flatten_cons, List.flatten_nil, List.append_nil]
        exact r
      · rintro σ H4 ⟨y5, c, ws, rfl, s4, hc, hcs⟩
        rw [ha.len, List.take_length] at hcs
        have l4 := ca_len hcs
        have l6 := flen es.length
        rw [List.take_length] at l6
        refine ⟨_, rfl, _, rfl, t, _, rfl, .inr (SqT.of (s4 _ _ ht)), _, _, rfl, rfl, t, _, _, .ref q, rfl, rfl, SqT.of (s4 _ _ ht), rfl, q, us, rfl, .inr (SqT.of (s4 _ _ hq)), ?_⟩
        refine ⟨_, rfl, fun d hd => ?_⟩
        have s5 : Same H4 (upd H4 d (.dK [])) := same_upd hd
        have gd : upd H4 d (.dK []) d = some (.dK []) := upd_same
        generalize upd H4 d (.dK []) = H5 at s5 gd
        refine ⟨_, rfl, by show 2 ≤ sizeLine; decide, fun T1 hT1 => ?_⟩
        have s6 : Same H5 (upd H5 T1 (.tup [.str "list", .int (us.length : Int)])) := same_upd hT1
        have g1 : upd H5 T1 (.tup [.str "list", .int (us.length : Int)]) T1 = some (.tup [.str "list", vi es.length]) := by rw [upd_same, ha.len] <;> rfl
        generalize upd H5 T1 (.tup [.str "list", .int (us.length : Int)]) = H6 at s6 g1
        refine ⟨_, rfl, t, _, 1, _, rfl, rfl, SqT.of (s6 _ _ (s5 _ _ (s4 _ _ ht))), rfl, _, rfl, by show 3 ≤ sizeLine; decide, fun T2 hT2 => ?_⟩
        have s7 : Same H6 (upd H6 T2 (.tup [.str "call", .str f, .int (us.length : Int)])) := same_upd hT2
        have g2 : upd H6 T2 (.tup [.str "call", .str f, .int (us.length : Int)]) T2 = some (.tup [.str "call", .str f, vi es.length]) := by rw [upd_same, ha.len] <;> rfl
        generalize upd H6 T2 (.tup [.str "call", .str f, .int (us.length : Int)]) = H7 at s7 g2
        refine ⟨_, rfl, t, _, 1, _, rfl, rfl, SqT.of (s7 _ _ (s6 _ _ (s5 _ _ (s4 _ _ ht)))), rfl, _, rfl, by show 3 ≤ sizeLine; decide, fun T3 hT3 => ?_⟩
        have s8 : Same H7 (upd H7 T3 (.tup [.str "make", .str f, .int (us.length : Int)])) := same_upd hT3
        have g3 : upd H7 T3 (.tup [.str "make", .str f, .int (us.length : Int)]) T3 = some (.tup [.str "make", .str f, vi es.length]) := by rw [upd_same, ha.len] <;> rfl
        generalize upd H7 T3 (.tup [.str "make", .str f, .int (us.length : Int)]) = H8 at s8 g3
        have gd8 := s8 _ _ (s7 _ _ (s6 _ _ gd))
        refine ⟨gd8, [(.inr "list", .ref T1), (.inr "call", .ref T2), (.inr "make", .ref T3)], rfl, by show 3 ≤ 15; decide, ?_⟩
        have k9 : TupK H8 (upd H8 d (.dK (mergeK [] [(.inr "list", .ref T1), (.inr "call", .ref T2), (.inr "make", .ref T3)]))) := fun a xs h => by
          rw [upd_ne (fun z => by rw [z, gd8] at h; cases h)]
          exact h
        have b9 : ∀ z o, H4 z = some o → upd H8 d (.dK (mergeK [] [(.inr "list", .ref T1), (.inr "call", .ref T2), (.inr "make", .ref T3)])) z = some o := fun z o h => by
          rw [upd_ne (ne_of_none h hd)]
          exact s8 _ _ (s7 _ _ (s6 _ _ (s5 _ _ h)))
        have g9 : upd H8 d (.dK (mergeK [] [(.inr "list", .ref T1), (.inr "call", .ref T2), (.inr "make", .ref T3)])) d = some (.dK (mergeK [] [(.inr "list", .ref T1), (.inr "call", .ref T2), (.inr "make", .ref T3)])) := upd_same
        generalize upd H8 d (.dK (mergeK [] [(.inr "list", .ref T1), (.inr "call", .ref T2), (.inr "make", .ref T3)])) = H9 at k9 b9 g9
        have gt := k9 _ _ (s8 _ _ g2)
        refine ⟨_, rfl, d, .ref T2, rfl, (show DGet H9 d (.str "call") (some (.ref T2)) from DGet.k (k := Sum.inr "call") g9), by show 1 ≤ sizeLine; decide, fun X hX => ?_⟩
        have s10 : Same H9 (upd H9 X (.lst [.ref T2])) := same_upd hX
        have g10 : upd H9 X (.lst [.ref T2]) X = some (.lst [.ref T2]) := upd_same
        generalize upd H9 X (.lst [.ref T2]) = H10 at s10 g10
        have b10 : Same H4 H10 := fun z o h => s10 _ _ (b9 _ _ h)
        refine ⟨c, X, _, _, rfl, rfl, b10 _ _ hc, g10, by simp only [List.length_cons, List.length_nil]; omega, retl_new qq (Same.tr s4 b10) ?_⟩
        exact CodeAt.app (CodeAt.keep hcs (TupK.of b10)) (ca1 (i := .plain "call" [.str f, vi es.length]) ⟨T2, rfl, s10 _ _ gt⟩)
    | make f es =>
      obtain ⟨t, q, us, rfl, ht, hq, hl, ha⟩ := he
      refine ⟨_, rfl, t, _, 0, _, rfl, rfl, SqT.of ht, rfl, _, rfl, by show 3 ≤ sizeLine; decide, fun X1 hX1 => ⟨X1, _, rfl, .inl (SqL.of upd_same), rfl, rfl, _, rfl, iteNo (by decide +kernel) ?_⟩⟩
      have s1 : Same H (upd H X1 (.lst [.str "number", .str "text", .str "bool"])) := same_upd hX1
      generalize upd H X1 (.lst [.str "number", .str "text", .str "bool"]) = H1 at s1
      refine ⟨_, rfl, rfl, _, rfl, iteNo (by decide +kernel) ?_⟩
      refine ⟨_, rfl, by show 3 ≤ sizeLine; decide, fun X2 hX2 => ⟨X2, _, rfl, .inl (SqL.of upd_same), rfl, rfl, _, rfl, iteYes (by decide +kernel) ?_⟩⟩
      have s2 : Same H1 (upd H1 X2 (.lst [.str "list", .str "call", .str "make"])) := same_upd hX2
      generalize upd H1 X2 (.lst [.str "list", .str "call", .str "make"]) = H2 at s2
      have s02 := Same.tr s1 s2
      have m0 := code_len ns he0
      have flen : ∀ i, ((es.take i).map fun e => code n e ns).flatten.length ≤ 3 * cB n := fun i => by
        have h1 := flat_le (fun e => code n e ns) (cB n) (es.take i) fun e he => by
          obtain ⟨u, _, r⟩ := memR ha (List.mem_of_mem_take he)
          exact code_len ns r
        exact Nat.le_trans h1 (mul3 (by rw [List.length_take, ← ha.len]; omega))
      refine ⟨Nat.zero_le _, fun C hC => ?_⟩
      have s3 : Same H2 (upd H2 C (.lst [])) := same_upd hC
      have gC : upd H2 C (.lst []) C = some (.lst []) := upd_same
      generalize upd H2 C (.lst []) = H3 at s3 gC
      have s03 := Same.tr s02 s3
      refine ⟨_, rfl, _, rfl, t, _, rfl, .inr (SqT.of (s03 _ _ ht)), _, _, rfl, rfl, t, _, _, .ref q, rfl, rfl, SqT.of (s03 _ _ ht), rfl, q, rfl, ⟨us, SqT.of (s03 _ _ hq)⟩, ?_⟩
      refine for_it (walk_tup (K := K) (a := q) (xs := us)) (fun j σ H' => ∃ (y5 : Option V) (c : Addr) (ws : List V), σ = [some (.ref t), some (.ref nl), some (.str "make"), none, some (.ref c), y5, none, none, none, none] ∧ Same H H' ∧ H' c = some (.lst ws) ∧ CodeAt H' ws (((es.take j).map fun e => code n e ns).flatten)) ⟨none, C, [], rfl, s03, gC, .nil⟩ (fun j σ H' _ p => ?_) ?_ ?_
      · obtain ⟨_, _, _, _, s, _⟩ := p
        exact SqT.of (s _ _ hq)
      · rintro j x σ H4' H4 hj ⟨y5, c, ws, rfl, s4, hc, hcs⟩ ⟨rfl, hx⟩
        obtain ⟨e, he, hxe⟩ := ha.get hx
        have hxe' : ExAt H n e x := hxe
        have m1 := code_len ns hxe'
        refine ⟨_, rfl, _, rfl, _, rfl, x, .ref nl, e, ns, rfl, hxe'.keep (TupK.of s4), ⟨_, rfl, s4 _ _ hn⟩, by omega, fun l H5 w1 s5 _ hl5 hc5 => ?_⟩
        have l5 := ca_len hc5
        have l4 := ca_len hcs
        have := flen j
        refine ⟨c, l, _, _, rfl, rfl, s5 _ _ hc, hl5, by omega, fun X hX => ?_⟩
        have r := CodeAt.keep (CodeAt.app (CodeAt.keep hcs (TupK.of s5)) hc5) (TupK.of (same_upd (o := .lst (ws ++ w1)) hX))
        refine ⟨_, X, ws ++ w1, rfl, Same.tr (Same.tr s4 s5) (same_upd hX), upd_same, ?_⟩
        rw [List.take_add_one, he, List.map_append, List.flatten_append]
        show CodeAt _ _ (_ ++ ([code n e ns] : List (List Ins)).flatten)
        rw [List.flatten_cons, List.flatten_nil, List.append_nil]
        exact r
      · rintro σ H4 ⟨y5, c, ws, rfl, s4, hc, hcs⟩
        rw [ha.len, List.take_length] at hcs
        have l4 := ca_len hcs
        have l6 := flen es.length
        rw [List.take_length] at l6
        refine ⟨_, rfl, _, rfl, t, _, rfl, .inr (SqT.of (s4 _ _ ht)), _, _, rfl, rfl, t, _, _, .ref q, rfl, rfl, SqT.of (s4 _ _ ht), rfl, q, us, rfl, .inr (SqT.of (s4 _ _ hq)), ?_⟩
        refine ⟨_, rfl, fun d hd => ?_⟩
        have s5 : Same H4 (upd H4 d (.dK [])) := same_upd hd
        have gd : upd H4 d (.dK []) d = some (.dK []) := upd_same
        generalize upd H4 d (.dK []) = H5 at s5 gd
        refine ⟨_, rfl, by show 2 ≤ sizeLine; decide, fun T1 hT1 => ?_⟩
        have s6 : Same H5 (upd H5 T1 (.tup [.str "list", .int (us.length : Int)])) := same_upd hT1
        have g1 : upd H5 T1 (.tup [.str "list", .int (us.length : Int)]) T1 = some (.tup [.str "list", vi es.length]) := by rw [upd_same, ha.len] <;> rfl
        generalize upd H5 T1 (.tup [.str "list", .int (us.length : Int)]) = H6 at s6 g1
        refine ⟨_, rfl, t, _, 1, _, rfl, rfl, SqT.of (s6 _ _ (s5 _ _ (s4 _ _ ht))), rfl, _, rfl, by show 3 ≤ sizeLine; decide, fun T2 hT2 => ?_⟩
        have s7 : Same H6 (upd H6 T2 (.tup [.str "call", .str f, .int (us.length : Int)])) := same_upd hT2
        have g2 : upd H6 T2 (.tup [.str "call", .str f, .int (us.length : Int)]) T2 = some (.tup [.str "call", .str f, vi es.length]) := by rw [upd_same, ha.len] <;> rfl
        generalize upd H6 T2 (.tup [.str "call", .str f, .int (us.length : Int)]) = H7 at s7 g2
        refine ⟨_, rfl, t, _, 1, _, rfl, rfl, SqT.of (s7 _ _ (s6 _ _ (s5 _ _ (s4 _ _ ht)))), rfl, _, rfl, by show 3 ≤ sizeLine; decide, fun T3 hT3 => ?_⟩
        have s8 : Same H7 (upd H7 T3 (.tup [.str "make", .str f, .int (us.length : Int)])) := same_upd hT3
        have g3 : upd H7 T3 (.tup [.str "make", .str f, .int (us.length : Int)]) T3 = some (.tup [.str "make", .str f, vi es.length]) := by rw [upd_same, ha.len] <;> rfl
        generalize upd H7 T3 (.tup [.str "make", .str f, .int (us.length : Int)]) = H8 at s8 g3
        have gd8 := s8 _ _ (s7 _ _ (s6 _ _ gd))
        refine ⟨gd8, [(.inr "list", .ref T1), (.inr "call", .ref T2), (.inr "make", .ref T3)], rfl, by show 3 ≤ 15; decide, ?_⟩
        have k9 : TupK H8 (upd H8 d (.dK (mergeK [] [(.inr "list", .ref T1), (.inr "call", .ref T2), (.inr "make", .ref T3)]))) := fun a xs h => by
          rw [upd_ne (fun z => by rw [z, gd8] at h; cases h)]
          exact h
        have b9 : ∀ z o, H4 z = some o → upd H8 d (.dK (mergeK [] [(.inr "list", .ref T1), (.inr "call", .ref T2), (.inr "make", .ref T3)])) z = some o := fun z o h => by
          rw [upd_ne (ne_of_none h hd)]
          exact s8 _ _ (s7 _ _ (s6 _ _ (s5 _ _ h)))
        have g9 : upd H8 d (.dK (mergeK [] [(.inr "list", .ref T1), (.inr "call", .ref T2), (.inr "make", .ref T3)])) d = some (.dK (mergeK [] [(.inr "list", .ref T1), (.inr "call", .ref T2), (.inr "make", .ref T3)])) := upd_same
        generalize upd H8 d (.dK (mergeK [] [(.inr "list", .ref T1), (.inr "call", .ref T2), (.inr "make", .ref T3)])) = H9 at k9 b9 g9
        have gt := k9 _ _ (g3)
        refine ⟨_, rfl, d, .ref T3, rfl, (show DGet H9 d (.str "make") (some (.ref T3)) from DGet.k (k := Sum.inr "make") g9), by show 1 ≤ sizeLine; decide, fun X hX => ?_⟩
        have s10 : Same H9 (upd H9 X (.lst [.ref T3])) := same_upd hX
        have g10 : upd H9 X (.lst [.ref T3]) X = some (.lst [.ref T3]) := upd_same
        generalize upd H9 X (.lst [.ref T3]) = H10 at s10 g10
        have b10 : Same H4 H10 := fun z o h => s10 _ _ (b9 _ _ h)
        refine ⟨c, X, _, _, rfl, rfl, b10 _ _ hc, g10, by simp only [List.length_cons, List.length_nil]; omega, retl_new qq (Same.tr s4 b10) ?_⟩
        exact CodeAt.app (CodeAt.keep hcs (TupK.of b10)) (ca1 (i := .plain "make" [.str f, vi es.length]) ⟨T3, rfl, s10 _ _ gt⟩)
end
end Q33
namespace Q33
open PySem PySem.Spec PyProof.Rows L2 SX HL
theorem LcAt.kept {D : Addr} {H H' : Hp} {v : V} {c : List Ins} (h : LcAt D H v c) (f : ∀ z o, H z = some o → (∀ l, v = .ref l → z ≠ D ∧ z ≠ z → False) → True) (s : Same H H') : LcAt D H' v c := h.same s
section
variable {P : Program} {w : World} {K : PySem.W.Frag} {mg : Str → Option Value} {base : Heap}
theorem ok_lmatch {k n : Nat} (hn7 : n ≤ 7) (Z : Defs K mg) (GLawCode' : FnOk P w K mg base CX0 (k + 1) Z.fLawCode Z.fdLawCode ["e", "names"] (spLC n)) : FnOk P w K mg base CX0 (k + 2) Z.fLawMatchCode Z.fdLawMatchCode ["e", "names"] (spLM n) := by
  have GLawCode : FnOk P w K mg base CX0 (k + 1) Z.fLawCode Z.fdLawCode ["e", "names"] (spLC n) := GLawCode'
  refine Z.DLawMatchCode.F.ok scLawMatchCode (fun vs H Q E h => ?_) (fun cdv A outer s H vs Q E hr h => ?_)
  · obtain ⟨x, v, a, arms, ns, rfl, _⟩ := h
    rfl
  · obtain ⟨x, v, ae, arms, ns, rfl, he, ⟨nl, rfl, hn⟩, hns, qq⟩ := h
    refine ⟨_, (pss_cons (ps_setLc (i := 2) (own := [("maker", 6), ("parts", 7), ("result", 8)]) (g := (gTup K 3 (gCons (gName 6) (gCons (gName 7) (gCons (gName 8) gNil))))) (by rfl) scLawMatchCode.nd rfl rfl (sw_true rfl rfl rfl (by decide +kernel)) (HK.pi_tupK (K := K) rfl (pe_ix (HL.ix_tupK (K := K) rfl) (pv 0) pe_int (fun _ _ => rfl))) (blkOk_by (own := [("maker", 6), ("parts", 7), ("result", 8)]) (N := ["e", "names", "arms", "code", "choices", "k", "maker", "parts", "result", "arm"]) (sc := defScope sLawMatchCode) (by decide +kernel)) (fun _ _ _ _ _ => (pg_tup rfl (pgs_cons (pg_name (i := 6) scLawMatchCode.nd rfl (.inl rfl)) (pgs_cons (pg_name (i := 7) scLawMatchCode.nd rfl (.inl rfl)) (pgs_cons (pg_name (i := 8) scLawMatchCode.nd rfl (.inl rfl)) pgs_nil))))) (fun _ _ _ _ _ => pts_nil) (fun _ _ _ _ _ => (pe_op op_cat (pe_call GLawCode (hr.mono (by omega)) (by rfl) Z.DLawCode.g Z.DLawCode.F.kp Z.DLawCode.b .nil pass0 (pa_cons (pv 8) (pa_cons (pe_op op_cat (pv 1) (pe_callTy (HX.call_list_ofK (K := K) rfl) (by rfl) Z.list HL.boot_list (pa_cons (pv 7) pa_nil))) pa_nil))) (pe_lst (pa_cons (pe_tup (pa_cons pe_str (pa_cons (pe_callB (HX.call_len_seqK (K := K) rfl) (by rfl) Z.len PySem.boot_len (pa_cons (pv 7) pa_nil)) pa_nil))) pa_nil)))))
        (pss_cons (ps_set (i := 3) scLawMatchCode.nd rfl (.inl rfl) (pe_lst pa_nil))
        (pss_cons (ps_set (i := 4) scLawMatchCode.nd rfl (.inl rfl) (pe_lst pa_nil))
        (pss_cons (ps_for PassesOwn.never rfl (pi_range1 (by rfl) Z.range (pa_cons (pe_callB call_len_seq (by rfl) Z.len PySem.boot_len (pa_cons (pv 2) pa_nil)) pa_nil)) (pg_name (i := 5) scLawMatchCode.nd rfl (.inl rfl)) (pss_cons (ps_expr (pe_bm PySem.F.plainAttrs_list PySem.F.slot_list_append PySem.F.type_list_append mt_append (pv 4) (pa_cons (pe_tup (pa_cons (pe_ix ix_tup (pe_ix ix_tup (pe_ix ix_tup (pv 0) pe_int (fun _ _ => rfl)) (pv 5) (fun _ _ => rfl)) pe_int (fun _ _ => rfl)) (pa_cons (pe_callB call_len_seq (by rfl) Z.len PySem.boot_len (pa_cons (pe_ix ix_tup (pe_ix ix_tup (pe_ix ix_tup (pv 0) pe_int (fun _ _ => rfl)) (pv 5) (fun _ _ => rfl)) pe_int (fun _ _ => rfl)) pa_nil)) (pa_cons (pe_callB call_len_seq (by rfl) Z.len PySem.boot_len (pa_cons (pv 3) pa_nil)) pa_nil)))) pa_nil)))
        (pss_one (ps_set (i := 3) scLawMatchCode.nd rfl (.inl rfl) (pe_op op_cat (pe_op op_cat (pv 3) (pe_ix ix_list (pv 2) (pv 5) (fun _ _ => rfl))) (pe_lst (pa_cons (pe_tup (pa_cons pe_str (pa_cons (pe_callB (cr_sum rfl) (by rfl) Z.sum (by decide +kernel) (pa_cons (pe_lc (own := [("arm", 9)]) (g := (gName 9)) (by rfl) scLawMatchCode.nd (pi_list (pe_slice (HX.sl_listK (K := K) rfl) (pv 2) (po_some (pe_op op_add (pv 5) pe_int)) po_none)) (blkOk_by (own := [("arm", 9)]) (N := ["e", "names", "arms", "code", "choices", "k", "maker", "parts", "result", "arm"]) (sc := defScope sLawMatchCode) (by decide +kernel)) (fun _ _ _ _ _ => (pg_name (i := 9) scLawMatchCode.nd rfl (Or.inl rfl))) (fun _ _ _ _ _ => pts_nil) (fun _ _ _ _ _ => (pe_op op_add (pe_callB (HX.call_len_seqK (K := K) rfl) (by rfl) Z.len PySem.boot_len (pa_cons (pv 9) pa_nil)) pe_int))) pa_nil)) pa_nil))) pa_nil)))))))
        (pss_one (ps_ret (pe_op op_cat (pe_op op_cat (pe_call GLawCode (hr.mono (by omega)) (by rfl) Z.DLawCode.g Z.DLawCode.F.kp Z.DLawCode.b .nil pass0 (pa_cons (pe_ix ix_tup (pv 0) pe_int (fun _ _ => rfl)) (pa_cons (pv 1) pa_nil))) (pe_lst (pa_cons (pe_tup (pa_cons pe_str (pa_cons (pe_callTy call_tuple_of (by rfl) Z.tuple HL.boot_tuple (pa_cons (pv 4) pa_nil)) pa_nil))) pa_nil))) (pv 3)))))))), ?_⟩
    have hB := cB7 hn7
    have hz : 1000000 ≤ sizeLine := by decide
    have line := line63
    have m0 := code_len ns he
    obtain ⟨t, u, q, us, rfl, ht, hq, hl, ha, hm⟩ := he
    have mA := code_len ns ha
    have qq : RetL H Q (code n ae ns ++ ([.pick (choices 0 (bks n ns arms))] ++ blocks (bks n ns arms))) := qq
    generalize hbs : bks n ns arms = bs at qq
    have hbl : bs.length = us.length := by rw [← hbs, hm.len]; exact List.length_map ..
    have hbc : ∀ b ∈ bs, b.2.2.length ≤ cB n + 1 := fun b hb => by
      rw [← hbs] at hb
      obtain ⟨m, hm', rfl⟩ := List.mem_map.mp hb
      obtain ⟨u, _, ta, tn, w, _, _, _, _, r⟩ := memR hm hm'
      have := code_len (ns ++ m.2.1) r
      simp only [List.length_append, List.length_cons, List.length_nil]; omega
    have htot : tot bs ≤ 3 * (cB n + 1 + 1) := Nat.le_trans (tot_le (cB n + 1) bs hbc) (mul3 (by omega))
    refine ⟨_, rfl, t, _, 2, _, rfl, rfl, SqT.of ht, rfl, q, rfl, ⟨us, SqT.of hq⟩, fun D hD => ?_⟩
    refine lc_it walk_tup (fun i H' => Same H H' ∧ ∃ acc, H' D = some (.lst acc) ∧ All2 (LcAt D H') acc ((bs.take i).map fun b => b.2.2)) ⟨same_upd hD, [], upd_same, .nil⟩ (fun i H' _ p => SqT.of (p.1 _ _ hq)) ?_ ?_
    · rintro i x H0 H1 hi ⟨s1, acc, hD1, hacc⟩ ⟨rfl, hx⟩
      obtain ⟨m, hmi, hxm⟩ := hm.get hx
      have hxm : ArmAt H n x m := hxm
      obtain ⟨ta, tn, ew, rfl, hta, htn, hm2, hew⟩ := hxm.keep (TupK.of s1)
      refine ⟨ta, _, rfl, SqT.of hta, rfl, _, _, rfl, _, _, rfl, _, _, rfl, rfl, rfl, lc_yes ?_⟩
      refine ⟨_, rfl, _, rfl, _, rfl, tn, _, rfl, .inr (SqT.of htn), fun L hL => ?_⟩
      have s2 : Same H1 (upd H1 L (.lst (m.2.1.map V.str))) := same_upd hL
      have g2 : upd H1 L (.lst (m.2.1.map V.str)) L = some (.lst (m.2.1.map V.str)) := upd_same
      generalize upd H1 L (.lst (m.2.1.map V.str)) = H2 at s2 g2
      refine ⟨nl, L, _, _, rfl, rfl, s2 _ _ (s1 _ _ hn), g2, by simp only [List.length_map]; omega, fun N hN => ?_⟩
      have s3 : Same H2 (upd H2 N (.lst (ns.map V.str ++ m.2.1.map V.str))) := same_upd hN
      have g3 : upd H2 N (.lst (ns.map V.str ++ m.2.1.map V.str)) N = some (.lst ((ns ++ m.2.1).map V.str)) := by rw [upd_same, List.map_append]
      generalize upd H2 N (.lst (ns.map V.str ++ m.2.1.map V.str)) = H3 at s3 g3
      have s13 := Same.tr s2 s3
      refine ⟨ew, .ref N, m.2.2, ns ++ m.2.1, rfl, hew.keep (TupK.of s13), ⟨N, rfl, g3⟩, by rw [List.length_append]; omega, fun l H4 w1 s4 hl0 hl4 hc4 => ?_⟩
      have m1 := code_len (ns ++ m.2.1) hew
      have l4 := ca_len hc4
      have s14 := Same.tr s13 s4
      refine ⟨_, rfl, tn, _, rfl, .inr (SqT.of (s14 _ _ htn)), by show 2 ≤ sizeLine; decide, fun T hT => ?_⟩
      have s5 : Same H4 (upd H4 T (.tup [.str "leave", .int ((m.2.1.map V.str).length : Int)])) := same_upd hT
      have g5 : upd H4 T (.tup [.str "leave", .int ((m.2.1.map V.str).length : Int)]) T = some (.tup [.str "leave", vi m.2.1.length]) := by rw [upd_same, List.length_map] <;> rfl
      generalize upd H4 T (.tup [.str "leave", .int ((m.2.1.map V.str).length : Int)]) = H5 at s5 g5
      refine ⟨by show 1 ≤ sizeLine; decide, fun L2 hL2 => ?_⟩
      have s6 : Same H5 (upd H5 L2 (.lst [.ref T])) := same_upd hL2
      have g6 : upd H5 L2 (.lst [.ref T]) L2 = some (.lst [.ref T]) := upd_same
      generalize upd H5 L2 (.lst [.ref T]) = H6 at s6 g6
      have s46 := Same.tr s5 s6
      refine ⟨l, L2, _, _, rfl, rfl, s46 _ _ hl4, g6, by simp only [List.length_cons, List.length_nil]; omega, fun X hX => ?_⟩
      have s7 : Same H6 (upd H6 X (.lst (w1 ++ [.ref T]))) := same_upd hX
      have g7 : upd H6 X (.lst (w1 ++ [.ref T])) X = some (.lst (w1 ++ [.ref T])) := upd_same
      generalize upd H6 X (.lst (w1 ++ [.ref T])) = H7 at s7 g7
      have s17 := Same.tr s14 (Same.tr s46 s7)
      have hD6 := (Same.tr s14 s46) _ _ hD1
      have hD7 := s7 _ _ hD6
      have nXD : X ≠ D := fun z => by rw [z, hD6] at hX; cases hX
      have hbi : bs[i]? = some (m.1, m.2.1.length, code n m.2.2 (ns ++ m.2.1) ++ [.plain "leave" [vi m.2.1.length]]) := by
        rw [← hbs]
        show (arms.map _)[i]? = _
        rw [List.getElem?_map, hmi]
        rfl
      refine ⟨acc, hD7, ?_, fun b o hb => ?_, _, upd_same, ?_⟩
      · rw [hacc.len, List.length_map, List.length_take]; omega
      · rw [upd_ne (ne_of_none hb hD)]
        exact s17 _ _ (s1 _ _ hb)
      · rw [List.take_add_one, hbi, List.map_append]
        refine (hacc.mono fun x y h => (h.same s17).upd hD7).app (.one ⟨X, _, rfl, nXD, by rw [upd_ne nXD]; exact g7, ?_⟩)
        have k7 := tk_lst (o := .lst (acc ++ [V.ref X])) hD7
        exact (hc4.keep ((TupK.of (Same.tr s46 s7)).tr k7)).app (ca1 (i := .plain "leave" [vi m.2.1.length]) ⟨T, rfl, k7 _ _ (s7 _ _ (s6 _ _ g5))⟩)
    · rintro H1 ⟨s1, al, hD1, hal⟩
      rw [← hbl, List.take_length] at hal
      have hall : al.length = bs.length := by rw [hal.len, List.length_map]
      refine ⟨Nat.zero_le _, fun C hC => ?_⟩
      have s2 : Same H1 (upd H1 C (.lst [])) := same_upd hC
      have gC : upd H1 C (.lst []) C = some (.lst []) := upd_same
      generalize upd H1 C (.lst []) = H2 at s2 gC
      refine ⟨Nat.zero_le _, fun E2 hE => ?_⟩
      have s3 : Same H2 (upd H2 E2 (.lst [])) := same_upd hE
      have gE : upd H2 E2 (.lst []) E2 = some (.lst []) := upd_same
      have nCE : C ≠ E2 := ne_of_none gC hE
      have nDE : D ≠ E2 := ne_of_none (s2 _ _ hD1) hE
      have hal2 := hal.mono fun x y h => (show LcAt D H2 x y from h.same s2)
      have hneE : ∀ z o, H2 z = some o → z ≠ E2 := fun z o h => ne_of_none h hE
      have s02 := Same.tr s1 s2
      have s13 := Same.tr s2 s3
      have s03 := Same.tr s02 s3
      have hal3 := hal2.mono fun x y h => (show LcAt D _ x y from h.same s3)
      generalize upd H2 E2 (.lst []) = H3 at s3 gE s13 s03 hal3
      have gC3 := s3 _ _ gC
      have hD3 := s13 _ _ hD1
      have nE : ∀ z o, H z = some o → z ≠ E2 := fun z o h => hneE _ _ (s02 _ _ h)
      refine ⟨_, rfl, D, _, rfl, .inl (SqL.of hD3), _, rfl, by omega, by omega, ?_⟩
      refine for_range (lo := 0) (n := (al.length : Int).toNat) (fun j σ H' => ∃ (y5 : Option V) (c : Addr) (cs ds : List V), σ = [some (.ref t), some (.ref nl), some (.ref D), some (.ref c), some (.ref E2), y5, none, none, none, none] ∧ (∀ z o, H3 z = some o → z ≠ E2 → H' z = some o) ∧ H' E2 = some (.lst cs) ∧ H' c = some (.lst ds) ∧ c ≠ E2 ∧
          All2 (ChAt H') cs (choices 0 (bs.take j)) ∧ CodeAt H' ds (blkR (tot (bs.drop j)) (bs.take j))) ⟨none, C, [], [], rfl, fun z o h _ => h, gE, gC3, nCE, .nil, .nil⟩ ?_ ?_
      · rintro j σ H4 hj ⟨y5, c, cs, ds, rfl, f, hE4, hc4, ncE, hcs, hds⟩
        have hj' : j < bs.length := by omega
        have k4 : TupK H3 H4 := fun a xs h => f a _ h (fun e => by rw [e, gE] at h; cases h)
        have f0 : ∀ z o, H z = some o → H4 z = some o := fun z o h => f _ _ (s03 _ _ h) (nE _ _ h)
        have f1 : ∀ z o, H1 z = some o → H4 z = some o := fun z o h => f _ _ (s13 _ _ h) (hneE _ _ (s2 _ _ h))
        obtain ⟨x1, hx1⟩ : ∃ x1, us[j]? = some x1 := ⟨_, List.getElem?_eq_getElem (by omega)⟩
        obtain ⟨m, hmi, ta, tn, ew, rfl, hta, htn, hm2, hew⟩ := hm.get hx1
        obtain ⟨b, hb⟩ : ∃ b, bs[j]? = some b := ⟨_, List.getElem?_eq_getElem hj'⟩
        have hbm : (bs.map fun b => b.2.2)[j]? = some b.2.2 := by rw [List.getElem?_map, hb]; rfl
        obtain ⟨x2, hx2, hx2b⟩ := hal3.getR hbm
        obtain ⟨l, ws, rfl, nlD, hl3, hcl⟩ := hx2b
        obtain ⟨l', ws', e', _, hl2', _⟩ := (hal2.get hx2).choose_spec.2
        cases e'
        have nlE : l ≠ E2 := hneE _ _ hl2'
        have hbi : bs[j]? = some (m.1, m.2.1.length, code n m.2.2 (ns ++ m.2.1) ++ [.plain "leave" [vi m.2.1.length]]) := by
          rw [← hbs]
          show (arms.map _)[j]? = _
          rw [List.getElem?_map, hmi]
          rfl
        have eb1 : b.1 = m.1 ∧ b.2.1 = m.2.1.length := by rw [hb] at hbi; cases hbi; exact ⟨rfl, rfl⟩
        clear hbi
        have elen := ca_len hcl
        have dlen : ds.length = tot (bs.take j) := by rw [ca_len hds, blkR_len]
        have clen : cs.length = (bs.take j).length := by rw [hcs.len, choices_len]
        have tsplit : tot bs = tot (bs.take j) + tot (bs.drop j) := by rw [← tot_app, List.take_append_drop]
        have dsplit : bs.drop j = b :: bs.drop (j + 1) := (List.drop_eq_getElem?_toList_append ..).trans (by rw [hb]; rfl)
        have tcons : tot (bs.drop j) = b.2.2.length + 1 + tot (bs.drop (j + 1)) := by rw [dsplit]; rfl
        have tsnoc : bs.take (j + 1) = bs.take j ++ [b] := by rw [List.take_add_one, hb]; rfl
        have ij : ∀ {xs : List V} {v : V}, xs[j]? = some v → atI xs (0 + (j : Int)) = some v := fun h => by rw [Int.zero_add]; exact atI_nat h
        refine ⟨_, rfl, .inl ⟨rfl, _, SqL.of hE4⟩, ?_⟩
        refine ⟨_, rfl, t, _, 2, _, rfl, rfl, SqT.of (f0 _ _ ht), rfl, _, rfl, q, us, _, .ref ta, rfl, rfl, SqT.of (f0 _ _ hq), ij hx1, ta, _, 0, _, rfl, rfl, SqT.of (f0 _ _ hta), rfl, ?_⟩
        refine ⟨_, rfl, t, _, 2, _, rfl, rfl, SqT.of (f0 _ _ ht), rfl, _, rfl, q, us, _, .ref ta, rfl, rfl, SqT.of (f0 _ _ hq), ij hx1, ta, _, 1, _, rfl, rfl, SqT.of (f0 _ _ hta), rfl, tn, _, rfl, .inr (SqT.of (f0 _ _ htn)), ?_⟩
        refine ⟨_, rfl, c, _, rfl, .inl (SqL.of hc4), by show 3 ≤ sizeLine; decide, fun T2 hT2 => ?_⟩
        have s7 : Same H4 (upd H4 T2 (.tup [.str m.1, .int ((m.2.1.map V.str).length : Int), .int (ds.length : Int)])) := same_upd hT2
        have g7 : upd H4 T2 (.tup [.str m.1, .int ((m.2.1.map V.str).length : Int), .int (ds.length : Int)]) T2 = some (.tup [.str b.1, vi b.2.1, vi (0 + tot (bs.take j))]) := by rw [upd_same, List.length_map, eb1.1, eb1.2, dlen, Nat.zero_add] <;> rfl
        generalize upd H4 T2 (.tup [.str m.1, .int ((m.2.1.map V.str).length : Int), .int (ds.length : Int)]) = H7 at s7 g7
        have hE7 := s7 _ _ hE4
        refine ⟨E2, _, _, rfl, rfl, hE7, by rw [clen, List.length_take]; omega, ?_⟩
        have k8 := tk_lst (o := .lst (cs ++ [V.ref T2])) hE7
        have f8 : ∀ z o, H7 z = some o → z ≠ E2 → upd H7 E2 (.lst (cs ++ [V.ref T2])) z = some o := fun z o h n => by rw [upd_ne n]; exact h
        have hE8 : upd H7 E2 (.lst (cs ++ [V.ref T2])) E2 = some (.lst (cs ++ [V.ref T2])) := upd_same
        generalize upd H7 E2 (.lst (cs ++ [V.ref T2])) = H8 at k8 f8 hE8
        have f38 : ∀ z o, H3 z = some o → z ≠ E2 → H8 z = some o := fun z o h n => f8 _ _ (s7 _ _ (f _ _ h n)) n
        have hc8 := f8 _ _ (s7 _ _ hc4) ncE
        have hl8 := f38 _ _ hl3 nlE
        have hD8 := f38 _ _ hD3 nDE
        refine ⟨_, rfl, _, rfl, _, rfl, D, _, _, .ref l, rfl, rfl, SqL.of hD8, ij hx2, c, l, _, _, rfl, rfl, hc8, hl8, by rw [dlen, elen]; omega, fun X hX => ?_⟩
        have s9 : Same H8 (upd H8 X (.lst (ds ++ ws))) := same_upd hX
        have g9 : upd H8 X (.lst (ds ++ ws)) X = some (.lst (ds ++ ws)) := upd_same
        generalize upd H8 X (.lst (ds ++ ws)) = H9 at s9 g9
        refine ⟨_, rfl, _, rfl, _, _, rfl, rfl, _, rfl, D, al, rfl, SqL.of (s9 _ _ hD8), fun p hp => ?_⟩
        have ej : ((0 + (j : Int)) + 1) = ((j + 1 : Nat) : Int) := by omega
        have s10 : Same H9 (upd H9 p (.lst (cutV al (some ((0 + (j : Int)) + 1)) none))) := same_upd hp
        have g10 : upd H9 p (.lst (cutV al (some ((0 + (j : Int)) + 1)) none)) p = some (.lst (al.drop (j + 1))) := by rw [upd_same, ej, cut_from]
        generalize upd H9 p (.lst (cutV al (some ((0 + (j : Int)) + 1)) none)) = H10 at s10 g10
        refine ⟨p, rfl, ⟨_, SqL.of g10⟩, fun S hS => ?_⟩
        have hald := (hal3.drop (j + 1))
        rw [← List.map_drop] at hald
        refine lc_it walk_list (fun i H' => Same H10 H' ∧ H' S = some (.lst ((((bs.drop (j + 1)).take i).map fun b => ((b.2.2.length : Nat) : Int) + 1).map V.int))) ⟨same_upd hS, upd_same⟩ (fun i H' _ p => SqL.of (p.1 _ _ g10)) ?_ ?_
        · rintro i x Hx Hy hi ⟨sy, hSy⟩ ⟨rfl, hx⟩
          obtain ⟨c', hc', l', ws', rfl, n', h', hcc⟩ := hald.get hx
          obtain ⟨b', hb', rfl⟩ : ∃ b', (bs.drop (j + 1))[i]? = some b' ∧ b'.2.2 = c' := by
            rw [List.getElem?_map] at hc'
            cases e : (bs.drop (j + 1))[i]? with
            | none => rw [e] at hc'; cases hc'
            | some b' => rw [e] at hc'; exact ⟨b', rfl, Option.some.inj hc'⟩
          have nlE' : l' ≠ E2 := by
            have hx' : al[j + 1 + i]? = some (.ref l') := by rw [← hx, List.getElem?_drop]
            obtain ⟨l2, w2, e2, _, h2, _⟩ := (hal2.get hx').choose_spec.2
            cases e2
            exact hneE _ _ h2
          have hl' := sy _ _ (s10 _ _ (s9 _ _ (f38 _ _ h' nlE')))
          refine ⟨rfl, lc_yes ⟨_, rfl, l', ws', rfl, .inl (SqL.of hl'), _, _, rfl, rfl, _, hSy, ?_, fun c o hco => ?_, ?_⟩⟩
          · rw [List.length_map, List.length_map, List.length_take, List.length_drop]; omega
          · rw [upd_ne (ne_of_none hco hS)]
            exact sy _ _ hco
          · rw [upd_same, List.take_add_one, hb', List.map_append, List.map_append, ca_len hcc]
            rfl
        · rintro H11 ⟨s11, hS11⟩
          have e11 : (al.drop (j + 1)).length = (bs.drop (j + 1)).length := by rw [List.length_drop, List.length_drop, hall]
          rw [e11, List.take_length] at hS11
          refine ⟨S, _, rfl, SqL.of hS11, ?_⟩
          rw [sumI]
          refine ⟨by show 2 ≤ sizeLine; decide, fun T3 hT3 => ?_⟩
          have s12 : Same H11 (upd H11 T3 (.tup [.str "skip", .int ((tot (bs.drop (j + 1)) : Nat) : Int)])) := same_upd hT3
          have g12 : upd H11 T3 (.tup [.str "skip", .int ((tot (bs.drop (j + 1)) : Nat) : Int)]) T3 = some (.tup [.str "skip", vi (tot (bs.drop (j + 1)))]) := upd_same
          generalize upd H11 T3 (.tup [.str "skip", .int ((tot (bs.drop (j + 1)) : Nat) : Int)]) = H12 at s12 g12
          refine ⟨by show 1 ≤ sizeLine; decide, fun L3 hL3 => ?_⟩
          have sL : Same H12 (upd H12 L3 (.lst [.ref T3])) := same_upd hL3
          have gL : upd H12 L3 (.lst [.ref T3]) L3 = some (.lst [.ref T3]) := upd_same
          generalize upd H12 L3 (.lst [.ref T3]) = H13 at sL gL
          have s9d := Same.tr s10 (Same.tr s11 (Same.tr s12 sL))
          refine ⟨X, L3, _, _, rfl, rfl, s9d _ _ g9, gL, by simp only [List.length_append, List.length_cons, List.length_nil]; omega, fun Y hY => ?_⟩
          have s14 : Same H13 (upd H13 Y (.lst (ds ++ ws ++ [.ref T3]))) := same_upd hY
          have hE13 := s9d _ _ (s9 _ _ hE8)
          have nYE : Y ≠ E2 := fun e => by rw [e, hE13] at hY; cases hY
          have s8e := Same.tr s9 (Same.tr s9d s14)
          have kk := (TupK.of s7).tr (k8.tr (TupK.of s8e))
          refine ⟨_, Y, cs ++ [V.ref T2], ds ++ ws ++ [V.ref T3], rfl, fun z o h n => s8e _ _ (f38 _ _ h n), s14 _ _ hE13, upd_same, nYE, ?_, ?_⟩
          · rw [tsnoc, choices_snoc]
            exact (hcs.mono fun x y r => IsRow.same r kk).app (.one ⟨T2, rfl, s8e _ _ (k8 _ _ g7)⟩)
          · rw [tsnoc, blkR_snoc]
            have er : tot (bs.drop (j + 1)) + b.2.2.length + 1 = tot (bs.drop j) := by omega
            rw [er]
            have r := (CodeAt.keep hds kk).app ((CodeAt.keep hcl (k4.tr kk)).app (ca1 (i := .jump "skip" (tot (bs.drop (j + 1)))) ⟨T3, rfl, s14 _ _ (sL _ _ g12)⟩))
            rw [← List.append_assoc ds ws] at r
            exact r
      · rintro σ H4 ⟨y5, c, cs, ds, rfl, f, hE4, hc4, ncE, hcs, hds⟩
        have ealn : (al.length : Int).toNat = bs.length := by omega
        rw [ealn, List.take_length, List.drop_length] at hds
        rw [ealn, List.take_length] at hcs
        have hds : CodeAt H4 ds (blocks bs) := by rw [← blkR_zero]; exact hds
        have s04 : Same H H4 := fun z o h => f _ _ (s03 _ _ h) (nE _ _ h)
        have dlen : ds.length = tot bs := by rw [ca_len hds, blocks_len]
        have hauu : ExAt H n ae u := ha
        refine ⟨_, rfl, t, _, 1, _, rfl, rfl, SqT.of (s04 _ _ ht), rfl, _, rfl, u, .ref nl, ae, ns, rfl, hauu.keep (TupK.of s04), ⟨_, rfl, s04 _ _ hn⟩, by omega, fun l H5 w5 s5 _ hl5 hc5 => ?_⟩
        have l5 := ca_len hc5
        refine ⟨_, rfl, E2, cs, rfl, .inl ⟨SqL.of (s5 _ _ hE4), fun T hT => ?_⟩⟩
        have s6 : Same H5 (upd H5 T (.tup cs)) := same_upd hT
        have g6 : upd H5 T (.tup cs) T = some (.tup cs) := upd_same
        generalize upd H5 T (.tup cs) = H6 at s6 g6
        refine ⟨by show 2 ≤ sizeLine; decide, fun T2 hT2 => ?_⟩
        have s7 : Same H6 (upd H6 T2 (.tup [.str "pick", .ref T])) := same_upd hT2
        have g7 : upd H6 T2 (.tup [.str "pick", .ref T]) T2 = some (.tup [.str "pick", .ref T]) := upd_same
        generalize upd H6 T2 (.tup [.str "pick", .ref T]) = H7 at s7 g7
        refine ⟨by show 1 ≤ sizeLine; decide, fun L hL => ?_⟩
        have s8 : Same H7 (upd H7 L (.lst [.ref T2])) := same_upd hL
        have g8 : upd H7 L (.lst [.ref T2]) L = some (.lst [.ref T2]) := upd_same
        generalize upd H7 L (.lst [.ref T2]) = H8 at s8 g8
        have s58 := Same.tr s6 (Same.tr s7 s8)
        refine ⟨l, L, _, _, rfl, rfl, s58 _ _ hl5, g8, by simp only [List.length_append, List.length_cons, List.length_nil]; omega, fun X hX => ?_⟩
        have s9 : Same H8 (upd H8 X (.lst (w5 ++ [.ref T2]))) := same_upd hX
        have g9 : upd H8 X (.lst (w5 ++ [.ref T2])) X = some (.lst (w5 ++ [.ref T2])) := upd_same
        generalize upd H8 X (.lst (w5 ++ [.ref T2])) = H9 at s9 g9
        have s59 := Same.tr s58 s9
        have s49 := Same.tr s5 s59
        refine ⟨_, rfl, X, c, _, _, rfl, rfl, g9, s49 _ _ hc4, by simp only [List.length_append, List.length_cons, List.length_nil]; omega, retl_new qq (Same.tr s04 s49) ?_⟩
        have r := (CodeAt.keep hc5 (TupK.of s59)).app (All2.cons (show InsAt H9 (.ref T2) (.pick (choices 0 bs)) from ⟨T2, T, cs, rfl, s9 _ _ (s8 _ _ g7), s9 _ _ (s8 _ _ (s7 _ _ g6)), hcs.mono fun x y r => IsRow.same r (TupK.of s49)⟩) (CodeAt.keep hds (TupK.of s49)))
        rw [List.append_assoc]
        exact r
theorem lcode_zero {k : Nat} (Z : Defs K mg) : FnOk P w K mg base CX0 (k + 1) Z.fLawCode Z.fdLawCode ["e", "names"] (spLC 0) := by
  refine Z.DLawCode.F.ok scLawCode (fun vs H Q E h => ?_) (fun cdv A outer s H vs Q E hr h => ?_)
  · obtain ⟨x, v, e, ns, rfl, _⟩ := h
    rfl
  · obtain ⟨x, v, e, ns, rfl, he, _⟩ := h
    exact he.elim
theorem ok_lcode {k : Nat} (Z : Defs K mg) : ∀ n, n ≤ 8 → FnOk P w K mg base CX0 (k + 2 * n + 1) Z.fLawCode Z.fdLawCode ["e", "names"] (spLC n)
  | 0, _ => lcode_zero Z
  | n + 1, h => lcode_step (k := k + 2 * n) (by omega) Z (ok_lcode Z n (by omega)) (ok_lmatch (k := k + 2 * n) (by omega) Z (ok_lcode Z n (by omega)))
end
end Q33
namespace Q33
open PySem PySem.Spec PyProof.Rows L2 SX HL
/-- all but p stays, new objects may come -/
def Bt (H H' : Hp) (p : Addr) : Prop := ∀ z o, H z = some o → z ≠ p → H' z = some o
theorem Bt.of {H H' : Hp} {p : Addr} (b : But H H' p) : Bt H H' p := fun z o h n => (b z n).trans h
theorem Bt.refl {H : Hp} {p : Addr} : Bt H H p := fun _ _ h _ => h
theorem Bt.tr {H H1 H2 : Hp} {p : Addr} (a : Bt H H1 p) (b : Bt H1 H2 p) : Bt H H2 p := fun z o h n => b z o (a z o h n) n
theorem Bt.same {H H' : Hp} {p : Addr} (s : Same H H') : Bt H H' p := fun z o h _ => s z o h
theorem StAt.tk {H H' : Hp} {p q : Addr} {xs : List Int} {g : Int} (S : StAt H p q xs g) (b : Bt H H' p) : TupK H H' := fun a us h => b _ _ h fun e => by
  obtain ⟨_, _, i, c, z, h2, _⟩ := S
  rw [e, h2] at h
  cases h
theorem Bt.tk {H H' : Hp} {p q : Addr} {xs : List Int} {g : Int} (b : Bt H H' p) (S : StAt H p q xs g) : TupK H H' := S.tk b
theorem StAt.sm {H H' : Hp} {p q : Addr} {xs : List Int} {g : Int} (S : StAt H p q xs g) (s : Same H H') : StAt H' p q xs g := by
  obtain ⟨h1, hl, i, c, z, h2, r⟩ := S
  exact ⟨s _ _ h1, hl, i, c, z, s _ _ h2, r⟩
theorem StAt.nn {H : Hp} {p q a : Addr} {xs : List Int} {g : Int} (S : StAt H p q xs g) (h : H a = none) : a ≠ p := fun e => by
  obtain ⟨_, _, i, c, z, h2, _⟩ := S
  rw [e, h2] at h
  cases h
theorem StAt.lst {H : Hp} {p q A z : Addr} {r : List V} {xs : List Int} {g : Int} {o : HO} (S : StAt H p q xs g) (h : H A = some (.lst (.ref z :: r))) (ne : A ≠ p) : StAt (L2.upd H A o) p q xs g := by
  obtain ⟨a1, a2, i, c, y, a3, a4⟩ := S
  have nq : q ≠ A := fun e => by
    rw [e, h] at a1
    cases xs with
    | nil => cases a1
    | cons x r => cases a1
  exact ⟨by rw [upd_ne nq]; exact a1, a2, i, c, y, by rw [upd_ne (fun e => ne e.symm)]; exact a3, a4⟩
theorem pick_str {ls : List Str} {v : Int} (h0 : 0 ≤ v) (h1 : v < (ls.length : Int)) : ∃ l, l ∈ ls ∧ atI (ls.map V.str) v = some (.str l) := by
  obtain ⟨i, rfl⟩ := Int.eq_ofNat_of_zero_le h0
  have hi : i < ls.length := by omega
  exact ⟨ls[i], List.getElem_mem hi, atI_nat (by rw [List.getElem?_map, List.getElem?_eq_getElem hi]; rfl)⟩
section
variable {P : Program} {w : World} {K : PySem.W.Frag} {mg : Str → Option Value} {base : Heap}
def spWild (d : Nat) : Sp := fun vs H Q _ => ∃ (p q : Addr) (xs : List Int) (g : Int) (nl : Addr) (ns : List Str), vs = [.ref p, .ref nl, .int (d : Int)] ∧ StAt H p q xs g ∧ H nl = some (.lst (ns.map V.str)) ∧ nl ≠ p ∧ 0 < ns.length ∧ ns.length + 2 * d ≤ 900 ∧
  ∀ H' x e g', StAt H' p q xs g' → Bt H H' p → ExAt H' (d + 1) e x → Q x H'
theorem wild_zero {k : Nat} (Z : Defs K mg) : FnOk P w K mg base CX0 (k + 2) Z.fLawWild Z.fdLawWild ["state", "names", "depth"] (spWild 0) := by
  have GLawNext : FnOk P w K mg base CX0 (k + 1) Z.fLawNext Z.fdLawNext ["state", "limit"] spNext := ok_next Z
  refine Z.DLawWild.F.ok scLawWild (fun vs H Q E h => ?_) (fun cdv A outer s H vs Q E hr h => ?_)
  · obtain ⟨p, q, xs, g, nl, ns, rfl, _⟩ := h
    rfl
  · obtain ⟨p, q, xs, g, nl, ns, rfl, S0, hn, nnl, hn0, hns, qq⟩ := h
    refine ⟨_, (pss_cons (ps_set (i := 3) scLawWild.nd rfl (.inl rfl) (pe_call GLawNext (hr.mono (by omega)) (by rfl) Z.DLawNext.g Z.DLawNext.F.kp Z.DLawNext.b .nil pass0 (pa_cons (pv 0) (pa_cons pe_int pa_nil))))
        (pss_cons (ps_if (PW.pt (pw_or (pt_cmpR op_lt (pv 2) pe_int (nomark _)) (pw_or (pt_cmpR op_lt (pv 3) pe_int (nomark _)) (pw_or1 (pt_cmpR op_lt (pe_ix ix_list (pv 0) pe_int (fun _ _ => rfl)) pe_int (nomark _)))))) (pss_cons (ps_if (pt_cmpR op_lt (pv 3) pe_int (nomark _)) (pss_one (ps_ret (pe_ix ix_list (pe_lst (pa_cons (pe_tup (pa_cons pe_str (pa_cons (pe_call GLawNext (hr.mono (by omega)) (by rfl) Z.DLawNext.g Z.DLawNext.F.kp Z.DLawNext.b .nil pass0 (pa_cons (pv 0) (pa_cons pe_int pa_nil))) pa_nil))) (pa_cons (pe_tup (pa_cons pe_str (pa_cons pe_str pa_nil))) (pa_cons (pe_tup (pa_cons pe_str (pa_cons pe_bl pa_nil))) (pa_cons (pe_tup (pa_cons pe_str (pa_cons (pe_tup pa_nil) pa_nil))) pa_nil))))) (pe_call GLawNext (hr.mono (by omega)) (by rfl) Z.DLawNext.g Z.DLawNext.F.kp Z.DLawNext.b .nil pass0 (pa_cons (pv 0) (pa_cons pe_int pa_nil))) (fun _ _ => rfl)))) pss_nil)
        (pss_one (ps_ret (pe_tup (pa_cons pe_str (pa_cons (pe_ix ix_list (pv 1) (pe_call GLawNext (hr.mono (by omega)) (by rfl) Z.DLawNext.g Z.DLawNext.F.kp Z.DLawNext.b .nil pass0 (pa_cons (pv 0) (pa_cons (pe_callB call_len_seq (by rfl) Z.len PySem.boot_len (pa_cons (pv 1) pa_nil)) pa_nil))) (fun _ _ => rfl)) pa_nil)))))) pss_nil) pss_never)), ?_⟩
    have hz : 1000000 ≤ sizeLine := by decide
    refine ⟨_, rfl, p, q, xs, g, 16, rfl, S0, by decide, by decide, fun H1 v S1 bb1 v0 v1 => ?_⟩
    have b1 := Bt.of bb1
    refine ⟨_, rfl, _, _, rfl, rfl, _, rfl, iteT (iteT ?_)⟩
    refine ⟨_, rfl, _, _, rfl, rfl, _, rfl, ite2 (fun e5 => ?_) (fun e5 => ?_)⟩
    · -- a literal
      refine ⟨_, rfl, p, q, xs, _, 3, rfl, S1, by decide, by decide, fun H2 v1 S2 bb2 lov1 hiv1 => ?_⟩
      have b2 := Bt.of bb2
      refine ⟨by show 2 ≤ sizeLine; decide, fun X2 hX2 => ?_⟩
      have b3 : Bt H2 (upd H2 X2 (.tup [.str "number", .int v1])) p := Bt.same (same_upd hX2)
      have S3 := S2.sm (same_upd (o := (.tup [.str "number", .int v1])) hX2)
      have gX2 : upd H2 X2 (.tup [.str "number", .int v1]) X2 = some (.tup [.str "number", .int v1]) := upd_same
      have neX2 := S2.nn hX2
      generalize upd H2 X2 (.tup [.str "number", .int v1]) = H3 at b3 S3 gX2
      refine ⟨by show 2 ≤ sizeLine; decide, fun X3 hX3 => ?_⟩
      have b4 : Bt H3 (upd H3 X3 (.tup [.str "text", .str "a"])) p := Bt.same (same_upd hX3)
      have S4 := S3.sm (same_upd (o := (.tup [.str "text", .str "a"])) hX3)
      have gX3 : upd H3 X3 (.tup [.str "text", .str "a"]) X3 = some (.tup [.str "text", .str "a"]) := upd_same
      have neX3 := S3.nn hX3
      generalize upd H3 X3 (.tup [.str "text", .str "a"]) = H4 at b4 S4 gX3
      refine ⟨by show 2 ≤ sizeLine; decide, fun X4 hX4 => ?_⟩
      have b5 : Bt H4 (upd H4 X4 (.tup [.str "bool", .bl true])) p := Bt.same (same_upd hX4)
      have S5 := S4.sm (same_upd (o := (.tup [.str "bool", .bl true])) hX4)
      have gX4 : upd H4 X4 (.tup [.str "bool", .bl true]) X4 = some (.tup [.str "bool", .bl true]) := upd_same
      have neX4 := S4.nn hX4
      generalize upd H4 X4 (.tup [.str "bool", .bl true]) = H5 at b5 S5 gX4
      refine ⟨Nat.zero_le _, fun X5 hX5 => ?_⟩
      have b6 : Bt H5 (upd H5 X5 (.tup [])) p := Bt.same (same_upd hX5)
      have S6 := S5.sm (same_upd (o := (.tup [])) hX5)
      have gX5 : upd H5 X5 (.tup []) X5 = some (.tup []) := upd_same
      have neX5 := S5.nn hX5
      generalize upd H5 X5 (.tup []) = H6 at b6 S6 gX5
      refine ⟨by show 2 ≤ sizeLine; decide, fun X6 hX6 => ?_⟩
      have b7 : Bt H6 (upd H6 X6 (.tup [.str "list", .ref X5])) p := Bt.same (same_upd hX6)
      have S7 := S6.sm (same_upd (o := (.tup [.str "list", .ref X5])) hX6)
      have gX6 : upd H6 X6 (.tup [.str "list", .ref X5]) X6 = some (.tup [.str "list", .ref X5]) := upd_same
      have neX6 := S6.nn hX6
      generalize upd H6 X6 (.tup [.str "list", .ref X5]) = H7 at b7 S7 gX6
      refine ⟨by show 4 ≤ sizeLine; decide, fun X7 hX7 => ?_⟩
      have b8 : Bt H7 (upd H7 X7 (.lst [.ref X2, .ref X3, .ref X4, .ref X6])) p := Bt.same (same_upd hX7)
      have S8 := S7.sm (same_upd (o := (.lst [.ref X2, .ref X3, .ref X4, .ref X6])) hX7)
      have gX7 : upd H7 X7 (.lst [.ref X2, .ref X3, .ref X4, .ref X6]) X7 = some (.lst [.ref X2, .ref X3, .ref X4, .ref X6]) := upd_same
      have neX7 := S7.nn hX7
      generalize upd H7 X7 (.lst [.ref X2, .ref X3, .ref X4, .ref X6]) = H8 at b8 S8 gX7
      refine ⟨_, rfl, p, q, xs, _, 4, rfl, S8, by decide, by decide, fun H9 v8 S9 bb9 lov8 hiv8 => ?_⟩
      have b9 := Bt.of bb9
      obtain ⟨c, rfl⟩ := Int.eq_ofNat_of_zero_le lov8
      have hc : c = 0 ∨ c = 1 ∨ c = 2 ∨ c = 3 := by omega
      rcases hc with rfl | rfl | rfl | rfl
      · exact ⟨X7, _, _, .ref X2, rfl, rfl, SqL.of (b9 _ _ gX7 neX7), rfl, qq _ _ (.lit "number" (.int v1)) _ S9 (Bt.tr b1 (Bt.tr b2 (Bt.tr b3 (Bt.tr b4 (Bt.tr b5 (Bt.tr b6 (Bt.tr b7 (Bt.tr b8 b9)))))))) ⟨.inl rfl, trivial, X2, rfl, ((Bt.tk (Bt.tr b4 (Bt.tr b5 (Bt.tr b6 (Bt.tr b7 (Bt.tr b8 b9))))) S3) _ _ gX2)⟩⟩
      · exact ⟨X7, _, _, .ref X3, rfl, rfl, SqL.of (b9 _ _ gX7 neX7), rfl, qq _ _ (.lit "text" (.str "a")) _ S9 (Bt.tr b1 (Bt.tr b2 (Bt.tr b3 (Bt.tr b4 (Bt.tr b5 (Bt.tr b6 (Bt.tr b7 (Bt.tr b8 b9)))))))) ⟨.inr (.inl rfl), trivial, X3, rfl, ((Bt.tk (Bt.tr b5 (Bt.tr b6 (Bt.tr b7 (Bt.tr b8 b9)))) S4) _ _ gX3)⟩⟩
      · exact ⟨X7, _, _, .ref X4, rfl, rfl, SqL.of (b9 _ _ gX7 neX7), rfl, qq _ _ (.lit "bool" (.bl true)) _ S9 (Bt.tr b1 (Bt.tr b2 (Bt.tr b3 (Bt.tr b4 (Bt.tr b5 (Bt.tr b6 (Bt.tr b7 (Bt.tr b8 b9)))))))) ⟨.inr (.inr rfl), trivial, X4, rfl, ((Bt.tk (Bt.tr b6 (Bt.tr b7 (Bt.tr b8 b9))) S5) _ _ gX4)⟩⟩
      · exact ⟨X7, _, _, .ref X6, rfl, rfl, SqL.of (b9 _ _ gX7 neX7), rfl, qq _ _ (.list []) _ S9 (Bt.tr b1 (Bt.tr b2 (Bt.tr b3 (Bt.tr b4 (Bt.tr b5 (Bt.tr b6 (Bt.tr b7 (Bt.tr b8 b9)))))))) ⟨X6, X5, [], rfl, ((Bt.tk (Bt.tr b8 b9) S7) _ _ gX6), ((Bt.tk (Bt.tr b7 (Bt.tr b8 b9)) S6) _ _ gX5), by decide, .nil⟩⟩
    · -- a name
      refine ⟨_, rfl, _, rfl, _, rfl, nl, _, rfl, .inl (SqL.of (b1 _ _ hn nnl)), p, q, xs, _, _, rfl, S1, by rw [List.length_map]; omega, by rw [List.length_map]; omega, fun H2 v1 S2 bb2 lov1 hiv1 => ?_⟩
      have b2 := Bt.of bb2
      rw [List.length_map] at hiv1
      obtain ⟨l1, ml1, al1⟩ := pick_str lov1 hiv1
      refine ⟨nl, _, _, .str l1, rfl, rfl, SqL.of ((Bt.tr b1 b2) _ _ hn nnl), al1, ?_⟩
      refine ⟨by show 2 ≤ sizeLine; decide, fun X2 hX2 => ?_⟩
      have b3 : Bt H2 (upd H2 X2 (.tup [.str "name", .str l1])) p := Bt.same (same_upd hX2)
      have S3 := S2.sm (same_upd (o := (.tup [.str "name", .str l1])) hX2)
      have gX2 : upd H2 X2 (.tup [.str "name", .str l1]) X2 = some (.tup [.str "name", .str l1]) := upd_same
      generalize upd H2 X2 (.tup [.str "name", .str l1]) = H3 at b3 S3 gX2
      exact qq H3 _ (.name l1) _ S3 (Bt.tr b1 (Bt.tr b2 b3)) ⟨X2, rfl, gX2⟩
theorem wild_step {k d : Nat} (Z : Defs K mg) (GLawWild : FnOk P w K mg base CX0 (k + 2) Z.fLawWild Z.fdLawWild ["state", "names", "depth"] (spWild d)) : FnOk P w K mg base CX0 (k + 3) Z.fLawWild Z.fdLawWild ["state", "names", "depth"] (spWild (d + 1)) := by
  have GLawNext : FnOk P w K mg base CX0 (k + 1) Z.fLawNext Z.fdLawNext ["state", "limit"] spNext := ok_next Z
  refine Z.DLawWild.F.ok scLawWild (fun vs H Q E h => ?_) (fun cdv A outer s H vs Q E hr h => ?_)
  · obtain ⟨p, q, xs, g, nl, ns, rfl, _⟩ := h
    rfl
  · obtain ⟨p, q, xs, g, nl, ns, rfl, S0, hn, nnl, hn0, hns, qq⟩ := h
    refine ⟨_, (pss_cons (ps_set (i := 3) scLawWild.nd rfl (.inl rfl) (pe_call GLawNext (hr.mono (by omega)) (by rfl) Z.DLawNext.g Z.DLawNext.F.kp Z.DLawNext.b .nil pass0 (pa_cons (pv 0) (pa_cons pe_int pa_nil))))
        (pss_cons (ps_if (PW.pt (pw_or (pt_cmpR op_lt (pv 2) pe_int (nomark _)) (pw_or (pt_cmpR op_lt (pv 3) pe_int (nomark _)) (pw_or1 (pt_cmpR op_lt (pe_ix ix_list (pv 0) pe_int (fun _ _ => rfl)) pe_int (nomark _)))))) (pss_cons (ps_if (pt_cmpR op_lt (pv 3) pe_int (nomark _)) (pss_one (ps_ret (pe_ix ix_list (pe_lst (pa_cons (pe_tup (pa_cons pe_str (pa_cons (pe_call GLawNext (hr.mono (by omega)) (by rfl) Z.DLawNext.g Z.DLawNext.F.kp Z.DLawNext.b .nil pass0 (pa_cons (pv 0) (pa_cons pe_int pa_nil))) pa_nil))) (pa_cons (pe_tup (pa_cons pe_str (pa_cons pe_str pa_nil))) (pa_cons (pe_tup (pa_cons pe_str (pa_cons pe_bl pa_nil))) (pa_cons (pe_tup (pa_cons pe_str (pa_cons (pe_tup pa_nil) pa_nil))) pa_nil))))) (pe_call GLawNext (hr.mono (by omega)) (by rfl) Z.DLawNext.g Z.DLawNext.F.kp Z.DLawNext.b .nil pass0 (pa_cons (pv 0) (pa_cons pe_int pa_nil))) (fun _ _ => rfl)))) pss_nil)
        (pss_one (ps_ret (pe_tup (pa_cons pe_str (pa_cons (pe_ix ix_list (pv 1) (pe_call GLawNext (hr.mono (by omega)) (by rfl) Z.DLawNext.g Z.DLawNext.F.kp Z.DLawNext.b .nil pass0 (pa_cons (pv 0) (pa_cons (pe_callB call_len_seq (by rfl) Z.len PySem.boot_len (pa_cons (pv 1) pa_nil)) pa_nil))) (fun _ _ => rfl)) pa_nil)))))) pss_nil)
        (pss_cons (ps_augS (pv 0) pe_int pget_list pe_int ip_sub set_list)
        (pss_cons (ps_setLc (i := 4) (own := [("k", 8)]) (g := (gName 8)) (by rfl) scLawWild.nd rfl rfl (sw_true rfl rfl rfl (by decide +kernel)) (pi_range1 (by rfl) Z.range (pa_cons pe_int pa_nil)) (blkOk_by (own := [("k", 8)]) (N := ["state", "names", "depth", "pick", "parts", "local", "operators", "arms", "k"]) (sc := defScope sLawWild) (by decide +kernel)) (fun _ _ _ _ _ => (pg_name (i := 8) scLawWild.nd rfl (Or.inl rfl))) (fun _ _ _ _ _ => pts_nil) (fun _ _ _ _ _ => (pe_call GLawWild (hr.mono (by omega)) (by rfl) Z.DLawWild.g Z.DLawWild.F.kp Z.DLawWild.b .nil pass0 (pa_cons (pv 0) (pa_cons (pv 1) (pa_cons (pe_op op_sub (pv 2) pe_int) pa_nil))))))
        (pss_cons (ps_set (i := 5) scLawWild.nd rfl (.inl rfl) (pe_ix ix_list (pe_lst (pa_cons pe_str (pa_cons pe_str (pa_cons pe_str (pa_cons pe_str pa_nil))))) (pe_call GLawNext (hr.mono (by omega)) (by rfl) Z.DLawNext.g Z.DLawNext.F.kp Z.DLawNext.b .nil pass0 (pa_cons (pv 0) (pa_cons pe_int pa_nil))) (fun _ _ => rfl)))
        (pss_cons (ps_if (pt_cmpR op_lt (pv 3) pe_int (nomark _)) (pss_cons (ps_set (i := 6) scLawWild.nd rfl (.inl rfl) (pe_lst (pa_cons pe_str (pa_cons pe_str (pa_cons pe_str (pa_cons pe_str (pa_cons pe_str (pa_cons pe_str (pa_cons pe_str (pa_cons pe_str (pa_cons pe_str (pa_cons pe_str pa_nil))))))))))))
        (pss_one (ps_ret (pe_tup (pa_cons pe_str (pa_cons (pe_ix ix_list (pv 6) (pe_call GLawNext (hr.mono (by omega)) (by rfl) Z.DLawNext.g Z.DLawNext.F.kp Z.DLawNext.b .nil pass0 (pa_cons (pv 0) (pa_cons pe_int pa_nil))) (fun _ _ => rfl)) (pa_cons (pe_ix ix_list (pv 4) pe_int (fun _ _ => rfl)) (pa_cons (pe_ix ix_list (pv 4) pe_int (fun _ _ => rfl)) pa_nil)))))))) pss_nil)
        (pss_cons (ps_if (pt_cmpR op_eq (pv 3) pe_int (nomark _)) (pss_one (ps_ret (pe_tup (pa_cons pe_str (pa_cons (pe_ix ix_list (pv 4) pe_int (fun _ _ => rfl)) pa_nil))))) pss_nil)
        (pss_cons (ps_if (pt_cmpR op_eq (pv 3) pe_int (nomark _)) (pss_one (ps_ret (pe_tup (pa_cons pe_str (pa_cons (pe_ix ix_list (pv 4) pe_int (fun _ _ => rfl)) (pa_cons (pe_ix ix_list (pv 4) pe_int (fun _ _ => rfl)) (pa_cons (pe_ix ix_list (pv 4) pe_int (fun _ _ => rfl)) pa_nil))))))) pss_nil)
        (pss_cons (ps_if (pt_cmpR op_eq (pv 3) pe_int (nomark _)) (pss_one (ps_ret (pe_tup (pa_cons pe_str (pa_cons (pv 5) (pa_cons (pe_ix ix_list (pv 4) pe_int (fun _ _ => rfl)) (pa_cons (pe_call GLawWild (hr.mono (by omega)) (by rfl) Z.DLawWild.g Z.DLawWild.F.kp Z.DLawWild.b .nil pass0 (pa_cons (pv 0) (pa_cons (pe_op op_cat (pv 1) (pe_lst (pa_cons (pv 5) pa_nil))) (pa_cons (pe_op op_sub (pv 2) pe_int) pa_nil)))) pa_nil))))))) pss_nil)
        (pss_cons (ps_if (pt_cmpR op_eq (pv 3) pe_int (nomark _)) (pss_one (ps_ret (pe_tup (pa_cons pe_str (pa_cons (pe_callTy call_tuple_of (by rfl) Z.tuple HL.boot_tuple (pa_cons (pe_slice sl_list (pv 4) po_none (po_some (pe_call GLawNext (hr.mono (by omega)) (by rfl) Z.DLawNext.g Z.DLawNext.F.kp Z.DLawNext.b .nil pass0 (pa_cons (pv 0) (pa_cons pe_int pa_nil))))) pa_nil)) pa_nil))))) pss_nil)
        (pss_cons (ps_if (pt_cmpR op_eq (pv 3) pe_int (nomark _)) (pss_one (ps_ret (pe_tup (pa_cons pe_str (pa_cons (pe_ix ix_list (pv 4) pe_int (fun _ _ => rfl)) (pa_cons (pe_ix ix_list (pv 4) pe_int (fun _ _ => rfl)) pa_nil)))))) pss_nil)
        (pss_cons (ps_if (pt_cmpR op_lt (pv 3) pe_int (nomark _)) (pss_one (ps_ret (pe_tup (pa_cons pe_str (pa_cons (pe_ix ix_list (pv 1) (pe_call GLawNext (hr.mono (by omega)) (by rfl) Z.DLawNext.g Z.DLawNext.F.kp Z.DLawNext.b .nil pass0 (pa_cons (pv 0) (pa_cons (pe_callB call_len_seq (by rfl) Z.len PySem.boot_len (pa_cons (pv 1) pa_nil)) pa_nil))) (fun _ _ => rfl)) (pa_cons (pe_callTy call_tuple_of (by rfl) Z.tuple HL.boot_tuple (pa_cons (pe_slice sl_list (pv 4) po_none (po_some (pe_call GLawNext (hr.mono (by omega)) (by rfl) Z.DLawNext.g Z.DLawNext.F.kp Z.DLawNext.b .nil pass0 (pa_cons (pv 0) (pa_cons pe_int pa_nil))))) pa_nil)) pa_nil)))))) pss_nil)
        (pss_cons (ps_if (pt_cmpR op_eq (pv 3) pe_int (nomark _)) (pss_one (ps_ret (pe_tup (pa_cons pe_str (pa_cons (pe_ix ix_list (pe_lst (pa_cons pe_str (pa_cons pe_str (pa_cons pe_str pa_nil)))) (pe_call GLawNext (hr.mono (by omega)) (by rfl) Z.DLawNext.g Z.DLawNext.F.kp Z.DLawNext.b .nil pass0 (pa_cons (pv 0) (pa_cons pe_int pa_nil))) (fun _ _ => rfl)) (pa_cons (pe_callTy call_tuple_of (by rfl) Z.tuple HL.boot_tuple (pa_cons (pe_slice sl_list (pv 4) po_none (po_some (pe_call GLawNext (hr.mono (by omega)) (by rfl) Z.DLawNext.g Z.DLawNext.F.kp Z.DLawNext.b .nil pass0 (pa_cons (pv 0) (pa_cons pe_int pa_nil))))) pa_nil)) pa_nil)))))) pss_nil)
        (pss_cons (ps_if (pt_cmpR op_eq (pv 3) pe_int (nomark _)) (pss_one (ps_ret (pe_tup (pa_cons pe_str (pa_cons (pe_ix ix_list (pv 4) pe_int (fun _ _ => rfl)) (pa_cons (pe_ix ix_list (pv 4) pe_int (fun _ _ => rfl)) (pa_cons (pv 5) (pa_cons pe_str (pa_cons (pe_call GLawWild (hr.mono (by omega)) (by rfl) Z.DLawWild.g Z.DLawWild.F.kp Z.DLawWild.b .nil pass0 (pa_cons (pv 0) (pa_cons (pe_op op_cat (pv 1) (pe_lst (pa_cons (pv 5) (pa_cons pe_str pa_nil)))) (pa_cons (pe_op op_sub (pv 2) pe_int) pa_nil)))) pa_nil))))))))) pss_nil)
        (pss_cons (ps_set (i := 7) scLawWild.nd rfl (.inl rfl) (pe_lst (pa_cons (pe_tup (pa_cons pe_str (pa_cons (pe_tup pa_nil) (pa_cons (pe_ix ix_list (pv 4) pe_int (fun _ _ => rfl)) pa_nil)))) (pa_cons (pe_tup (pa_cons pe_str (pa_cons (pe_tup (pa_cons (pv 5) pa_nil)) (pa_cons (pe_call GLawWild (hr.mono (by omega)) (by rfl) Z.DLawWild.g Z.DLawWild.F.kp Z.DLawWild.b .nil pass0 (pa_cons (pv 0) (pa_cons (pe_op op_cat (pv 1) (pe_lst (pa_cons (pv 5) pa_nil))) (pa_cons (pe_op op_sub (pv 2) pe_int) pa_nil)))) pa_nil)))) pa_nil))))
        (pss_cons (ps_expr (pe_bm PySem.F.plainAttrs_list PySem.F.slot_list_append PySem.F.type_list_append mt_append (pv 7) (pa_cons (pe_tup (pa_cons (pe_ix ix_list (pe_lst (pa_cons pe_str (pa_cons pe_str (pa_cons pe_str pa_nil)))) (pe_call GLawNext (hr.mono (by omega)) (by rfl) Z.DLawNext.g Z.DLawNext.F.kp Z.DLawNext.b .nil pass0 (pa_cons (pv 0) (pa_cons pe_int pa_nil))) (fun _ _ => rfl)) (pa_cons (pe_tup (pa_cons pe_str (pa_cons pe_str pa_nil))) (pa_cons (pe_ix ix_list (pv 4) pe_int (fun _ _ => rfl)) pa_nil)))) pa_nil)))
        (pss_one (ps_ret (pe_tup (pa_cons pe_str (pa_cons (pe_ix ix_list (pv 4) pe_int (fun _ _ => rfl)) (pa_cons (pe_callTy call_tuple_of (by rfl) Z.tuple HL.boot_tuple (pa_cons (pe_slice sl_list (pv 7) (po_some (pe_call GLawNext (hr.mono (by omega)) (by rfl) Z.DLawNext.g Z.DLawNext.F.kp Z.DLawNext.b .nil pass0 (pa_cons (pv 0) (pa_cons pe_int pa_nil)))) po_none) pa_nil)) pa_nil)))))))))))))))))))))), ?_⟩
    have hz : 1000000 ≤ sizeLine := by decide
    refine ⟨_, rfl, p, q, xs, g, 16, rfl, S0, by decide, by decide, fun H1 v S1 bb1 v0 v1 => ?_⟩
    have b1 := Bt.of bb1
    obtain ⟨hq1, hlen1, i1, c1, z1, hp1, hi1, hc1, hz1, hz21⟩ := id S1
    have nd : decide (((d + 1 : Nat) : Int) < 1) = false := decide_eq_false (by omega)
    have ed : ((d + 1 : Nat) : Int) - 1 = (d : Int) := by omega
    refine ⟨_, rfl, _, _, rfl, rfl, _, rfl, ?_⟩
    rw [nd]
    refine iteF ?_
    have c3 : v < 3 ∨ (¬ v < 3 ∧ g < 1) ∨ (¬ v < 3 ∧ ¬ g < 1) := by omega
    rcases c3 with e3 | ⟨e3, e4⟩ | ⟨e3, e4⟩
    · refine ⟨_, rfl, _, _, rfl, rfl, _, rfl, ?_⟩
      rw [decide_eq_true e3]
      refine iteT (iteT ?_)
      refine ⟨_, rfl, _, _, rfl, rfl, _, rfl, ite2 (fun e5 => ?_) (fun e5 => ?_)⟩
      · -- a literal
        refine ⟨_, rfl, p, q, xs, _, 3, rfl, S1, by decide, by decide, fun H2 v1 S2 bb2 lov1 hiv1 => ?_⟩
        have b2 := Bt.of bb2
        refine ⟨by show 2 ≤ sizeLine; decide, fun X2 hX2 => ?_⟩
        have b3 : Bt H2 (upd H2 X2 (.tup [.str "number", .int v1])) p := Bt.same (same_upd hX2)
        have S3 := S2.sm (same_upd (o := (.tup [.str "number", .int v1])) hX2)
        have gX2 : upd H2 X2 (.tup [.str "number", .int v1]) X2 = some (.tup [.str "number", .int v1]) := upd_same
        have neX2 := S2.nn hX2
        generalize upd H2 X2 (.tup [.str "number", .int v1]) = H3 at b3 S3 gX2
        refine ⟨by show 2 ≤ sizeLine; decide, fun X3 hX3 => ?_⟩
        have b4 : Bt H3 (upd H3 X3 (.tup [.str "text", .str "a"])) p := Bt.same (same_upd hX3)
        have S4 := S3.sm (same_upd (o := (.tup [.str "text", .str "a"])) hX3)
        have gX3 : upd H3 X3 (.tup [.str "text", .str "a"]) X3 = some (.tup [.str "text", .str "a"]) := upd_same
        have neX3 := S3.nn hX3
        generalize upd H3 X3 (.tup [.str "text", .str "a"]) = H4 at b4 S4 gX3
        refine ⟨by show 2 ≤ sizeLine; decide, fun X4 hX4 => ?_⟩
        have b5 : Bt H4 (upd H4 X4 (.tup [.str "bool", .bl true])) p := Bt.same (same_upd hX4)
        have S5 := S4.sm (same_upd (o := (.tup [.str "bool", .bl true])) hX4)
        have gX4 : upd H4 X4 (.tup [.str "bool", .bl true]) X4 = some (.tup [.str "bool", .bl true]) := upd_same
        have neX4 := S4.nn hX4
        generalize upd H4 X4 (.tup [.str "bool", .bl true]) = H5 at b5 S5 gX4
        refine ⟨Nat.zero_le _, fun X5 hX5 => ?_⟩
        have b6 : Bt H5 (upd H5 X5 (.tup [])) p := Bt.same (same_upd hX5)
        have S6 := S5.sm (same_upd (o := (.tup [])) hX5)
        have gX5 : upd H5 X5 (.tup []) X5 = some (.tup []) := upd_same
        have neX5 := S5.nn hX5
        generalize upd H5 X5 (.tup []) = H6 at b6 S6 gX5
        refine ⟨by show 2 ≤ sizeLine; decide, fun X6 hX6 => ?_⟩
        have b7 : Bt H6 (upd H6 X6 (.tup [.str "list", .ref X5])) p := Bt.same (same_upd hX6)
        have S7 := S6.sm (same_upd (o := (.tup [.str "list", .ref X5])) hX6)
        have gX6 : upd H6 X6 (.tup [.str "list", .ref X5]) X6 = some (.tup [.str "list", .ref X5]) := upd_same
        have neX6 := S6.nn hX6
        generalize upd H6 X6 (.tup [.str "list", .ref X5]) = H7 at b7 S7 gX6
        refine ⟨by show 4 ≤ sizeLine; decide, fun X7 hX7 => ?_⟩
        have b8 : Bt H7 (upd H7 X7 (.lst [.ref X2, .ref X3, .ref X4, .ref X6])) p := Bt.same (same_upd hX7)
        have S8 := S7.sm (same_upd (o := (.lst [.ref X2, .ref X3, .ref X4, .ref X6])) hX7)
        have gX7 : upd H7 X7 (.lst [.ref X2, .ref X3, .ref X4, .ref X6]) X7 = some (.lst [.ref X2, .ref X3, .ref X4, .ref X6]) := upd_same
        have neX7 := S7.nn hX7
        generalize upd H7 X7 (.lst [.ref X2, .ref X3, .ref X4, .ref X6]) = H8 at b8 S8 gX7
        refine ⟨_, rfl, p, q, xs, _, 4, rfl, S8, by decide, by decide, fun H9 v8 S9 bb9 lov8 hiv8 => ?_⟩
        have b9 := Bt.of bb9
        obtain ⟨c, rfl⟩ := Int.eq_ofNat_of_zero_le lov8
        have hc : c = 0 ∨ c = 1 ∨ c = 2 ∨ c = 3 := by omega
        rcases hc with rfl | rfl | rfl | rfl
        · exact ⟨X7, _, _, .ref X2, rfl, rfl, SqL.of (b9 _ _ gX7 neX7), rfl, qq _ _ (.lit "number" (.int v1)) _ S9 (Bt.tr b1 (Bt.tr b2 (Bt.tr b3 (Bt.tr b4 (Bt.tr b5 (Bt.tr b6 (Bt.tr b7 (Bt.tr b8 b9)))))))) ⟨.inl rfl, trivial, X2, rfl, ((Bt.tk (Bt.tr b4 (Bt.tr b5 (Bt.tr b6 (Bt.tr b7 (Bt.tr b8 b9))))) S3) _ _ gX2)⟩⟩
        · exact ⟨X7, _, _, .ref X3, rfl, rfl, SqL.of (b9 _ _ gX7 neX7), rfl, qq _ _ (.lit "text" (.str "a")) _ S9 (Bt.tr b1 (Bt.tr b2 (Bt.tr b3 (Bt.tr b4 (Bt.tr b5 (Bt.tr b6 (Bt.tr b7 (Bt.tr b8 b9)))))))) ⟨.inr (.inl rfl), trivial, X3, rfl, ((Bt.tk (Bt.tr b5 (Bt.tr b6 (Bt.tr b7 (Bt.tr b8 b9)))) S4) _ _ gX3)⟩⟩
        · exact ⟨X7, _, _, .ref X4, rfl, rfl, SqL.of (b9 _ _ gX7 neX7), rfl, qq _ _ (.lit "bool" (.bl true)) _ S9 (Bt.tr b1 (Bt.tr b2 (Bt.tr b3 (Bt.tr b4 (Bt.tr b5 (Bt.tr b6 (Bt.tr b7 (Bt.tr b8 b9)))))))) ⟨.inr (.inr rfl), trivial, X4, rfl, ((Bt.tk (Bt.tr b6 (Bt.tr b7 (Bt.tr b8 b9))) S5) _ _ gX4)⟩⟩
        · exact ⟨X7, _, _, .ref X6, rfl, rfl, SqL.of (b9 _ _ gX7 neX7), rfl, qq _ _ (.list []) _ S9 (Bt.tr b1 (Bt.tr b2 (Bt.tr b3 (Bt.tr b4 (Bt.tr b5 (Bt.tr b6 (Bt.tr b7 (Bt.tr b8 b9)))))))) ⟨X6, X5, [], rfl, ((Bt.tk (Bt.tr b8 b9) S7) _ _ gX6), ((Bt.tk (Bt.tr b7 (Bt.tr b8 b9)) S6) _ _ gX5), by decide, .nil⟩⟩
      · -- a name
        refine ⟨_, rfl, _, rfl, _, rfl, nl, _, rfl, .inl (SqL.of (b1 _ _ hn nnl)), p, q, xs, _, _, rfl, S1, by rw [List.length_map]; omega, by rw [List.length_map]; omega, fun H2 v1 S2 bb2 lov1 hiv1 => ?_⟩
        have b2 := Bt.of bb2
        rw [List.length_map] at hiv1
        obtain ⟨l1, ml1, al1⟩ := pick_str lov1 hiv1
        refine ⟨nl, _, _, .str l1, rfl, rfl, SqL.of ((Bt.tr b1 b2) _ _ hn nnl), al1, ?_⟩
        refine ⟨by show 2 ≤ sizeLine; decide, fun X2 hX2 => ?_⟩
        have b3 : Bt H2 (upd H2 X2 (.tup [.str "name", .str l1])) p := Bt.same (same_upd hX2)
        have S3 := S2.sm (same_upd (o := (.tup [.str "name", .str l1])) hX2)
        have gX2 : upd H2 X2 (.tup [.str "name", .str l1]) X2 = some (.tup [.str "name", .str l1]) := upd_same
        generalize upd H2 X2 (.tup [.str "name", .str l1]) = H3 at b3 S3 gX2
        exact qq H3 _ (.name l1) _ S3 (Bt.tr b1 (Bt.tr b2 b3)) ⟨X2, rfl, gX2⟩
    · refine ⟨_, rfl, _, _, rfl, rfl, _, rfl, ?_⟩
      rw [decide_eq_false e3]
      refine iteF ⟨_, rfl, p, _, 4, .int g, rfl, rfl, SqL.of hp1, rfl, _, _, rfl, rfl, _, rfl, ?_⟩
      rw [decide_eq_true e4]
      refine iteT ?_
      refine ⟨_, rfl, _, _, rfl, rfl, _, rfl, ite2 (fun e5 => ?_) (fun e5 => ?_)⟩
      · -- a literal
        refine ⟨_, rfl, p, q, xs, _, 3, rfl, S1, by decide, by decide, fun H2 v1 S2 bb2 lov1 hiv1 => ?_⟩
        have b2 := Bt.of bb2
        refine ⟨by show 2 ≤ sizeLine; decide, fun X2 hX2 => ?_⟩
        have b3 : Bt H2 (upd H2 X2 (.tup [.str "number", .int v1])) p := Bt.same (same_upd hX2)
        have S3 := S2.sm (same_upd (o := (.tup [.str "number", .int v1])) hX2)
        have gX2 : upd H2 X2 (.tup [.str "number", .int v1]) X2 = some (.tup [.str "number", .int v1]) := upd_same
        have neX2 := S2.nn hX2
        generalize upd H2 X2 (.tup [.str "number", .int v1]) = H3 at b3 S3 gX2
        refine ⟨by show 2 ≤ sizeLine; decide, fun X3 hX3 => ?_⟩
        have b4 : Bt H3 (upd H3 X3 (.tup [.str "text", .str "a"])) p := Bt.same (same_upd hX3)
        have S4 := S3.sm (same_upd (o := (.tup [.str "text", .str "a"])) hX3)
        have gX3 : upd H3 X3 (.tup [.str "text", .str "a"]) X3 = some (.tup [.str "text", .str "a"]) := upd_same
        have neX3 := S3.nn hX3
        generalize upd H3 X3 (.tup [.str "text", .str "a"]) = H4 at b4 S4 gX3
        refine ⟨by show 2 ≤ sizeLine; decide, fun X4 hX4 => ?_⟩
        have b5 : Bt H4 (upd H4 X4 (.tup [.str "bool", .bl true])) p := Bt.same (same_upd hX4)
        have S5 := S4.sm (same_upd (o := (.tup [.str "bool", .bl true])) hX4)
        have gX4 : upd H4 X4 (.tup [.str "bool", .bl true]) X4 = some (.tup [.str "bool", .bl true]) := upd_same
        have neX4 := S4.nn hX4
        generalize upd H4 X4 (.tup [.str "bool", .bl true]) = H5 at b5 S5 gX4
        refine ⟨Nat.zero_le _, fun X5 hX5 => ?_⟩
        have b6 : Bt H5 (upd H5 X5 (.tup [])) p := Bt.same (same_upd hX5)
        have S6 := S5.sm (same_upd (o := (.tup [])) hX5)
        have gX5 : upd H5 X5 (.tup []) X5 = some (.tup []) := upd_same
        have neX5 := S5.nn hX5
        generalize upd H5 X5 (.tup []) = H6 at b6 S6 gX5
        refine ⟨by show 2 ≤ sizeLine; decide, fun X6 hX6 => ?_⟩
        have b7 : Bt H6 (upd H6 X6 (.tup [.str "list", .ref X5])) p := Bt.same (same_upd hX6)
        have S7 := S6.sm (same_upd (o := (.tup [.str "list", .ref X5])) hX6)
        have gX6 : upd H6 X6 (.tup [.str "list", .ref X5]) X6 = some (.tup [.str "list", .ref X5]) := upd_same
        have neX6 := S6.nn hX6
        generalize upd H6 X6 (.tup [.str "list", .ref X5]) = H7 at b7 S7 gX6
        refine ⟨by show 4 ≤ sizeLine; decide, fun X7 hX7 => ?_⟩
        have b8 : Bt H7 (upd H7 X7 (.lst [.ref X2, .ref X3, .ref X4, .ref X6])) p := Bt.same (same_upd hX7)
        have S8 := S7.sm (same_upd (o := (.lst [.ref X2, .ref X3, .ref X4, .ref X6])) hX7)
        have gX7 : upd H7 X7 (.lst [.ref X2, .ref X3, .ref X4, .ref X6]) X7 = some (.lst [.ref X2, .ref X3, .ref X4, .ref X6]) := upd_same
        have neX7 := S7.nn hX7
        generalize upd H7 X7 (.lst [.ref X2, .ref X3, .ref X4, .ref X6]) = H8 at b8 S8 gX7
        refine ⟨_, rfl, p, q, xs, _, 4, rfl, S8, by decide, by decide, fun H9 v8 S9 bb9 lov8 hiv8 => ?_⟩
        have b9 := Bt.of bb9
        obtain ⟨c, rfl⟩ := Int.eq_ofNat_of_zero_le lov8
        have hc : c = 0 ∨ c = 1 ∨ c = 2 ∨ c = 3 := by omega
        rcases hc with rfl | rfl | rfl | rfl
        · exact ⟨X7, _, _, .ref X2, rfl, rfl, SqL.of (b9 _ _ gX7 neX7), rfl, qq _ _ (.lit "number" (.int v1)) _ S9 (Bt.tr b1 (Bt.tr b2 (Bt.tr b3 (Bt.tr b4 (Bt.tr b5 (Bt.tr b6 (Bt.tr b7 (Bt.tr b8 b9)))))))) ⟨.inl rfl, trivial, X2, rfl, ((Bt.tk (Bt.tr b4 (Bt.tr b5 (Bt.tr b6 (Bt.tr b7 (Bt.tr b8 b9))))) S3) _ _ gX2)⟩⟩
        · exact ⟨X7, _, _, .ref X3, rfl, rfl, SqL.of (b9 _ _ gX7 neX7), rfl, qq _ _ (.lit "text" (.str "a")) _ S9 (Bt.tr b1 (Bt.tr b2 (Bt.tr b3 (Bt.tr b4 (Bt.tr b5 (Bt.tr b6 (Bt.tr b7 (Bt.tr b8 b9)))))))) ⟨.inr (.inl rfl), trivial, X3, rfl, ((Bt.tk (Bt.tr b5 (Bt.tr b6 (Bt.tr b7 (Bt.tr b8 b9)))) S4) _ _ gX3)⟩⟩
        · exact ⟨X7, _, _, .ref X4, rfl, rfl, SqL.of (b9 _ _ gX7 neX7), rfl, qq _ _ (.lit "bool" (.bl true)) _ S9 (Bt.tr b1 (Bt.tr b2 (Bt.tr b3 (Bt.tr b4 (Bt.tr b5 (Bt.tr b6 (Bt.tr b7 (Bt.tr b8 b9)))))))) ⟨.inr (.inr rfl), trivial, X4, rfl, ((Bt.tk (Bt.tr b6 (Bt.tr b7 (Bt.tr b8 b9))) S5) _ _ gX4)⟩⟩
        · exact ⟨X7, _, _, .ref X6, rfl, rfl, SqL.of (b9 _ _ gX7 neX7), rfl, qq _ _ (.list []) _ S9 (Bt.tr b1 (Bt.tr b2 (Bt.tr b3 (Bt.tr b4 (Bt.tr b5 (Bt.tr b6 (Bt.tr b7 (Bt.tr b8 b9)))))))) ⟨X6, X5, [], rfl, ((Bt.tk (Bt.tr b8 b9) S7) _ _ gX6), ((Bt.tk (Bt.tr b7 (Bt.tr b8 b9)) S6) _ _ gX5), by decide, .nil⟩⟩
      · -- a name
        refine ⟨_, rfl, _, rfl, _, rfl, nl, _, rfl, .inl (SqL.of (b1 _ _ hn nnl)), p, q, xs, _, _, rfl, S1, by rw [List.length_map]; omega, by rw [List.length_map]; omega, fun H2 v1 S2 bb2 lov1 hiv1 => ?_⟩
        have b2 := Bt.of bb2
        rw [List.length_map] at hiv1
        obtain ⟨l1, ml1, al1⟩ := pick_str lov1 hiv1
        refine ⟨nl, _, _, .str l1, rfl, rfl, SqL.of ((Bt.tr b1 b2) _ _ hn nnl), al1, ?_⟩
        refine ⟨by show 2 ≤ sizeLine; decide, fun X2 hX2 => ?_⟩
        have b3 : Bt H2 (upd H2 X2 (.tup [.str "name", .str l1])) p := Bt.same (same_upd hX2)
        have S3 := S2.sm (same_upd (o := (.tup [.str "name", .str l1])) hX2)
        have gX2 : upd H2 X2 (.tup [.str "name", .str l1]) X2 = some (.tup [.str "name", .str l1]) := upd_same
        generalize upd H2 X2 (.tup [.str "name", .str l1]) = H3 at b3 S3 gX2
        exact qq H3 _ (.name l1) _ S3 (Bt.tr b1 (Bt.tr b2 b3)) ⟨X2, rfl, gX2⟩
    · refine ⟨_, rfl, _, _, rfl, rfl, _, rfl, ?_⟩
      rw [decide_eq_false e3]
      refine iteF ⟨_, rfl, p, _, 4, .int g, rfl, rfl, SqL.of hp1, rfl, _, _, rfl, rfl, _, rfl, ?_⟩
      rw [decide_eq_false e4]
      refine iteF ?_
      refine ⟨.ref p, rfl, p, _, 4, .int g, rfl, rfl, SqL.of hp1, by decide, rfl, g, 1, rfl, rfl, p, _, 4, 4, rfl, rfl, hp1, rfl, ?_⟩
      have b2 : Bt H1 (upd H1 p (.lst ([.ref q, .int i1, .int c1, .int z1, .int g].set 4 (.int ((fun i j => i - j) g 1))))) p := Bt.of but_upd
      have S2 : StAt (upd H1 p (.lst ([.ref q, .int i1, .int c1, .int z1, .int g].set 4 (.int ((fun i j => i - j) g 1))))) p q xs (g - 1) := by
        have ne : q ≠ p := by
          intro e
          rw [e, hp1] at hq1
          cases xs with
          | nil => cases hq1
          | cons x r => cases hq1
        exact ⟨by rw [upd_ne ne]; exact hq1, hlen1, i1, c1, z1, upd_same, hi1, hc1, hz1, hz21⟩
      show _
      generalize upd H1 p (.lst ([.ref q, .int i1, .int c1, .int z1, .int g].set 4 (.int ((fun i j => i - j) g 1)))) = H2 at b2 S2
      refine ⟨3, rfl, by decide, by decide, fun D hD0 => ?_⟩
      have nD : D ≠ p := S2.nn hD0
      refine lc_range (lo := 0) (n := 3) (fun i H' => (∃ g', StAt H' p q xs g') ∧ Bt H2 H' p ∧ ∃ acc, H' D = some (.lst acc) ∧ acc.length = i ∧ ∀ x ∈ acc, ∃ e, ExAt H' (d + 1) e x) ⟨⟨_, S2.sm (same_upd hD0)⟩, Bt.same (same_upd hD0), [], upd_same, rfl, fun x h => by cases h⟩ ?_ ?_
      · rintro i Hx hi ⟨⟨g', Sx⟩, bx, acc, hDx, hal, hacc⟩
        refine ⟨rfl, lc_yes ⟨_, rfl, _, rfl, _, rfl, _, _, rfl, rfl, p, q, xs, g', nl, ns, by show [V.ref p, V.ref nl, V.int (((d + 1 : Nat) : Int) - 1)] = _; rw [ed], Sx, (Bt.tr b1 (Bt.tr b2 bx)) _ _ hn nnl, nnl, hn0, by omega, fun Hy x e g2 Sy by_ he => ?_⟩⟩
        have hDy := by_ _ _ hDx nD
        have ky := tk_lst (o := .lst (acc ++ [x])) hDy
        refine ⟨acc, hDy, by omega, ⟨g2, ?_⟩, fun z o h n => ?_, _, upd_same, by rw [List.length_append, hal]; rfl, fun y hy => ?_⟩
        · obtain ⟨a1, a2, i, c, z, a3, a4⟩ := Sy
          have nq : q ≠ D := fun e => by
            have h2 := (Bt.tr b1 b2) _ _ S0.1 (fun z => by
              obtain ⟨y1, y2, i0, c0, z0, y3, y4⟩ := S0
              rw [z, y3] at y1
              cases xs with
              | nil => cases y1
              | cons x r => cases y1)
            rw [e, hD0] at h2
            cases h2
          exact ⟨by rw [upd_ne nq]; exact a1, a2, i, c, z, by rw [upd_ne (fun e => nD e.symm)]; exact a3, a4⟩
        · rw [upd_ne (ne_of_none h hD0)]
          exact by_ _ _ (bx _ _ h n) n
        · rcases List.mem_append.mp hy with hy | hy
          · obtain ⟨e, he⟩ := hacc y hy
            exact ⟨e, he.keep ((Sx.tk by_).tr ky)⟩
          · rw [List.mem_singleton.mp hy]
            exact ⟨e, he.keep ky⟩
      · rintro H3 ⟨⟨g3, S3⟩, b3, acc, hD, hal, hacc⟩
        obtain ⟨x0, x1, x2, rfl⟩ : ∃ x0 x1 x2, acc = [x0, x1, x2] := by
          match acc, hal with
          | [a, b, c], _ => exact ⟨a, b, c, rfl⟩
        obtain ⟨e0, he0⟩ := hacc x0 (by simp)
        obtain ⟨e1, he1⟩ := hacc x1 (by simp)
        obtain ⟨e2, he2⟩ := hacc x2 (by simp)
        clear hacc hal
        refine ⟨by show 4 ≤ sizeLine; decide, fun X1 hX1 => ?_⟩
        have b4 : Bt H3 (upd H3 X1 (.lst [.str "x", .str "y", .str "ca", .str "fa"])) p := Bt.same (same_upd hX1)
        have S4 := S3.sm (same_upd (o := (.lst [.str "x", .str "y", .str "ca", .str "fa"])) hX1)
        have gX1 : upd H3 X1 (.lst [.str "x", .str "y", .str "ca", .str "fa"]) X1 = some (.lst [.str "x", .str "y", .str "ca", .str "fa"]) := upd_same
        have neX1 := S3.nn hX1
        generalize upd H3 X1 (.lst [.str "x", .str "y", .str "ca", .str "fa"]) = H4 at b4 S4 gX1
        refine ⟨_, rfl, p, q, xs, _, 4, rfl, S4, by decide, by decide, fun H5 v2 S5 bb5 lov2 hiv2 => ?_⟩
        have b5 := Bt.of bb5
        obtain ⟨l2, ml2, al2⟩ := pick_str (ls := ["x", "y", "ca", "fa"]) lov2 hiv2
        refine ⟨X1, _, _, .str l2, rfl, rfl, SqL.of (b5 _ _ gX1 neX1), al2, ?_⟩
        refine ⟨_, rfl, _, _, rfl, rfl, _, rfl, ite2 (fun e9 => ?_) (fun e9 => ?_)⟩
        · skip
          refine ⟨by show 10 ≤ sizeLine; decide, fun X3 hX3 => ?_⟩
          have b6 : Bt H5 (upd H5 X3 (.lst [.str "+", .str "-", .str "*", .str "/", .str "mod", .str "++", .str "=", .str "<", .str "and", .str "or"])) p := Bt.same (same_upd hX3)
          have S6 := S5.sm (same_upd (o := (.lst [.str "+", .str "-", .str "*", .str "/", .str "mod", .str "++", .str "=", .str "<", .str "and", .str "or"])) hX3)
          have gX3 : upd H5 X3 (.lst [.str "+", .str "-", .str "*", .str "/", .str "mod", .str "++", .str "=", .str "<", .str "and", .str "or"]) X3 = some (.lst [.str "+", .str "-", .str "*", .str "/", .str "mod", .str "++", .str "=", .str "<", .str "and", .str "or"]) := upd_same
          have neX3 := S5.nn hX3
          generalize upd H5 X3 (.lst [.str "+", .str "-", .str "*", .str "/", .str "mod", .str "++", .str "=", .str "<", .str "and", .str "or"]) = H6 at b6 S6 gX3
          refine ⟨_, rfl, ?_⟩
          refine ⟨_, rfl, p, q, xs, _, 10, rfl, S6, by decide, by decide, fun H7 v4 S7 bb7 lov4 hiv4 => ?_⟩
          have b7 := Bt.of bb7
          obtain ⟨l4, ml4, al4⟩ := pick_str (ls := OPS) lov4 hiv4
          refine ⟨X3, _, _, .str l4, rfl, rfl, SqL.of (b7 _ _ gX3 neX3), al4, ?_⟩
          refine ⟨_, rfl, D, _, 0, _, rfl, rfl, SqL.of ((Bt.tr b4 (Bt.tr b5 (Bt.tr b6 b7))) _ _ hD nD), rfl, ?_⟩
          refine ⟨_, rfl, D, _, 1, _, rfl, rfl, SqL.of ((Bt.tr b4 (Bt.tr b5 (Bt.tr b6 b7))) _ _ hD nD), rfl, ?_⟩
          refine ⟨by show 4 ≤ sizeLine; decide, fun X5 hX5 => ?_⟩
          have b8 : Bt H7 (upd H7 X5 (.tup [.str "binary", .str l4, x0, x1])) p := Bt.same (same_upd hX5)
          have S8 := S7.sm (same_upd (o := (.tup [.str "binary", .str l4, x0, x1])) hX5)
          have gX5 : upd H7 X5 (.tup [.str "binary", .str l4, x0, x1]) X5 = some (.tup [.str "binary", .str l4, x0, x1]) := upd_same
          generalize upd H7 X5 (.tup [.str "binary", .str l4, x0, x1]) = H8 at b8 S8 gX5
          exact qq H8 _ (.bin l4 e0 e1) _ S8 (Bt.tr b1 (Bt.tr b2 (Bt.tr b3 (Bt.tr b4 (Bt.tr b5 (Bt.tr b6 (Bt.tr b7 b8))))))) ⟨ml4, X5, x0, x1, rfl, gX5, (ExAt.keep (Bt.tk (Bt.tr b4 (Bt.tr b5 (Bt.tr b6 (Bt.tr b7 b8)))) S3) he0), (ExAt.keep (Bt.tk (Bt.tr b4 (Bt.tr b5 (Bt.tr b6 (Bt.tr b7 b8)))) S3) he1)⟩
        refine ⟨_, rfl, rfl, _, rfl, ite2 (fun e9 => ?_) (fun e9 => ?_)⟩
        · skip
          refine ⟨_, rfl, D, _, 0, _, rfl, rfl, SqL.of ((Bt.tr b4 b5) _ _ hD nD), rfl, ?_⟩
          refine ⟨by show 2 ≤ sizeLine; decide, fun X3 hX3 => ?_⟩
          have b6 : Bt H5 (upd H5 X3 (.tup [.str "not", x0])) p := Bt.same (same_upd hX3)
          have S6 := S5.sm (same_upd (o := (.tup [.str "not", x0])) hX3)
          have gX3 : upd H5 X3 (.tup [.str "not", x0]) X3 = some (.tup [.str "not", x0]) := upd_same
          generalize upd H5 X3 (.tup [.str "not", x0]) = H6 at b6 S6 gX3
          exact qq H6 _ (.neg e0) _ S6 (Bt.tr b1 (Bt.tr b2 (Bt.tr b3 (Bt.tr b4 (Bt.tr b5 b6))))) ⟨X3, x0, rfl, gX3, (ExAt.keep (Bt.tk (Bt.tr b4 (Bt.tr b5 b6)) S3) he0)⟩
        refine ⟨_, rfl, rfl, _, rfl, ite2 (fun e9 => ?_) (fun e9 => ?_)⟩
        · skip
          refine ⟨_, rfl, D, _, 0, _, rfl, rfl, SqL.of ((Bt.tr b4 b5) _ _ hD nD), rfl, ?_⟩
          refine ⟨_, rfl, D, _, 1, _, rfl, rfl, SqL.of ((Bt.tr b4 b5) _ _ hD nD), rfl, ?_⟩
          refine ⟨_, rfl, D, _, 2, _, rfl, rfl, SqL.of ((Bt.tr b4 b5) _ _ hD nD), rfl, ?_⟩
          refine ⟨by show 4 ≤ sizeLine; decide, fun X3 hX3 => ?_⟩
          have b6 : Bt H5 (upd H5 X3 (.tup [.str "if", x0, x1, x2])) p := Bt.same (same_upd hX3)
          have S6 := S5.sm (same_upd (o := (.tup [.str "if", x0, x1, x2])) hX3)
          have gX3 : upd H5 X3 (.tup [.str "if", x0, x1, x2]) X3 = some (.tup [.str "if", x0, x1, x2]) := upd_same
          generalize upd H5 X3 (.tup [.str "if", x0, x1, x2]) = H6 at b6 S6 gX3
          exact qq H6 _ (.ife e0 e1 e2) _ S6 (Bt.tr b1 (Bt.tr b2 (Bt.tr b3 (Bt.tr b4 (Bt.tr b5 b6))))) ⟨X3, x0, x1, x2, rfl, gX3, (ExAt.keep (Bt.tk (Bt.tr b4 (Bt.tr b5 b6)) S3) he0), (ExAt.keep (Bt.tk (Bt.tr b4 (Bt.tr b5 b6)) S3) he1), (ExAt.keep (Bt.tk (Bt.tr b4 (Bt.tr b5 b6)) S3) he2)⟩
        refine ⟨_, rfl, rfl, _, rfl, ite2 (fun e9 => ?_) (fun e9 => ?_)⟩
        · skip
          refine ⟨_, rfl, ?_⟩
          refine ⟨_, rfl, D, _, 0, _, rfl, rfl, SqL.of ((Bt.tr b4 b5) _ _ hD nD), rfl, ?_⟩
          refine ⟨_, rfl, _, rfl, _, rfl, by show 1 ≤ sizeLine; decide, fun X3 hX3 => ?_⟩
          have b6 : Bt H5 (upd H5 X3 (.lst [.str l2])) p := Bt.same (same_upd hX3)
          have S6 := S5.sm (same_upd (o := (.lst [.str l2])) hX3)
          have gX3 : upd H5 X3 (.lst [.str l2]) X3 = some (.lst [.str l2]) := upd_same
          have neX3 := S5.nn hX3
          generalize upd H5 X3 (.lst [.str l2]) = H6 at b6 S6 gX3
          refine ⟨nl, X3, _, _, rfl, rfl, ((Bt.tr b1 (Bt.tr b2 (Bt.tr b3 (Bt.tr b4 (Bt.tr b5 b6))))) _ _ hn nnl), gX3, by simp only [List.length_map, List.length_cons, List.length_nil]; omega, fun X4 hX4 => ?_⟩
          have b7 : Bt H6 (upd H6 X4 (.lst (ns.map V.str ++ [.str l2]))) p := Bt.same (same_upd hX4)
          have S7 := S6.sm (same_upd (o := (.lst (ns.map V.str ++ [.str l2]))) hX4)
          have gX4 : upd H6 X4 (.lst (ns.map V.str ++ [.str l2])) X4 = some (.lst ((ns ++ [l2]).map V.str)) := by rw [upd_same, List.map_append] <;> rfl
          have neX4 := S6.nn hX4
          generalize upd H6 X4 (.lst (ns.map V.str ++ [.str l2])) = H7 at b7 S7 gX4
          refine ⟨_, rfl, _, _, rfl, rfl, p, q, xs, _, X4, ns ++ [l2], by show [V.ref p, V.ref X4, V.int (((d + 1 : Nat) : Int) - 1)] = _; rw [ed], S7, gX4, neX4, by simp only [List.length_append, List.length_cons, List.length_nil]; omega, by simp only [List.length_append, List.length_cons, List.length_nil]; omega, fun H8 r5 er5 gr5 S8 b8 hr5 => ?_⟩
          refine ⟨by show 4 ≤ sizeLine; decide, fun X6 hX6 => ?_⟩
          have b9 : Bt H8 (upd H8 X6 (.tup [.str "let", .str l2, x0, r5])) p := Bt.same (same_upd hX6)
          have S9 := S8.sm (same_upd (o := (.tup [.str "let", .str l2, x0, r5])) hX6)
          have gX6 : upd H8 X6 (.tup [.str "let", .str l2, x0, r5]) X6 = some (.tup [.str "let", .str l2, x0, r5]) := upd_same
          generalize upd H8 X6 (.tup [.str "let", .str l2, x0, r5]) = H9 at b9 S9 gX6
          exact qq H9 _ (.lt l2 e0 er5) _ S9 (Bt.tr b1 (Bt.tr b2 (Bt.tr b3 (Bt.tr b4 (Bt.tr b5 (Bt.tr b6 (Bt.tr b7 (Bt.tr b8 b9)))))))) ⟨X6, x0, r5, rfl, gX6, (ExAt.keep (Bt.tk (Bt.tr b4 (Bt.tr b5 (Bt.tr b6 (Bt.tr b7 (Bt.tr b8 b9))))) S3) he0), (ExAt.keep (Bt.tk b9 S8) hr5)⟩
        refine ⟨_, rfl, rfl, _, rfl, ite2 (fun e9 => ?_) (fun e9 => ?_)⟩
        · skip
          refine ⟨_, rfl, ?_⟩
          refine ⟨_, rfl, p, q, xs, _, 4, rfl, S5, by decide, by decide, fun H6 v3 S6 bb6 lov3 hiv3 => ?_⟩
          have b6 := Bt.of bb6
          obtain ⟨cv3, rfl⟩ := Int.eq_ofNat_of_zero_le lov3
          refine ⟨_, rfl, D, _, rfl, SqL.of ((Bt.tr b4 (Bt.tr b5 b6)) _ _ hD nD), ?_⟩
          refine fun X4 hX4 => ?_
          have b7 : Bt H6 (upd H6 X4 (.lst (cutV [x0, x1, x2] none (some (cv3 : Int))))) p := Bt.same (same_upd hX4)
          have S7 := S6.sm (same_upd (o := (.lst (cutV [x0, x1, x2] none (some (cv3 : Int))))) hX4)
          have gX4 : upd H6 X4 (.lst (cutV [x0, x1, x2] none (some (cv3 : Int)))) X4 = some (.lst ([x0, x1, x2].take cv3)) := by rw [upd_same, cut_to]
          generalize upd H6 X4 (.lst (cutV [x0, x1, x2] none (some (cv3 : Int)))) = H7 at b7 S7 gX4
          refine ⟨X4, _, rfl, .inl ⟨SqL.of gX4, fun X5 hX5 => ?_⟩⟩
          have b8 : Bt H7 (upd H7 X5 (.tup ([x0, x1, x2].take cv3))) p := Bt.same (same_upd hX5)
          have S8 := S7.sm (same_upd (o := (.tup ([x0, x1, x2].take cv3))) hX5)
          have gX5 : upd H7 X5 (.tup ([x0, x1, x2].take cv3)) X5 = some (.tup ([x0, x1, x2].take cv3)) := upd_same
          generalize upd H7 X5 (.tup ([x0, x1, x2].take cv3)) = H8 at b8 S8 gX5
          refine ⟨by show 2 ≤ sizeLine; decide, fun X6 hX6 => ?_⟩
          have b9 : Bt H8 (upd H8 X6 (.tup [.str "list", .ref X5])) p := Bt.same (same_upd hX6)
          have S9 := S8.sm (same_upd (o := (.tup [.str "list", .ref X5])) hX6)
          have gX6 : upd H8 X6 (.tup [.str "list", .ref X5]) X6 = some (.tup [.str "list", .ref X5]) := upd_same
          generalize upd H8 X6 (.tup [.str "list", .ref X5]) = H9 at b9 S9 gX6
          exact qq H9 _ (.list ([e0, e1, e2].take cv3)) _ S9 (Bt.tr b1 (Bt.tr b2 (Bt.tr b3 (Bt.tr b4 (Bt.tr b5 (Bt.tr b6 (Bt.tr b7 (Bt.tr b8 b9)))))))) ⟨X6, X5, _, rfl, gX6, ((Bt.tk b9 S8) _ _ gX5), by rw [List.length_take]; exact Nat.min_le_right _ _, (All2.take (R := fun u e => ExAt H9 (d + 1) e u) (All2.cons (show ExAt _ _ e0 x0 from (ExAt.keep (Bt.tk (Bt.tr b4 (Bt.tr b5 (Bt.tr b6 (Bt.tr b7 (Bt.tr b8 b9))))) S3) he0)) (All2.cons (show ExAt _ _ e1 x1 from (ExAt.keep (Bt.tk (Bt.tr b4 (Bt.tr b5 (Bt.tr b6 (Bt.tr b7 (Bt.tr b8 b9))))) S3) he1)) (All2.cons (show ExAt _ _ e2 x2 from (ExAt.keep (Bt.tk (Bt.tr b4 (Bt.tr b5 (Bt.tr b6 (Bt.tr b7 (Bt.tr b8 b9))))) S3) he2)) All2.nil))) cv3)⟩
        refine ⟨_, rfl, rfl, _, rfl, ite2 (fun e9 => ?_) (fun e9 => ?_)⟩
        · skip
          refine ⟨_, rfl, D, _, 0, _, rfl, rfl, SqL.of ((Bt.tr b4 b5) _ _ hD nD), rfl, ?_⟩
          refine ⟨_, rfl, D, _, 1, _, rfl, rfl, SqL.of ((Bt.tr b4 b5) _ _ hD nD), rfl, ?_⟩
          refine ⟨by show 3 ≤ sizeLine; decide, fun X3 hX3 => ?_⟩
          have b6 : Bt H5 (upd H5 X3 (.tup [.str "cons", x0, x1])) p := Bt.same (same_upd hX3)
          have S6 := S5.sm (same_upd (o := (.tup [.str "cons", x0, x1])) hX3)
          have gX3 : upd H5 X3 (.tup [.str "cons", x0, x1]) X3 = some (.tup [.str "cons", x0, x1]) := upd_same
          generalize upd H5 X3 (.tup [.str "cons", x0, x1]) = H6 at b6 S6 gX3
          exact qq H6 _ (.cons e0 e1) _ S6 (Bt.tr b1 (Bt.tr b2 (Bt.tr b3 (Bt.tr b4 (Bt.tr b5 b6))))) ⟨X3, x0, x1, rfl, gX3, (ExAt.keep (Bt.tk (Bt.tr b4 (Bt.tr b5 b6)) S3) he0), (ExAt.keep (Bt.tk (Bt.tr b4 (Bt.tr b5 b6)) S3) he1)⟩
        refine ⟨_, rfl, _, _, rfl, rfl, _, rfl, ite2 (fun e9 => ?_) (fun e9 => ?_)⟩
        · skip
          refine ⟨_, rfl, _, rfl, _, rfl, nl, _, rfl, .inl (SqL.of ((Bt.tr b1 (Bt.tr b2 (Bt.tr b3 (Bt.tr b4 b5)))) _ _ hn nnl)), p, q, xs, _, _, rfl, S5, by rw [List.length_map]; omega, by rw [List.length_map]; omega, fun H6 v3 S6 bb6 lov3 hiv3 => ?_⟩
          have b6 := Bt.of bb6
          rw [List.length_map] at hiv3
          obtain ⟨l3, ml3, al3⟩ := pick_str lov3 hiv3
          refine ⟨nl, _, _, .str l3, rfl, rfl, SqL.of ((Bt.tr b1 (Bt.tr b2 (Bt.tr b3 (Bt.tr b4 (Bt.tr b5 b6))))) _ _ hn nnl), al3, ?_⟩
          refine ⟨_, rfl, ?_⟩
          refine ⟨_, rfl, p, q, xs, _, 4, rfl, S6, by decide, by decide, fun H7 v4 S7 bb7 lov4 hiv4 => ?_⟩
          have b7 := Bt.of bb7
          obtain ⟨cv4, rfl⟩ := Int.eq_ofNat_of_zero_le lov4
          refine ⟨_, rfl, D, _, rfl, SqL.of ((Bt.tr b4 (Bt.tr b5 (Bt.tr b6 b7))) _ _ hD nD), ?_⟩
          refine fun X5 hX5 => ?_
          have b8 : Bt H7 (upd H7 X5 (.lst (cutV [x0, x1, x2] none (some (cv4 : Int))))) p := Bt.same (same_upd hX5)
          have S8 := S7.sm (same_upd (o := (.lst (cutV [x0, x1, x2] none (some (cv4 : Int))))) hX5)
          have gX5 : upd H7 X5 (.lst (cutV [x0, x1, x2] none (some (cv4 : Int)))) X5 = some (.lst ([x0, x1, x2].take cv4)) := by rw [upd_same, cut_to]
          generalize upd H7 X5 (.lst (cutV [x0, x1, x2] none (some (cv4 : Int)))) = H8 at b8 S8 gX5
          refine ⟨X5, _, rfl, .inl ⟨SqL.of gX5, fun X6 hX6 => ?_⟩⟩
          have b9 : Bt H8 (upd H8 X6 (.tup ([x0, x1, x2].take cv4))) p := Bt.same (same_upd hX6)
          have S9 := S8.sm (same_upd (o := (.tup ([x0, x1, x2].take cv4))) hX6)
          have gX6 : upd H8 X6 (.tup ([x0, x1, x2].take cv4)) X6 = some (.tup ([x0, x1, x2].take cv4)) := upd_same
          generalize upd H8 X6 (.tup ([x0, x1, x2].take cv4)) = H9 at b9 S9 gX6
          refine ⟨by show 3 ≤ sizeLine; decide, fun X7 hX7 => ?_⟩
          have b10 : Bt H9 (upd H9 X7 (.tup [.str "call", .str l3, .ref X6])) p := Bt.same (same_upd hX7)
          have S10 := S9.sm (same_upd (o := (.tup [.str "call", .str l3, .ref X6])) hX7)
          have gX7 : upd H9 X7 (.tup [.str "call", .str l3, .ref X6]) X7 = some (.tup [.str "call", .str l3, .ref X6]) := upd_same
          generalize upd H9 X7 (.tup [.str "call", .str l3, .ref X6]) = H10 at b10 S10 gX7
          exact qq H10 _ (.call l3 ([e0, e1, e2].take cv4)) _ S10 (Bt.tr b1 (Bt.tr b2 (Bt.tr b3 (Bt.tr b4 (Bt.tr b5 (Bt.tr b6 (Bt.tr b7 (Bt.tr b8 (Bt.tr b9 b10))))))))) ⟨X7, X6, _, rfl, gX7, ((Bt.tk b10 S9) _ _ gX6), by rw [List.length_take]; exact Nat.min_le_right _ _, (All2.take (R := fun u e => ExAt H10 (d + 1) e u) (All2.cons (show ExAt _ _ e0 x0 from (ExAt.keep (Bt.tk (Bt.tr b4 (Bt.tr b5 (Bt.tr b6 (Bt.tr b7 (Bt.tr b8 (Bt.tr b9 b10)))))) S3) he0)) (All2.cons (show ExAt _ _ e1 x1 from (ExAt.keep (Bt.tk (Bt.tr b4 (Bt.tr b5 (Bt.tr b6 (Bt.tr b7 (Bt.tr b8 (Bt.tr b9 b10)))))) S3) he1)) (All2.cons (show ExAt _ _ e2 x2 from (ExAt.keep (Bt.tk (Bt.tr b4 (Bt.tr b5 (Bt.tr b6 (Bt.tr b7 (Bt.tr b8 (Bt.tr b9 b10)))))) S3) he2)) All2.nil))) cv4)⟩
        refine ⟨_, rfl, rfl, _, rfl, ite2 (fun e9 => ?_) (fun e9 => ?_)⟩
        · skip
          refine ⟨by show 3 ≤ sizeLine; decide, fun X3 hX3 => ?_⟩
          have b6 : Bt H5 (upd H5 X3 (.lst [.str "Mda", .str "Kda", .str "Mdb"])) p := Bt.same (same_upd hX3)
          have S6 := S5.sm (same_upd (o := (.lst [.str "Mda", .str "Kda", .str "Mdb"])) hX3)
          have gX3 : upd H5 X3 (.lst [.str "Mda", .str "Kda", .str "Mdb"]) X3 = some (.lst [.str "Mda", .str "Kda", .str "Mdb"]) := upd_same
          have neX3 := S5.nn hX3
          generalize upd H5 X3 (.lst [.str "Mda", .str "Kda", .str "Mdb"]) = H6 at b6 S6 gX3
          refine ⟨_, rfl, p, q, xs, _, 3, rfl, S6, by decide, by decide, fun H7 v4 S7 bb7 lov4 hiv4 => ?_⟩
          have b7 := Bt.of bb7
          obtain ⟨l4, ml4, al4⟩ := pick_str (ls := ["Mda", "Kda", "Mdb"]) lov4 hiv4
          refine ⟨X3, _, _, .str l4, rfl, rfl, SqL.of (b7 _ _ gX3 neX3), al4, ?_⟩
          refine ⟨_, rfl, ?_⟩
          refine ⟨_, rfl, p, q, xs, _, 3, rfl, S7, by decide, by decide, fun H8 v5 S8 bb8 lov5 hiv5 => ?_⟩
          have b8 := Bt.of bb8
          obtain ⟨cv5, rfl⟩ := Int.eq_ofNat_of_zero_le lov5
          refine ⟨_, rfl, D, _, rfl, SqL.of ((Bt.tr b4 (Bt.tr b5 (Bt.tr b6 (Bt.tr b7 b8)))) _ _ hD nD), ?_⟩
          refine fun X6 hX6 => ?_
          have b9 : Bt H8 (upd H8 X6 (.lst (cutV [x0, x1, x2] none (some (cv5 : Int))))) p := Bt.same (same_upd hX6)
          have S9 := S8.sm (same_upd (o := (.lst (cutV [x0, x1, x2] none (some (cv5 : Int))))) hX6)
          have gX6 : upd H8 X6 (.lst (cutV [x0, x1, x2] none (some (cv5 : Int)))) X6 = some (.lst ([x0, x1, x2].take cv5)) := by rw [upd_same, cut_to]
          generalize upd H8 X6 (.lst (cutV [x0, x1, x2] none (some (cv5 : Int)))) = H9 at b9 S9 gX6
          refine ⟨X6, _, rfl, .inl ⟨SqL.of gX6, fun X7 hX7 => ?_⟩⟩
          have b10 : Bt H9 (upd H9 X7 (.tup ([x0, x1, x2].take cv5))) p := Bt.same (same_upd hX7)
          have S10 := S9.sm (same_upd (o := (.tup ([x0, x1, x2].take cv5))) hX7)
          have gX7 : upd H9 X7 (.tup ([x0, x1, x2].take cv5)) X7 = some (.tup ([x0, x1, x2].take cv5)) := upd_same
          generalize upd H9 X7 (.tup ([x0, x1, x2].take cv5)) = H10 at b10 S10 gX7
          refine ⟨by show 3 ≤ sizeLine; decide, fun X8 hX8 => ?_⟩
          have b11 : Bt H10 (upd H10 X8 (.tup [.str "make", .str l4, .ref X7])) p := Bt.same (same_upd hX8)
          have S11 := S10.sm (same_upd (o := (.tup [.str "make", .str l4, .ref X7])) hX8)
          have gX8 : upd H10 X8 (.tup [.str "make", .str l4, .ref X7]) X8 = some (.tup [.str "make", .str l4, .ref X7]) := upd_same
          generalize upd H10 X8 (.tup [.str "make", .str l4, .ref X7]) = H11 at b11 S11 gX8
          exact qq H11 _ (.make l4 ([e0, e1, e2].take cv5)) _ S11 (Bt.tr b1 (Bt.tr b2 (Bt.tr b3 (Bt.tr b4 (Bt.tr b5 (Bt.tr b6 (Bt.tr b7 (Bt.tr b8 (Bt.tr b9 (Bt.tr b10 b11)))))))))) ⟨X8, X7, _, rfl, gX8, ((Bt.tk b11 S10) _ _ gX7), by rw [List.length_take]; exact Nat.min_le_right _ _, (All2.take (R := fun u e => ExAt H11 (d + 1) e u) (All2.cons (show ExAt _ _ e0 x0 from (ExAt.keep (Bt.tk (Bt.tr b4 (Bt.tr b5 (Bt.tr b6 (Bt.tr b7 (Bt.tr b8 (Bt.tr b9 (Bt.tr b10 b11))))))) S3) he0)) (All2.cons (show ExAt _ _ e1 x1 from (ExAt.keep (Bt.tk (Bt.tr b4 (Bt.tr b5 (Bt.tr b6 (Bt.tr b7 (Bt.tr b8 (Bt.tr b9 (Bt.tr b10 b11))))))) S3) he1)) (All2.cons (show ExAt _ _ e2 x2 from (ExAt.keep (Bt.tk (Bt.tr b4 (Bt.tr b5 (Bt.tr b6 (Bt.tr b7 (Bt.tr b8 (Bt.tr b9 (Bt.tr b10 b11))))))) S3) he2)) All2.nil))) cv5)⟩
        refine ⟨_, rfl, rfl, _, rfl, ite2 (fun e9 => ?_) (fun e9 => ?_)⟩
        · skip
          refine ⟨_, rfl, D, _, 0, _, rfl, rfl, SqL.of ((Bt.tr b4 b5) _ _ hD nD), rfl, ?_⟩
          refine ⟨_, rfl, D, _, 1, _, rfl, rfl, SqL.of ((Bt.tr b4 b5) _ _ hD nD), rfl, ?_⟩
          refine ⟨_, rfl, ?_⟩
          refine ⟨_, rfl, _, rfl, _, rfl, by show 2 ≤ sizeLine; decide, fun X3 hX3 => ?_⟩
          have b6 : Bt H5 (upd H5 X3 (.lst [.str l2, .str "y"])) p := Bt.same (same_upd hX3)
          have S6 := S5.sm (same_upd (o := (.lst [.str l2, .str "y"])) hX3)
          have gX3 : upd H5 X3 (.lst [.str l2, .str "y"]) X3 = some (.lst [.str l2, .str "y"]) := upd_same
          have neX3 := S5.nn hX3
          generalize upd H5 X3 (.lst [.str l2, .str "y"]) = H6 at b6 S6 gX3
          refine ⟨nl, X3, _, _, rfl, rfl, ((Bt.tr b1 (Bt.tr b2 (Bt.tr b3 (Bt.tr b4 (Bt.tr b5 b6))))) _ _ hn nnl), gX3, by simp only [List.length_map, List.length_cons, List.length_nil]; omega, fun X4 hX4 => ?_⟩
          have b7 : Bt H6 (upd H6 X4 (.lst (ns.map V.str ++ [.str l2, .str "y"]))) p := Bt.same (same_upd hX4)
          have S7 := S6.sm (same_upd (o := (.lst (ns.map V.str ++ [.str l2, .str "y"]))) hX4)
          have gX4 : upd H6 X4 (.lst (ns.map V.str ++ [.str l2, .str "y"])) X4 = some (.lst ((ns ++ [l2, "y"]).map V.str)) := by rw [upd_same, List.map_append] <;> rfl
          have neX4 := S6.nn hX4
          generalize upd H6 X4 (.lst (ns.map V.str ++ [.str l2, .str "y"])) = H7 at b7 S7 gX4
          refine ⟨_, rfl, _, _, rfl, rfl, p, q, xs, _, X4, ns ++ [l2, "y"], by show [V.ref p, V.ref X4, V.int (((d + 1 : Nat) : Int) - 1)] = _; rw [ed], S7, gX4, neX4, by simp only [List.length_append, List.length_cons, List.length_nil]; omega, by simp only [List.length_append, List.length_cons, List.length_nil]; omega, fun H8 r5 er5 gr5 S8 b8 hr5 => ?_⟩
          refine ⟨by show 6 ≤ sizeLine; decide, fun X6 hX6 => ?_⟩
          have b9 : Bt H8 (upd H8 X6 (.tup [.str "split", x0, x1, .str l2, .str "y", r5])) p := Bt.same (same_upd hX6)
          have S9 := S8.sm (same_upd (o := (.tup [.str "split", x0, x1, .str l2, .str "y", r5])) hX6)
          have gX6 : upd H8 X6 (.tup [.str "split", x0, x1, .str l2, .str "y", r5]) X6 = some (.tup [.str "split", x0, x1, .str l2, .str "y", r5]) := upd_same
          generalize upd H8 X6 (.tup [.str "split", x0, x1, .str l2, .str "y", r5]) = H9 at b9 S9 gX6
          exact qq H9 _ (.split e0 e1 l2 "y" er5) _ S9 (Bt.tr b1 (Bt.tr b2 (Bt.tr b3 (Bt.tr b4 (Bt.tr b5 (Bt.tr b6 (Bt.tr b7 (Bt.tr b8 b9)))))))) ⟨X6, x0, x1, r5, rfl, gX6, (ExAt.keep (Bt.tk (Bt.tr b4 (Bt.tr b5 (Bt.tr b6 (Bt.tr b7 (Bt.tr b8 b9))))) S3) he0), (ExAt.keep (Bt.tk (Bt.tr b4 (Bt.tr b5 (Bt.tr b6 (Bt.tr b7 (Bt.tr b8 b9))))) S3) he1), (ExAt.keep (Bt.tk b9 S8) hr5)⟩
        refine ⟨Nat.zero_le _, fun X3 hX3 => ?_⟩
        have b6 : Bt H5 (upd H5 X3 (.tup [])) p := Bt.same (same_upd hX3)
        have S6 := S5.sm (same_upd (o := (.tup [])) hX3)
        have gX3 : upd H5 X3 (.tup []) X3 = some (.tup []) := upd_same
        have neX3 := S5.nn hX3
        generalize upd H5 X3 (.tup []) = H6 at b6 S6 gX3
        refine ⟨_, rfl, D, _, 1, _, rfl, rfl, SqL.of ((Bt.tr b4 (Bt.tr b5 b6)) _ _ hD nD), rfl, ?_⟩
        refine ⟨by show 3 ≤ sizeLine; decide, fun X4 hX4 => ?_⟩
        have b7 : Bt H6 (upd H6 X4 (.tup [.str "Mda", .ref X3, x1])) p := Bt.same (same_upd hX4)
        have S7 := S6.sm (same_upd (o := (.tup [.str "Mda", .ref X3, x1])) hX4)
        have gX4 : upd H6 X4 (.tup [.str "Mda", .ref X3, x1]) X4 = some (.tup [.str "Mda", .ref X3, x1]) := upd_same
        have neX4 := S6.nn hX4
        generalize upd H6 X4 (.tup [.str "Mda", .ref X3, x1]) = H7 at b7 S7 gX4
        refine ⟨_, rfl, by show 1 ≤ sizeLine; decide, fun X5 hX5 => ?_⟩
        have b8 : Bt H7 (upd H7 X5 (.tup [.str l2])) p := Bt.same (same_upd hX5)
        have S8 := S7.sm (same_upd (o := (.tup [.str l2])) hX5)
        have gX5 : upd H7 X5 (.tup [.str l2]) X5 = some (.tup [.str l2]) := upd_same
        have neX5 := S7.nn hX5
        generalize upd H7 X5 (.tup [.str l2]) = H8 at b8 S8 gX5
        refine ⟨_, rfl, _, rfl, _, rfl, by show 1 ≤ sizeLine; decide, fun X6 hX6 => ?_⟩
        have b9 : Bt H8 (upd H8 X6 (.lst [.str l2])) p := Bt.same (same_upd hX6)
        have S9 := S8.sm (same_upd (o := (.lst [.str l2])) hX6)
        have gX6 : upd H8 X6 (.lst [.str l2]) X6 = some (.lst [.str l2]) := upd_same
        have neX6 := S8.nn hX6
        generalize upd H8 X6 (.lst [.str l2]) = H9 at b9 S9 gX6
        refine ⟨nl, X6, _, _, rfl, rfl, ((Bt.tr b1 (Bt.tr b2 (Bt.tr b3 (Bt.tr b4 (Bt.tr b5 (Bt.tr b6 (Bt.tr b7 (Bt.tr b8 b9)))))))) _ _ hn nnl), gX6, by simp only [List.length_map, List.length_cons, List.length_nil]; omega, fun X7 hX7 => ?_⟩
        have b10 : Bt H9 (upd H9 X7 (.lst (ns.map V.str ++ [.str l2]))) p := Bt.same (same_upd hX7)
        have S10 := S9.sm (same_upd (o := (.lst (ns.map V.str ++ [.str l2]))) hX7)
        have gX7 : upd H9 X7 (.lst (ns.map V.str ++ [.str l2])) X7 = some (.lst ((ns ++ [l2]).map V.str)) := by rw [upd_same, List.map_append] <;> rfl
        have neX7 := S9.nn hX7
        generalize upd H9 X7 (.lst (ns.map V.str ++ [.str l2])) = H10 at b10 S10 gX7
        refine ⟨_, rfl, _, _, rfl, rfl, p, q, xs, _, X7, ns ++ [l2], by show [V.ref p, V.ref X7, V.int (((d + 1 : Nat) : Int) - 1)] = _; rw [ed], S10, gX7, neX7, by simp only [List.length_append, List.length_cons, List.length_nil]; omega, by simp only [List.length_append, List.length_cons, List.length_nil]; omega, fun H11 r8 er8 gr8 S11 b11 hr8 => ?_⟩
        refine ⟨by show 3 ≤ sizeLine; decide, fun X9 hX9 => ?_⟩
        have b12 : Bt H11 (upd H11 X9 (.tup [.str "Kda", .ref X5, r8])) p := Bt.same (same_upd hX9)
        have S12 := S11.sm (same_upd (o := (.tup [.str "Kda", .ref X5, r8])) hX9)
        have gX9 : upd H11 X9 (.tup [.str "Kda", .ref X5, r8]) X9 = some (.tup [.str "Kda", .ref X5, r8]) := upd_same
        have neX9 := S11.nn hX9
        generalize upd H11 X9 (.tup [.str "Kda", .ref X5, r8]) = H12 at b12 S12 gX9
        refine ⟨by show 2 ≤ sizeLine; decide, fun X10 hX10 => ?_⟩
        have b13 : Bt H12 (upd H12 X10 (.lst [.ref X4, .ref X9])) p := Bt.same (same_upd hX10)
        have S13 := S12.sm (same_upd (o := (.lst [.ref X4, .ref X9])) hX10)
        have gX10 : upd H12 X10 (.lst [.ref X4, .ref X9]) X10 = some (.lst [.ref X4, .ref X9]) := upd_same
        have neX10 := S12.nn hX10
        generalize upd H12 X10 (.lst [.ref X4, .ref X9]) = H13 at b13 S13 gX10
        refine ⟨_, rfl, .inl ⟨rfl, _, SqL.of gX10⟩, ?_⟩
        refine ⟨by show 3 ≤ sizeLine; decide, fun X11 hX11 => ?_⟩
        have b14 : Bt H13 (upd H13 X11 (.lst [.str "Mdb", .str "Mda", .str "Kda"])) p := Bt.same (same_upd hX11)
        have S14 := S13.sm (same_upd (o := (.lst [.str "Mdb", .str "Mda", .str "Kda"])) hX11)
        have gX11 : upd H13 X11 (.lst [.str "Mdb", .str "Mda", .str "Kda"]) X11 = some (.lst [.str "Mdb", .str "Mda", .str "Kda"]) := upd_same
        have neX11 := S13.nn hX11
        generalize upd H13 X11 (.lst [.str "Mdb", .str "Mda", .str "Kda"]) = H14 at b14 S14 gX11
        refine ⟨_, rfl, p, q, xs, _, 3, rfl, S14, by decide, by decide, fun H15 v12 S15 bb15 lov12 hiv12 => ?_⟩
        have b15 := Bt.of bb15
        obtain ⟨l12, ml12, al12⟩ := pick_str (ls := ["Mdb", "Mda", "Kda"]) lov12 hiv12
        refine ⟨X11, _, _, .str l12, rfl, rfl, SqL.of (b15 _ _ gX11 neX11), al12, ?_⟩
        refine ⟨by show 2 ≤ sizeLine; decide, fun X13 hX13 => ?_⟩
        have b16 : Bt H15 (upd H15 X13 (.tup [.str "x", .str "y"])) p := Bt.same (same_upd hX13)
        have S16 := S15.sm (same_upd (o := (.tup [.str "x", .str "y"])) hX13)
        have gX13 : upd H15 X13 (.tup [.str "x", .str "y"]) X13 = some (.tup [.str "x", .str "y"]) := upd_same
        have neX13 := S15.nn hX13
        generalize upd H15 X13 (.tup [.str "x", .str "y"]) = H16 at b16 S16 gX13
        refine ⟨_, rfl, D, _, 2, _, rfl, rfl, SqL.of ((Bt.tr b4 (Bt.tr b5 (Bt.tr b6 (Bt.tr b7 (Bt.tr b8 (Bt.tr b9 (Bt.tr b10 (Bt.tr b11 (Bt.tr b12 (Bt.tr b13 (Bt.tr b14 (Bt.tr b15 b16)))))))))))) _ _ hD nD), rfl, ?_⟩
        refine ⟨by show 3 ≤ sizeLine; decide, fun X14 hX14 => ?_⟩
        have b17 : Bt H16 (upd H16 X14 (.tup [.str l12, .ref X13, x2])) p := Bt.same (same_upd hX14)
        have S17 := S16.sm (same_upd (o := (.tup [.str l12, .ref X13, x2])) hX14)
        have gX14 : upd H16 X14 (.tup [.str l12, .ref X13, x2]) X14 = some (.tup [.str l12, .ref X13, x2]) := upd_same
        have neX14 := S16.nn hX14
        generalize upd H16 X14 (.tup [.str l12, .ref X13, x2]) = H17 at b17 S17 gX14
        have hAL := ((Bt.tr b14 (Bt.tr b15 (Bt.tr b16 b17))) _ _ gX10 neX10)
        refine ⟨X10, _, _, rfl, rfl, hAL, by show 2 < sizeLine; decide, ?_⟩
        have kA := tk_lst (o := (.lst ([.ref X4, .ref X9] ++ [.ref X14]))) hAL
        have S18 := S17.lst (o := (.lst ([.ref X4, .ref X9] ++ [.ref X14]))) hAL neX10
        have fA : ∀ z o, H17 z = some o → z ≠ X10 → upd H17 X10 (.lst ([.ref X4, .ref X9] ++ [.ref X14])) z = some o := fun z o h n => by rw [upd_ne n]; exact h
        have gA : upd H17 X10 (.lst ([.ref X4, .ref X9] ++ [.ref X14])) X10 = some (.lst [.ref X4, .ref X9, .ref X14]) := upd_same
        have bA : ∀ z o, H12 z = some o → z ≠ p → upd H17 X10 (.lst ([.ref X4, .ref X9] ++ [.ref X14])) z = some o := fun z o h n => fA _ _ ((Bt.tr b13 (Bt.tr b14 (Bt.tr b15 (Bt.tr b16 b17)))) _ _ h n) (ne_of_none h hX10)
        have hDj := ((Bt.tr b4 (Bt.tr b5 (Bt.tr b6 (Bt.tr b7 (Bt.tr b8 (Bt.tr b9 (Bt.tr b10 (Bt.tr b11 (Bt.tr b12 (Bt.tr b13 (Bt.tr b14 (Bt.tr b15 (Bt.tr b16 b17))))))))))))) _ _ hD nD)
        have nDA : D ≠ X10 := ne_of_none ((Bt.tr b4 (Bt.tr b5 (Bt.tr b6 (Bt.tr b7 (Bt.tr b8 (Bt.tr b9 (Bt.tr b10 (Bt.tr b11 b12)))))))) _ _ hD nD) hX10
        generalize upd H17 X10 (.lst ([.ref X4, .ref X9] ++ [.ref X14])) = H18 at kA S18 fA gA bA
        have q0 := fA _ _ hDj nDA
        refine ⟨_, rfl, D, _, 0, _, rfl, rfl, SqL.of q0, rfl, ?_⟩
        have z1 := (TupK.tr (Bt.tk (Bt.tr b8 (Bt.tr b9 (Bt.tr b10 (Bt.tr b11 (Bt.tr b12 (Bt.tr b13 (Bt.tr b14 (Bt.tr b15 (Bt.tr b16 b17))))))))) S7) kA) _ _ gX4
        have z2 := (TupK.tr (Bt.tk (Bt.tr b13 (Bt.tr b14 (Bt.tr b15 (Bt.tr b16 b17)))) S12) kA) _ _ gX9
        have z3 := (TupK.tr TupK.refl kA) _ _ gX14
        have y0 := (TupK.tr (Bt.tk (Bt.tr b7 (Bt.tr b8 (Bt.tr b9 (Bt.tr b10 (Bt.tr b11 (Bt.tr b12 (Bt.tr b13 (Bt.tr b14 (Bt.tr b15 (Bt.tr b16 b17)))))))))) S6) kA) _ _ gX3
        have y1 := (TupK.tr (Bt.tk (Bt.tr b9 (Bt.tr b10 (Bt.tr b11 (Bt.tr b12 (Bt.tr b13 (Bt.tr b14 (Bt.tr b15 (Bt.tr b16 b17)))))))) S8) kA) _ _ gX5
        have y2 := (TupK.tr (Bt.tk b17 S16) kA) _ _ gX13
        have w0 := ExAt.keep (TupK.tr (Bt.tk (Bt.tr b4 (Bt.tr b5 (Bt.tr b6 (Bt.tr b7 (Bt.tr b8 (Bt.tr b9 (Bt.tr b10 (Bt.tr b11 (Bt.tr b12 (Bt.tr b13 (Bt.tr b14 (Bt.tr b15 (Bt.tr b16 b17))))))))))))) S3) kA) he0
        have w1 := ExAt.keep (TupK.tr (Bt.tk (Bt.tr b4 (Bt.tr b5 (Bt.tr b6 (Bt.tr b7 (Bt.tr b8 (Bt.tr b9 (Bt.tr b10 (Bt.tr b11 (Bt.tr b12 (Bt.tr b13 (Bt.tr b14 (Bt.tr b15 (Bt.tr b16 b17))))))))))))) S3) kA) he1
        have w2 := ExAt.keep (TupK.tr (Bt.tk (Bt.tr b4 (Bt.tr b5 (Bt.tr b6 (Bt.tr b7 (Bt.tr b8 (Bt.tr b9 (Bt.tr b10 (Bt.tr b11 (Bt.tr b12 (Bt.tr b13 (Bt.tr b14 (Bt.tr b15 (Bt.tr b16 b17))))))))))))) S3) kA) he2
        have w3 := ExAt.keep (TupK.tr (Bt.tk (Bt.tr b12 (Bt.tr b13 (Bt.tr b14 (Bt.tr b15 (Bt.tr b16 b17))))) S11) kA) hr8
        have bT : Bt H H18 p := fun z o h n => bA _ _ ((Bt.tr b1 (Bt.tr b2 (Bt.tr b3 (Bt.tr b4 (Bt.tr b5 (Bt.tr b6 (Bt.tr b7 (Bt.tr b8 (Bt.tr b9 (Bt.tr b10 (Bt.tr b11 b12))))))))))) _ _ h n) n
        have hms : All2 (ArmAt H18 (d + 1)) [.ref X4, .ref X9, .ref X14] [("Mda", [], e1), ("Kda", [l2], er8), (l12, ["x", "y"], e2)] := .cons ⟨X4, X3, x1, rfl, z1, y0, by show 0 ≤ 2; decide, w1⟩ (.cons ⟨X9, X5, r8, rfl, z2, y1, by show 1 ≤ 2; decide, w3⟩ (.cons ⟨X14, X13, x2, rfl, z3, y2, by show 2 ≤ 2; decide, w2⟩ .nil))
        clear z1 z2 z3 y0 y1 y2 w1 w2 w3 kA fA bA
        refine ⟨_, rfl, ?_⟩
        refine ⟨_, rfl, p, q, xs, _, 3, rfl, S18, by decide, by decide, fun H19 v15 S19 bb19 lov15 hiv15 => ?_⟩
        have b19 := Bt.of bb19
        obtain ⟨cc, rfl⟩ := Int.eq_ofNat_of_zero_le lov15
        refine ⟨_, rfl, X10, _, rfl, SqL.of (b19 _ _ gA neX10), ?_⟩
        refine fun X16 hX16 => ?_
        have b20 : Bt H19 (upd H19 X16 (.lst (cutV [.ref X4, .ref X9, .ref X14] (some (cc : Int)) none))) p := Bt.same (same_upd hX16)
        have S20 := S19.sm (same_upd (o := (.lst (cutV [.ref X4, .ref X9, .ref X14] (some (cc : Int)) none))) hX16)
        have gX16 : upd H19 X16 (.lst (cutV [.ref X4, .ref X9, .ref X14] (some (cc : Int)) none)) X16 = some (.lst ([.ref X4, .ref X9, .ref X14].drop cc)) := by rw [upd_same, cut_from]
        generalize upd H19 X16 (.lst (cutV [.ref X4, .ref X9, .ref X14] (some (cc : Int)) none)) = H20 at b20 S20 gX16
        refine ⟨X16, _, rfl, .inl ⟨SqL.of gX16, fun X17 hX17 => ?_⟩⟩
        have b21 : Bt H20 (upd H20 X17 (.tup ([.ref X4, .ref X9, .ref X14].drop cc))) p := Bt.same (same_upd hX17)
        have S21 := S20.sm (same_upd (o := (.tup ([.ref X4, .ref X9, .ref X14].drop cc))) hX17)
        have gX17 : upd H20 X17 (.tup ([.ref X4, .ref X9, .ref X14].drop cc)) X17 = some (.tup ([.ref X4, .ref X9, .ref X14].drop cc)) := upd_same
        generalize upd H20 X17 (.tup ([.ref X4, .ref X9, .ref X14].drop cc)) = H21 at b21 S21 gX17
        refine ⟨by show 3 ≤ sizeLine; decide, fun X18 hX18 => ?_⟩
        have b22 : Bt H21 (upd H21 X18 (.tup [.str "match", x0, .ref X17])) p := Bt.same (same_upd hX18)
        have S22 := S21.sm (same_upd (o := (.tup [.str "match", x0, .ref X17])) hX18)
        have gX18 : upd H21 X18 (.tup [.str "match", x0, .ref X17]) X18 = some (.tup [.str "match", x0, .ref X17]) := upd_same
        generalize upd H21 X18 (.tup [.str "match", x0, .ref X17]) = H22 at b22 S22 gX18
        have kF := Bt.tk (Bt.tr b19 (Bt.tr b20 (Bt.tr b21 b22))) S18
        refine qq H22 _ (.mat e0 (([("Mda", [], e1), ("Kda", [l2], er8), (l12, ["x", "y"], e2)] : List (Str × List Str × Ex)).drop cc)) _ S22 (Bt.tr bT (Bt.tr b19 (Bt.tr b20 (Bt.tr b21 b22)))) ⟨X18, x0, X17, _, rfl, gX18, ((Bt.tk b22 S21) _ _ gX17), ?_, ExAt.keep kF w0, All2.drop (hms.mono fun a m h => ArmAt.keep h kF) cc⟩
        rw [List.length_drop]
        have : cc < 3 := by omega
        constructor
        · show 1 ≤ 3 - cc; omega
        · show 3 - cc ≤ 3; omega
theorem ok_wild {k : Nat} (Z : Defs K mg) : ∀ d, FnOk P w K mg base CX0 (k + d + 2) Z.fLawWild Z.fdLawWild ["state", "names", "depth"] (spWild d)
  | 0 => wild_zero Z
  | d + 1 => wild_step (k := k + d) Z (ok_wild Z d)
end
end Q33
namespace Q33
open PySem PySem.Spec PyProof.Rows L2 SX HL
theorem eqV_str (a b : Str) : eqV (.str a) (.str b) = decide (a = b) := by
  show (a == b) = decide (a = b)
  by_cases h : a = b
  · rw [decide_eq_true h, beq_iff_eq]
    exact h
  · rw [decide_eq_false h, beq_eq_false_iff_ne]
    exact h
theorem inV3 (f a b c : Str) : inV (.str f) [.str a, .str b, .str c] = (decide (a = f) || (decide (b = f) || decide (c = f))) := by
  show (eqV (.str a) (.str f) || (eqV (.str b) (.str f) || (eqV (.str c) (.str f) || false))) = _
  rw [eqV_str, eqV_str, eqV_str, Bool.or_false]
theorem InsAt.tag {H : Hp} {v : V} {i : Ins} (h : InsAt H v i) : ∃ t f r, v = .ref t ∧ H t = some (.tup (.str f :: r)) := by
  cases i with
  | plain f xs => obtain ⟨t, e, h⟩ := h; exact ⟨t, _, _, e, h⟩
  | jump f n => obtain ⟨t, e, h⟩ := h; exact ⟨t, _, _, e, h⟩
  | stays b n => obtain ⟨t, e, h⟩ := h; exact ⟨t, _, _, e, h⟩
  | pick cs => obtain ⟨t, q, us, e, h, _⟩ := h; exact ⟨t, _, _, e, h⟩
/-- where a turn stands: the skips are good -/
def EI (H : Hp) (t : Addr) (j r : Nat) : L2.St → Hp → Prop := fun σ H' => Same H H' ∧ ∃ (L : Addr) (ns : List Int), σ = [some (.ref t), some (.int (0 + (j : Int))), some (.ref L), none, none, none] ∧ H' L = some (.lst (ns.map V.int)) ∧ 0 < ns.length ∧ ∀ n ∈ ns, 0 ≤ n ∧ n ≤ (r : Int)
theorem EI.same {H H1 H2 : Hp} {t : Addr} {j r : Nat} {σ : L2.St} (h : EI H t j r σ H1) (s : Same H1 H2) : EI H t j r σ H2 := by
  obtain ⟨s1, L, ns, e, h1, h2⟩ := h
  exact ⟨Same.tr s1 s, L, ns, e, s _ _ h1, h2⟩
theorem EI.mk {H H2 : Hp} {t L : Addr} {j r : Nat} {ns : List Int} (s : Same H H2) (h : H2 L = none) (n0 : 0 < ns.length) (hn : ∀ n ∈ ns, 0 ≤ n ∧ n ≤ (r : Int)) : EI H t j r [some (.ref t), some (.int (0 + (j : Int))), some (.ref L), none, none, none] (upd H2 L (.lst (ns.map V.int))) :=
  ⟨Same.tr s (same_upd h), _, _, rfl, upd_same, n0, hn⟩
theorem one_ok {r n : Nat} (h : n ≤ r) : ∀ m ∈ [(n : Int)], 0 ≤ m ∧ m ≤ (r : Int) := fun m hm => by
  rw [List.mem_singleton.mp hm]
  omega
section
variable {P : Program} {w : World} {K : PySem.W.Frag} {mg : Str → Option Value} {base : Heap}
def spEnds : Sp := fun vs H Q _ => ∃ (t : Addr) (us : List V) (cs : List Ins), vs = [.ref t] ∧ H t = some (.tup us) ∧ CodeAt H us cs ∧ Within 0 cs ∧ cs.length ≤ 1000000 ∧ ∀ H', Same H H' → Q (.bl true) H'
theorem ok_ends {k : Nat} (Z : Defs K mg) : FnOk P w K mg base CX0 (k + 1) Z.fLawEndsWithin Z.fdLawEndsWithin ["code"] spEnds := by
  refine Z.DLawEndsWithin.F.ok scLawEndsWithin (fun vs H Q E h => ?_) (fun cdv A outer s H vs Q E hr h => ?_)
  · obtain ⟨t, us, cs, rfl, _⟩ := h
    rfl
  · obtain ⟨t, us, cs, rfl, ht, hc, hw, hlen, qq⟩ := h
    refine ⟨_, (pss_cons (ps_for PassesOwn.never rfl (pi_range1 (by rfl) Z.range (pa_cons (pe_callB call_len_seq (by rfl) Z.len PySem.boot_len (pa_cons (pv 0) pa_nil)) pa_nil)) (pg_name (i := 1) scLawEndsWithin.nd rfl (.inl rfl)) (pss_cons (ps_set (i := 2) scLawEndsWithin.nd rfl (.inl rfl) (pe_lst (pa_cons pe_int pa_nil)))
        (C8.pss_cut (ps_if (pt_cmpR op_in_seq (pe_ix ix_tup (pe_ix ix_tup (pv 0) (pv 1) (fun _ _ => rfl)) pe_int (fun _ _ => rfl)) (pe_lst (pa_cons pe_str (pa_cons pe_str (pa_cons pe_str pa_nil)))) rfl) (pss_one (ps_set (i := 2) scLawEndsWithin.nd rfl (.inl rfl) (pe_lst (pa_cons (pe_ix ix_tup (pe_ix ix_tup (pv 0) (pv 1) (fun _ _ => rfl)) pe_int (fun _ _ => rfl)) pa_nil)))) pss_nil)
        (C8.pss_cut (ps_if (pt_cmpR op_eq (pe_ix ix_tup (pe_ix ix_tup (pv 0) (pv 1) (fun _ _ => rfl)) pe_int (fun _ _ => rfl)) pe_str (nomark _)) (pss_one (ps_set (i := 2) scLawEndsWithin.nd rfl (.inl rfl) (pe_lst (pa_cons (pe_ix ix_tup (pe_ix ix_tup (pv 0) (pv 1) (fun _ _ => rfl)) pe_int (fun _ _ => rfl)) pa_nil)))) pss_nil)
        (C8.pss_cut (ps_if (pt_cmpR op_eq (pe_ix ix_tup (pe_ix ix_tup (pv 0) (pv 1) (fun _ _ => rfl)) pe_int (fun _ _ => rfl)) pe_str (nomark _)) (pss_one (ps_setLc (i := 2) (own := [("maker", 3), ("count", 4), ("skipped", 5)]) (g := (gTup K 3 (gCons (gName 3) (gCons (gName 4) (gCons (gName 5) gNil))))) (by rfl) scLawEndsWithin.nd rfl rfl (sw_true rfl rfl rfl (by decide +kernel)) (HK.pi_tupK (K := K) rfl (pe_ix (HL.ix_tupK (K := K) rfl) (pe_ix (HL.ix_tupK (K := K) rfl) (pv 0) (pv 1) (fun _ _ => rfl)) pe_int (fun _ _ => rfl))) (blkOk_by (own := [("maker", 3), ("count", 4), ("skipped", 5)]) (N := ["code", "k", "skips", "maker", "count", "skipped"]) (sc := defScope sLawEndsWithin) (by decide +kernel)) (fun _ _ _ _ _ => (pg_tup rfl (pgs_cons (pg_name (i := 3) scLawEndsWithin.nd rfl (.inl rfl)) (pgs_cons (pg_name (i := 4) scLawEndsWithin.nd rfl (.inl rfl)) (pgs_cons (pg_name (i := 5) scLawEndsWithin.nd rfl (.inl rfl)) pgs_nil))))) (fun _ _ _ _ _ => pts_nil) (fun _ _ _ _ _ => (pv 5)))) pss_nil)
        (pss_one (ps_if (PW.pt (pw_or (pt_cmpR op_lt (pe_callB (cr_min rfl) (by rfl) Z.min (by decide +kernel) (pa_cons (pv 2) pa_nil)) pe_int (nomark _)) (pw_or1 (pt_cmpR op_gt (pe_op op_add (pe_op op_add (pv 1) pe_int) (pe_callB (cr_max rfl) (by rfl) Z.max (by decide +kernel) (pa_cons (pv 2) pa_nil))) (pe_callB call_len_seq (by rfl) Z.len PySem.boot_len (pa_cons (pv 0) pa_nil)) (nomark _))))) (pss_one (ps_ret pe_bl)) pss_nil)))))))
        (pss_one (ps_ret pe_bl))), ?_⟩
    have el := ca_len hc
    have line := line63
    refine ⟨_, rfl, t, us, rfl, .inr (SqT.of ht), _, rfl, by omega, by omega, ?_⟩
    refine for_range (lo := 0) (n := (us.length : Int).toNat) (fun j σ H' => Same H H' ∧ ∃ y1 y2, σ = [some (.ref t), y1, y2, none, none, none]) ⟨fun _ _ h => h, none, none, rfl⟩ ?_ ?_
    · rintro j σ H1 hj ⟨s1, y1, y2, rfl⟩
      have hj' : j < us.length := by omega
      obtain ⟨x, hx⟩ : ∃ x, us[j]? = some x := ⟨_, List.getElem?_eq_getElem hj'⟩
      obtain ⟨i, hi, hxi⟩ := All2.get hc hx
      have hf := hw.at hi
      obtain ⟨r, hr'⟩ : ∃ r, r = cs.length - j - 1 + 0 := ⟨_, rfl⟩
      rw [← hr'] at hf
      have ij : ∀ {xs : List V} {v : V}, xs[j]? = some v → atI xs (0 + (j : Int)) = some v := fun h => by rw [Int.zero_add]; exact atI_nat h
      refine ⟨by show 1 ≤ sizeLine; decide, fun L hL => ?_⟩
      have m0 : EI H t j r [some (.ref t), some (.int (0 + (j : Int))), some (.ref L), none, none, none] (upd H1 L (.lst [V.int 0])) := EI.mk (ns := [0]) s1 hL (by decide) (fun n h => by rw [List.mem_singleton.mp h]; omega)
      have s2 := Same.tr s1 (same_upd (o := .lst [V.int 0]) hL)
      clear hL
      show tSeq _ _ _ _ _
      generalize upd H1 L (.lst [V.int 0]) = H2 at m0 s2
      refine ⟨EI H t j r, ?_, ?_⟩
      · -- a jump
        clear s1
        cases i with
        | jump f n =>
          obtain ⟨ti, rfl, hti⟩ := hxi
          obtain ⟨hf1, hf2⟩ := hf
          refine ⟨_, rfl, _, rfl, t, us, _, .ref ti, rfl, rfl, SqT.of (s2 _ _ ht), ij hx, ti, _, 0, .str f, rfl, rfl, SqT.of (s2 _ _ hti), atI_nat (j := 0) rfl, by show 3 ≤ sizeLine; decide, fun T hT => ⟨T, _, rfl, .inl (SqL.of upd_same), rfl, rfl, _, rfl, iteYes (by rcases hf1 with rfl | rfl | rfl <;> decide +kernel) ?_⟩⟩
          have s3 := Same.tr s2 (same_upd (o := .lst [.str "skip", .str "unless", .str "open"]) hT)
          show _
          generalize upd H2 T (.lst [.str "skip", .str "unless", .str "open"]) = H3 at s3
          refine ⟨_, rfl, _, rfl, t, us, _, .ref ti, rfl, rfl, SqT.of (s3 _ _ ht), ij hx, ti, _, 1, vi n, rfl, rfl, SqT.of (s3 _ _ hti), atI_nat (j := 1) rfl, by show 1 ≤ sizeLine; decide, fun L2 hL2 => EI.mk (ns := [(n : Int)]) s3 hL2 (by show 0 < 1; decide) (one_ok hf2)⟩
        | plain f xs =>
          obtain ⟨ti, rfl, hti⟩ := hxi
          obtain ⟨n1, n2, n3, _⟩ := hf
          exact ⟨_, rfl, _, rfl, t, us, _, .ref ti, rfl, rfl, SqT.of (s2 _ _ ht), ij hx, ti, _, 0, .str f, rfl, rfl, SqT.of (s2 _ _ hti), atI_nat (j := 0) rfl, by show 3 ≤ sizeLine; decide, fun T hT => ⟨T, _, rfl, .inl (SqL.of upd_same), rfl, rfl, _, rfl, iteNo (by show ¬ inV _ _ = true; rw [inV3]; simp [Ne.symm n1, Ne.symm n2, Ne.symm n3]) (m0.same (same_upd hT))⟩⟩
        | stays b n =>
          obtain ⟨ti, rfl, hti⟩ := hxi
          exact ⟨_, rfl, _, rfl, t, us, _, .ref ti, rfl, rfl, SqT.of (s2 _ _ ht), ij hx, ti, _, 0, .str "stays", rfl, rfl, SqT.of (s2 _ _ hti), atI_nat (j := 0) rfl, by show 3 ≤ sizeLine; decide, fun T hT => ⟨T, _, rfl, .inl (SqL.of upd_same), rfl, rfl, _, rfl, iteNo (by decide +kernel) (m0.same (same_upd hT))⟩⟩
        | pick ps =>
          obtain ⟨ti, q, ws, rfl, hti, _⟩ := hxi
          exact ⟨_, rfl, _, rfl, t, us, _, .ref ti, rfl, rfl, SqT.of (s2 _ _ ht), ij hx, ti, _, 0, .str "pick", rfl, rfl, SqT.of (s2 _ _ hti), atI_nat (j := 0) rfl, by show 3 ≤ sizeLine; decide, fun T hT => ⟨T, _, rfl, .inl (SqL.of upd_same), rfl, rfl, _, rfl, iteNo (by decide +kernel) (m0.same (same_upd hT))⟩⟩
      clear m0 s2 s1
      rintro σ H3 m3
      have m3' := m3
      obtain ⟨s3, L3, ns3, rfl, _⟩ := m3
      refine ⟨EI H t j r, ?_, ?_⟩
      · -- stays
        cases i with
        | jump f n =>
          obtain ⟨ti, rfl, hti⟩ := hxi
          exact ⟨_, rfl, _, rfl, t, us, _, .ref ti, rfl, rfl, SqT.of (s3 _ _ ht), ij hx, ti, _, 0, .str f, rfl, rfl, SqT.of (s3 _ _ hti), atI_nat (j := 0) rfl, rfl, _, rfl, iteNo (fun h => by rcases hf.1 with e | e | e <;> (rw [e] at h; revert h; decide +kernel)) m3'⟩
        | plain f xs =>
          obtain ⟨ti, rfl, hti⟩ := hxi
          exact ⟨_, rfl, _, rfl, t, us, _, .ref ti, rfl, rfl, SqT.of (s3 _ _ ht), ij hx, ti, _, 0, .str f, rfl, rfl, SqT.of (s3 _ _ hti), atI_nat (j := 0) rfl, rfl, _, rfl, iteNo (fun h => hf.2.2.2.1 (V.str.inj (of_decide_eq_true h))) m3'⟩
        | stays b n =>
          obtain ⟨ti, rfl, hti⟩ := hxi
          refine ⟨_, rfl, _, rfl, t, us, _, .ref ti, rfl, rfl, SqT.of (s3 _ _ ht), ij hx, ti, _, 0, .str "stays", rfl, rfl, SqT.of (s3 _ _ hti), atI_nat (j := 0) rfl, rfl, _, rfl, iteYes (by decide +kernel) ?_⟩
          refine ⟨_, rfl, _, rfl, t, us, _, .ref ti, rfl, rfl, SqT.of (s3 _ _ ht), ij hx, ti, _, 2, vi n, rfl, rfl, SqT.of (s3 _ _ hti), atI_nat (j := 2) rfl, by show 1 ≤ sizeLine; decide, fun L2 hL2 => EI.mk (ns := [(n : Int)]) s3 hL2 (by show 0 < 1; decide) (one_ok hf)⟩
        | pick ps =>
          obtain ⟨ti, q, ws, rfl, hti, hq, hps⟩ := hxi
          exact ⟨_, rfl, _, rfl, t, us, _, .ref ti, rfl, rfl, SqT.of (s3 _ _ ht), ij hx, ti, _, 0, .str "pick", rfl, rfl, SqT.of (s3 _ _ hti), atI_nat (j := 0) rfl, rfl, _, rfl, iteNo (by decide +kernel) m3'⟩
      clear m3' s3
      rintro σ H4 m4
      have m4' := m4
      obtain ⟨s4, L4, ns4, rfl, _⟩ := m4
      refine ⟨EI H t j r, ?_, ?_⟩
      · -- pick
        cases i with
        | jump f n =>
          obtain ⟨ti, rfl, hti⟩ := hxi
          exact ⟨_, rfl, _, rfl, t, us, _, .ref ti, rfl, rfl, SqT.of (s4 _ _ ht), ij hx, ti, _, 0, .str f, rfl, rfl, SqT.of (s4 _ _ hti), atI_nat (j := 0) rfl, rfl, _, rfl, iteNo (fun h => by rcases hf.1 with e | e | e <;> (rw [e] at h; revert h; decide +kernel)) m4'⟩
        | plain f xs =>
          obtain ⟨ti, rfl, hti⟩ := hxi
          exact ⟨_, rfl, _, rfl, t, us, _, .ref ti, rfl, rfl, SqT.of (s4 _ _ ht), ij hx, ti, _, 0, .str f, rfl, rfl, SqT.of (s4 _ _ hti), atI_nat (j := 0) rfl, rfl, _, rfl, iteNo (fun h => hf.2.2.2.2 (V.str.inj (of_decide_eq_true h))) m4'⟩
        | stays b n =>
          obtain ⟨ti, rfl, hti⟩ := hxi
          exact ⟨_, rfl, _, rfl, t, us, _, .ref ti, rfl, rfl, SqT.of (s4 _ _ ht), ij hx, ti, _, 0, .str "stays", rfl, rfl, SqT.of (s4 _ _ hti), atI_nat (j := 0) rfl, rfl, _, rfl, iteNo (by decide +kernel) m4'⟩
        | pick ps =>
          obtain ⟨ti, q, ws, rfl, hti, hq, hps⟩ := hxi
          refine ⟨_, rfl, _, rfl, t, us, _, .ref ti, rfl, rfl, SqT.of (s4 _ _ ht), ij hx, ti, _, 0, .str "pick", rfl, rfl, SqT.of (s4 _ _ hti), atI_nat (j := 0) rfl, rfl, _, rfl, iteYes (by decide +kernel) ?_⟩
          have hq4 := s4 _ _ hq
          refine ⟨_, rfl, _, rfl, t, us, _, .ref ti, rfl, rfl, SqT.of (s4 _ _ ht), ij hx, ti, _, 1, .ref q, rfl, rfl, SqT.of (s4 _ _ hti), atI_nat (j := 1) rfl, q, rfl, ⟨ws, SqT.of hq4⟩, fun D hD => ?_⟩
          refine lc_it walk_tup (fun i H' => Same H4 H' ∧ H' D = some (.lst (((ps.take i).map fun c => (c.2.2 : Int)).map V.int))) ⟨same_upd hD, upd_same⟩ (fun i H' _ p => SqT.of (p.1 _ _ hq4)) ?_ ?_
          · rintro i y Hx Hy hi ⟨sy, hDy⟩ ⟨rfl, hy⟩
            obtain ⟨c, hci, tc, rfl, htc⟩ := hps.get hy
            refine ⟨tc, _, rfl, SqT.of (sy _ _ (s4 _ _ htc)), rfl, _, _, rfl, _, _, rfl, _, _, rfl, rfl, rfl, lc_yes ⟨_, rfl, _, hDy, ?_, fun z o hz => ?_, ?_⟩⟩
            · have h3 : ps.length ≤ 3 := hf.2.1
              have h4 : 3 < sizeLine := by decide
              rw [List.length_map, List.length_map, List.length_take]
              omega
            · rw [upd_ne (ne_of_none hz hD)]
              exact sy _ _ hz
            · rw [upd_same, List.take_add_one, hci, List.map_append, List.map_append]
              rfl
          · rintro H5 ⟨s5, hD5⟩
            rw [hps.len, List.take_length] at hD5
            refine ⟨Same.tr s4 s5, D, _, rfl, hD5, ?_, fun n hn => ?_⟩
            · rw [List.length_map]
              exact List.length_pos_iff.mpr hf.1
            · obtain ⟨c, hc', rfl⟩ := List.mem_map.mp hn
              have := hf.2.2 c hc'
              omega
      clear m4' s4
      rintro σ H5 ⟨s5, L5, ns5, rfl, hL5, hn0, hns⟩
      have er : r = cs.length - j - 1 := hr'
      refine ⟨_, rfl, L5, ns5, rfl, SqL.of hL5, hn0, fun m hm _ => ?_⟩
      have hm0 := (hns m hm).1
      refine ⟨_, _, rfl, rfl, _, rfl, ?_⟩
      rw [decide_eq_false (by omega)]
      refine iteF ⟨_, rfl, _, _, rfl, rfl, _, rfl, L5, ns5, rfl, SqL.of hL5, hn0, fun m2 hm2 _ => ?_⟩
      have hm1 := (hns m2 hm2).2
      refine ⟨_, _, rfl, rfl, _, rfl, t, us, rfl, .inr (SqT.of (s5 _ _ ht)), _, _, rfl, rfl, _, rfl, ?_⟩
      rw [decide_eq_false (by omega)]
      exact iteF ⟨s5, _, _, rfl⟩
    · rintro σ H1 ⟨s1, y1, y2, rfl⟩
      exact qq H1 s1
end
end Q33
namespace Q33
open PySem PySem.Spec PyProof.Rows L2 SX HL
theorem map_eq {α β : Type} {f g : α → β} {R : V → α → Prop} {us : List V} {es : List α} (h : All2 R us es) (e : ∀ u x, R u x → f x = g x) : es.map f = es.map g := by
  induction h with
  | nil => rfl
  | cons r _ ih => rw [List.map_cons, List.map_cons, e _ _ r, ih]
theorem ex_succ {H : Hp} : ∀ {n : Nat} {e : Ex} {x : V}, ExAt H n e x → ExAt H (n + 1) e x ∧ ∀ ns, code (n + 1) e ns = code n e ns
  | 0, _, _, h => h.elim
  | n + 1, .lit f v, x, h => ⟨h, fun _ => rfl⟩
  | n + 1, .name z, x, h => ⟨h, fun _ => rfl⟩
  | n + 1, .bin op a b, x, ⟨h0, t, u, v, e, h, ha, hb⟩ => by
    obtain ⟨a1, a2⟩ := ex_succ ha
    obtain ⟨b1, b2⟩ := ex_succ hb
    exact ⟨⟨h0, t, u, v, e, h, a1, b1⟩, fun ns => by show binC op (code (n + 1) a ns) (code (n + 1) b ns) = _; rw [a2, b2]; rfl⟩
  | n + 1, .neg a, x, ⟨t, u, e, h, ha⟩ => by
    obtain ⟨a1, a2⟩ := ex_succ ha
    exact ⟨⟨t, u, e, h, a1⟩, fun ns => by show code (n + 1) a ns ++ _ = _; rw [a2]; rfl⟩
  | n + 1, .ife a b c, x, ⟨t, u, v, w, e, h, ha, hb, hc⟩ => by
    obtain ⟨a1, a2⟩ := ex_succ ha
    obtain ⟨b1, b2⟩ := ex_succ hb
    obtain ⟨c1, c2⟩ := ex_succ hc
    exact ⟨⟨t, u, v, w, e, h, a1, b1, c1⟩, fun ns => by rw [code, code, a2, b2, c2]⟩
  | n + 1, .lt z a b, x, ⟨t, u, v, e, h, ha, hb⟩ => by
    obtain ⟨a1, a2⟩ := ex_succ ha
    obtain ⟨b1, b2⟩ := ex_succ hb
    exact ⟨⟨t, u, v, e, h, a1, b1⟩, fun ns => by rw [code, code, a2, b2]⟩
  | n + 1, .cons a b, x, ⟨t, u, v, e, h, ha, hb⟩ => by
    obtain ⟨a1, a2⟩ := ex_succ ha
    obtain ⟨b1, b2⟩ := ex_succ hb
    exact ⟨⟨t, u, v, e, h, a1, b1⟩, fun ns => by rw [code, code, a2, b2]⟩
  | n + 1, .list es, x, ⟨t, q, us, e, h, hq, hl, ha⟩ => ⟨⟨t, q, us, e, h, hq, hl, ha.mono fun _ _ r => (ex_succ r).1⟩, fun ns => by rw [code, code, map_eq (g := fun e => code n e ns) ha fun _ _ r => (ex_succ r).2 ns]⟩
  | n + 1, .call f es, x, ⟨t, q, us, e, h, hq, hl, ha⟩ => ⟨⟨t, q, us, e, h, hq, hl, ha.mono fun _ _ r => (ex_succ r).1⟩, fun ns => by rw [code, code, map_eq (g := fun e => code n e ns) ha fun _ _ r => (ex_succ r).2 ns]⟩
  | n + 1, .make f es, x, ⟨t, q, us, e, h, hq, hl, ha⟩ => ⟨⟨t, q, us, e, h, hq, hl, ha.mono fun _ _ r => (ex_succ r).1⟩, fun ns => by rw [code, code, map_eq (g := fun e => code n e ns) ha fun _ _ r => (ex_succ r).2 ns]⟩
  | n + 1, .split a b z y c, x, ⟨t, u, v, w, e, h, ha, hb, hc⟩ => by
    obtain ⟨a1, a2⟩ := ex_succ ha
    obtain ⟨b1, b2⟩ := ex_succ hb
    obtain ⟨c1, c2⟩ := ex_succ hc
    exact ⟨⟨t, u, v, w, e, h, a1, b1, c1⟩, fun ns => by rw [code, code, a2, b2, c2]⟩
  | n + 1, .mat a arms, x, ⟨t, u, q, us, e, h, hq, hl, ha, hm⟩ => by
    obtain ⟨a1, a2⟩ := ex_succ ha
    refine ⟨⟨t, u, q, us, e, h, hq, hl, a1, hm.mono fun _ _ ⟨ta, tn, w, e1, h1, h2, h3, h4⟩ => ⟨ta, tn, w, e1, h1, h2, h3, (ex_succ h4).1⟩⟩, fun ns => ?_⟩
    rw [code, code, a2, map_eq (g := fun m : Str × List Str × Ex => ((m.1, m.2.1.length, code n m.2.2 (ns ++ m.2.1) ++ [Ins.plain "leave" [vi m.2.1.length]]) : Blk)) hm fun _ m ⟨ta, tn, w, e1, h1, h2, h3, h4⟩ => by rw [(ex_succ h4).2]]
theorem ExAt.up {H : Hp} {n : Nat} {e : Ex} {x : V} (h : ExAt H n e x) : ∀ m, n ≤ m → ExAt H m e x
  | 0, hm => by
    have : n = 0 := by omega
    subst this
    exact h
  | m + 1, hm => by
    by_cases e : n = m + 1
    · subst e
      exact h
    · exact (ex_succ (h.up m (by omega))).1
theorem samD_succ {K : PySem.W.Frag} {H : Hp} : ∀ {n : Nat} {x y : V}, SameD K H n x y → SameD K H (n + 1) x y
  | 0, x, y, h => .inl h
  | n + 1, x, y, h => by
    rcases h with h | ⟨t, a, b, xs, ys, e1, e2, h1, h2, el, hz, hh⟩
    · exact .inl h
    · exact .inr ⟨t, a, b, xs, ys, e1, e2, h1, h2, el, hz, fun i u v hu hv => samD_succ (hh i u v hu hv)⟩
/-- a code that can be told the same -/
def COk (c : List Ins) : Prop := (∀ i ∈ c, InsL i) ∧ c.length ≤ 1000000
theorem cok {H : Hp} {n : Nat} {e : Ex} {x : V} (ns : List Str) (hn : n ≤ 7) (h : ExAt H n e x) : COk (code n e ns) := ⟨code_leaf ns h, Nat.le_trans (code_len ns h) (Nat.le_trans (cB7 hn) (by decide))⟩
theorem cd_same {K : PySem.W.Frag} {H : Hp} {x y : V} {c : List Ins} (hl : COk c) (h1 : CdAt H x c) (h2 : CdAt H y c) : SameD K H 4 x y := by
  obtain ⟨t, us, rfl, ht, hc⟩ := h1
  obtain ⟨s, vs, rfl, hs, hd⟩ := h2
  exact code_same hl.1 hl.2 ht hs hc hd
theorem cds_same {K : PySem.W.Frag} {H : Hp} {t s : Addr} {us vs : List V} {cs : List (List Ins)} (hl : ∀ c ∈ cs, COk c) (hz : cs.length ≤ 1000000) (ht : H t = some (.tup us)) (hs : H s = some (.tup vs)) (h1 : All2 (CdAt H) us cs) (h2 : All2 (CdAt H) vs cs) : SameD K H 5 (.ref t) (.ref s) := by
  refine .seq (.tup ht) (.tup hs) (by rw [h1.len, h2.len]) (by rw [h2.len]; exact hz) fun i x y hx hy => ?_
  obtain ⟨c, hc, r1⟩ := h1.get hx
  obtain ⟨d, hd, r2⟩ := h2.get hy
  rw [hc] at hd
  cases hd
  exact cd_same (hl _ (List.mem_of_getElem? hc)) r1 r2
theorem fn_any {ι : Type} {P : Program} {w : World} {K : PySem.W.Frag} {mg : Str → Option Value} {base : Heap} {CX : CXT} {k : Nat} {f : Addr} {fd : FuncData} {ps : List Str} {sp : ι → Sp} (h : ∀ i, FnOk P w K mg base CX k f fd ps (sp i)) : FnOk P w K mg base CX k f fd ps (fun vs H Q E => ∃ i, sp i vs H Q E) :=
  ⟨fun vs H Q E ⟨i, q⟩ => (h i).len _ _ _ _ q, fun A outer s H args us vs Q E hr he hb hv ⟨i, q⟩ => (h i).run A outer s H args us vs Q E hr he hb hv q⟩
theorem StAt.up2 {H : Hp} {p q A : Addr} {xs : List Int} {g : Int} {o : HO} (S : StAt H p q xs g) (nq : A ≠ q) (ne : A ≠ p) : StAt (L2.upd H A o) p q xs g := by
  obtain ⟨a1, a2, i, c, y, a3, a4⟩ := S
  exact ⟨by rw [upd_ne (fun e => nq e.symm)]; exact a1, a2, i, c, y, by rw [upd_ne (fun e => ne e.symm)]; exact a3, a4⟩
end Q33
namespace Q33
open PySem PySem.Spec PyProof.Rows L2 SX HL
section
variable {P : Program} {w : World} {K : PySem.W.Frag} {mg : Str → Option Value} {base : Heap}
/-! ### law -/
def spLaw (K : PySem.W.Frag) : Sp := fun vs H Q _ => ∃ (a : Addr) (ns : List Int), vs = [.ref a] ∧ SqL K H a (ns.map V.int) ∧ ns.length ≤ 63 ∧ ∀ H', Q (.bl true) H'
theorem ok_law (Z : Defs K mg) (p_dic : He.dicW K Z.aD = some (He.keysIn w.params ["and", "or"])) : FnOk P w K mg base CX0 60 Z.fLaw Z.fdLaw ["script"] (spLaw K) := by
  obtain ⟨es, nD, DK⟩ := He.dicW_ok p_dic
  have GLawNext : FnOk P w K mg base CX0 1 Z.fLawNext Z.fdLawNext ["state", "limit"] spNext := ok_next Z
  have GLawSame : FnOk P w K mg base CX0 6 Z.fLawSame Z.fdLawSame ["actual", "expected"] (spSame K 5) := ok_same (k := 0) Z 5
  have GLawWild : FnOk P w K mg base CX0 20 Z.fLawWild Z.fdLawWild ["state", "names", "depth"] (fun vs H Q E => ∃ d : Fin 7, spWild d.val vs H Q E) := fn_any fun d => (ok_wild (k := 0) Z d.val).mono (by omega)
  have GLawCode : FnOk P w K mg base CX0 15 Z.fLawCode Z.fdLawCode ["e", "names"] (spLC 7) := ok_lcode (k := 0) Z 7 (by decide)
  have GCodeOf : FnOk P w K mg base CX0 15 Z.fCodeOf Z.fdCodeOf ["e", "names"] (spCode K 7) := ok_code (k := 0) Z DK 7 (by decide)
  have GDefinitionCode : FnOk P w K mg base CX0 16 Z.fDefinitionCode Z.fdDefinitionCode ["definition"] (spDef 7) := ok_definition (k := 14) Z GCodeOf
  have GLawEndsWithin : FnOk P w K mg base CX0 1 Z.fLawEndsWithin Z.fdLawEndsWithin ["code"] spEnds := ok_ends Z
  refine Z.DLaw.F.ok scLaw (fun vs H Q E h => ?_) (fun cdv A outer s H vs Q E hr h => ?_)
  · obtain ⟨a, xs, rfl, _⟩ := h
    rfl
  · obtain ⟨a, xs, rfl, hS, hl, qq⟩ := h
    refine ⟨_, (pss_cons (ps_set (i := 1) scLaw.nd rfl (.inl rfl) (pe_lst (pa_cons (pe_callTy call_list_of (by rfl) Z.list HL.boot_list (pa_cons (pv 0) pa_nil)) (pa_cons pe_int (pa_cons pe_int (pa_cons pe_int (pa_cons pe_int pa_nil)))))))
        (pss_cons (ps_set (i := 2) scLaw.nd rfl (.inr rfl) (pe_slice sl_list (pe_lst (pa_cons pe_str (pa_cons pe_str (pa_cons pe_str (pa_cons pe_str pa_nil))))) po_none (po_some (pe_call GLawNext (hr.mono (by omega)) (by rfl) Z.DLawNext.g Z.DLawNext.F.kp Z.DLawNext.b .nil pass0 (pa_cons (pv 1) (pa_cons pe_int pa_nil))))))
        (pss_cons (ps_set (i := 3) scLaw.nd rfl (.inl rfl) (pe_lst pa_nil))
        (pss_cons (ps_for PassesOwn.never rfl (pi_range1 (by rfl) Z.range (pa_cons pe_int pa_nil)) (pg_name (i := 4) scLaw.nd rfl (.inl rfl)) (pss_cons (ps_asg (pe_ix ix_list (pe_lst (pa_cons pe_int (pa_cons pe_int (pa_cons pe_int pa_nil)))) (pv 4) (fun _ _ => rfl)) (pg_sub (pv 1) pe_int set_list))
        (pss_one (ps_expr (pe_bm PySem.F.plainAttrs_list PySem.F.slot_list_append PySem.F.type_list_append mt_append (pv 3) (pa_cons (pe_call GLawWild (hr.mono (by omega)) (by rfl) Z.DLawWild.g Z.DLawWild.F.kp Z.DLawWild.b .nil pass0 (pa_cons (pv 1) (pa_cons (pe_lst (pa_cons pe_str (pa_cons pe_str (pa_cons pe_str (pa_cons pe_str (pa_cons pe_str (pa_cons pe_str pa_nil))))))) (pa_cons (pe_op op_sub pe_int (pv 4)) pa_nil)))) pa_nil))))))
        (pss_cons (ps_setLc (i := 5) (own := [("e", 9)]) (g := (gName 9)) (by rfl) scLaw.nd rfl rfl (sw_true rfl rfl rfl (by decide +kernel)) (pi_list (pv 3)) (blkOk_by (own := [("e", 9)]) (N := ["script", "state", "names", "es", "k", "codes", "actual", "settings", "own", "e", "cell"]) (sc := defScope sLaw) (by decide +kernel)) (fun _ _ _ _ _ => (pg_name (i := 9) scLaw.nd rfl (Or.inl rfl))) (fun _ _ _ _ _ => pts_nil) (fun _ _ _ _ _ => (pe_callTy (KX.call_tuple_ofK (K := K) rfl) (by rfl) Z.tuple HL.boot_tuple (pa_cons (pe_call GLawCode (hr.mono (by omega)) (by rfl) Z.DLawCode.g Z.DLawCode.F.kp Z.DLawCode.b .nil pass0 (pa_cons (pv 9) (pa_cons (pv 2) pa_nil))) pa_nil))))
        (pss_cons (ps_for PassesOwn.never rfl (pi_range1 (by rfl) Z.range (pa_cons pe_int pa_nil)) (pg_name (i := 4) scLaw.nd rfl (.inl rfl)) (pss_cons (ps_set (i := 6) scLaw.nd rfl (.inl rfl) (pe_call GCodeOf (hr.mono (by omega)) (by rfl) Z.DCodeOf.g Z.DCodeOf.F.kp Z.DCodeOf.b .nil pass0 (pa_cons (pe_ix ix_list (pv 3) (pv 4) (fun _ _ => rfl)) (pa_cons (pe_ix ix_list (pe_lst (pa_cons (pe_callTy call_tuple_of (by rfl) Z.tuple HL.boot_tuple (pa_cons (pv 2) pa_nil)) (pa_cons (pe_callTy call_list_of (by rfl) Z.list HL.boot_list (pa_cons (pv 2) pa_nil)) pa_nil))) (pe_op op_mod (pv 4) pe_int) (fun _ _ => rfl)) pa_nil))))
        (pss_one (ps_if (PW.pt (pw_or (pt_not (pt_val (pe_call GLawSame (hr.mono (by omega)) (by rfl) Z.DLawSame.g Z.DLawSame.F.kp Z.DLawSame.b .nil pass0 (pa_cons (pv 6) (pa_cons (pe_ix ix_list (pv 5) (pv 4) (fun _ _ => rfl)) pa_nil))))) (pw_or1 (pt_not (pt_val (pe_call GLawEndsWithin (hr.mono (by omega)) (by rfl) Z.DLawEndsWithin.g Z.DLawEndsWithin.F.kp Z.DLawEndsWithin.b .nil pass0 (pa_cons (pv 6) pa_nil))))))) (pss_one (ps_ret pe_bl)) pss_nil))))
        (C8.pss_cut (ps_set (i := 7) scLaw.nd rfl (.inl rfl) (pe_slice sl_tupA (pe_tup (pa_cons (pe_tup (pa_cons pe_str (pa_cons (pe_ix ix_list (pv 3) pe_int (fun _ _ => rfl)) pa_nil))) (pa_cons (pe_tup (pa_cons pe_str (pa_cons (pe_ix ix_list (pv 3) pe_int (fun _ _ => rfl)) pa_nil))) pa_nil))) po_none (po_some (pe_call GLawNext (hr.mono (by omega)) (by rfl) Z.DLawNext.g Z.DLawNext.F.kp Z.DLawNext.b .nil pass0 (pa_cons (pv 1) (pa_cons pe_int pa_nil))))))
        (C8.pss_cut (ps_set (i := 8) scLaw.nd rfl (.inl rfl) (pe_op op_catA (pe_callTy call_tuple_of (by rfl) Z.tuple HL.boot_tuple (pa_cons (pe_lc (own := [("cell", 10), ("e", 9)]) (g := (gTup K 2 (gCons (gName 10) (gCons (gName 9) gNil)))) (by rfl) scLaw.nd (HK.pi_tupK (K := K) rfl (pv 7)) (blkOk_by (own := [("cell", 10), ("e", 9)]) (N := ["script", "state", "names", "es", "k", "codes", "actual", "settings", "own", "e", "cell"]) (sc := defScope sLaw) (by decide +kernel)) (fun _ _ _ _ _ => (pg_tup rfl (pgs_cons (pg_name (i := 10) scLaw.nd rfl (.inl rfl)) (pgs_cons (pg_name (i := 9) scLaw.nd rfl (.inl rfl)) pgs_nil)))) (fun _ _ _ _ _ => pts_nil) (fun _ _ _ _ _ => (pe_callTy (KX.call_tuple_ofK (K := K) rfl) (by rfl) Z.tuple HL.boot_tuple (pa_cons (pe_call GLawCode (hr.mono (by omega)) (by rfl) Z.DLawCode.g Z.DLawCode.F.kp Z.DLawCode.b .nil pass0 (pa_cons (pv 9) (pa_cons (pv 2) pa_nil))) pa_nil)))) pa_nil)) (pe_tup (pa_cons (pe_ix ix_list (pv 5) pe_int (fun _ _ => rfl)) pa_nil))))
        (pss_cons (ps_if (pt_not (pt_val (pe_call GLawSame (hr.mono (by omega)) (by rfl) Z.DLawSame.g Z.DLawSame.F.kp Z.DLawSame.b .nil pass0 (pa_cons (pe_call GDefinitionCode (hr.mono (by omega)) (by rfl) Z.DDefinitionCode.g Z.DDefinitionCode.F.kp Z.DDefinitionCode.b .nil pass0 (pa_cons (pe_tup (pa_cons pe_str (pa_cons pe_str (pa_cons (pe_callTy call_tuple_of (by rfl) Z.tuple HL.boot_tuple (pa_cons (pv 2) pa_nil)) (pa_cons (pv 7) (pa_cons (pe_ix ix_list (pv 3) pe_int (fun _ _ => rfl)) pa_nil)))))) pa_nil)) (pa_cons (pv 8) pa_nil))))) (pss_one (ps_ret pe_bl)) pss_nil)
        (pss_cons (ps_if (pt_not (pt_val (pe_call GLawSame (hr.mono (by omega)) (by rfl) Z.DLawSame.g Z.DLawSame.F.kp Z.DLawSame.b .nil pass0 (pa_cons (pe_call GDefinitionCode (hr.mono (by omega)) (by rfl) Z.DDefinitionCode.g Z.DDefinitionCode.F.kp Z.DDefinitionCode.b .nil pass0 (pa_cons (pe_tup (pa_cons pe_str (pa_cons pe_str (pa_cons (pe_callTy call_tuple_of (by rfl) Z.tuple HL.boot_tuple (pa_cons (pv 2) pa_nil)) (pa_cons (pe_ix ix_list (pv 3) pe_int (fun _ _ => rfl)) pa_nil))))) pa_nil)) (pa_cons (pe_tup (pa_cons (pe_ix ix_list (pv 5) pe_int (fun _ _ => rfl)) pa_nil)) pa_nil))))) (pss_one (ps_ret pe_bl)) pss_nil)
        (pss_cons (ps_if (pt_not (pt_val (pe_call GLawSame (hr.mono (by omega)) (by rfl) Z.DLawSame.g Z.DLawSame.F.kp Z.DLawSame.b .nil pass0 (pa_cons (pe_call GDefinitionCode (hr.mono (by omega)) (by rfl) Z.DDefinitionCode.g Z.DDefinitionCode.F.kp Z.DDefinitionCode.b .nil pass0 (pa_cons (pe_tup (pa_cons pe_str (pa_cons pe_str (pa_cons (pe_ix ix_list (pv 3) pe_int (fun _ _ => rfl)) pa_nil)))) pa_nil)) (pa_cons (pe_tup (pa_cons (pe_callTy call_tuple_of (by rfl) Z.tuple HL.boot_tuple (pa_cons (pe_call GLawCode (hr.mono (by omega)) (by rfl) Z.DLawCode.g Z.DLawCode.F.kp Z.DLawCode.b .nil pass0 (pa_cons (pe_ix ix_list (pv 3) pe_int (fun _ _ => rfl)) (pa_cons (pe_lst pa_nil) pa_nil))) pa_nil)) pa_nil)) pa_nil))))) (pss_one (ps_ret pe_bl)) pss_nil)
        (pss_cons (ps_if (pt_cmp (pc_notN (pe_call GDefinitionCode (hr.mono (by omega)) (by rfl) Z.DDefinitionCode.g Z.DDefinitionCode.F.kp Z.DDefinitionCode.b .nil pass0 (pa_cons (pe_tup (pa_cons pe_str (pa_cons pe_str (pa_cons (pe_tup (pa_cons pe_int (pa_cons pe_str pa_nil))) (pa_cons (pe_ix ix_list (pv 3) pe_int (fun _ _ => rfl)) (pa_cons pe_non pa_nil)))))) pa_nil)))) (pss_one (ps_ret pe_bl)) pss_nil)
        (pss_one (ps_ret (pe_cmp (pc_isN (pe_call GDefinitionCode (hr.mono (by omega)) (by rfl) Z.DDefinitionCode.g Z.DDefinitionCode.F.kp Z.DDefinitionCode.b .nil pass0 (pa_cons (pe_tup (pa_cons pe_str (pa_cons pe_str (pa_cons (pe_tup (pa_cons (pe_tup (pa_cons pe_str (pa_cons (pe_tup pa_nil) pa_nil))) pa_nil)) pa_nil)))) pa_nil))) rfl))))))))))))))), ?_⟩
    have hsz : 1000000 ≤ sizeLine := by decide
    refine ⟨_, rfl, a, _, rfl, .inl hS, fun q hq => ⟨by show 5 ≤ sizeLine; decide, fun p hp => ?_⟩⟩
    have gq0 : upd H q (.lst (xs.map V.int)) q = some (.lst (xs.map V.int)) := upd_same
    generalize upd H q (.lst (xs.map V.int)) = H1 at gq0 hp
    have S2 : StAt (upd H1 p (.lst [.ref q, .int 0, .int 0, .int 1, .int 0])) p q xs 0 := ⟨by rw [upd_ne (ne_of_none gq0 hp)]; exact gq0, hl, 0, 0, 1, upd_same, by decide, by decide, by decide, by decide⟩
    show _
    generalize upd H1 p (.lst [.ref q, .int 0, .int 0, .int 1, .int 0]) = H2 at S2
    -- names
    refine ⟨by show 4 ≤ sizeLine; decide, fun NL hNL => ?_⟩
    have S3 := S2.sm (same_upd (o := .lst [.str "x", .str "y", .str "ca", .str "x"]) hNL)
    have g3 : upd H2 NL (.lst [.str "x", .str "y", .str "ca", .str "x"]) NL = some (.lst [.str "x", .str "y", .str "ca", .str "x"]) := upd_same
    have neNL := S2.nn hNL
    generalize upd H2 NL (.lst [.str "x", .str "y", .str "ca", .str "x"]) = H3 at S3 g3
    refine ⟨_, rfl, p, q, xs, _, 5, rfl, S3, by decide, by decide, fun H4 v S4 bb4 v0 v1 => ?_⟩
    have b4 := Bt.of bb4
    obtain ⟨c, rfl⟩ := Int.eq_ofNat_of_zero_le v0
    refine ⟨_, rfl, NL, _, rfl, SqL.of (b4 _ _ g3 neNL), fun nl hnl => ?_⟩
    obtain ⟨ns, ens⟩ : ∃ ns : List Str, ns = (["x", "y", "ca", "x"] : List Str).take c := ⟨_, rfl⟩
    have hnl4 : ns.length ≤ 4 := by rw [ens, List.length_take]; exact Nat.min_le_right _ _
    have S5 := S4.sm (same_upd (o := .lst (cutV [.str "x", .str "y", .str "ca", .str "x"] none (some (c : Int)))) hnl)
    have g5 : upd H4 nl (.lst (cutV [.str "x", .str "y", .str "ca", .str "x"] none (some (c : Int)))) nl = some (.lst (ns.map V.str)) := by rw [upd_same, cut_to, ens, List.map_take] <;> rfl
    have nenl := S4.nn hnl
    generalize upd H4 nl (.lst (cutV [.str "x", .str "y", .str "ca", .str "x"] none (some (c : Int)))) = H5 at S5 g5
    -- es
    refine ⟨Nat.zero_le _, fun ES hES => ?_⟩
    have S6 := S5.sm (same_upd (o := .lst []) hES)
    have g6 : upd H5 ES (.lst []) ES = some (.lst []) := upd_same
    have neES := S5.nn hES
    have nqES : ES ≠ q := fun e => by rw [e, S5.1] at hES; cases hES
    have nlES : nl ≠ ES := ne_of_none g5 hES
    have gn6 := same_upd (o := .lst []) hES _ _ g5
    show _
    generalize upd H5 ES (.lst []) = H6 at S6 g6 gn6
    refine ⟨3, rfl, by decide, by decide, ?_⟩
    refine for_range (lo := 0) (n := 3) (fun i σ H' => ∃ (y4 : Option V) (g : Int) (acc : List V), σ = [some (.ref a), some (.ref p), some (.ref nl), some (.ref ES), y4, none, none, none, none, none, none] ∧ StAt H' p q xs g ∧ (∀ z o, H6 z = some o → z ≠ p → z ≠ ES → H' z = some o) ∧ H' ES = some (.lst acc) ∧ acc.length = i ∧ ∀ x ∈ acc, ∃ e, ExAt H' 7 e x) ⟨none, _, [], rfl, S6, fun z o h _ _ => h, g6, rfl, fun x h => by cases h⟩ ?_ ?_
    · rintro i σ H7 hi ⟨y4, g, acc, rfl, S7, f7, h7, hal, hacc⟩
      refine ⟨by show 3 ≤ sizeLine; decide, fun L hL => ?_⟩
      have s8 : Same H7 (upd H7 L (.lst [.int 40, .int 10, .int 5])) := same_upd hL
      have S8 := S7.sm s8
      have g8 : upd H7 L (.lst [.int 40, .int 10, .int 5]) L = some (.lst [.int 40, .int 10, .int 5]) := upd_same
      generalize upd H7 L (.lst [.int 40, .int 10, .int 5]) = H8 at s8 S8 g8
      obtain ⟨g', hg'⟩ : ∃ g', atI [V.int 40, .int 10, .int 5] (0 + (i : Int)) = some (.int g') := by
        have h3 : i = 0 ∨ i = 1 ∨ i = 2 := by omega
        rcases h3 with rfl | rfl | rfl <;> exact ⟨_, rfl⟩
      obtain ⟨hq8, hl8, i8, c8, z8, hp8, hi8, hc8, hz8, hz82⟩ := id S8
      refine ⟨_, rfl, L, _, _, .int g', rfl, rfl, SqL.of g8, hg', .ref p, rfl, p, _, 4, 4, rfl, rfl, hp8, rfl, ?_⟩
      have b9 : Bt H8 (upd H8 p (.lst ([.ref q, .int i8, .int c8, .int z8, .int g].set 4 (.int g')))) p := Bt.of but_upd
      have S9 : StAt (upd H8 p (.lst ([.ref q, .int i8, .int c8, .int z8, .int g].set 4 (.int g')))) p q xs g' := by
        have ne : q ≠ p := by
          intro e
          rw [e, hp8] at hq8
          cases xs with
          | nil => cases hq8
          | cons x r => cases hq8
        exact ⟨by rw [upd_ne ne]; exact hq8, hl8, i8, c8, z8, upd_same, hi8, hc8, hz8, hz82⟩
      generalize upd H8 p (.lst ([.ref q, .int i8, .int c8, .int z8, .int g].set 4 (.int g'))) = H9 at b9 S9
      have h9 := b9 _ _ (s8 _ _ h7) neES
      refine ⟨_, rfl, .inl ⟨rfl, _, SqL.of h9⟩, _, rfl, by show 6 ≤ sizeLine; decide, fun N hN => ?_⟩
      have s10 : Same H9 (upd H9 N (.lst [.str "x", .str "y", .str "fa", .str "ca", .str "cb", .str "zz"])) := same_upd hN
      have g10 : upd H9 N (.lst [.str "x", .str "y", .str "fa", .str "ca", .str "cb", .str "zz"]) N = some (.lst [.str "x", .str "y", .str "fa", .str "ca", .str "cb", .str "zz"]) := upd_same
      have S10 := S9.sm s10
      have neN := S9.nn hN
      generalize upd H9 N (.lst [.str "x", .str "y", .str "fa", .str "ca", .str "cb", .str "zz"]) = H10 at s10 g10 S10
      have hd : (6 - i : Nat) < 7 := by omega
      refine ⟨_, rfl, _, _, rfl, rfl, ⟨6 - i, hd⟩, p, q, xs, g', N, ["x", "y", "fa", "ca", "cb", "zz"], ?_, S10, g10, neN, by decide, by show 6 + 2 * (6 - i) ≤ 900; omega, fun H11 x e g2 S11 b11 hxe => ?_⟩
      · show [V.ref p, V.ref N, V.int (6 - (0 + (i : Int)))] = [V.ref p, V.ref N, V.int ((6 - i : Nat) : Int)]
        have : (6 : Int) - (0 + (i : Int)) = ((6 - i : Nat) : Int) := by omega
        rw [this]
      have h11 := b11 _ _ (s10 _ _ h9) neES
      have k12 := tk_lst (o := .lst (acc ++ [x])) h11
      have t711 : TupK H7 H11 := (TupK.of s8).tr ((S8.tk b9).tr ((TupK.of s10).tr (S10.tk b11)))
      refine ⟨ES, _, _, rfl, rfl, h11, by omega, _, g2, acc ++ [x], rfl, S11.up2 nqES neES, fun z o hz n1 n2 => ?_, upd_same, by rw [List.length_append, hal]; rfl, fun y hy => ?_⟩
      · rw [upd_ne n2]
        exact b11 _ _ (s10 _ _ (b9 _ _ (s8 _ _ (f7 _ _ hz n1 n2)) n1)) n1
      · rcases List.mem_append.mp hy with hy | hy
        · obtain ⟨e, he⟩ := hacc y hy
          exact ⟨e, he.keep (t711.tr k12)⟩
        · rw [List.mem_singleton.mp hy]
          exact ⟨e, (hxe.up 7 (by show 6 - i + 1 ≤ 7; omega)).keep k12⟩
    · rintro σ H7 ⟨y4, g, acc, rfl, S7, f7, hE, hal, hacc⟩
      obtain ⟨x0, x1, x2, rfl⟩ : ∃ x0 x1 x2, acc = [x0, x1, x2] := by
        match acc, hal with
        | [a, b, c], _ => exact ⟨a, b, c, rfl⟩
      obtain ⟨e0, he0⟩ := hacc x0 (by simp)
      obtain ⟨e1, he1⟩ := hacc x1 (by simp)
      obtain ⟨e2, he2⟩ := hacc x2 (by simp)
      clear hacc hal
      have hn7 := f7 _ _ gn6 nenl nlES
      have hns : ns.length + 2 * 7 ≤ 1000 := by omega
      clear f7 gn6 g6 S6 g5 S5 g3 S3 S4 S2
      have hex : All2 (fun x e => ExAt H7 7 e x) [x0, x1, x2] [e0, e1, e2] := .cons he0 (.cons he1 (.cons he2 .nil))
      -- codes
      refine ⟨_, rfl, ES, rfl, ⟨_, SqL.of hE⟩, fun D hD => ?_⟩
      refine lc_it walk_list (fun i H' => Same H7 H' ∧ ∃ ac, H' D = some (.lst ac) ∧ All2 (CdAt H') ac ((([e0, e1, e2] : List Ex).take i).map fun e => code 7 e ns)) ⟨same_upd hD, [], upd_same, .nil⟩ (fun i H' _ p => SqL.of (p.1 _ _ hE)) ?_ ?_
      · rintro i x Hx Hy hi ⟨sy, ac, hDy, hac⟩ ⟨rfl, hx⟩
        obtain ⟨e, he, hxe⟩ := hex.get hx
        have hxe : ExAt H7 7 e x := hxe
        refine ⟨rfl, lc_yes ⟨_, rfl, _, rfl, x, .ref nl, e, ns, rfl, hxe.keep (TupK.of sy), ⟨_, rfl, sy _ _ hn7⟩, hns, fun l H8 ws s8 _ hl8 hc8 => ?_⟩⟩
        refine ⟨l, ws, rfl, .inl ⟨SqL.of hl8, fun T hT => ?_⟩⟩
        have s9 : Same H8 (upd H8 T (.tup ws)) := same_upd hT
        have g9 : upd H8 T (.tup ws) T = some (.tup ws) := upd_same
        generalize upd H8 T (.tup ws) = H9 at s9 g9
        have hD9 := s9 _ _ (s8 _ _ hDy)
        have k9 := tk_lst (o := .lst (ac ++ [V.ref T])) hD9
        refine ⟨ac, hD9, ?_, fun z o hz => ?_, _, upd_same, ?_⟩
        · have h1 := hac.len
          rw [List.length_map, List.length_take] at h1
          have h3 : i < 3 := hi
          omega
        · rw [upd_ne (ne_of_none hz hD)]
          exact s9 _ _ (s8 _ _ (sy _ _ hz))
        · rw [List.take_add_one, he, List.map_append]
          exact (cdk hac ((TupK.of (Same.tr s8 s9)).tr k9)).app (.one ⟨T, ws, rfl, k9 _ _ g9, hc8.keep ((TupK.of s9).tr k9)⟩)
      · rintro H8 ⟨s8, ac, hD8, hac⟩
        have hac : All2 (CdAt H8) ac [code 7 e0 ns, code 7 e1 ns, code 7 e2 ns] := hac
        have hE8 := s8 _ _ hE
        have hn8 := s8 _ _ hn7
        have S8 := S7.sm s8
        have hex8 : All2 (fun x e => ExAt H8 7 e x) [x0, x1, x2] [e0, e1, e2] := hex.mono fun _ _ h => ExAt.keep (TupK.of s8) h
        have nD : D ≠ p := S7.nn hD
        clear hex he0 he1 he2 hE hn7 S7 hD s8
        refine ⟨3, rfl, by decide, by decide, ?_⟩
        have main : True := trivial
        refine for_range (lo := 0) (n := 3) (fun i σ H' => ∃ (y4 y6 : Option V), σ = [some (.ref a), some (.ref p), some (.ref nl), some (.ref ES), y4, some (.ref D), y6, none, none, none, none] ∧ Same H8 H') ⟨_, none, rfl, fun _ _ h => h⟩ ?_ ?_
        · rintro i σ H9 hi ⟨y4, y6, rfl, s9⟩
          have ij : ∀ {xs : List V} {v : V}, xs[i]? = some v → atI xs (0 + (i : Int)) = some v := fun h => by rw [Int.zero_add]; exact atI_nat h
          obtain ⟨x, hx⟩ : ∃ x, [x0, x1, x2][i]? = some x := ⟨_, List.getElem?_eq_getElem (by exact hi)⟩
          obtain ⟨e, he, hxe⟩ := hex8.get hx
          have hxe : ExAt H8 7 e x := hxe
          have hcn : ([code 7 e0 ns, code 7 e1 ns, code 7 e2 ns])[i]? = some (code 7 e ns) := by
            show (([e0, e1, e2] : List Ex).map fun e => code 7 e ns)[i]? = _
            rw [List.getElem?_map, he]
            rfl
          obtain ⟨y, hy, hyc⟩ := hac.getR hcn
          refine ⟨_, rfl, _, rfl, ES, _, _, x, rfl, rfl, SqL.of (s9 _ _ hE8), ij hx, ?_⟩
          refine ⟨_, rfl, nl, _, rfl, .inl ⟨SqL.of (s9 _ _ hn8), fun T hT => ?_⟩⟩
          have s10 : Same H9 (upd H9 T (.tup (ns.map V.str))) := same_upd hT
          have g10 : upd H9 T (.tup (ns.map V.str)) T = some (.tup (ns.map V.str)) := upd_same
          generalize upd H9 T (.tup (ns.map V.str)) = H10 at s10 g10
          refine ⟨_, rfl, nl, _, rfl, .inl (SqL.of (s10 _ _ (s9 _ _ hn8))), fun L hL => ?_⟩
          have s11 : Same H10 (upd H10 L (.lst (ns.map V.str))) := same_upd hL
          have g11 : upd H10 L (.lst (ns.map V.str)) L = some (.lst (ns.map V.str)) := upd_same
          generalize upd H10 L (.lst (ns.map V.str)) = H11 at s11 g11
          refine ⟨by show 2 ≤ sizeLine; decide, fun B hB => ?_⟩
          have s12 : Same H11 (upd H11 B (.lst [.ref T, .ref L])) := same_upd hB
          have g12 : upd H11 B (.lst [.ref T, .ref L]) B = some (.lst [.ref T, .ref L]) := upd_same
          generalize upd H11 B (.lst [.ref T, .ref L]) = H12 at s12 g12
          have s912 := Same.tr s10 (Same.tr s11 s12)
          obtain ⟨nv, hnv, hNv⟩ : ∃ nv, atI [V.ref T, V.ref L] ((0 + (i : Int)) % 2) = some nv ∧ Names K H12 nv ns := by
            have h3 : i = 0 ∨ i = 1 ∨ i = 2 := by omega
            rcases h3 with rfl | rfl | rfl
            · exact ⟨_, rfl, T, rfl, .inr (SqT.of (s12 _ _ (s11 _ _ g10)))⟩
            · exact ⟨_, rfl, L, rfl, .inl (SqL.of (s12 _ _ g11))⟩
            · exact ⟨_, rfl, T, rfl, .inr (SqT.of (s12 _ _ (s11 _ _ g10)))⟩
          refine ⟨_, rfl, _, _, rfl, rfl, (by show (0 : Int) < 2; decide), B, _, _, nv, rfl, rfl, SqL.of g12, hnv, ?_⟩
          have s812 := Same.tr s9 s912
          refine ⟨x, nv, e, ns, rfl, hxe.keep (TupK.of s812), hNv, hns, fun t H13 ws s13 ht hc => ?_⟩
          have s813 := Same.tr s812 s13
          refine ⟨_, rfl, _, rfl, _, rfl, D, _, _, y, rfl, rfl, SqL.of (s813 _ _ hD8), ij hy, ?_⟩
          refine ⟨.ref t, y, rfl, samD_succ (cd_same (cok ns (by decide) hxe) ⟨t, ws, rfl, ht, hc⟩ (hyc.keep (TupK.of s813))), true, rfl, iteF ?_⟩
          exact ⟨_, rfl, t, ws, _, rfl, ht, hc, code_within ns hxe, (cok ns (by decide) hxe).2, fun H14 s14 => ⟨true, rfl, iteF ⟨_, _, rfl, Same.tr s813 s14⟩⟩⟩
        · rintro σ H9 ⟨y4, y6, rfl, s9⟩
          have hE9 := s9 _ _ hE8
          have hn9 := s9 _ _ hn8
          have hD9 := s9 _ _ hD8
          have hac9 := cdk hac (TupK.of s9)
          have hex9 : All2 (fun x e => ExAt H9 7 e x) [x0, x1, x2] [e0, e1, e2] := hex8.mono fun _ _ h => ExAt.keep (TupK.of s9) h
          have S9 := S8.sm s9
          clear s9 hex8 hac hD8 hn8 hE8 S8
          cases hex9 with | cons he0 hex9 =>
          cases hex9 with | cons he1 hex9 =>
          cases hex9 with | cons he2 hex9 =>
          clear hex9
          have he0 : ExAt H9 7 e0 x0 := he0
          have he1 : ExAt H9 7 e1 x1 := he1
          have he2 : ExAt H9 7 e2 x2 := he2
          -- settings
          refine ⟨fun σ H' => ∃ (R : Addr) (ss : List V) (sets : List Ex) (k : Nat), σ = [some (.ref a), some (.ref p), some (.ref nl), some (.ref ES), y4, some (.ref D), y6, some (.ref R), none, none, none] ∧ Bt H9 H' p ∧ H' R = some (.tup ss) ∧ ss.length ≤ 2 ∧ All2 (fun y e => ∃ c z u, y = .ref c ∧ H' c = some (.tup [z, u]) ∧ ExAt H' 7 e u) ss sets, ?_, ?_⟩
          · refine ⟨_, rfl, ES, _, 1, _, rfl, rfl, SqL.of hE9, rfl, by show 2 ≤ sizeLine; decide, fun T1 hT1 => ?_⟩
            have s10 : Same H9 (upd H9 T1 (.tup [.str "c", x1])) := same_upd hT1
            have g10 : upd H9 T1 (.tup [.str "c", x1]) T1 = some (.tup [.str "c", x1]) := upd_same
            generalize upd H9 T1 (.tup [.str "c", x1]) = H10 at s10 g10
            refine ⟨_, rfl, ES, _, 2, _, rfl, rfl, SqL.of (s10 _ _ hE9), rfl, by show 2 ≤ sizeLine; decide, fun T2 hT2 => ?_⟩
            have s11 : Same H10 (upd H10 T2 (.tup [.str "d", x2])) := same_upd hT2
            have g11 : upd H10 T2 (.tup [.str "d", x2]) T2 = some (.tup [.str "d", x2]) := upd_same
            generalize upd H10 T2 (.tup [.str "d", x2]) = H11 at s11 g11
            refine ⟨by show 2 ≤ sizeLine; decide, fun T3 hT3 => ?_⟩
            have s12 : Same H11 (upd H11 T3 (.tup [.ref T1, .ref T2])) := same_upd hT3
            have g12 : upd H11 T3 (.tup [.ref T1, .ref T2]) T3 = some (.tup [.ref T1, .ref T2]) := upd_same
            generalize upd H11 T3 (.tup [.ref T1, .ref T2]) = H12 at s12 g12
            have s912 := Same.tr s10 (Same.tr s11 s12)
            have S12 := S9.sm s912
            refine ⟨_, rfl, p, q, xs, _, 3, rfl, S12, by decide, by decide, fun H13 v S13 bb13 v0 v1 => ?_⟩
            have b13 := Bt.of bb13
            have k13 := S12.tk b13
            obtain ⟨c, rfl⟩ := Int.eq_ofNat_of_zero_le v0
            have hset : All2 (fun y e => ∃ c z u, y = .ref c ∧ H13 c = some (.tup [z, u]) ∧ ExAt H13 7 e u) [V.ref T1, V.ref T2] [e1, e2] := .cons ⟨T1, _, x1, rfl, k13 _ _ (s12 _ _ (s11 _ _ g10)), he1.keep ((TupK.of s912).tr k13)⟩ (.cons ⟨T2, _, x2, rfl, k13 _ _ (s12 _ _ g11), he2.keep ((TupK.of s912).tr k13)⟩ .nil)
            refine ⟨_, rfl, T3, _, rfl, SqT.of (k13 _ _ g12), fun _ => ?_, fun _ R hR => ?_⟩
            · exact ⟨T3, _, [e1, e2], 0, rfl, Bt.tr (Bt.same s912) b13, k13 _ _ g12, by show 2 ≤ 2; decide, hset⟩
            · have k14 := TupK.of (same_upd (o := .tup (cutV [V.ref T1, V.ref T2] none (some (c : Int)))) hR)
              refine ⟨R, ([V.ref T1, .ref T2].take c), ([e1, e2] : List Ex).take c, 0, rfl, Bt.tr (Bt.tr (Bt.same s912) b13) (Bt.same (same_upd hR)), by rw [upd_same, cut_to], by rw [List.length_take]; exact Nat.min_le_right _ _, (hset.take c).mono fun y e ⟨c, z, u, h1, h2, h3⟩ => ⟨c, z, u, h1, k14 _ _ h2, h3.keep k14⟩⟩
          · rintro σ H10 ⟨R, ss, sets, kk, rfl, b10, hR, hss, hsets⟩
            have hE10 := b10 _ _ hE9 neES
            have hn10 := b10 _ _ hn9 nenl
            have hD10 := b10 _ _ hD9 nD
            have k10 := S9.tk b10
            have hac10 := cdk hac9 k10
            have w0 := he0.keep k10
            have w1 := he1.keep k10
            have w2 := he2.keep k10
            clear he0 he1 he2 hac9 hD9 hn9 hE9 S9 k10 b10
            have hsl : sets.length ≤ 2 := by rw [← hsets.len]; exact hss
            have hok : ∀ c ∈ (sets ++ [e0]).map fun e => code 7 e ns, COk c := fun c hc => by
              obtain ⟨e, he, rfl⟩ := List.mem_map.mp hc
              rcases List.mem_append.mp he with he | he
              · obtain ⟨y, _, c, z, u, _, _, h⟩ := memR hsets he
                exact cok ns (by decide) h
              · rw [List.mem_singleton.mp he]
                exact cok ns (by decide) w0
            -- own
            refine ⟨fun σ H' => ∃ (O : Addr) (us : List V), σ = [some (.ref a), some (.ref p), some (.ref nl), some (.ref ES), y4, some (.ref D), y6, some (.ref R), some (.ref O), none, none] ∧ Same H10 H' ∧ H' O = some (.tup us) ∧ All2 (CdAt H') us ((sets ++ [e0]).map fun e => code 7 e ns), ?_, ?_⟩
            · refine ⟨_, rfl, R, rfl, ⟨_, SqT.of hR⟩, fun B hB => ?_⟩
              refine lc_it walk_tup (fun i H' => Same H10 H' ∧ ∃ ac, H' B = some (.lst ac) ∧ All2 (CdAt H') ac ((sets.take i).map fun e => code 7 e ns)) ⟨same_upd hB, [], upd_same, .nil⟩ (fun i H' _ p => SqT.of (p.1 _ _ hR)) ?_ ?_
              · rintro i x Hx Hy hi ⟨sy, ac, hBy, hacy⟩ ⟨rfl, hx⟩
                obtain ⟨e, he, cc, z, u, rfl, hcc, hu⟩ := hsets.get hx
                refine ⟨cc, _, rfl, SqT.of (sy _ _ hcc), rfl, _, _, rfl, _, _, rfl, rfl, rfl, lc_yes ⟨_, rfl, _, rfl, u, .ref nl, e, ns, rfl, hu.keep (TupK.of sy), ⟨_, rfl, sy _ _ hn10⟩, hns, fun l H11 ws s11 _ hl11 hc11 => ?_⟩⟩
                refine ⟨l, ws, rfl, .inl ⟨SqL.of hl11, fun T hT => ?_⟩⟩
                have s12 : Same H11 (upd H11 T (.tup ws)) := same_upd hT
                have g12 : upd H11 T (.tup ws) T = some (.tup ws) := upd_same
                generalize upd H11 T (.tup ws) = H12 at s12 g12
                have hB12 := s12 _ _ (s11 _ _ hBy)
                have k12 := tk_lst (o := .lst (ac ++ [V.ref T])) hB12
                refine ⟨ac, hB12, ?_, fun z o hz => ?_, _, upd_same, ?_⟩
                · have h1 := hacy.len
                  rw [List.length_map, List.length_take] at h1
                  omega
                · rw [upd_ne (ne_of_none hz hB)]
                  exact s12 _ _ (s11 _ _ (sy _ _ hz))
                · rw [List.take_add_one, he, List.map_append]
                  exact (cdk hacy ((TupK.of (Same.tr s11 s12)).tr k12)).app (.one ⟨T, ws, rfl, k12 _ _ g12, hc11.keep ((TupK.of s12).tr k12)⟩)
              · rintro H11 ⟨s11, ac, hB11, hac11⟩
                rw [hsets.len, List.take_length] at hac11
                have hacl := hac11.len
                rw [List.length_map] at hacl
                refine ⟨B, ac, rfl, .inl ⟨SqL.of hB11, fun T hT => ?_⟩⟩
                have s12 : Same H11 (upd H11 T (.tup ac)) := same_upd hT
                have g12 : upd H11 T (.tup ac) T = some (.tup ac) := upd_same
                generalize upd H11 T (.tup ac) = H12 at s12 g12
                have s112 := Same.tr s11 s12
                cases hac10 with | cons hc0 hacr =>
                obtain ⟨t0, ws0, rfl, ht0, hcc0⟩ := hc0
                refine ⟨_, rfl, D, _, 0, .ref t0, rfl, rfl, SqL.of (s112 _ _ hD10), atI_nat (j := 0) rfl, by show 1 ≤ sizeLine; decide, fun T1 hT1 => ?_⟩
                have s13 : Same H12 (upd H12 T1 (.tup [.ref t0])) := same_upd hT1
                have g13 : upd H12 T1 (.tup [.ref t0]) T1 = some (.tup [.ref t0]) := upd_same
                generalize upd H12 T1 (.tup [.ref t0]) = H13 at s13 g13
                have s113 := Same.tr s112 s13
                have hall : All2 (CdAt H13) (ac ++ [V.ref t0]) ((sets ++ [e0]).map fun e => code 7 e ns) := by
                  rw [List.map_append]
                  exact (cdk hac11 (TupK.of (Same.tr s12 s13))).app (.one ⟨t0, ws0, rfl, s113 _ _ ht0, hcc0.keep (TupK.of s113)⟩)
                refine ⟨T, T1, _, _, rfl, rfl, SqT.of (s13 _ _ g12), SqT.of g13, by simp only [List.length_cons, List.length_nil]; omega, fun e => ?_, (fun _ e => (by cases e)), fun _ _ O hO => ?_⟩
                · subst e
                  exact ⟨T1, _, rfl, s113, g13, hall⟩
                · have s14 := same_upd (o := .tup (ac ++ [V.ref t0])) hO
                  exact ⟨O, _, rfl, Same.tr s113 s14, upd_same, cdk hall (TupK.of s14)⟩
            · rintro σ H11 ⟨O, us, rfl, s11, hO, hus⟩
              have hE11 := s11 _ _ hE10
              have hn11 := s11 _ _ hn10
              have hD11 := s11 _ _ hD10
              have k11 := TupK.of s11
              have hR11 := s11 _ _ hR
              have hac11 := cdk hac10 k11
              have hsets11 : All2 (SetAt H11 7) ss sets := hsets.mono fun y e ⟨c, z, u, h1, h2, h3⟩ => ⟨c, z, u, h1, k11 _ _ h2, h3.keep k11⟩
              have w0' := w0.keep k11
              have w1' := w1.keep k11
              have w2' := w2.keep k11
              clear w0 w1 w2 hsets hac10 hR hE10 hn10 hD10 k11 s11
              have hns7 : ns.length + 2 * 7 ≤ 1000 := hns
              cases hac11 with | cons hc0 hacr =>
              obtain ⟨t0, ws0, rfl, ht0, hcc0⟩ := hc0
              clear hacr
              -- an act
              refine ⟨_, rfl, nl, _, rfl, .inl ⟨SqL.of hn11, fun T hT => ?_⟩⟩
              have s12 : Same H11 (upd H11 T (.tup (ns.map V.str))) := same_upd hT
              have gT : upd H11 T (.tup (ns.map V.str)) T = some (.tup (ns.map V.str)) := upd_same
              generalize upd H11 T (.tup (ns.map V.str)) = H12 at s12 gT
              refine ⟨_, rfl, _, rfl, ES, _, 0, _, rfl, rfl, SqL.of (s12 _ _ hE11), rfl, by show 5 ≤ sizeLine; decide, fun U hU => ?_⟩
              have s13 : Same H12 (upd H12 U (.tup [.str "act", .str "a", .ref T, .ref R, x0])) := same_upd hU
              have gU : upd H12 U (.tup [.str "act", .str "a", .ref T, .ref R, x0]) U = some (.tup [.str "act", .str "a", .ref T, .ref R, x0]) := upd_same
              generalize upd H12 U (.tup [.str "act", .str "a", .ref T, .ref R, x0]) = H13 at s13 gU
              have s1113 := Same.tr s12 s13
              have k13 := TupK.of s1113
              refine ⟨_, rfl, .inl ⟨.act ns sets e0, ⟨U, _, T, R, ss, x0, rfl, gU, s13 _ _ gT, k13 _ _ hR11, hss, hsets11.mono fun y e ⟨c, z, u, h1, h2, h3⟩ => ⟨c, z, u, h1, k13 _ _ h2, h3.keep k13⟩, w0'.keep k13⟩, hns7, fun t H14 us4 s14 ht hcs => ?_⟩⟩
              have s1114 := Same.tr s1113 s14
              refine ⟨_, rfl, .ref t, .ref O, rfl, cds_same hok (by rw [List.length_map, List.length_append]; show sets.length + 1 ≤ _; omega) ht (s1114 _ _ hO) hcs (cdk hus (TupK.of s1114)), true, rfl, iteF ?_⟩
              clear hcs ht s14 gU gT s1113 k13 s12 s13 hus hO hsets11 hR11
              -- a function
              have hn14 := s1114 _ _ hn11
              have hE14 := s1114 _ _ hE11
              have hD14 := s1114 _ _ hD11
              have k14 := TupK.of s1114
              have ht14 := s1114 _ _ ht0
              have hc14 := hcc0.keep k14
              have v0' := w0'.keep k14
              have v1' := w1'.keep k14
              have v2' := w2'.keep k14
              clear w0' w1' w2' ht0 hcc0 hn11 hE11 hD11 k14 s1114
              refine ⟨_, rfl, nl, _, rfl, .inl ⟨SqL.of hn14, fun T2 hT2 => ?_⟩⟩
              have s15 : Same H14 (upd H14 T2 (.tup (ns.map V.str))) := same_upd hT2
              have gT2 : upd H14 T2 (.tup (ns.map V.str)) T2 = some (.tup (ns.map V.str)) := upd_same
              generalize upd H14 T2 (.tup (ns.map V.str)) = H15 at s15 gT2
              refine ⟨_, rfl, ES, _, 0, _, rfl, rfl, SqL.of (s15 _ _ hE14), rfl, by show 4 ≤ sizeLine; decide, fun U2 hU2 => ?_⟩
              have s16 : Same H15 (upd H15 U2 (.tup [.str "fun", .str "f", .ref T2, x0])) := same_upd hU2
              have gU2 : upd H15 U2 (.tup [.str "fun", .str "f", .ref T2, x0]) U2 = some (.tup [.str "fun", .str "f", .ref T2, x0]) := upd_same
              generalize upd H15 U2 (.tup [.str "fun", .str "f", .ref T2, x0]) = H16 at s16 gU2
              have s46 := Same.tr s15 s16
              refine ⟨_, rfl, .inl ⟨.fn ns e0, ⟨U2, _, T2, x0, rfl, gU2, s16 _ _ gT2, v0'.keep (TupK.of s46)⟩, hns7, fun t H17 us7 s17 ht hcs => ?_⟩⟩
              have s47 := Same.tr s46 s17
              refine ⟨_, rfl, D, _, 0, .ref t0, rfl, rfl, SqL.of (s47 _ _ hD14), atI_nat (j := 0) rfl, by show 1 ≤ sizeLine; decide, fun W2 hW2 => ?_⟩
              have s18 : Same H17 (upd H17 W2 (.tup [.ref t0])) := same_upd hW2
              have gW2 : upd H17 W2 (.tup [.ref t0]) W2 = some (.tup [.ref t0]) := upd_same
              generalize upd H17 W2 (.tup [.ref t0]) = H18 at s18 gW2
              have s48 := Same.tr s47 s18
              refine ⟨.ref t, .ref W2, rfl, cds_same (cs := [code 7 e0 ns]) (fun c hc => by rw [List.mem_singleton.mp hc]; exact cok ns (by decide) v0') (by show 1 ≤ 1000000; decide) (s18 _ _ ht) gW2 (cdk hcs (TupK.of s18)) (.one ⟨t0, ws0, rfl, s48 _ _ ht14, hc14.keep (TupK.of s48)⟩), true, rfl, iteF ?_⟩
              clear hcs ht s17 gU2 gT2 s15 s16 gW2
              -- a view
              have hE18 := s48 _ _ hE14
              have y1' := v1'.keep (TupK.of s48)
              have y2' := v2'.keep (TupK.of s48)
              clear v0' v1' v2' hD14 hn14 hE14 hc14 ht14 s46 s47 s48 s18
              refine ⟨_, rfl, ES, _, 1, _, rfl, rfl, SqL.of hE18, rfl, by show 3 ≤ sizeLine; decide, fun U3 hU3 => ?_⟩
              have s19 : Same H18 (upd H18 U3 (.tup [.str "view", .str "v", x1])) := same_upd hU3
              have gU3 : upd H18 U3 (.tup [.str "view", .str "v", x1]) U3 = some (.tup [.str "view", .str "v", x1]) := upd_same
              generalize upd H18 U3 (.tup [.str "view", .str "v", x1]) = H19 at s19 gU3
              refine ⟨_, rfl, .inl ⟨.view e1, ⟨U3, _, x1, rfl, gU3, y1'.keep (TupK.of s19)⟩, (by show 0 + 2 * 7 ≤ 1000; decide), fun t H20 us20 s20 ht hcs => ?_⟩⟩
              have s80 := Same.tr s19 s20
              refine ⟨_, rfl, ES, _, 1, _, rfl, rfl, SqL.of (s80 _ _ hE18), rfl, Nat.zero_le _, fun NL2 hNL2 => ?_⟩
              have s21 : Same H20 (upd H20 NL2 (.lst [])) := same_upd hNL2
              have gNL2 : upd H20 NL2 (.lst []) NL2 = some (.lst []) := upd_same
              generalize upd H20 NL2 (.lst []) = H21 at s21 gNL2
              refine ⟨x1, .ref NL2, e1, [], rfl, y1'.keep (TupK.of (Same.tr s80 s21)), ⟨_, rfl, gNL2⟩, by decide, fun l H22 ws22 s22 _ hl22 hc22 => ?_⟩
              refine ⟨l, ws22, rfl, .inl ⟨SqL.of hl22, fun T3 hT3 => ?_⟩⟩
              have s23 : Same H22 (upd H22 T3 (.tup ws22)) := same_upd hT3
              have gT3 : upd H22 T3 (.tup ws22) T3 = some (.tup ws22) := upd_same
              generalize upd H22 T3 (.tup ws22) = H23 at s23 gT3
              refine ⟨by show 1 ≤ sizeLine; decide, fun W3 hW3 => ?_⟩
              have s24 : Same H23 (upd H23 W3 (.tup [.ref T3])) := same_upd hW3
              have gW3 : upd H23 W3 (.tup [.ref T3]) W3 = some (.tup [.ref T3]) := upd_same
              generalize upd H23 W3 (.tup [.ref T3]) = H24 at s24 gW3
              have s204 := Same.tr s21 (Same.tr s22 (Same.tr s23 s24))
              refine ⟨.ref t, .ref W3, rfl, cds_same (cs := [code 7 e1 []]) (fun c hc => by rw [List.mem_singleton.mp hc]; exact cok [] (by decide) y1') (by show 1 ≤ 1000000; decide) (s204 _ _ ht) gW3 (cdk hcs (TupK.of s204)) (.one ⟨T3, ws22, rfl, s24 _ _ gT3, hc22.keep (TupK.of (Same.tr s23 s24))⟩), true, rfl, iteF ?_⟩
              -- a cell
              have hE24 := s204 _ _ (s80 _ _ hE18)
              clear hcs ht
              refine ⟨by show 2 ≤ sizeLine; decide, fun T4 hT4 => ?_⟩
              have s25 : Same H24 (upd H24 T4 (.tup [.int 0, .str "num"])) := same_upd hT4
              have gT4 : upd H24 T4 (.tup [.int 0, .str "num"]) T4 = some (.tup [.int 0, .str "num"]) := upd_same
              generalize upd H24 T4 (.tup [.int 0, .str "num"]) = H25 at s25 gT4
              refine ⟨_, rfl, ES, _, 2, _, rfl, rfl, SqL.of (s25 _ _ hE24), rfl, by show 5 ≤ sizeLine; decide, fun U4 hU4 => ?_⟩
              have s26 : Same H25 (upd H25 U4 (.tup [.str "cell", .str "c", .ref T4, x2, .non])) := same_upd hU4
              have gU4 : upd H25 U4 (.tup [.str "cell", .str "c", .ref T4, x2, .non]) U4 = some (.tup [.str "cell", .str "c", .ref T4, x2, .non]) := upd_same
              generalize upd H25 U4 (.tup [.str "cell", .str "c", .ref T4, x2, .non]) = H26 at s26 gU4
              refine ⟨_, rfl, .inr ⟨U4, _, _, rfl, gU4, .inl rfl, fun H27 s27 => ?_⟩⟩
              refine ⟨_, rfl, iteF ?_⟩
              -- data
              refine ⟨Nat.zero_le _, fun T5 hT5 => ?_⟩
              have s28 : Same H27 (upd H27 T5 (.tup [])) := same_upd hT5
              have gT5 : upd H27 T5 (.tup []) T5 = some (.tup []) := upd_same
              generalize upd H27 T5 (.tup []) = H28 at s28 gT5
              refine ⟨by show 2 ≤ sizeLine; decide, fun T6 hT6 => ?_⟩
              have s29 : Same H28 (upd H28 T6 (.tup [.str "M", .ref T5])) := same_upd hT6
              have gT6 : upd H28 T6 (.tup [.str "M", .ref T5]) T6 = some (.tup [.str "M", .ref T5]) := upd_same
              generalize upd H28 T6 (.tup [.str "M", .ref T5]) = H29 at s29 gT6
              refine ⟨by show 1 ≤ sizeLine; decide, fun T7 hT7 => ?_⟩
              have s30 : Same H29 (upd H29 T7 (.tup [.ref T6])) := same_upd hT7
              have gT7 : upd H29 T7 (.tup [.ref T6]) T7 = some (.tup [.ref T6]) := upd_same
              generalize upd H29 T7 (.tup [.ref T6]) = H30 at s30 gT7
              refine ⟨by show 3 ≤ sizeLine; decide, fun U5 hU5 => ?_⟩
              have s31 : Same H30 (upd H30 U5 (.tup [.str "data", .str "d", .ref T7])) := same_upd hU5
              have gU5 : upd H30 U5 (.tup [.str "data", .str "d", .ref T7]) U5 = some (.tup [.str "data", .str "d", .ref T7]) := upd_same
              generalize upd H30 U5 (.tup [.str "data", .str "d", .ref T7]) = H31 at s31 gU5
              refine ⟨_, rfl, .inr ⟨U5, _, _, rfl, gU5, .inr rfl, fun H32 s32 => ?_⟩⟩
              exact qq _
end
end Q33
namespace Q33
open PySem PySem.Spec PyProof.Rows L2 SX HL
theorem all_mk {l : PySem.W.OpenLaw} {w : World} {K : PySem.W.Frag} {h : Heap} {mg : Str → Option Value} {fa f1 f2 f3 f4 f5 f6 f7 f8 f9 f10 f11 f12 f13 f14 f15 f16 : Addr} (X : K.In h) (G : h.Ns mainGlobals mg) (hfa : mg "law" = some (.ref fa))
    {od1 an1 od2 an2 od3 an3 od4 an4 od5 an5 od6 an6 od7 an7 od8 an8 od9 an9 od10 an10 od11 an11 od12 an12 od13 an13 od14 an14 od15 an15 od16 an16 : Option Addr} {sl1 sl2 sl3 sl4 sl5 sl6 sl7 sl8 sl9 sl10 sl11 sl12 sl13 sl14 sl15 sl16 : Array (Option Value)} {oc1 kV1 dc1 pm1 cd1 ct1 oc2 kV2 dc2 pm2 cd2 ct2 oc3 kV3 dc3 pm3 cd3 ct3 oc4 kV4 dc4 pm4 cd4 ct4 oc5 kV5 dc5 pm5 cd5 ct5 oc6 kV6 dc6 pm6 cd6 ct6 oc7 kV7 dc7 pm7 cd7 ct7 oc8 kV8 dc8 pm8 cd8 ct8 oc9 kV9 dc9 pm9 cd9 ct9 oc10 kV10 dc10 pm10 cd10 ct10 oc11 kV11 dc11 pm11 cd11 ct11 oc12 kV12 dc12 pm12 cd12 ct12 oc13 kV13 dc13 pm13 cd13 ct13 oc14 kV14 dc14 pm14 cd14 ct14 oc15 kV15 dc15 pm15 cd15 ct15 oc16 kV16 dc16 pm16 cd16 ct16 : Value}
    {aD : Addr}
    (a1 : PySem.W.nsIn K mainGlobals "expressions" = some (some (.ref f1)))
    (l1 : K.lookup f1 = some ⟨oc1, od1, .func (PySem.W.fnOf "expressions" "expressions" (defArgs sExpressions) (defBody sExpressions) (defScope sExpressions) .none kV1 dc1 pm1 an1 cd1 ct1), sl1⟩)
    (c1 : PySem.W.codeIn K cd1 "expressions" = true)
    (k1 : PySem.W.keepIn K (.ref f1) = true)
    (a2 : PySem.W.nsIn K mainGlobals "parameters" = some (some (.ref f2)))
    (l2 : K.lookup f2 = some ⟨oc2, od2, .func (PySem.W.fnOf "parameters" "parameters" (defArgs sParameters) (defBody sParameters) (defScope sParameters) .none kV2 dc2 pm2 an2 cd2 ct2), sl2⟩)
    (c2 : PySem.W.codeIn K cd2 "parameters" = true)
    (k2 : PySem.W.keepIn K (.ref f2) = true)
    (a3 : PySem.W.nsIn K mainGlobals "definition_code" = some (some (.ref f3)))
    (l3 : K.lookup f3 = some ⟨oc3, od3, .func (PySem.W.fnOf "definition_code" "definition_code" (defArgs sDefinitionCode) (defBody sDefinitionCode) (defScope sDefinitionCode) .none kV3 dc3 pm3 an3 cd3 ct3), sl3⟩)
    (c3 : PySem.W.codeIn K cd3 "definition_code" = true)
    (k3 : PySem.W.keepIn K (.ref f3) = true)
    (a4 : PySem.W.nsIn K mainGlobals "code_of" = some (some (.ref f4)))
    (l4 : K.lookup f4 = some ⟨oc4, od4, .func (PySem.W.fnOf "code_of" "code_of" (defArgs sCodeOf) (defBody sCodeOf) (defScope sCodeOf) .none kV4 dc4 pm4 an4 cd4 ct4), sl4⟩)
    (c4 : PySem.W.codeIn K cd4 "code_of" = true)
    (k4 : PySem.W.keepIn K (.ref f4) = true)
    (a5 : PySem.W.nsIn K mainGlobals "code_of_choice" = some (some (.ref f5)))
    (l5 : K.lookup f5 = some ⟨oc5, od5, .func (PySem.W.fnOf "code_of_choice" "code_of_choice" (defArgs sCodeOfChoice) (defBody sCodeOfChoice) (defScope sCodeOfChoice) .none kV5 dc5 pm5 an5 cd5 ct5), sl5⟩)
    (c5 : PySem.W.codeIn K cd5 "code_of_choice" = true)
    (k5 : PySem.W.keepIn K (.ref f5) = true)
    (a6 : PySem.W.nsIn K mainGlobals "code_of_all" = some (some (.ref f6)))
    (l6 : K.lookup f6 = some ⟨oc6, od6, .func (PySem.W.fnOf "code_of_all" "code_of_all" (defArgs sCodeOfAll) (defBody sCodeOfAll) (defScope sCodeOfAll) .none kV6 dc6 pm6 an6 cd6 ct6), sl6⟩)
    (c6 : PySem.W.codeIn K cd6 "code_of_all" = true)
    (k6 : PySem.W.keepIn K (.ref f6) = true)
    (a7 : PySem.W.nsIn K mainGlobals "code_of_name" = some (some (.ref f7)))
    (l7 : K.lookup f7 = some ⟨oc7, od7, .func (PySem.W.fnOf "code_of_name" "code_of_name" (defArgs sCodeOfName) (defBody sCodeOfName) (defScope sCodeOfName) .none kV7 dc7 pm7 an7 cd7 ct7), sl7⟩)
    (c7 : PySem.W.codeIn K cd7 "code_of_name" = true)
    (k7 : PySem.W.keepIn K (.ref f7) = true)
    (a8 : PySem.W.nsIn K mainGlobals "code_of_binary" = some (some (.ref f8)))
    (l8 : K.lookup f8 = some ⟨oc8, od8, .func (PySem.W.fnOf "code_of_binary" "code_of_binary" (defArgs sCodeOfBinary) (defBody sCodeOfBinary) (defScope sCodeOfBinary) .none kV8 dc8 pm8 an8 cd8 ct8), sl8⟩)
    (c8 : PySem.W.codeIn K cd8 "code_of_binary" = true)
    (k8 : PySem.W.keepIn K (.ref f8) = true)
    (a9 : PySem.W.nsIn K mainGlobals "code_of_arms" = some (some (.ref f9)))
    (l9 : K.lookup f9 = some ⟨oc9, od9, .func (PySem.W.fnOf "code_of_arms" "code_of_arms" (defArgs sCodeOfArms) (defBody sCodeOfArms) (defScope sCodeOfArms) .none kV9 dc9 pm9 an9 cd9 ct9), sl9⟩)
    (c9 : PySem.W.codeIn K cd9 "code_of_arms" = true)
    (k9 : PySem.W.keepIn K (.ref f9) = true)
    (a10 : PySem.W.nsIn K mainGlobals "_law_next" = some (some (.ref f10)))
    (l10 : K.lookup f10 = some ⟨oc10, od10, .func (PySem.W.fnOf "_law_next" "_law_next" (defArgs sLawNext) (defBody sLawNext) (defScope sLawNext) .none kV10 dc10 pm10 an10 cd10 ct10), sl10⟩)
    (c10 : PySem.W.codeIn K cd10 "_law_next" = true)
    (k10 : PySem.W.keepIn K (.ref f10) = true)
    (a11 : PySem.W.nsIn K mainGlobals "_law_same" = some (some (.ref f11)))
    (l11 : K.lookup f11 = some ⟨oc11, od11, .func (PySem.W.fnOf "_law_same" "_law_same" (defArgs sLawSame) (defBody sLawSame) (defScope sLawSame) .none kV11 dc11 pm11 an11 cd11 ct11), sl11⟩)
    (c11 : PySem.W.codeIn K cd11 "_law_same" = true)
    (k11 : PySem.W.keepIn K (.ref f11) = true)
    (a12 : PySem.W.nsIn K mainGlobals "_law_wild" = some (some (.ref f12)))
    (l12 : K.lookup f12 = some ⟨oc12, od12, .func (PySem.W.fnOf "_law_wild" "_law_wild" (defArgs sLawWild) (defBody sLawWild) (defScope sLawWild) .none kV12 dc12 pm12 an12 cd12 ct12), sl12⟩)
    (c12 : PySem.W.codeIn K cd12 "_law_wild" = true)
    (k12 : PySem.W.keepIn K (.ref f12) = true)
    (a13 : PySem.W.nsIn K mainGlobals "_law_code" = some (some (.ref f13)))
    (l13 : K.lookup f13 = some ⟨oc13, od13, .func (PySem.W.fnOf "_law_code" "_law_code" (defArgs sLawCode) (defBody sLawCode) (defScope sLawCode) .none kV13 dc13 pm13 an13 cd13 ct13), sl13⟩)
    (c13 : PySem.W.codeIn K cd13 "_law_code" = true)
    (k13 : PySem.W.keepIn K (.ref f13) = true)
    (a14 : PySem.W.nsIn K mainGlobals "_law_match_code" = some (some (.ref f14)))
    (l14 : K.lookup f14 = some ⟨oc14, od14, .func (PySem.W.fnOf "_law_match_code" "_law_match_code" (defArgs sLawMatchCode) (defBody sLawMatchCode) (defScope sLawMatchCode) .none kV14 dc14 pm14 an14 cd14 ct14), sl14⟩)
    (c14 : PySem.W.codeIn K cd14 "_law_match_code" = true)
    (k14 : PySem.W.keepIn K (.ref f14) = true)
    (a15 : PySem.W.nsIn K mainGlobals "_law_ends_within" = some (some (.ref f15)))
    (l15 : K.lookup f15 = some ⟨oc15, od15, .func (PySem.W.fnOf "_law_ends_within" "_law_ends_within" (defArgs sLawEndsWithin) (defBody sLawEndsWithin) (defScope sLawEndsWithin) .none kV15 dc15 pm15 an15 cd15 ct15), sl15⟩)
    (c15 : PySem.W.codeIn K cd15 "_law_ends_within" = true)
    (k15 : PySem.W.keepIn K (.ref f15) = true)
    (a16 : PySem.W.nsIn K mainGlobals "law" = some (some (.ref f16)))
    (l16 : K.lookup f16 = some ⟨oc16, od16, .func (PySem.W.fnOf "law" "law" (defArgs sLaw) (defBody sLaw) (defScope sLaw) .none kV16 dc16 pm16 an16 cd16 ct16), sl16⟩)
    (c16 : PySem.W.codeIn K cd16 "law" = true)
    (k16 : PySem.W.keepIn K (.ref f16) = true)
    (z_bool : PySem.W.nsIn K mainGlobals "bool" = some none)
    (z_enumerate : PySem.W.nsIn K mainGlobals "enumerate" = some none)
    (z_int : PySem.W.nsIn K mainGlobals "int" = some none)
    (z_isinstance : PySem.W.nsIn K mainGlobals "isinstance" = some none)
    (z_len : PySem.W.nsIn K mainGlobals "len" = some none)
    (z_list : PySem.W.nsIn K mainGlobals "list" = some none)
    (z_max : PySem.W.nsIn K mainGlobals "max" = some none)
    (z_min : PySem.W.nsIn K mainGlobals "min" = some none)
    (z_range : PySem.W.nsIn K mainGlobals "range" = some none)
    (z_reversed : PySem.W.nsIn K mainGlobals "reversed" = some none)
    (z_str : PySem.W.nsIn K mainGlobals "str" = some none)
    (z_sum : PySem.W.nsIn K mainGlobals "sum" = some none)
    (z_tuple : PySem.W.nsIn K mainGlobals "tuple" = some none)
    (z_zip : PySem.W.nsIn K mainGlobals "zip" = some none)
    (p_gD : PySem.W.nsIn K mainGlobals "DECIDING" = some (some (.ref aD)))
    (p_dic : He.dicW K aD = some (He.keysIn w.params ["and", "or"]))
    (p_dAnd : PySem.W.nsIn K aD "and" = some (some (.bool false)))
    (p_dOr : PySem.W.nsIn K aD "or" = some (some (.bool true)))
    (p_dAdd : PySem.W.nsIn K aD "+" = some none)
    (p_dSub : PySem.W.nsIn K aD "-" = some none)
    (p_dMul : PySem.W.nsIn K aD "*" = some none)
    (p_dDiv : PySem.W.nsIn K aD "/" = some none)
    (p_dMod : PySem.W.nsIn K aD "mod" = some none)
    (p_dCat : PySem.W.nsIn K aD "++" = some none)
    (p_dEq : PySem.W.nsIn K aD "=" = some none)
    (p_dLt : PySem.W.nsIn K aD "<" = some none)
    : ∃ fd : FuncData, (∀ (s : Shared) (v : Value), BindsTo s fd ⟨[v], []⟩ [("script", v)]) ∧ ∀ base : Heap, K.In base → base.Ns mainGlobals mg → FnOk l.prog w K mg base CX0 60 fa fd ["script"] (spLaw K) := by
  have e := hfa.symm.trans (PySem.W.mg_of X G a16)
  cases e
  have F1 := fun_mk (st := sExpressions) l1 c1 k1
  have b1 := F1.binds (ps := ["definition"]) fun _ _ _ _ _ _ us hl => match us, hl with | [_], _ => rfl
  have F2 := fun_mk (st := sParameters) l2 c2 k2
  have b2 := F2.binds (ps := ["definition"]) fun _ _ _ _ _ _ us hl => match us, hl with | [_], _ => rfl
  have F3 := fun_mk (st := sDefinitionCode) l3 c3 k3
  have b3 := F3.binds (ps := ["definition"]) fun _ _ _ _ _ _ us hl => match us, hl with | [_], _ => rfl
  have F4 := fun_mk (st := sCodeOf) l4 c4 k4
  have b4 := F4.binds (ps := ["e", "names"]) fun _ _ _ _ _ _ us hl => match us, hl with | [_, _], _ => rfl
  have F5 := fun_mk (st := sCodeOfChoice) l5 c5 k5
  have b5 := F5.binds (ps := ["e", "names"]) fun _ _ _ _ _ _ us hl => match us, hl with | [_, _], _ => rfl
  have F6 := fun_mk (st := sCodeOfAll) l6 c6 k6
  have b6 := F6.binds (ps := ["parts", "names"]) fun _ _ _ _ _ _ us hl => match us, hl with | [_, _], _ => rfl
  have F7 := fun_mk (st := sCodeOfName) l7 c7 k7
  have b7 := F7.binds (ps := ["name", "names"]) fun _ _ _ _ _ _ us hl => match us, hl with | [_, _], _ => rfl
  have F8 := fun_mk (st := sCodeOfBinary) l8 c8 k8
  have b8 := F8.binds (ps := ["operator", "first", "second"]) fun _ _ _ _ _ _ us hl => match us, hl with | [_, _, _], _ => rfl
  have F9 := fun_mk (st := sCodeOfArms) l9 c9 k9
  have b9 := F9.binds (ps := ["arms", "names"]) fun _ _ _ _ _ _ us hl => match us, hl with | [_, _], _ => rfl
  have F10 := fun_mk (st := sLawNext) l10 c10 k10
  have b10 := F10.binds (ps := ["state", "limit"]) fun _ _ _ _ _ _ us hl => match us, hl with | [_, _], _ => rfl
  have F11 := fun_mk (st := sLawSame) l11 c11 k11
  have b11 := F11.binds (ps := ["actual", "expected"]) fun _ _ _ _ _ _ us hl => match us, hl with | [_, _], _ => rfl
  have F12 := fun_mk (st := sLawWild) l12 c12 k12
  have b12 := F12.binds (ps := ["state", "names", "depth"]) fun _ _ _ _ _ _ us hl => match us, hl with | [_, _, _], _ => rfl
  have F13 := fun_mk (st := sLawCode) l13 c13 k13
  have b13 := F13.binds (ps := ["e", "names"]) fun _ _ _ _ _ _ us hl => match us, hl with | [_, _], _ => rfl
  have F14 := fun_mk (st := sLawMatchCode) l14 c14 k14
  have b14 := F14.binds (ps := ["e", "names"]) fun _ _ _ _ _ _ us hl => match us, hl with | [_, _], _ => rfl
  have F15 := fun_mk (st := sLawEndsWithin) l15 c15 k15
  have b15 := F15.binds (ps := ["code"]) fun _ _ _ _ _ _ us hl => match us, hl with | [_], _ => rfl
  have F16 := fun_mk (st := sLaw) l16 c16 k16
  have b16 := F16.binds (ps := ["script"]) fun _ _ _ _ _ _ us hl => match us, hl with | [_], _ => rfl
  let Z : Defs K mg :=
    { bool := PySem.W.mg_none_of X G z_bool,
      enumerate := PySem.W.mg_none_of X G z_enumerate,
      int := PySem.W.mg_none_of X G z_int,
      isinstance := PySem.W.mg_none_of X G z_isinstance,
      len := PySem.W.mg_none_of X G z_len,
      list := PySem.W.mg_none_of X G z_list,
      max := PySem.W.mg_none_of X G z_max,
      min := PySem.W.mg_none_of X G z_min,
      range := PySem.W.mg_none_of X G z_range,
      reversed := PySem.W.mg_none_of X G z_reversed,
      str := PySem.W.mg_none_of X G z_str,
      sum := PySem.W.mg_none_of X G z_sum,
      tuple := PySem.W.mg_none_of X G z_tuple,
      zip := PySem.W.mg_none_of X G z_zip,
      fExpressions := f1,
      fdExpressions := _,
      DExpressions := ⟨F1, b1, PySem.W.mg_of X G a1⟩,
      fParameters := f2,
      fdParameters := _,
      DParameters := ⟨F2, b2, PySem.W.mg_of X G a2⟩,
      fDefinitionCode := f3,
      fdDefinitionCode := _,
      DDefinitionCode := ⟨F3, b3, PySem.W.mg_of X G a3⟩,
      fCodeOf := f4,
      fdCodeOf := _,
      DCodeOf := ⟨F4, b4, PySem.W.mg_of X G a4⟩,
      fCodeOfChoice := f5,
      fdCodeOfChoice := _,
      DCodeOfChoice := ⟨F5, b5, PySem.W.mg_of X G a5⟩,
      fCodeOfAll := f6,
      fdCodeOfAll := _,
      DCodeOfAll := ⟨F6, b6, PySem.W.mg_of X G a6⟩,
      fCodeOfName := f7,
      fdCodeOfName := _,
      DCodeOfName := ⟨F7, b7, PySem.W.mg_of X G a7⟩,
      fCodeOfBinary := f8,
      fdCodeOfBinary := _,
      DCodeOfBinary := ⟨F8, b8, PySem.W.mg_of X G a8⟩,
      fCodeOfArms := f9,
      fdCodeOfArms := _,
      DCodeOfArms := ⟨F9, b9, PySem.W.mg_of X G a9⟩,
      fLawNext := f10,
      fdLawNext := _,
      DLawNext := ⟨F10, b10, PySem.W.mg_of X G a10⟩,
      fLawSame := f11,
      fdLawSame := _,
      DLawSame := ⟨F11, b11, PySem.W.mg_of X G a11⟩,
      fLawWild := f12,
      fdLawWild := _,
      DLawWild := ⟨F12, b12, PySem.W.mg_of X G a12⟩,
      fLawCode := f13,
      fdLawCode := _,
      DLawCode := ⟨F13, b13, PySem.W.mg_of X G a13⟩,
      fLawMatchCode := f14,
      fdLawMatchCode := _,
      DLawMatchCode := ⟨F14, b14, PySem.W.mg_of X G a14⟩,
      fLawEndsWithin := f15,
      fdLawEndsWithin := _,
      DLawEndsWithin := ⟨F15, b15, PySem.W.mg_of X G a15⟩,
      fLaw := fa,
      fdLaw := _,
      DLaw := ⟨F16, b16, PySem.W.mg_of X G a16⟩,
      aD := aD,
      gD := PySem.W.mg_of X G p_gD,
      dAnd := p_dAnd,
      dOr := p_dOr,
      dAdd := p_dAdd,
      dSub := p_dSub,
      dMul := p_dMul,
      dDiv := p_dDiv,
      dMod := p_dMod,
      dCat := p_dCat,
      dEq := p_dEq,
      dLt := p_dLt }
  exact ⟨PySem.W.fnOf "law" "law" (defArgs sLaw) (defBody sLaw) (defScope sLaw) .none kV16 dc16 pm16 an16 cd16 ct16, fun s v => .of_eq rfl, fun base _ _ => ok_law Z p_dic⟩
end Q33
open PySem PySem.W PyProof.Rows
set_option maxHeartbeats 0 in
theorem PySem.Challenge.cw_quillrun_k33_code_of_expressions_holds : PySem.Challenge.rw_quillrun_k33_code_of_expressions.Holds := by
  w_on; o_law; k_head; (case hw => w_witness2)
  k_fill
  refine L2.walk_of (l := PySem.Challenge.rw_quillrun_k33_code_of_expressions) (n := 63) (k := 60) (x := "script") (CX := fun _ => L2.CX0) (sp := fun w => Q33.spLaw _) rfl (by decide) rfl ⟨rfl, by decide, by decide⟩ (fun w h Y => PySem.W.kIn_of Y) ?F (fun _ _ a ns hl _ hS => ⟨a, ns, rfl, hS, hl, fun _ => rfl⟩) (fun _ _ _ _ _ h => h)
  case F =>
    intro w mg fa h KX G hmg
    refine' Q33.all_mk KX G hmg ?a1 ?l1 ?c1 ?k1 ?a2 ?l2 ?c2 ?k2 ?a3 ?l3 ?c3 ?k3 ?a4 ?l4 ?c4 ?k4 ?a5 ?l5 ?c5 ?k5 ?a6 ?l6 ?c6 ?k6 ?a7 ?l7 ?c7 ?k7 ?a8 ?l8 ?c8 ?k8 ?a9 ?l9 ?c9 ?k9 ?a10 ?l10 ?c10 ?k10 ?a11 ?l11 ?c11 ?k11 ?a12 ?l12 ?c12 ?k12 ?a13 ?l13 ?c13 ?k13 ?a14 ?l14 ?c14 ?k14 ?a15 ?l15 ?c15 ?k15 ?a16 ?l16 ?c16 ?k16 ?z_bool ?z_enumerate ?z_int ?z_isinstance ?z_len ?z_list ?z_max ?z_min ?z_range ?z_reversed ?z_str ?z_sum ?z_tuple ?z_zip ?p_gD ?p_dic ?p_dAnd ?p_dOr ?p_dAdd ?p_dSub ?p_dMul ?p_dDiv ?p_dMod ?p_dCat ?p_dEq ?p_dLt
    (case a1 => k_is)
    (case l1 => k_is)
    (case c1 => k_is)
    (case k1 => k_is)
    (case a2 => k_is)
    (case l2 => k_is)
    (case c2 => k_is)
    (case k2 => k_is)
    (case a3 => k_is)
    (case l3 => k_is)
    (case c3 => k_is)
    (case k3 => k_is)
    (case a4 => k_is)
    (case l4 => k_is)
    (case c4 => k_is)
    (case k4 => k_is)
    (case a5 => k_is)
    (case l5 => k_is)
    (case c5 => k_is)
    (case k5 => k_is)
    (case a6 => k_is)
    (case l6 => k_is)
    (case c6 => k_is)
    (case k6 => k_is)
    (case a7 => k_is)
    (case l7 => k_is)
    (case c7 => k_is)
    (case k7 => k_is)
    (case a8 => k_is)
    (case l8 => k_is)
    (case c8 => k_is)
    (case k8 => k_is)
    (case a9 => k_is)
    (case l9 => k_is)
    (case c9 => k_is)
    (case k9 => k_is)
    (case a10 => k_is)
    (case l10 => k_is)
    (case c10 => k_is)
    (case k10 => k_is)
    (case a11 => k_is)
    (case l11 => k_is)
    (case c11 => k_is)
    (case k11 => k_is)
    (case a12 => k_is)
    (case l12 => k_is)
    (case c12 => k_is)
    (case k12 => k_is)
    (case a13 => k_is)
    (case l13 => k_is)
    (case c13 => k_is)
    (case k13 => k_is)
    (case a14 => k_is)
    (case l14 => k_is)
    (case c14 => k_is)
    (case k14 => k_is)
    (case a15 => k_is)
    (case l15 => k_is)
    (case c15 => k_is)
    (case k15 => k_is)
    (case a16 => k_is)
    (case l16 => k_is)
    (case c16 => k_is)
    (case k16 => k_is)
    (case z_bool => k_is)
    (case z_enumerate => k_is)
    (case z_int => k_is)
    (case z_isinstance => k_is)
    (case z_len => k_is)
    (case z_list => k_is)
    (case z_max => k_is)
    (case z_min => k_is)
    (case z_range => k_is)
    (case z_reversed => k_is)
    (case z_str => k_is)
    (case z_sum => k_is)
    (case z_tuple => k_is)
    (case z_zip => k_is)
    (case p_gD => k_is)
    (case p_dic => rfl)
    (case p_dAnd => k_is)
    (case p_dOr => k_is)
    (case p_dAdd => k_is)
    (case p_dSub => k_is)
    (case p_dMul => k_is)
    (case p_dDiv => k_is)
    (case p_dMod => k_is)
    (case p_dCat => k_is)
    (case p_dEq => k_is)
    (case p_dLt => k_is)
#print axioms PySem.Challenge.cw_quillrun_k33_code_of_expressions_holds
