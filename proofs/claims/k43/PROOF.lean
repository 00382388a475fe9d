import PyProof.Rows.All
import Wide.All
import OpenK.AllK
import Wide.FinOn
import PyProof.Rows.All
import HandS.ForMost
import HandS.ForExc
import HandS.IsInst
import HandS.Codes
import HandS.Walk
import HandS.Star
import HandS.TryOnly
import HandS.ExcOwn
import HandS.Defaults
import HandS.Comp
import HandS.DictComp
import PyProof.Draws
import HandS.FStr
import HandS.StrMore
import HandS.Zip
import HandS.NoneIn
import HandS.SetKeys
import HandS.More
import HandS.Deep
import HandS.RaiseMore
import KE.RegKIsAll
import PySem.Challenge.RW_quillrun_k43_records
set_option Elab.async false
set_option linter.all false
set_option maxRecDepth 100000
set_option maxHeartbeats 4000000
namespace HL
open PySem PySem.Spec PyProof.Rows L2 SX
/-! ## short words of my own, over the hand layer -/
theorem boot_isinstance : bootBuiltins "isinstance" = some (.builtin "isinstance") := by decide +kernel
theorem boot_bool : bootBuiltins "bool" = some (.type "bool") := by decide +kernel
theorem boot_int : bootBuiltins "int" = some (.type "int") := by decide +kernel
theorem boot_str : bootBuiltins "str" = some (.type "str") := by decide +kernel
theorem boot_tuple : bootBuiltins "tuple" = some (.type "tuple") := by decide +kernel
theorem boot_list : bootBuiltins "list" = some (.type "list") := by decide +kernel
theorem boot_dict : bootBuiltins "dict" = some (.type "dict") := by decide +kernel
/-- a def of the module: its body, its arguments, its name -/
structure DefN (K : PySem.W.Frag) (mg : Str → Option Value) (x : Str) (st : Stmt) (ps : List Str) (f : Addr) (fd : FuncData) : Prop where
  F : Fun K x x st f fd
  b : Binds K fd ps []
  g : mg x = some (.ref f)
theorem small (n : Nat) (h : n ≤ 1000000) : n ≤ sizeLine := Nat.le_trans h (by decide)
theorem same_upd {H : Hp} {p : Addr} {o : HO} (h : H p = none) : Same H (upd H p o) := fun b x e => by
  rw [upd_ne (ne_of_none e h)]
  exact e
theorem S_app (a b : List Nat) : (S a ++ S b : Str) = S (a ++ b) := S_cat a b
theorem sign_at {t : List Nat} {k : Nat} (h : k < t.length) : atI (S t).cps.toList (k : Int) = some (t.getD k 0) := by
  show atI t.toArray.toList (k : Int) = _
  refine atI_nat ?_
  simp [List.getD_eq_getElem?_getD, h]
theorem cutS_nat (t : List Nat) (a b : Nat) (h : a ≤ b) (h2 : b ≤ t.length) : cutS (S t) (some (a : Int)) (some (b : Int)) = S ((t.drop a).take (b - a)) := by
  unfold cutS
  rw [S_len, HT.sIx_nat, HT.sIx_nat]
  have e1 : min a t.length = a := by omega
  have e2 : min b t.length = b := by omega
  rw [e1, e2]
/-- ends beyond the end -/
theorem cutS_any (t : List Nat) (a b : Nat) : cutS (S t) (some (a : Int)) (some (b : Int)) = S ((t.drop a).take (b - a)) := by
  unfold cutS
  rw [S_len, HT.sIx_nat, HT.sIx_nat]
  congr 2
  show List.take _ (List.drop _ t) = _
  by_cases ha : a ≤ t.length
  · have e1 : min a t.length = a := by omega
    rw [e1]
    by_cases hb : b ≤ t.length
    · have e2 : min b t.length = b := by omega
      rw [e2]
    · have e2 : min b t.length = t.length := by omega
      rw [e2, List.take_of_length_le (by rw [List.length_drop]; omega), List.take_of_length_le (by rw [List.length_drop]; omega)]
  · have e1 : min a t.length = t.length := by omega
    rw [e1, List.drop_of_length_le (Nat.le_refl _), List.drop_of_length_le (show t.length ≤ a by omega)]
    simp
theorem joinL_nil : ∀ C : List (List Nat), TL.joinL [] C = C.flatten
  | [] => rfl
  | [c] => by simp [TL.joinL]
  | c :: d :: r => by
    show c ++ ([] ++ TL.joinL [] (d :: r)) = _
    rw [joinL_nil (d :: r)]
    simp
/-- a test whose answer is known -/
theorem iteNo {c A B : Prop} [Decidable c] (h : ¬ c) (hb : B) : if c then A else B := by
  rw [if_neg h]
  exact hb
theorem iteYes {c A B : Prop} [Decidable c] (h : c) (ha : A) : if c then A else B := by
  rw [if_pos h]
  exact ha
/-- a comprehension without a test -/
theorem lc_yes {te : TE} {σ : L2.St} {H : Hp} {R : VK} {B : Hp → Prop} (h : te σ H R) : tYes σ H (fun b H3 => if b = true then te σ H3 R else B H3) := by
  show (if true = true then te σ H R else B H)
  rw [if_pos rfl]
  exact h
/-- all but p is as it was -/
def But (H H' : Hp) (p : Addr) : Prop := ∀ b, b ≠ p → H' b = H b
theorem but_upd {H : Hp} {p : Addr} {o : HO} : But H (upd H p o) p := fun _ h => upd_ne h
theorem But.refl {H : Hp} {p : Addr} : But H H p := fun _ _ => rfl
theorem But.trans {H H1 H2 : Hp} {p : Addr} (a : But H H1 p) (b : But H1 H2 p) : But H H2 p := fun c h => (b c h).trans (a c h)
/-- all but p, and what is new, is as it was -/
def Kept (H H' : Hp) (p : Addr) : Prop := ∀ b o, b ≠ p → H b = some o → H' b = some o
theorem Kept.refl {H : Hp} {p : Addr} : Kept H H p := fun _ _ _ h => h
theorem Kept.trans {H H1 H2 : Hp} {p : Addr} (a : Kept H H1 p) (b : Kept H1 H2 p) : Kept H H2 p := fun c o n h => b c o n (a c o n h)
theorem But.kept {H H' : Hp} {p : Addr} (b : But H H' p) : Kept H H' p := fun c o n h => (b c n).trans h
theorem _root_.L2.Same.kept {H H' : Hp} (s : Same H H') (p : Addr) : Kept H H' p := fun c o _ h => s c o h
section
variable {X : Cx}
/-- a constant of the module: a text, a number -/
theorem pe_gstr {x z : Str} {pos : Pos} (hg : Gl X x) (hm : ∃ t, X.mg x = some (.str z t)) (hd : (x == ("__debug__" : Str)) = false := by decide) : PE X (.Name x pos) (tC (.str z)) := by
  obtain ⟨t, h⟩ := hm
  exact pe_glob hg h ⟨t, rfl⟩ hd
theorem pe_gint {x : Str} {i : Int} {pos : Pos} (hg : Gl X x) (hm : ∃ t, X.mg x = some (.int i t)) (hd : (x == ("__debug__" : Str)) = false := by decide) : PE X (.Name x pos) (tC (.int i)) := by
  obtain ⟨t, h⟩ := hm
  exact pe_glob hg h ⟨t, rfl⟩ hd
/-- within a comprehension -/
theorem ix_listK {K : PySem.W.Frag} (h : X.K = K) : IxR X (rIxL K) := by
  subst h
  exact ix_list
theorem ix_tupK {K : PySem.W.Frag} (h : X.K = K) : IxR X (rIxT K) := by
  subst h
  exact ix_tup
/-- o[i] of a list, for o[i] op= e -/
def rGetL (K : PySem.W.Frag) : V → V → Hp → VK → Prop := fun x y H Q => ∃ p xs i v, x = .ref p ∧ y = .int i ∧ SqL K H p xs ∧ 0 ≤ i ∧ atI xs i = some v ∧ Q v H
theorem pget_list : PGet X (rGetL X.K) := by
  intro pins s σ H x y v u Q I rx ry h
  obtain ⟨p, xs, i, z, rfl, rfl, hq, h0, he, q⟩ := h
  cases rx
  obtain ⟨t, rfl⟩ := ry
  obtain ⟨its, r, pl, hz⟩ := I.list hq
  obtain ⟨j, h1, h2, h3, h4, h5⟩ := atI_get he
  obtain ⟨w, ew, rw'⟩ := r.get h2
  have hl := r.length
  have hn := line63
  have hj : i.toNat = j := by
    rw [seqIndex_of h0 h5] at h1
    exact Option.some.inj h1
  exact wpAny_getItem_list pl.isList h0 (by omega) (by rw [hj]; simpa using ew) ⟨z, H, I, rw', q⟩
/-- isinstance(x, T), T a built-in class -/
def rIsB (K : PySem.W.Frag) : List V → Hp → VK → Prop := fun xs H Q => ∃ (x : V) (T n : String) (b : Bool), xs = [x, .ty n] ∧ TyX K H x (.type T) ∧ kitB T n = some b ∧ Q (.bl b) H
theorem call_isB : CallR X (.builtin "isinstance") (rIsB X.K) := by
  intro pins s σ H xs us Q I r h
  obtain ⟨x, T, n, b, rfl, ty, e, q⟩ := h
  exact call_isi pins s σ H _ us Q I r ⟨x, .ty n, .type T, .type n, b, rfl, .ty n, ty, kit_ty e, q⟩
/-- a text, n times -/
theorem rep_fold (z : Str) : ∀ n : Nat, ((List.replicate n z.cps).foldl (· ++ ·) (#[] : Array Nat)).toList = (List.replicate n z.cps.toList).flatten := by
  have h : ∀ (l : List (Array Nat)) (a : Array Nat), (l.foldl (· ++ ·) a).toList = a.toList ++ (l.map (·.toList)).flatten := by
    intro l
    induction l with
    | nil => intro a; simp
    | cons x l ih => intro a; rw [List.foldl_cons, ih]; simp
  intro n
  rw [h]
  simp
theorem op_mul_strR : OpR X (binaryOp .Mult) (fun x y H Q => ∃ (l : List Nat) (n : Nat), x = .str (S l) ∧ y = .int (n : Int) ∧ 2 ≤ n ∧ n ≤ 1000 ∧ 1 ≤ l.length ∧ l.length ≤ 1000 ∧ Q (.str (S (List.replicate n l).flatten)) H) := by
  intro pins s σ H x y v u Q I rx ry h
  obtain ⟨l, n, rfl, rfl, h2, h3, h4, h5, q⟩ := h
  obtain ⟨t, rfl⟩ := rx
  obtain ⟨t', rfl⟩ := ry
  have hl : (S l).length = l.length := S_len l
  have e1 : ((n : Int) == 1 || (S l).length == 0) = false := by
    rw [hl]
    have a1 : ((n : Int) == 1) = false := by simp; omega
    have a2 : (l.length == 0) = false := by simp; intro z; rw [z] at h4; simp at h4
    rw [a1, a2]; rfl
  have hsz : l.length * n ≤ 1000000 := Nat.le_trans (Nat.mul_le_mul h5 h3) (by decide)
  refine PySem.P.mul_str ?_ (fun _ _ => ?_) (fun _ _ => ?_) ?_
  · have b1 : decide ((n : Int) < -(2 ^ 63 : Int)) = false := decide_eq_false (by omega)
    have b2 : decide ((n : Int) ≥ 2 ^ 63) = false := decide_eq_false (by omega)
    rw [b1, b2]; rfl
  · rw [hl]
    have hp : (l.length : Int) * (n : Int) ≤ 1000000 := by
      have := Int.ofNat_le.mpr hsz
      rw [Int.natCast_mul] at this
      exact this
    have := Int.le_ediv_of_mul_le (show (0 : Int) < (n : Int) by omega) (show (l.length : Int) * (n : Int) ≤ 2 ^ 63 - 1 from Int.le_trans hp (by decide))
    omega
  · rw [hl]
    exact decide_eq_false (by rw [sizeLine_eq, Int.toNat_natCast]; omega)
  · rw [if_neg (by omega), if_neg (by rw [e1]; simp)]
    have ef : (⟨(List.replicate (n : Int).toNat (S l).cps).foldl (· ++ ·) #[]⟩ : Str) = S (List.replicate n l).flatten := by
      have : ((List.replicate (n : Int).toNat (S l).cps).foldl (· ++ ·) (#[] : Array Nat)) = ((List.replicate n l).flatten).toArray := by
        apply Array.ext'
        rw [rep_fold]
        simp
      rw [this]
    rw [ef]
    refine ⟨?_, .str _, H, I.tok _, ⟨_, rfl⟩, q⟩
    rw [S_len, sizeLine_eq]
    simp
    rw [Nat.mul_comm]
    omega
end
/-! ### data that are told the same: _law_same -/
/-- the type of a list or a tuple that is read -/
def IsSeq (K : PySem.W.Frag) (H : Hp) (t : String) (a : Addr) (xs : List V) : Prop := (t = "tuple" ∧ SqT K H a xs ∧ TyX K H (.ref a) (.type "tuple")) ∨ (t = "list" ∧ SqL K H a xs ∧ TyX K H (.ref a) (.type "list"))
theorem IsSeq.tup {K : PySem.W.Frag} {H : Hp} {a : Addr} {xs : List V} (h : H a = some (.tup xs)) : IsSeq K H "tuple" a xs := .inl ⟨rfl, SqT.of h, .base (.tup h)⟩
theorem IsSeq.lst {K : PySem.W.Frag} {H : Hp} {a : Addr} {xs : List V} (h : H a = some (.lst xs)) : IsSeq K H "list" a xs := .inr ⟨rfl, SqL.of h, .base (.lst h)⟩
/-- a number, a text, a truth, None -/
def Leaf : V → Prop
  | .int _ => True
  | .str _ => True
  | .bl _ => True
  | .non => True
  | _ => False
def SameD (K : PySem.W.Frag) (H : Hp) : Nat → V → V → Prop
  | 0, x, y => Leaf x ∧ x = y
  | n + 1, x, y => (Leaf x ∧ x = y) ∨ ∃ (t : String) (a b : Addr) (xs ys : List V), x = .ref a ∧ y = .ref b ∧ IsSeq K H t a xs ∧ IsSeq K H t b ys ∧ xs.length = ys.length ∧ ys.length ≤ 1000000 ∧
      ∀ (i : Nat) (u v : V), xs[i]? = some u → ys[i]? = some v → SameD K H n u v
theorem SameD.leaf {K : PySem.W.Frag} {H : Hp} {n : Nat} {x : V} (h : Leaf x) : SameD K H n x x := by
  cases n with
  | zero => exact ⟨h, rfl⟩
  | succ n => exact .inl ⟨h, rfl⟩
theorem SameD.seq {K : PySem.W.Frag} {H : Hp} {n : Nat} {t : String} {a b : Addr} {xs ys : List V} (h1 : IsSeq K H t a xs) (h2 : IsSeq K H t b ys) (hl : xs.length = ys.length) (hz : ys.length ≤ 1000000)
    (h : ∀ (i : Nat) (u v : V), xs[i]? = some u → ys[i]? = some v → SameD K H n u v) : SameD K H (n + 1) (.ref a) (.ref b) := .inr ⟨t, a, b, xs, ys, rfl, rfl, h1, h2, hl, hz, h⟩
/-- rows of leaves -/
theorem SameD.row {K : PySem.W.Frag} {H : Hp} {n : Nat} {a b : Addr} {xs : List V} (h1 : H a = some (.tup xs)) (h2 : H b = some (.tup xs)) (hz : xs.length ≤ 1000000) (h : ∀ x ∈ xs, Leaf x) : SameD K H (n + 1) (.ref a) (.ref b) :=
  .seq (.tup h1) (.tup h2) rfl hz fun i u v hu hv => by
    rw [hu] at hv
    cases hv
    exact .leaf (h u (List.mem_of_getElem? hu))
def spSame (K : PySem.W.Frag) (n : Nat) : Sp := fun vs H Q _ => ∃ x y : V, vs = [x, y] ∧ SameD K H n x y ∧ Q (.bl true) H
end HL
namespace HL
open PySem PySem.Spec PyProof.Rows L2 SX
/-- isinstance of two built-in classes -/
theorem kit_two {K : PySem.W.Frag} {T a b : String} {x y : Bool} (h1 : kitB T a = some x) (h2 : kitB T b = some y) : PySem.W.kitAny K (.type T) [.type a, .type b] = some (x || y) := by
  have e1 := kit_ty (K := K) h1
  have e2 := kit_ty (K := K) h2
  simp only [PySem.W.kitAny, e1, e2]
  cases x <;> cases y <;> rfl
theorem tyx_same {K : PySem.W.Frag} {H H' : Hp} {x : V} {t : Value} (s : Same H H') (h : TyX K H x t) : TyX K H' x t := by
  cases h with
  | base b =>
    cases b with
    | non => exact .base .non
    | bl y => exact .base (.bl y)
    | int i => exact .base (.int i)
    | str y => exact .base (.str y)
    | flt y => exact .base (.flt y)
    | lst e => exact .base (.lst (s _ _ e))
    | frz e => exact .base (.frz (s _ _ e))
    | tup e => exact .base (.tup (s _ _ e))
    | dK e => exact .base (.dK (s _ _ e))
    | dT e => exact .base (.dT (s _ _ e))
    | ins e h1 h2 h3 h4 h5 => exact .base (.ins (s _ _ e) h1 h2 h3 h4 h5)
  | byt y => exact .byt y
  | set e => exact .set (s _ _ e)
  | kList e c => exact .kList e c
  | kTuple e c => exact .kTuple e c
  | kDict e c => exact .kDict e c
  | fTuple e => exact .fTuple (s _ _ e)
  | fDict e => exact .fDict (s _ _ e)
theorem seqT_same {K : PySem.W.Frag} {H H' : Hp} {a : Addr} {xs : List V} (e : Same H H') (h : SqT K H a xs) : SqT K H' a xs := by
  rcases h with (h | ⟨o, h⟩) | h
  · exact .inl (.inl (e _ _ h))
  · exact .inl (.inr ⟨o, e _ _ h⟩)
  · exact .inr h
theorem isSeq_same {K : PySem.W.Frag} {H H' : Hp} {t : String} {a : Addr} {xs : List V} (s : Same H H') (h : IsSeq K H t a xs) : IsSeq K H' t a xs := by
  rcases h with ⟨e, h1, h2⟩ | ⟨e, h1, h2⟩
  · exact .inl ⟨e, seqT_same s h1, tyx_same s h2⟩
  · exact .inr ⟨e, s.seq h1, tyx_same s h2⟩
theorem sameD_same {K : PySem.W.Frag} {H H' : Hp} (s : Same H H') : ∀ {n : Nat} {x y : V}, SameD K H n x y → SameD K H' n x y
  | 0, x, y, h => h
  | n + 1, x, y, h => by
    rcases h with h | ⟨t, a, b, xs, ys, e1, e2, h1, h2, el, hz, hh⟩
    · exact .inl h
    · exact .inr ⟨t, a, b, xs, ys, e1, e2, isSeq_same s h1, isSeq_same s h2, el, hz, fun i u v hu hv => sameD_same s (hh i u v hu hv)⟩
/-- told the same; the heap may grow -/
def spSameG (K : PySem.W.Frag) (n : Nat) : Sp := fun vs H Q _ => ∃ x y : V, vs = [x, y] ∧ SameD K H n x y ∧ ∀ H', Same H H' → Q (.bl true) H'
end HL
namespace HL
open PySem PySem.Spec PyProof.Rows L2 SX
/-- a list or a tuple, also a locked one -/
def Seqo : HO → Prop
  | .lst _ => True
  | .tup _ => True
  | .frz _ (.lst _) => True
  | .frz _ (.tup _) => True
  | _ => False
def SeqKept (H H' : Hp) : Prop := ∀ a o, H a = some o → Seqo o → H' a = some o
theorem _root_.L2.Same.seqKept {H H' : Hp} (s : Same H H') : SeqKept H H' := fun a o h _ => s a o h
theorem SeqKept.seqT {K : PySem.W.Frag} {H H' : Hp} {a : Addr} {xs : List V} (e : SeqKept H H') (h : SqT K H a xs) : SqT K H' a xs := by
  rcases h with (h | ⟨o, h⟩) | h
  · exact .inl (.inl (e _ _ h True.intro))
  · exact .inl (.inr ⟨o, e _ _ h True.intro⟩)
  · exact .inr h
theorem SeqKept.seq {K : PySem.W.Frag} {H H' : Hp} {a : Addr} {xs : List V} (e : SeqKept H H') (h : SqL K H a xs) : SqL K H' a xs := by
  rcases h with (h | ⟨o, h⟩) | h
  · exact .inl (.inl (e _ _ h True.intro))
  · exact .inl (.inr ⟨o, e _ _ h True.intro⟩)
  · exact .inr h
theorem tyx_tup {K : PySem.W.Frag} {H H' : Hp} {x : V} {t : Value} (s : SeqKept H H') (ht : t = .type "tuple" ∨ t = .type "list") (h : TyX K H x t) : TyX K H' x t := by
  cases h with
  | base b =>
    cases b with
    | non => exact .base .non
    | bl y => exact .base (.bl y)
    | int i => exact .base (.int i)
    | str y => exact .base (.str y)
    | flt y => exact .base (.flt y)
    | lst e => exact .base (.lst (s _ _ e True.intro))
    | frz e => exact .base (.frz (s _ _ e True.intro))
    | tup e => exact .base (.tup (s _ _ e True.intro))
    | dK e => rcases ht with z | z <;> exact absurd (Value.type.inj z) (by decide)
    | dT e => rcases ht with z | z <;> exact absurd (Value.type.inj z) (by decide)
    | ins e h1 h2 h3 h4 h5 => rcases ht with z | z <;> cases z
  | byt y => exact .byt y
  | set e => rcases ht with z | z <;> exact absurd (Value.type.inj z) (by decide)
  | kList e c => exact .kList e c
  | kTuple e c => exact .kTuple e c
  | kDict e c => exact .kDict e c
  | fTuple e => exact .fTuple (s _ _ e True.intro)
  | fDict e => rcases ht with z | z <;> exact absurd (Value.type.inj z) (by decide)
theorem isSeq_kept {K : PySem.W.Frag} {H H' : Hp} {t : String} {a : Addr} {xs : List V} (s : SeqKept H H') (h : IsSeq K H t a xs) : IsSeq K H' t a xs := by
  rcases h with ⟨e, h1, h2⟩ | ⟨e, h1, h2⟩
  · exact .inl ⟨e, s.seqT h1, tyx_tup s (.inl rfl) h2⟩
  · exact .inr ⟨e, s.seq h1, tyx_tup s (.inr rfl) h2⟩
theorem sameD_kept {K : PySem.W.Frag} {H H' : Hp} (s : SeqKept H H') : ∀ {n : Nat} {x y : V}, SameD K H n x y → SameD K H' n x y
  | 0, x, y, h => h
  | n + 1, x, y, h => by
    rcases h with h | ⟨t, a, b, xs, ys, e1, e2, h1, h2, el, hz, hh⟩
    · exact .inl h
    · exact .inr ⟨t, a, b, xs, ys, e1, e2, isSeq_kept s h1, isSeq_kept s h2, el, hz, fun i u v hu hv => sameD_kept s (hh i u v hu hv)⟩
/-- a dict locked, and the way back -/
theorem seqKept_lock {H : Hp} {d : Addr} {kvs : List (Key × V)} {o : HO} (h : H d = some (.dK kvs)) : SeqKept H (upd H d o) := fun a x hx hs => by
  have ne : a ≠ d := fun e => by
    rw [e, h] at hx
    cases hx
    exact hs
  rw [upd_ne ne]
  exact hx
theorem unlock {H H' : Hp} {d : Addr} {u o : HO} (h : H d = some u) (s : Same (upd H d o) H') : Same H (upd H' d u) := fun a x hx => by
  by_cases e : a = d
  · subst e
    rw [upd_same, ← h, hx]
  · rw [upd_ne e]
    exact s a x (by rw [upd_ne e]; exact hx)
end HL
namespace HL
open PySem PySem.Spec PyProof.Rows L2 SX
/-! ### methods, classes -/
/-- a method of the class at C -/
structure DefM (K : PySem.W.Frag) (C : Addr) (x q : Str) (st : Stmt) (ps : List Str) (f : Addr) (fd : FuncData) : Prop where
  F : Fun K x q st f fd
  b : Binds K fd ps []
  m : Meth K C x f
/-- its __init__ -/
structure DefI (K : PySem.W.Frag) (q : Str) (st : Stmt) (ps : List Str) (f : Addr) (fd : FuncData) : Prop where
  F : Fun K "__init__" q st f fd
  b : Binds K fd ps []
structure ClsN (K : PySem.W.Frag) (mg : Str → Option Value) (x : Str) (C fI : Addr) : Prop where
  g : mg x = some (.ref C)
  cl : Cls K C
  make : Mk K C fI
/-- an own exception without an __init__, under ValueError -/
structure ExcN (K : PySem.W.Frag) (mg : Str → Option Value) (x : Str) (C : Addr) : Prop where
  g : mg x = some (.ref C)
  ex : PySem.W.excIn K C [.type "ValueError", .type "Exception", .type "BaseException", .type "object"] "ValueError.__new__" = true
  kp : PySem.W.keepIn K (.ref C) = true
  sub : PySem.W.subIn K (.ref C) (.type "BaseException") = some true
  ty : PySem.W.typeIn K (.ref C) = some (.type "type")
  te : PySem.W.exmOne K (.ref C) (.ref C) = some true
/-- its class is caught by its name -/
theorem exm_of {K : PySem.W.Frag} {S : Addr} (h1 : PySem.W.subIn K (.ref S) (.type "BaseException") = some true) (h2 : PySem.W.isClsIn K S = true) (h3 : PySem.W.typeIn K (.ref S) = some (.type "type")) (h4 : PySem.W.subIn K (.ref S) (.ref S) = some true) :
    PySem.W.exmOne K (.ref S) (.ref S) = some true := by
  have e1 : (PySem.W.subIn K (.ref S) (.type "BaseException") == some true) = true := by rw [h1] <;> rfl
  have e2 : ((PySem.W.clsIn K S).isSome && PySem.W.typeIn K (.ref S) == some (.type "type")) = true := by
    have h2' : (PySem.W.clsIn K S).isSome = true := h2
    rw [h2', h3] <;> rfl
  show (if (PySem.W.subIn K (.ref S) (.type "BaseException") == some true) = true then (if ((PySem.W.clsIn K S).isSome && PySem.W.typeIn K (.ref S) == some (.type "type")) = true then PySem.W.subIn K (.ref S) (.ref S) else none) else none) = some true
  rw [if_pos e1, if_pos e2]
  exact h4
/-! ### fields -/
theorem putF_nil (f : Str) (v : V) : putF f v [] = [(f, v)] := rfl
theorem putF_eq (f : Str) (v x : V) (r : List (Str × V)) : putF f v ((f, x) :: r) = (f, v) :: r := if_pos rfl
theorem putF_ne {f g : Str} (h : ¬ g = f) (v x : V) (r : List (Str × V)) : putF f v ((g, x) :: r) = (g, x) :: putF f v r := if_neg h
theorem lkF_eq (f : Str) (v : V) (r : List (Str × V)) : List.lookup f ((f, v) :: r) = some v := by
  have h : (f == f) = true := beq_iff_eq.mpr rfl
  simp only [List.lookup, h]
theorem lkF_ne {f g : Str} (h : ¬ g = f) (v : V) (r : List (Str × V)) : List.lookup g ((f, v) :: r) = List.lookup g r := by
  have h' : (g == f) = false := beq_eq_false_iff_ne.mpr h
  simp only [List.lookup, h']
/-! ### two lists, item by item -/
inductive All2 {α β : Type _} (R : α → β → Prop) : List α → List β → Prop
  | nil : All2 R [] []
  | cons {x : α} {y : β} {xs : List α} {ys : List β} : R x y → All2 R xs ys → All2 R (x :: xs) (y :: ys)
namespace All2
variable {α β γ : Type _} {R S : α → β → Prop}
theorem len {xs : List α} {ys : List β} (h : All2 R xs ys) : xs.length = ys.length := by
  induction h with
  | nil => rfl
  | cons _ _ ih => simp [ih]
theorem mono {xs : List α} {ys : List β} (h : All2 R xs ys) (f : ∀ x y, R x y → S x y) : All2 S xs ys := by
  induction h with
  | nil => exact .nil
  | cons a _ ih => exact .cons (f _ _ a) ih
theorem app {xs xs' : List α} {ys ys' : List β} (h : All2 R xs ys) (h' : All2 R xs' ys') : All2 R (xs ++ xs') (ys ++ ys') := by
  induction h with
  | nil => exact h'
  | cons a _ ih => exact .cons a ih
theorem one {x : α} {y : β} (h : R x y) : All2 R [x] [y] := .cons h .nil
theorem snoc {xs : List α} {ys : List β} {x : α} {y : β} (h : All2 R xs ys) (a : R x y) : All2 R (xs ++ [x]) (ys ++ [y]) := h.app (one a)
theorem take {xs : List α} {ys : List β} (h : All2 R xs ys) (n : Nat) : All2 R (xs.take n) (ys.take n) := by
  induction h generalizing n with
  | nil => simp; exact .nil
  | cons a _ ih =>
    cases n with
    | zero => exact .nil
    | succ n => exact .cons a (ih n)
theorem drop {xs : List α} {ys : List β} (h : All2 R xs ys) (n : Nat) : All2 R (xs.drop n) (ys.drop n) := by
  induction h generalizing n with
  | nil => simp; exact .nil
  | cons a hb ih =>
    cases n with
    | zero => exact .cons a hb
    | succ n => exact ih n
theorem get {xs : List α} {ys : List β} (h : All2 R xs ys) {i : Nat} {x : α} (e : xs[i]? = some x) : ∃ y, ys[i]? = some y ∧ R x y := by
  induction h generalizing i with
  | nil => simp at e
  | cons a _ ih =>
    cases i with
    | zero =>
      simp at e
      subst e
      exact ⟨_, rfl, a⟩
    | succ i => exact ih (by simpa using e)
theorem getR {xs : List α} {ys : List β} (h : All2 R xs ys) {i : Nat} {y : β} (e : ys[i]? = some y) : ∃ x, xs[i]? = some x ∧ R x y := by
  induction h generalizing i with
  | nil => simp at e
  | cons a _ ih =>
    cases i with
    | zero =>
      simp at e
      subst e
      exact ⟨_, rfl, a⟩
    | succ i => exact ih (by simpa using e)
theorem of_at {xs : List α} {ys : List β} (hl : xs.length = ys.length) (h : ∀ (i : Nat) (x : α) (y : β), xs[i]? = some x → ys[i]? = some y → R x y) : All2 R xs ys := by
  induction xs generalizing ys with
  | nil =>
    cases ys with
    | nil => exact .nil
    | cons _ _ => simp at hl
  | cons x xs ih =>
    cases ys with
    | nil => simp at hl
    | cons y ys => exact .cons (h 0 x y rfl rfl) (ih (by simpa using hl) fun i a b ha hb => h (i + 1) a b (by simpa using ha) (by simpa using hb))
end All2
/-- a row: at v stands a tuple of what f tells -/
def IsRow {α : Type _} (f : α → List V) (H : Hp) (v : V) (x : α) : Prop := ∃ t, v = .ref t ∧ H t = some (.tup (f x))
theorem IsRow.same {α : Type _} {f : α → List V} {H H' : Hp} {v : V} {x : α} (h : IsRow f H v x) (s : ∀ t o, H t = some (.tup o) → H' t = some (.tup o)) : IsRow f H' v x := by
  obtain ⟨t, e, ht⟩ := h
  exact ⟨t, e, s _ _ ht⟩
/-- slices with an end -/
theorem cut_to (xs : List V) (n : Nat) : cutV xs none (some (n : Int)) = xs.take n := by
  unfold cutV
  rw [HT.sIx_none, HT.sIx_nat, Nat.sub_zero, List.drop_zero]
  by_cases h : n ≤ xs.length
  · rw [Nat.min_eq_left h]
  · have h' : xs.length ≤ n := by omega
    rw [Nat.min_eq_right h', List.take_of_length_le (Nat.le_refl _), List.take_of_length_le h']
theorem cut_from (xs : List V) (n : Nat) : cutV xs (some (n : Int)) none = xs.drop n := by
  unfold cutV
  rw [HT.sIx_none, HT.sIx_nat]
  by_cases h : n ≤ xs.length
  · rw [Nat.min_eq_left h, List.take_of_length_le]
    rw [List.length_drop]
    exact Nat.le_refl _
  · have h' : xs.length ≤ n := by omega
    rw [Nat.min_eq_right h', Nat.sub_self, List.take_zero, List.drop_of_length_le h']
theorem cut_mid (xs : List V) (a b : Nat) : cutV xs (some (a : Int)) (some (b : Int)) = (xs.drop a).take (b - a) := by
  unfold cutV
  rw [HT.sIx_nat, HT.sIx_nat]
  by_cases ha : a ≤ xs.length
  · rw [Nat.min_eq_left ha]
    by_cases hb : b ≤ xs.length
    · rw [Nat.min_eq_left hb]
    · have hb' : xs.length ≤ b := by omega
      rw [Nat.min_eq_right hb', List.take_of_length_le (by rw [List.length_drop]; omega), List.take_of_length_le (by rw [List.length_drop]; omega)]
  · have ha' : xs.length ≤ a := by omega
    rw [Nat.min_eq_right ha', List.drop_of_length_le (Nat.le_refl _), List.drop_of_length_le ha']
    simp
/-- a natural number -/
def vi (n : Nat) : V := .int (n : Int)
theorem vi_inj {a b : Nat} (h : vi a = vi b) : a = b := by
  have := V.int.inj h
  omega
theorem map_vi (l : List Nat) : l.map vi = (l.map fun n : Nat => (n : Int)).map V.int := by
  rw [List.map_map]
  rfl
theorem get_vi {l : List Nat} {i : Nat} {x : V} (h : (l.map vi)[i]? = some x) : ∃ n, l[i]? = some n ∧ x = vi n := by
  rw [List.getElem?_map] at h
  cases e : l[i]? with
  | none => rw [e] at h; cases h
  | some n => rw [e] at h; exact ⟨n, rfl, (Option.some.inj h).symm⟩
theorem take_snoc {α : Type _} {l : List α} {i : Nat} {x : α} (h : l[i]? = some x) : l.take (i + 1) = l.take i ++ [x] := by
  rw [List.take_add_one, h]
  rfl
theorem same_list {K : PySem.W.Frag} {H : Hp} {n : Nat} {a b : Addr} {xs : List Nat} (h1 : H a = some (.lst (xs.map vi))) (h2 : H b = some (.lst (xs.map vi))) (hl : xs.length ≤ 1000000) : SameD K H (n + 1) (.ref a) (.ref b) :=
  .seq (.lst h1) (.lst h2) rfl (by rw [List.length_map]; omega) fun i u v hu hv => by
    rw [hu] at hv
    cases hv
    obtain ⟨k, _, rfl⟩ := get_vi hu
    exact .leaf True.intro
theorem Same.none {H H' : Hp} (s : Same H H') {b : Addr} (h : H' b = none) : H b = none := by
  cases e : H b with
  | none => rfl
  | some o => rw [s _ _ e] at h; cases h
theorem Same.tr {H H1 H2 : Hp} (a : Same H H1) (b : Same H1 H2) : Same H H2 := fun c o h => b c o (a c o h)
/-- lists of natural numbers as data -/
def di (n : Nat) : PyData := .int (n : Int)
theorem dp_vis {K : PySem.W.Frag} {H : Hp} : ∀ xs : List Nat, DpAll K H (xs.map vi) (xs.map di)
  | [] => .nil
  | n :: xs => .cons (.int (n : Int)) (dp_vis xs)
theorem dis_can : ∀ xs : List Nat, PyData.canLayAll0 (xs.map di) = true
  | [] => rfl
  | n :: xs => by
    show (true && PyData.canLayAll0 (xs.map di)) = true
    rw [dis_can xs]
    rfl
theorem dis_depth : ∀ xs : List Nat, PyData.depthAll (xs.map di) ≤ 1
  | [] => Nat.zero_le _
  | n :: xs => by
    have := dis_depth xs
    simp only [List.map_cons, PyData.depthAll, di, PyData.depth] at this ⊢
    omega
theorem shaped_ints (xs : List Nat) : SeqAt.shaped (.list (xs.map di)) = true := by
  have h1 := dis_can xs
  have h2 := dis_depth xs
  simp only [SeqAt.shaped, PyData.canLay0, PyData.depth, Bool.and_eq_true, decide_eq_true_eq]
  exact ⟨h1, decide_eq_true (by omega)⟩
theorem eqv_ints (xs ys : List Nat) : PyData.eqv (.list (xs.map di)) (.list (ys.map di)) = decide (xs = ys) := by
  have h : ∀ xs ys : List Nat, PyData.eqvAll (xs.map di) (ys.map di) = decide (xs = ys) := by
    intro xs
    induction xs with
    | nil =>
      intro ys
      cases ys with
      | nil => rfl
      | cons y ys => simp [PyData.eqvAll]
    | cons x xs ih =>
      intro ys
      cases ys with
      | nil => simp [PyData.eqvAll]
      | cons y ys =>
        show (PyData.eqv (di x) (di y) && PyData.eqvAll (xs.map di) (ys.map di)) = _
        rw [ih ys]
        by_cases e : x = y
        · subst e
          simp [PyData.eqv, di]
        · have h' : ¬ (x : Int) = (y : Int) := by omega
          simp [PyData.eqv, di, e, h']
  show PyData.eqvAll (xs.map di) (ys.map di) = _
  exact h xs ys
theorem dp_list {K : PySem.W.Frag} {H : Hp} {a : Addr} {xs : List Nat} (h : H a = some (.lst (xs.map vi))) : Dp K H (.ref a) (.list (xs.map di)) := .lst (SqL.of h) (dp_vis xs)
end HL
namespace HX
open PySem PySem.Spec PyProof.Rows L2 SX HL
section
variable {Y : Cx} {cx : CXT} {n : Nat} {g cl : Addr} {gd : FuncData} {qs : List Str} {pr : Sp} {Ex : L2.St → XK} {nm : Str} {p0 q0 r0 : Pos} {a0 o0 : Expr} {as : List Expr} {to_ : TE} {ar : TA}
/-- a method called where what it lets out is wanted by the slots -/
def tMethS (cl : Addr) (nm : Str) (pr : Sp) (Ex : L2.St → XK) (to_ : TE) (ar : TA) : TE := fun σ H Q => to_ σ H fun x H1 => ∃ a dx fs, x = .ref a ∧ H1 a = some (.ins cl dx fs) ∧ fs.lookup nm = none ∧
  ar σ H1 fun vs H2 => pr (x :: vs) H2 Q (Ex σ)
theorem pe_methS1 {pl : Sem Bool} (ho : PE Y o0 to_) (cc : Cls Y.K cl) (mm : Meth Y.K cl nm g) (G : FnOk Y.prog Y.w Y.K Y.mg Y.base cx n g gd qs pr) (room : Room n Y.A) (bb : Binds Y.K gd qs []) (hx : ∀ σ, PassesAt cx Y σ (Ex σ)) (ha : PA Y (a0 :: as) ar)
    (hst : starEach (a0 :: as) Y.env = (false, eval a0 Y.env) :: starEach as Y.env := by rfl) (hpl : (backTo p0 (starEach as Y.env)).any (·.1) = false := by rfl)
    (ht : eval (.Call (.Attribute o0 nm r0) (a0 :: as) [] p0) Y.env = (do
      let ob ← eval o0 Y.env
      standAt r0.atName
      let (fn, fst) ← holding [ob] (getMethod ob nm pl)
      callWith p0 fn fst (backTo p0 (starEach (a0 :: as) Y.env)) (backToKw p0 (keywordEach [] Y.env))) := by rfl) :
    PE Y (.Call (.Attribute o0 nm r0) (a0 :: as) [] p0) (tMethS cl nm pr Ex to_ ar) := by
  refine ⟨fun pins s σ H Q I0 h0 => PySem.W.methodCall_KW (pl := pl) (thn (ho.run pins s σ H _ I0 h0) fun u s1 ⟨x, H1, I1, rx, a, dx, fs, ex, ea, l, q⟩ => ?_) ht⟩
  subst ex
  obtain rfl : u = Value.ref a := rx
  refine getmeth_ok I1 ea cc mm l (PySem.W.callWith_K (first := [.ref a]) (h₀ := Y.base) I1.ok.mod.kin mm.kp (thn (ha.run p0 pins s1 σ H1 _ I1 q) fun us s2 ⟨vs, H2, I2, r, q2⟩ => ⟨I2.kIn, ?_⟩) hst hpl)
  exact run_fnS (us := .ref a :: us) (vs := .ref a :: vs) G room bb (hx σ) I2 (.cons rfl r) q2
theorem pe_methS0 {pl : Sem Bool} (ho : PE Y o0 to_) (cc : Cls Y.K cl) (mm : Meth Y.K cl nm g) (G : FnOk Y.prog Y.w Y.K Y.mg Y.base cx n g gd qs pr) (room : Room n Y.A) (bb : Binds Y.K gd qs []) (hx : ∀ σ, PassesAt cx Y σ (Ex σ))
    (ht : eval (.Call (.Attribute o0 nm r0) [] [] p0) Y.env = (do
      let ob ← eval o0 Y.env
      standAt r0.atName
      let (fn, fst) ← holding [ob] (getMethod ob nm pl)
      callWith p0 fn fst (backTo p0 (starEach [] Y.env)) (backToKw p0 (keywordEach [] Y.env))) := by rfl) :
    PE Y (.Call (.Attribute o0 nm r0) [] [] p0) (tMethS cl nm pr Ex to_ tNil) := by
  refine ⟨fun pins s σ H Q I0 h0 => PySem.W.methodCall_KW (pl := pl) (thn (ho.run pins s σ H _ I0 h0) fun u s1 ⟨x, H1, I1, rx, a, dx, fs, ex, ea, l, q⟩ => ?_) ht⟩
  subst ex
  obtain rfl : u = Value.ref a := rx
  exact getmeth_ok I1 ea cc mm l (PySem.W.callWith_K0 (first := [.ref a]) I1.kIn mm.kp (run_fnS (us := [.ref a]) (vs := [.ref a]) G room bb (hx σ) I1 (.cons rfl .nil) q))
theorem pe_callS0 (G : FnOk Y.prog Y.w Y.K Y.mg Y.base cx n g gd qs pr) (room : Room n Y.A) (hg : Gl Y nm) (hm : Y.mg nm = some (.ref g)) (hk : PySem.W.keepIn Y.K (.ref g) = true) (bb : Binds Y.K gd qs []) (hx : ∀ σ, PassesAt cx Y σ (Ex σ))
    (hdb : (nm == ("__debug__" : Str)) = false := by decide) : PE Y (.Call (.Name nm q0) [] [] p0) (tCallS pr Ex tNil) := by
  refine ⟨fun pins s σ H Q I0 h0 => wpAny_Call_Name_kw (ld_glob I0 hg hm ?_ hdb)⟩
  exact PySem.W.callWith_K0 I0.kIn hk (run_fnS (us := []) G room bb (hx σ) I0 .nil h0)
end
end HX
namespace HX
open PySem PySem.Spec PyProof.Rows L2 SX HL
theorem bd_full {K : PySem.W.Frag} {fd : FuncData} {ps : List Str} (h : ∃ ds, Vals [] ds ∧ Binds K fd ps ds) : Binds K fd ps [] := by
  obtain ⟨ds, v, b⟩ := h
  cases v
  exact b
/-- a method whose last parameters have defaults -/
structure DefMD (K : PySem.W.Frag) (C : Addr) (x q : Str) (st : Stmt) (ps : List Str) (dvs : List V) (f : Addr) (fd : FuncData) : Prop where
  F : FunD K x q (defArgs st) (defBody st) (defScope st) dvs [] f fd
  m : Meth K C x f
  bd : ∃ ds, Vals dvs ds ∧ Binds K fd ps ds
  b : Binds K fd ps []
end HX
namespace HE
open PySem PySem.Spec PyProof.Rows L2 SX HL
/-! ## enumerate of a text, of a dict's keys -/
section
variable {prog : Program} {w : World} {A : Around} {E : Value → Shared → Prop} {s : Shared}
theorem keys_item {it d : Addr} {i n ep : Nat} {od : Obj} {es : Array DictEntry} {en : DictEntry} {Q : Value → Shared → Prop} (hit : s.heap.IsKeyIter it d i n ep) (hod : s.heap.get? d = some od) (hdd : od.data = .dict es ep) (hn : es.size = n) (hx : es[i]? = some en)
    (q : ∀ h', h'.IsKeyIter it d (i + 1) n ep → Heap.SameBut it s.heap h' → Q en.key { s with heap := h' }) : wpAny (model prog w) A (Builtin.SmallTypes.nextOf (.ref it)) Q E s := by
  obtain ⟨o, ho, oc, hd⟩ := id hit
  unfold Builtin.SmallTypes.nextOf
  refine wpAny_bind (wpAny_callSpecial?_slot (name := Str.ofString "__next__") hit.typeIs F.slot_dict_keyiterator_next (wpAny_call_entry F.slot_dict_keyiterator_next hit.typeIs F.entry_dict_keyiterator_next ?_ (F.args_dict_keyiterator_next_1 _)))
  refine wpAny_bind (wpAny_pure (wpAny_bind (wpAny_bind ?_)))
  first | refine wpAny_bind (wpAny_typeNameOfWhole_keyiter hit.typeIs (wpAny_pure (wpAny_bind (wpAny_fieldsOf ho hd ?_)))) | refine wpAny_bind (wpAny_typeNameOf_keyiter hit.typeIs (wpAny_pure (wpAny_bind (wpAny_fieldsOf ho hd ?_))))
  have own : Builtin.Dict_items.ownsTuple "dict_keyiterator" = false := by decide
  simp only [own, Bool.false_eq_true, if_false]
  show wpAny _ A.in1 (if (Value.ref d == Value.none) = true then _ else _) _ _ s
  rw [if_neg (show ¬ (Value.ref d == Value.none) = true from Bool.false_ne_true)]; refine wpAny_bind (wpAny_pure (wpAny_bind (wpAny_dictEntries hod hdd ?_)))
  rw [if_neg (by rw [hn]; simp)]; refine wpAny_bind (wpAny_pure (wpAny_bind (wpAny_dictEpoch hod hdd ?_)))
  rw [if_neg (by simp)]; refine wpAny_pure ?_
  obtain ⟨lt, he⟩ := Array.getElem?_eq_some_iff.mp hx
  simp only [show ¬ ((i : Int) < 0) from by omega, if_false, Int.toNat_natCast, Array.getElem?_eq_getElem lt]; refine wpAny_bind ?_
  first | refine wpAny_bind (wpAny_typeNameOfWhole_keyiter hit.typeIs (wpAny_pure (wpAny_bind (wpAny_isOneOf_keyiter hit.typeIs ?_)))) | refine wpAny_bind (wpAny_typeNameOf_keyiter hit.typeIs (wpAny_pure (wpAny_bind (wpAny_isOneOf_keyiter hit.typeIs ?_))))
  show wpAny _ _ (setField (.ref it) 1 (rawInt ((i : Int) + 1)) >>= _) _ _ s
  refine wpAny_bind (wpAny_setField ho hd (by simp) ?_)
  have it2 : (s.heap.update it (Obj.mapFields (·.setIfInBounds 1 (rawInt ((i : Int) + 1))))).IsKeyIter it d (i + 1) n ep := ⟨_, Heap.get?_update_self _ ho (Obj.isFreed_of_fields (Obj.data_mapFields hd _)), (Obj.cls_mapFields ..).trans oc, by rw [Obj.data_mapFields hd]; simp [rawInt]⟩
  refine wpAny_bind (wpAny_holding (wpAny_bind (wpAny_isOneOf_keyiter (s := { s with heap := s.heap.update it (Obj.mapFields (·.setIfInBounds 1 (rawInt ((i : Int) + 1)))) }) it2.typeIs ?_)))
  show wpAny _ A.in1 (pure es[i].key) _ _ _
  rw [he]; exact wpAny_pure (wpAny_pure ⟨_, rfl, wpAny_pure (q _ it2 (Heap.SameBut.update ..))⟩)
theorem keys_end {it d : Addr} {i n ep : Nat} {od : Obj} {es : Array DictEntry} {Q : Value → Shared → Prop} (hh : A.handled = none) (hit : s.heap.IsKeyIter it d i n ep) (hod : s.heap.get? d = some od) (hdd : od.data = .dict es ep) (hn : es.size = n) (hge : n ≤ i)
    (q : ∀ h' x, Heap.ExtBut it s.heap h' → (∃ o, h'.get? x = some o ∧ o.cls = .type "StopIteration") → E (.ref x) { s with heap := h' }) : wpAny (model prog w) A (Builtin.SmallTypes.nextOf (.ref it)) Q E s := by
  obtain ⟨o, ho, oc, hd⟩ := id hit
  unfold Builtin.SmallTypes.nextOf
  refine wpAny_bind (wpAny_callSpecial?_slot (name := Str.ofString "__next__") hit.typeIs F.slot_dict_keyiterator_next (wpAny_call_entry F.slot_dict_keyiterator_next hit.typeIs F.entry_dict_keyiterator_next ?_ (F.args_dict_keyiterator_next_1 _)))
  refine wpAny_bind (wpAny_pure (wpAny_bind (wpAny_bind ?_)))
  first | refine wpAny_bind (wpAny_typeNameOfWhole_keyiter hit.typeIs (wpAny_pure (wpAny_bind (wpAny_fieldsOf ho hd ?_)))) | refine wpAny_bind (wpAny_typeNameOf_keyiter hit.typeIs (wpAny_pure (wpAny_bind (wpAny_fieldsOf ho hd ?_))))
  have own : Builtin.Dict_items.ownsTuple "dict_keyiterator" = false := by decide
  simp only [own, Bool.false_eq_true, if_false]
  show wpAny _ A.in1 (if (Value.ref d == Value.none) = true then _ else _) _ _ s
  rw [if_neg (show ¬ (Value.ref d == Value.none) = true from Bool.false_ne_true)]; refine wpAny_bind (wpAny_pure (wpAny_bind (wpAny_dictEntries hod hdd ?_)))
  rw [if_neg (by rw [hn]; simp)]; refine wpAny_bind (wpAny_pure (wpAny_bind (wpAny_dictEpoch hod hdd ?_)))
  rw [if_neg (by simp)]; refine wpAny_pure ?_
  have ge : es.size ≤ i := by rw [hn]; exact hge
  simp only [show ¬ ((i : Int) < 0) from by omega, if_false, Int.toNat_natCast, Array.getElem?_eq_none ge]; refine wpAny_bind ?_
  first | refine wpAny_bind (wpAny_typeNameOfWhole_keyiter hit.typeIs (wpAny_pure ?_)) | refine wpAny_bind (wpAny_typeNameOf_keyiter hit.typeIs (wpAny_pure ?_))
  show wpAny _ A.in1 (setField (.ref it) 0 .none >>= _) _ _ s
  refine wpAny_bind (wpAny_setField ho hd (by simp) ?_)
  show wpAny _ A.in1 (newExc (.type "StopIteration") [] >>= _) _ _ _
  refine wpAny_bind ?_
  simp only [newExc, newTuple]; refine wpAny_bind (wpAny_newObj_type ?_ (by size_fits))
  refine wpAny_bind (m := firstArgMember _ _) (wpAny_of_eq (a := Value.none) (by first | rfl | (simp only [firstArgMember]; rfl)) (wpAny_newObj_type ?_ (by size_fits)))
  simp only [raiseNew]; refine wpAny_bind (wpAny_handled ?_)
  first | rw [show A.in1.handled = none from hh] | rw [hh]
  refine wpAny_bind (wpAny_pure (wpAny_throw ?_))
  exact q _ _ (((Heap.SameBut.update ..).extBut.push _).push _) ⟨_, Heap.get?_push_size _ rfl, rfl⟩
theorem draws_keys (hh : A.handled = none) (it d : Addr) (hne : d ≠ it) {od : Obj} {es : Array DictEntry} {ep : Nat} (hdd : od.data = .dict es ep) :
    Draws prog w A it [it, d] es.size (fun i v => ∃ en, es[i]? = some en ∧ v = en.key) (fun i h => h.IsKeyIter it d i es.size ep ∧ h.get? d = some od) where
  live := fun _ _ st => let ⟨o, ho, _⟩ := st.1; ⟨o, ho⟩
  frame := fun _ _ _ st k => ⟨st.1.at fun o e => k it (by simp) o e, k d (by simp) _ st.2⟩
  item := fun i s Q E hi st q => by
    refine keys_item st.1 st.2 hdd rfl (en := es[i]) (Array.getElem?_eq_getElem hi) fun h' it' sb => ?_
    exact q _ h' s.toks ⟨_, Array.getElem?_eq_getElem hi, rfl⟩ ⟨it', (sb.2 d hne).trans st.2⟩ sb
  done := fun s Q E st q => keys_end hh st.1 st.2 hdd rfl (Nat.le_refl _) q
end
open AutoSeq1 (wpAny_loadPart')
theorem meets_keys (d : Addr) (o : Obj) (es : Array DictEntry) (ep : Nat) (hd : (d == sysModules) = false) (hc : o.ExactDict) (hdat : o.data = .dict es ep) :
    Meets (Builtin.«enumerate.__new__» ⟨[.type "enumerate", .ref d], []⟩) (fun _ R s => s.heap.get? d = some o ∧
      R (.ok (.ret (.ref (s.heap.push { cls := .type "dict_keyiterator", data := .fields #[.ref d, .int 0 0, .int es.size 0, .int ep 0] }).objs.size)))
        { s with heap := (s.heap.push { cls := .type "dict_keyiterator", data := .fields #[.ref d, .int 0 0, .int es.size 0, .int ep 0] }).push { cls := .type "enumerate", data := .fields #[.none, .bool false, .ref s.heap.objs.size, rawInt 0, .none, .none] } }) :=
  .of_wp fun prog w A R s h => by
    obtain ⟨hp, g, dr, tk, os⟩ := s
    obtain ⟨ho, h⟩ := h
    have hsub := sub_enumerate
    have ik : ∀ {A : Around} {E : Value → Shared → Prop} {Q : Value → Shared → Prop}, Q (.ref hp.objs.size) ⟨hp.push { cls := .type "dict_keyiterator", data := .fields #[.ref d, .int 0 0, .int es.size 0, .int ep 0] }, g, dr, tk, os⟩ → wpAny (model prog w) A (pyIter (.ref d)) Q E ⟨hp, g, dr, tk, os⟩ := fun q => iter_keys (s := ⟨hp, g, dr, tk, os⟩) hd ho hc hdat q
    wp_walk using wpAny_loadPart' ho
    refine wpAny_stack_any fun st => wpAny_pure ?_
    split
    · rename_i c _ _ _ _ _
      cases (c == Value.type "enumerate") <;> (wp_walk using wpAny_loadPart' ho, ik; exact ⟨_, rfl, h⟩)
    · wp_walk using wpAny_loadPart' ho, ik
      exact ⟨_, rfl, h⟩
theorem call_enum_keys {prog : Program} {w : World} {A : Around} {E : Value → Shared → Prop} {s : Shared} {d : Addr} {o : Obj} {es : Array DictEntry} {ep : Nat} {Q : Value → Shared → Prop} (hd : (d == sysModules) = false) (ho : s.heap.get? d = some o) (hc : o.ExactDict) (hdat : o.data = .dict es ep)
    (q : ∀ h', IsEnum h' (s.heap.objs.size + 1) s.heap.objs.size 0 .none → h'.IsKeyIter s.heap.objs.size d 0 es.size ep → (∀ b x, s.heap.get? b = some x → h'.get? b = some x) → Q (.ref (s.heap.objs.size + 1)) { s with heap := h' }) :
    wpAny (model prog w) A (call (.type "enumerate") [.ref d]) Q E s := by
  refine callType_new F.called_enumerate (by decide) (F.typeCall_enumerate_1 _) (F.newCall_enumerate_1 _) (fun obj => F.args_object_init_2 obj _) F.entry_enumerate_new (meets_keys d o es ep hd hc hdat) ⟨ho, ?_⟩
  have hz : (s.heap.push { cls := .type "dict_keyiterator", data := .fields #[.ref d, .int 0 0, .int es.size 0, .int ep 0] }).objs.size = s.heap.objs.size + 1 := Heap.size_push ..
  show _ ∧ _
  rw [hz]
  have he : IsEnum ((s.heap.push { cls := .type "dict_keyiterator", data := .fields #[.ref d, .int 0 0, .int es.size 0, .int ep 0] }).push { cls := .type "enumerate", data := .fields #[.none, .bool false, .ref s.heap.objs.size, rawInt 0, .none, .none] }) (s.heap.objs.size + 1) s.heap.objs.size 0 .none := by
    have := Heap.get?_push_size (s.heap.push { cls := .type "dict_keyiterator", data := .fields #[.ref d, .int 0 0, .int es.size 0, .int ep 0] }) (o := { cls := .type "enumerate", data := .fields #[.none, .bool false, .ref s.heap.objs.size, rawInt 0, .none, .none] }) rfl
    rwa [hz] at this
  exact ⟨⟨_, he, rfl⟩, q _ he ⟨_, Heap.get?_push_of_some _ (Heap.get?_push_size _ rfl), rfl, rfl⟩ fun b x e => Heap.get?_push_of_some _ (Heap.get?_push_of_some _ e)⟩
/-- (0, key), (1, key), ..: the locked dict at d -/
def Itek (d : Addr) (o : Obj) (kvs : List (Key × V)) : It :=
  ⟨fun i H => H d = some (.frz o (.dK kvs)) ∧ i < kvs.length, fun i H v H' => ∃ T k x, kvs[i]? = some (k, x) ∧ v = .ref T ∧ H T = none ∧ H' = upd H T (.tup [.int (i : Nat), kV k]), fun i H => H d = some (.frz o (.dK kvs)) ∧ kvs.length ≤ i⟩
theorem turn_enumK {P : Program} {w : World} {K : PySem.W.Frag} {elts : List Expr} {kk : Nat} {tpos : Pos} {d : Addr} {o : Obj} {kvs : List (Key × V)} {es : Array DictEntry} {ep : Nat} (e it : Addr) (hod : o.data = .dict es ep) :
    Turn P w K (.Tuple elts kk tpos) (Itek d o kvs) [e, it] e (fun i h => (∃ old, IsEnum h e it ((i : Nat) : Int) old) ∧ h.IsKeyIter it d i kvs.length ep ∧ e ≠ it ∧ i ≤ kvs.length) where
  mem := by simp
  obj := fun i h st b hb => by
    obtain ⟨⟨old, he⟩, ⟨o', ho, hc, hd⟩, _⟩ := st
    rcases (show b = e ∨ b = it by simpa using hb) with z | z
    · rw [z]; exact ⟨_, he, fun v q => nomatch q⟩
    · rw [z]; exact ⟨o', ho, fun v q => by rw [hd] at q; cases q⟩
  keep := fun i h h' st k => let ⟨⟨old, he⟩, hi, hne, hle⟩ := st; ⟨⟨old, k e (by simp) _ he⟩, hi.at fun o q => k it (by simp) o q, hne, hle⟩
  item := by
    intro X hP hw hK hc i pins s σ H E I hf st hg
    subst hP hw hK
    obtain ⟨⟨old, he⟩, hit, hne, hle⟩ := st
    obtain ⟨hd, hi⟩ := hg
    obtain ⟨hs, hgd, hx, es', ep', vs, hdt, hsz, kv, hm⟩ := I.frzK hd
    obtain ⟨rfl, rfl⟩ := dict_ep hod hdt
    have hel : e < s.heap.objs.size := Heap.lt_size he
    have hil : it < s.heap.objs.size := by obtain ⟨_, q, _⟩ := hit; exact Heap.lt_size q
    have nd : ∀ b, FpOk X pins H b → d ≠ b := fun b hb z => by rw [← z] at hb; have := hb.1; rw [hd] at this; cases this
    have ndi := nd it (hf it (by simp))
    have nde := nd e (hf e (by simp))
    obtain ⟨⟨k, v⟩, hkv⟩ : ∃ p, kvs[i]? = some p := ⟨kvs[i], List.getElem?_eq_getElem hi⟩
    have D := draws_keys (prog := X.prog) (w := X.w) (A := X.A.in1) (I.ok.hd hc) it d ndi hdt
    rw [← hsz] at hit hi
    refine wpAny_pyNext_enum_itemD D he ⟨hit, hgd⟩ hi hne (by simp [hne, nde.symm]) fun x h' tk hP ho st' hT hsz' hk => ?_
    obtain ⟨en, hen, rfl⟩ := hP
    refine ⟨_, rfl, wpAny_letOwnedTupleGo_enum (s := { s with heap := h', toks := tk + 1 }) ho fun h'' he' sb => ?_⟩
    have hT2 : h''.get? s.heap.objs.size = some { cls := .type "tuple", data := .seq #[.int i tk, en.key] } := (sb.2 _ (Nat.ne_of_gt hel)).trans hT
    have rk : RelV (kV k) en.key := by
      obtain ⟨u, hu, _⟩ := kv_get kv hkv
      obtain ⟨od, es2, hod2, hcd, hdd, hks, hp, hnn⟩ := id hm
      rw [hgd] at hod2
      cases hod2
      rw [hdt] at hdd
      cases hdd
      exact relV_key (hp.get? (by simpa using hen) hu).1
    have new : ObjOk X.prog X.w (upd H s.heap.objs.size (.tup [.int (i : Nat), kV k])) h'' s.heap.objs.size (.tup [.int (i : Nat), kV k]) :=
      ⟨by show 2 ≤ sizeLine; decide, [.int i tk, en.key], .cons ⟨_, rfl⟩ (.cons rk .nil), ⟨_, hT2, rfl, _, rfl⟩⟩
    have I1 : Inv X pins σ (upd H s.heap.objs.size (.tup [.int (i : Nat), kV k])) { s with heap := h'', toks := tk + 1 } :=
      I.turnedNew (ch := [e, it]) (fun b ob hb q => (sb.2 b (fun z => hb (by simp [z]))).trans (hk b ob (fun z => hb (by simp [z])) (fun z => hb (by simp [z])) q)) hf (Nat.le_refl _) new
    refine ⟨.ref s.heap.objs.size, _, I1, rfl, ⟨_, k, v, hkv, rfl, I.hok.fresh (Nat.le_refl _), rfl⟩, ⟨⟨en.key, ?_⟩, ?_, hne, by omega⟩, fun b hb => ?_⟩
    · have e1 : ((i + 1 : Nat) : Int) = (i : Int) + 1 := by omega
      rw [e1]; exact he'
    · rw [← hsz]
      exact st'.1.at fun o q => (sb.2 it (Ne.symm hne)).trans q
    · have hb' : b < s.heap.objs.size := by
        rcases (show b = e ∨ b = it by simpa using hb) with z | z
        · rw [z]; exact hel
        · rw [z]; exact hil
      rw [upd_ne (Nat.ne_of_lt hb')]
      exact (hf b hb).1
  done := by
    intro X hP hw hK hc i pins s σ H E I hf st hg
    subst hP hw hK
    obtain ⟨⟨old, he⟩, hit, hne, hle⟩ := st
    obtain ⟨hd, hi⟩ := hg
    obtain ⟨hs, hgd, hx, es', ep', vs, hdt, hsz, kv, hm⟩ := I.frzK hd
    obtain ⟨rfl, rfl⟩ := dict_ep hod hdt
    obtain ⟨f0, f1, f2, f3, f4, f5⟩ := hf it (by simp)
    have nd : d ≠ it := fun z => by rw [← z, hd] at f0; cases f0
    have nde : d ≠ e := fun z => by have := (hf e (by simp)).1; rw [← z, hd] at this; cases this
    have ei : i = es'.size := by omega
    have D := draws_keys (prog := X.prog) (w := X.w) (A := X.A.in1) (I.ok.hd hc) it d nd hdt
    rw [← hsz, ei] at hit
    rw [ei] at he
    exact wpAny_pyNext_enum_endD D he ⟨hit, hgd⟩ fun h' eb => ⟨rfl, I.turned (t' := s.toks) (fun b o hb q => eb b o hb q) f0 f1 f3 f4 f5⟩
  self := fun A i s Q E st h => let ⟨⟨_, he⟩, _⟩ := st; wpAny_pyIter_enum he h
def iEnumK (ta : TA) : TI := fun σ H R => ta σ H fun vs H1 => ∃ d o kvs, vs = [.ref d] ∧ H1 d = some (.frz o (.dK kvs)) ∧ R (Itek d o kvs) H1
/-- for i, k in enumerate(d), d locked -/
theorem pi_enumK {X : Cx} {e : Expr} {ta : TA} {p pos tpos : Pos} {elts : List Expr} {kk : Nat} (hg : Gl X "enumerate") (hm : X.mg "enumerate" = none) (ha : PA X [e] ta) (hs : starEach [e] X.env = [(false, eval e X.env)] := by rfl) :
    PI X (.Tuple elts kk tpos) (.Call (.Name "enumerate" p) [e] [] pos) (iEnumK ta) := by
  refine ⟨fun pins s σ H R I h => Call_ (ld_blt I hg hm boot_enumerate (PyProof.Rows.callWith_type1 (thn (ha.run pos pins s σ H _ I h) fun us s1 ⟨vs, H1, I1, r1, q1⟩ => ?_) hs rfl))⟩
  obtain ⟨d, o, kvs, ex, hd, q⟩ := q1
  subst ex
  cases r1 with
  | cons r rr =>
    cases rr
    cases r
    obtain ⟨hsm, hgd, hx, es, ep, vs, hdt, hsz, kv, hmm⟩ := I1.frzK hd
    refine call_enum_keys hsm hgd hx hdt fun h' he hit hk => wpAny_pyIter_enum he ?_
    have I2 : Inv X pins σ H1 { s1 with heap := h' } := I1.kept (t' := s1.toks) hk
    rw [hsz] at hit
    refine ⟨s1.heap.objs.size + 1, [s1.heap.objs.size + 1, s1.heap.objs.size], _, _, H1, rfl, I2, turn_enumK (s1.heap.objs.size + 1) s1.heap.objs.size hdt, ⟨⟨.none, he⟩, hit, Nat.succ_ne_self _, Nat.zero_le _⟩, fun b hb => ?_, q⟩
    have hle : s1.heap.objs.size ≤ b := by
      rcases (show b = s1.heap.objs.size + 1 ∨ b = s1.heap.objs.size by simpa using hb) with z | z
      · rw [z]; exact Nat.le_add_right _ _
      · rw [z]; exact Nat.le_refl _
    exact I1.fpOk hle (I1.hok.fresh hle)
/-- (0, sign), (1, sign), ..: a text -/
def Ites (z : Str) : It :=
  ⟨fun i _ => i < z.cps.size, fun i H v H' => ∃ T c, z.cps[i]? = some c ∧ v = .ref T ∧ H T = none ∧ H' = upd H T (.tup [.int (i : Nat), .str ⟨#[c]⟩]), fun i _ => z.cps.size ≤ i⟩
theorem draws_str {prog : Program} {w : World} {A : Around} (hh : A.handled = none) (it : Addr) (x : Str) (t : Tok) : Draws prog w A it [it] x.cps.size (fun i v => ∃ c u, x.cps[i]? = some c ∧ v = .str ⟨#[c]⟩ u) (fun i h => h.IsStrIter it (strIterType x) x t i) := by
  unfold strIterType
  split
  · exact Draws.strAscii hh it x t
  · exact Draws.strWide hh it x t
theorem turn_enumS {P : Program} {w : World} {K : PySem.W.Frag} {elts : List Expr} {kk : Nat} {tpos : Pos} {z : Str} {t : Tok} (e it : Addr) :
    Turn P w K (.Tuple elts kk tpos) (Ites z) [e, it] e (fun i h => (∃ old, IsEnum h e it ((i : Nat) : Int) old) ∧ h.IsStrIter it (strIterType z) z t i ∧ e ≠ it ∧ i ≤ z.cps.size) where
  mem := by simp
  obj := fun i h st b hb => by
    obtain ⟨⟨old, he⟩, ⟨o', ho, hc, hd⟩, _⟩ := st
    rcases (show b = e ∨ b = it by simpa using hb) with y | y
    · rw [y]; exact ⟨_, he, fun v q => nomatch q⟩
    · rw [y]; exact ⟨o', ho, fun v q => by rw [hd] at q; cases q⟩
  keep := fun i h h' st k => let ⟨⟨old, he⟩, ⟨o, ho, r⟩, hne, hle⟩ := st; ⟨⟨old, k e (by simp) _ he⟩, ⟨o, k it (by simp) o ho, r⟩, hne, hle⟩
  item := by
    intro X hP hw hK hc i pins s σ H E I hf st hi
    subst hP hw hK
    obtain ⟨⟨old, he⟩, hit, hne, hle⟩ := st
    have hel : e < s.heap.objs.size := Heap.lt_size he
    have hil : it < s.heap.objs.size := by obtain ⟨_, q, _⟩ := hit; exact Heap.lt_size q
    have D := draws_str (prog := X.prog) (w := X.w) (A := X.A.in1) (I.ok.hd hc) it z t
    refine wpAny_pyNext_enum_itemD D he hit hi hne (by simp [hne]) fun x h' tk hP ho st' hT hsz' hk => ?_
    obtain ⟨c, u, hcu, rfl⟩ := hP
    refine ⟨_, rfl, wpAny_letOwnedTupleGo_enum (s := { s with heap := h', toks := tk + 1 }) ho fun h'' he' sb => ?_⟩
    have hT2 : h''.get? s.heap.objs.size = some { cls := .type "tuple", data := .seq #[.int i tk, .str ⟨#[c]⟩ u] } := (sb.2 _ (Nat.ne_of_gt hel)).trans hT
    have new : ObjOk X.prog X.w (upd H s.heap.objs.size (.tup [.int (i : Nat), .str ⟨#[c]⟩])) h'' s.heap.objs.size (.tup [.int (i : Nat), .str ⟨#[c]⟩]) :=
      ⟨by show 2 ≤ sizeLine; decide, [.int i tk, .str ⟨#[c]⟩ u], .cons ⟨_, rfl⟩ (.cons ⟨_, rfl⟩ .nil), ⟨_, hT2, rfl, _, rfl⟩⟩
    have I1 : Inv X pins σ (upd H s.heap.objs.size (.tup [.int (i : Nat), .str ⟨#[c]⟩])) { s with heap := h'', toks := tk + 1 } :=
      I.turnedNew (ch := [e, it]) (fun b ob hb q => (sb.2 b (fun z => hb (by simp [z]))).trans (hk b ob (fun z => hb (by simp [z])) (fun z => hb (by simp [z])) q)) hf (Nat.le_refl _) new
    have hi' : i < z.cps.size := hi
    refine ⟨.ref s.heap.objs.size, _, I1, rfl, ⟨_, c, hcu, rfl, I.hok.fresh (Nat.le_refl _), rfl⟩, ⟨⟨.str ⟨#[c]⟩ u, ?_⟩, ?_, hne, by omega⟩, fun b hb => ?_⟩
    · have e1 : ((i + 1 : Nat) : Int) = (i : Int) + 1 := by omega
      rw [e1]; exact he'
    · obtain ⟨o, ho', r⟩ := st'
      exact ⟨o, (sb.2 it (Ne.symm hne)).trans ho', r⟩
    · have hb' : b < s.heap.objs.size := by
        rcases (show b = e ∨ b = it by simpa using hb) with y | y
        · rw [y]; exact hel
        · rw [y]; exact hil
      rw [upd_ne (Nat.ne_of_lt hb')]
      exact (hf b hb).1
  done := by
    intro X hP hw hK hc i pins s σ H E I hf st hi
    subst hP hw hK
    obtain ⟨⟨old, he⟩, hit, hne, hle⟩ := st
    obtain ⟨f0, f1, f2, f3, f4, f5⟩ := hf it (by simp)
    have hi' : z.cps.size ≤ i := hi
    have ei : i = z.cps.size := by omega
    have D := draws_str (prog := X.prog) (w := X.w) (A := X.A.in1) (I.ok.hd hc) it z t
    rw [ei] at hit he
    exact wpAny_pyNext_enum_endD D he hit fun h' eb => ⟨rfl, I.turned (t' := s.toks) (fun b o hb q => eb b o hb q) f0 f1 f3 f4 f5⟩
  self := fun A i s Q E st h => let ⟨⟨_, he⟩, _⟩ := st; wpAny_pyIter_enum he h
def iEnumS (ta : TA) : TI := fun σ H R => ta σ H fun vs H1 => ∃ z, vs = [.str z] ∧ R (Ites z) H1
/-- for i, c in enumerate(text) -/
theorem pi_enumS {X : Cx} {e : Expr} {ta : TA} {p pos tpos : Pos} {elts : List Expr} {kk : Nat} (hg : Gl X "enumerate") (hm : X.mg "enumerate" = none) (ha : PA X [e] ta) (hs : starEach [e] X.env = [(false, eval e X.env)] := by rfl) :
    PI X (.Tuple elts kk tpos) (.Call (.Name "enumerate" p) [e] [] pos) (iEnumS ta) := by
  refine ⟨fun pins s σ H R I h => Call_ (ld_blt I hg hm boot_enumerate (PyProof.Rows.callWith_type1 (thn (ha.run pos pins s σ H _ I h) fun us s1 ⟨vs, H1, I1, r1, q1⟩ => ?_) hs rfl))⟩
  obtain ⟨z, ex, q⟩ := q1
  subst ex
  cases r1 with
  | cons r rr =>
    cases rr
    obtain ⟨t, rfl⟩ := r
    refine call_enumerate_str fun h' he hit hsz hk => wpAny_pyIter_enum he ?_
    have I2 : Inv X pins σ H1 { s1 with heap := h' } := I1.kept (t' := s1.toks) hk
    refine ⟨s1.heap.objs.size + 1, [s1.heap.objs.size + 1, s1.heap.objs.size], _, _, H1, rfl, I2, turn_enumS (s1.heap.objs.size + 1) s1.heap.objs.size, ⟨⟨.none, he⟩, hit, Nat.succ_ne_self _, Nat.zero_le _⟩, fun b hb => ?_, q⟩
    have hle : s1.heap.objs.size ≤ b := by
      rcases (show b = s1.heap.objs.size + 1 ∨ b = s1.heap.objs.size by simpa using hb) with y | y
      · rw [y]; exact Nat.le_add_right _ _
      · rw [y]; exact Nat.le_refl _
    exact I1.fpOk hle (I1.hok.fresh hle)
/-! ## name = {k: v for ..} on one line, the name a local -/
section
variable {X : Cx}
theorem ps_setDc {i : Nat} {y : Str} {py : Pos} {kx vx tg iter : Expr} {ifs : List Expr} {scope : Scope} {own : List (Str × Nat)} {pos spos : Pos} {wi : TI} {g : TG} {tt : TT} {tk tv : TE} (hc : X.calm = true) (hN : X.N.Nodup) (hy : X.N[i]? = some y) (hyl : X.env.scope.names.lookup y = some .local)
    (hsw : swapsWith (.DictComp kx vx [⟨tg, iter, ifs, 0⟩] scope pos) (some (.Name y py)) spos.line X.env = pure true) (hi : PI X tg iter wi) (ok : BlkOk X.N X.env.scope scope own)
    (hg : ∀ (s : Shared) (H : Hp) (C : Addr) (cl : List (Str × Addr)) (fp : List Addr), PG (X.blk s H scope (compEnvC scope cl C X.env) fp) tg g) (ht : ∀ (s : Shared) (H : Hp) (C : Addr) (cl : List (Str × Addr)) (fp : List Addr), PTs (X.blk s H scope (compEnvC scope cl C X.env) fp) ifs tt)
    (hk : ∀ (s : Shared) (H : Hp) (C : Addr) (cl : List (Str × Addr)) (fp : List Addr), PE (X.blk s H scope (compEnvC scope cl C X.env) fp) kx tk)
    (he : ∀ (s : Shared) (H : Hp) (C : Addr) (cl : List (Str × Addr)) (fp : List Addr), PE (X.blk s H scope (compEnvC scope cl C X.env) fp) vx tv) (hs : ∀ x, foldedSetIterable iter X.env x = pure x := by intro _; rfl) :
    PS X (.Assign [.Name y py] (.DictComp kx vx [⟨tg, iter, ifs, 0⟩] scope pos) spos) (tAsg (tDc wi g tt tk tv (own.map (·.2))) (gName i)) := by
  refine ⟨fun pins s σ H D I h => ?_⟩
  rw [exec_Assign_Name_used _ _ _ _ hsw]
  refine wpAny_bind (wpAny_standAt (wpAny_bind ?_))
  show wpAny _ X.A (do let _ ← comprehension (.DictComp kx vx [⟨tg, iter, ifs, 0⟩] scope pos) scope X.env (firstIterPos [⟨tg, iter, ifs, 0⟩] pos) newDict false (eval iter X.env) (some (assign (.Name y py) X.env))) _ _ s
  have h : tDc wi g tt tk tv (own.map (·.2)) σ H (fun x H1 => gName i x σ H1 D.nx) := h
  refine wpAny_bind (thn (dc_core (Qf := fun _ s' => SP X pins D .next s') hc hN I hi ok hg ht hk he hs h fun L C s' m H' I' q hn f => ?_) fun _ s' hq => wpAny_pure (wpAny_pure hq))
  show wpAny _ _ (assign (.Name y py) X.env (.ref L)) _ _ _
  refine wpAny_assign_Name (store_ok2 (v := V.ref L) I' hN hy (.inl hyl) rfl (fun s2 I2 ⟨a, sb, ha⟩ => ?_) (.inr hyl))
  obtain ⟨f0, f1, f2, f3, f4, f5⟩ := f
  have haC : C ≠ a := by
    rcases ha with z | z
    · rw [z]; exact f1
    · exact fun e => f4 y a z e.symm
  refine ⟨m, hn.sameBut sb haC, fun h3 sb3 => ?_⟩
  exact ⟨_, H', I2.turned (t' := s2.toks) (fun b o hb e => (sb3.2 b hb).trans e) f0 f1 f3 f4 f5, q⟩
theorem swd_true {kx vx : Expr} {gs : List Comprehension} {scope : Scope} {pos py : Pos} {y : Str} {l : Nat} {env : Env} (hk : env.scope.kind = .function) (hy : env.scope.names.lookup y = some .local) (hl : (py.line == pos.line) = true)
    (ha : (scope.names.any fun (n, k) => n == y && (k == .local || k == .cell)) = false) : swapsWith (.DictComp kx vx gs scope pos) (some (.Name y py)) l env = pure true := by
  have ky : env.kindOf y = some .local := hy
  have hb : env.blockKind = .function := by unfold Env.blockKind; rw [hk]; rfl
  unfold swapsWith
  simp only [hb, ky, ha, Expr.pos, hl]
  rfl
end
section
theorem walk_enumK {d : Addr} {o : Obj} {kvs : List (Key × V)} : Walk (Itek d o kvs) kvs.length (fun H => H d = some (.frz o (.dK kvs))) (YPair (fun i => some (.int (i : Nat))) (fun i => kvs[i]?.map fun kv => kV kv.1)) := by
  refine ⟨fun _ _ hi q => ⟨q, hi⟩, fun _ q => ⟨q, Nat.le_refl _⟩, fun i H x H' _ _ y => ?_⟩
  obtain ⟨T, k, v, h1, h2, h3, h4⟩ := y
  exact ⟨T, .int (i : Nat), kV k, h2, h3, h4, rfl, by simp [h1]⟩
variable {J : It} {n : Nat} {G : Hp → Prop} {Y : Nat → Hp → V → Hp → Prop}
/-- a dict comprehension over it -/
theorem dc_it (w : Walk J n G Y) {g : TG} {tt : TT} {tk tv : TE} {vs : List Nat} {σ : L2.St} {H1 : Hp} {D : Addr} {Qd : Hp → Prop} (Pv : Nat → Hp → Prop) (h0 : Pv 0 (upd H1 D (.dK []))) (hG : ∀ i H, i ≤ n → Pv i H → G H)
    (hs : ∀ i x H H', i < n → Pv i H → Y i H x H' → g x (wipe σ vs) H' fun σ2 H2 => wipe σ2 vs = wipe σ vs ∧ tt σ2 H2 fun b H3 =>
      if b = true then tk σ2 H3 fun y H4 => tv σ2 H4 fun z H5 => ∃ kvs k, y = kV k ∧ H5 D = some (.dK kvs) ∧ kvs.length < sizeLine ∧ Pv (i + 1) (upd H5 D (.dK (putK kvs k z))) else Pv (i + 1) H3) (hd : ∀ H, Pv n H → Qd H) :
    ∃ W : Nat → Nat → Hp → Prop, (∃ m, W 0 m (upd H1 D (.dK []))) ∧ ∀ i m H, W i m H →
      (J.stop i H ∧ Qd H) ∨ (J.go i H ∧ ∃ Nx : Hp → Prop, (∀ H', Nx H' → ∃ m', m' < m ∧ W (i + 1) m' H') ∧ ∀ x H', J.yld i H x H' → g x (wipe σ vs) H' fun σ2 H2 => wipe σ2 vs = wipe σ vs ∧ tt σ2 H2 fun b H3 =>
        if b = true then tk σ2 H3 fun y H4 => tv σ2 H4 fun z H5 => ∃ kvs k, y = kV k ∧ H5 D = some (.dK kvs) ∧ kvs.length < sizeLine ∧ Nx (upd H5 D (.dK (putK kvs k z))) else Nx H3) := by
  refine ⟨fun i m H => m = n - i ∧ i ≤ n ∧ Pv i H, ⟨n, by simp, Nat.zero_le _, h0⟩, ?_⟩
  rintro i m H ⟨rfl, hi, p⟩
  have q := hG i H hi p
  by_cases hlt : i < n
  · exact .inr ⟨w.goes i H hlt q, Pv (i + 1), fun H' p' => ⟨n - (i + 1), by omega, rfl, hlt, p'⟩, fun x H' y => hs i x H H' hlt p (w.yields i H x H' hlt q y)⟩
  · have e : i = n := by omega
    subst e
    exact .inl ⟨w.stops H q, hd H p⟩
end
end HE
namespace NM
/-! ### numbers as bytes -/
def enc (n : Nat) : List Nat := if h : n < 128 then [n] else (128 + n % 128) :: enc (n / 128)
termination_by n
decreasing_by omega
theorem enc_lt {n : Nat} (h : n < 128) : enc n = [n] := by
  rw [enc, dif_pos h]
theorem enc_ge {n : Nat} (h : 128 ≤ n) : enc n = (128 + n % 128) :: enc (n / 128) := by
  rw [enc, dif_neg (by omega)]
theorem enc_bytes (n : Nat) : ∀ b ∈ enc n, b < 256 := by
  induction n using Nat.strongRecOn with
  | ind n ih =>
    by_cases h : n < 128
    · rw [enc_lt h]
      intro b hb
      rw [List.mem_singleton.mp hb]
      omega
    · rw [enc_ge (by omega)]
      intro b hb
      rcases List.mem_cons.mp hb with e | e
      · omega
      · exact ih (n / 128) (by omega) b e
theorem enc_pos (n : Nat) : 0 < (enc n).length := by
  by_cases h : n < 128
  · rw [enc_lt h]; exact Nat.zero_lt_one
  · rw [enc_ge (by omega)]; exact Nat.succ_pos _
theorem enc_len {k : Nat} : ∀ n : Nat, n < 128 ^ (k + 1) → (enc n).length ≤ k + 1 := by
  induction k with
  | zero =>
    intro n h
    rw [enc_lt (by simpa using h)]
    exact Nat.le_refl _
  | succ k ih =>
    intro n h
    by_cases c : n < 128
    · rw [enc_lt c]
      exact Nat.succ_le_succ (Nat.zero_le _)
    · rw [enc_ge (by omega), List.length_cons]
      refine Nat.succ_le_succ (ih _ ?_)
      rw [Nat.div_lt_iff_lt_mul (by decide)]
      rwa [Nat.pow_succ] at h
/-- a number read from the front: at most so many bytes, the place, what stands already -/
def rnum : Nat → Nat → Nat → List Nat → Option (Nat × List Nat)
  | 0, _, _, _ => none
  | _ + 1, _, _, [] => none
  | f + 1, pl, acc, b :: r => if b = 0 ∧ 0 < pl then none else if b < 128 then some (acc + b % 128 * 128 ^ pl, r) else rnum f (pl + 1) (acc + b % 128 * 128 ^ pl) r
theorem mix (n p : Nat) : n % 128 * p + n / 128 * (p * 128) = n * p := by
  have e : n = 128 * (n / 128) + n % 128 := (Nat.div_add_mod n 128).symm
  have h : (128 * (n / 128) + n % 128) * p = n % 128 * p + n / 128 * (p * 128) := by
    rw [Nat.add_mul, Nat.mul_comm 128 (n / 128), Nat.mul_assoc, Nat.mul_comm 128 p]
    exact Nat.add_comm _ _
  rw [← h, ← e]
theorem rnum_enc : ∀ (f n pl acc : Nat) (rest : List Nat), n < 128 ^ (f + 1) → (0 < pl → n ≠ 0) → rnum (f + 1) pl acc (enc n ++ rest) = some (acc + n * 128 ^ pl, rest) := by
  intro f
  induction f with
  | zero =>
    intro n pl acc rest h hp
    have h1 : n < 128 := by simpa using h
    rw [enc_lt h1]
    show (if n = 0 ∧ 0 < pl then none else if n < 128 then some (acc + n % 128 * 128 ^ pl, rest) else _) = _
    rw [if_neg (fun z => hp z.2 z.1), if_pos h1, Nat.mod_eq_of_lt h1]
  | succ f ih =>
    intro n pl acc rest h hp
    by_cases c : n < 128
    · rw [enc_lt c]
      show (if n = 0 ∧ 0 < pl then none else if n < 128 then some (acc + n % 128 * 128 ^ pl, rest) else _) = _
      rw [if_neg (fun z => hp z.2 z.1), if_pos c, Nat.mod_eq_of_lt c]
    · rw [enc_ge (by omega)]
      show (if 128 + n % 128 = 0 ∧ 0 < pl then none else if 128 + n % 128 < 128 then _ else rnum (f + 1) (pl + 1) (acc + (128 + n % 128) % 128 * 128 ^ pl) (enc (n / 128) ++ rest)) = _
      have e : (128 + n % 128) % 128 = n % 128 := by omega
      have hl : n / 128 < 128 ^ (f + 1) := by
        rw [Nat.div_lt_iff_lt_mul (by decide)]
        rwa [Nat.pow_succ] at h
      rw [if_neg (fun z => absurd z.1 (by omega)), if_neg (by omega), ih _ _ _ _ hl (fun _ => by omega), e, Nat.pow_succ, Nat.add_assoc, mix]
theorem rnum_short : ∀ (f n pl acc e : Nat), e < (enc n).length → rnum f pl acc ((enc n).take e) = none := by
  intro f
  induction f with
  | zero => intros; rfl
  | succ f ih =>
    intro n pl acc e he
    cases e with
    | zero => rfl
    | succ e =>
      by_cases c : n < 128
      · rw [enc_lt c] at he
        simp at he
      · rw [enc_ge (by omega)] at he ⊢
        show (if 128 + n % 128 = 0 ∧ 0 < pl then none else if 128 + n % 128 < 128 then _ else rnum f (pl + 1) (acc + (128 + n % 128) % 128 * 128 ^ pl) ((enc (n / 128)).take e)) = _
        rw [if_neg (fun z => absurd z.1 (by omega)), if_neg (by omega)]
        exact ih _ _ _ _ (by simpa using he)
/-- the last byte goes on, and a zero -/
def encBad (n : Nat) : List Nat := (enc n).take ((enc n).length - 1) ++ [(enc n).getD ((enc n).length - 1) 0 + 128, 0]
theorem encBad_lt {n : Nat} (h : n < 128) : encBad n = [n + 128, 0] := by
  unfold encBad
  rw [enc_lt h]
  rfl
theorem encBad_ge {n : Nat} (h : 128 ≤ n) : encBad n = (128 + n % 128) :: encBad (n / 128) := by
  unfold encBad
  rw [enc_ge h]
  have hp := enc_pos (n / 128)
  obtain ⟨k, hk⟩ : ∃ k, (enc (n / 128)).length = k + 1 := ⟨(enc (n / 128)).length - 1, by omega⟩
  rw [List.length_cons, hk]
  simp
theorem rnum_bad : ∀ (f n pl acc : Nat) (rest : List Nat), rnum f pl acc (encBad n ++ rest) = none := by
  intro f
  induction f with
  | zero => intros; rfl
  | succ f ih =>
    intro n pl acc rest
    by_cases c : n < 128
    · rw [encBad_lt c]
      show (if n + 128 = 0 ∧ 0 < pl then none else if n + 128 < 128 then _ else rnum f (pl + 1) (acc + (n + 128) % 128 * 128 ^ pl) (0 :: rest)) = _
      rw [if_neg (fun z => absurd z.1 (by omega)), if_neg (by omega)]
      cases f with
      | zero => rfl
      | succ f =>
        show (if 0 = 0 ∧ 0 < pl + 1 then none else _) = _
        rw [if_pos ⟨rfl, by omega⟩]
    · rw [encBad_ge (by omega)]
      show (if 128 + n % 128 = 0 ∧ 0 < pl then none else if 128 + n % 128 < 128 then _ else rnum f (pl + 1) (acc + (128 + n % 128) % 128 * 128 ^ pl) (encBad (n / 128) ++ rest)) = _
      rw [if_neg (fun z => absurd z.1 (by omega)), if_neg (by omega)]
      exact ih _ _ _ _
theorem rnum_le : ∀ (f pl acc : Nat) (x : List Nat) (n : Nat) (r : List Nat), rnum f pl acc x = some (n, r) → r.length < x.length ∧ ∃ p, x = p ++ r ∧ p.length ≤ f := by
  intro f
  induction f with
  | zero => intro pl acc x n r h; cases h
  | succ f ih =>
    intro pl acc x n r h
    cases x with
    | nil => cases h
    | cons b s =>
      have h' : (if b = 0 ∧ 0 < pl then none else if b < 128 then some (acc + b % 128 * 128 ^ pl, s) else rnum f (pl + 1) (acc + b % 128 * 128 ^ pl) s) = some (n, r) := h
      by_cases c1 : b = 0 ∧ 0 < pl
      · rw [if_pos c1] at h'; cases h'
      · rw [if_neg c1] at h'
        by_cases c2 : b < 128
        · rw [if_pos c2] at h'
          cases h'
          exact ⟨by simp, [b], rfl, by simp⟩
        · rw [if_neg c2] at h'
          obtain ⟨h1, p, e, hl⟩ := ih _ _ _ _ _ h'
          exact ⟨by rw [List.length_cons]; omega, b :: p, by rw [e]; rfl, by rw [List.length_cons]; omega⟩
/-! ### sums -/
def M : Nat := 4294967296
def stp (t b : Nat) : Nat := (31 * t + b + 1) % M
def cks (d : List Nat) : Nat := d.foldl stp 7
theorem stp_lt (t b : Nat) : stp t b < M := Nat.mod_lt _ (by decide)
theorem fold_lt : ∀ (d : List Nat) (t : Nat), t < M → d.foldl stp t < M
  | [], _, h => h
  | b :: d, t, _ => fold_lt d (stp t b) (stp_lt t b)
theorem cks_lt (d : List Nat) : cks d < M := fold_lt d 7 (by decide)
def sum4 (t : Nat) : List Nat := [t / 16777216, t / 65536 % 256, t / 256 % 256, t % 256]
theorem sum4_bytes {t : Nat} (h : t < M) : ∀ b ∈ sum4 t, b < 256 := by
  have h' : t < 4294967296 := h
  intro b hb
  simp [sum4] at hb
  rcases hb with e | e | e | e <;> omega
theorem sum4_inj {t u : Nat} (ht : t < M) (hu : u < M) (h : sum4 t = sum4 u) : t = u := by
  have ht' : t < 4294967296 := ht
  have hu' : u < 4294967296 := hu
  simp [sum4] at h
  omega
theorem stp_inj {t u b : Nat} (ht : t < M) (hu : u < M) (h : stp t b = stp u b) : t = u := by
  have ht' : t < 4294967296 := ht
  have hu' : u < 4294967296 := hu
  have h' : (31 * t + b + 1) % 4294967296 = (31 * u + b + 1) % 4294967296 := h
  omega
theorem stp_byte {t b c : Nat} (hb : b < 256) (hc : c < 256) (h : stp t b = stp t c) : b = c := by
  have h' : (31 * t + b + 1) % 4294967296 = (31 * t + c + 1) % 4294967296 := h
  omega
theorem fold_inj : ∀ (d : List Nat) (t u : Nat), t < M → u < M → d.foldl stp t = d.foldl stp u → t = u
  | [], _, _, _, _, h => h
  | b :: d, t, u, ht, hu, h => stp_inj ht hu (fold_inj d _ _ (stp_lt t b) (stp_lt u b) h)
theorem cks_change {a c : List Nat} {x y : Nat} (hx : x < 256) (hy : y < 256) (h : cks (a ++ x :: c) = cks (a ++ y :: c)) : x = y := by
  unfold cks at h
  rw [List.foldl_append, List.foldl_append] at h
  exact stp_byte hx hy (fold_inj c _ _ (stp_lt _ _) (stp_lt _ _) h)
theorem cks_set {d : List Nat} {k x : Nat} (hk : k < d.length) (hd : ∀ b ∈ d, b < 256) (hx : x < 256) (hn : x ≠ d[k]) : cks (d.set k x) ≠ cks d := by
  intro h
  have e1 : d = d.take k ++ d[k] :: d.drop (k + 1) := by
    rw [List.getElem_cons_drop]
    exact (List.take_append_drop k d).symm
  have e2 : d.set k x = d.take k ++ x :: d.drop (k + 1) := by
    rw [List.set_eq_take_append_cons_drop, if_pos hk]
  rw [e2] at h
  have h3 : cks (d.take k ++ x :: d.drop (k + 1)) = cks (d.take k ++ d[k] :: d.drop (k + 1)) := by rw [h, ← e1]
  exact hn (cks_change hx (hd _ (List.getElem_mem hk)) h3)
/-! ### records -/
def rcd (d : List Nat) : List Nat := enc d.length ++ (d ++ sum4 (cks d))
theorem rcd_bytes {d : List Nat} (h : ∀ b ∈ d, b < 256) : ∀ b ∈ rcd d, b < 256 := by
  intro b hb
  rcases List.mem_append.mp hb with e | e
  · exact enc_bytes _ b e
  · rcases List.mem_append.mp e with e | e
    · exact h b e
    · exact sum4_bytes (cks_lt d) b e
theorem rcd_len (d : List Nat) : (rcd d).length = (enc d.length).length + d.length + 4 := by
  unfold rcd
  rw [List.length_append, List.length_append]
  show _ + (_ + 4) = _
  omega
def nextR (x : List Nat) : Option (List Nat × List Nat) := match rnum 60 0 0 x with
  | none => none
  | some (n, r) => if r.length < n + 4 then none else if (r.drop n).take 4 = sum4 (cks (r.take n)) then some (r.take n, r.drop (n + 4)) else none
theorem big {n : Nat} (h : n < 1000000) : n < 128 ^ (59 + 1) := Nat.lt_of_lt_of_le h (by decide)
theorem rnum60 {n : Nat} (h : n < 1000000) (rest : List Nat) : rnum 60 0 0 (enc n ++ rest) = some (n, rest) := by
  have := rnum_enc 59 n 0 0 rest (big h) (fun z => absurd z (by decide))
  simpa using this
theorem nextR_rcd {d : List Nat} (h : d.length < 1000000) (rest : List Nat) : nextR (rcd d ++ rest) = some (d, rest) := by
  unfold nextR rcd
  rw [List.append_assoc, rnum60 h]
  have e1 : (d ++ sum4 (cks d) ++ rest).length = d.length + 4 + rest.length := by
    rw [List.length_append, List.length_append]; rfl
  have e2 : (d ++ sum4 (cks d) ++ rest).take d.length = d := by
    rw [List.append_assoc, List.take_left]
  have e3 : (d ++ sum4 (cks d) ++ rest).drop d.length = sum4 (cks d) ++ rest := by
    rw [List.append_assoc, List.drop_left]
  have e4 : (d ++ sum4 (cks d) ++ rest).drop (d.length + 4) = rest := by
    rw [← List.drop_drop, e3]
    rfl
  show (if (d ++ sum4 (cks d) ++ rest).length < d.length + 4 then none else _) = _
  rw [if_neg (by rw [e1]; omega), e2, e3, e4]
  exact if_pos rfl
theorem nextR_short {d : List Nat} (h : d.length < 1000000) {e : Nat} (he : e < (rcd d).length) : nextR ((rcd d).take e) = none := by
  unfold nextR
  by_cases c : e < (enc d.length).length
  · have : (rcd d).take e = (enc d.length).take e := by
      unfold rcd
      rw [List.take_append_of_le_length (by omega)]
    rw [this, rnum_short _ _ _ _ _ c]
  · have e1 : (rcd d).take e = enc d.length ++ (d ++ sum4 (cks d)).take (e - (enc d.length).length) := by
      unfold rcd
      rw [List.take_append, List.take_of_length_le (by omega)]
    rw [e1, rnum60 h]
    rw [rcd_len] at he
    show (if ((d ++ sum4 (cks d)).take (e - (enc d.length).length)).length < d.length + 4 then none else _) = _
    rw [if_pos]
    rw [List.length_take]
    omega
theorem nextR_bad {d s : List Nat} (h : d.length < 1000000) (hl : s.length = 4) (hs : s ≠ sum4 (cks d)) : nextR (enc d.length ++ (d ++ s)) = none := by
  unfold nextR
  rw [rnum60 h]
  show (if (d ++ s).length < d.length + 4 then none else if ((d ++ s).drop d.length).take 4 = sum4 (cks ((d ++ s).take d.length)) then _ else none) = _
  rw [if_neg (by rw [List.length_append]; omega), List.take_left, List.drop_left, if_neg]
  rw [List.take_of_length_le (by omega)]
  exact hs
theorem nextR_needless (n : Nat) (rest : List Nat) : nextR (encBad n ++ rest) = none := by
  unfold nextR
  rw [rnum_bad]
theorem nextR_nil : nextR [] = none := rfl
theorem nextR_le {x d r : List Nat} (h : nextR x = some (d, r)) : r.length + 5 ≤ x.length ∧ d.length ≤ x.length := by
  unfold nextR at h
  cases e : rnum 60 0 0 x with
  | none => rw [e] at h; cases h
  | some p =>
    obtain ⟨n, s⟩ := p
    rw [e] at h
    obtain ⟨h1, _⟩ := rnum_le _ _ _ _ _ _ e
    have h' : (if s.length < n + 4 then none else if (s.drop n).take 4 = sum4 (cks (s.take n)) then some (s.take n, s.drop (n + 4)) else none) = some (d, r) := h
    by_cases c : s.length < n + 4
    · rw [if_pos c] at h'; cases h'
    · rw [if_neg c] at h'
      by_cases c2 : (s.drop n).take 4 = sum4 (cks (s.take n))
      · rw [if_pos c2] at h'
        cases h'
        rw [List.length_drop, List.length_take]
        omega
      · rw [if_neg c2] at h'; cases h'
theorem drop_end {A B : List Nat} : (A ++ B).drop ((A ++ B).length - B.length) = B := by
  rw [List.length_append, Nat.add_sub_cancel, List.drop_left]
theorem nextR_suf {x d r : List Nat} (h : nextR x = some (d, r)) : ∃ q, x = q ++ r := by
  unfold nextR at h
  cases e : rnum 60 0 0 x with
  | none => rw [e] at h; cases h
  | some p =>
    obtain ⟨n, s⟩ := p
    rw [e] at h
    obtain ⟨_, q, hq, _⟩ := rnum_le _ _ _ _ _ _ e
    have h' : (if s.length < n + 4 then none else if (s.drop n).take 4 = sum4 (cks (s.take n)) then some (s.take n, s.drop (n + 4)) else none) = some (d, r) := h
    by_cases c : s.length < n + 4
    · rw [if_pos c] at h'; cases h'
    · rw [if_neg c] at h'
      by_cases c2 : (s.drop n).take 4 = sum4 (cks (s.take n))
      · rw [if_pos c2] at h'
        cases h'
        exact ⟨q ++ s.take (n + 4), by rw [List.append_assoc, List.take_append_drop]; exact hq⟩
      · rw [if_neg c2] at h'; cases h'
theorem nextR_at {x d r : List Nat} {a : Nat} (h : nextR (x.drop a) = some (d, r)) : x.drop (x.length - r.length) = r := by
  obtain ⟨q, hq⟩ := nextR_suf h
  have h1 : x = (x.take a ++ q) ++ r := by rw [List.append_assoc, ← hq, List.take_append_drop]
  have h2 := drop_end (A := x.take a ++ q) (B := r)
  rwa [← h1] at h2
theorem sum_sizes (f : List Nat → List Nat) : ∀ ds : List (List Nat), (ds.map fun d => (((f d).length : Nat) : Int)).sum = (((ds.map f).flatten.length : Nat) : Int)
  | [] => rfl
  | d :: ds => by
    rw [List.map_cons, List.sum_cons, sum_sizes f ds, List.map_cons, List.flatten_cons, List.length_append]
    omega
inductive Reads : List Nat → List (List Nat) → Prop
  | stop {x : List Nat} : nextR x = none → Reads x []
  | more {x d r : List Nat} {ds : List (List Nat)} : nextR x = some (d, r) → Reads r ds → Reads x (d :: ds)
def cat (ds : List (List Nat)) : List Nat := (ds.map rcd).flatten
theorem cat_cons (d : List Nat) (ds : List (List Nat)) : cat (d :: ds) = rcd d ++ cat ds := rfl
theorem cat_app (a b : List (List Nat)) : cat (a ++ b) = cat a ++ cat b := by simp [cat]
theorem reads_cat {ds : List (List Nat)} (h : ∀ d ∈ ds, d.length < 1000000) {x : List Nat} (hx : nextR x = none) : Reads (cat ds ++ x) ds := by
  induction ds with
  | nil => exact .stop hx
  | cons d ds ih =>
    rw [cat_cons, List.append_assoc]
    exact .more (nextR_rcd (h d (List.mem_cons_self ..)) _) (ih fun y hy => h y (List.mem_cons_of_mem _ hy))
/-- so many whole records stand in the first e bytes -/
def kk : Nat → List (List Nat) → Nat
  | _, [] => 0
  | e, d :: ds => if e < (rcd d).length then 0 else kk (e - (rcd d).length) ds + 1
theorem kk_le : ∀ (ds : List (List Nat)) (e : Nat), kk e ds ≤ ds.length
  | [], _ => Nat.le_refl _
  | d :: ds, e => by
    show (if e < (rcd d).length then 0 else kk (e - (rcd d).length) ds + 1) ≤ ds.length + 1
    split
    · exact Nat.zero_le _
    · exact Nat.succ_le_succ (kk_le ds _)
theorem reads_cut : ∀ (ds : List (List Nat)) (e : Nat), (∀ d ∈ ds, d.length < 1000000) → Reads ((cat ds).take e) (ds.take (kk e ds))
  | [], e, _ => by
    have : (cat []).take e = [] := by simp [cat]
    rw [this]
    exact .stop nextR_nil
  | d :: ds, e, h => by
    have hd := h d (List.mem_cons_self ..)
    rw [cat_cons]
    show Reads _ ((d :: ds).take (if e < (rcd d).length then 0 else kk (e - (rcd d).length) ds + 1))
    by_cases c : e < (rcd d).length
    · rw [if_pos c, List.take_append_of_le_length (by omega)]
      exact .stop (nextR_short hd c)
    · rw [if_neg c, List.take_append, List.take_of_length_le (by omega), List.take_succ_cons]
      exact .more (nextR_rcd hd _) (reads_cut ds _ fun y hy => h y (List.mem_cons_of_mem _ hy))
/-- where the records end -/
def cums : Nat → List (List Nat) → List Nat
  | s, [] => [s]
  | s, d :: ds => s :: cums (s + (rcd d).length) ds
theorem cums_ge : ∀ (ds : List (List Nat)) (s : Nat), ∀ z ∈ cums s ds, s ≤ z
  | [], s, z, h => by rw [List.mem_singleton.mp h]; exact Nat.le_refl _
  | d :: ds, s, z, h => by
    rcases List.mem_cons.mp h with e | e
    · omega
    · have := cums_ge ds _ z e
      omega
theorem cums_count : ∀ (ds : List (List Nat)) (s e : Nat), ((cums s ds).filter fun z => decide (z ≤ s + e)).length = kk e ds + 1
  | [], s, e => by
    show ((([s] : List Nat).filter fun z => decide (z ≤ s + e)).length) = 1
    simp
  | d :: ds, s, e => by
    show ((s :: cums (s + (rcd d).length) ds).filter fun z => decide (z ≤ s + e)).length = (if e < (rcd d).length then 0 else kk (e - (rcd d).length) ds + 1) + 1
    rw [List.filter_cons, if_pos (by simp), List.length_cons]
    congr 1
    by_cases c : e < (rcd d).length
    · rw [if_pos c]
      have : ((cums (s + (rcd d).length) ds).filter fun z => decide (z ≤ s + e)) = [] := by
        rw [List.filter_eq_nil_iff]
        intro z hz
        have := cums_ge _ _ z hz
        simp
        omega
      rw [this]
      rfl
    · rw [if_neg c]
      have e1 : s + e = s + (rcd d).length + (e - (rcd d).length) := by omega
      rw [e1]
      exact cums_count ds _ _
theorem cums_get : ∀ (ds : List (List Nat)) (s k : Nat), k ≤ ds.length → (cums s ds)[k]? = some (s + (cat (ds.take k)).length)
  | [], s, k, h => by
    have : k = 0 := by simpa using h
    subst this
    rfl
  | d :: ds, s, 0, _ => rfl
  | d :: ds, s, k + 1, h => by
    show (cums (s + (rcd d).length) ds)[k]? = some (s + (cat (d :: ds.take k)).length)
    rw [cums_get ds _ k (by simpa using h), cat_cons, List.length_append, Nat.add_assoc]
theorem cums_len : ∀ (ds : List (List Nat)) (s : Nat), (cums s ds).length = ds.length + 1
  | [], _ => rfl
  | d :: ds, s => by
    show (cums (s + (rcd d).length) ds).length + 1 = _
    rw [cums_len ds]
    rfl
theorem cums_snoc : ∀ (ds : List (List Nat)) (d : List Nat) (s : Nat), cums s (ds ++ [d]) = cums s ds ++ [s + (cat (ds ++ [d])).length]
  | [], d, s => by
    show [s, s + (rcd d).length] = [s, s + (rcd d ++ []).length]
    rw [List.append_nil]
  | x :: ds, d, s => by
    show s :: cums (s + (rcd x).length) (ds ++ [d]) = s :: (cums (s + (rcd x).length) ds ++ [s + (rcd x ++ cat (ds ++ [d])).length])
    rw [cums_snoc ds d, List.length_append, Nat.add_assoc]
end NM
namespace NM
theorem set_shape {r : List Nat} {k z : Nat} (h : k < r.length) : r.take k ++ [z] ++ r.drop (k + 1) = r.set k z := by
  rw [List.set_eq_take_append_cons_drop, if_pos h, List.append_assoc]
  rfl
/-- a byte of the sum another one -/
theorem bad_sum {d : List Nat} (hd : d.length < 1000000) {j z : Nat} (hj : j < 4) (hz : (rcd d)[(rcd d).length - 1 - j]? ≠ some z) : nextR ((rcd d).set ((rcd d).length - 1 - j) z) = none := by
  have hl := rcd_len d
  have hs : (sum4 (cks d)).length = 4 := rfl
  unfold rcd at hz ⊢
  have e1 : (enc d.length ++ (d ++ sum4 (cks d))).length - 1 - j - (enc d.length).length - d.length = 3 - j := by
    rw [List.length_append, List.length_append, hs]
    omega
  have l1 : (enc d.length).length ≤ (enc d.length ++ (d ++ sum4 (cks d))).length - 1 - j := by
    rw [List.length_append, List.length_append, hs]
    omega
  have l2 : d.length ≤ (enc d.length ++ (d ++ sum4 (cks d))).length - 1 - j - (enc d.length).length := by
    rw [List.length_append, List.length_append, hs]
    omega
  rw [List.getElem?_append_right l1, List.getElem?_append_right l2, e1] at hz
  rw [List.set_append_right _ _ l1, List.set_append_right _ _ l2, e1]
  refine nextR_bad hd (by rw [List.length_set]; rfl) fun e => hz ?_
  rw [← e, List.getElem?_set]
  rw [if_pos rfl, if_pos (by rw [hs]; omega)]
/-- a byte of the data another one -/
theorem bad_data {d : List Nat} (hd : d.length < 1000000) (hb : ∀ b ∈ d, b < 256) {j z : Nat} (hj : j < d.length) (hz2 : z < 256) (hz : (rcd d)[(rcd d).length - 5 - j]? ≠ some z) : nextR ((rcd d).set ((rcd d).length - 5 - j) z) = none := by
  have hl := rcd_len d
  have hs : (sum4 (cks d)).length = 4 := rfl
  unfold rcd at hz ⊢
  have e1 : (enc d.length ++ (d ++ sum4 (cks d))).length - 5 - j - (enc d.length).length = d.length - 1 - j := by
    rw [List.length_append, List.length_append, hs]
    omega
  have l1 : (enc d.length).length ≤ (enc d.length ++ (d ++ sum4 (cks d))).length - 5 - j := by
    rw [List.length_append, List.length_append, hs]
    omega
  have l2 : d.length - 1 - j < d.length := by omega
  rw [List.getElem?_append_right l1, e1, List.getElem?_append_left l2, List.getElem?_eq_getElem l2] at hz
  rw [List.set_append_right _ _ l1, e1, List.set_append_left _ _ l2]
  have hn : z ≠ d[d.length - 1 - j] := fun e => hz (by rw [e])
  have hne := cks_set l2 hb hz2 hn
  have e2 : (d.set (d.length - 1 - j) z).length = d.length := List.length_set ..
  have h := nextR_bad (d := d.set (d.length - 1 - j) z) (s := sum4 (cks d)) (by rw [e2]; exact hd) rfl fun e => hne (sum4_inj (cks_lt _) (cks_lt _) e.symm)
  rwa [e2] at h
end NM
namespace NM
theorem enc_last (n : Nat) : ∀ y, (enc n)[(enc n).length - 1]? = some y → y < 128 := by
  induction n using Nat.strongRecOn with
  | ind n ih =>
    intro y h
    by_cases c : n < 128
    · rw [enc_lt c] at h
      have : n = y := by simpa using h
      omega
    · rw [enc_ge (by omega)] at h
      have hp := enc_pos (n / 128)
      obtain ⟨k, hk⟩ : ∃ k, (enc (n / 128)).length = k + 1 := ⟨(enc (n / 128)).length - 1, by omega⟩
      refine ih (n / 128) (by omega) y ?_
      rw [List.length_cons, hk] at h
      rw [hk]
      simpa using h
end NM
namespace Q43
open PySem PySem.Spec PyProof.Rows L2 SX HL
def topS (i : Nat) : Stmt := PySem.Challenge.pw_quillrun_k43_records.main.body.getD i (.Pass ⟨0, 0, 0, 0⟩)
abbrev sWall : Stmt := topS 0
theorem scWall : FnScope ["k"] ["k"] (defScope sWall) := ⟨rfl, rfl, rfl, by decide +kernel, rfl, by decide +kernel, by decide +kernel⟩
abbrev sWriteNumber : Stmt := topS 2
theorem scWriteNumber : FnScope ["number", "data"] ["number"] (defScope sWriteNumber) := ⟨rfl, rfl, rfl, by decide +kernel, rfl, by decide +kernel, by decide +kernel⟩
abbrev sReaderInit : Stmt := inClass (topS 9) 0
theorem scReaderInit : FnScope ["self", "data", "character"] ["self", "data"] (defScope sReaderInit) := ⟨rfl, rfl, rfl, by decide +kernel, rfl, by decide +kernel, by decide +kernel⟩
abbrev sReaderEnd : Stmt := inClass (topS 9) 1
theorem scReaderEnd : FnScope ["self"] ["self"] (defScope sReaderEnd) := ⟨rfl, rfl, rfl, by decide +kernel, rfl, by decide +kernel, by decide +kernel⟩
abbrev sReaderReadByte : Stmt := inClass (topS 9) 2
theorem scReaderReadByte : FnScope ["self", "most"] ["self", "most"] (defScope sReaderReadByte) := ⟨rfl, rfl, rfl, by decide +kernel, rfl, by decide +kernel, by decide +kernel⟩
abbrev sReaderReadBytes : Stmt := inClass (topS 9) 3
theorem scReaderReadBytes : FnScope ["self", "count"] ["self", "count"] (defScope sReaderReadBytes) := ⟨rfl, rfl, rfl, by decide +kernel, rfl, by decide +kernel, by decide +kernel⟩
abbrev sReaderReadNumber : Stmt := inClass (topS 9) 5
theorem scReaderReadNumber : FnScope ["self", "number", "place", "byte"] ["self"] (defScope sReaderReadNumber) := ⟨rfl, rfl, rfl, by decide +kernel, rfl, by decide +kernel, by decide +kernel⟩
abbrev sChecksum : Stmt := topS 13
theorem scChecksum : FnScope ["data", "total", "byte"] ["data"] (defScope sChecksum) := ⟨rfl, rfl, rfl, by decide +kernel, rfl, by decide +kernel, by decide +kernel⟩
abbrev sWriteSum : Stmt := topS 14
theorem scWriteSum : FnScope ["data", "total"] ["data"] (defScope sWriteSum) := ⟨rfl, rfl, rfl, by decide +kernel, rfl, by decide +kernel, by decide +kernel⟩
abbrev sWriteRecord : Stmt := topS 15
theorem scWriteRecord : FnScope ["data"] ["data"] (defScope sWriteRecord) := ⟨rfl, rfl, rfl, by decide +kernel, rfl, by decide +kernel, by decide +kernel⟩
abbrev sRecordSize : Stmt := topS 16
theorem scRecordSize : FnScope ["data"] ["data"] (defScope sRecordSize) := ⟨rfl, rfl, rfl, by decide +kernel, rfl, by decide +kernel, by decide +kernel⟩
abbrev sReadRecords : Stmt := topS 17
theorem scReadRecords : FnScope ["data", "reader", "records", "record"] ["data"] (defScope sReadRecords) := ⟨rfl, rfl, rfl, by decide +kernel, rfl, by decide +kernel, by decide +kernel⟩
abbrev sNextRecord : Stmt := topS 18
theorem scNextRecord : FnScope ["reader", "record", "found"] ["reader"] (defScope sNextRecord) := ⟨rfl, rfl, rfl, by decide +kernel, rfl, by decide +kernel, by decide +kernel⟩
abbrev sLawMix : Stmt := topS 20
theorem scLawMix : FnScope ["cell", "k", "value"] ["cell", "k"] (defScope sLawMix) := ⟨rfl, rfl, rfl, by decide +kernel, rfl, by decide +kernel, by decide +kernel⟩
abbrev sLawDraws : Stmt := topS 21
theorem scLawDraws : FnScope ["script", "draws", "k", "cell", "place"] ["script"] (defScope sLawDraws) := ⟨rfl, rfl, rfl, by decide +kernel, rfl, by decide +kernel, by decide +kernel⟩
abbrev sLawAt : Stmt := topS 22
theorem scLawAt : FnScope ["draws", "index"] ["draws", "index"] (defScope sLawAt) := ⟨rfl, rfl, rfl, by decide +kernel, rfl, by decide +kernel, by decide +kernel⟩
abbrev sLawIsInteger : Stmt := topS 23
theorem scLawIsInteger : FnScope ["actual"] ["actual"] (defScope sLawIsInteger) := ⟨rfl, rfl, rfl, by decide +kernel, rfl, by decide +kernel, by decide +kernel⟩
abbrev sLawSame : Stmt := topS 24
theorem scLawSame : FnScope ["actual", "expected", "k"] ["actual", "expected"] (defScope sLawSame) := ⟨rfl, rfl, rfl, by decide +kernel, rfl, by decide +kernel, by decide +kernel⟩
abbrev sLawNext : Stmt := topS 25
theorem scLawNext : FnScope ["state", "limit"] ["state", "limit"] (defScope sLawNext) := ⟨rfl, rfl, rfl, by decide +kernel, rfl, by decide +kernel, by decide +kernel⟩
abbrev sLawNumber : Stmt := topS 26
theorem scLawNumber : FnScope ["number", "data"] ["number"] (defScope sLawNumber) := ⟨rfl, rfl, rfl, by decide +kernel, rfl, by decide +kernel, by decide +kernel⟩
abbrev sLawChecksum : Stmt := topS 27
theorem scLawChecksum : FnScope ["data", "total", "byte"] ["data"] (defScope sLawChecksum) := ⟨rfl, rfl, rfl, by decide +kernel, rfl, by decide +kernel, by decide +kernel⟩
abbrev sLawRecord : Stmt := topS 28
theorem scLawRecord : FnScope ["data", "total"] ["data"] (defScope sLawRecord) := ⟨rfl, rfl, rfl, by decide +kernel, rfl, by decide +kernel, by decide +kernel⟩
abbrev sLawBytes : Stmt := topS 29
theorem scLawBytes : FnScope ["state", "count", "start", "k"] ["state"] (defScope sLawBytes) := ⟨rfl, rfl, rfl, by decide +kernel, rfl, by decide +kernel, by decide +kernel⟩
abbrev sLawBehind : Stmt := topS 30
theorem scLawBehind : FnScope ["state", "data", "record", "pick", "at", "size"] ["state"] (defScope sLawBehind) := ⟨rfl, rfl, rfl, by decide +kernel, rfl, by decide +kernel, by decide +kernel⟩
abbrev sLaw : Stmt := topS 31
theorem scLaw : FnScope ["script", "state", "records", "data", "sizes", "record", "passed", "whole", "k", "end", "count", "size"] ["script"] (defScope sLaw) := ⟨rfl, rfl, rfl, by decide +kernel, rfl, by decide +kernel, by decide +kernel⟩
/-- what the top has written -/
structure Defs (K : PySem.W.Frag) (mg : Str → Option Value) where
  bool : mg "bool" = none
  int : mg "int" = none
  isinstance : mg "isinstance" = none
  len : mg "len" = none
  list : mg "list" = none
  min : mg "min" = none
  ord : mg "ord" = none
  range : mg "range" = none
  str : mg "str" = none
  sum : mg "sum" = none
  tuple : mg "tuple" = none
  kLONGEST_NUMBER : ∃ t, mg "LONGEST_NUMBER" = some (.int 60 t)
  kCHARACTERS : ∃ t, mg "CHARACTERS" = some (.str "\n !\"#$&'()*+,-./0123456789:;<=>?@ABCDEFGHIJKLMNOPQRSTUVWXYZ[\\]^_`abcdefghijklmnopqrstuvwxyz{|}~" t)
  kSUMS : ∃ t, mg "SUMS" = some (.int 4294967296 t)
  kSUM_LENGTH : ∃ t, mg "SUM_LENGTH" = some (.int 4 t)
  fWriteNumber : Addr
  fdWriteNumber : FuncData
  DWriteNumber : DefN K mg "write_number" sWriteNumber ["number"] fWriteNumber fdWriteNumber
  fChecksum : Addr
  fdChecksum : FuncData
  DChecksum : DefN K mg "checksum" sChecksum ["data"] fChecksum fdChecksum
  fWriteSum : Addr
  fdWriteSum : FuncData
  DWriteSum : DefN K mg "write_sum" sWriteSum ["data"] fWriteSum fdWriteSum
  fWriteRecord : Addr
  fdWriteRecord : FuncData
  DWriteRecord : DefN K mg "write_record" sWriteRecord ["data"] fWriteRecord fdWriteRecord
  fRecordSize : Addr
  fdRecordSize : FuncData
  DRecordSize : DefN K mg "record_size" sRecordSize ["data"] fRecordSize fdRecordSize
  fReadRecords : Addr
  fdReadRecords : FuncData
  DReadRecords : DefN K mg "read_records" sReadRecords ["data"] fReadRecords fdReadRecords
  fNextRecord : Addr
  fdNextRecord : FuncData
  DNextRecord : DefN K mg "next_record" sNextRecord ["reader"] fNextRecord fdNextRecord
  fLawMix : Addr
  fdLawMix : FuncData
  DLawMix : DefN K mg "_law_mix" sLawMix ["cell", "k"] fLawMix fdLawMix
  fLawDraws : Addr
  fdLawDraws : FuncData
  DLawDraws : DefN K mg "_law_draws" sLawDraws ["script"] fLawDraws fdLawDraws
  fLawAt : Addr
  fdLawAt : FuncData
  DLawAt : DefN K mg "_law_at" sLawAt ["draws", "index"] fLawAt fdLawAt
  fLawIsInteger : Addr
  fdLawIsInteger : FuncData
  DLawIsInteger : DefN K mg "_law_is_integer" sLawIsInteger ["actual"] fLawIsInteger fdLawIsInteger
  fLawSame : Addr
  fdLawSame : FuncData
  DLawSame : DefN K mg "_law_same" sLawSame ["actual", "expected"] fLawSame fdLawSame
  fLawNext : Addr
  fdLawNext : FuncData
  DLawNext : DefN K mg "_law_next" sLawNext ["state", "limit"] fLawNext fdLawNext
  fLawNumber : Addr
  fdLawNumber : FuncData
  DLawNumber : DefN K mg "_law_number" sLawNumber ["number"] fLawNumber fdLawNumber
  fLawChecksum : Addr
  fdLawChecksum : FuncData
  DLawChecksum : DefN K mg "_law_checksum" sLawChecksum ["data"] fLawChecksum fdLawChecksum
  fLawRecord : Addr
  fdLawRecord : FuncData
  DLawRecord : DefN K mg "_law_record" sLawRecord ["data"] fLawRecord fdLawRecord
  fLawBytes : Addr
  fdLawBytes : FuncData
  DLawBytes : DefN K mg "_law_bytes" sLawBytes ["state"] fLawBytes fdLawBytes
  fLawBehind : Addr
  fdLawBehind : FuncData
  DLawBehind : DefN K mg "_law_behind" sLawBehind ["state"] fLawBehind fdLawBehind
  fLaw : Addr
  fdLaw : FuncData
  DLaw : DefN K mg "law" sLaw ["script"] fLaw fdLaw
  cReader : Addr
  fReaderInit : Addr
  fdReaderInit : FuncData
  DReaderInit : DefI K "Reader.__init__" sReaderInit ["self", "data"] fReaderInit fdReaderInit
  CReader : ClsN K mg "Reader" cReader fReaderInit
  fReaderReadByte : Addr
  fdReaderReadByte : FuncData
  DReaderReadByte : HX.DefMD K cReader "read_byte" "Reader.read_byte" sReaderReadByte ["self", "most"] [V.int 255] fReaderReadByte fdReaderReadByte
  fReaderReadBytes : Addr
  fdReaderReadBytes : FuncData
  DReaderReadBytes : DefM K cReader "read_bytes" "Reader.read_bytes" sReaderReadBytes ["self", "count"] fReaderReadBytes fdReaderReadBytes
  fReaderReadNumber : Addr
  fdReaderReadNumber : FuncData
  DReaderReadNumber : DefM K cReader "read_number" "Reader.read_number" sReaderReadNumber ["self"] fReaderReadNumber fdReaderReadNumber
  nReader_at : NoAttr K cReader "at"
  nReader_data : NoAttr K cReader "_data"
  nReader_characters : NoAttr K cReader "_characters"
  eDamagedPacket : Addr
  EDamagedPacket : ExcN K mg "DamagedPacket" eDamagedPacket
end Q43
namespace Q43
open PySem PySem.Spec PyProof.Rows L2 SX HL
section
variable {P : Program} {w : World} {K : PySem.W.Frag} {mg : Str → Option Value} {base : Heap}
/-! ### _law_mix -/
def spMix : Sp := fun vs H Q _ => ∃ (c k : Int), vs = [.int c, .int k] ∧ ∀ v, 0 ≤ v → v < 9973 → Q (.int v) H
theorem ok_mix {k : Nat} (Z : Defs K mg) : FnOk P w K mg base CX0 (k + 1) Z.fLawMix Z.fdLawMix ["cell", "k"] spMix := by
  refine Z.DLawMix.F.ok scLawMix (fun vs H Q E h => ?_) (fun cdv A outer s H vs Q E hr h => ?_)
  · obtain ⟨c, k, rfl, _⟩ := h
    rfl
  · obtain ⟨c, k, rfl, qq⟩ := h
    refine ⟨_, (pss_cons (ps_set (i := 2) scLawMix.nd rfl (.inl rfl) (pe_op op_mod (pe_callTy call_int1 (by rfl) Z.int HL.boot_int (pa_cons (pe_op op_add (pe_op op_add (pe_op op_mul (pe_callTy call_int1 (by rfl) Z.int HL.boot_int (pa_cons (pv 0) pa_nil)) pe_int) (pe_op op_mul (pv 1) pe_int)) pe_int) pa_nil)) pe_int))
        (pss_cons (ps_set (i := 2) scLawMix.nd rfl (.inl rfl) (pe_op op_mod (pe_callTy call_int1 (by rfl) Z.int HL.boot_int (pa_cons (pe_op op_add (pe_op op_add (pe_op op_mul (pv 2) (pv 2)) (pe_op op_mul (pv 1) pe_int)) pe_int) pa_nil)) pe_int))
        (pss_one (ps_ret (pe_op op_mod (pe_op op_fdiv (pv 2) pe_int) pe_int))))), ?_⟩
    refine ⟨_, rfl, .inl ⟨c, rfl, _, _, rfl, rfl, .inr ⟨by decide, by decide⟩, _, rfl, _, _, rfl, rfl, .inr ⟨by decide, by decide⟩, _, _, rfl, rfl, _, _, rfl, rfl, .inl ⟨_, rfl, _, _, rfl, rfl, (by show (0 : Int) < 2147483647; decide), ?_⟩⟩⟩
    have v0 := Int.emod_nonneg (c * 48271 + k * 69621 + 12345) (show (2147483647 : Int) ≠ 0 by decide)
    have v1 := Int.emod_lt_of_pos (c * 48271 + k * 69621 + 12345) (show (0 : Int) < 2147483647 by decide)
    revert v0 v1
    dsimp only
    generalize (c * 48271 + k * 69621 + 12345) % 2147483647 = v
    intro v0 v1
    refine ⟨_, rfl, _, rfl, v, v, rfl, rfl, .inl ⟨by omega, by omega⟩, _, rfl, _, _, rfl, rfl, .inr ⟨by decide, by decide⟩, _, _, rfl, rfl, _, _, rfl, rfl, .inl ⟨_, rfl, _, _, rfl, rfl, (by show (0 : Int) < 2147483399; decide), ?_⟩⟩
    refine ⟨_, rfl, _, _, rfl, rfl, ⟨by decide, by decide⟩, _, _, rfl, rfl, (by show (0 : Int) < 9973; decide), qq _ (Int.emod_nonneg _ (by decide)) (Int.emod_lt_of_pos _ (by decide))⟩
end
end Q43
namespace Q43
open PySem PySem.Spec PyProof.Rows L2 SX HL
section
variable {P : Program} {w : World} {K : PySem.W.Frag} {mg : Str → Option Value} {base : Heap}
/-! ### _law_draws -/
def Draws (ds : List Int) : Prop := ∀ x ∈ ds, 0 ≤ x ∧ x < 9973
def spDraws (K : PySem.W.Frag) : Sp := fun vs H Q _ => ∃ (a : Addr) (ns : List Int), vs = [.ref a] ∧ SqL K H a (ns.map V.int) ∧ ns.length ≤ 63 ∧
  ∀ d H' ds, H d = none → Same H H' → H' d = some (.lst (ds.map V.int)) → ds.length ≤ 4000 → Draws ds → Q (.ref d) H'
theorem ok_draws {k : Nat} (Z : Defs K mg) : FnOk P w K mg base CX0 (k + 2) Z.fLawDraws Z.fdLawDraws ["script"] (spDraws K) := by
  have GLawMix : FnOk P w K mg base CX0 (k + 1) Z.fLawMix Z.fdLawMix ["cell", "k"] spMix := ok_mix Z
  refine Z.DLawDraws.F.ok scLawDraws (fun vs H Q E h => ?_) (fun cdv A outer s H vs Q E hr h => ?_)
  · obtain ⟨a, ns, rfl, _⟩ := h
    rfl
  · obtain ⟨a, ns, rfl, hS, hl, qq⟩ := h
    refine ⟨_, (pss_cons (ps_set (i := 1) scLawDraws.nd rfl (.inl rfl) (pe_lst pa_nil))
        (pss_cons (ps_for PassesOwn.never rfl (pi_range1 (by rfl) Z.range (pa_cons (pe_callB (call_min2 rfl) (by rfl) Z.min (by decide +kernel) (pa_cons pe_int (pa_cons (pe_callB call_len_seq (by rfl) Z.len PySem.boot_len (pa_cons (pv 0) pa_nil)) pa_nil))) pa_nil)) (pg_name (i := 2) scLawDraws.nd rfl (.inl rfl)) (pss_cons (ps_set (i := 3) scLawDraws.nd rfl (.inl rfl) (pe_callTy call_int1 (by rfl) Z.int HL.boot_int (pa_cons (pe_ix ix_list (pv 0) (pv 2) (fun _ _ => rfl)) pa_nil)))
        (pss_one (ps_if (pt_cmpR op_lt (pv 3) (pe_op op_pow pe_int pe_int) (nomark _)) (pss_one (ps_expr (pe_bm PySem.F.plainAttrs_list PySem.F.slot_list_append PySem.F.type_list_append mt_append (pv 1) (pa_cons (pe_call GLawMix (hr.mono (by omega)) (by rfl) Z.DLawMix.g Z.DLawMix.F.kp Z.DLawMix.b .nil pass0 (pa_cons (pv 3) (pa_cons (pv 2) pa_nil))) pa_nil)))) (pss_one (ps_for PassesOwn.never rfl (pi_range1 (by rfl) Z.range (pa_cons pe_int pa_nil)) (pg_name (i := 4) scLawDraws.nd rfl (.inl rfl)) (pss_one (ps_if (pt_cmpR op_gt (pv 3) pe_int (nomark _)) (pss_cons (ps_expr (pe_bm PySem.F.plainAttrs_list PySem.F.slot_list_append PySem.F.type_list_append mt_append (pv 1) (pa_cons (pe_op op_mod (pe_callTy call_int1 (by rfl) Z.int HL.boot_int (pa_cons (pv 3) pa_nil)) pe_int) pa_nil)))
        (pss_one (ps_set (i := 3) scLawDraws.nd rfl (.inl rfl) (pe_op op_fdiv (pv 3) pe_int)))) pss_nil))))))))
        (pss_one (ps_ret (pv 1))))), ?_⟩
    refine ⟨Nat.zero_le _, fun D0 hD => ⟨_, rfl, a, _, rfl, .inl ((same_upd hD).seq hS), 63, _, rfl, _, rfl, ?_⟩⟩
    have hlen : (ns.map V.int).length = ns.length := List.length_map _
    rw [hlen]
    have nn : (if (ns.length : Int) < 63 then (ns.length : Int) else 63) = (ns.length : Int) := by
      split <;> omega
    rw [nn]
    refine ⟨by omega, by omega, ?_⟩
    have ap : ∀ {H' : Hp} {ds : List Int} {v : Int}, Same H H' → Same H (upd H' D0 (.lst (ds.map V.int ++ [.int v]))) := fun s b o hb => by
      rw [upd_ne (ne_of_none hb hD)]
      exact s b o hb
    refine for_range (lo := 0) (n := ns.length) (fun i σ H' => ∃ (ds : List Int) (y2 y3 y4 : Option V), σ = [some (.ref a), some (.ref D0), y2, y3, y4] ∧ Same H H' ∧ H' D0 = some (.lst (ds.map V.int)) ∧ ds.length ≤ 60 * i ∧ Draws ds)
      ⟨[], none, none, none, rfl, same_upd hD, upd_same, Nat.zero_le _, fun _ h => nomatch h⟩ ?_ ?_
    · rintro i σ H' hi ⟨ds, y2, y3, y4, rfl, sm, hd, hdl, hdr⟩
      have hg : atI (ns.map V.int) ((0 : Int) + (i : Int)) = some (.int (ns.getD i 0)) := by
        rw [Int.zero_add]
        refine atI_nat ?_
        simp [hi]
      generalize ns.getD i 0 = x at hg
      refine ⟨_, rfl, _, rfl, a, _, _, _, rfl, rfl, sm.seq hS, hg, .inl ⟨x, rfl, ?_⟩⟩
      refine ⟨_, rfl, 10, 18, rfl, rfl, ⟨by decide, by decide, by decide⟩, _, _, rfl, rfl, _, rfl, ite2 (fun _ => ?_) (fun e => ?_)⟩
      · refine ⟨_, rfl, .inl ⟨rfl, _, SqL.of hd⟩, _, rfl, _, rfl, x, _, rfl, fun v v0 v1 => ⟨D0, _, _, rfl, rfl, hd, ?_, ?_⟩⟩
        · rw [List.length_map]
          exact Nat.lt_of_le_of_lt (show ds.length ≤ 4000 by omega) (by decide)
        · refine ⟨ds ++ [v], _, _, _, rfl, ap sm, by rw [upd_same]; simp, by simp; omega, fun y hy => ?_⟩
          rcases List.mem_append.mp hy with hy | hy
          · exact hdr y hy
          · rw [List.mem_singleton.mp hy]
            exact ⟨v0, v1⟩
      · refine ⟨60, rfl, by decide, by decide, ?_⟩
        refine for_range (lo := 0) (n := 60) (fun j σ H' => ∃ (ds2 : List Int) (x : Int) (y4 : Option V), σ = [some (.ref a), some (.ref D0), some (.int (0 + (i : Int))), some (.int x), y4] ∧ Same H H' ∧ H' D0 = some (.lst (ds2.map V.int)) ∧ ds2.length ≤ 60 * i + j ∧ Draws ds2)
          ⟨ds, x, y4, rfl, sm, hd, hdl, hdr⟩ ?_ ?_
        · rintro j σ H2 hj ⟨ds2, x, y4, rfl, sm2, hd2, hdl2, hdr2⟩
          refine ⟨_, rfl, x, 0, rfl, rfl, _, rfl, ite2 (fun e => ?_) (fun e => ?_)⟩
          · refine ⟨_, rfl, .inl ⟨rfl, _, SqL.of hd2⟩, _, rfl, .inl ⟨x, rfl, x, 9973, rfl, rfl, (by show (0 : Int) < 9973; decide), D0, _, _, rfl, rfl, hd2, ?_, ?_⟩⟩
            · rw [List.length_map]
              exact Nat.lt_of_le_of_lt (show ds2.length ≤ 4000 by omega) (by decide)
            · refine ⟨_, rfl, x, 9973, rfl, rfl, ⟨by decide, by decide⟩, ds2 ++ [x % 9973], x / 9973, _, rfl, ap sm2, by rw [upd_same]; simp, by simp; omega, fun y hy => ?_⟩
              rcases List.mem_append.mp hy with hy | hy
              · exact hdr2 y hy
              · rw [List.mem_singleton.mp hy]
                exact ⟨Int.emod_nonneg _ (by decide), Int.emod_lt_of_pos _ (by decide)⟩
          · exact ⟨ds2, x, _, rfl, sm2, hd2, by omega, hdr2⟩
        · rintro σ H2 ⟨ds2, x, y4, rfl, sm2, hd2, hdl2, hdr2⟩
          exact ⟨ds2, _, _, _, rfl, sm2, hd2, by omega, hdr2⟩
    · rintro σ H' ⟨ds, y2, y3, y4, rfl, sm, hd, hdl, hdr⟩
      exact ⟨_, rfl, qq D0 H' ds hD sm hd (by omega) hdr⟩
/-! ### _law_at -/
def spAt : Sp := fun vs H Q _ => ∃ (d : Addr) (ds : List Int) (i : Int), vs = [.ref d, .int i] ∧ H d = some (.lst (ds.map V.int)) ∧ Draws ds ∧ 0 ≤ i ∧ ∀ v, 0 ≤ v → v < 9973 → Q (.int v) H
theorem ok_at {k : Nat} (Z : Defs K mg) : FnOk P w K mg base CX0 (k + 2) Z.fLawAt Z.fdLawAt ["draws", "index"] spAt := by
  have GLawMix : FnOk P w K mg base CX0 (k + 1) Z.fLawMix Z.fdLawMix ["cell", "k"] spMix := ok_mix Z
  refine Z.DLawAt.F.ok scLawAt (fun vs H Q E h => ?_) (fun cdv A outer s H vs Q E hr h => ?_)
  · obtain ⟨a, ns, i, rfl, _⟩ := h
    rfl
  · obtain ⟨d, ds, i, rfl, hd, hD, i0, qq⟩ := h
    refine ⟨_, (pss_cons (ps_if (pt_cmpR op_lt (pv 1) (pe_callB call_len_seq (by rfl) Z.len PySem.boot_len (pa_cons (pv 0) pa_nil)) (nomark _)) (pss_one (ps_ret (pe_ix ix_list (pv 0) (pv 1) (fun _ _ => rfl)))) pss_nil)
        (pss_cons (ps_if (pt_cmpR op_eq (pe_callB call_len_seq (by rfl) Z.len PySem.boot_len (pa_cons (pv 0) pa_nil)) pe_int (nomark _)) (pss_one (ps_ret (pe_call GLawMix (hr.mono (by omega)) (by rfl) Z.DLawMix.g Z.DLawMix.F.kp Z.DLawMix.b .nil pass0 (pa_cons (pv 1) (pa_cons pe_int pa_nil))))) pss_nil)
        (pss_one (ps_ret (pe_call GLawMix (hr.mono (by omega)) (by rfl) Z.DLawMix.g Z.DLawMix.F.kp Z.DLawMix.b .nil pass0 (pa_cons (pe_op op_add (pe_ix ix_list (pv 0) (pe_op op_mod (pe_callTy call_int1 (by rfl) Z.int HL.boot_int (pa_cons (pv 1) pa_nil)) (pe_callB call_len_seq (by rfl) Z.len PySem.boot_len (pa_cons (pv 0) pa_nil))) (fun _ _ => rfl)) (pe_op op_mul (pv 1) pe_int)) (pa_cons (pv 1) pa_nil))))))), ?_⟩
    have hlen : (ds.map V.int).length = ds.length := List.length_map _
    refine ⟨_, rfl, _, rfl, d, _, rfl, .inl (SqL.of hd), _, _, rfl, rfl, _, rfl, ite2 (fun e => ?_) (fun e => ?_)⟩
    · have e2 : i < ((ds.map V.int).length : Int) := of_decide_eq_true e
      rw [hlen] at e2
      have hi : i.toNat < ds.length := by omega
      have hg : atI (ds.map V.int) i = some (.int ds[i.toNat]) := by
        have h0 := atI_nat (xs := ds.map V.int) (j := i.toNat) (v := .int ds[i.toNat]) (by simp [hi])
        have : ((i.toNat : Nat) : Int) = i := by omega
        rwa [this] at h0
      have hb := hD _ (List.getElem_mem hi)
      exact ⟨_, rfl, _, rfl, d, _, i, _, rfl, rfl, SqL.of hd, hg, qq _ hb.1 hb.2⟩
    · refine ⟨_, rfl, d, _, rfl, .inl (SqL.of hd), rfl, _, rfl, ite2 (fun e2 => ?_) (fun e2 => ?_)⟩
      · exact ⟨_, rfl, i, 77, rfl, qq⟩
      · have hp : 0 < ds.length := by
          rcases Nat.eq_zero_or_pos ds.length with z | z
          · exact absurd (decide_eq_true (by rw [hlen, z]; rfl)) e2
          · exact z
        have m0 := Int.emod_nonneg i (show (ds.length : Int) ≠ 0 by omega)
        have m1 := Int.emod_lt_of_pos i (show (0 : Int) < (ds.length : Int) by omega)
        have hi : (i % (ds.length : Int)).toNat < ds.length := by omega
        have hg : atI (ds.map V.int) (i % (ds.length : Int)) = some (.int ds[(i % (ds.length : Int)).toNat]) := by
          have h0 := atI_nat (xs := ds.map V.int) (j := (i % (ds.length : Int)).toNat) (v := .int ds[(i % (ds.length : Int)).toNat]) (by simp [hi])
          have : (((i % (ds.length : Int)).toNat : Nat) : Int) = i % (ds.length : Int) := by omega
          rwa [this] at h0
        generalize ds[(i % (ds.length : Int)).toNat] = x at hg
        refine ⟨_, rfl, _, rfl, .inl ⟨i, rfl, _, rfl, d, _, rfl, .inl (SqL.of hd), ?_⟩⟩
        rw [hlen]
        refine ⟨_, _, rfl, rfl, (by show (0 : Int) < (ds.length : Int); omega), d, _, _, _, rfl, rfl, SqL.of hd, hg, _, rfl, i, 131, rfl, rfl, .inr ⟨by decide, by decide⟩, _, _, rfl, rfl, _, rfl, _, _, rfl, qq⟩
end
end Q43
namespace Q43
open PySem PySem.Spec PyProof.Rows L2 SX HL
section
variable {P : Program} {w : World} {K : PySem.W.Frag} {mg : Str → Option Value} {base : Heap}
/-! ### _law_is_integer -/
def spIsInt : Sp := fun vs H Q _ => ∃ i : Int, vs = [.int i] ∧ Q (.bl true) H
theorem ok_isint {k : Nat} (Z : Defs K mg) : FnOk P w K mg base CX0 (k + 1) Z.fLawIsInteger Z.fdLawIsInteger ["actual"] spIsInt := by
  refine Z.DLawIsInteger.F.ok scLawIsInteger (fun vs H Q E h => ?_) (fun cdv A outer s H vs Q E hr h => ?_)
  · obtain ⟨i, rfl, _⟩ := h
    rfl
  · obtain ⟨i, rfl, q⟩ := h
    refine ⟨_, (pss_one (ps_ret (pe_and (pe_callB call_isB (by rfl) Z.isinstance HL.boot_isinstance (pa_cons (pv 0) (pa_cons (pe_bltn (v := .ty "int") (by rfl) Z.int HL.boot_int rfl) pa_nil))) (pe_one (pe_not (pe_callB call_isB (by rfl) Z.isinstance HL.boot_isinstance (pa_cons (pv 0) (pa_cons (pe_bltn (v := .ty "bool") (by rfl) Z.bool HL.boot_bool rfl) pa_nil)))))))), ?_⟩
    refine ⟨_, rfl, _, "int", "int", true, rfl, .base (.int i), by decide +kernel, true, rfl, iteT ?_⟩
    exact ⟨_, rfl, _, "int", "bool", false, rfl, .base (.int i), by decide +kernel, false, rfl, q⟩
/-! ### _law_same -/
def spLess (K : PySem.W.Frag) : Nat → Sp
  | 0 => fun _ _ _ _ => False
  | n + 1 => spSameG K n
theorem same_step {n : Nat} (Z : Defs K mg)
    (GLawSame : FnOk P w K mg base CX0 (n + 1) Z.fLawSame Z.fdLawSame ["actual", "expected"] (spLess K n)) : FnOk P w K mg base CX0 (n + 2) Z.fLawSame Z.fdLawSame ["actual", "expected"] (spSameG K n) := by
  have GLawIsInteger : FnOk P w K mg base CX0 1 Z.fLawIsInteger Z.fdLawIsInteger ["actual"] spIsInt := ok_isint (k := 0) Z
  refine Z.DLawSame.F.ok scLawSame (fun vs H Q E h => ?_) (fun cdv A outer s H vs Q E hr h => ?_)
  · obtain ⟨x, y, rfl, _⟩ := h
    rfl
  · obtain ⟨x, y, rfl, hs, q⟩ := h
    refine ⟨_, (pss_cons (ps_if (pt_val (pe_callB call_isiT (by rfl) Z.isinstance HL.boot_isinstance (pa_cons (pv 1) (pa_cons (pe_tup (pa_cons (pe_bltn (v := .ty "list") (by rfl) Z.list HL.boot_list rfl) (pa_cons (pe_bltn (v := .ty "tuple") (by rfl) Z.tuple HL.boot_tuple rfl) pa_nil))) pa_nil)))) (pss_cons (ps_if (PW.pt (pw_or (pt_cmpR op_ne (pe_callB call_isB (by rfl) Z.isinstance HL.boot_isinstance (pa_cons (pv 1) (pa_cons (pe_bltn (v := .ty "list") (by rfl) Z.list HL.boot_list rfl) pa_nil))) (pe_callB call_isB (by rfl) Z.isinstance HL.boot_isinstance (pa_cons (pv 0) (pa_cons (pe_bltn (v := .ty "list") (by rfl) Z.list HL.boot_list rfl) pa_nil))) (nomark _)) (pw_or1 (pt_cmpR op_ne (pe_callB call_isB (by rfl) Z.isinstance HL.boot_isinstance (pa_cons (pv 1) (pa_cons (pe_bltn (v := .ty "tuple") (by rfl) Z.tuple HL.boot_tuple rfl) pa_nil))) (pe_callB call_isB (by rfl) Z.isinstance HL.boot_isinstance (pa_cons (pv 0) (pa_cons (pe_bltn (v := .ty "tuple") (by rfl) Z.tuple HL.boot_tuple rfl) pa_nil))) (nomark _))))) (pss_one (ps_ret pe_bl)) pss_nil)
        (pss_cons (ps_if (pt_cmpR op_ne (pe_callB call_len_seq (by rfl) Z.len PySem.boot_len (pa_cons (pv 0) pa_nil)) (pe_callB call_len_seq (by rfl) Z.len PySem.boot_len (pa_cons (pv 1) pa_nil)) (nomark _)) (pss_one (ps_ret pe_bl)) pss_nil)
        (pss_cons (ps_for PassesOwn.never rfl (pi_range1 (by rfl) Z.range (pa_cons (pe_callB call_len_seq (by rfl) Z.len PySem.boot_len (pa_cons (pv 1) pa_nil)) pa_nil)) (pg_name (i := 2) scLawSame.nd rfl (.inl rfl)) (pss_one (ps_if (pt_not (pt_val (pe_call GLawSame (hr.mono (by omega)) (by rfl) Z.DLawSame.g Z.DLawSame.F.kp Z.DLawSame.b .nil pass0 (pa_cons (pe_ix ix_seq (pv 0) (pv 2) (fun _ _ => rfl)) (pa_cons (pe_ix ix_seq (pv 1) (pv 2) (fun _ _ => rfl)) pa_nil))))) (pss_one (ps_ret pe_bl)) pss_nil)))
        (pss_one (ps_ret pe_bl))))) pss_nil)
        (pss_cons (ps_if (pt_cmp (pc_isN (pv 1))) (pss_one (ps_ret (pe_cmp (pc_isN (pv 0)) rfl))) pss_nil)
        (pss_cons (ps_if (pt_val (pe_callB call_isB (by rfl) Z.isinstance HL.boot_isinstance (pa_cons (pv 1) (pa_cons (pe_bltn (v := .ty "bool") (by rfl) Z.bool HL.boot_bool rfl) pa_nil)))) (pss_one (ps_ret (pe_and (pe_callB call_isB (by rfl) Z.isinstance HL.boot_isinstance (pa_cons (pv 0) (pa_cons (pe_bltn (v := .ty "bool") (by rfl) Z.bool HL.boot_bool rfl) pa_nil))) (pe_one (pe_cmpR op_eq (pv 0) (pv 1) (nomark _)))))) pss_nil)
        (pss_cons (ps_if (pt_val (pe_callB call_isB (by rfl) Z.isinstance HL.boot_isinstance (pa_cons (pv 1) (pa_cons (pe_bltn (v := .ty "int") (by rfl) Z.int HL.boot_int rfl) pa_nil)))) (pss_one (ps_ret (pe_and (pe_call GLawIsInteger (hr.mono (by omega)) (by rfl) Z.DLawIsInteger.g Z.DLawIsInteger.F.kp Z.DLawIsInteger.b .nil pass0 (pa_cons (pv 0) pa_nil)) (pe_one (pe_cmpR op_eq (pv 0) (pv 1) (nomark _)))))) pss_nil)
        (pss_one (ps_ret (pe_and (pe_callB call_isB (by rfl) Z.isinstance HL.boot_isinstance (pa_cons (pv 0) (pa_cons (pe_bltn (v := .ty "str") (by rfl) Z.str HL.boot_str rfl) pa_nil))) (pe_one (pe_cmpR op_eq (pv 0) (pv 1) (nomark _)))))))))), ?_⟩
    have t2 : 2 ≤ sizeLine := by decide
    have hs : (Leaf x ∧ x = y) ∨ ∃ (m : Nat) (t : String) (a b : Addr) (xs ys : List V), n = m + 1 ∧ x = .ref a ∧ y = .ref b ∧ IsSeq K H t a xs ∧ IsSeq K H t b ys ∧ xs.length = ys.length ∧ ys.length ≤ 1000000 ∧
        ∀ (i : Nat) (u v : V), xs[i]? = some u → ys[i]? = some v → SameD K H m u v := by
      cases n with
      | zero => exact .inl hs
      | succ m =>
        rcases hs with h | ⟨t, a, b, xs, ys, h⟩
        · exact .inl h
        · exact .inr ⟨m, t, a, b, xs, ys, rfl, h⟩
    rcases hs with ⟨lf, rfl⟩ | ⟨m, t, a, b, xs, ys, rfl, rfl, rfl, h1, h2, el, hz, hh⟩
    · cases x with
      | int i =>
        refine ⟨_, rfl, t2, fun p hp => ⟨_, p, _, .type "int", _, _, rfl, upd_same, .cons (.ty _) (.cons (.ty _) .nil), .base (.int i), kit_two (by decide +kernel : kitB "int" "list" = some false) (by decide +kernel : kitB "int" "tuple" = some false), _, rfl, iteF ?_⟩⟩
        refine ⟨_, rfl, _, rfl, iteF ?_⟩
        refine ⟨_, rfl, _, "int", "bool", false, rfl, .base (.int i), by decide +kernel, false, rfl, iteF ?_⟩
        refine ⟨_, rfl, _, "int", "int", true, rfl, .base (.int i), by decide +kernel, true, rfl, iteT ?_⟩
        refine ⟨_, rfl, i, rfl, true, rfl, iteT ⟨_, rfl, _, rfl, rfl, ?_⟩⟩
        rw [decide_eq_true rfl]
        exact q _ (same_upd hp)
      | str z =>
        refine ⟨_, rfl, t2, fun p hp => ⟨_, p, _, .type "str", _, _, rfl, upd_same, .cons (.ty _) (.cons (.ty _) .nil), .base (.str z), kit_two (by decide +kernel : kitB "str" "list" = some false) (by decide +kernel : kitB "str" "tuple" = some false), _, rfl, iteF ?_⟩⟩
        refine ⟨_, rfl, _, rfl, iteF ?_⟩
        refine ⟨_, rfl, _, "str", "bool", false, rfl, .base (.str z), by decide +kernel, false, rfl, iteF ?_⟩
        refine ⟨_, rfl, _, "str", "int", false, rfl, .base (.str z), by decide +kernel, false, rfl, iteF ?_⟩
        refine ⟨_, rfl, _, "str", "str", true, rfl, .base (.str z), by decide +kernel, true, rfl, iteT ?_⟩
        refine ⟨_, rfl, _, rfl, rfl, ?_⟩
        rw [decide_eq_true rfl]
        exact q _ (same_upd hp)
      | bl b =>
        refine ⟨_, rfl, t2, fun p hp => ⟨_, p, _, .type "bool", _, _, rfl, upd_same, .cons (.ty _) (.cons (.ty _) .nil), .base (.bl b), kit_two (by decide +kernel : kitB "bool" "list" = some false) (by decide +kernel : kitB "bool" "tuple" = some false), _, rfl, iteF ?_⟩⟩
        refine ⟨_, rfl, _, rfl, iteF ?_⟩
        refine ⟨_, rfl, _, "bool", "bool", true, rfl, .base (.bl b), by decide +kernel, true, rfl, iteT ?_⟩
        refine ⟨_, rfl, _, "bool", "bool", true, rfl, .base (.bl b), by decide +kernel, true, rfl, iteT ?_⟩
        refine ⟨_, rfl, _, rfl, rfl, ?_⟩
        rw [decide_eq_true rfl]
        exact q _ (same_upd hp)
      | non =>
        refine ⟨_, rfl, t2, fun p hp => ⟨_, p, _, .type "NoneType", _, _, rfl, upd_same, .cons (.ty _) (.cons (.ty _) .nil), .base .non, kit_two (by decide +kernel : kitB "NoneType" "list" = some false) (by decide +kernel : kitB "NoneType" "tuple" = some false), _, rfl, iteF ?_⟩⟩
        refine ⟨_, rfl, _, rfl, iteT ?_⟩
        exact ⟨_, rfl, q _ (same_upd hp)⟩
      | _ => exact (show False from lf).elim
    · have rest : ∀ (i : Nat) (u v : V), xs[i]? = some u → ys[i]? = some v → atI xs ((0 : Int) + (i : Int)) = some u ∧ atI ys ((0 : Int) + (i : Int)) = some v := fun i u v hu hv => by
        rw [Int.zero_add]
        exact ⟨atI_nat hu, atI_nat hv⟩
      have turn : ∀ i : Nat, i < (ys.length : Int).toNat → ∃ u v, xs[i]? = some u ∧ ys[i]? = some v := fun i hi => by
        have i1 : i < ys.length := by omega
        have i2 : i < xs.length := by omega
        exact ⟨_, _, List.getElem?_eq_getElem i2, List.getElem?_eq_getElem i1⟩
      rcases h1 with ⟨rfl, s1, t1⟩ | ⟨rfl, s1, t1⟩
      · rcases h2 with ⟨_, s2, t2'⟩ | ⟨z, _⟩
        · refine ⟨_, rfl, t2, fun p hp => ⟨_, p, _, .type "tuple", _, _, rfl, upd_same, .cons (.ty _) (.cons (.ty _) .nil), tyx_same (same_upd hp) t2', kit_two (by decide +kernel : kitB "tuple" "list" = some false) (by decide +kernel : kitB "tuple" "tuple" = some true), _, rfl, iteT ?_⟩⟩
          have s10 := s1
          have s20 := s2
          have s1 := seqT_same (same_upd (o := .tup [.ty "list", .ty "tuple"]) hp) s1
          have s2 := seqT_same (same_upd (o := .tup [.ty "list", .ty "tuple"]) hp) s2
          refine ⟨_, rfl, _, "tuple", "list", false, rfl, tyx_same (same_upd hp) t2', by decide +kernel, _, rfl, _, "tuple", "list", false, rfl, tyx_same (same_upd hp) t1, by decide +kernel, rfl, _, rfl, iteNS rfl ?_⟩
          refine ⟨_, rfl, _, "tuple", "tuple", true, rfl, tyx_same (same_upd hp) t2', by decide +kernel, _, rfl, _, "tuple", "tuple", true, rfl, tyx_same (same_upd hp) t1, by decide +kernel, rfl, _, rfl, iteNS rfl ?_⟩
          refine ⟨_, rfl, a, xs, rfl, .inr s1, _, rfl, b, ys, rfl, .inr s2, rfl, _, rfl, iteNS (by rw [el]) ?_⟩
          refine ⟨_, rfl, b, ys, rfl, .inr s2, _, rfl, by omega, by omega, ?_⟩
          refine for_range (lo := 0) (n := (ys.length : Int).toNat) (fun i σ H' => Same H H' ∧ ∃ y, σ = [some (.ref a), some (.ref b), y]) ⟨same_upd hp, none, rfl⟩ ?_ ?_
          · rintro i σ H' hi ⟨sm, y, rfl⟩
            obtain ⟨u, v, hu, hv⟩ := turn i hi
            obtain ⟨r1, r2⟩ := rest i u v hu hv
            exact ⟨_, rfl, _, rfl, .inr (.inl ⟨a, xs, _, u, rfl, rfl, seqT_same sm s10, r1, _, rfl, _, rfl, .inr (.inl ⟨b, ys, _, v, rfl, rfl, seqT_same sm s20, r2, u, v, rfl, sameD_same sm (hh i u v hu hv), fun H2 s2 => ⟨true, rfl, iteF ⟨sm.trans s2, _, rfl⟩⟩⟩)⟩)⟩
          · rintro σ H' ⟨sm, y, rfl⟩
            exact q _ sm
        · exact absurd z (by decide)
      · rcases h2 with ⟨z, _⟩ | ⟨_, s2, t2'⟩
        · exact absurd z (by decide)
        · refine ⟨_, rfl, t2, fun p hp => ⟨_, p, _, .type "list", _, _, rfl, upd_same, .cons (.ty _) (.cons (.ty _) .nil), tyx_same (same_upd hp) t2', kit_two (by decide +kernel : kitB "list" "list" = some true) (by decide +kernel : kitB "list" "tuple" = some false), _, rfl, iteT ?_⟩⟩
          have s10 := s1
          have s20 := s2
          have s1 := (same_upd (o := .tup [.ty "list", .ty "tuple"]) hp).seq s1
          have s2 := (same_upd (o := .tup [.ty "list", .ty "tuple"]) hp).seq s2
          refine ⟨_, rfl, _, "list", "list", true, rfl, tyx_same (same_upd hp) t2', by decide +kernel, _, rfl, _, "list", "list", true, rfl, tyx_same (same_upd hp) t1, by decide +kernel, rfl, _, rfl, iteNS rfl ?_⟩
          refine ⟨_, rfl, _, "list", "tuple", false, rfl, tyx_same (same_upd hp) t2', by decide +kernel, _, rfl, _, "list", "tuple", false, rfl, tyx_same (same_upd hp) t1, by decide +kernel, rfl, _, rfl, iteNS rfl ?_⟩
          refine ⟨_, rfl, a, xs, rfl, .inl s1, _, rfl, b, ys, rfl, .inl s2, rfl, _, rfl, iteNS (by rw [el]) ?_⟩
          refine ⟨_, rfl, b, ys, rfl, .inl s2, _, rfl, by omega, by omega, ?_⟩
          refine for_range (lo := 0) (n := (ys.length : Int).toNat) (fun i σ H' => Same H H' ∧ ∃ y, σ = [some (.ref a), some (.ref b), y]) ⟨same_upd hp, none, rfl⟩ ?_ ?_
          · rintro i σ H' hi ⟨sm, y, rfl⟩
            obtain ⟨u, v, hu, hv⟩ := turn i hi
            obtain ⟨r1, r2⟩ := rest i u v hu hv
            exact ⟨_, rfl, _, rfl, .inl ⟨a, xs, _, u, rfl, rfl, sm.seq s10, r1, _, rfl, _, rfl, .inl ⟨b, ys, _, v, rfl, rfl, sm.seq s20, r2, u, v, rfl, sameD_same sm (hh i u v hu hv), fun H2 s2 => ⟨true, rfl, iteF ⟨sm.trans s2, _, rfl⟩⟩⟩⟩⟩
          · rintro σ H' ⟨sm, y, rfl⟩
            exact q _ sm
theorem ok_same (Z : Defs K mg) : ∀ n, FnOk P w K mg base CX0 (n + 2) Z.fLawSame Z.fdLawSame ["actual", "expected"] (spSameG K n)
  | 0 => same_step Z (Z.DLawSame.F.ok scLawSame (fun vs H Q E h => (show False from h).elim) (fun cdv A outer s H vs Q E hr h => (show False from h).elim))
  | n + 1 => same_step Z (ok_same Z n)
end
end Q43
namespace Q43
open PySem PySem.Spec PyProof.Rows L2 SX HL
section
variable {P : Program} {w : World} {K : PySem.W.Frag} {mg : Str → Option Value} {base : Heap}
/-! ### _law_next -/
def StN (H : Hp) (p q : Addr) (ds : List Int) : Prop := H q = some (.lst (ds.map V.int)) ∧ Draws ds ∧ ∃ i : Int, 0 ≤ i ∧ H p = some (.lst [.ref q, .int i])
theorem StN.ne {H : Hp} {p q : Addr} {ds : List Int} (h : StN H p q ds) : q ≠ p := by
  obtain ⟨h1, _, i, _, h2⟩ := h
  intro e
  subst e
  rw [h1] at h2
  have e2 := HO.lst.inj (Option.some.inj h2)
  cases ds with
  | nil => cases e2
  | cons x r => cases e2
theorem StN.same {H H' : Hp} {p q : Addr} {ds : List Int} (h : StN H p q ds) (s : ∀ b o, b = p ∨ b = q → H b = some o → H' b = some o) : StN H' p q ds := by
  obtain ⟨h1, h3, i, h0, h2⟩ := h
  exact ⟨s _ _ (.inr rfl) h1, h3, i, h0, s _ _ (.inl rfl) h2⟩
def spNext : Sp := fun vs H Q _ => ∃ (p q : Addr) (ds : List Int) (lim : Int), vs = [.ref p, .int lim] ∧ StN H p q ds ∧ 0 < lim ∧
  ∀ H' v, StN H' p q ds → But H H' p → 0 ≤ v → v < lim → Q (.int v) H'
theorem ok_next {k : Nat} (Z : Defs K mg) : FnOk P w K mg base CX0 (k + 3) Z.fLawNext Z.fdLawNext ["state", "limit"] spNext := by
  have GLawAt : FnOk P w K mg base CX0 (k + 2) Z.fLawAt Z.fdLawAt ["draws", "index"] spAt := ok_at Z
  refine Z.DLawNext.F.ok scLawNext (fun vs H Q E h => ?_) (fun cdv A outer s H vs Q E hr h => ?_)
  · obtain ⟨p, q, ns, lim, rfl, _⟩ := h
    rfl
  · obtain ⟨p, q, ds, lim, rfl, hS, l0, qq⟩ := h
    refine ⟨_, (pss_cons (ps_augS (pv 0) pe_int pget_list pe_int ip_add set_list)
        (pss_one (ps_ret (pe_op op_mod (pe_call GLawAt (hr.mono (by omega)) (by rfl) Z.DLawAt.g Z.DLawAt.F.kp Z.DLawAt.b .nil pass0 (pa_cons (pe_ix ix_list (pv 0) pe_int (fun _ _ => rfl)) (pa_cons (pe_ix ix_list (pv 0) pe_int (fun _ _ => rfl)) pa_nil))) (pv 1))))), ?_⟩
    have ne := hS.ne
    obtain ⟨hq, hD, i, hi, hp⟩ := id hS
    refine ⟨.ref p, rfl, p, _, 1, .int i, rfl, rfl, SqL.of hp, by decide, rfl, i, 1, rfl, rfl, p, _, 1, 1, rfl, rfl, hp, rfl, ?_⟩
    have hq' : upd H p (.lst ([.ref q, .int i].set 1 (.int (i + 1)))) q = some (.lst (ds.map V.int)) := by rw [upd_ne ne]; exact hq
    refine ⟨.ref p, rfl, p, _, 0, .ref q, rfl, rfl, SqL.of upd_same, rfl, .ref p, rfl, p, _, 1, .int (i + 1), rfl, rfl, SqL.of upd_same, rfl, q, ds, i + 1, rfl, hq', hD, by omega, fun v v0 v1 => ⟨.int lim, rfl, v, lim, rfl, rfl, l0, ?_⟩⟩
    exact qq _ _ ⟨hq', hD, i + 1, by omega, upd_same⟩ but_upd (Int.emod_nonneg _ (by omega)) (Int.emod_lt_of_pos _ l0)
end
end Q43
namespace Q43
open PySem PySem.Spec PyProof.Rows L2 SX HL NM
section
variable {P : Program} {w : World} {K : PySem.W.Frag} {mg : Str → Option Value} {base : Heap}
/-! ### numbers written -/
def spNum : Sp := fun vs H Q _ => ∃ n : Nat, vs = [vi n] ∧ (enc n).length ≤ 1000 ∧ ∀ p H', Same H H' → H p = none → H' p = some (.lst ((enc n).map vi)) → Q (.ref p) H'
theorem ok_writeNumber {k : Nat} (Z : Defs K mg) : FnOk P w K mg base CX0 (k + 1) Z.fWriteNumber Z.fdWriteNumber ["number"] spNum := by
  refine Z.DWriteNumber.F.ok scWriteNumber (fun vs H Q E h => ?_) (fun cdv A outer s H vs Q E hr h => ?_)
  · obtain ⟨n, rfl, _⟩ := h
    rfl
  · obtain ⟨n, rfl, hl, qq⟩ := h
    refine ⟨_, (pss_cons (ps_set (i := 1) scWriteNumber.nd rfl (.inl rfl) (pe_lst pa_nil))
        (pss_cons (ps_while PassesOwn.never (pt_cmpR op_ge (pv 0) pe_int (nomark _)) (pss_cons (ps_expr (pe_bm PySem.F.plainAttrs_list PySem.F.slot_list_append PySem.F.type_list_append mt_append (pv 1) (pa_cons (pe_op op_add pe_int (pe_op op_mod (pv 0) pe_int)) pa_nil)))
        (pss_one (ps_set (i := 0) scWriteNumber.nd rfl (.inl rfl) (pe_op op_fdiv (pv 0) pe_int)))))
        (pss_one (ps_ret (pe_lst (StX.pa_star (pv 1) (pa_cons (pv 0) pa_nil))))))), ?_⟩
    refine ⟨Nat.zero_le _, fun r hr0 => ?_⟩
    refine ⟨fun m σ H2 => m < 1000 ∧ ∃ (done : List Nat) (k : Nat), σ = [some (vi k), some (.ref r)] ∧ (enc k).length = m + 1 ∧ enc n = done ++ enc k ∧ Same H H2 ∧ H2 r = some (.lst (done.map vi)),
      ⟨(enc n).length - 1, by have := enc_pos n; omega, [], n, rfl, by have := enc_pos n; omega, rfl, same_upd hr0, upd_same⟩, ?_⟩
    rintro m σ H2 ⟨hm, done, k, rfl, hk, he, s2, hr2⟩
    have hd : done.length ≤ 1000 := by
      have := congrArg List.length he
      rw [List.length_append] at this
      omega
    refine ⟨_, rfl, _, _, rfl, rfl, _, rfl, ?_⟩
    by_cases c : (128 : Int) ≤ (k : Int)
    · rw [decide_eq_true c]
      have c' : 128 ≤ k := by omega
      have ek := enc_ge c'
      refine iteT ⟨fun σ' H' => ∃ (done : List Nat) (k : Nat), σ' = [some (vi k), some (.ref r)] ∧ (enc k).length = m ∧ enc n = done ++ enc k ∧ Same H H' ∧ H' r = some (.lst (done.map vi)), ?_, ?_⟩
      · rintro σ' H' ⟨d2, k2, rfl, h1, h2, h3, h4⟩
        have hp := enc_pos k2
        exact ⟨m - 1, by omega, by omega, d2, k2, rfl, by omega, h2, h3, h4⟩
      · refine ⟨_, rfl, .inl ⟨rfl, _, SqL.of hr2⟩, _, rfl, _, _, rfl, rfl, (by show (0 : Int) < 128; decide), _, _, rfl, rfl, r, _, _, rfl, rfl, hr2, (by rw [List.length_map]; exact Nat.lt_of_le_of_lt hd (by decide)), ?_⟩
        refine ⟨_, rfl, _, _, rfl, rfl, ⟨by decide, by decide⟩, ?_⟩
        refine ⟨done ++ [128 + k % 128], k / 128, rfl, ?_, ?_, fun b o hb => by rw [upd_ne (ne_of_none hb hr0)]; exact s2 b o hb, by rw [upd_same, List.map_append]; rfl⟩
        · rw [ek, List.length_cons] at hk
          omega
        · rw [he, ek, List.append_assoc]
          rfl
    · rw [decide_eq_false c]
      have ek := enc_lt (show k < 128 by omega)
      refine iteF ⟨_, rfl, r, _, rfl, .inr (SqL.of hr2), _, rfl, (by show (done.map vi ++ [vi k]).length ≤ sizeLine; rw [List.length_append, List.length_map]; exact Nat.le_trans (show done.length + 1 ≤ 10000 by omega) (by decide)), fun p hp => ?_⟩
      refine qq p _ (fun b o hb => by rw [upd_ne (ne_of_none (s2 b o hb) hp)]; exact s2 b o hb) (Same.none s2 hp) ?_
      rw [upd_same, he, ek, List.map_append]
      rfl
theorem ok_lawNumber {k : Nat} (Z : Defs K mg) : FnOk P w K mg base CX0 (k + 1) Z.fLawNumber Z.fdLawNumber ["number"] spNum := by
  refine Z.DLawNumber.F.ok scLawNumber (fun vs H Q E h => ?_) (fun cdv A outer s H vs Q E hr h => ?_)
  · obtain ⟨n, rfl, _⟩ := h
    rfl
  · obtain ⟨n, rfl, hl, qq⟩ := h
    refine ⟨_, (pss_cons (ps_set (i := 1) scLawNumber.nd rfl (.inl rfl) (pe_lst pa_nil))
        (pss_cons (ps_while PassesOwn.never (pt_cmpR op_gt (pv 0) pe_int (nomark _)) (pss_cons (ps_expr (pe_bm PySem.F.plainAttrs_list PySem.F.slot_list_append PySem.F.type_list_append mt_append (pv 1) (pa_cons (pe_op op_add pe_int (pe_op op_mod (pv 0) pe_int)) pa_nil)))
        (pss_one (ps_set (i := 0) scLawNumber.nd rfl (.inl rfl) (pe_op op_fdiv (pv 0) pe_int)))))
        (pss_one (ps_ret (pe_op op_cat (pv 1) (pe_lst (pa_cons (pv 0) pa_nil))))))), ?_⟩
    refine ⟨Nat.zero_le _, fun r hr0 => ?_⟩
    refine ⟨fun m σ H2 => m < 1000 ∧ ∃ (done : List Nat) (k : Nat), σ = [some (vi k), some (.ref r)] ∧ (enc k).length = m + 1 ∧ enc n = done ++ enc k ∧ Same H H2 ∧ H2 r = some (.lst (done.map vi)),
      ⟨(enc n).length - 1, by have := enc_pos n; omega, [], n, rfl, by have := enc_pos n; omega, rfl, same_upd hr0, upd_same⟩, ?_⟩
    rintro m σ H2 ⟨hm, done, k, rfl, hk, he, s2, hr2⟩
    have hd : done.length ≤ 1000 := by
      have := congrArg List.length he
      rw [List.length_append] at this
      omega
    refine ⟨_, rfl, _, _, rfl, rfl, _, rfl, ?_⟩
    by_cases c : (127 : Int) < (k : Int)
    · rw [decide_eq_true c]
      have c' : 128 ≤ k := by omega
      have ek := enc_ge c'
      refine iteT ⟨fun σ' H' => ∃ (done : List Nat) (k : Nat), σ' = [some (vi k), some (.ref r)] ∧ (enc k).length = m ∧ enc n = done ++ enc k ∧ Same H H' ∧ H' r = some (.lst (done.map vi)), ?_, ?_⟩
      · rintro σ' H' ⟨d2, k2, rfl, h1, h2, h3, h4⟩
        have hp := enc_pos k2
        exact ⟨m - 1, by omega, by omega, d2, k2, rfl, by omega, h2, h3, h4⟩
      · refine ⟨_, rfl, .inl ⟨rfl, _, SqL.of hr2⟩, _, rfl, _, _, rfl, rfl, (by show (0 : Int) < 128; decide), _, _, rfl, rfl, r, _, _, rfl, rfl, hr2, (by rw [List.length_map]; exact Nat.lt_of_le_of_lt hd (by decide)), ?_⟩
        refine ⟨_, rfl, _, _, rfl, rfl, ⟨by decide, by decide⟩, ?_⟩
        refine ⟨done ++ [128 + k % 128], k / 128, rfl, ?_, ?_, fun b o hb => by rw [upd_ne (ne_of_none hb hr0)]; exact s2 b o hb, by rw [upd_same, List.map_append]; rfl⟩
        · rw [ek, List.length_cons] at hk
          omega
        · rw [he, ek, List.append_assoc]
          rfl
    · rw [decide_eq_false c]
      have ek := enc_lt (show k < 128 by omega)
      refine iteF ⟨_, rfl, _, rfl, (by show 1 ≤ sizeLine; decide), fun l1 hl1 => ?_⟩
      have s3 : Same H2 (upd H2 l1 (.lst [vi k])) := same_upd hl1
      refine ⟨r, l1, _, _, rfl, rfl, s3 _ _ hr2, upd_same, ?_, fun p hp => ?_⟩
      · rw [List.length_map]
        exact Nat.le_trans (show done.length + 1 ≤ 10000 by omega) (by decide)
      · refine qq p _ (fun b o hb => by rw [upd_ne (ne_of_none (s3 _ _ (s2 b o hb)) hp)]; exact s3 _ _ (s2 b o hb)) (Same.none s2 (Same.none s3 hp)) ?_
        rw [upd_same, he, ek, List.map_append]
        rfl
/-! ### sums -/
def spSum : Sp := fun vs H Q _ => ∃ (a : Addr) (d : List Nat), vs = [.ref a] ∧ H a = some (.lst (d.map vi)) ∧ Q (vi (cks d)) H
theorem sum_step {d : List Nat} {i b : Nat} (h : d[i]? = some b) : (31 * (((d.take i).foldl stp 7 : Nat) : Int) + (b : Int) + 1) % 4294967296 = (((d.take (i + 1)).foldl stp 7 : Nat) : Int) := by
  rw [take_snoc h, List.foldl_append]
  show _ = ((stp ((d.take i).foldl stp 7) b : Nat) : Int)
  unfold stp M
  omega
theorem ok_checksum {k : Nat} (Z : Defs K mg) : FnOk P w K mg base CX0 (k + 1) Z.fChecksum Z.fdChecksum ["data"] spSum := by
  refine Z.DChecksum.F.ok scChecksum (fun vs H Q E h => ?_) (fun cdv A outer s H vs Q E hr h => ?_)
  · obtain ⟨a, d, rfl, _⟩ := h
    rfl
  · obtain ⟨a, d, rfl, ha, qq⟩ := h
    refine ⟨_, (pss_cons (ps_set (i := 1) scChecksum.nd rfl (.inl rfl) pe_int)
        (pss_cons (ps_for PassesOwn.never rfl (pi_list (pv 0)) (pg_name (i := 2) scChecksum.nd rfl (.inl rfl)) (pss_one (ps_set (i := 1) scChecksum.nd rfl (.inl rfl) (pe_op op_mod (pe_op op_add (pe_op op_add (pe_op op_mul pe_int (pv 1)) (pv 2)) pe_int) (pe_gint rfl Z.kSUMS)))))
        (pss_one (ps_ret (pv 1))))), ?_⟩
    refine ⟨_, rfl, a, rfl, ⟨_, SqL.of ha⟩, ?_⟩
    refine for_list (K := K) (a := a) (xs := d.map vi) (fun i σ H' => H' = H ∧ ∃ y, σ = [some (.ref a), some (vi ((d.take i).foldl stp 7)), y]) ⟨rfl, none, rfl⟩ (fun i σ H' _ p => by rw [p.1]; exact SqL.of ha) ?_ ?_
    · rintro i x σ H' hi ⟨rfl, y, rfl⟩
      obtain ⟨b, hb, rfl⟩ := get_vi hi
      refine ⟨_, rfl, 31, _, rfl, rfl, .inl ⟨by decide, by decide⟩, _, rfl, _, _, rfl, rfl, _, _, rfl, rfl, _, _, rfl, rfl, (by show (0 : Int) < 4294967296; decide), rfl, some (vi b), ?_⟩
      exact congrArg (fun z => [some (V.ref a), some (V.int z), some (vi b)]) (sum_step hb)
    · rintro σ H' ⟨rfl, y, rfl⟩
      rw [List.length_map, List.take_of_length_le (Nat.le_refl _)]
      exact ⟨_, rfl, qq⟩
theorem ok_lawChecksum {k : Nat} (Z : Defs K mg) : FnOk P w K mg base CX0 (k + 1) Z.fLawChecksum Z.fdLawChecksum ["data"] spSum := by
  refine Z.DLawChecksum.F.ok scLawChecksum (fun vs H Q E h => ?_) (fun cdv A outer s H vs Q E hr h => ?_)
  · obtain ⟨a, d, rfl, _⟩ := h
    rfl
  · obtain ⟨a, d, rfl, ha, qq⟩ := h
    refine ⟨_, (pss_cons (ps_set (i := 1) scLawChecksum.nd rfl (.inl rfl) pe_int)
        (pss_cons (ps_for PassesOwn.never rfl (pi_list (pv 0)) (pg_name (i := 2) scLawChecksum.nd rfl (.inl rfl)) (pss_one (ps_set (i := 1) scLawChecksum.nd rfl (.inl rfl) (pe_op op_mod (pe_op op_add (pe_op op_add (pe_op op_mul pe_int (pv 1)) (pv 2)) pe_int) pe_int))))
        (pss_one (ps_ret (pv 1))))), ?_⟩
    refine ⟨_, rfl, a, rfl, ⟨_, SqL.of ha⟩, ?_⟩
    refine for_list (K := K) (a := a) (xs := d.map vi) (fun i σ H' => H' = H ∧ ∃ y, σ = [some (.ref a), some (vi ((d.take i).foldl stp 7)), y]) ⟨rfl, none, rfl⟩ (fun i σ H' _ p => by rw [p.1]; exact SqL.of ha) ?_ ?_
    · rintro i x σ H' hi ⟨rfl, y, rfl⟩
      obtain ⟨b, hb, rfl⟩ := get_vi hi
      refine ⟨_, rfl, 31, _, rfl, rfl, .inl ⟨by decide, by decide⟩, _, rfl, _, _, rfl, rfl, _, _, rfl, rfl, _, _, rfl, rfl, (by show (0 : Int) < 4294967296; decide), rfl, some (vi b), ?_⟩
      exact congrArg (fun z => [some (V.ref a), some (V.int z), some (vi b)]) (sum_step hb)
    · rintro σ H' ⟨rfl, y, rfl⟩
      rw [List.length_map, List.take_of_length_le (Nat.le_refl _)]
      exact ⟨_, rfl, qq⟩
def spList (f : List Nat → List Nat) : Sp := fun vs H Q _ => ∃ (a : Addr) (d : List Nat), vs = [.ref a] ∧ H a = some (.lst (d.map vi)) ∧ d.length ≤ 100000 ∧ ∀ p H', Same H H' → H p = none → H' p = some (.lst ((f d).map vi)) → Q (.ref p) H'
theorem shr_eq (t k m : Nat) (e : (2 : Int) ^ ((k : Int)).toNat = (m : Int)) : (t : Int) / 2 ^ ((k : Int)).toNat = ((t / m : Nat) : Int) := by
  rw [e]
  omega
theorem ok_writeSum {k : Nat} (Z : Defs K mg) : FnOk P w K mg base CX0 (k + 2) Z.fWriteSum Z.fdWriteSum ["data"] (spList fun d => sum4 (cks d)) := by
  have GChecksum : FnOk P w K mg base CX0 (k + 1) Z.fChecksum Z.fdChecksum ["data"] spSum := ok_checksum Z
  refine Z.DWriteSum.F.ok scWriteSum (fun vs H Q E h => ?_) (fun cdv A outer s H vs Q E hr h => ?_)
  · obtain ⟨a, d, rfl, _⟩ := h
    rfl
  · obtain ⟨a, d, rfl, ha, hl, qq⟩ := h
    refine ⟨_, (pss_cons (ps_set (i := 1) scWriteSum.nd rfl (.inl rfl) (pe_call GChecksum (hr.mono (by omega)) (by rfl) Z.DChecksum.g Z.DChecksum.F.kp Z.DChecksum.b .nil pass0 (pa_cons (pv 0) pa_nil)))
        (pss_one (ps_ret (pe_lst (pa_cons (pe_op op_shr (pv 1) pe_int) (pa_cons (pe_op op_and (pe_op op_shr (pv 1) pe_int) pe_int) (pa_cons (pe_op op_and (pe_op op_shr (pv 1) pe_int) pe_int) (pa_cons (pe_op op_and (pv 1) pe_int) pa_nil)))))))), ?_⟩
    refine ⟨_, rfl, a, d, rfl, ha, ?_⟩
    have qq : ∀ p H', Same H H' → H p = none → H' p = some (.lst ((sum4 (cks d)).map vi)) → Q (.ref p) H' := qq
    generalize cks d = t at qq
    have e24 : (t : Int) / 2 ^ ((24 : Int)).toNat = ((t / 16777216 : Nat) : Int) := shr_eq t 24 16777216 (by decide)
    have e16 : (t : Int) / 2 ^ ((16 : Int)).toNat = ((t / 65536 : Nat) : Int) := shr_eq t 16 65536 (by decide)
    have e8 : (t : Int) / 2 ^ ((8 : Int)).toNat = ((t / 256 : Nat) : Int) := shr_eq t 8 256 (by decide)
    have ea : ∀ n : Nat, Builtin.bitAnd (n : Int) 255 = ((n % 256 : Nat) : Int) := fun n => by
      have := Bits.bitAnd_mask (x := (n : Int)) 8 (by omega)
      rw [show ((2 : Int) ^ 8 - 1) = 255 by decide, show ((2 : Int) ^ 8) = 256 by decide] at this
      rw [this]
      omega
    refine ⟨_, rfl, _, 24, rfl, rfl, (by show (0 : Int) ≤ 24; decide), _, rfl, _, 16, rfl, rfl, (by show (0 : Int) ≤ 16; decide), _, 255, rfl, rfl, _, rfl, _, 8, rfl, rfl, (by show (0 : Int) ≤ 8; decide), _, 255, rfl, rfl, _, rfl, _, 255, rfl, rfl, (by show 4 ≤ sizeLine; decide), fun p hp => ?_⟩
    refine qq p _ (same_upd hp) hp ?_
    rw [upd_same]
    have e : ([.int ((t : Int) / 2 ^ ((24 : Int)).toNat), .int (Builtin.bitAnd ((t : Int) / 2 ^ ((16 : Int)).toNat) 255), .int (Builtin.bitAnd ((t : Int) / 2 ^ ((8 : Int)).toNat) 255), .int (Builtin.bitAnd (t : Int) 255)] : List V) = (sum4 t).map vi := by
      rw [e24, e16, e8, ea, ea, ea]
      rfl
    exact congrArg (fun l => some (HO.lst l)) e
theorem ok_writeRecord {k : Nat} (Z : Defs K mg) : FnOk P w K mg base CX0 (k + 3) Z.fWriteRecord Z.fdWriteRecord ["data"] (spList rcd) := by
  have GWriteNumber : FnOk P w K mg base CX0 1 Z.fWriteNumber Z.fdWriteNumber ["number"] spNum := ok_writeNumber (k := 0) Z
  have GWriteSum : FnOk P w K mg base CX0 2 Z.fWriteSum Z.fdWriteSum ["data"] (spList fun d => sum4 (cks d)) := ok_writeSum (k := 0) Z
  refine Z.DWriteRecord.F.ok scWriteRecord (fun vs H Q E h => ?_) (fun cdv A outer s H vs Q E hr h => ?_)
  · obtain ⟨a, d, rfl, _⟩ := h
    rfl
  · obtain ⟨a, d, rfl, ha, hl, qq⟩ := h
    refine ⟨_, (pss_one (ps_ret (pe_lst (StX.pa_star (pe_call GWriteNumber (hr.mono (by omega)) (by rfl) Z.DWriteNumber.g Z.DWriteNumber.F.kp Z.DWriteNumber.b .nil pass0 (pa_cons (pe_callB call_len_seq (by rfl) Z.len PySem.boot_len (pa_cons (pv 0) pa_nil)) pa_nil)) (StX.pa_star (pv 0) (StX.pa_star (pe_call GWriteSum (hr.mono (by omega)) (by rfl) Z.DWriteSum.g Z.DWriteSum.F.kp Z.DWriteSum.b .nil pass0 (pa_cons (pv 0) pa_nil)) pa_nil)))))), ?_⟩
    have hn : (enc d.length).length ≤ 3 := enc_len (k := 2) _ (Nat.lt_of_le_of_lt hl (by decide))
    refine ⟨_, rfl, a, _, rfl, .inl (SqL.of ha), d.length, by rw [List.length_map]; rfl, by omega, fun p1 H1 s1 hp1 h1 => ?_⟩
    refine ⟨p1, _, rfl, .inr (SqL.of h1), _, rfl, a, _, rfl, .inr (SqL.of (s1 _ _ ha)), _, rfl, a, d, rfl, s1 _ _ ha, hl, fun p2 H2 s2 hp2 h2 => ?_⟩
    refine ⟨p2, _, rfl, .inr (SqL.of h2), ?_, fun p hp => ?_⟩
    · show ((enc d.length).map vi ++ (d.map vi ++ ((sum4 (cks d)).map vi ++ []))).length ≤ sizeLine
      rw [List.length_append, List.length_append, List.length_append, List.length_map, List.length_map, List.length_map]
      show (enc d.length).length + (d.length + (4 + 0)) ≤ sizeLine
      exact Nat.le_trans (show _ ≤ 200000 by omega) (by decide)
    · refine qq p _ (Same.tr (Same.tr s1 s2) (same_upd hp)) (Same.none s1 (Same.none s2 hp)) ?_
      rw [upd_same]
      unfold rcd
      rw [List.map_append, List.map_append, List.append_nil]
theorem ok_lawRecord {k : Nat} (Z : Defs K mg) : FnOk P w K mg base CX0 (k + 2) Z.fLawRecord Z.fdLawRecord ["data"] (spList rcd) := by
  have GLawNumber : FnOk P w K mg base CX0 1 Z.fLawNumber Z.fdLawNumber ["number"] spNum := ok_lawNumber (k := 0) Z
  have GLawChecksum : FnOk P w K mg base CX0 1 Z.fLawChecksum Z.fdLawChecksum ["data"] spSum := ok_lawChecksum (k := 0) Z
  refine Z.DLawRecord.F.ok scLawRecord (fun vs H Q E h => ?_) (fun cdv A outer s H vs Q E hr h => ?_)
  · obtain ⟨a, d, rfl, _⟩ := h
    rfl
  · obtain ⟨a, d, rfl, ha, hl, qq⟩ := h
    refine ⟨_, (pss_cons (ps_set (i := 1) scLawRecord.nd rfl (.inl rfl) (pe_call GLawChecksum (hr.mono (by omega)) (by rfl) Z.DLawChecksum.g Z.DLawChecksum.F.kp Z.DLawChecksum.b .nil pass0 (pa_cons (pv 0) pa_nil)))
        (pss_one (ps_ret (pe_op op_cat (pe_op op_cat (pe_call GLawNumber (hr.mono (by omega)) (by rfl) Z.DLawNumber.g Z.DLawNumber.F.kp Z.DLawNumber.b .nil pass0 (pa_cons (pe_callB call_len_seq (by rfl) Z.len PySem.boot_len (pa_cons (pv 0) pa_nil)) pa_nil)) (pv 0)) (pe_lst (pa_cons (pe_op op_fdiv (pv 1) pe_int) (pa_cons (pe_op op_mod (pe_op op_fdiv (pv 1) pe_int) pe_int) (pa_cons (pe_op op_mod (pe_op op_fdiv (pv 1) pe_int) pe_int) (pa_cons (pe_op op_mod (pv 1) pe_int) pa_nil))))))))), ?_⟩
    have hn : (enc d.length).length ≤ 3 := enc_len (k := 2) _ (Nat.lt_of_le_of_lt hl (by decide))
    refine ⟨_, rfl, a, d, rfl, ha, ?_⟩
    refine ⟨_, rfl, a, _, rfl, .inl (SqL.of ha), d.length, by rw [List.length_map]; rfl, by omega, fun p1 H1 s1 hp1 h1 => ?_⟩
    refine ⟨_, rfl, p1, a, _, _, rfl, rfl, h1, s1 _ _ ha, ?_, fun p2 hp2 => ?_⟩
    · rw [List.length_map, List.length_map]
      exact Nat.le_trans (show _ ≤ 200000 by omega) (by decide)
    have s2 : Same H1 (upd H1 p2 (.lst ((enc d.length).map vi ++ d.map vi))) := same_upd hp2
    have g2 : upd H1 p2 (.lst ((enc d.length).map vi ++ d.map vi)) p2 = some (.lst ((enc d.length).map vi ++ d.map vi)) := upd_same
    generalize upd H1 p2 (.lst ((enc d.length).map vi ++ d.map vi)) = H2 at s2 g2
    refine ⟨_, rfl, _, 16777216, rfl, rfl, ⟨by decide, by decide⟩, _, rfl, _, 65536, rfl, rfl, ⟨by decide, by decide⟩, _, 256, rfl, rfl, (by show (0 : Int) < 256; decide), _, rfl, _, 256, rfl, rfl, ⟨by decide, by decide⟩, _, 256, rfl, rfl, (by show (0 : Int) < 256; decide), _, rfl, _, 256, rfl, rfl, (by show (0 : Int) < 256; decide), (by show 4 ≤ sizeLine; decide), fun p3 hp3 => ?_⟩
    have e : ([.int ((cks d : Int) / 16777216), .int ((cks d : Int) / 65536 % 256), .int ((cks d : Int) / 256 % 256), .int ((cks d : Int) % 256)] : List V) = (sum4 (cks d)).map vi := by
      generalize cks d = t
      have e24 : (t : Int) / 16777216 = ((t / 16777216 : Nat) : Int) := by omega
      have e16 : (t : Int) / 65536 % 256 = ((t / 65536 % 256 : Nat) : Int) := by omega
      have e8 : (t : Int) / 256 % 256 = ((t / 256 % 256 : Nat) : Int) := by omega
      have e0 : (t : Int) % 256 = ((t % 256 : Nat) : Int) := by omega
      rw [e24, e16, e8, e0]
      rfl
    rw [e]
    have s3 : Same H2 (upd H2 p3 (.lst ((sum4 (cks d)).map vi))) := same_upd hp3
    have g3 : upd H2 p3 (.lst ((sum4 (cks d)).map vi)) p3 = some (.lst ((sum4 (cks d)).map vi)) := upd_same
    generalize upd H2 p3 (.lst ((sum4 (cks d)).map vi)) = H3 at s3 g3
    refine ⟨p2, p3, _, _, rfl, rfl, s3 _ _ g2, g3, ?_, fun p hp => ?_⟩
    · rw [List.length_append, List.length_map, List.length_map, List.length_map]
      show (enc d.length).length + d.length + 4 ≤ sizeLine
      exact Nat.le_trans (show _ ≤ 200000 by omega) (by decide)
    · refine qq p _ (Same.tr (Same.tr (Same.tr s1 s2) s3) (same_upd hp)) (Same.none s1 (Same.none s2 (Same.none s3 hp))) ?_
      rw [upd_same]
      unfold rcd
      rw [List.map_append, List.map_append, List.append_assoc]
def spSize : Sp := fun vs H Q _ => ∃ (a : Addr) (d : List Nat), vs = [.ref a] ∧ H a = some (.lst (d.map vi)) ∧ d.length ≤ 100000 ∧ ∀ H', Same H H' → Q (vi (rcd d).length) H'
theorem ok_recordSize {k : Nat} (Z : Defs K mg) : FnOk P w K mg base CX0 (k + 2) Z.fRecordSize Z.fdRecordSize ["data"] spSize := by
  have GWriteNumber : FnOk P w K mg base CX0 1 Z.fWriteNumber Z.fdWriteNumber ["number"] spNum := ok_writeNumber (k := 0) Z
  refine Z.DRecordSize.F.ok scRecordSize (fun vs H Q E h => ?_) (fun cdv A outer s H vs Q E hr h => ?_)
  · obtain ⟨a, d, rfl, _⟩ := h
    rfl
  · obtain ⟨a, d, rfl, ha, hl, qq⟩ := h
    refine ⟨_, (pss_one (ps_ret (pe_op op_add (pe_op op_add (pe_callB call_len_seq (by rfl) Z.len PySem.boot_len (pa_cons (pe_call GWriteNumber (hr.mono (by omega)) (by rfl) Z.DWriteNumber.g Z.DWriteNumber.F.kp Z.DWriteNumber.b .nil pass0 (pa_cons (pe_callB call_len_seq (by rfl) Z.len PySem.boot_len (pa_cons (pv 0) pa_nil)) pa_nil)) pa_nil)) (pe_callB call_len_seq (by rfl) Z.len PySem.boot_len (pa_cons (pv 0) pa_nil))) (pe_gint rfl Z.kSUM_LENGTH)))), ?_⟩
    have hn : (enc d.length).length ≤ 3 := enc_len (k := 2) _ (Nat.lt_of_le_of_lt hl (by decide))
    refine ⟨_, rfl, a, _, rfl, .inl (SqL.of ha), d.length, by rw [List.length_map]; rfl, by omega, fun p1 H1 s1 hp1 h1 => ?_⟩
    refine ⟨p1, _, rfl, .inl (SqL.of h1), _, rfl, a, _, rfl, .inl (SqL.of (s1 _ _ ha)), _, _, rfl, rfl, _, 4, rfl, rfl, ?_⟩
    rw [List.length_map, List.length_map]
    have e : ((enc d.length).length : Int) + (d.length : Int) + 4 = (((rcd d).length : Nat) : Int) := by rw [rcd_len]; omega
    show Q (.int (((enc d.length).length : Int) + (d.length : Int) + 4)) H1
    rw [e]
    exact qq H1 s1
end
end Q43
namespace Q43
open PySem PySem.Spec PyProof.Rows L2 SX HL NM
/-! ### the object -/
theorem r12 : ¬ (("at" : Str) = "_data") := by decide +kernel
theorem r13 : ¬ (("at" : Str) = "_characters") := by decide +kernel
theorem r23 : ¬ (("_data" : Str) = "_characters") := by decide +kernel
def rflds (a : Nat) (b c : Addr) : List (Str × V) := [("at", vi a), ("_data", .ref b), ("_characters", .ref c)]
theorem rflds_at (a : Nat) (b c : Addr) : (rflds a b c).lookup ("at" : Str) = some (vi a) := lkF_eq _ _ _
theorem rflds_data (a : Nat) (b c : Addr) : (rflds a b c).lookup ("_data" : Str) = some (.ref b) := by
  unfold rflds
  rw [lkF_ne (fun e => r12 e.symm), lkF_eq]
theorem rflds_chars (a : Nat) (b c : Addr) : (rflds a b c).lookup ("_characters" : Str) = some (.ref c) := by
  unfold rflds
  rw [lkF_ne (fun e => r13 e.symm), lkF_ne (fun e => r23 e.symm), lkF_eq]
theorem rflds_no (a : Nat) (b c : Addr) {m : Str} (h1 : ¬ m = "at") (h2 : ¬ m = "_data") (h3 : ¬ m = "_characters") : (rflds a b c).lookup m = none := by
  unfold rflds
  rw [lkF_ne h1, lkF_ne h2, lkF_ne h3]
  rfl
theorem rput_at (a : Nat) (b c : Addr) (a' : Nat) : putF "at" (vi a') (rflds a b c) = rflds a' b c := by
  unfold rflds
  rw [putF_eq]
def chars : List Nat := ("\n !\"#$&'()*+,-./0123456789:;<=>?@ABCDEFGHIJKLMNOPQRSTUVWXYZ[\\]^_`abcdefghijklmnopqrstuvwxyz{|}~" : Str).cps.toList
def charD (l : List Nat) : List (Key × V) := l.map fun c : Nat => ((Sum.inl (c : Int) : Key), V.str ⟨#[c]⟩)
structure RdAt (C : Addr) (H : Hp) (p b c : Addr) (x : List Nat) (a : Nat) : Prop where
  ob : ∃ dx, H p = some (.ins C dx (rflds a b c))
  da : H b = some (.lst (x.map vi))
  ch : H c = some (.dK (charD chars))
theorem RdAt.nb {C : Addr} {H : Hp} {p b c : Addr} {x : List Nat} {a : Nat} (R : RdAt C H p b c x a) : b ≠ p ∧ c ≠ p := by
  obtain ⟨⟨dx, ho⟩, hd, hc⟩ := R
  exact ⟨ne_of hd ho (by intro z; cases z), ne_of hc ho (by intro z; cases z)⟩
theorem RdAt.same {C : Addr} {H H' : Hp} {p b c : Addr} {x : List Nat} {a : Nat} (R : RdAt C H p b c x a) (s : Same H H') : RdAt C H' p b c x a := by
  obtain ⟨⟨dx, ho⟩, hd, hc⟩ := R
  exact ⟨⟨dx, s _ _ ho⟩, s _ _ hd, s _ _ hc⟩
theorem RdAt.move {C : Addr} {H : Hp} {p b c : Addr} {x : List Nat} {a : Nat} (R : RdAt C H p b c x a) {dx : Addr} (a' : Nat) : RdAt C (upd H p (.ins C dx (rflds a' b c))) p b c x a' := by
  obtain ⟨n1, n2⟩ := R.nb
  obtain ⟨_, hd, hc⟩ := R
  exact ⟨⟨dx, upd_same⟩, by rw [upd_ne n1]; exact hd, by rw [upd_ne n2]; exact hc⟩
theorem chars_len : chars.length = 95 := by decide +kernel
theorem chars_new : ∀ i : Nat, i < 95 → valV (charD (chars.take i)) (.inl ((chars.getD i 0 : Nat) : Int)) = none := by decide +kernel
section
variable {P : Program} {w : World} {K : PySem.W.Frag} {mg : Str → Option Value} {base : Heap}
/-! ### Reader -/
def spRInit (C : Addr) : Sp := fun vs H Q _ => ∃ (p dx d : Addr) (x : List Nat), vs = [.ref p, .ref d] ∧ H p = some (.ins C dx []) ∧ H d = some (.lst (x.map vi)) ∧
  ∀ b c H', RdAt C H' p b c x 0 → (∀ z o, H z = some o → z ≠ p → H' z = some o) → Q .non H'
theorem ok_rinit {k : Nat} (Z : Defs K mg) : FnOk P w K mg base CX0 (k + 1) Z.fReaderInit Z.fdReaderInit ["self", "data"] (spRInit Z.cReader) := by
  refine Z.DReaderInit.F.ok scReaderInit (fun vs H Q E h => ?_) (fun cdv A outer s H vs Q E hr h => ?_)
  · obtain ⟨p, dx, d, x, rfl, _⟩ := h
    rfl
  · obtain ⟨p, dx, d, x, rfl, hp, hd, qq⟩ := h
    refine ⟨_, (pss_cons (ps_fld (pv 0) pe_int rfl)
        (pss_cons (ps_fld (pv 0) (pe_callTy call_list_of (by rfl) Z.list HL.boot_list (pa_cons (pv 1) pa_nil)) rfl)
        (pss_one (ps_fld (pv 0) (pe_dc (own := [("character", 2)]) (g := (gName 2)) (by rfl) scReaderInit.nd (pi_str (pe_gstr rfl Z.kCHARACTERS)) (blkOk_by (own := [("character", 2)]) (N := ["self", "data", "character"]) (sc := defScope sReaderInit) (by decide +kernel)) (fun _ _ _ _ _ => (pg_name (i := 2) scReaderInit.nd rfl (Or.inl rfl))) (fun _ _ _ _ _ => pts_nil) (fun _ _ _ _ _ => (pe_callB call_ord (by rfl) Z.ord (by decide +kernel) (pa_cons (pv 2) pa_nil))) (fun _ _ _ _ _ => (pv 2))) rfl)))), ?_⟩
    have ndp : d ≠ p := ne_of hd hp (by intro z; cases z)
    refine ⟨_, rfl, p, Z.cReader, dx, [], rfl, hp, Z.CReader.cl, Z.nReader_at, (by show 0 < 1000; decide), ?_⟩
    refine ⟨_, rfl, d, _, rfl, .inl (SqL.of (by rw [upd_ne ndp]; exact hd)), fun b hb => ?_⟩
    have npb : p ≠ b := ne_of_none upd_same hb
    refine ⟨_, rfl, p, Z.cReader, dx, _, rfl, (by rw [upd_ne npb]; exact upd_same), Z.CReader.cl, Z.nReader_data, (by show 1 < 1000; decide), ?_⟩
    have f0 : putF "_data" (.ref b) (putF "at" (.int 0) []) = ([("at", vi 0), ("_data", .ref b)] : List (Str × V)) := by
      rw [putF_nil, putF_ne r12, putF_nil]
      rfl
    rw [f0]
    have g1 : ∀ z o, H z = some o → z ≠ p → (upd (upd (upd H p (.ins Z.cReader dx (putF "at" (.int 0) []))) b (.lst (x.map vi))) p (.ins Z.cReader dx [("at", vi 0), ("_data", .ref b)])) z = some o := fun z o hz nz => by
      have h1 : upd H p (.ins Z.cReader dx (putF "at" (.int 0) [])) z = some o := by rw [upd_ne nz]; exact hz
      rw [upd_ne nz, upd_ne (ne_of_none h1 hb)]
      exact h1
    have gb : (upd (upd (upd H p (.ins Z.cReader dx (putF "at" (.int 0) []))) b (.lst (x.map vi))) p (.ins Z.cReader dx [("at", vi 0), ("_data", .ref b)])) b = some (.lst (x.map vi)) := by rw [upd_ne npb.symm]; exact upd_same
    have gp : (upd (upd (upd H p (.ins Z.cReader dx (putF "at" (.int 0) []))) b (.lst (x.map vi))) p (.ins Z.cReader dx [("at", vi 0), ("_data", .ref b)])) p = some (.ins Z.cReader dx [("at", vi 0), ("_data", .ref b)]) := upd_same
    generalize upd (upd (upd H p (.ins Z.cReader dx (putF "at" (.int 0) []))) b (.lst (x.map vi))) p (.ins Z.cReader dx [("at", vi 0), ("_data", .ref b)]) = H1 at g1 gb gp
    refine ⟨_, rfl, fun c hc => ?_⟩
    refine HE.dc_it walk_str (fun i H' => Same H1 H' ∧ H' c = some (.dK (charD (chars.take i)))) ⟨same_upd hc, upd_same⟩ (fun _ _ _ _ => True.intro) ?_ ?_
    · rintro i y H' H'' hi ⟨s1, hk⟩ ⟨rfl, cc, hcc, rfl⟩
      have hget : chars[i]? = some cc := by
        rw [← hcc]
        exact Array.getElem?_toList ..
      have hi95 : i < 95 := by
        have := (List.getElem?_eq_some_iff.mp hget).1
        rw [chars_len] at this
        exact this
      have hgd : chars.getD i 0 = cc := by rw [List.getD_eq_getElem?_getD, hget]; rfl
      refine ⟨rfl, ?_⟩
      refine lc_yes ⟨_, rfl, ⟨#[cc]⟩, rfl, rfl, _, rfl, charD (chars.take i), .inl (cc : Int), rfl, hk, ?_, fun z o hz => ?_, ?_⟩
      · unfold charD
        rw [List.length_map, List.length_take]
        exact Nat.lt_of_le_of_lt (show _ ≤ 1000 by omega) (by decide)
      · rw [upd_ne (ne_of_none hz hc)]
        exact s1 _ _ hz
      · have hn := chars_new i hi95
        rw [hgd] at hn
        rw [upd_same, take_snoc hget, putK_new _ hn]
        unfold charD
        rw [List.map_append]
        rfl
    · rintro H' ⟨s1, hk⟩
      have hk' : H' c = some (.dK (charD chars)) := by
        rw [hk]
        exact congrArg (fun l => some (HO.dK (charD l))) (List.take_of_length_le (Nat.le_refl _))
      have npc : p ≠ c := ne_of_none gp hc
      have nbc : b ≠ c := ne_of_none gb hc
      refine ⟨_, rfl, p, Z.cReader, dx, _, rfl, s1 _ _ gp, Z.CReader.cl, Z.nReader_characters, (by show 2 < 1000; decide), ?_⟩
      have f1 : putF "_characters" (.ref c) [("at", vi 0), ("_data", .ref b)] = rflds 0 b c := by
        rw [putF_ne r13, putF_ne r23, putF_nil]
        rfl
      rw [f1]
      refine qq b c _ ⟨⟨dx, upd_same⟩, by rw [upd_ne npb.symm]; exact s1 _ _ gb, by rw [upd_ne npc.symm]; exact hk'⟩ fun z o hz nz => ?_
      rw [upd_ne nz]
      exact s1 _ _ (g1 z o hz nz)
theorem log_small {a : Nat} (h : a ≤ 1000000) : ((a : Int)).natAbs.log2 < 1920 := by
  rw [Int.natAbs_natCast]
  by_cases e : a = 0
  · subst e
    decide
  · exact Nat.lt_trans ((Nat.log2_lt e).mpr (Nat.lt_of_le_of_lt h (show 1000000 < 2 ^ 20 by decide))) (by decide)
/-- the words of an error fit -/
theorem msg_fits {z : Str} {a : Nat} (hz : z.length ≤ 100) (h : a ≤ 1000000) : (Str.empty ++ z ++ Str.ofString (toString (a : Int))).length ≤ sizeLine := by
  have e := int_text_length_le (a := (a : Int)) (k := 1920) (by decide) (log_small h)
  rw [PySem.Str.length_append, PySem.Str.length_append, PySem.ofString_length, sizeLine_eq]
  have e0 : Str.empty.length = 0 := rfl
  rw [e0]
  omega
theorem msg_fits2 {z u : Str} {a : Nat} (hz : z.length ≤ 100) (hu : u.length ≤ 100) (h : a ≤ 1000000) : (Str.empty ++ z ++ Str.ofString (toString (a : Int)) ++ u).length ≤ sizeLine := by
  have e := int_text_length_le (a := (a : Int)) (k := 1920) (by decide) (log_small h)
  rw [PySem.Str.length_append, PySem.Str.length_append, PySem.Str.length_append, PySem.ofString_length, sizeLine_eq]
  have e0 : Str.empty.length = 0 := rfl
  rw [e0]
  omega
/-- a byte at most so great -/
def spByte (C X : Addr) : Sp := fun vs H Q E => ∃ (p b c : Addr) (x : List Nat) (a most : Nat), vs = [.ref p, vi most] ∧ RdAt C H p b c x a ∧ x.length ≤ 100000 ∧ a ≤ x.length ∧
  ((∃ y, x[a]? = some y ∧ y ≤ most ∧ ∀ H', But H H' p → RdAt C H' p b c x (a + 1) → Q (vi y) H') ∨ ((∀ y, x[a]? = some y → most < y) ∧ E (.ref X) none H))
theorem ok_readByte {k : Nat} (Z : Defs K mg) : FnOk P w K mg base (L2.CX P w) (k + 1) Z.fReaderReadByte Z.fdReaderReadByte ["self", "most"] (spByte Z.cReader Z.eDamagedPacket) := by
  refine Z.DReaderReadByte.F.ok scReaderReadByte (fun vs H Q E h => ?_) (fun cdv A outer s H vs Q E hr h => ?_)
  · obtain ⟨p, b, c, x, a, most, rfl, _⟩ := h
    rfl
  · obtain ⟨p, b, c, x, a, most, rfl, R, hl, ha, hh⟩ := h
    refine ⟨_, (pss_cons (ps_if (PW.pt (pw_or (pt_cmpR op_ge (pe_fld (pv 0) rfl) (pe_callB call_len_seq (by rfl) Z.len PySem.boot_len (pa_cons (pe_fld (pv 0) rfl) pa_nil)) (nomark _)) (pw_or1 (pt_not (pt_chain op_le op_le pe_int (pe_ix ix_list (pe_fld (pv 0) rfl) (pe_fld (pv 0) rfl) (fun _ _ => rfl)) (pv 1)))))) (pss_one (ps_raise rfl (takes_of rfl rfl rfl rfl) (SkE.pmk_own1 PySem.F.excBase_ValueError Z.EDamagedPacket.ex Z.EDamagedPacket.g Z.EDamagedPacket.kp (raises_own Z.EDamagedPacket.sub Z.EDamagedPacket.ty) (by rfl) (pe_joined (.cons pe_str (.cons (pe_fmt (pe_fld (pv 0) rfl)) .nil)))))) pss_nil)
        (pss_cons (ps_fldaug (pv 0) pe_int in_add)
        (pss_one (ps_ret (pe_ix ix_list (pe_fld (pv 0) rfl) (pe_op op_sub (pe_fld (pv 0) rfl) pe_int) (fun _ _ => rfl)))))), ?_⟩
    obtain ⟨⟨dx, ho⟩, hd, hch⟩ := id R
    refine ⟨_, rfl, p, Z.cReader, dx, _, _, rfl, ho, Z.CReader.cl, Z.nReader_at, rflds_at _ _ _, _, rfl, p, Z.cReader, dx, _, _, rfl, ho, Z.CReader.cl, Z.nReader_data, rflds_data _ _ _, b, _, rfl, .inl (SqL.of hd), _, _, rfl, rfl, _, rfl, ?_⟩
    rw [List.length_map]
    have raise : (∀ y, x[a]? = some y → most < y) → E (.ref Z.eDamagedPacket) none H := fun hn => by
      rcases hh with ⟨y, hy, hm, _⟩ | ⟨_, e⟩
      · exact absurd (hn y hy) (by omega)
      · exact e
    refine ite2 (fun hc => ?_) (fun hc => ?_)
    · have hge : (x.length : Int) ≤ (a : Int) := of_decide_eq_true hc
      refine ⟨_, rfl, by decide, _, rfl, p, Z.cReader, dx, _, _, rfl, ho, Z.CReader.cl, Z.nReader_at, rflds_at _ _ _, .inr ⟨a, rfl, log_small (by omega), _, rfl, msg_fits (by decide) (by omega), raise fun y hy => ?_⟩⟩
      have := (List.getElem?_eq_some_iff.mp hy).1
      omega
    · have hlt : a < x.length := by
        have : ¬ ((x.length : Int) ≤ (a : Int)) := fun z => hc (decide_eq_true z)
        omega
      have hy : x[a]? = some x[a] := List.getElem?_eq_getElem hlt
      generalize x[a] = y at hy
      have hat : atI (x.map vi) (a : Int) = some (vi y) := atI_nat (by rw [List.getElem?_map, hy]; rfl)
      refine ⟨_, rfl, p, Z.cReader, dx, _, _, rfl, ho, Z.CReader.cl, Z.nReader_data, rflds_data _ _ _, _, rfl, p, Z.cReader, dx, _, _, rfl, ho, Z.CReader.cl, Z.nReader_at, rflds_at _ _ _, b, _, _, _, rfl, rfl, SqL.of hd, hat, ?_⟩
      have h0 : decide ((0 : Int) ≤ (y : Int)) = true := decide_eq_true (by omega)
      refine ⟨_, _, rfl, rfl, true, congrArg V.bl h0, iteT ⟨_, rfl, _, _, rfl, rfl, decide ((y : Int) ≤ (most : Int)), rfl, ?_⟩⟩
      by_cases hm : y ≤ most
      · rw [decide_eq_true (show (y : Int) ≤ (most : Int) by omega)]
        refine iteF ⟨_, rfl, p, Z.cReader, dx, _, _, rfl, ho, Z.CReader.cl, Z.nReader_at, rflds_at _ _ _, _, _, rfl, rfl, dx, _, ho, (by show 3 < 1000; decide), ?_⟩
        have e1 : putF "at" (.int ((a : Int) + 1)) (rflds a b c) = rflds (a + 1) b c := rput_at a b c (a + 1)
        have R2 : RdAt Z.cReader (upd H p (.ins Z.cReader dx (putF "at" (.int ((a : Int) + 1)) (rflds a b c)))) p b c x (a + 1) := by
          rw [e1]
          exact R.move (a + 1)
        obtain ⟨_, hd2, _⟩ := id R2
        obtain ⟨q1, q2⟩ : (∃ y', x[a]? = some y' ∧ y' ≤ most ∧ ∀ H', But H H' p → RdAt Z.cReader H' p b c x (a + 1) → Q (vi y') H') ∧ True := by
          rcases hh with h | ⟨h, _⟩
          · exact ⟨h, True.intro⟩
          · exact absurd (h y hy) (by omega)
        obtain ⟨y', hy', _, qq⟩ := q1
        rw [hy] at hy'
        cases hy'
        have o2 : upd H p (.ins Z.cReader dx (putF "at" (.int ((a : Int) + 1)) (rflds a b c))) p = some (.ins Z.cReader dx (rflds (a + 1) b c)) := by rw [upd_same, e1]
        refine ⟨_, rfl, p, Z.cReader, dx, _, _, rfl, o2, Z.CReader.cl, Z.nReader_data, rflds_data _ _ _, _, rfl, p, Z.cReader, dx, _, _, rfl, o2, Z.CReader.cl, Z.nReader_at, rflds_at _ _ _, _, 1, rfl, rfl, b, _, _, _, rfl, rfl, SqL.of hd2, ?_, qq _ but_upd R2⟩
        have e2 : ((a + 1 : Nat) : Int) - 1 = (a : Int) := by omega
        show atI (x.map vi) (((a + 1 : Nat) : Int) - 1) = some (vi y)
        rw [e2]
        exact hat
      · rw [decide_eq_false (show ¬ (y : Int) ≤ (most : Int) by omega)]
        refine iteT ⟨_, rfl, by decide, _, rfl, p, Z.cReader, dx, _, _, rfl, ho, Z.CReader.cl, Z.nReader_at, rflds_at _ _ _, .inr ⟨a, rfl, log_small (by omega), _, rfl, msg_fits (by decide) (by omega), raise fun z hz => ?_⟩⟩
        rw [hy] at hz
        cases hz
        omega
/-- so many bytes -/
def spBytes (C X : Addr) : Sp := fun vs H Q E => ∃ (p b c : Addr) (x : List Nat) (a n : Nat), vs = [.ref p, vi n] ∧ RdAt C H p b c x a ∧ x.length ≤ 100000 ∧ a ≤ x.length ∧
  ((a + n ≤ x.length ∧ ∀ r H', H r = none → Kept H H' p → RdAt C H' p b c x (a + n) → H' r = some (.lst (((x.drop a).take n).map vi)) → Q (.ref r) H') ∨ (x.length < a + n ∧ E (.ref X) none H))
theorem ok_readBytes {k : Nat} (Z : Defs K mg) : FnOk P w K mg base (L2.CX P w) (k + 1) Z.fReaderReadBytes Z.fdReaderReadBytes ["self", "count"] (spBytes Z.cReader Z.eDamagedPacket) := by
  refine Z.DReaderReadBytes.F.okX scReaderReadBytes (fun vs H Q E h => ?_) (fun cdv A outer s H vs Q E hr h => ?_)
  · obtain ⟨p, b, c, x, a, n, rfl, _⟩ := h
    rfl
  · obtain ⟨p, b, c, x, a, n, rfl, R, hl, ha, hh⟩ := h
    refine ⟨_, (pss_cons (ps_if (pt_cmpR op_gt (pv 1) (pe_op op_sub (pe_callB call_len_seq (by rfl) Z.len PySem.boot_len (pa_cons (pe_fld (pv 0) rfl) pa_nil)) (pe_fld (pv 0) rfl)) (nomark _)) (pss_one (ps_raise rfl (takes_of rfl rfl rfl rfl) (SkE.pmk_own1 PySem.F.excBase_ValueError Z.EDamagedPacket.ex Z.EDamagedPacket.g Z.EDamagedPacket.kp (raises_own Z.EDamagedPacket.sub Z.EDamagedPacket.ty) (by rfl) (pe_joined (.cons pe_str (.cons (pe_fmt (pe_fld (pv 0) rfl)) .nil)))))) pss_nil)
        (pss_cons (ps_fldaug (pv 0) (pv 1) in_add)
        (pss_one (ps_ret (pe_slice sl_list (pe_fld (pv 0) rfl) (po_some (pe_op op_sub (pe_fld (pv 0) rfl) (pv 1))) (po_some (pe_fld (pv 0) rfl))))))), ?_⟩
    obtain ⟨⟨dx, ho⟩, hd, hch⟩ := id R
    refine ⟨_, rfl, _, rfl, p, Z.cReader, dx, _, _, rfl, ho, Z.CReader.cl, Z.nReader_data, rflds_data _ _ _, b, _, rfl, .inl (SqL.of hd), _, rfl, p, Z.cReader, dx, _, _, rfl, ho, Z.CReader.cl, Z.nReader_at, rflds_at _ _ _, _, _, rfl, rfl, _, _, rfl, rfl, _, rfl, ?_⟩
    rw [List.length_map]
    refine ite2 (fun hc => ?_) (fun hc => ?_)
    · have hge : (x.length : Int) - (a : Int) < (n : Int) := of_decide_eq_true hc
      refine ⟨_, rfl, by decide, _, rfl, p, Z.cReader, dx, _, _, rfl, ho, Z.CReader.cl, Z.nReader_at, rflds_at _ _ _, .inr ⟨a, rfl, log_small (by omega), _, rfl, msg_fits (by decide) (by omega), ?_⟩⟩
      rcases hh with ⟨h1, _⟩ | ⟨_, e⟩
      · omega
      · exact e
    · have hle : a + n ≤ x.length := by
        have : ¬ ((x.length : Int) - (a : Int) < (n : Int)) := fun z => hc (decide_eq_true z)
        omega
      rcases hh with ⟨_, qq⟩ | ⟨h1, _⟩
      · refine ⟨_, rfl, p, Z.cReader, dx, _, _, rfl, ho, Z.CReader.cl, Z.nReader_at, rflds_at _ _ _, _, rfl, _, _, rfl, rfl, dx, _, ho, (by show 3 < 1000; decide), ?_⟩
        have e1 : putF "at" (.int ((a : Int) + (n : Int))) (rflds a b c) = rflds (a + n) b c := rput_at a b c (a + n)
        have R2 : RdAt Z.cReader (upd H p (.ins Z.cReader dx (putF "at" (.int ((a : Int) + (n : Int))) (rflds a b c)))) p b c x (a + n) := by
          rw [e1]
          exact R.move (a + n)
        obtain ⟨_, hd2, _⟩ := id R2
        have o2 : upd H p (.ins Z.cReader dx (putF "at" (.int ((a : Int) + (n : Int))) (rflds a b c))) p = some (.ins Z.cReader dx (rflds (a + n) b c)) := by rw [upd_same, e1]
        have k2 : But H (upd H p (.ins Z.cReader dx (putF "at" (.int ((a : Int) + (n : Int))) (rflds a b c)))) p := but_upd
        generalize upd H p (.ins Z.cReader dx (putF "at" (.int ((a : Int) + (n : Int))) (rflds a b c))) = H2 at R2 hd2 o2 k2
        refine ⟨_, rfl, p, Z.cReader, dx, _, _, rfl, o2, Z.CReader.cl, Z.nReader_data, rflds_data _ _ _, _, rfl, p, Z.cReader, dx, _, _, rfl, o2, Z.CReader.cl, Z.nReader_at, rflds_at _ _ _, _, rfl, _, _, rfl, rfl, (a : Int), congrArg V.int (by omega), _, rfl, p, Z.cReader, dx, _, _, rfl, o2, Z.CReader.cl, Z.nReader_at, rflds_at _ _ _, _, rfl, b, _, rfl, SqL.of hd2, fun r hr0 => ?_⟩
        rw [cut_mid]
        have nrp : p ≠ r := ne_of_none o2 hr0
        have hr1 : H r = none := by rw [k2 r nrp.symm] at hr0; exact hr0
        refine qq r _ hr1 (fun z o nz hz => ?_) (R2.same (same_upd hr0)) ?_
        · rw [upd_ne (ne_of_none hz hr1), k2 z nz]
          exact hz
        · rw [upd_same, ← List.map_drop, ← List.map_take]
          have e3 : a + n - a = n := by omega
          rw [e3]
      · omega
/-- a number -/
def spRNum (C X : Addr) : Sp := fun vs H Q E => ∃ (p b c : Addr) (x : List Nat) (a : Nat), vs = [.ref p] ∧ RdAt C H p b c x a ∧ x.length ≤ 100000 ∧ a ≤ x.length ∧ (∀ y ∈ x, y < 256) ∧
  ((∃ n r, rnum 60 0 0 (x.drop a) = some (n, r) ∧ ∀ H', But H H' p → RdAt C H' p b c x (x.length - r.length) → Q (vi n) H') ∨
   (rnum 60 0 0 (x.drop a) = none ∧ ∀ H' a', But H H' p → RdAt C H' p b c x a' → a' ≤ x.length → E (.ref X) none H'))
theorem drop_at {x : List Nat} {a : Nat} (h : a < x.length) : x.drop a = x[a] :: x.drop (a + 1) := (List.getElem_cons_drop h).symm
theorem and127 (y : Nat) : Builtin.bitAnd (y : Int) 127 = ((y % 128 : Nat) : Int) := by
  have := Bits.bitAnd_mask (x := (y : Int)) 7 (by omega)
  rw [show ((2 : Int) ^ 7 - 1) = 127 by decide, show ((2 : Int) ^ 7) = 128 by decide] at this
  rw [this]
  omega
theorem pow7 (i : Nat) : (2 : Int) ^ (7 * (0 + (i : Int))).toNat = ((128 ^ i : Nat) : Int) := by
  have e : (7 * (0 + (i : Int))).toNat = 7 * i := by omega
  rw [e, Int.pow_mul]
  rw [Int.natCast_pow]
  rfl
theorem ok_readNumber {k : Nat} (Z : Defs K mg) : FnOk P w K mg base (L2.CX P w) (k + 2) Z.fReaderReadNumber Z.fdReaderReadNumber ["self"] (spRNum Z.cReader Z.eDamagedPacket) := by
  have GReaderReadByte : FnOk P w K mg base (L2.CX P w) (k + 1) Z.fReaderReadByte Z.fdReaderReadByte ["self", "most"] (spByte Z.cReader Z.eDamagedPacket) := ok_readByte Z
  obtain ⟨ds, dVReaderReadByte, dBReaderReadByte⟩ := Z.DReaderReadByte.bd
  refine Z.DReaderReadNumber.F.okX scReaderReadNumber (fun vs H Q E h => ?_) (fun cdv A outer s H vs Q E hr h => ?_)
  · obtain ⟨p, b, c, x, a, rfl, _⟩ := h
    rfl
  · obtain ⟨p, b, c, x, a, rfl, R, hl, ha, hx, hh⟩ := h
    refine ⟨_, (pss_cons (ps_set (i := 1) scReaderReadNumber.nd rfl (.inl rfl) pe_int)
        (pss_cons (ps_for (passes_of rfl) rfl (pi_range1 (by rfl) Z.range (pa_cons (pe_gint rfl Z.kLONGEST_NUMBER) pa_nil)) (pg_name (i := 2) scReaderReadNumber.nd rfl (.inl rfl)) (pss_cons (ps_set (i := 3) scReaderReadNumber.nd rfl (.inl rfl) (pe_meth0 (pv 0) Z.CReader.cl Z.DReaderReadByte.m GReaderReadByte (hr.mono (by omega)) dBReaderReadByte dVReaderReadByte (passes_call (takes_of rfl rfl rfl rfl) (fun _ _ _ _ h => h))))
        (pss_cons (ps_aug (i := 1) scReaderReadNumber.nd rfl (.inl rfl) (pe_op op_shl (pe_op op_and (pv 3) pe_int) (pe_op op_mul pe_int (pv 2))) ip_add)
        (pss_cons (ps_if (PW.pt (pw_and (pt_cmpR op_eq (pv 3) pe_int (nomark _)) (pw_and1 (pt_cmpR op_gt (pv 2) pe_int (nomark _))))) (pss_one (ps_raise rfl (takes_of rfl rfl rfl rfl) (SkE.pmk_own1 PySem.F.excBase_ValueError Z.EDamagedPacket.ex Z.EDamagedPacket.g Z.EDamagedPacket.kp (raises_own Z.EDamagedPacket.sub Z.EDamagedPacket.ty) (by rfl) (pe_joined (.cons pe_str (.cons (pe_fmt (pe_fld (pv 0) rfl)) .nil)))))) pss_nil)
        (pss_one (ps_if (pt_cmpR op_lt (pv 3) pe_int (nomark _)) (pss_one (ps_ret (pv 1))) pss_nil))))))
        (pss_one (ps_raise rfl (takes_of rfl rfl rfl rfl) (SkE.pmk_own1 PySem.F.excBase_ValueError Z.EDamagedPacket.ex Z.EDamagedPacket.g Z.EDamagedPacket.kp (raises_own Z.EDamagedPacket.sub Z.EDamagedPacket.ty) (by rfl) (pe_joined (.cons pe_str (.cons (pe_fmt (pe_fld (pv 0) rfl)) (.cons pe_str .nil))))))))), ?_⟩
    refine ⟨60, rfl, by decide, by decide, ?_⟩
    have bad : rnum 60 0 0 (x.drop a) = none → ∀ H' a', But H H' p → RdAt Z.cReader H' p b c x a' → a' ≤ x.length → E (.ref Z.eDamagedPacket) none H' := fun e => by
      rcases hh with ⟨n, r, h, _⟩ | ⟨_, h⟩
      · rw [e] at h; cases h
      · exact h
    refine for_range (lo := 0) (n := 60) (fun i σ H' => ∃ (acc : Nat) (y2 y3 : Option V), σ = [some (.ref p), some (vi acc), y2, y3] ∧ But H H' p ∧ RdAt Z.cReader H' p b c x (a + i) ∧ a + i ≤ x.length ∧ rnum 60 0 0 (x.drop a) = rnum (60 - i) i acc (x.drop (a + i)))
      ⟨0, none, none, rfl, But.refl, R, ha, rfl⟩ ?_ ?_
    · rintro i σ H1 hi ⟨acc, y2, y3, rfl, B1, R1, ha1, hrn⟩
      obtain ⟨⟨dx1, ho1⟩, _⟩ := id R1
      refine ⟨_, rfl, p, dx1, _, rfl, ho1, rflds_no _ _ _ (by decide +kernel) (by decide +kernel) (by decide +kernel), ?_⟩
      have e60 : 60 - i = (59 - i) + 1 := by omega
      rw [e60] at hrn
      by_cases hlt : a + i < x.length
      · rw [drop_at hlt] at hrn
        have hy : x[a + i]? = some x[a + i] := List.getElem?_eq_getElem hlt
        have hy2 := hx _ (List.getElem_mem hlt)
        generalize x[a + i] = y at hy hy2 hrn
        have hrn : rnum 60 0 0 (x.drop a) = (if y = 0 ∧ 0 < i then none else if y < 128 then some (acc + y % 128 * 128 ^ i, x.drop (a + i + 1)) else rnum (59 - i) (i + 1) (acc + y % 128 * 128 ^ i) (x.drop (a + i + 1))) := hrn
        refine ⟨p, b, c, x, a + i, 255, rfl, R1, hl, ha1, .inl ⟨y, hy, by omega, fun H2 B2 R2 => ?_⟩⟩
        obtain ⟨⟨dx2, ho2⟩, _⟩ := id R2
        have B12 := B1.trans B2
        have ha2 : a + i + 1 ≤ x.length := by omega
        have raise := fun e => bad (hrn.trans e) H2 (a + i + 1) B12 R2 ha2
        refine ⟨_, rfl, _, rfl, _, _, rfl, rfl, _, rfl, 7, _, rfl, rfl, .inl ⟨by decide, by decide⟩, ((y % 128 : Nat) : Int), _, congrArg V.int (and127 y), rfl, ⟨by omega, by omega, ?_⟩, _, _, rfl, rfl, ?_⟩
        · rw [Int.natAbs_natCast]
          exact Nat.lt_of_lt_of_le (Nat.mod_lt y (by decide)) (by decide)
        have e1 : (acc : Int) + ((y % 128 : Nat) : Int) * 2 ^ (7 * (0 + (i : Int))).toNat = ((acc + y % 128 * 128 ^ i : Nat) : Int) := by
          rw [pow7, Int.natCast_add, Int.natCast_mul]
        have vI : V.int ((acc : Int) + ((y % 128 : Nat) : Int) * 2 ^ (7 * (0 + (i : Int))).toNat) = vi (acc + y % 128 * 128 ^ i) := congrArg V.int e1
        have ret : y < 128 → ¬ (y = 0 ∧ 0 < i) → Q (vi (acc + y % 128 * 128 ^ i)) H2 := fun h1 h2 => by
          rw [if_neg h2, if_pos h1] at hrn
          rcases hh with ⟨n, r, h, q⟩ | ⟨h, _⟩
          · rw [hrn] at h
            cases h
            refine q H2 B12 ?_
            have : x.length - (x.drop (a + i + 1)).length = a + i + 1 := by rw [List.length_drop]; omega
            rw [this]
            exact R2
          · rw [hrn] at h; cases h
        have retI : y < 128 → ¬ (y = 0 ∧ 0 < i) → Q (V.int ((acc : Int) + ((y % 128 : Nat) : Int) * 2 ^ (7 * (0 + (i : Int))).toNat)) H2 := fun h1 h2 => by rw [vI]; exact ret h1 h2
        refine ⟨_, rfl, rfl, _, rfl, ite2 (fun h0 => ?_) (fun h0 => ?_)⟩
        · have hy0 : y = 0 := vi_inj (of_decide_eq_true h0)
          refine ⟨_, rfl, _, _, rfl, rfl, _, rfl, ite2 (fun h1 => ?_) (fun h1 => ?_)⟩
          · have hi0 : 0 < i := by
              have := of_decide_eq_true h1
              omega
            exact ⟨_, rfl, by decide, _, rfl, p, Z.cReader, dx2, _, _, rfl, ho2, Z.CReader.cl, Z.nReader_at, rflds_at _ _ _, .inr ⟨(a + i + 1 : Nat), rfl, log_small (by omega), _, rfl, msg_fits (by decide) (by omega), raise (if_pos ⟨hy0, hi0⟩)⟩⟩
          · have hi0 : ¬ 0 < i := fun z => h1 (decide_eq_true (by omega))
            refine ⟨_, rfl, _, _, rfl, rfl, _, rfl, ite2 (fun h2 => ?_) (fun h2 => ?_)⟩
            · exact ⟨_, rfl, retI (by omega) (fun z => hi0 z.2)⟩
            · exact absurd (decide_eq_true (by omega)) h2
        · have hy0 : ¬ y = 0 := fun z => h0 (decide_eq_true (by rw [z]; rfl))
          refine ⟨_, rfl, _, _, rfl, rfl, _, rfl, ite2 (fun h2 => ?_) (fun h2 => ?_)⟩
          · have := of_decide_eq_true h2
            exact ⟨_, rfl, retI (by omega) (fun z => hy0 z.1)⟩
          · have h3 : ¬ y < 128 := fun z => h2 (decide_eq_true (by omega))
            refine ⟨acc + y % 128 * 128 ^ i, _, _, congrArg (fun z => [some (V.ref p), some z, some (V.int (0 + (i : Int))), some (vi y)]) vI, B12, R2, ha2, ?_⟩
            rw [hrn, if_neg (fun z => hy0 z.1), if_neg h3]
            have e5 : 59 - i = 60 - (i + 1) := by omega
            rw [e5]
            rfl
      · refine ⟨p, b, c, x, a + i, 255, rfl, R1, hl, ha1, .inr ⟨fun y hy => ?_, ?_⟩⟩
        · have := (List.getElem?_eq_some_iff.mp hy).1
          omega
        · rw [List.drop_of_length_le (show x.length ≤ a + i by omega)] at hrn
          exact bad hrn _ _ B1 R1 ha1
    · rintro σ H1 ⟨acc, y2, y3, rfl, B1, R1, ha1, hrn⟩
      obtain ⟨⟨dx1, ho1⟩, _⟩ := id R1
      exact ⟨_, rfl, by decide, _, rfl, p, Z.cReader, dx1, _, _, rfl, ho1, Z.CReader.cl, Z.nReader_at, rflds_at _ _ _, .inr ⟨(a + 60 : Nat), rfl, log_small (by omega), _, rfl, msg_fits (by decide) (by omega), _, rfl, msg_fits2 (by decide) (by decide) (by omega), bad hrn _ _ B1 R1 ha1⟩⟩
end
end Q43
namespace Q43
open PySem PySem.Spec PyProof.Rows L2 SX HL NM
section
variable {P : Program} {w : World} {K : PySem.W.Frag} {mg : Str → Option Value} {base : Heap}
/-! ### next_record -/
def spNextRec (C : Addr) : Sp := fun vs H Q _ => ∃ (p b c : Addr) (x : List Nat) (a : Nat), vs = [.ref p] ∧ RdAt C H p b c x a ∧ x.length ≤ 100000 ∧ a ≤ x.length ∧ (∀ y ∈ x, y < 256) ∧
  ((∃ d r, nextR (x.drop a) = some (d, r) ∧ ∀ H' t, Kept H H' p → H t = none → H' t = some (.lst (d.map vi)) → RdAt C H' p b c x (x.length - r.length) → Q (.ref t) H') ∨
   (nextR (x.drop a) = none ∧ ∀ H', Kept H H' p → Q .non H'))
theorem ok_nextRecord {k : Nat} (Z : Defs K mg) : FnOk P w K mg base CX0 (k + 3) Z.fNextRecord Z.fdNextRecord ["reader"] (spNextRec Z.cReader) := by
  have GReaderReadNumber : FnOk P w K mg base (L2.CX P w) 2 Z.fReaderReadNumber Z.fdReaderReadNumber ["self"] (spRNum Z.cReader Z.eDamagedPacket) := ok_readNumber (k := 0) Z
  have GReaderReadBytes : FnOk P w K mg base (L2.CX P w) 1 Z.fReaderReadBytes Z.fdReaderReadBytes ["self", "count"] (spBytes Z.cReader Z.eDamagedPacket) := ok_readBytes (k := 0) Z
  have GWriteSum : FnOk P w K mg base CX0 2 Z.fWriteSum Z.fdWriteSum ["data"] (spList fun d => sum4 (cks d)) := ok_writeSum (k := 0) Z
  refine Z.DNextRecord.F.ok scNextRecord (fun vs H Q E h => ?_) (fun cdv A outer s H vs Q E hr h => ?_)
  · obtain ⟨p, b, c, x, a, rfl, _⟩ := h
    rfl
  · obtain ⟨p, b, c, x, a, rfl, R, hl, ha, hx, hh⟩ := h
    refine ⟨_, (pss_cons (ps_try_only (Wout := fun _ _ _ _ => False) rfl rfl ⟨rfl, by decide, .inl Z.EDamagedPacket.g⟩ takes0 (fun W pn xe tk _ => (pss_cons (ps_set (i := 1) scNextRecord.nd rfl (.inl rfl) (HX.pe_methS1 (pv 0) Z.CReader.cl Z.DReaderReadBytes.m GReaderReadBytes (hr.mono (by omega)) Z.DReaderReadBytes.b (fun σ => passAt tk σ) (pa_cons (HX.pe_methS0 (pv 0) Z.CReader.cl Z.DReaderReadNumber.m GReaderReadNumber (hr.mono (by omega)) Z.DReaderReadNumber.b (fun σ => passAt tk σ)) pa_nil)))
        (pss_one (ps_set (i := 2) scNextRecord.nd rfl (.inl rfl) (HX.pe_methS1 (pv 0) Z.CReader.cl Z.DReaderReadBytes.m GReaderReadBytes (hr.mono (by omega)) Z.DReaderReadBytes.b (fun σ => passAt tk σ) (pa_cons (pe_gint rfl Z.kSUM_LENGTH) pa_nil))))))
        (fun a oe cls d pn _ _ => (pss_one (ps_ret pe_non))))
        (pss_one (ps_ret (pe_ifExp (pt_cmpR (op_eqD hr.units) (pv 2) (pe_call GWriteSum (hr.mono (by omega)) (by rfl) Z.DWriteSum.g Z.DWriteSum.F.kp Z.DWriteSum.b .nil pass0 (pa_cons (pv 1) pa_nil)) (nomark _)) (pv 1) pe_non)))), ?_⟩
    have bad : nextR (x.drop a) = none → ∀ H', Kept H H' p → Q .non H' := fun e => by
      rcases hh with ⟨d, r, h, _⟩ | ⟨_, h⟩
      · rw [e] at h; cases h
      · exact h
    obtain ⟨⟨dx, ho⟩, _⟩ := id R
    refine ⟨_, rfl, p, dx, _, rfl, ho, rflds_no _ _ _ (by decide +kernel) (by decide +kernel) (by decide +kernel), ?_⟩
    refine ⟨_, rfl, p, dx, _, rfl, ho, rflds_no _ _ _ (by decide +kernel) (by decide +kernel) (by decide +kernel), ?_⟩
    refine ⟨p, b, c, x, a, rfl, R, hl, ha, hx, ?_⟩
    cases e : rnum 60 0 0 (x.drop a) with
    | none =>
      refine .inr ⟨rfl, fun H1 a1 B1 R1 _ => ⟨true, Z.EDamagedPacket.te, fun _ u hu => ?_, fun q => nomatch q⟩⟩
      exact bad (by unfold nextR; rw [e]) H1 B1.kept
    | some nr =>
      obtain ⟨n, r⟩ := nr
      have hnr : nextR (x.drop a) = (if r.length < n + 4 then none else if (r.drop n).take 4 = sum4 (cks (r.take n)) then some (r.take n, r.drop (n + 4)) else none) := by
        unfold nextR
        rw [e]
      obtain ⟨hrl, pp, hpr, _⟩ := rnum_le _ _ _ _ _ _ e
      rw [List.length_drop] at hrl
      have hrx : x.drop (x.length - r.length) = r := by
        have h1 : x = (x.take a ++ pp) ++ r := by rw [List.append_assoc, ← hpr, List.take_append_drop]
        have key : ∀ A B : List Nat, (A ++ B).drop ((A ++ B).length - B.length) = B := fun A B => by
          rw [List.length_append, Nat.add_sub_cancel, List.drop_left]
        have h2 := key (x.take a ++ pp) r
        rwa [← h1] at h2
      refine .inl ⟨n, r, rfl, fun H1 B1 R1 => ?_⟩
      have hal : x.length - r.length ≤ x.length := by omega
      generalize ha1 : x.length - r.length = a1 at R1 hal hrx
      refine ⟨p, b, c, x, a1, n, rfl, R1, hl, hal, ?_⟩
      by_cases c1 : a1 + n ≤ x.length
      · refine .inl ⟨c1, fun t H2 ht B2 R2 h2 => ?_⟩
        obtain ⟨⟨dx2, ho2⟩, _⟩ := id R2
        refine ⟨_, rfl, p, dx2, _, rfl, ho2, rflds_no _ _ _ (by decide +kernel) (by decide +kernel) (by decide +kernel), p, b, c, x, a1 + n, 4, rfl, R2, hl, c1, ?_⟩
        by_cases c2 : a1 + n + 4 ≤ x.length
        · refine .inl ⟨c2, fun u H3 hu B3 R3 h3 => ?_⟩
          have hrd : x.drop (a1 + n) = r.drop n := by rw [← hrx, List.drop_drop]
          rw [hrx] at h2
          rw [hrd] at h3
          have ntp : t ≠ p := by
            rintro rfl
            obtain ⟨⟨dy, hy⟩, _⟩ := R1
            rw [hy] at ht
            cases ht
          have t3 := B3 t _ ntp h2
          have hc : ¬ r.length < n + 4 := by omega
          rw [if_neg hc] at hnr
          refine ⟨_, rfl, _, rfl, t, r.take n, rfl, t3, by rw [List.length_take]; omega, fun v H4 s4 hv h4 => ?_⟩
          refine ⟨_, _, dp_list (s4 _ _ h3), dp_list h4, shaped_ints _, shaped_ints _, _, congrArg V.bl (eqv_ints _ _), ?_⟩
          have kp : Kept H H4 p := ((B1.kept.trans B2).trans B3).trans (s4.kept p)
          by_cases c3 : (r.drop n).take 4 = sum4 (cks (r.take n))
          · rw [decide_eq_true c3]
            rw [if_pos c3] at hnr
            refine iteT ⟨_, rfl, ?_⟩
            rcases hh with ⟨d', r', h', q⟩ | ⟨h', _⟩
            · rw [hnr] at h'
              cases h'
              refine q H4 t kp ?_ (s4 _ _ t3) ?_
              · have := B1 t ntp
                rw [← this]
                exact ht
              · have e5 : x.length - (r.drop (n + 4)).length = a1 + n + 4 := by rw [List.length_drop]; omega
                rw [e5]
                exact R3.same s4
            · rw [hnr] at h'; cases h'
          · rw [decide_eq_false c3]
            rw [if_neg c3] at hnr
            exact iteF (bad hnr H4 kp)
        · refine .inr ⟨by omega, true, Z.EDamagedPacket.te, fun _ u hu => ?_, fun q => nomatch q⟩
          exact bad (by rw [hnr, if_pos (by omega)]) H2 (B1.kept.trans B2)
      · refine .inr ⟨by omega, true, Z.EDamagedPacket.te, fun _ u hu => ?_, fun q => nomatch q⟩
        exact bad (by rw [hnr, if_pos (by omega)]) H1 B1.kept
/-! ### read_records -/
def IsL (l : Addr) (H : Hp) (v : V) (d : List Nat) : Prop := ∃ r, v = .ref r ∧ r ≠ l ∧ H r = some (.lst (d.map vi))
def total (ds : List (List Nat)) : Nat := (cat ds).length
def spReadRecs : Sp := fun vs H Q _ => ∃ (d : Addr) (x : List Nat) (ds : List (List Nat)), vs = [.ref d] ∧ H d = some (.lst (x.map vi)) ∧ x.length ≤ 50000 ∧ (∀ y ∈ x, y < 256) ∧ Reads x ds ∧
  ∀ t l us H', Same H H' → H' t = some (.tup [.ref l, vi (total ds)]) → H' l = some (.lst us) → All2 (IsL l H') us ds → Q (.ref t) H'
def RInv (C p b c l : Addr) (x : List Nat) (ds : List (List Nat)) (H : Hp) (m : Nat) (y : V) (H' : Hp) : Prop := ∃ done us, Same H H' ∧ H' l = some (.lst us) ∧ All2 (IsL l H') us done ∧
  ((y = .non ∧ done = ds ∧ m = 0) ∨ (∃ r d0 rest a, m = rest.length + 1 ∧ y = .ref r ∧ r ≠ l ∧ H' r = some (.lst (d0.map vi)) ∧ ds = done ++ d0 :: rest ∧ RdAt C H' p b c x a ∧ a ≤ x.length ∧ Reads (x.drop a) rest))
theorem reads_len {x : List Nat} {ds : List (List Nat)} (h : Reads x ds) : 5 * ds.length ≤ x.length ∧ ∀ d ∈ ds, d.length ≤ x.length := by
  induction h with
  | stop _ => exact ⟨Nat.zero_le _, fun _ h => (by cases h)⟩
  | more h _ ih =>
    obtain ⟨h1, h2⟩ := nextR_le h
    refine ⟨by rw [List.length_cons]; omega, fun d hd => ?_⟩
    rcases List.mem_cons.mp hd with e | e
    · rw [e]; exact h2
    · have := ih.2 d e
      omega
theorem ok_readRecords {k : Nat} (Z : Defs K mg) : FnOk P w K mg base CX0 (k + 4) Z.fReadRecords Z.fdReadRecords ["data"] spReadRecs := by
  have GReaderInit : FnOk P w K mg base CX0 1 Z.fReaderInit Z.fdReaderInit ["self", "data"] (spRInit Z.cReader) := ok_rinit (k := 0) Z
  have GNextRecord : FnOk P w K mg base CX0 3 Z.fNextRecord Z.fdNextRecord ["reader"] (spNextRec Z.cReader) := ok_nextRecord (k := 0) Z
  have GRecordSize : FnOk P w K mg base CX0 2 Z.fRecordSize Z.fdRecordSize ["data"] spSize := ok_recordSize (k := 0) Z
  refine Z.DReadRecords.F.ok scReadRecords (fun vs H Q E h => ?_) (fun cdv A outer s H vs Q E hr h => ?_)
  · obtain ⟨d, x, ds, rfl, _⟩ := h
    rfl
  · obtain ⟨d, x, ds, rfl, hd, hl, hx, hR, qq⟩ := h
    refine ⟨_, (pss_cons (ps_set (i := 1) scReadRecords.nd rfl (.inl rfl) (pe_make Z.CReader.make GReaderInit (hr.mono (by omega)) rfl Z.CReader.g Z.DReaderInit.b .nil pass0 (pa_cons (pv 0) pa_nil)))
        (pss_cons (ps_set (i := 2) scReadRecords.nd rfl (.inl rfl) (pe_lst pa_nil))
        (C8.pss_cut (ps_set (i := 3) scReadRecords.nd rfl (.inl rfl) (pe_call GNextRecord (hr.mono (by omega)) (by rfl) Z.DNextRecord.g Z.DNextRecord.F.kp Z.DNextRecord.b .nil pass0 (pa_cons (pv 1) pa_nil)))
        (pss_cons (ps_while PassesOwn.never (pt_cmp (pc_notN (pv 3))) (pss_cons (ps_expr (pe_bm PySem.F.plainAttrs_list PySem.F.slot_list_append PySem.F.type_list_append mt_append (pv 2) (pa_cons (pv 3) pa_nil)))
        (pss_one (ps_set (i := 3) scReadRecords.nd rfl (.inl rfl) (pe_call GNextRecord (hr.mono (by omega)) (by rfl) Z.DNextRecord.g Z.DNextRecord.F.kp Z.DNextRecord.b .nil pass0 (pa_cons (pv 1) pa_nil))))))
        (pss_one (ps_ret (pe_tup (pa_cons (pv 2) (pa_cons (pe_callB (cr_sum rfl) (by rfl) Z.sum (by decide +kernel) (pa_cons (pe_lc (own := [("record", 3)]) (g := (gName 3)) (by rfl) scReadRecords.nd (pi_list (pv 2)) (blkOk_by (own := [("record", 3)]) (N := ["data", "reader", "records", "record"]) (sc := defScope sReadRecords) (by decide +kernel)) (fun _ _ _ _ _ => (pg_name (i := 3) scReadRecords.nd rfl (Or.inl rfl))) (fun _ _ _ _ _ => pts_nil) (fun _ _ _ _ _ => (pe_call GRecordSize (hr.mono (by omega)) (by rfl) Z.DRecordSize.g Z.DRecordSize.F.kp Z.DRecordSize.b .nil pass0 (pa_cons (pv 3) pa_nil)))) pa_nil)) pa_nil))))))))), ?_⟩
    obtain ⟨hdl, hdb⟩ := reads_len hR
    refine ⟨_, rfl, fun p dx np ndx nex => ?_⟩
    have s0 : Same H (upd (upd H dx (.own p)) p (.ins Z.cReader dx [])) := fun b o e => by
      rw [upd_ne (ne_of_none e np), upd_ne (ne_of_none e ndx)]
      exact e
    refine ⟨p, dx, d, x, rfl, upd_same, s0 _ _ hd, fun b c H1 R1 k1 => ⟨rfl, ?_⟩⟩
    have s1 : Same H H1 := fun z o hz => k1 z o (s0 z o hz) (ne_of_none hz np)
    clear k1 s0
    refine ⟨Nat.zero_le _, fun l hl0 => ?_⟩
    have s2 : Same H1 (upd H1 l (.lst [])) := same_upd hl0
    have g2 : upd H1 l (.lst []) l = some (.lst []) := upd_same
    have R2 := R1.same s2
    have nbl : b ≠ l := ne_of_none R1.da hl0
    have nlH : H l = none := Same.none s1 hl0
    generalize upd H1 l (.lst []) = H2 at s2 g2 R2
    have npl : l ≠ p := by
      rintro rfl
      obtain ⟨⟨dy, hy⟩, _⟩ := R1
      rw [hy] at hl0
      cases hl0
    have fr : ∀ r, H2 r = none → r ≠ l := fun r h e => by rw [e, g2] at h; cases h
    have nxt : ∀ (H' : Hp) (done rest : List (List Nat)) (us : List V) (a : Nat), Same H H' → H' l = some (.lst us) → All2 (IsL l H') us done → ds = done ++ rest → RdAt Z.cReader H' p b c x a → a ≤ x.length → Reads (x.drop a) rest →
        ∀ Qf : VK, (∀ y H'', RInv Z.cReader p b c l x ds H rest.length y H'' → Qf y H'') → spNextRec Z.cReader [.ref p] H' Qf E0 := by
      intro H' done rest us a sH hl' hus hds R' ha hrd Qf hQ
      have np' : H p = none := np
      have keep : ∀ H'', Kept H' H'' p → Same H H'' ∧ H'' l = some (.lst us) ∧ All2 (IsL l H'') us done := fun H'' kp => by
        obtain ⟨⟨dy, hy⟩, _⟩ := R'
        refine ⟨fun z o hz => kp z o (ne_of_none hz np') (sH z o hz), kp _ _ npl hl', hus.mono fun v d0 h => ?_⟩
        obtain ⟨r, e, nr, hr'⟩ := h
        exact ⟨r, e, nr, kp _ _ (ne_of hr' hy (by intro z; cases z)) hr'⟩
      refine ⟨p, b, c, x, a, rfl, R', by omega, ha, hx, ?_⟩
      cases hrd with
      | stop h0 =>
        refine .inr ⟨h0, fun H'' kp => hQ _ _ ?_⟩
        obtain ⟨k1, k2, k3⟩ := keep H'' kp
        exact ⟨done, us, k1, k2, k3, .inl ⟨rfl, by rw [hds, List.append_nil], rfl⟩⟩
      | @more _ d0 r rest' h0 h1 =>
        refine .inl ⟨d0, r, h0, fun H'' t kp ht0 ht R'' => hQ _ _ ?_⟩
        obtain ⟨k1, k2, k3⟩ := keep H'' kp
        have ntl : t ≠ l := fun e => by rw [e, hl'] at ht0; cases ht0
        refine ⟨done, us, k1, k2, k3, .inr ⟨t, d0, rest', _, rfl, rfl, ntl, ht, hds, R'', by omega, ?_⟩⟩
        rw [nextR_at h0]
        exact h1
    refine ⟨fun σ' H' => ∃ m y, σ' = [some (.ref d), some (.ref p), some (.ref l), some y] ∧ RInv Z.cReader p b c l x ds H m y H', ?_, ?_⟩
    · exact ⟨_, rfl, nxt H2 [] ds [] 0 (Same.tr s1 s2) g2 .nil rfl R2 (Nat.zero_le _) hR (fun y H'' => ∃ m y', [some (V.ref d), some (V.ref p), some (V.ref l), some y] = [some (V.ref d), some (V.ref p), some (V.ref l), some y'] ∧ RInv Z.cReader p b c l x ds H m y' H'') fun y H'' hI => ⟨_, y, rfl, hI⟩⟩
    · rintro σ H3 ⟨m, y, rfl, hI⟩
      refine ⟨fun m σ' H' => ∃ y, σ' = [some (.ref d), some (.ref p), some (.ref l), some y] ∧ RInv Z.cReader p b c l x ds H m y H', ⟨m, y, rfl, hI⟩, ?_⟩
      clear hI
      rintro m σ H4 ⟨y, rfl, done, us, sH, hl', hus, hI⟩
      rcases hI with ⟨rfl, rfl, rfl⟩ | ⟨r, d0, rest, a, rfl, rfl, nrl, hr0, hds, R4, ha, hrd⟩
      · refine ⟨_, rfl, false, rfl, iteF ?_⟩
        refine ⟨_, rfl, _, rfl, l, rfl, ⟨_, SqL.of hl'⟩, fun D hD => ?_⟩
        refine lc_list (K := K) (xs := us) (fun i H' => Same H4 H' ∧ H' D = some (.lst ((done.take i).map fun q => V.int (((rcd q).length : Nat) : Int)))) ⟨same_upd hD, upd_same⟩ (fun i H' _ p => SqL.of (p.1 _ _ hl')) ?_ ?_
        · rintro i v H5 hv ⟨s5, hD5⟩
          obtain ⟨q, hq, r, rfl, _, hr⟩ := hus.get hv
          have hqb := hdb q (List.mem_of_getElem? hq)
          refine ⟨rfl, lc_yes ⟨_, rfl, r, q, rfl, s5 _ _ hr, by omega, fun H6 s6 => ⟨_, s6 _ _ hD5, ?_, fun z o hz => ?_, ?_⟩⟩⟩
          · rw [List.length_map, List.length_take]
            exact Nat.lt_of_le_of_lt (show _ ≤ 100000 by omega) (by decide)
          · rw [upd_ne (ne_of_none hz hD)]
            exact s6 _ _ (s5 _ _ hz)
          · rw [upd_same, take_snoc hq, List.map_append]
            rfl
        · rintro H5 ⟨s5, hD5⟩
          rw [hus.len, List.take_of_length_le (Nat.le_refl _)] at hD5
          refine ⟨D, done.map fun q => (((rcd q).length : Nat) : Int), rfl, SqL.of (by rw [List.map_map]; exact hD5), (by show 2 ≤ sizeLine; decide), fun t ht => ?_⟩
          rw [sum_sizes rcd]
          have s6 : Same H4 (upd H5 t (.tup [.ref l, .int (((done.map rcd).flatten.length : Nat) : Int)])) := Same.tr s5 (same_upd ht)
          exact qq t l us _ (Same.tr sH s6) upd_same (s6 _ _ hl') (hus.mono fun v q h => by obtain ⟨r, e, nr, hr⟩ := h; exact ⟨r, e, nr, s6 _ _ hr⟩)
      · refine ⟨_, rfl, true, rfl, iteT ⟨fun σ' H' => ∃ y, σ' = [some (.ref d), some (.ref p), some (.ref l), some y] ∧ RInv Z.cReader p b c l x ds H rest.length y H', fun σ' H' h => ⟨rest.length, Nat.lt_succ_self _, h⟩, ?_⟩⟩
        have hul : us.length ≤ 20000 := by
          rw [hus.len]
          have := congrArg List.length hds
          rw [List.length_append] at this
          omega
        refine ⟨_, rfl, .inl ⟨rfl, _, SqL.of hl'⟩, _, rfl, l, _, _, rfl, rfl, hl', Nat.lt_of_le_of_lt hul (by decide), ?_⟩
        have up : ∀ z o, z ≠ l → H4 z = some o → upd H4 l (.lst (us ++ [.ref r])) z = some o := fun z o n h => by rw [upd_ne n]; exact h
        obtain ⟨⟨dy, hy⟩, hda, hch⟩ := id R4
        have R5 : RdAt Z.cReader (upd H4 l (.lst (us ++ [.ref r]))) p b c x a := ⟨⟨dy, up _ _ npl.symm hy⟩, up _ _ nbl hda, up _ _ (ne_of hch hl' (by intro z; cases z)) hch⟩
        have h5 : All2 (IsL l (upd H4 l (.lst (us ++ [.ref r])))) (us ++ [.ref r]) (done ++ [d0]) :=
          (hus.mono fun v q h => by obtain ⟨r', e, nr, hr'⟩ := h; exact ⟨r', e, nr, up _ _ nr hr'⟩).snoc ⟨r, rfl, nrl, up _ _ nrl hr0⟩
        refine ⟨_, rfl, ?_⟩
        exact nxt _ (done ++ [d0]) rest (us ++ [.ref r]) a (fun z o hz => up z o (ne_of_none hz nlH) (sH z o hz)) upd_same h5 (by rw [hds, List.append_assoc]; rfl) R5 ha hrd
          (fun y H'' => ∃ y', [some (V.ref d), some (V.ref p), some (V.ref l), some y] = [some (V.ref d), some (V.ref p), some (V.ref l), some y'] ∧ RInv Z.cReader p b c l x ds H rest.length y' H'') fun y H'' hI => ⟨y, rfl, hI⟩
end
end Q43
namespace Q43
open PySem PySem.Spec PyProof.Rows L2 SX HL NM
section
variable {P : Program} {w : World} {K : PySem.W.Frag} {mg : Str → Option Value} {base : Heap}
theorem StN.keep {H H' : Hp} {p q : Addr} {ds : List Int} (h : StN H p q ds) (s : Same H H') : StN H' p q ds := h.same fun b o _ e => s b o e
theorem StN.no {H : Hp} {p q : Addr} {ds : List Int} (h : StN H p q ds) {b : Addr} (n : H b = none) : b ≠ p := by
  obtain ⟨_, _, i, _, e⟩ := h
  rintro rfl
  rw [e] at n
  cases n
theorem StN.none {H H' : Hp} {p q r : Addr} {ds : List Int} (h : StN H' p q ds) (k : Kept H H' p) (e : H' r = none) : H r = none := by
  have nr := h.no e
  cases c : H r with
  | none => rfl
  | some o => rw [k _ _ nr c] at e; cases e
/-! ### _law_bytes -/
def spLBytes : Sp := fun vs H Q _ => ∃ (p q : Addr) (ds : List Int), vs = [.ref p] ∧ StN H p q ds ∧
  ∀ H' r (d : List Nat), StN H' p q ds → Kept H H' p → H r = none → H' r = some (.lst (d.map vi)) → d.length ≤ 300 → (∀ b ∈ d, b < 256) → Q (.ref r) H'
theorem ok_lbytes {k : Nat} (Z : Defs K mg) : FnOk P w K mg base CX0 (k + 4) Z.fLawBytes Z.fdLawBytes ["state"] spLBytes := by
  have GLawNext : FnOk P w K mg base CX0 3 Z.fLawNext Z.fdLawNext ["state", "limit"] spNext := ok_next (k := 0) Z
  refine Z.DLawBytes.F.ok scLawBytes (fun vs H Q E h => ?_) (fun cdv A outer s H vs Q E hr h => ?_)
  · obtain ⟨p, q, ds, rfl, _⟩ := h
    rfl
  · obtain ⟨p, q, ds, rfl, hS, qq⟩ := h
    refine ⟨_, (pss_cons (ps_set (i := 1) scLawBytes.nd rfl (.inl rfl) (pe_call GLawNext (hr.mono (by omega)) (by rfl) Z.DLawNext.g Z.DLawNext.F.kp Z.DLawNext.b .nil pass0 (pa_cons (pv 0) (pa_cons pe_int pa_nil))))
        (C8.pss_cut (ps_if (pt_cmpR op_eq (pe_call GLawNext (hr.mono (by omega)) (by rfl) Z.DLawNext.g Z.DLawNext.F.kp Z.DLawNext.b .nil pass0 (pa_cons (pv 0) (pa_cons pe_int pa_nil))) pe_int (nomark _)) (pss_one (ps_set (i := 1) scLawBytes.nd rfl (.inl rfl) (pe_op op_add pe_int (pe_call GLawNext (hr.mono (by omega)) (by rfl) Z.DLawNext.g Z.DLawNext.F.kp Z.DLawNext.b .nil pass0 (pa_cons (pv 0) (pa_cons pe_int pa_nil)))))) pss_nil)
        (pss_cons (ps_set (i := 2) scLawBytes.nd rfl (.inr rfl) (pe_call GLawNext (hr.mono (by omega)) (by rfl) Z.DLawNext.g Z.DLawNext.F.kp Z.DLawNext.b .nil pass0 (pa_cons (pv 0) (pa_cons pe_int pa_nil))))
        (pss_one (ps_ret (pe_lc (own := [("k", 3)]) (g := (gName 3)) (by rfl) scLawBytes.nd (pi_range1 (by rfl) Z.range (pa_cons (pv 1) pa_nil)) (blkOk_by (own := [("k", 3)]) (N := ["state", "count", "start", "k"]) (sc := defScope sLawBytes) (by decide +kernel)) (fun _ _ _ _ _ => (pg_name (i := 3) scLawBytes.nd rfl (Or.inl rfl))) (fun _ _ _ _ _ => pts_nil) (fun _ _ _ _ _ => (pe_op op_mod (pe_op op_add (pv 2) (pe_op op_mul (pe_op op_mul pe_int (pv 3)) (pv 3))) pe_int)))))))), ?_⟩
    refine ⟨_, rfl, p, q, ds, 6, rfl, hS, by decide, fun H1 c S1 B1 c0 c1 => ?_⟩
    refine ⟨fun σ' H' => ∃ n : Nat, n ≤ 300 ∧ σ' = [some (.ref p), some (vi n), none, none] ∧ StN H' p q ds ∧ But H H' p, ?_, ?_⟩
    · obtain ⟨c, rfl⟩ : ∃ n : Nat, c = (n : Int) := ⟨c.toNat, by omega⟩
      refine ⟨_, rfl, p, q, ds, 4, rfl, S1, by decide, fun H2 v S2 B2 v0 v1 => ⟨rfl, _, rfl, ite2 (fun _ => ?_) (fun _ => ⟨c, by omega, rfl, S2, B1.trans B2⟩)⟩⟩
      refine ⟨_, rfl, p, q, ds, 181, rfl, S2, by decide, fun H3 u S3 B3 u0 u1 => ?_⟩
      obtain ⟨u, rfl⟩ : ∃ n : Nat, u = (n : Int) := ⟨u.toNat, by omega⟩
      exact ⟨_, _, rfl, rfl, 120 + u, by omega, rfl, S3, (B1.trans B2).trans B3⟩
    · rintro σ' H2 ⟨n, hn, rfl, S2, B2⟩
      refine ⟨_, rfl, p, q, ds, 256, rfl, S2, by decide, fun H3 s S3 B3 s0 s1 => ?_⟩
      obtain ⟨s, rfl⟩ : ∃ n : Nat, s = (n : Int) := ⟨s.toNat, by omega⟩
      refine ⟨_, rfl, _, rfl, by omega, by omega, fun D hD => ?_⟩
      refine lc_range (lo := 0) (n := (n : Int).toNat) (fun i H' => Same H3 H' ∧ ∃ d : List Nat, H' D = some (.lst (d.map vi)) ∧ d.length = i ∧ ∀ b ∈ d, b < 256) ⟨same_upd hD, [], upd_same, rfl, fun _ h => (by cases h)⟩ ?_ ?_
      · rintro i H4 hi ⟨s4, d, hd, hdl, hdb⟩
        refine ⟨rfl, lc_yes ⟨_, rfl, _, rfl, 41, _, rfl, rfl, .inl ⟨by decide, by decide⟩, _, rfl, _, _, rfl, rfl, .inr ⟨by omega, by omega⟩, _, _, rfl, rfl, _, 256, rfl, rfl, (by show (0 : Int) < 256; decide), ?_⟩⟩
        have e : ((s : Int) + 41 * (0 + (i : Int)) * (0 + (i : Int))) % 256 = (((s + 41 * i * i) % 256 : Nat) : Int) := by
          rw [Int.zero_add, Int.natCast_emod, Int.natCast_add, Int.natCast_mul, Int.natCast_mul]
          rfl
        refine ⟨_, hd, (by rw [List.length_map]; exact Nat.lt_of_le_of_lt (show d.length ≤ 1000 by omega) (by decide)), fun z o hz => by rw [upd_ne (ne_of_none hz hD)]; exact s4 _ _ hz, d ++ [(s + 41 * i * i) % 256], ?_, by simp [hdl], fun b hb => ?_⟩
        · rw [upd_same, List.map_append]
          exact congrArg (fun z => some (HO.lst (d.map vi ++ [V.int z]))) e
        · rcases List.mem_append.mp hb with h | h
          · exact hdb b h
          · rw [List.mem_singleton.mp h]
            exact Nat.mod_lt _ (by decide)
      · rintro H4 ⟨s4, d, hd, hdl, hdb⟩
        have B3' := B2.trans B3
        have hDp := S3.no hD
        refine qq H4 D d (S3.keep s4) (B3'.kept.trans (s4.kept p)) (by rw [B3' D hDp] at hD; exact hD) hd (by omega) hdb
/-! ### _law_behind -/
def spBehind : Sp := fun vs H Q _ => ∃ (p q : Addr) (ds : List Int), vs = [.ref p] ∧ StN H p q ds ∧
  ∀ H' r (x : List Nat), StN H' p q ds → Kept H H' p → H r = none → H' r = some (.lst (x.map vi)) → x.length ≤ 1000 → (∀ b ∈ x, b < 256) → nextR x = none → Q (.ref r) H'
theorem ok_behind {k : Nat} (Z : Defs K mg) : FnOk P w K mg base CX0 (k + 5) Z.fLawBehind Z.fdLawBehind ["state"] spBehind := by
  have GLawNext : FnOk P w K mg base CX0 3 Z.fLawNext Z.fdLawNext ["state", "limit"] spNext := ok_next (k := 0) Z
  have GLawBytes : FnOk P w K mg base CX0 4 Z.fLawBytes Z.fdLawBytes ["state"] spLBytes := ok_lbytes (k := 0) Z
  have GLawRecord : FnOk P w K mg base CX0 2 Z.fLawRecord Z.fdLawRecord ["data"] (spList rcd) := ok_lawRecord (k := 0) Z
  have GLawNumber : FnOk P w K mg base CX0 1 Z.fLawNumber Z.fdLawNumber ["number"] spNum := ok_lawNumber (k := 0) Z
  refine Z.DLawBehind.F.ok scLawBehind (fun vs H Q E h => ?_) (fun cdv A outer s H vs Q E hr h => ?_)
  · obtain ⟨p, q, ds, rfl, _⟩ := h
    rfl
  · obtain ⟨p, q, ds, rfl, hS, qq⟩ := h
    refine ⟨_, (pss_cons (ps_set (i := 1) scLawBehind.nd rfl (.inl rfl) (pe_call GLawBytes (hr.mono (by omega)) (by rfl) Z.DLawBytes.g Z.DLawBytes.F.kp Z.DLawBytes.b .nil pass0 (pa_cons (pv 0) pa_nil)))
        (pss_cons (ps_set (i := 2) scLawBehind.nd rfl (.inl rfl) (pe_call GLawRecord (hr.mono (by omega)) (by rfl) Z.DLawRecord.g Z.DLawRecord.F.kp Z.DLawRecord.b .nil pass0 (pa_cons (pv 1) pa_nil)))
        (pss_cons (ps_set (i := 3) scLawBehind.nd rfl (.inl rfl) (pe_call GLawNext (hr.mono (by omega)) (by rfl) Z.DLawNext.g Z.DLawNext.F.kp Z.DLawNext.b .nil pass0 (pa_cons (pv 0) (pa_cons pe_int pa_nil))))
        (pss_cons (ps_if (pt_cmpR op_eq (pv 3) pe_int (nomark _)) (pss_one (ps_ret (pe_lst pa_nil))) pss_nil)
        (pss_cons (ps_if (pt_cmpR op_eq (pv 3) pe_int (nomark _)) (pss_one (ps_ret (pe_slice sl_list (pv 2) po_none (po_some (pe_call GLawNext (hr.mono (by omega)) (by rfl) Z.DLawNext.g Z.DLawNext.F.kp Z.DLawNext.b .nil pass0 (pa_cons (pv 0) (pa_cons (pe_callB call_len_seq (by rfl) Z.len PySem.boot_len (pa_cons (pv 2) pa_nil)) pa_nil))))))) pss_nil)
        (pss_cons (ps_if (pt_cmpR op_eq (pv 3) pe_int (nomark _)) (pss_cons (ps_set (i := 4) scLawBehind.nd rfl (.inl rfl) (pe_op op_sub (pe_op op_sub (pe_callB call_len_seq (by rfl) Z.len PySem.boot_len (pa_cons (pv 2) pa_nil)) pe_int) (pe_call GLawNext (hr.mono (by omega)) (by rfl) Z.DLawNext.g Z.DLawNext.F.kp Z.DLawNext.b .nil pass0 (pa_cons (pv 0) (pa_cons pe_int pa_nil)))))
        (pss_one (ps_ret (pe_op op_cat (pe_op op_cat (pe_slice sl_list (pv 2) po_none (po_some (pv 4))) (pe_lst (pa_cons (pe_op op_mod (pe_op op_add (pe_op op_add (pe_ix ix_list (pv 2) (pv 4) (fun _ _ => rfl)) pe_int) (pe_call GLawNext (hr.mono (by omega)) (by rfl) Z.DLawNext.g Z.DLawNext.F.kp Z.DLawNext.b .nil pass0 (pa_cons (pv 0) (pa_cons pe_int pa_nil)))) pe_int) pa_nil))) (pe_slice sl_list (pv 2) (po_some (pe_op op_add (pv 4) pe_int)) po_none))))) pss_nil)
        (C8.pss_cut (ps_if (PW.pt (pw_and (pt_cmpR op_eq (pv 3) pe_int (nomark _)) (pw_and1 (pt_cmpR op_gt (pe_callB call_len_seq (by rfl) Z.len PySem.boot_len (pa_cons (pv 1) pa_nil)) pe_int (nomark _))))) (pss_cons (ps_set (i := 4) scLawBehind.nd rfl (.inl rfl) (pe_op op_sub (pe_op op_sub (pe_callB call_len_seq (by rfl) Z.len PySem.boot_len (pa_cons (pv 2) pa_nil)) pe_int) (pe_call GLawNext (hr.mono (by omega)) (by rfl) Z.DLawNext.g Z.DLawNext.F.kp Z.DLawNext.b .nil pass0 (pa_cons (pv 0) (pa_cons (pe_callB call_len_seq (by rfl) Z.len PySem.boot_len (pa_cons (pv 1) pa_nil)) pa_nil)))))
        (pss_one (ps_ret (pe_op op_cat (pe_op op_cat (pe_slice sl_list (pv 2) po_none (po_some (pv 4))) (pe_lst (pa_cons (pe_op op_mod (pe_op op_add (pe_op op_add (pe_ix ix_list (pv 2) (pv 4) (fun _ _ => rfl)) pe_int) (pe_call GLawNext (hr.mono (by omega)) (by rfl) Z.DLawNext.g Z.DLawNext.F.kp Z.DLawNext.b .nil pass0 (pa_cons (pv 0) (pa_cons pe_int pa_nil)))) pe_int) pa_nil))) (pe_slice sl_list (pv 2) (po_some (pe_op op_add (pv 4) pe_int)) po_none))))) pss_nil)
        (pss_cons (ps_set (i := 5) scLawBehind.nd rfl (.inl rfl) (pe_call GLawNumber (hr.mono (by omega)) (by rfl) Z.DLawNumber.g Z.DLawNumber.F.kp Z.DLawNumber.b .nil pass0 (pa_cons (pe_callB call_len_seq (by rfl) Z.len PySem.boot_len (pa_cons (pv 1) pa_nil)) pa_nil)))
        (pss_one (ps_ret (pe_op op_cat (pe_op op_cat (pe_slice sl_list (pv 5) po_none (po_some (pe_op op_sub (pe_callB call_len_seq (by rfl) Z.len PySem.boot_len (pa_cons (pv 5) pa_nil)) pe_int))) (pe_lst (pa_cons (pe_op op_add (pe_ix ix_list (pv 5) (pe_op op_sub (pe_callB call_len_seq (by rfl) Z.len PySem.boot_len (pa_cons (pv 5) pa_nil)) pe_int) (fun _ _ => rfl)) pe_int) (pa_cons pe_int pa_nil)))) (pe_slice sl_list (pv 2) (po_some (pe_callB call_len_seq (by rfl) Z.len PySem.boot_len (pa_cons (pv 5) pa_nil))) po_none)))))))))))), ?_⟩
    refine ⟨_, rfl, p, q, ds, rfl, hS, fun H1 ad d S1 K1 had hd hdl hdb => ?_⟩
    refine ⟨_, rfl, ad, d, rfl, hd, by omega, fun ar H2 s2 har hrr => ?_⟩
    have d2 := s2 _ _ hd
    have S2 := S1.keep s2
    have K2 := K1.trans (s2.kept p)
    have rl := rcd_len d
    have el : (enc d.length).length ≤ 2 := enc_len (k := 1) _ (by show d.length < 16384; omega)
    have hd6 : d.length < 1000000 := by omega
    have rb := rcd_bytes hdb
    have nd : ad ≠ p := by
      obtain ⟨_, _, i, _, e⟩ := hS
      rintro rfl
      rw [e] at had
      cases had
    have nr : ar ≠ p := S1.no har
    clear s2 K1 S1
    refine ⟨_, rfl, p, q, ds, 5, rfl, S2, by decide, fun H3 pick S3 B3 p0 p1 => ?_⟩
    have d3 : H3 ad = some (.lst (d.map vi)) := by rw [B3 ad nd]; exact d2
    have r3 : H3 ar = some (.lst ((rcd d).map vi)) := by rw [B3 ar nr]; exact hrr
    have K3 := K2.trans B3.kept
    clear d2 hrr S2 K2 B3 hd
    have out : ∀ (H' : Hp) (u : Addr) (x : List Nat), StN H' p q ds → Kept H H' p → H' u = none → x.length ≤ 1000 → (∀ b ∈ x, b < 256) → nextR x = none → ∀ o, o = .lst (x.map vi) → Q (.ref u) (upd H' u o) := fun H' u x sH kH hu h1 h2 h3 o ho => by
      have s4 : Same H' (upd H' u o) := same_upd hu
      exact qq _ u x (sH.keep s4) (kH.trans (s4.kept p)) (sH.none kH hu) (by rw [ho]; exact upd_same) h1 h2 h3
    refine ⟨_, rfl, rfl, _, rfl, ite2 (fun _ => ?_) (fun _ => ?_)⟩
    · exact ⟨Nat.zero_le _, fun u hu => out H3 u [] S3 K3 hu (Nat.zero_le _) (fun _ h => (by cases h)) nextR_nil _ rfl⟩
    refine ⟨_, rfl, rfl, _, rfl, ite2 (fun _ => ?_) (fun _ => ?_)⟩
    · refine ⟨_, rfl, _, rfl, _, rfl, ar, _, rfl, .inl (SqL.of r3), p, q, ds, _, rfl, S3, by rw [List.length_map]; omega, fun H4 e S4 B4 e0 e1 => ?_⟩
      rw [List.length_map] at e1
      obtain ⟨e, rfl⟩ : ∃ n : Nat, e = (n : Int) := ⟨e.toNat, by omega⟩
      have r4 : H4 ar = some (.lst ((rcd d).map vi)) := by rw [B4 ar nr]; exact r3
      refine ⟨_, rfl, ar, _, rfl, SqL.of r4, fun u hu => ?_⟩
      rw [cut_to, ← List.map_take]
      have K4 := K3.trans B4.kept
      have s5 : Same H4 (upd H4 u (.lst (((rcd d).take e).map vi))) := same_upd hu
      refine qq _ u _ (S4.keep s5) (K4.trans (s5.kept p)) (S4.none K4 hu) upd_same ?_ (fun b hb => rb b (List.mem_of_mem_take hb)) (nextR_short hd6 (by omega))
      rw [List.length_take]
      omega
    -- a byte of the sum another one
    refine ⟨_, rfl, rfl, _, rfl, ite2 (fun _ => ?_) (fun _ => ?_)⟩
    · refine ⟨_, rfl, ar, _, rfl, .inl (SqL.of r3), _, _, rfl, rfl, _, rfl, p, q, ds, 4, rfl, S3, by decide, fun H4 j S4 B4 j0 j1 => ⟨_, _, rfl, rfl, ?_⟩⟩
      obtain ⟨j, rfl⟩ : ∃ n : Nat, j = (n : Int) := ⟨j.toNat, by omega⟩
      have r4 : H4 ar = some (.lst ((rcd d).map vi)) := by rw [B4 ar nr]; exact r3
      have K4 := K3.trans B4.kept
      have hlt : (rcd d).length - 1 - j < (rcd d).length := by omega
      have hAt : V.int ((((rcd d).map vi).length : Int) - 1 - (j : Int)) = V.int (((rcd d).length - 1 - j : Nat) : Int) := by
        rw [List.length_map]
        exact congrArg V.int (by omega)
      have hbad := fun z (hz : z < 256) (hn : (rcd d)[(rcd d).length - 1 - j]? ≠ some z) => bad_sum hd6 (show j < 4 by omega) hn
      have hy : (rcd d)[(rcd d).length - 1 - j]? = some (rcd d)[(rcd d).length - 1 - j] := List.getElem?_eq_getElem hlt
      have hyb := rb _ (List.getElem_mem hlt)
      generalize (rcd d)[(rcd d).length - 1 - j] = y at hy hyb
      generalize hat : (rcd d).length - 1 - j = at_ at hlt hAt hbad hy
      have hg : atI ((rcd d).map vi) (at_ : Int) = some (vi y) := atI_nat (by rw [List.getElem?_map, hy]; rfl)
      refine ⟨_, rfl, _, rfl, (at_ : Int), hAt, ar, _, rfl, SqL.of r4, fun u1 hu1 => ?_⟩
      rw [cut_to, ← List.map_take]
      have s5 : Same H4 (upd H4 u1 (.lst (((rcd d).take at_).map vi))) := same_upd hu1
      have g5 : upd H4 u1 (.lst (((rcd d).take at_).map vi)) u1 = some (.lst (((rcd d).take at_).map vi)) := upd_same
      have n1 := S4.no hu1
      generalize upd H4 u1 (.lst (((rcd d).take at_).map vi)) = H5 at s5 g5
      have r5 := s5 _ _ r4
      have S5 := S4.keep s5
      have K5 := K4.trans (s5.kept p)
      refine ⟨_, rfl, _, rfl, ar, _, (at_ : Int), vi y, rfl, hAt, SqL.of r5, hg, _, _, rfl, rfl, _, rfl, p, q, ds, 255, rfl, S5, by decide, fun H6 v S6 B6 v0 v1 => ⟨_, _, rfl, rfl, _, 256, rfl, rfl, (by show (0 : Int) < 256; decide), (by show 1 ≤ sizeLine; decide), fun u2 hu2 => ?_⟩⟩
      obtain ⟨v, rfl⟩ : ∃ n : Nat, v = (n : Int) := ⟨v.toNat, by omega⟩
      have hz : ((y : Int) + 1 + (v : Int)) % 256 = (((y + 1 + v) % 256 : Nat) : Int) := by omega
      have hz1 : (y + 1 + v) % 256 < 256 := Nat.mod_lt _ (by decide)
      have hz2 : (y + 1 + v) % 256 ≠ y := by omega
      have hb2 := hbad _ hz1 (by rw [hy]; exact fun e => hz2 (Option.some.inj e).symm)
      have g6 : H6 u1 = some (.lst (((rcd d).take at_).map vi)) := by rw [B6 u1 n1]; exact g5
      have r6 : H6 ar = some (.lst ((rcd d).map vi)) := by rw [B6 ar nr]; exact r5
      have K6 := K5.trans B6.kept
      have s7 : Same H6 (upd H6 u2 (.lst [.int (((y : Int) + 1 + (v : Int)) % 256)])) := same_upd hu2
      have g7 : upd H6 u2 (.lst [.int (((y : Int) + 1 + (v : Int)) % 256)]) u2 = some (.lst [.int (((y : Int) + 1 + (v : Int)) % 256)]) := upd_same
      have ltk : ((rcd d).take at_).length ≤ 1000 := by rw [List.length_take]; omega
      refine ⟨u1, u2, _, _, rfl, rfl, s7 _ _ g6, g7, ?_, fun u3 hu3 => ?_⟩
      · rw [List.length_map]
        exact Nat.le_trans (show _ + 1 ≤ 2000 by omega) (by decide)
      have s8 := Same.tr s7 (same_upd (o := .lst (((rcd d).take at_).map vi ++ [.int (((y : Int) + 1 + (v : Int)) % 256)])) hu3)
      have g8 : upd (upd H6 u2 (.lst [.int (((y : Int) + 1 + (v : Int)) % 256)])) u3 (.lst (((rcd d).take at_).map vi ++ [.int (((y : Int) + 1 + (v : Int)) % 256)])) u3 = some (.lst (((rcd d).take at_).map vi ++ [.int (((y : Int) + 1 + (v : Int)) % 256)])) := upd_same
      refine ⟨_, rfl, _, rfl, _, 1, hAt, rfl, ((at_ + 1 : Nat) : Int), rfl, ar, _, rfl, SqL.of (s8 _ _ r6), fun u4 hu4 => ?_⟩
      rw [cut_from, ← List.map_drop]
      have s9 := Same.tr s8 (same_upd (o := .lst (((rcd d).drop (at_ + 1)).map vi)) hu4)
      refine ⟨u3, u4, _, _, rfl, rfl, same_upd hu4 _ _ g8, upd_same, ?_, fun u5 hu5 => ?_⟩
      · rw [List.length_append, List.length_map, List.length_map, List.length_drop]
        exact Nat.le_trans (show _ + 1 + _ ≤ 3000 by omega) (by decide)
      refine out _ u5 ((rcd d).set at_ ((y + 1 + v) % 256)) (S6.keep s9) (K6.trans (s9.kept p)) hu5 (by rw [List.length_set]; omega) (fun b hb => ?_) hb2 _ ?_
      · rcases List.mem_or_eq_of_mem_set hb with h | h
        · exact rb b h
        · rw [h]; exact hz1
      · rw [← set_shape hlt, List.map_append, List.map_append]
        exact congrArg (fun z => HO.lst (((rcd d).take at_).map vi ++ [V.int z] ++ ((rcd d).drop (at_ + 1)).map vi)) hz
    -- a byte of the data another one
    refine ⟨fun σ' H' => σ' = [some (.ref p), some (.ref ad), some (.ref ar), some (.int pick), none, none] ∧ H' = H3, ?_, ?_⟩
    · refine ⟨_, rfl, rfl, _, rfl, ite2 (fun _ => ?_) (fun _ => ⟨rfl, rfl⟩)⟩
      · refine ⟨_, rfl, ad, _, rfl, .inl (SqL.of d3), _, _, rfl, rfl, _, rfl, ite2 (fun hd0 => ?_) (fun _ => ⟨rfl, rfl⟩)⟩
        · have hd0 := of_decide_eq_true hd0
          rw [List.length_map] at hd0
          refine ⟨_, rfl, ar, _, rfl, .inl (SqL.of r3), _, _, rfl, rfl, _, rfl, _, rfl, ad, _, rfl, .inl (SqL.of d3), p, q, ds, _, rfl, S3, by rw [List.length_map]; omega, fun H4 j S4 B4 j0 j1 => ⟨_, _, rfl, rfl, ?_⟩⟩
          rw [List.length_map] at j1
          obtain ⟨j, rfl⟩ : ∃ n : Nat, j = (n : Int) := ⟨j.toNat, by omega⟩
          have r4 : H4 ar = some (.lst ((rcd d).map vi)) := by rw [B4 ar nr]; exact r3
          have K4 := K3.trans B4.kept
          have hlt : (rcd d).length - 5 - j < (rcd d).length := by omega
          have hAt : V.int ((((rcd d).map vi).length : Int) - 5 - (j : Int)) = V.int (((rcd d).length - 5 - j : Nat) : Int) := by
            rw [List.length_map]
            exact congrArg V.int (by omega)
          have hbad := fun z (hz : z < 256) (hn : (rcd d)[(rcd d).length - 5 - j]? ≠ some z) => bad_data hd6 hdb (show j < d.length by omega) hz hn
          have hy : (rcd d)[(rcd d).length - 5 - j]? = some (rcd d)[(rcd d).length - 5 - j] := List.getElem?_eq_getElem hlt
          have hyb := rb _ (List.getElem_mem hlt)
          generalize (rcd d)[(rcd d).length - 5 - j] = y at hy hyb
          generalize hat : (rcd d).length - 5 - j = at_ at hlt hAt hbad hy
          have hg : atI ((rcd d).map vi) (at_ : Int) = some (vi y) := atI_nat (by rw [List.getElem?_map, hy]; rfl)
          refine ⟨_, rfl, _, rfl, (at_ : Int), hAt, ar, _, rfl, SqL.of r4, fun u1 hu1 => ?_⟩
          rw [cut_to, ← List.map_take]
          have s5 : Same H4 (upd H4 u1 (.lst (((rcd d).take at_).map vi))) := same_upd hu1
          have g5 : upd H4 u1 (.lst (((rcd d).take at_).map vi)) u1 = some (.lst (((rcd d).take at_).map vi)) := upd_same
          have n1 := S4.no hu1
          generalize upd H4 u1 (.lst (((rcd d).take at_).map vi)) = H5 at s5 g5
          have r5 := s5 _ _ r4
          have S5 := S4.keep s5
          have K5 := K4.trans (s5.kept p)
          refine ⟨_, rfl, _, rfl, ar, _, (at_ : Int), vi y, rfl, hAt, SqL.of r5, hg, _, _, rfl, rfl, _, rfl, p, q, ds, 255, rfl, S5, by decide, fun H6 v S6 B6 v0 v1 => ⟨_, _, rfl, rfl, _, 256, rfl, rfl, (by show (0 : Int) < 256; decide), (by show 1 ≤ sizeLine; decide), fun u2 hu2 => ?_⟩⟩
          obtain ⟨v, rfl⟩ : ∃ n : Nat, v = (n : Int) := ⟨v.toNat, by omega⟩
          have hz : ((y : Int) + 1 + (v : Int)) % 256 = (((y + 1 + v) % 256 : Nat) : Int) := by omega
          have hz1 : (y + 1 + v) % 256 < 256 := Nat.mod_lt _ (by decide)
          have hz2 : (y + 1 + v) % 256 ≠ y := by omega
          have hb2 := hbad _ hz1 (by rw [hy]; exact fun e => hz2 (Option.some.inj e).symm)
          have g6 : H6 u1 = some (.lst (((rcd d).take at_).map vi)) := by rw [B6 u1 n1]; exact g5
          have r6 : H6 ar = some (.lst ((rcd d).map vi)) := by rw [B6 ar nr]; exact r5
          have K6 := K5.trans B6.kept
          have s7 : Same H6 (upd H6 u2 (.lst [.int (((y : Int) + 1 + (v : Int)) % 256)])) := same_upd hu2
          have g7 : upd H6 u2 (.lst [.int (((y : Int) + 1 + (v : Int)) % 256)]) u2 = some (.lst [.int (((y : Int) + 1 + (v : Int)) % 256)]) := upd_same
          have ltk : ((rcd d).take at_).length ≤ 1000 := by rw [List.length_take]; omega
          refine ⟨u1, u2, _, _, rfl, rfl, s7 _ _ g6, g7, ?_, fun u3 hu3 => ?_⟩
          · rw [List.length_map]
            exact Nat.le_trans (show _ + 1 ≤ 2000 by omega) (by decide)
          have s8 := Same.tr s7 (same_upd (o := .lst (((rcd d).take at_).map vi ++ [.int (((y : Int) + 1 + (v : Int)) % 256)])) hu3)
          have g8 : upd (upd H6 u2 (.lst [.int (((y : Int) + 1 + (v : Int)) % 256)])) u3 (.lst (((rcd d).take at_).map vi ++ [.int (((y : Int) + 1 + (v : Int)) % 256)])) u3 = some (.lst (((rcd d).take at_).map vi ++ [.int (((y : Int) + 1 + (v : Int)) % 256)])) := upd_same
          refine ⟨_, rfl, _, rfl, _, 1, hAt, rfl, ((at_ + 1 : Nat) : Int), rfl, ar, _, rfl, SqL.of (s8 _ _ r6), fun u4 hu4 => ?_⟩
          rw [cut_from, ← List.map_drop]
          have s9 := Same.tr s8 (same_upd (o := .lst (((rcd d).drop (at_ + 1)).map vi)) hu4)
          refine ⟨u3, u4, _, _, rfl, rfl, same_upd hu4 _ _ g8, upd_same, ?_, fun u5 hu5 => ?_⟩
          · rw [List.length_append, List.length_map, List.length_map, List.length_drop]
            exact Nat.le_trans (show _ + 1 + _ ≤ 3000 by omega) (by decide)
          refine out _ u5 ((rcd d).set at_ ((y + 1 + v) % 256)) (S6.keep s9) (K6.trans (s9.kept p)) hu5 (by rw [List.length_set]; omega) (fun b hb => ?_) hb2 _ ?_
          · rcases List.mem_or_eq_of_mem_set hb with h | h
            · exact rb b h
            · rw [h]; exact hz1
          · rw [← set_shape hlt, List.map_append, List.map_append]
            exact congrArg (fun z => HO.lst (((rcd d).take at_).map vi ++ [V.int z] ++ ((rcd d).drop (at_ + 1)).map vi)) hz
    · rintro σ' H' ⟨rfl, rfl⟩
      refine ⟨_, rfl, ad, _, rfl, .inl (SqL.of d3), d.length, by rw [List.length_map]; rfl, by omega, fun sz H4 s4 hsz h4 => ?_⟩
      have hp := enc_pos d.length
      have r4 := s4 _ _ r3
      have S4 := S3.keep s4
      have K4 := K3.trans (s4.kept p)
      have hL : V.int ((((enc d.length).map vi).length : Int) - 1) = V.int (((enc d.length).length - 1 : Nat) : Int) := by
        rw [List.length_map]
        exact congrArg V.int (by omega)
      have hlt : (enc d.length).length - 1 < (enc d.length).length := by omega
      have hy : (enc d.length)[(enc d.length).length - 1]? = some (enc d.length)[(enc d.length).length - 1] := List.getElem?_eq_getElem hlt
      have hgd : (enc d.length).getD ((enc d.length).length - 1) 0 = (enc d.length)[(enc d.length).length - 1] := by rw [List.getD_eq_getElem?_getD, hy]; rfl
      have hbd := nextR_needless d.length ((rcd d).drop (enc d.length).length)
      unfold encBad at hbd
      rw [hgd] at hbd
      have hyb : (enc d.length)[(enc d.length).length - 1] < 128 := enc_last _ _ hy
      generalize (enc d.length)[(enc d.length).length - 1] = y at hy hyb hbd
      have hg : atI ((enc d.length).map vi) (((enc d.length).length - 1 : Nat) : Int) = some (vi y) := atI_nat (by rw [List.getElem?_map, hy]; rfl)
      refine ⟨_, rfl, _, rfl, sz, _, rfl, .inl (SqL.of h4), _, _, rfl, rfl, _, hL, sz, _, rfl, SqL.of h4, fun u1 hu1 => ?_⟩
      rw [cut_to, ← List.map_take]
      have s5 : Same H4 (upd H4 u1 (.lst (((enc d.length).take ((enc d.length).length - 1)).map vi))) := same_upd hu1
      have g5 : upd H4 u1 (.lst (((enc d.length).take ((enc d.length).length - 1)).map vi)) u1 = some (.lst (((enc d.length).take ((enc d.length).length - 1)).map vi)) := upd_same
      generalize upd H4 u1 (.lst (((enc d.length).take ((enc d.length).length - 1)).map vi)) = H5 at s5 g5
      refine ⟨_, rfl, _, rfl, sz, _, rfl, .inl (SqL.of (s5 _ _ h4)), _, _, rfl, rfl, sz, _, _, vi y, rfl, hL, SqL.of (s5 _ _ h4), hg, _, _, rfl, rfl, (by show 2 ≤ sizeLine; decide), fun u2 hu2 => ?_⟩
      have s6 := Same.tr s5 (same_upd (o := .lst [.int ((y : Int) + 128), .int 0]) hu2)
      have g6 : upd H5 u2 (.lst [.int ((y : Int) + 128), .int 0]) u2 = some (.lst [.int ((y : Int) + 128), .int 0]) := upd_same
      have l1 : ((enc d.length).take ((enc d.length).length - 1)).length ≤ 2 := by rw [List.length_take]; omega
      refine ⟨u1, u2, _, _, rfl, rfl, same_upd hu2 _ _ g5, g6, ?_, fun u3 hu3 => ?_⟩
      · rw [List.length_map]
        exact Nat.le_trans (show _ + 2 ≤ 2000 by omega) (by decide)
      have s7 := Same.tr s6 (same_upd (o := .lst (((enc d.length).take ((enc d.length).length - 1)).map vi ++ [.int ((y : Int) + 128), .int 0])) hu3)
      have g7 : upd (upd H5 u2 (.lst [.int ((y : Int) + 128), .int 0])) u3 (.lst (((enc d.length).take ((enc d.length).length - 1)).map vi ++ [.int ((y : Int) + 128), .int 0])) u3 = some (.lst (((enc d.length).take ((enc d.length).length - 1)).map vi ++ [.int ((y : Int) + 128), .int 0])) := upd_same
      refine ⟨_, rfl, _, rfl, sz, _, rfl, .inl (SqL.of (s7 _ _ h4)), ((enc d.length).length : Int), by rw [List.length_map], ar, _, rfl, SqL.of (s7 _ _ r4), fun u4 hu4 => ?_⟩
      rw [cut_from, ← List.map_drop]
      have s8 := Same.tr s7 (same_upd (o := .lst (((rcd d).drop (enc d.length).length).map vi)) hu4)
      refine ⟨u3, u4, _, _, rfl, rfl, same_upd hu4 _ _ g7, upd_same, ?_, fun u5 hu5 => ?_⟩
      · rw [List.length_append, List.length_map, List.length_map, List.length_drop]
        exact Nat.le_trans (show _ + 2 + _ ≤ 3000 by omega) (by decide)
      refine out _ u5 _ (S4.keep s8) (K4.trans (s8.kept p)) hu5 ?_ (fun b hb => ?_) hbd _ ?_
      · rw [List.length_append, List.length_append, List.length_drop]
        show _ + 2 + _ ≤ 1000
        omega
      · rcases List.mem_append.mp hb with h | h
        · rcases List.mem_append.mp h with h | h
          · exact enc_bytes _ b (List.mem_of_mem_take h)
          · simp at h
            omega
        · exact rb b (List.mem_of_mem_drop h)
      · rw [List.map_append, List.map_append]
        rfl
end
end Q43
namespace Q43
open PySem PySem.Spec PyProof.Rows L2 SX HL NM
theorem StN.nl {H : Hp} {p q r : Addr} {ds : List Int} {d : List Nat} (h : StN H p q ds) (e : H r = some (.lst (d.map vi))) : r ≠ p := by
  obtain ⟨_, _, i, _, h2⟩ := h
  rintro rfl
  rw [h2] at e
  have e2 := HO.lst.inj (Option.some.inj e)
  cases d with
  | nil => cases e2
  | cons x d => cases e2
theorem same_recs {K : PySem.W.Frag} {H : Hp} {l m : Addr} {us vs : List V} {ds : List (List Nat)} (h1 : H l = some (.lst us)) (h2 : H m = some (.lst vs)) (a1 : All2 (IsL l H) us ds) (a2 : All2 (IsL m H) vs ds) (hl : ds.length ≤ 100000) (hd : ∀ d ∈ ds, d.length ≤ 100000) : SameD K H 2 (.ref l) (.ref m) := by
  refine .seq (.lst h1) (.lst h2) (by rw [a1.len, a2.len]) (by rw [a2.len]; omega) fun i u v hu hv => ?_
  obtain ⟨d, hd1, r1, rfl, _, e1⟩ := a1.get hu
  obtain ⟨d', hd2, r2, rfl, _, e2⟩ := a2.get hv
  rw [hd1] at hd2
  cases hd2
  exact same_list e1 e2 (by have := hd d (List.mem_of_getElem? hd1); omega)
theorem same_pair {K : PySem.W.Frag} {H : Hp} {s t l m : Addr} {n : Nat} (h1 : H s = some (.tup [.ref l, vi n])) (h2 : H t = some (.tup [.ref m, vi n])) (h : SameD K H 2 (.ref l) (.ref m)) : SameD K H 3 (.ref s) (.ref t) := by
  refine .seq (.tup h1) (.tup h2) rfl (by show 2 ≤ 1000000; decide) fun i u v hu hv => ?_
  match i, hu, hv with
  | 0, hu, hv =>
    cases hu
    cases hv
    exact h
  | 1, hu, hv =>
    cases hu
    cases hv
    exact .leaf True.intro
  | i + 2, hu, _ => cases hu
theorem shaped_can {d : PyData} (h : SeqAt.shaped d = true) : d.canLay0 = true := by
  simp only [SeqAt.shaped, Bool.and_eq_true] at h
  exact h.1
/-- where the law stands: the state at p, the records at D -/
structure Wh (H : Hp) (p q D : Addr) (dr : List Int) (us : List V) (ds : List (List Nat)) : Prop where
  S : StN H p q dr
  n : D ≠ p
  nq : D ≠ q
  hD : H D = some (.lst us)
  hR : All2 (IsL D H) us ds
theorem Wh.same {H H' : Hp} {p q D : Addr} {dr : List Int} {us : List V} {ds : List (List Nat)} (W : Wh H p q D dr us ds) (s : Same H H') : Wh H' p q D dr us ds :=
  ⟨W.S.keep s, W.n, W.nq, s _ _ W.hD, W.hR.mono fun v d h => by obtain ⟨r, e, n, hr⟩ := h; exact ⟨r, e, n, s _ _ hr⟩⟩
theorem Wh.next {H H' : Hp} {p q D : Addr} {dr : List Int} {us : List V} {ds : List (List Nat)} (W : Wh H p q D dr us ds) (s : StN H' p q dr) (k : Kept H H' p) : Wh H' p q D dr us ds :=
  ⟨s, W.n, W.nq, k _ _ W.n W.hD, W.hR.mono fun v d h => by obtain ⟨r, e, n, hr⟩ := h; exact ⟨r, e, n, k _ _ (W.S.nl hr) hr⟩⟩
section
variable {P : Program} {w : World} {K : PySem.W.Frag} {mg : Str → Option Value} {base : Heap}
def spLaw (K : PySem.W.Frag) : Sp := fun vs H Q _ => ∃ (a : Addr) (ns : List Int), vs = [.ref a] ∧ SqL K H a (ns.map V.int) ∧ ns.length ≤ 63 ∧ ∀ H', Q (.bl true) H'
theorem cat_len : ∀ ds : List (List Nat), (∀ d ∈ ds, d.length ≤ 300) → (cat ds).length ≤ 310 * ds.length
  | [], _ => Nat.zero_le _
  | d :: ds, h => by
    have h1 := h d (List.mem_cons_self ..)
    have h2 := cat_len ds fun y hy => h y (List.mem_cons_of_mem _ hy)
    have h3 : (enc d.length).length ≤ 2 := enc_len (k := 1) _ (by show d.length < 16384; omega)
    rw [cat_cons, List.length_append, rcd_len, List.length_cons]
    omega
theorem cat_bytes {ds : List (List Nat)} (h : ∀ d ∈ ds, ∀ b ∈ d, b < 256) : ∀ b ∈ cat ds, b < 256 := by
  intro b hb
  obtain ⟨l, hl, hbl⟩ := List.mem_flatten.mp hb
  obtain ⟨d, hd, rfl⟩ := List.mem_map.mp hl
  exact rcd_bytes (h d hd) b hbl
theorem ok_law (Z : Defs K mg) : FnOk P w K mg base CX0 6 Z.fLaw Z.fdLaw ["script"] (spLaw K) := by
  have GLawDraws : FnOk P w K mg base CX0 2 Z.fLawDraws Z.fdLawDraws ["script"] (spDraws K) := ok_draws (k := 0) Z
  have GLawNext : FnOk P w K mg base CX0 3 Z.fLawNext Z.fdLawNext ["state", "limit"] spNext := ok_next (k := 0) Z
  have GLawSame : FnOk P w K mg base CX0 5 Z.fLawSame Z.fdLawSame ["actual", "expected"] (spSameG K 3) := ok_same Z 3
  have GLawBytes : FnOk P w K mg base CX0 4 Z.fLawBytes Z.fdLawBytes ["state"] spLBytes := ok_lbytes (k := 0) Z
  have GLawBehind : FnOk P w K mg base CX0 5 Z.fLawBehind Z.fdLawBehind ["state"] spBehind := ok_behind (k := 0) Z
  have GLawRecord : FnOk P w K mg base CX0 2 Z.fLawRecord Z.fdLawRecord ["data"] (spList rcd) := ok_lawRecord (k := 0) Z
  have GLawChecksum : FnOk P w K mg base CX0 1 Z.fLawChecksum Z.fdLawChecksum ["data"] spSum := ok_lawChecksum (k := 0) Z
  have GChecksum : FnOk P w K mg base CX0 1 Z.fChecksum Z.fdChecksum ["data"] spSum := ok_checksum (k := 0) Z
  have GWriteRecord : FnOk P w K mg base CX0 3 Z.fWriteRecord Z.fdWriteRecord ["data"] (spList rcd) := ok_writeRecord (k := 0) Z
  have GReadRecords : FnOk P w K mg base CX0 4 Z.fReadRecords Z.fdReadRecords ["data"] spReadRecs := ok_readRecords (k := 0) Z
  refine Z.DLaw.F.ok scLaw (fun vs H Q E h => ?_) (fun cdv A outer s H vs Q E hr h => ?_)
  · obtain ⟨a, ns, rfl, _⟩ := h
    rfl
  · obtain ⟨a, ns, rfl, hS, hn, qq⟩ := h
    refine ⟨_, (pss_cons (ps_set (i := 1) scLaw.nd rfl (.inr rfl) (pe_lst (pa_cons (pe_call GLawDraws (hr.mono (by omega)) (by rfl) Z.DLawDraws.g Z.DLawDraws.F.kp Z.DLawDraws.b .nil pass0 (pa_cons (pv 0) pa_nil)) (pa_cons pe_int pa_nil))))
        (pss_cons (ps_setLc (i := 2) (own := [("k", 8)]) (g := (gName 8)) (by rfl) scLaw.nd rfl rfl (sw_true rfl rfl rfl (by decide +kernel)) (pi_range1 (by rfl) Z.range (pa_cons (pe_call GLawNext (hr.mono (by omega)) (by rfl) Z.DLawNext.g Z.DLawNext.F.kp Z.DLawNext.b .nil pass0 (pa_cons (pv 1) (pa_cons pe_int pa_nil))) pa_nil)) (blkOk_by (own := [("k", 8)]) (N := ["script", "state", "records", "data", "sizes", "record", "passed", "whole", "k", "end", "count", "size"]) (sc := defScope sLaw) (by decide +kernel)) (fun _ _ _ _ _ => (pg_name (i := 8) scLaw.nd rfl (Or.inl rfl))) (fun _ _ _ _ _ => pts_nil) (fun _ _ _ _ _ => (pe_call GLawBytes (hr.mono (by omega)) (by rfl) Z.DLawBytes.g Z.DLawBytes.F.kp Z.DLawBytes.b .nil pass0 (pa_cons (pv 1) pa_nil))))
        (pss_cons (ps_set (i := 3) scLaw.nd rfl (.inl rfl) (pe_lst pa_nil))
        (pss_cons (ps_set (i := 4) scLaw.nd rfl (.inl rfl) (pe_lst (pa_cons pe_int pa_nil)))
        (pss_cons (ps_for PassesOwn.never rfl (pi_list (pv 2)) (pg_name (i := 5) scLaw.nd rfl (.inl rfl)) (pss_cons (ps_set (i := 6) scLaw.nd rfl (.inl rfl) (pe_callTy call_list_of (by rfl) Z.list HL.boot_list (pa_cons (pv 5) pa_nil)))
        (pss_cons (ps_if (PW.pt (pw_or (pt_not (pt_val (pe_call GLawSame (hr.mono (by omega)) (by rfl) Z.DLawSame.g Z.DLawSame.F.kp Z.DLawSame.b .nil pass0 (pa_cons (pe_call GChecksum (hr.mono (by omega)) (by rfl) Z.DChecksum.g Z.DChecksum.F.kp Z.DChecksum.b .nil pass0 (pa_cons (pv 6) pa_nil)) (pa_cons (pe_call GLawChecksum (hr.mono (by omega)) (by rfl) Z.DLawChecksum.g Z.DLawChecksum.F.kp Z.DLawChecksum.b .nil pass0 (pa_cons (pv 5) pa_nil)) pa_nil))))) (pw_or1 (pt_not (pt_val (pe_call GLawSame (hr.mono (by omega)) (by rfl) Z.DLawSame.g Z.DLawSame.F.kp Z.DLawSame.b .nil pass0 (pa_cons (pe_call GWriteRecord (hr.mono (by omega)) (by rfl) Z.DWriteRecord.g Z.DWriteRecord.F.kp Z.DWriteRecord.b .nil pass0 (pa_cons (pv 6) pa_nil)) (pa_cons (pe_call GLawRecord (hr.mono (by omega)) (by rfl) Z.DLawRecord.g Z.DLawRecord.F.kp Z.DLawRecord.b .nil pass0 (pa_cons (pv 5) pa_nil)) pa_nil)))))))) (pss_one (ps_ret pe_bl)) pss_nil)
        (pss_cons (ps_if (pt_cmpR (op_neD hr.units) (pv 6) (pv 5) (nomark _)) (pss_one (ps_ret pe_bl)) pss_nil)
        (pss_cons (ps_set (i := 3) scLaw.nd rfl (.inl rfl) (pe_op op_cat (pv 3) (pe_call GLawRecord (hr.mono (by omega)) (by rfl) Z.DLawRecord.g Z.DLawRecord.F.kp Z.DLawRecord.b .nil pass0 (pa_cons (pv 5) pa_nil))))
        (pss_one (ps_expr (pe_bm PySem.F.plainAttrs_list PySem.F.slot_list_append PySem.F.type_list_append mt_append (pv 4) (pa_cons (pe_callB call_len_seq (by rfl) Z.len PySem.boot_len (pa_cons (pv 3) pa_nil)) pa_nil)))))))))
        (pss_cons (ps_set (i := 7) scLaw.nd rfl (.inl rfl) (pe_op op_cat (pv 3) (pe_call GLawBehind (hr.mono (by omega)) (by rfl) Z.DLawBehind.g Z.DLawBehind.F.kp Z.DLawBehind.b .nil pass0 (pa_cons (pv 1) pa_nil))))
        (pss_cons (ps_if (pt_not (pt_val (pe_call GLawSame (hr.mono (by omega)) (by rfl) Z.DLawSame.g Z.DLawSame.F.kp Z.DLawSame.b .nil pass0 (pa_cons (pe_call GReadRecords (hr.mono (by omega)) (by rfl) Z.DReadRecords.g Z.DReadRecords.F.kp Z.DReadRecords.b .nil pass0 (pa_cons (pe_callTy call_list_of (by rfl) Z.list HL.boot_list (pa_cons (pv 7) pa_nil)) pa_nil)) (pa_cons (pe_tup (pa_cons (pv 2) (pa_cons (pe_callB call_len_seq (by rfl) Z.len PySem.boot_len (pa_cons (pv 3) pa_nil)) pa_nil))) pa_nil))))) (pss_one (ps_ret pe_bl)) pss_nil)
        (pss_cons (ps_for PassesOwn.never rfl (pi_range1 (by rfl) Z.range (pa_cons pe_int pa_nil)) (pg_name (i := 8) scLaw.nd rfl (.inl rfl)) (pss_cons (ps_set (i := 9) scLaw.nd rfl (.inr rfl) (pe_call GLawNext (hr.mono (by omega)) (by rfl) Z.DLawNext.g Z.DLawNext.F.kp Z.DLawNext.b .nil pass0 (pa_cons (pv 1) (pa_cons (pe_op op_add (pe_callB call_len_seq (by rfl) Z.len PySem.boot_len (pa_cons (pv 3) pa_nil)) pe_int) pa_nil))))
        (pss_cons (ps_set (i := 10) scLaw.nd rfl (.inl rfl) (pe_op op_sub (pe_callB call_len_seq (by rfl) Z.len PySem.boot_len (pa_cons (pe_lc (own := [("size", 11)]) (g := (gName 11)) (by rfl) scLaw.nd (pi_list (pv 4)) (blkOk_by (own := [("size", 11)]) (N := ["script", "state", "records", "data", "sizes", "record", "passed", "whole", "k", "end", "count", "size"]) (sc := defScope sLaw) (by decide +kernel)) (fun _ _ _ _ _ => (pg_name (i := 11) scLaw.nd rfl (Or.inl rfl))) (fun _ _ _ _ _ => (pts_one (pt_cmpR op_le (pv 11) (pv 9) (nomark _)))) (fun _ _ _ _ _ => (pv 11))) pa_nil)) pe_int))
        (pss_cons (ps_set (i := 6) scLaw.nd rfl (.inl rfl) (pe_slice sl_list (pv 3) po_none (po_some (pv 9))))
        (pss_one (ps_if (PW.pt (pw_or (pt_not (pt_val (pe_call GLawSame (hr.mono (by omega)) (by rfl) Z.DLawSame.g Z.DLawSame.F.kp Z.DLawSame.b .nil pass0 (pa_cons (pe_call GReadRecords (hr.mono (by omega)) (by rfl) Z.DReadRecords.g Z.DReadRecords.F.kp Z.DReadRecords.b .nil pass0 (pa_cons (pv 6) pa_nil)) (pa_cons (pe_tup (pa_cons (pe_slice sl_list (pv 2) po_none (po_some (pv 10))) (pa_cons (pe_ix ix_list (pv 4) (pv 10) (fun _ _ => rfl)) pa_nil))) pa_nil))))) (pw_or1 (pt_cmpR (op_neD hr.units) (pv 6) (pe_slice sl_list (pv 3) po_none (po_some (pv 9))) (nomark _))))) (pss_one (ps_ret pe_bl)) pss_nil))))))
        (pss_one (ps_ret (pe_and (pe_call GLawSame (hr.mono (by omega)) (by rfl) Z.DLawSame.g Z.DLawSame.F.kp Z.DLawSame.b .nil pass0 (pa_cons (pe_call GReadRecords (hr.mono (by omega)) (by rfl) Z.DReadRecords.g Z.DReadRecords.F.kp Z.DReadRecords.b .nil pass0 (pa_cons (pe_lst pa_nil) pa_nil)) (pa_cons (pe_tup (pa_cons (pe_lst pa_nil) (pa_cons pe_int pa_nil))) pa_nil))) (pe_one (pe_call GLawSame (hr.mono (by omega)) (by rfl) Z.DLawSame.g Z.DLawSame.F.kp Z.DLawSame.b .nil pass0 (pa_cons (pe_call GWriteRecord (hr.mono (by omega)) (by rfl) Z.DWriteRecord.g Z.DWriteRecord.F.kp Z.DWriteRecord.b .nil pass0 (pa_cons (pe_lst pa_nil) pa_nil)) (pa_cons (pe_lst (pa_cons pe_int (pa_cons pe_int (pa_cons pe_int (pa_cons pe_int (pa_cons pe_int pa_nil)))))) pa_nil))))))))))))))), ?_⟩
    refine ⟨_, rfl, a, ns, rfl, hS, hn, fun q H1 dr hq s1 hqq hdl hdr => ⟨(by show 2 ≤ sizeLine; decide), fun p hp => ?_⟩⟩
    have s2 : Same H1 (upd H1 p (.lst [.ref q, .int 20])) := same_upd hp
    have S2 : StN (upd H1 p (.lst [.ref q, .int 20])) p q dr := ⟨s2 _ _ hqq, hdr, 20, by decide, upd_same⟩
    generalize upd H1 p (.lst [.ref q, .int 20]) = H2 at S2
    clear s2 hp hqq s1
    refine ⟨_, rfl, p, q, dr, 8, rfl, S2, by decide, fun H3 m S3 B3 m0 m1 => ?_⟩
    obtain ⟨m, rfl⟩ : ∃ n : Nat, m = (n : Int) := ⟨m.toNat, by omega⟩
    refine ⟨_, rfl, by omega, by omega, fun D hD => ?_⟩
    have nDp := S3.no hD
    have nDq : D ≠ q := by
      obtain ⟨e, _⟩ := S3
      exact (ne_of_none e hD).symm
    refine lc_range (lo := 0) (n := (m : Int).toNat) (fun i H' => ∃ us ds, Wh H' p q D dr us ds ∧ ds.length = i ∧ ∀ d ∈ ds, d.length ≤ 300 ∧ ∀ b ∈ d, b < 256) ⟨[], [], ⟨S3.keep (same_upd hD), nDp, nDq, upd_same, .nil⟩, rfl, fun _ h => (by cases h)⟩ ?_ ?_
    · rintro i H4 hi ⟨us, ds, W, hdl, hds⟩
      refine ⟨rfl, lc_yes ⟨_, rfl, p, q, dr, rfl, W.S, fun H5 r d S5 K5 hr0 hrd hd1 hd2 => ?_⟩⟩
      have W5 := W.next S5 K5
      have nrD : r ≠ D := fun e => by rw [e, W.hD] at hr0; cases hr0
      have up : ∀ z o, z ≠ D → H5 z = some o → upd H5 D (.lst (us ++ [.ref r])) z = some o := fun z o n h => by rw [upd_ne n]; exact h
      obtain ⟨q1, q3, i0, q0, q2⟩ := id S5
      refine ⟨us, W5.hD, ?_, us ++ [.ref r], ds ++ [d], ⟨⟨up _ _ nDq.symm q1, q3, i0, q0, up _ _ nDp.symm q2⟩, nDp, nDq, upd_same, ?_⟩, by rw [List.length_append, hdl]; rfl, fun x hx => ?_⟩
      · rw [W.hR.len]
        exact Nat.lt_of_le_of_lt (show ds.length ≤ 1000 by omega) (by decide)
      · exact (W5.hR.mono fun v x h => by obtain ⟨r', e, n, hr'⟩ := h; exact ⟨r', e, n, up _ _ n hr'⟩).snoc ⟨r, rfl, nrD, up _ _ nrD hrd⟩
      · rcases List.mem_append.mp hx with h | h
        · exact hds x h
        · rw [List.mem_singleton.mp h]
          exact ⟨hd1, hd2⟩
    · rintro H4 ⟨us, ds, W, hdl, hds⟩
      clear nDp nDq
      have hml : ds.length ≤ 7 := by omega
      have hd1 : ∀ d ∈ ds, d.length < 1000000 := fun d h => by have := (hds d h).1; omega
      have hcl : (cat ds).length ≤ 2170 := by
        have := cat_len ds fun d h => (hds d h).1
        omega
      have hcb := cat_bytes fun d h => (hds d h).2
      refine ⟨Nat.zero_le _, fun dA hdA => ?_⟩
      have W5 := W.same (same_upd (o := .lst []) hdA)
      have g5 : upd H4 dA (.lst []) dA = some (.lst []) := upd_same
      generalize upd H4 dA (.lst []) = H5 at W5 g5
      refine ⟨(by show 1 ≤ sizeLine; decide), fun sA hsA => ?_⟩
      have s6 : Same H5 (upd H5 sA (.lst [.int 0])) := same_upd hsA
      have W6 := W5.same s6
      have nsD : sA ≠ D := fun e => by rw [e, W5.hD] at hsA; cases hsA
      have nsp := W5.S.no hsA
      have nsq : sA ≠ q := by
        obtain ⟨e, _⟩ := W5.S
        exact (ne_of_none e hsA).symm
      have nsu : ∀ v ∈ us, v ≠ .ref sA := fun v hv e => by
        obtain ⟨i, hi, hv⟩ := List.mem_iff_getElem.mp hv
        obtain ⟨d, _, r, e2, _, hr⟩ := W5.hR.get (List.getElem?_eq_some_iff.mpr ⟨hi, hv⟩)
        rw [e] at e2
        cases e2
        rw [hr] at hsA
        cases hsA
      have nds : dA ≠ sA := ne_of_none g5 hsA
      refine ⟨_, rfl, D, rfl, ⟨_, SqL.of W6.hD⟩, ?_⟩
      refine for_list (K := K) (a := D) (xs := us) (fun i σ H' => ∃ (dA : Addr) (y5 y6 : Option V), σ = [some (.ref a), some (.ref p), some (.ref D), some (.ref dA), some (.ref sA), y5, y6, none, none, none, none, none] ∧ Wh H' p q D dr us ds ∧ dA ≠ sA ∧ H' dA = some (.lst ((cat (ds.take i)).map vi)) ∧ H' sA = some (.lst ((cums 0 (ds.take i)).map vi)))
        ⟨dA, none, none, rfl, W6, nds, s6 _ _ g5, upd_same⟩ (fun i σ H' _ ⟨_, _, _, _, W, _⟩ => SqL.of W.hD) ?_ ?_
      · clear nds g5 hdA s6 W6 W5 W
        rintro i x σ H7 hi ⟨dA, y5, y6, rfl, W, nds, hdA, hsA⟩
        obtain ⟨d, hd, r, rfl, nrD, hr⟩ := W.hR.get hi
        have hdm := List.mem_of_getElem? hd
        obtain ⟨hd300, hdb⟩ := hds d hdm
        have nrs : r ≠ sA := fun e => nsu _ (List.mem_of_getElem? hi) (by rw [e])
        have htk := take_snoc hd
        have hil : i < ds.length := (List.getElem?_eq_some_iff.mp hd).1
        -- passed = list(record)
        refine ⟨_, rfl, r, _, rfl, .inl (SqL.of hr), fun pa hpa => ?_⟩
        have s8 : Same H7 (upd H7 pa (.lst (d.map vi))) := same_upd hpa
        have g8 : upd H7 pa (.lst (d.map vi)) pa = some (.lst (d.map vi)) := upd_same
        have W8 := W.same s8
        have d8 := s8 _ _ hdA
        have a8 := s8 _ _ hsA
        have r8 := s8 _ _ hr
        generalize upd H7 pa (.lst (d.map vi)) = H8 at g8 W8 d8 a8 r8
        refine ⟨_, rfl, pa, d, rfl, g8, _, rfl, r, d, rfl, r8, _, _, rfl, .leaf True.intro, fun H9 s9 => ⟨true, rfl, iteF ?_⟩⟩
        refine ⟨_, rfl, pa, d, rfl, s9 _ _ g8, by omega, fun w1 H10 s10 hw1 e1 => ?_⟩
        refine ⟨_, rfl, r, d, rfl, s10 _ _ (s9 _ _ r8), by omega, fun w2 H11 s11 hw2 e2 => ?_⟩
        have hrl : (rcd d).length ≤ 310 := by
          have := cat_len [d] (fun y hy => by rw [List.mem_singleton.mp hy]; exact hd300)
          simpa [cat] using this
        refine ⟨_, _, rfl, same_list (n := 2) (s11 _ _ e1) e2 (by omega), fun H12 s12 => ⟨true, rfl, iteF ?_⟩⟩
        have s812 := Same.tr (Same.tr (Same.tr s9 s10) s11) s12
        refine ⟨_, rfl, _, rfl, _, _, dp_list (s812 _ _ g8), dp_list (s812 _ _ r8), shaped_ints _, shaped_ints _, false, ?_, iteF ?_⟩
        · rw [SeqAt.eqv_refl _ (shaped_can (shaped_ints d))]
          rfl
        have W12 := W8.same s812
        have d12 := s812 _ _ d8
        have a12 := s812 _ _ a8
        have r12 := s812 _ _ r8
        clear s812 s12 s11 s10 s9 e1 e2 W8 d8 a8 r8 g8 hpa
        refine ⟨_, rfl, _, rfl, r, d, rfl, r12, by omega, fun w1 H13 s13 hw1 e1 => ?_⟩
        have hct : (cat (ds.take i)).length ≤ 2170 := by
          have := cat_len (ds.take i) fun d h => (hds d (List.mem_of_mem_take h)).1
          rw [List.length_take] at this
          omega
        refine ⟨dA, w1, _, _, rfl, rfl, s13 _ _ d12, e1, ?_, fun d2 hd2 => ?_⟩
        · rw [List.length_map, List.length_map]
          exact Nat.le_trans (show _ ≤ 5000 by omega) (by decide)
        have s14 := Same.tr s13 (same_upd (o := .lst ((cat (ds.take i)).map vi ++ (rcd d).map vi)) hd2)
        have g14 : upd H13 d2 (.lst ((cat (ds.take i)).map vi ++ (rcd d).map vi)) d2 = some (.lst ((cat (ds.take (i + 1))).map vi)) := by
          rw [upd_same, htk, cat_app, List.map_append]
          have : cat [d] = rcd d := by simp [cat]
          rw [this]
        have nd2 : d2 ≠ sA := fun e => by rw [e, s13 _ _ a12] at hd2; cases hd2
        generalize upd H13 d2 (.lst ((cat (ds.take i)).map vi ++ (rcd d).map vi)) = H14 at s14 g14
        have W14 := W12.same s14
        have a14 := s14 _ _ a12
        refine ⟨_, rfl, .inl ⟨rfl, _, SqL.of a14⟩, _, rfl, d2, _, rfl, .inl (SqL.of g14), sA, _, _, rfl, rfl, a14, ?_, ?_⟩
        · rw [List.length_map, cums_len, List.length_take]
          exact Nat.lt_of_le_of_lt (show _ ≤ 100 by omega) (by decide)
        have up : ∀ z o x, z ≠ sA → H14 z = some o → upd H14 sA x z = some o := fun z o x n h => by rw [upd_ne n]; exact h
        obtain ⟨q1, q3, i0, q0, q2⟩ := W14.S
        refine ⟨d2, _, _, rfl, ⟨⟨up _ _ _ nsq.symm q1, q3, i0, q0, up _ _ _ nsp.symm q2⟩, W14.n, W14.nq, up _ _ _ nsD.symm W14.hD, ?_⟩, nd2, up _ _ _ nd2 g14, ?_⟩
        · refine All2.of_at W14.hR.len fun j v x hv hx => ?_
          obtain ⟨x', hx', r', e, n, hr'⟩ := W14.hR.get hv
          rw [hx] at hx'
          cases hx'
          exact ⟨r', e, n, up _ _ _ (fun z => nsu _ (List.mem_of_getElem? hv) (by rw [e, z])) hr'⟩
        · rw [upd_same, List.length_map, htk, cums_snoc, List.map_append, Nat.zero_add]
          rfl
      · clear nds g5 hdA s6 W6 W5 W hsA
        rintro σ H7 ⟨dA, y5, y6, rfl, W, nds, hdA, hsA⟩
        rw [W.hR.len, List.take_of_length_le (Nat.le_refl _)] at hdA hsA
        have ndp : dA ≠ p := W.S.nl hdA
        have hlt : (cat ds).length ≤ 100000 := by omega
        -- whole = data + _law_behind(state)
        refine ⟨_, rfl, _, rfl, p, q, dr, rfl, W.S, fun H8 xb x S8 K8 hx0 hx hxl hxb hxn => ⟨dA, xb, _, _, rfl, rfl, K8 _ _ ndp hdA, hx, ?_, fun wh hwh => ?_⟩⟩
        · rw [List.length_map, List.length_map]
          exact Nat.le_trans (show _ ≤ 5000 by omega) (by decide)
        have W8 := W.next S8 K8
        have d8 := K8 _ _ ndp hdA
        have a8 := K8 _ _ nsp hsA
        clear hdA hsA W K8 S8 hx0
        have s9 : Same H8 (upd H8 wh (.lst ((cat ds).map vi ++ x.map vi))) := same_upd hwh
        have g9 : upd H8 wh (.lst ((cat ds).map vi ++ x.map vi)) wh = some (.lst ((cat ds ++ x).map vi)) := by rw [upd_same, List.map_append]
        have W9 := W8.same s9
        have d9 := s9 _ _ d8
        have a9 := s9 _ _ a8
        generalize upd H8 wh (.lst ((cat ds).map vi ++ x.map vi)) = H9 at g9 W9 d9 a9
        clear W8 d8 a8 hx hwh s9
        refine ⟨_, rfl, wh, _, rfl, .inl (SqL.of g9), fun lw hlw => ?_⟩
        have s10 : Same H9 (upd H9 lw (.lst ((cat ds ++ x).map vi))) := same_upd hlw
        refine ⟨lw, cat ds ++ x, ds, rfl, upd_same, by rw [List.length_append]; omega, fun b hb => ?_, reads_cat hd1 hxn, fun t l us1 H11 s11 ht hl hR => ?_⟩
        · rcases List.mem_append.mp hb with h | h
          · exact hcb b h
          · exact hxb b h
        have s911 := Same.tr s10 s11
        refine ⟨_, rfl, _, rfl, dA, _, rfl, .inl (SqL.of (s911 _ _ d9)), (by show 2 ≤ sizeLine; decide), fun t2 ht2 => ?_⟩
        have s12 : Same H11 (upd H11 t2 (.tup [.ref D, .int (((cat ds).map vi).length : Int)])) := same_upd ht2
        have W12 := W9.same (Same.tr s911 s12)
        refine ⟨_, _, rfl, same_pair (m := D) (n := total ds) (s12 _ _ ht) ?_ (same_recs (s12 _ _ hl) W12.hD (hR.mono fun v d h => by obtain ⟨r, e, n, hr⟩ := h; exact ⟨r, e, n, s12 _ _ hr⟩) W12.hR (by omega) (fun d h => by have := (hds d h).1; omega)), fun H13 s13 => ⟨true, rfl, iteF ?_⟩⟩
        · rw [upd_same, List.length_map]
          rfl
        have s913 := Same.tr (Same.tr s911 s12) s13
        have W13 := W9.same s913
        have d13 := s913 _ _ d9
        have a13 := s913 _ _ a9
        clear W12 s913 s12 s13 s911 s10 s11 ht hl hR W9 d9 a9 g9 hlw ht2
        refine ⟨4, rfl, by decide, by decide, ?_⟩
        refine for_range (lo := 0) (n := 4) (fun i σ H' => ∃ (y5 y6 y7 y8 y9 y10 y11 : Option V), σ = [some (.ref a), some (.ref p), some (.ref D), some (.ref dA), some (.ref sA), y5, y6, y7, y8, y9, y10, y11] ∧ Wh H' p q D dr us ds ∧ H' dA = some (.lst ((cat ds).map vi)) ∧ H' sA = some (.lst ((cums 0 ds).map vi)))
          ⟨_, _, _, _, _, _, _, rfl, W13, d13, a13⟩ ?_ ?_
        · clear W13 d13 a13
          rintro i σ H14 hi ⟨y5, y6, y7, y8, y9, y10, y11, rfl, W, hdA, hsA⟩
          refine ⟨_, rfl, _, rfl, dA, _, rfl, .inl (SqL.of hdA), _, _, rfl, rfl, p, q, dr, _, rfl, W.S, by omega, fun H15 e S15 B15 e0 e1 => ?_⟩
          rw [List.length_map] at e1
          obtain ⟨e, rfl⟩ : ∃ n : Nat, e = (n : Int) := ⟨e.toNat, by omega⟩
          have W15 := W.next S15 B15.kept
          have d15 : H15 dA = some (.lst ((cat ds).map vi)) := by rw [B15 dA ndp]; exact hdA
          have a15 : H15 sA = some (.lst ((cums 0 ds).map vi)) := by rw [B15 sA nsp]; exact hsA
          clear hdA hsA W B15 S15
          -- the sizes up to the end
          refine ⟨_, rfl, sA, rfl, ⟨_, SqL.of a15⟩, fun D2 hD2 => ?_⟩
          refine lc_list (K := K) (xs := (cums 0 ds).map vi) (fun i H' => Same H15 H' ∧ H' D2 = some (.lst ((((cums 0 ds).take i).filter fun z => decide (z ≤ e)).map vi))) ⟨same_upd hD2, upd_same⟩ (fun i H' _ h => SqL.of (h.1 _ _ a15)) ?_ ?_
          · rintro i v H16 hv ⟨s16, h16⟩
            obtain ⟨z, hz, rfl⟩ := get_vi hv
            refine ⟨rfl, _, rfl, _, rfl, _, _, rfl, rfl, _, rfl, ?_⟩
            rw [take_snoc hz, List.filter_append]
            by_cases c : z ≤ e
            · rw [decide_eq_true (show (z : Int) ≤ (e : Int) by omega)]
              refine iteT ⟨_, rfl, _, h16, ?_, fun b o hb => by rw [upd_ne (ne_of_none hb hD2)]; exact s16 _ _ hb, ?_⟩
              · have : (((cums 0 ds).take i).filter fun z => decide (z ≤ e)).length ≤ ((cums 0 ds).take i).length := List.length_filter_le ..
                rw [List.length_take, cums_len] at this
                rw [List.length_map]
                exact Nat.lt_of_le_of_lt (show _ ≤ 100 by omega) (by decide)
              · rw [upd_same, List.map_append]
                have : ([z].filter fun z => decide (z ≤ e)) = [z] := by simp [c]
                rw [this]
                rfl
            · rw [decide_eq_false (show ¬ (z : Int) ≤ (e : Int) by omega)]
              refine iteF ⟨s16, ?_⟩
              have : ([z].filter fun z => decide (z ≤ e)) = [] := by simp [c]
              rw [this, List.append_nil]
              exact h16
          · rintro H16 ⟨s16, h16⟩
            rw [List.length_map, List.take_of_length_le (Nat.le_refl _)] at h16
            have hk := cums_count ds 0 e
            rw [Nat.zero_add] at hk
            have hkl := kk_le ds e
            have hK : V.int (((((cums 0 ds).filter fun z => decide (z ≤ e)).map vi).length : Int) - 1) = V.int ((kk e ds : Nat) : Int) := by
              rw [List.length_map, hk]
              exact congrArg V.int (by omega)
            refine ⟨D2, _, rfl, .inl (SqL.of h16), _, _, rfl, rfl, ?_⟩
            -- passed = data[:end]
            refine ⟨_, rfl, _, rfl, (e : Int), rfl, dA, _, rfl, SqL.of (s16 _ _ d15), fun pa hpa => ?_⟩
            rw [cut_to, ← List.map_take]
            have s17 : Same H16 (upd H16 pa (.lst (((cat ds).take e).map vi))) := same_upd hpa
            have g17 : upd H16 pa (.lst (((cat ds).take e).map vi)) pa = some (.lst (((cat ds).take e).map vi)) := upd_same
            generalize upd H16 pa (.lst (((cat ds).take e).map vi)) = H17 at s17 g17
            have s1517 := Same.tr s16 s17
            have hel : ((cat ds).take e).length ≤ 2170 := by rw [List.length_take]; omega
            refine ⟨_, rfl, pa, (cat ds).take e, ds.take (kk e ds), rfl, g17, by omega, fun b hb => hcb b (List.mem_of_mem_take hb), reads_cut ds e hd1, fun t l us1 H18 s18 ht hl hR => ?_⟩
            have s1518 := Same.tr s1517 s18
            have W18 := W15.same s1518
            refine ⟨_, rfl, _, rfl, ((kk e ds : Nat) : Int), hK, D, _, rfl, SqL.of W18.hD, fun rl hrl => ?_⟩
            rw [cut_to]
            have s19 : Same H18 (upd H18 rl (.lst (us.take (kk e ds)))) := same_upd hrl
            have g19 : upd H18 rl (.lst (us.take (kk e ds))) rl = some (.lst (us.take (kk e ds))) := upd_same
            have nrl : ∀ v ∈ us, v ≠ .ref rl := fun v hv e2 => by
              obtain ⟨j, hj, hv⟩ := List.mem_iff_getElem.mp hv
              obtain ⟨d, _, r, e3, _, hr⟩ := W18.hR.get (List.getElem?_eq_some_iff.mpr ⟨hj, hv⟩)
              rw [e2] at e3
              cases e3
              rw [hr] at hrl
              cases hrl
            generalize upd H18 rl (.lst (us.take (kk e ds))) = H19 at s19 g19
            have s1519 := Same.tr s1518 s19
            have hsz : atI ((cums 0 ds).map vi) ((kk e ds : Nat) : Int) = some (vi (total (ds.take (kk e ds)))) := atI_nat (by rw [List.getElem?_map, cums_get ds 0 _ hkl, Nat.zero_add]; rfl)
            refine ⟨_, rfl, _, rfl, sA, _, _, _, rfl, hK, SqL.of (s1519 _ _ a15), hsz, (by show 2 ≤ sizeLine; decide), fun t2 ht2 => ?_⟩
            have s20 : Same H19 (upd H19 t2 (.tup [.ref rl, vi (total (ds.take (kk e ds)))])) := same_upd ht2
            have g20 : upd H19 t2 (.tup [.ref rl, vi (total (ds.take (kk e ds)))]) t2 = some (.tup [.ref rl, vi (total (ds.take (kk e ds)))]) := upd_same
            generalize upd H19 t2 (.tup [.ref rl, vi (total (ds.take (kk e ds)))]) = H20 at s20 g20
            have s1520 := Same.tr s1519 s20
            have W20 := W15.same s1520
            have s1820 := Same.tr s19 s20
            refine ⟨_, _, rfl, same_pair (s1820 _ _ ht) g20 (same_recs (us := us1) (vs := us.take (kk e ds)) (s1820 _ _ hl) (s20 _ _ g19) (hR.mono fun v d h => by obtain ⟨r, e, n, hr⟩ := h; exact ⟨r, e, n, s1820 _ _ hr⟩) ?_ (by rw [List.length_take]; omega) (fun d h => by have := (hds d (List.mem_of_mem_take h)).1; omega)), fun H21 s21 => ⟨true, rfl, iteF ?_⟩⟩
            · refine All2.of_at ?_ fun j v d hv hd => ?_
              · rw [List.length_take, List.length_take, W20.hR.len]
              · have hv2 : us[j]? = some v := by
                  rw [List.getElem?_take] at hv
                  split at hv
                  · exact hv
                  · cases hv
                have hd2 : ds[j]? = some d := by
                  rw [List.getElem?_take] at hd
                  split at hd
                  · exact hd
                  · cases hd
                obtain ⟨d', hd', r, e4, _, hr⟩ := W20.hR.get hv2
                rw [hd2] at hd'
                cases hd'
                exact ⟨r, e4, fun z => nrl v (List.mem_of_getElem? hv2) (by rw [e4, z]), hr⟩
            have s1521 := Same.tr s1520 s21
            have s1721 := Same.tr (Same.tr s18 s1820) s21
            refine ⟨_, rfl, _, rfl, _, rfl, (e : Int), rfl, dA, _, rfl, SqL.of (s1521 _ _ d15), fun pb hpb => ?_⟩
            rw [cut_to, ← List.map_take]
            have s22 : Same H21 (upd H21 pb (.lst (((cat ds).take e).map vi))) := same_upd hpb
            refine ⟨_, _, dp_list (s22 _ _ (s1721 _ _ g17)), dp_list upd_same, shaped_ints _, shaped_ints _, false, ?_, iteF ?_⟩
            · rw [SeqAt.eqv_refl _ (shaped_can (shaped_ints ((cat ds).take e)))]
              rfl
            have s1522 := Same.tr s1521 s22
            exact ⟨_, _, _, _, _, _, _, rfl, W15.same s1522, s1522 _ _ d15, s1522 _ _ a15⟩
        · clear W13 d13 a13
          rintro σ H14 ⟨y5, y6, y7, y8, y9, y10, y11, rfl, W, hdA, hsA⟩
          refine ⟨Nat.zero_le _, fun l0 hl0 => ?_⟩
          refine ⟨l0, [], [], rfl, upd_same, Nat.zero_le _, fun _ h => (by cases h), .stop nextR_nil, fun t l us1 H15 s15 ht hl hR => ?_⟩
          refine ⟨Nat.zero_le _, fun l2 hl2 => ?_⟩
          have s16 : Same H15 (upd H15 l2 (.lst [])) := same_upd hl2
          have g16 : upd H15 l2 (.lst []) l2 = some (.lst []) := upd_same
          generalize upd H15 l2 (.lst []) = H16 at s16 g16
          refine ⟨(by show 2 ≤ sizeLine; decide), fun t2 ht2 => ?_⟩
          have s17 : Same H16 (upd H16 t2 (.tup [.ref l2, .int 0])) := same_upd ht2
          have g17 : upd H16 t2 (.tup [.ref l2, .int 0]) t2 = some (.tup [.ref l2, vi (total [])]) := upd_same
          generalize upd H16 t2 (.tup [.ref l2, .int 0]) = H17 at s17 g17
          have s1517 := Same.tr s16 s17
          refine ⟨_, _, rfl, same_pair (s1517 _ _ ht) g17 (same_recs (ds := []) (s1517 _ _ hl) (s17 _ _ g16) (hR.mono fun v d h => by obtain ⟨r, e, n, hr⟩ := h; exact ⟨r, e, n, s1517 _ _ hr⟩) .nil (Nat.zero_le _) (fun _ h => (by cases h))), fun H18 s18 => ⟨true, rfl, iteT ?_⟩⟩
          refine ⟨Nat.zero_le _, fun l3 hl3 => ⟨l3, [], rfl, upd_same, Nat.zero_le _, fun w1 H19 s19 hw1 e1 => ?_⟩⟩
          refine ⟨(by show 5 ≤ sizeLine; decide), fun l4 hl4 => ?_⟩
          have er : rcd [] = [0, 0, 0, 0, 7] := by
            unfold rcd
            rw [show ([] : List Nat).length = 0 from rfl, enc_lt (by decide)]
            rfl
          rw [er] at e1
          exact ⟨_, _, rfl, same_list (n := 2) (xs := [0, 0, 0, 0, 7]) (same_upd hl4 _ _ e1) upd_same (by decide), fun H20 _ => qq H20⟩
end
end Q43
namespace Q43
open PySem PySem.Spec PyProof.Rows L2 SX HL
theorem all_mk {l : PySem.W.OpenLaw} {w : World} {K : PySem.W.Frag} {h : Heap} {mg : Str → Option Value} {fa f1 f2 f3 f4 f5 f6 f7 f8 f9 f10 f11 f12 f13 f14 f15 f16 f17 f18 f19 : Addr} (X : K.In h) (G : h.Ns mainGlobals mg) (hfa : mg "law" = some (.ref fa))
    {od1 an1 od2 an2 od3 an3 od4 an4 od5 an5 od6 an6 od7 an7 od8 an8 od9 an9 od10 an10 od11 an11 od12 an12 od13 an13 od14 an14 od15 an15 od16 an16 od17 an17 od18 an18 od19 an19 : Option Addr} {sl1 sl2 sl3 sl4 sl5 sl6 sl7 sl8 sl9 sl10 sl11 sl12 sl13 sl14 sl15 sl16 sl17 sl18 sl19 : Array (Option Value)} {oc1 kV1 dc1 pm1 cd1 ct1 oc2 kV2 dc2 pm2 cd2 ct2 oc3 kV3 dc3 pm3 cd3 ct3 oc4 kV4 dc4 pm4 cd4 ct4 oc5 kV5 dc5 pm5 cd5 ct5 oc6 kV6 dc6 pm6 cd6 ct6 oc7 kV7 dc7 pm7 cd7 ct7 oc8 kV8 dc8 pm8 cd8 ct8 oc9 kV9 dc9 pm9 cd9 ct9 oc10 kV10 dc10 pm10 cd10 ct10 oc11 kV11 dc11 pm11 cd11 ct11 oc12 kV12 dc12 pm12 cd12 ct12 oc13 kV13 dc13 pm13 cd13 ct13 oc14 kV14 dc14 pm14 cd14 ct14 oc15 kV15 dc15 pm15 cd15 ct15 oc16 kV16 dc16 pm16 cd16 ct16 oc17 kV17 dc17 pm17 cd17 ct17 oc18 kV18 dc18 pm18 cd18 ct18 oc19 kV19 dc19 pm19 cd19 ct19 : Value}
    {cReader g1 g2 g3 g4 : Addr} {Od1 An1 Od2 An2 Od3 An3 Od4 An4 : Option Addr} {Sl1 Sl2 Sl3 Sl4 : Array (Option Value)} {Oc1 KV1 Dc1 Pm1 Cd1 Ct1 Oc2 KV2 Dc2 Pm2 Cd2 Ct2 Oc3 KV3 Dc3 Pm3 Cd3 Ct3 Oc4 KV4 Dc4 Pm4 Cd4 Ct4 : Value}
    {dT2 : Addr} {dTo2 : Option Addr} {dTn2 : Nat} {dTs2 : Array (Option Value)} {dTt2_0 : Tok}
    {eDamagedPacket : Addr}
    {tLONGEST_NUMBER tCHARACTERS tSUMS tSUM_LENGTH : Tok}
    (a1 : PySem.W.nsIn K mainGlobals "write_number" = some (some (.ref f1)))
    (l1 : K.lookup f1 = some ⟨oc1, od1, .func (PySem.W.fnOf "write_number" "write_number" (defArgs sWriteNumber) (defBody sWriteNumber) (defScope sWriteNumber) .none kV1 dc1 pm1 an1 cd1 ct1), sl1⟩)
    (c1 : PySem.W.codeIn K cd1 "write_number" = true)
    (k1 : PySem.W.keepIn K (.ref f1) = true)
    (a2 : PySem.W.nsIn K mainGlobals "checksum" = some (some (.ref f2)))
    (l2 : K.lookup f2 = some ⟨oc2, od2, .func (PySem.W.fnOf "checksum" "checksum" (defArgs sChecksum) (defBody sChecksum) (defScope sChecksum) .none kV2 dc2 pm2 an2 cd2 ct2), sl2⟩)
    (c2 : PySem.W.codeIn K cd2 "checksum" = true)
    (k2 : PySem.W.keepIn K (.ref f2) = true)
    (a3 : PySem.W.nsIn K mainGlobals "write_sum" = some (some (.ref f3)))
    (l3 : K.lookup f3 = some ⟨oc3, od3, .func (PySem.W.fnOf "write_sum" "write_sum" (defArgs sWriteSum) (defBody sWriteSum) (defScope sWriteSum) .none kV3 dc3 pm3 an3 cd3 ct3), sl3⟩)
    (c3 : PySem.W.codeIn K cd3 "write_sum" = true)
    (k3 : PySem.W.keepIn K (.ref f3) = true)
    (a4 : PySem.W.nsIn K mainGlobals "write_record" = some (some (.ref f4)))
    (l4 : K.lookup f4 = some ⟨oc4, od4, .func (PySem.W.fnOf "write_record" "write_record" (defArgs sWriteRecord) (defBody sWriteRecord) (defScope sWriteRecord) .none kV4 dc4 pm4 an4 cd4 ct4), sl4⟩)
    (c4 : PySem.W.codeIn K cd4 "write_record" = true)
    (k4 : PySem.W.keepIn K (.ref f4) = true)
    (a5 : PySem.W.nsIn K mainGlobals "record_size" = some (some (.ref f5)))
    (l5 : K.lookup f5 = some ⟨oc5, od5, .func (PySem.W.fnOf "record_size" "record_size" (defArgs sRecordSize) (defBody sRecordSize) (defScope sRecordSize) .none kV5 dc5 pm5 an5 cd5 ct5), sl5⟩)
    (c5 : PySem.W.codeIn K cd5 "record_size" = true)
    (k5 : PySem.W.keepIn K (.ref f5) = true)
    (a6 : PySem.W.nsIn K mainGlobals "read_records" = some (some (.ref f6)))
    (l6 : K.lookup f6 = some ⟨oc6, od6, .func (PySem.W.fnOf "read_records" "read_records" (defArgs sReadRecords) (defBody sReadRecords) (defScope sReadRecords) .none kV6 dc6 pm6 an6 cd6 ct6), sl6⟩)
    (c6 : PySem.W.codeIn K cd6 "read_records" = true)
    (k6 : PySem.W.keepIn K (.ref f6) = true)
    (a7 : PySem.W.nsIn K mainGlobals "next_record" = some (some (.ref f7)))
    (l7 : K.lookup f7 = some ⟨oc7, od7, .func (PySem.W.fnOf "next_record" "next_record" (defArgs sNextRecord) (defBody sNextRecord) (defScope sNextRecord) .none kV7 dc7 pm7 an7 cd7 ct7), sl7⟩)
    (c7 : PySem.W.codeIn K cd7 "next_record" = true)
    (k7 : PySem.W.keepIn K (.ref f7) = true)
    (a8 : PySem.W.nsIn K mainGlobals "_law_mix" = some (some (.ref f8)))
    (l8 : K.lookup f8 = some ⟨oc8, od8, .func (PySem.W.fnOf "_law_mix" "_law_mix" (defArgs sLawMix) (defBody sLawMix) (defScope sLawMix) .none kV8 dc8 pm8 an8 cd8 ct8), sl8⟩)
    (c8 : PySem.W.codeIn K cd8 "_law_mix" = true)
    (k8 : PySem.W.keepIn K (.ref f8) = true)
    (a9 : PySem.W.nsIn K mainGlobals "_law_draws" = some (some (.ref f9)))
    (l9 : K.lookup f9 = some ⟨oc9, od9, .func (PySem.W.fnOf "_law_draws" "_law_draws" (defArgs sLawDraws) (defBody sLawDraws) (defScope sLawDraws) .none kV9 dc9 pm9 an9 cd9 ct9), sl9⟩)
    (c9 : PySem.W.codeIn K cd9 "_law_draws" = true)
    (k9 : PySem.W.keepIn K (.ref f9) = true)
    (a10 : PySem.W.nsIn K mainGlobals "_law_at" = some (some (.ref f10)))
    (l10 : K.lookup f10 = some ⟨oc10, od10, .func (PySem.W.fnOf "_law_at" "_law_at" (defArgs sLawAt) (defBody sLawAt) (defScope sLawAt) .none kV10 dc10 pm10 an10 cd10 ct10), sl10⟩)
    (c10 : PySem.W.codeIn K cd10 "_law_at" = true)
    (k10 : PySem.W.keepIn K (.ref f10) = true)
    (a11 : PySem.W.nsIn K mainGlobals "_law_is_integer" = some (some (.ref f11)))
    (l11 : K.lookup f11 = some ⟨oc11, od11, .func (PySem.W.fnOf "_law_is_integer" "_law_is_integer" (defArgs sLawIsInteger) (defBody sLawIsInteger) (defScope sLawIsInteger) .none kV11 dc11 pm11 an11 cd11 ct11), sl11⟩)
    (c11 : PySem.W.codeIn K cd11 "_law_is_integer" = true)
    (k11 : PySem.W.keepIn K (.ref f11) = true)
    (a12 : PySem.W.nsIn K mainGlobals "_law_same" = some (some (.ref f12)))
    (l12 : K.lookup f12 = some ⟨oc12, od12, .func (PySem.W.fnOf "_law_same" "_law_same" (defArgs sLawSame) (defBody sLawSame) (defScope sLawSame) .none kV12 dc12 pm12 an12 cd12 ct12), sl12⟩)
    (c12 : PySem.W.codeIn K cd12 "_law_same" = true)
    (k12 : PySem.W.keepIn K (.ref f12) = true)
    (a13 : PySem.W.nsIn K mainGlobals "_law_next" = some (some (.ref f13)))
    (l13 : K.lookup f13 = some ⟨oc13, od13, .func (PySem.W.fnOf "_law_next" "_law_next" (defArgs sLawNext) (defBody sLawNext) (defScope sLawNext) .none kV13 dc13 pm13 an13 cd13 ct13), sl13⟩)
    (c13 : PySem.W.codeIn K cd13 "_law_next" = true)
    (k13 : PySem.W.keepIn K (.ref f13) = true)
    (a14 : PySem.W.nsIn K mainGlobals "_law_number" = some (some (.ref f14)))
    (l14 : K.lookup f14 = some ⟨oc14, od14, .func (PySem.W.fnOf "_law_number" "_law_number" (defArgs sLawNumber) (defBody sLawNumber) (defScope sLawNumber) .none kV14 dc14 pm14 an14 cd14 ct14), sl14⟩)
    (c14 : PySem.W.codeIn K cd14 "_law_number" = true)
    (k14 : PySem.W.keepIn K (.ref f14) = true)
    (a15 : PySem.W.nsIn K mainGlobals "_law_checksum" = some (some (.ref f15)))
    (l15 : K.lookup f15 = some ⟨oc15, od15, .func (PySem.W.fnOf "_law_checksum" "_law_checksum" (defArgs sLawChecksum) (defBody sLawChecksum) (defScope sLawChecksum) .none kV15 dc15 pm15 an15 cd15 ct15), sl15⟩)
    (c15 : PySem.W.codeIn K cd15 "_law_checksum" = true)
    (k15 : PySem.W.keepIn K (.ref f15) = true)
    (a16 : PySem.W.nsIn K mainGlobals "_law_record" = some (some (.ref f16)))
    (l16 : K.lookup f16 = some ⟨oc16, od16, .func (PySem.W.fnOf "_law_record" "_law_record" (defArgs sLawRecord) (defBody sLawRecord) (defScope sLawRecord) .none kV16 dc16 pm16 an16 cd16 ct16), sl16⟩)
    (c16 : PySem.W.codeIn K cd16 "_law_record" = true)
    (k16 : PySem.W.keepIn K (.ref f16) = true)
    (a17 : PySem.W.nsIn K mainGlobals "_law_bytes" = some (some (.ref f17)))
    (l17 : K.lookup f17 = some ⟨oc17, od17, .func (PySem.W.fnOf "_law_bytes" "_law_bytes" (defArgs sLawBytes) (defBody sLawBytes) (defScope sLawBytes) .none kV17 dc17 pm17 an17 cd17 ct17), sl17⟩)
    (c17 : PySem.W.codeIn K cd17 "_law_bytes" = true)
    (k17 : PySem.W.keepIn K (.ref f17) = true)
    (a18 : PySem.W.nsIn K mainGlobals "_law_behind" = some (some (.ref f18)))
    (l18 : K.lookup f18 = some ⟨oc18, od18, .func (PySem.W.fnOf "_law_behind" "_law_behind" (defArgs sLawBehind) (defBody sLawBehind) (defScope sLawBehind) .none kV18 dc18 pm18 an18 cd18 ct18), sl18⟩)
    (c18 : PySem.W.codeIn K cd18 "_law_behind" = true)
    (k18 : PySem.W.keepIn K (.ref f18) = true)
    (a19 : PySem.W.nsIn K mainGlobals "law" = some (some (.ref f19)))
    (l19 : K.lookup f19 = some ⟨oc19, od19, .func (PySem.W.fnOf "law" "law" (defArgs sLaw) (defBody sLaw) (defScope sLaw) .none kV19 dc19 pm19 an19 cd19 ct19), sl19⟩)
    (c19 : PySem.W.codeIn K cd19 "law" = true)
    (k19 : PySem.W.keepIn K (.ref f19) = true)
    (caReader : PySem.W.nsIn K mainGlobals "Reader" = some (some (.ref cReader)))
    (ma1 : PySem.W.findIn K (.ref cReader) "__init__" = some (some (.ref g1)))
    (mi1 : PySem.W.isFn K (.ref g1) = true)
    (ml1 : K.lookup g1 = some ⟨Oc1, Od1, .func (PySem.W.fnOf "__init__" "Reader.__init__" (defArgs sReaderInit) (defBody sReaderInit) (defScope sReaderInit) .none KV1 Dc1 Pm1 An1 Cd1 Ct1), Sl1⟩)
    (mc1 : PySem.W.codeIn K Cd1 "Reader.__init__" = true)
    (mk1 : PySem.W.keepIn K (.ref g1) = true)
    (ma2 : PySem.W.findIn K (.ref cReader) "read_byte" = some (some (.ref g2)))
    (mi2 : PySem.W.isFn K (.ref g2) = true)
    (ml2 : K.lookup g2 = some ⟨Oc2, Od2, .func (PySem.W.fnOf "read_byte" "Reader.read_byte" (defArgs sReaderReadByte) (defBody sReaderReadByte) (defScope sReaderReadByte) (.ref dT2) KV2 Dc2 Pm2 An2 Cd2 Ct2), Sl2⟩)
    (mt2 : K.lookup dT2 = some ⟨.type "tuple", dTo2, .seq (List.toArray [.int 255 dTt2_0]) dTn2, dTs2⟩)
    (mc2 : PySem.W.codeIn K Cd2 "Reader.read_byte" = true)
    (mk2 : PySem.W.keepIn K (.ref g2) = true)
    (ma3 : PySem.W.findIn K (.ref cReader) "read_bytes" = some (some (.ref g3)))
    (mi3 : PySem.W.isFn K (.ref g3) = true)
    (ml3 : K.lookup g3 = some ⟨Oc3, Od3, .func (PySem.W.fnOf "read_bytes" "Reader.read_bytes" (defArgs sReaderReadBytes) (defBody sReaderReadBytes) (defScope sReaderReadBytes) .none KV3 Dc3 Pm3 An3 Cd3 Ct3), Sl3⟩)
    (mc3 : PySem.W.codeIn K Cd3 "Reader.read_bytes" = true)
    (mk3 : PySem.W.keepIn K (.ref g3) = true)
    (ma4 : PySem.W.findIn K (.ref cReader) "read_number" = some (some (.ref g4)))
    (mi4 : PySem.W.isFn K (.ref g4) = true)
    (ml4 : K.lookup g4 = some ⟨Oc4, Od4, .func (PySem.W.fnOf "read_number" "Reader.read_number" (defArgs sReaderReadNumber) (defBody sReaderReadNumber) (defScope sReaderReadNumber) .none KV4 Dc4 Pm4 An4 Cd4 Ct4), Sl4⟩)
    (mc4 : PySem.W.codeIn K Cd4 "Reader.read_number" = true)
    (mk4 : PySem.W.keepIn K (.ref g4) = true)
    (cpgReader : PySem.W.plainGet K cReader Str.empty = true)
    (chdReader : PySem.W.hasDictIn K cReader = true)
    (cpoReader : PySem.W.plainOver K cReader = true)
    (csaReader : PySem.W.findIn K (.ref cReader) "__setattr__" = some (some (.builtin "object.__setattr__")))
    (cmkReader : PySem.W.makesIn K cReader = true)
    (ckcReader : PySem.W.keepIn K (.ref cReader) = true)
    (cnReader_0 : PySem.W.findIn K (.ref cReader) "at" = some none)
    (cnReader_1 : PySem.W.findIn K (.ref cReader) "_data" = some none)
    (cnReader_2 : PySem.W.findIn K (.ref cReader) "_characters" = some none)
    (eaDamagedPacket : PySem.W.nsIn K mainGlobals "DamagedPacket" = some (some (.ref eDamagedPacket)))
    (exDamagedPacket : PySem.W.excIn K eDamagedPacket [.type "ValueError", .type "Exception", .type "BaseException", .type "object"] "ValueError.__new__" = true)
    (ekDamagedPacket : PySem.W.keepIn K (.ref eDamagedPacket) = true)
    (ebDamagedPacket : PySem.W.subIn K (.ref eDamagedPacket) (.type "BaseException") = some true)
    (etDamagedPacket : PySem.W.typeIn K (.ref eDamagedPacket) = some (.type "type"))
    (eiDamagedPacket : PySem.W.isClsIn K eDamagedPacket = true)
    (esDamagedPacket : PySem.W.subIn K (.ref eDamagedPacket) (.ref eDamagedPacket) = some true)
    (z_bool : PySem.W.nsIn K mainGlobals "bool" = some none)
    (z_int : PySem.W.nsIn K mainGlobals "int" = some none)
    (z_isinstance : PySem.W.nsIn K mainGlobals "isinstance" = some none)
    (z_len : PySem.W.nsIn K mainGlobals "len" = some none)
    (z_list : PySem.W.nsIn K mainGlobals "list" = some none)
    (z_min : PySem.W.nsIn K mainGlobals "min" = some none)
    (z_ord : PySem.W.nsIn K mainGlobals "ord" = some none)
    (z_range : PySem.W.nsIn K mainGlobals "range" = some none)
    (z_str : PySem.W.nsIn K mainGlobals "str" = some none)
    (z_sum : PySem.W.nsIn K mainGlobals "sum" = some none)
    (z_tuple : PySem.W.nsIn K mainGlobals "tuple" = some none)
    (g_LONGEST_NUMBER : PySem.W.nsIn K mainGlobals "LONGEST_NUMBER" = some (some (.int 60 tLONGEST_NUMBER)))
    (g_CHARACTERS : PySem.W.nsIn K mainGlobals "CHARACTERS" = some (some (.str "\n !\"#$&'()*+,-./0123456789:;<=>?@ABCDEFGHIJKLMNOPQRSTUVWXYZ[\\]^_`abcdefghijklmnopqrstuvwxyz{|}~" tCHARACTERS)))
    (g_SUMS : PySem.W.nsIn K mainGlobals "SUMS" = some (some (.int 4294967296 tSUMS)))
    (g_SUM_LENGTH : PySem.W.nsIn K mainGlobals "SUM_LENGTH" = some (some (.int 4 tSUM_LENGTH)))
    : ∃ fd : FuncData, (∀ (s : Shared) (v : Value), BindsTo s fd ⟨[v], []⟩ [("script", v)]) ∧ ∀ base : Heap, K.In base → base.Ns mainGlobals mg → FnOk l.prog w K mg base CX0 6 fa fd ["script"] (spLaw K) := by
  have e := hfa.symm.trans (PySem.W.mg_of X G a19)
  cases e
  have F1 := fun_mk (st := sWriteNumber) l1 c1 k1
  have b1 := F1.binds (ps := ["number"]) fun _ _ _ _ _ _ us hl => match us, hl with | [_], _ => rfl
  have F2 := fun_mk (st := sChecksum) l2 c2 k2
  have b2 := F2.binds (ps := ["data"]) fun _ _ _ _ _ _ us hl => match us, hl with | [_], _ => rfl
  have F3 := fun_mk (st := sWriteSum) l3 c3 k3
  have b3 := F3.binds (ps := ["data"]) fun _ _ _ _ _ _ us hl => match us, hl with | [_], _ => rfl
  have F4 := fun_mk (st := sWriteRecord) l4 c4 k4
  have b4 := F4.binds (ps := ["data"]) fun _ _ _ _ _ _ us hl => match us, hl with | [_], _ => rfl
  have F5 := fun_mk (st := sRecordSize) l5 c5 k5
  have b5 := F5.binds (ps := ["data"]) fun _ _ _ _ _ _ us hl => match us, hl with | [_], _ => rfl
  have F6 := fun_mk (st := sReadRecords) l6 c6 k6
  have b6 := F6.binds (ps := ["data"]) fun _ _ _ _ _ _ us hl => match us, hl with | [_], _ => rfl
  have F7 := fun_mk (st := sNextRecord) l7 c7 k7
  have b7 := F7.binds (ps := ["reader"]) fun _ _ _ _ _ _ us hl => match us, hl with | [_], _ => rfl
  have F8 := fun_mk (st := sLawMix) l8 c8 k8
  have b8 := F8.binds (ps := ["cell", "k"]) fun _ _ _ _ _ _ us hl => match us, hl with | [_, _], _ => rfl
  have F9 := fun_mk (st := sLawDraws) l9 c9 k9
  have b9 := F9.binds (ps := ["script"]) fun _ _ _ _ _ _ us hl => match us, hl with | [_], _ => rfl
  have F10 := fun_mk (st := sLawAt) l10 c10 k10
  have b10 := F10.binds (ps := ["draws", "index"]) fun _ _ _ _ _ _ us hl => match us, hl with | [_, _], _ => rfl
  have F11 := fun_mk (st := sLawIsInteger) l11 c11 k11
  have b11 := F11.binds (ps := ["actual"]) fun _ _ _ _ _ _ us hl => match us, hl with | [_], _ => rfl
  have F12 := fun_mk (st := sLawSame) l12 c12 k12
  have b12 := F12.binds (ps := ["actual", "expected"]) fun _ _ _ _ _ _ us hl => match us, hl with | [_, _], _ => rfl
  have F13 := fun_mk (st := sLawNext) l13 c13 k13
  have b13 := F13.binds (ps := ["state", "limit"]) fun _ _ _ _ _ _ us hl => match us, hl with | [_, _], _ => rfl
  have F14 := fun_mk (st := sLawNumber) l14 c14 k14
  have b14 := F14.binds (ps := ["number"]) fun _ _ _ _ _ _ us hl => match us, hl with | [_], _ => rfl
  have F15 := fun_mk (st := sLawChecksum) l15 c15 k15
  have b15 := F15.binds (ps := ["data"]) fun _ _ _ _ _ _ us hl => match us, hl with | [_], _ => rfl
  have F16 := fun_mk (st := sLawRecord) l16 c16 k16
  have b16 := F16.binds (ps := ["data"]) fun _ _ _ _ _ _ us hl => match us, hl with | [_], _ => rfl
  have F17 := fun_mk (st := sLawBytes) l17 c17 k17
  have b17 := F17.binds (ps := ["state"]) fun _ _ _ _ _ _ us hl => match us, hl with | [_], _ => rfl
  have F18 := fun_mk (st := sLawBehind) l18 c18 k18
  have b18 := F18.binds (ps := ["state"]) fun _ _ _ _ _ _ us hl => match us, hl with | [_], _ => rfl
  have F19 := fun_mk (st := sLaw) l19 c19 k19
  have b19 := F19.binds (ps := ["script"]) fun _ _ _ _ _ _ us hl => match us, hl with | [_], _ => rfl
  have E1 := fun_mk (st := sReaderInit) ml1 mc1 mk1
  have e1 := E1.binds (ps := ["self", "data"]) fun _ _ _ _ _ _ us hl => match us, hl with | [_, _], _ => rfl
  have E2 := (⟨⟨_, _, _, _, _, _, _, _, _, _, rfl, ml2, mc2, .inr ⟨by simp, _, _, _, _, rfl, mt2, rfl, (by repeat (first | exact .nil | refine .cons ⟨_, rfl⟩ ?_))⟩, .inl rfl⟩, mk2⟩ : FunD K "read_byte" "Reader.read_byte" (defArgs sReaderReadByte) (defBody sReaderReadByte) (defScope sReaderReadByte) [V.int 255] [] g2 _)
  have e2 := E2.binds1 (ps := ["self", "most"]) 1 0 (by simp) rfl fun _ _ _ _ _ _ _ us its hu hi => match us, its, hu, hi with | [_], [_], _, _ => ⟨_, rfl, rfl⟩
  have e2b := HX.bd_full (E2.binds1 (ps := ["self", "most"]) 2 1 (by simp) rfl fun _ _ _ _ _ _ _ us its hu hi => match us, its, hu, hi with | [_, _], [_], _, _ => ⟨_, rfl, rfl⟩)
  have E3 := fun_mk (st := sReaderReadBytes) ml3 mc3 mk3
  have e3 := E3.binds (ps := ["self", "count"]) fun _ _ _ _ _ _ us hl => match us, hl with | [_, _], _ => rfl
  have E4 := fun_mk (st := sReaderReadNumber) ml4 mc4 mk4
  have e4 := E4.binds (ps := ["self"]) fun _ _ _ _ _ _ us hl => match us, hl with | [_], _ => rfl
  let Z : Defs K mg :=
    { bool := PySem.W.mg_none_of X G z_bool,
      int := PySem.W.mg_none_of X G z_int,
      isinstance := PySem.W.mg_none_of X G z_isinstance,
      len := PySem.W.mg_none_of X G z_len,
      list := PySem.W.mg_none_of X G z_list,
      min := PySem.W.mg_none_of X G z_min,
      ord := PySem.W.mg_none_of X G z_ord,
      range := PySem.W.mg_none_of X G z_range,
      str := PySem.W.mg_none_of X G z_str,
      sum := PySem.W.mg_none_of X G z_sum,
      tuple := PySem.W.mg_none_of X G z_tuple,
      kLONGEST_NUMBER := ⟨_, PySem.W.mg_of X G g_LONGEST_NUMBER⟩,
      kCHARACTERS := ⟨_, PySem.W.mg_of X G g_CHARACTERS⟩,
      kSUMS := ⟨_, PySem.W.mg_of X G g_SUMS⟩,
      kSUM_LENGTH := ⟨_, PySem.W.mg_of X G g_SUM_LENGTH⟩,
      fWriteNumber := f1,
      fdWriteNumber := _,
      DWriteNumber := ⟨F1, b1, PySem.W.mg_of X G a1⟩,
      fChecksum := f2,
      fdChecksum := _,
      DChecksum := ⟨F2, b2, PySem.W.mg_of X G a2⟩,
      fWriteSum := f3,
      fdWriteSum := _,
      DWriteSum := ⟨F3, b3, PySem.W.mg_of X G a3⟩,
      fWriteRecord := f4,
      fdWriteRecord := _,
      DWriteRecord := ⟨F4, b4, PySem.W.mg_of X G a4⟩,
      fRecordSize := f5,
      fdRecordSize := _,
      DRecordSize := ⟨F5, b5, PySem.W.mg_of X G a5⟩,
      fReadRecords := f6,
      fdReadRecords := _,
      DReadRecords := ⟨F6, b6, PySem.W.mg_of X G a6⟩,
      fNextRecord := f7,
      fdNextRecord := _,
      DNextRecord := ⟨F7, b7, PySem.W.mg_of X G a7⟩,
      fLawMix := f8,
      fdLawMix := _,
      DLawMix := ⟨F8, b8, PySem.W.mg_of X G a8⟩,
      fLawDraws := f9,
      fdLawDraws := _,
      DLawDraws := ⟨F9, b9, PySem.W.mg_of X G a9⟩,
      fLawAt := f10,
      fdLawAt := _,
      DLawAt := ⟨F10, b10, PySem.W.mg_of X G a10⟩,
      fLawIsInteger := f11,
      fdLawIsInteger := _,
      DLawIsInteger := ⟨F11, b11, PySem.W.mg_of X G a11⟩,
      fLawSame := f12,
      fdLawSame := _,
      DLawSame := ⟨F12, b12, PySem.W.mg_of X G a12⟩,
      fLawNext := f13,
      fdLawNext := _,
      DLawNext := ⟨F13, b13, PySem.W.mg_of X G a13⟩,
      fLawNumber := f14,
      fdLawNumber := _,
      DLawNumber := ⟨F14, b14, PySem.W.mg_of X G a14⟩,
      fLawChecksum := f15,
      fdLawChecksum := _,
      DLawChecksum := ⟨F15, b15, PySem.W.mg_of X G a15⟩,
      fLawRecord := f16,
      fdLawRecord := _,
      DLawRecord := ⟨F16, b16, PySem.W.mg_of X G a16⟩,
      fLawBytes := f17,
      fdLawBytes := _,
      DLawBytes := ⟨F17, b17, PySem.W.mg_of X G a17⟩,
      fLawBehind := f18,
      fdLawBehind := _,
      DLawBehind := ⟨F18, b18, PySem.W.mg_of X G a18⟩,
      fLaw := fa,
      fdLaw := _,
      DLaw := ⟨F19, b19, PySem.W.mg_of X G a19⟩,
      cReader := cReader,
      fReaderInit := g1,
      fdReaderInit := _,
      DReaderInit := ⟨E1, e1⟩,
      CReader := ⟨PySem.W.mg_of X G caReader, ⟨cpgReader, chdReader, cpoReader, csaReader⟩, ⟨cmkReader, ma1, mi1, ckcReader⟩⟩,
      fReaderReadByte := g2,
      fdReaderReadByte := _,
      DReaderReadByte := ⟨E2, ⟨ma2, mi2, mk2⟩, e2, e2b⟩,
      fReaderReadBytes := g3,
      fdReaderReadBytes := _,
      DReaderReadBytes := ⟨E3, e3, ⟨ma3, mi3, mk3⟩⟩,
      fReaderReadNumber := g4,
      fdReaderReadNumber := _,
      DReaderReadNumber := ⟨E4, e4, ⟨ma4, mi4, mk4⟩⟩,
      nReader_at := cnReader_0,
      nReader_data := cnReader_1,
      nReader_characters := cnReader_2,
      eDamagedPacket := eDamagedPacket,
      EDamagedPacket := ⟨PySem.W.mg_of X G eaDamagedPacket, exDamagedPacket, ekDamagedPacket, ebDamagedPacket, etDamagedPacket, exm_of ebDamagedPacket eiDamagedPacket etDamagedPacket esDamagedPacket⟩ }
  exact ⟨PySem.W.fnOf "law" "law" (defArgs sLaw) (defBody sLaw) (defScope sLaw) .none kV19 dc19 pm19 an19 cd19 ct19, fun s v => .of_eq rfl, fun base _ _ => ok_law Z⟩
end Q43
open PySem PySem.W PyProof.Rows
set_option maxHeartbeats 0 in
theorem PySem.Challenge.cw_quillrun_k43_records_holds : PySem.Challenge.rw_quillrun_k43_records.Holds := by
  w_on; o_law; k_head; (case hw => w_witness2)
  k_fill
  refine L2.walk_of (l := PySem.Challenge.rw_quillrun_k43_records) (n := 63) (k := 6) (x := "script") (CX := fun _ => L2.CX0) (sp := fun w => Q43.spLaw _) rfl (by decide) rfl ⟨rfl, by decide, by decide⟩ (fun w h Y => PySem.W.kIn_of Y) ?F (fun _ _ a ns hl _ hS => ⟨a, ns, rfl, hS, hl, fun _ => rfl⟩) (fun _ _ _ _ _ h => h)
  case F =>
    intro w mg fa h KX G hmg
    refine' Q43.all_mk KX G hmg ?a1 ?l1 ?c1 ?k1 ?a2 ?l2 ?c2 ?k2 ?a3 ?l3 ?c3 ?k3 ?a4 ?l4 ?c4 ?k4 ?a5 ?l5 ?c5 ?k5 ?a6 ?l6 ?c6 ?k6 ?a7 ?l7 ?c7 ?k7 ?a8 ?l8 ?c8 ?k8 ?a9 ?l9 ?c9 ?k9 ?a10 ?l10 ?c10 ?k10 ?a11 ?l11 ?c11 ?k11 ?a12 ?l12 ?c12 ?k12 ?a13 ?l13 ?c13 ?k13 ?a14 ?l14 ?c14 ?k14 ?a15 ?l15 ?c15 ?k15 ?a16 ?l16 ?c16 ?k16 ?a17 ?l17 ?c17 ?k17 ?a18 ?l18 ?c18 ?k18 ?a19 ?l19 ?c19 ?k19 ?caReader ?ma1 ?mi1 ?ml1 ?mc1 ?mk1 ?ma2 ?mi2 ?ml2 ?mt2 ?mc2 ?mk2 ?ma3 ?mi3 ?ml3 ?mc3 ?mk3 ?ma4 ?mi4 ?ml4 ?mc4 ?mk4 ?cpgReader ?chdReader ?cpoReader ?csaReader ?cmkReader ?ckcReader ?cnReader_0 ?cnReader_1 ?cnReader_2 ?eaDamagedPacket ?exDamagedPacket ?ekDamagedPacket ?ebDamagedPacket ?etDamagedPacket ?eiDamagedPacket ?esDamagedPacket ?z_bool ?z_int ?z_isinstance ?z_len ?z_list ?z_min ?z_ord ?z_range ?z_str ?z_sum ?z_tuple ?g_LONGEST_NUMBER ?g_CHARACTERS ?g_SUMS ?g_SUM_LENGTH
    (case a1 => k_is)
    (case l1 => k_is)
    (case c1 => k_is)
    (case k1 => k_is)
    (case a2 => k_is)
    (case l2 => k_is)
    (case c2 => k_is)
    (case k2 => k_is)
    (case a3 => k_is)
    (case l3 => k_is)
    (case c3 => k_is)
    (case k3 => k_is)
    (case a4 => k_is)
    (case l4 => k_is)
    (case c4 => k_is)
    (case k4 => k_is)
    (case a5 => k_is)
    (case l5 => k_is)
    (case c5 => k_is)
    (case k5 => k_is)
    (case a6 => k_is)
    (case l6 => k_is)
    (case c6 => k_is)
    (case k6 => k_is)
    (case a7 => k_is)
    (case l7 => k_is)
    (case c7 => k_is)
    (case k7 => k_is)
    (case a8 => k_is)
    (case l8 => k_is)
    (case c8 => k_is)
    (case k8 => k_is)
    (case a9 => k_is)
    (case l9 => k_is)
    (case c9 => k_is)
    (case k9 => k_is)
    (case a10 => k_is)
    (case l10 => k_is)
    (case c10 => k_is)
    (case k10 => k_is)
    (case a11 => k_is)
    (case l11 => k_is)
    (case c11 => k_is)
    (case k11 => k_is)
    (case a12 => k_is)
    (case l12 => k_is)
    (case c12 => k_is)
    (case k12 => k_is)
    (case a13 => k_is)
    (case l13 => k_is)
    (case c13 => k_is)
    (case k13 => k_is)
    (case a14 => k_is)
    (case l14 => k_is)
    (case c14 => k_is)
    (case k14 => k_is)
    (case a15 => k_is)
    (case l15 => k_is)
    (case c15 => k_is)
    (case k15 => k_is)
    (case a16 => k_is)
    (case l16 => k_is)
    (case c16 => k_is)
    (case k16 => k_is)
    (case a17 => k_is)
    (case l17 => k_is)
    (case c17 => k_is)
    (case k17 => k_is)
    (case a18 => k_is)
    (case l18 => k_is)
    (case c18 => k_is)
    (case k18 => k_is)
    (case a19 => k_is)
    (case l19 => k_is)
    (case c19 => k_is)
    (case k19 => k_is)
    (case caReader => k_is)
    (case ma1 => k_is)
    (case mi1 => k_is)
    (case ml1 => k_is)
    (case mc1 => k_is)
    (case mk1 => k_is)
    (case ma2 => k_is)
    (case mi2 => k_is)
    (case ml2 => k_is)
    (case mt2 => k_is)
    (case mc2 => k_is)
    (case mk2 => k_is)
    (case ma3 => k_is)
    (case mi3 => k_is)
    (case ml3 => k_is)
    (case mc3 => k_is)
    (case mk3 => k_is)
    (case ma4 => k_is)
    (case mi4 => k_is)
    (case ml4 => k_is)
    (case mc4 => k_is)
    (case mk4 => k_is)
    (case cpgReader => k_is)
    (case chdReader => k_is)
    (case cpoReader => k_is)
    (case csaReader => k_is)
    (case cmkReader => k_is)
    (case ckcReader => k_is)
    (case cnReader_0 => k_is)
    (case cnReader_1 => k_is)
    (case cnReader_2 => k_is)
    (case eaDamagedPacket => k_is)
    (case exDamagedPacket => k_exc)
    (case ekDamagedPacket => k_is)
    (case ebDamagedPacket => k_is)
    (case etDamagedPacket => k_is)
    (case eiDamagedPacket => k_is)
    (case esDamagedPacket => k_is)
    (case z_bool => k_is)
    (case z_int => k_is)
    (case z_isinstance => k_is)
    (case z_len => k_is)
    (case z_list => k_is)
    (case z_min => k_is)
    (case z_ord => k_is)
    (case z_range => k_is)
    (case z_str => k_is)
    (case z_sum => k_is)
    (case z_tuple => k_is)
    (case g_LONGEST_NUMBER => k_is)
    (case g_CHARACTERS => k_is)
    (case g_SUMS => k_is)
    (case g_SUM_LENGTH => k_is)
#print axioms PySem.Challenge.cw_quillrun_k43_records_holds
