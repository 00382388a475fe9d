import PyProof.Rows.All
import Wide.All
import OpenK.AllK
import Wide.FinOn
import HandS.ForMost
import HandS.ForExc
import HandS.IsInst
import HandS.Codes
import HandS.Walk
import HandS.Star
import HandS.TryOnly
import HandS.FStr
import HandS.StrMore
import HandS.Zip
import HandS.NoneIn
import HandS.SetKeys
import HandS.More
import HandS.Deep
import KE.RegKIsAll
import PySem.Challenge.RW_quillrun_k42_files_keep_a_beginning
set_option Elab.async false
set_option linter.all false
set_option maxRecDepth 100000
set_option maxHeartbeats 4000000
namespace HL
open PySem PySem.Spec PyProof.Rows L2 SX
/-! ## short words of my own, over the hand layer -/
theorem boot_isinstance : bootBuiltins "isinstance" = some (.builtin "isinstance") := by decide +kernel
theorem boot_bool : bootBuiltins "bool" = some (.type "bool") := by decide +kernel
theorem boot_int : bootBuiltins "int" = some (.type "int") := by decide +kernel
theorem boot_str : bootBuiltins "str" = some (.type "str") := by decide +kernel
theorem boot_tuple : bootBuiltins "tuple" = some (.type "tuple") := by decide +kernel
theorem boot_list : bootBuiltins "list" = some (.type "list") := by decide +kernel
theorem boot_dict : bootBuiltins "dict" = some (.type "dict") := by decide +kernel
/-- a def of the module: its body, its arguments, its name -/
structure DefN (K : PySem.W.Frag) (mg : Str → Option Value) (x : Str) (st : Stmt) (ps : List Str) (f : Addr) (fd : FuncData) : Prop where
  F : Fun K x x st f fd
  b : Binds K fd ps []
  g : mg x = some (.ref f)
theorem small (n : Nat) (h : n ≤ 1000000) : n ≤ sizeLine := Nat.le_trans h (by decide)
theorem same_upd {H : Hp} {p : Addr} {o : HO} (h : H p = none) : Same H (upd H p o) := fun b x e => by
  rw [upd_ne (ne_of_none e h)]
  exact e
theorem S_app (a b : List Nat) : (S a ++ S b : Str) = S (a ++ b) := S_cat a b
theorem sign_at {t : List Nat} {k : Nat} (h : k < t.length) : atI (S t).cps.toList (k : Int) = some (t.getD k 0) := by
  show atI t.toArray.toList (k : Int) = _
  refine atI_nat ?_
  simp [List.getD_eq_getElem?_getD, h]
theorem cutS_nat (t : List Nat) (a b : Nat) (h : a ≤ b) (h2 : b ≤ t.length) : cutS (S t) (some (a : Int)) (some (b : Int)) = S ((t.drop a).take (b - a)) := by
  unfold cutS
  rw [S_len, HT.sIx_nat, HT.sIx_nat]
  have e1 : min a t.length = a := by omega
  have e2 : min b t.length = b := by omega
  rw [e1, e2]
/-- ends beyond the end -/
theorem cutS_any (t : List Nat) (a b : Nat) : cutS (S t) (some (a : Int)) (some (b : Int)) = S ((t.drop a).take (b - a)) := by
  unfold cutS
  rw [S_len, HT.sIx_nat, HT.sIx_nat]
  congr 2
  show List.take _ (List.drop _ t) = _
  by_cases ha : a ≤ t.length
  · have e1 : min a t.length = a := by omega
    rw [e1]
    by_cases hb : b ≤ t.length
    · have e2 : min b t.length = b := by omega
      rw [e2]
    · have e2 : min b t.length = t.length := by omega
      rw [e2, List.take_of_length_le (by rw [List.length_drop]; omega), List.take_of_length_le (by rw [List.length_drop]; omega)]
  · have e1 : min a t.length = t.length := by omega
    rw [e1, List.drop_of_length_le (Nat.le_refl _), List.drop_of_length_le (show t.length ≤ a by omega)]
    simp
theorem joinL_nil : ∀ C : List (List Nat), TL.joinL [] C = C.flatten
  | [] => rfl
  | [c] => by simp [TL.joinL]
  | c :: d :: r => by
    show c ++ ([] ++ TL.joinL [] (d :: r)) = _
    rw [joinL_nil (d :: r)]
    simp
/-- a test whose answer is known -/
theorem iteNo {c A B : Prop} [Decidable c] (h : ¬ c) (hb : B) : if c then A else B := by
  rw [if_neg h]
  exact hb
theorem iteYes {c A B : Prop} [Decidable c] (h : c) (ha : A) : if c then A else B := by
  rw [if_pos h]
  exact ha
/-- a comprehension without a test -/
theorem lc_yes {te : TE} {σ : L2.St} {H : Hp} {R : VK} {B : Hp → Prop} (h : te σ H R) : tYes σ H (fun b H3 => if b = true then te σ H3 R else B H3) := by
  show (if true = true then te σ H R else B H)
  rw [if_pos rfl]
  exact h
/-- all but p is as it was -/
def But (H H' : Hp) (p : Addr) : Prop := ∀ b, b ≠ p → H' b = H b
theorem but_upd {H : Hp} {p : Addr} {o : HO} : But H (upd H p o) p := fun _ h => upd_ne h
theorem But.refl {H : Hp} {p : Addr} : But H H p := fun _ _ => rfl
theorem But.trans {H H1 H2 : Hp} {p : Addr} (a : But H H1 p) (b : But H1 H2 p) : But H H2 p := fun c h => (b c h).trans (a c h)
/-- all but p, and what is new, is as it was -/
def Kept (H H' : Hp) (p : Addr) : Prop := ∀ b o, b ≠ p → H b = some o → H' b = some o
theorem Kept.refl {H : Hp} {p : Addr} : Kept H H p := fun _ _ _ h => h
theorem Kept.trans {H H1 H2 : Hp} {p : Addr} (a : Kept H H1 p) (b : Kept H1 H2 p) : Kept H H2 p := fun c o n h => b c o n (a c o n h)
theorem But.kept {H H' : Hp} {p : Addr} (b : But H H' p) : Kept H H' p := fun c o n h => (b c n).trans h
theorem _root_.L2.Same.kept {H H' : Hp} (s : Same H H') (p : Addr) : Kept H H' p := fun c o _ h => s c o h
section
variable {X : Cx}
/-- a constant of the module: a text, a number -/
theorem pe_gstr {x z : Str} {pos : Pos} (hg : Gl X x) (hm : ∃ t, X.mg x = some (.str z t)) (hd : (x == ("__debug__" : Str)) = false := by decide) : PE X (.Name x pos) (tC (.str z)) := by
  obtain ⟨t, h⟩ := hm
  exact pe_glob hg h ⟨t, rfl⟩ hd
theorem pe_gint {x : Str} {i : Int} {pos : Pos} (hg : Gl X x) (hm : ∃ t, X.mg x = some (.int i t)) (hd : (x == ("__debug__" : Str)) = false := by decide) : PE X (.Name x pos) (tC (.int i)) := by
  obtain ⟨t, h⟩ := hm
  exact pe_glob hg h ⟨t, rfl⟩ hd
/-- within a comprehension -/
theorem ix_listK {K : PySem.W.Frag} (h : X.K = K) : IxR X (rIxL K) := by
  subst h
  exact ix_list
theorem ix_tupK {K : PySem.W.Frag} (h : X.K = K) : IxR X (rIxT K) := by
  subst h
  exact ix_tup
/-- o[i] of a list, for o[i] op= e -/
def rGetL (K : PySem.W.Frag) : V → V → Hp → VK → Prop := fun x y H Q => ∃ p xs i v, x = .ref p ∧ y = .int i ∧ SqL K H p xs ∧ 0 ≤ i ∧ atI xs i = some v ∧ Q v H
theorem pget_list : PGet X (rGetL X.K) := by
  intro pins s σ H x y v u Q I rx ry h
  obtain ⟨p, xs, i, z, rfl, rfl, hq, h0, he, q⟩ := h
  cases rx
  obtain ⟨t, rfl⟩ := ry
  obtain ⟨its, r, pl, hz⟩ := I.list hq
  obtain ⟨j, h1, h2, h3, h4, h5⟩ := atI_get he
  obtain ⟨w, ew, rw'⟩ := r.get h2
  have hl := r.length
  have hn := line63
  have hj : i.toNat = j := by
    rw [seqIndex_of h0 h5] at h1
    exact Option.some.inj h1
  exact wpAny_getItem_list pl.isList h0 (by omega) (by rw [hj]; simpa using ew) ⟨z, H, I, rw', q⟩
/-- isinstance(x, T), T a built-in class -/
def rIsB (K : PySem.W.Frag) : List V → Hp → VK → Prop := fun xs H Q => ∃ (x : V) (T n : String) (b : Bool), xs = [x, .ty n] ∧ TyX K H x (.type T) ∧ kitB T n = some b ∧ Q (.bl b) H
theorem call_isB : CallR X (.builtin "isinstance") (rIsB X.K) := by
  intro pins s σ H xs us Q I r h
  obtain ⟨x, T, n, b, rfl, ty, e, q⟩ := h
  exact call_isi pins s σ H _ us Q I r ⟨x, .ty n, .type T, .type n, b, rfl, .ty n, ty, kit_ty e, q⟩
/-- a text, n times -/
theorem rep_fold (z : Str) : ∀ n : Nat, ((List.replicate n z.cps).foldl (· ++ ·) (#[] : Array Nat)).toList = (List.replicate n z.cps.toList).flatten := by
  have h : ∀ (l : List (Array Nat)) (a : Array Nat), (l.foldl (· ++ ·) a).toList = a.toList ++ (l.map (·.toList)).flatten := by
    intro l
    induction l with
    | nil => intro a; simp
    | cons x l ih => intro a; rw [List.foldl_cons, ih]; simp
  intro n
  rw [h]
  simp
theorem op_mul_strR : OpR X (binaryOp .Mult) (fun x y H Q => ∃ (l : List Nat) (n : Nat), x = .str (S l) ∧ y = .int (n : Int) ∧ 2 ≤ n ∧ n ≤ 1000 ∧ 1 ≤ l.length ∧ l.length ≤ 1000 ∧ Q (.str (S (List.replicate n l).flatten)) H) := by
  intro pins s σ H x y v u Q I rx ry h
  obtain ⟨l, n, rfl, rfl, h2, h3, h4, h5, q⟩ := h
  obtain ⟨t, rfl⟩ := rx
  obtain ⟨t', rfl⟩ := ry
  have hl : (S l).length = l.length := S_len l
  have e1 : ((n : Int) == 1 || (S l).length == 0) = false := by
    rw [hl]
    have a1 : ((n : Int) == 1) = false := by simp; omega
    have a2 : (l.length == 0) = false := by simp; intro z; rw [z] at h4; simp at h4
    rw [a1, a2]; rfl
  have hsz : l.length * n ≤ 1000000 := Nat.le_trans (Nat.mul_le_mul h5 h3) (by decide)
  refine PySem.P.mul_str ?_ (fun _ _ => ?_) (fun _ _ => ?_) ?_
  · have b1 : decide ((n : Int) < -(2 ^ 63 : Int)) = false := decide_eq_false (by omega)
    have b2 : decide ((n : Int) ≥ 2 ^ 63) = false := decide_eq_false (by omega)
    rw [b1, b2]; rfl
  · rw [hl]
    have hp : (l.length : Int) * (n : Int) ≤ 1000000 := by
      have := Int.ofNat_le.mpr hsz
      rw [Int.natCast_mul] at this
      exact this
    have := Int.le_ediv_of_mul_le (show (0 : Int) < (n : Int) by omega) (show (l.length : Int) * (n : Int) ≤ 2 ^ 63 - 1 from Int.le_trans hp (by decide))
    omega
  · rw [hl]
    exact decide_eq_false (by rw [sizeLine_eq, Int.toNat_natCast]; omega)
  · rw [if_neg (by omega), if_neg (by rw [e1]; simp)]
    have ef : (⟨(List.replicate (n : Int).toNat (S l).cps).foldl (· ++ ·) #[]⟩ : Str) = S (List.replicate n l).flatten := by
      have : ((List.replicate (n : Int).toNat (S l).cps).foldl (· ++ ·) (#[] : Array Nat)) = ((List.replicate n l).flatten).toArray := by
        apply Array.ext'
        rw [rep_fold]
        simp
      rw [this]
    rw [ef]
    refine ⟨?_, .str _, H, I.tok _, ⟨_, rfl⟩, q⟩
    rw [S_len, sizeLine_eq]
    simp
    rw [Nat.mul_comm]
    omega
end
/-! ### data that are told the same: _law_same -/
/-- the type of a list or a tuple that is read -/
def IsSeq (K : PySem.W.Frag) (H : Hp) (t : String) (a : Addr) (xs : List V) : Prop := (t = "tuple" ∧ SqT K H a xs ∧ TyX K H (.ref a) (.type "tuple")) ∨ (t = "list" ∧ SqL K H a xs ∧ TyX K H (.ref a) (.type "list"))
theorem IsSeq.tup {K : PySem.W.Frag} {H : Hp} {a : Addr} {xs : List V} (h : H a = some (.tup xs)) : IsSeq K H "tuple" a xs := .inl ⟨rfl, SqT.of h, .base (.tup h)⟩
theorem IsSeq.lst {K : PySem.W.Frag} {H : Hp} {a : Addr} {xs : List V} (h : H a = some (.lst xs)) : IsSeq K H "list" a xs := .inr ⟨rfl, SqL.of h, .base (.lst h)⟩
/-- a number, a text, a truth, None -/
def Leaf : V → Prop
  | .int _ => True
  | .str _ => True
  | .bl _ => True
  | .non => True
  | _ => False
def SameD (K : PySem.W.Frag) (H : Hp) : Nat → V → V → Prop
  | 0, x, y => Leaf x ∧ x = y
  | n + 1, x, y => (Leaf x ∧ x = y) ∨ ∃ (t : String) (a b : Addr) (xs ys : List V), x = .ref a ∧ y = .ref b ∧ IsSeq K H t a xs ∧ IsSeq K H t b ys ∧ xs.length = ys.length ∧ ys.length ≤ 1000000 ∧
      ∀ (i : Nat) (u v : V), xs[i]? = some u → ys[i]? = some v → SameD K H n u v
theorem SameD.leaf {K : PySem.W.Frag} {H : Hp} {n : Nat} {x : V} (h : Leaf x) : SameD K H n x x := by
  cases n with
  | zero => exact ⟨h, rfl⟩
  | succ n => exact .inl ⟨h, rfl⟩
theorem SameD.seq {K : PySem.W.Frag} {H : Hp} {n : Nat} {t : String} {a b : Addr} {xs ys : List V} (h1 : IsSeq K H t a xs) (h2 : IsSeq K H t b ys) (hl : xs.length = ys.length) (hz : ys.length ≤ 1000000)
    (h : ∀ (i : Nat) (u v : V), xs[i]? = some u → ys[i]? = some v → SameD K H n u v) : SameD K H (n + 1) (.ref a) (.ref b) := .inr ⟨t, a, b, xs, ys, rfl, rfl, h1, h2, hl, hz, h⟩
/-- rows of leaves -/
theorem SameD.row {K : PySem.W.Frag} {H : Hp} {n : Nat} {a b : Addr} {xs : List V} (h1 : H a = some (.tup xs)) (h2 : H b = some (.tup xs)) (hz : xs.length ≤ 1000000) (h : ∀ x ∈ xs, Leaf x) : SameD K H (n + 1) (.ref a) (.ref b) :=
  .seq (.tup h1) (.tup h2) rfl hz fun i u v hu hv => by
    rw [hu] at hv
    cases hv
    exact .leaf (h u (List.mem_of_getElem? hu))
def spSame (K : PySem.W.Frag) (n : Nat) : Sp := fun vs H Q _ => ∃ x y : V, vs = [x, y] ∧ SameD K H n x y ∧ Q (.bl true) H
end HL
namespace HL
open PySem PySem.Spec PyProof.Rows L2 SX
/-- isinstance of two built-in classes -/
theorem kit_two {K : PySem.W.Frag} {T a b : String} {x y : Bool} (h1 : kitB T a = some x) (h2 : kitB T b = some y) : PySem.W.kitAny K (.type T) [.type a, .type b] = some (x || y) := by
  have e1 := kit_ty (K := K) h1
  have e2 := kit_ty (K := K) h2
  simp only [PySem.W.kitAny, e1, e2]
  cases x <;> cases y <;> rfl
theorem tyx_same {K : PySem.W.Frag} {H H' : Hp} {x : V} {t : Value} (s : Same H H') (h : TyX K H x t) : TyX K H' x t := by
  cases h with
  | base b =>
    cases b with
    | non => exact .base .non
    | bl y => exact .base (.bl y)
    | int i => exact .base (.int i)
    | str y => exact .base (.str y)
    | flt y => exact .base (.flt y)
    | lst e => exact .base (.lst (s _ _ e))
    | frz e => exact .base (.frz (s _ _ e))
    | tup e => exact .base (.tup (s _ _ e))
    | dK e => exact .base (.dK (s _ _ e))
    | dT e => exact .base (.dT (s _ _ e))
    | ins e h1 h2 h3 h4 h5 => exact .base (.ins (s _ _ e) h1 h2 h3 h4 h5)
  | byt y => exact .byt y
  | set e => exact .set (s _ _ e)
  | kList e c => exact .kList e c
  | kTuple e c => exact .kTuple e c
  | kDict e c => exact .kDict e c
  | fTuple e => exact .fTuple (s _ _ e)
  | fDict e => exact .fDict (s _ _ e)
theorem seqT_same {K : PySem.W.Frag} {H H' : Hp} {a : Addr} {xs : List V} (e : Same H H') (h : SqT K H a xs) : SqT K H' a xs := by
  rcases h with (h | ⟨o, h⟩) | h
  · exact .inl (.inl (e _ _ h))
  · exact .inl (.inr ⟨o, e _ _ h⟩)
  · exact .inr h
theorem isSeq_same {K : PySem.W.Frag} {H H' : Hp} {t : String} {a : Addr} {xs : List V} (s : Same H H') (h : IsSeq K H t a xs) : IsSeq K H' t a xs := by
  rcases h with ⟨e, h1, h2⟩ | ⟨e, h1, h2⟩
  · exact .inl ⟨e, seqT_same s h1, tyx_same s h2⟩
  · exact .inr ⟨e, s.seq h1, tyx_same s h2⟩
theorem sameD_same {K : PySem.W.Frag} {H H' : Hp} (s : Same H H') : ∀ {n : Nat} {x y : V}, SameD K H n x y → SameD K H' n x y
  | 0, x, y, h => h
  | n + 1, x, y, h => by
    rcases h with h | ⟨t, a, b, xs, ys, e1, e2, h1, h2, el, hz, hh⟩
    · exact .inl h
    · exact .inr ⟨t, a, b, xs, ys, e1, e2, isSeq_same s h1, isSeq_same s h2, el, hz, fun i u v hu hv => sameD_same s (hh i u v hu hv)⟩
/-- told the same; the heap may grow -/
def spSameG (K : PySem.W.Frag) (n : Nat) : Sp := fun vs H Q _ => ∃ x y : V, vs = [x, y] ∧ SameD K H n x y ∧ ∀ H', Same H H' → Q (.bl true) H'
end HL
namespace HL
open PySem PySem.Spec PyProof.Rows L2 SX
/-- a list or a tuple, also a locked one -/
def Seqo : HO → Prop
  | .lst _ => True
  | .tup _ => True
  | .frz _ (.lst _) => True
  | .frz _ (.tup _) => True
  | _ => False
def SeqKept (H H' : Hp) : Prop := ∀ a o, H a = some o → Seqo o → H' a = some o
theorem _root_.L2.Same.seqKept {H H' : Hp} (s : Same H H') : SeqKept H H' := fun a o h _ => s a o h
theorem SeqKept.seqT {K : PySem.W.Frag} {H H' : Hp} {a : Addr} {xs : List V} (e : SeqKept H H') (h : SqT K H a xs) : SqT K H' a xs := by
  rcases h with (h | ⟨o, h⟩) | h
  · exact .inl (.inl (e _ _ h True.intro))
  · exact .inl (.inr ⟨o, e _ _ h True.intro⟩)
  · exact .inr h
theorem SeqKept.seq {K : PySem.W.Frag} {H H' : Hp} {a : Addr} {xs : List V} (e : SeqKept H H') (h : SqL K H a xs) : SqL K H' a xs := by
  rcases h with (h | ⟨o, h⟩) | h
  · exact .inl (.inl (e _ _ h True.intro))
  · exact .inl (.inr ⟨o, e _ _ h True.intro⟩)
  · exact .inr h
theorem tyx_tup {K : PySem.W.Frag} {H H' : Hp} {x : V} {t : Value} (s : SeqKept H H') (ht : t = .type "tuple" ∨ t = .type "list") (h : TyX K H x t) : TyX K H' x t := by
  cases h with
  | base b =>
    cases b with
    | non => exact .base .non
    | bl y => exact .base (.bl y)
    | int i => exact .base (.int i)
    | str y => exact .base (.str y)
    | flt y => exact .base (.flt y)
    | lst e => exact .base (.lst (s _ _ e True.intro))
    | frz e => exact .base (.frz (s _ _ e True.intro))
    | tup e => exact .base (.tup (s _ _ e True.intro))
    | dK e => rcases ht with z | z <;> exact absurd (Value.type.inj z) (by decide)
    | dT e => rcases ht with z | z <;> exact absurd (Value.type.inj z) (by decide)
    | ins e h1 h2 h3 h4 h5 => rcases ht with z | z <;> cases z
  | byt y => exact .byt y
  | set e => rcases ht with z | z <;> exact absurd (Value.type.inj z) (by decide)
  | kList e c => exact .kList e c
  | kTuple e c => exact .kTuple e c
  | kDict e c => exact .kDict e c
  | fTuple e => exact .fTuple (s _ _ e True.intro)
  | fDict e => rcases ht with z | z <;> exact absurd (Value.type.inj z) (by decide)
theorem isSeq_kept {K : PySem.W.Frag} {H H' : Hp} {t : String} {a : Addr} {xs : List V} (s : SeqKept H H') (h : IsSeq K H t a xs) : IsSeq K H' t a xs := by
  rcases h with ⟨e, h1, h2⟩ | ⟨e, h1, h2⟩
  · exact .inl ⟨e, s.seqT h1, tyx_tup s (.inl rfl) h2⟩
  · exact .inr ⟨e, s.seq h1, tyx_tup s (.inr rfl) h2⟩
theorem sameD_kept {K : PySem.W.Frag} {H H' : Hp} (s : SeqKept H H') : ∀ {n : Nat} {x y : V}, SameD K H n x y → SameD K H' n x y
  | 0, x, y, h => h
  | n + 1, x, y, h => by
    rcases h with h | ⟨t, a, b, xs, ys, e1, e2, h1, h2, el, hz, hh⟩
    · exact .inl h
    · exact .inr ⟨t, a, b, xs, ys, e1, e2, isSeq_kept s h1, isSeq_kept s h2, el, hz, fun i u v hu hv => sameD_kept s (hh i u v hu hv)⟩
/-- a dict locked, and the way back -/
theorem seqKept_lock {H : Hp} {d : Addr} {kvs : List (Key × V)} {o : HO} (h : H d = some (.dK kvs)) : SeqKept H (upd H d o) := fun a x hx hs => by
  have ne : a ≠ d := fun e => by
    rw [e, h] at hx
    cases hx
    exact hs
  rw [upd_ne ne]
  exact hx
theorem unlock {H H' : Hp} {d : Addr} {u o : HO} (h : H d = some u) (s : Same (upd H d o) H') : Same H (upd H' d u) := fun a x hx => by
  by_cases e : a = d
  · subst e
    rw [upd_same, ← h, hx]
  · rw [upd_ne e]
    exact s a x (by rw [upd_ne e]; exact hx)
end HL
namespace HL
open PySem PySem.Spec PyProof.Rows L2 SX
/-! ### methods, classes -/
/-- a method of the class at C -/
structure DefM (K : PySem.W.Frag) (C : Addr) (x q : Str) (st : Stmt) (ps : List Str) (f : Addr) (fd : FuncData) : Prop where
  F : Fun K x q st f fd
  b : Binds K fd ps []
  m : Meth K C x f
/-- its __init__ -/
structure DefI (K : PySem.W.Frag) (q : Str) (st : Stmt) (ps : List Str) (f : Addr) (fd : FuncData) : Prop where
  F : Fun K "__init__" q st f fd
  b : Binds K fd ps []
structure ClsN (K : PySem.W.Frag) (mg : Str → Option Value) (x : Str) (C fI : Addr) : Prop where
  g : mg x = some (.ref C)
  cl : Cls K C
  make : Mk K C fI
/-! ### fields -/
theorem putF_nil (f : Str) (v : V) : putF f v [] = [(f, v)] := rfl
theorem putF_eq (f : Str) (v x : V) (r : List (Str × V)) : putF f v ((f, x) :: r) = (f, v) :: r := if_pos rfl
theorem putF_ne {f g : Str} (h : ¬ g = f) (v x : V) (r : List (Str × V)) : putF f v ((g, x) :: r) = (g, x) :: putF f v r := if_neg h
theorem lkF_eq (f : Str) (v : V) (r : List (Str × V)) : List.lookup f ((f, v) :: r) = some v := by
  have h : (f == f) = true := beq_iff_eq.mpr rfl
  simp only [List.lookup, h]
theorem lkF_ne {f g : Str} (h : ¬ g = f) (v : V) (r : List (Str × V)) : List.lookup g ((f, v) :: r) = List.lookup g r := by
  have h' : (g == f) = false := beq_eq_false_iff_ne.mpr h
  simp only [List.lookup, h']
/-! ### two lists, item by item -/
inductive All2 {α β : Type _} (R : α → β → Prop) : List α → List β → Prop
  | nil : All2 R [] []
  | cons {x : α} {y : β} {xs : List α} {ys : List β} : R x y → All2 R xs ys → All2 R (x :: xs) (y :: ys)
namespace All2
variable {α β γ : Type _} {R S : α → β → Prop}
theorem len {xs : List α} {ys : List β} (h : All2 R xs ys) : xs.length = ys.length := by
  induction h with
  | nil => rfl
  | cons _ _ ih => simp [ih]
theorem mono {xs : List α} {ys : List β} (h : All2 R xs ys) (f : ∀ x y, R x y → S x y) : All2 S xs ys := by
  induction h with
  | nil => exact .nil
  | cons a _ ih => exact .cons (f _ _ a) ih
theorem app {xs xs' : List α} {ys ys' : List β} (h : All2 R xs ys) (h' : All2 R xs' ys') : All2 R (xs ++ xs') (ys ++ ys') := by
  induction h with
  | nil => exact h'
  | cons a _ ih => exact .cons a ih
theorem one {x : α} {y : β} (h : R x y) : All2 R [x] [y] := .cons h .nil
theorem snoc {xs : List α} {ys : List β} {x : α} {y : β} (h : All2 R xs ys) (a : R x y) : All2 R (xs ++ [x]) (ys ++ [y]) := h.app (one a)
theorem take {xs : List α} {ys : List β} (h : All2 R xs ys) (n : Nat) : All2 R (xs.take n) (ys.take n) := by
  induction h generalizing n with
  | nil => simp; exact .nil
  | cons a _ ih =>
    cases n with
    | zero => exact .nil
    | succ n => exact .cons a (ih n)
theorem drop {xs : List α} {ys : List β} (h : All2 R xs ys) (n : Nat) : All2 R (xs.drop n) (ys.drop n) := by
  induction h generalizing n with
  | nil => simp; exact .nil
  | cons a hb ih =>
    cases n with
    | zero => exact .cons a hb
    | succ n => exact ih n
theorem get {xs : List α} {ys : List β} (h : All2 R xs ys) {i : Nat} {x : α} (e : xs[i]? = some x) : ∃ y, ys[i]? = some y ∧ R x y := by
  induction h generalizing i with
  | nil => simp at e
  | cons a _ ih =>
    cases i with
    | zero =>
      simp at e
      subst e
      exact ⟨_, rfl, a⟩
    | succ i => exact ih (by simpa using e)
theorem getR {xs : List α} {ys : List β} (h : All2 R xs ys) {i : Nat} {y : β} (e : ys[i]? = some y) : ∃ x, xs[i]? = some x ∧ R x y := by
  induction h generalizing i with
  | nil => simp at e
  | cons a _ ih =>
    cases i with
    | zero =>
      simp at e
      subst e
      exact ⟨_, rfl, a⟩
    | succ i => exact ih (by simpa using e)
theorem of_at {xs : List α} {ys : List β} (hl : xs.length = ys.length) (h : ∀ (i : Nat) (x : α) (y : β), xs[i]? = some x → ys[i]? = some y → R x y) : All2 R xs ys := by
  induction xs generalizing ys with
  | nil =>
    cases ys with
    | nil => exact .nil
    | cons _ _ => simp at hl
  | cons x xs ih =>
    cases ys with
    | nil => simp at hl
    | cons y ys => exact .cons (h 0 x y rfl rfl) (ih (by simpa using hl) fun i a b ha hb => h (i + 1) a b (by simpa using ha) (by simpa using hb))
end All2
/-- a row: at v stands a tuple of what f tells -/
def IsRow {α : Type _} (f : α → List V) (H : Hp) (v : V) (x : α) : Prop := ∃ t, v = .ref t ∧ H t = some (.tup (f x))
theorem IsRow.same {α : Type _} {f : α → List V} {H H' : Hp} {v : V} {x : α} (h : IsRow f H v x) (s : ∀ t o, H t = some (.tup o) → H' t = some (.tup o)) : IsRow f H' v x := by
  obtain ⟨t, e, ht⟩ := h
  exact ⟨t, e, s _ _ ht⟩
/-- slices with an end -/
theorem cut_to (xs : List V) (n : Nat) : cutV xs none (some (n : Int)) = xs.take n := by
  unfold cutV
  rw [HT.sIx_none, HT.sIx_nat, Nat.sub_zero, List.drop_zero]
  by_cases h : n ≤ xs.length
  · rw [Nat.min_eq_left h]
  · have h' : xs.length ≤ n := by omega
    rw [Nat.min_eq_right h', List.take_of_length_le (Nat.le_refl _), List.take_of_length_le h']
end HL
namespace Q42
open PySem PySem.Spec PyProof.Rows L2 SX HL
def topS (i : Nat) : Stmt := PySem.Challenge.pw_quillrun_k42_files_keep_a_beginning.main.body.getD i (.Pass ⟨0, 0, 0, 0⟩)
abbrev sGranted : Stmt := topS 1
theorem scGranted : FnScope ["needed", "steps"] ["needed", "steps"] (defScope sGranted) := ⟨rfl, rfl, rfl, by decide +kernel, rfl, by decide +kernel, by decide +kernel⟩
abbrev sFileInit : Stmt := inClass (topS 2) 0
theorem scFileInit : FnScope ["self"] ["self"] (defScope sFileInit) := ⟨rfl, rfl, rfl, by decide +kernel, rfl, by decide +kernel, by decide +kernel⟩
abbrev sFileWrite : Stmt := inClass (topS 2) 1
theorem scFileWrite : FnScope ["self", "data", "steps", "done", "byte"] ["self", "data", "steps"] (defScope sFileWrite) := ⟨rfl, rfl, rfl, by decide +kernel, rfl, by decide +kernel, by decide +kernel⟩
abbrev sFileShorten : Stmt := inClass (topS 2) 2
theorem scFileShorten : FnScope ["self", "size", "steps", "done"] ["self", "size", "steps"] (defScope sFileShorten) := ⟨rfl, rfl, rfl, by decide +kernel, rfl, by decide +kernel, by decide +kernel⟩
abbrev sFileFlush : Stmt := inClass (topS 2) 3
theorem scFileFlush : FnScope ["self", "steps", "done"] ["self", "steps"] (defScope sFileFlush) := ⟨rfl, rfl, rfl, by decide +kernel, rfl, by decide +kernel, by decide +kernel⟩
abbrev sFileContent : Stmt := inClass (topS 2) 4
theorem scFileContent : FnScope ["self"] ["self"] (defScope sFileContent) := ⟨rfl, rfl, rfl, by decide +kernel, rfl, by decide +kernel, by decide +kernel⟩
abbrev sFilePending : Stmt := inClass (topS 2) 5
theorem scFilePending : FnScope ["self"] ["self"] (defScope sFilePending) := ⟨rfl, rfl, rfl, by decide +kernel, rfl, by decide +kernel, by decide +kernel⟩
abbrev sFileLose : Stmt := inClass (topS 2) 6
theorem scFileLose : FnScope ["self", "steps", "arrived", "step"] ["self", "steps"] (defScope sFileLose) := ⟨rfl, rfl, rfl, by decide +kernel, rfl, by decide +kernel, by decide +kernel⟩
abbrev sFileDo : Stmt := inClass (topS 2) 7
theorem scFileDo : FnScope ["self", "step", "word", "number"] ["self", "step"] (defScope sFileDo) := ⟨rfl, rfl, rfl, by decide +kernel, rfl, by decide +kernel, by decide +kernel⟩
abbrev sFileSettle : Stmt := inClass (topS 2) 8
theorem scFileSettle : FnScope ["self"] ["self"] (defScope sFileSettle) := ⟨rfl, rfl, rfl, by decide +kernel, rfl, by decide +kernel, by decide +kernel⟩
abbrev sLawMix : Stmt := topS 4
theorem scLawMix : FnScope ["cell", "k", "value"] ["cell", "k"] (defScope sLawMix) := ⟨rfl, rfl, rfl, by decide +kernel, rfl, by decide +kernel, by decide +kernel⟩
abbrev sLawDraws : Stmt := topS 5
theorem scLawDraws : FnScope ["script", "draws", "k", "cell", "place"] ["script"] (defScope sLawDraws) := ⟨rfl, rfl, rfl, by decide +kernel, rfl, by decide +kernel, by decide +kernel⟩
abbrev sLawAt : Stmt := topS 6
theorem scLawAt : FnScope ["draws", "index"] ["draws", "index"] (defScope sLawAt) := ⟨rfl, rfl, rfl, by decide +kernel, rfl, by decide +kernel, by decide +kernel⟩
abbrev sLawIsInteger : Stmt := topS 7
theorem scLawIsInteger : FnScope ["actual"] ["actual"] (defScope sLawIsInteger) := ⟨rfl, rfl, rfl, by decide +kernel, rfl, by decide +kernel, by decide +kernel⟩
abbrev sLawSame : Stmt := topS 8
theorem scLawSame : FnScope ["actual", "expected", "k"] ["actual", "expected"] (defScope sLawSame) := ⟨rfl, rfl, rfl, by decide +kernel, rfl, by decide +kernel, by decide +kernel⟩
abbrev sLawNext : Stmt := topS 9
theorem scLawNext : FnScope ["state", "limit"] ["state", "limit"] (defScope sLawNext) := ⟨rfl, rfl, rfl, by decide +kernel, rfl, by decide +kernel, by decide +kernel⟩
abbrev sLawAfter : Stmt := topS 10
theorem scLawAfter : FnScope ["data", "steps", "kind", "number"] ["data", "steps"] (defScope sLawAfter) := ⟨rfl, rfl, rfl, by decide +kernel, rfl, by decide +kernel, by decide +kernel⟩
abbrev sLawDeed : Stmt := topS 11
theorem scLawDeed : FnScope ["state", "file", "lasting", "steps", "pick", "limit", "data", "count", "passed", "done", "size", "k", "byte"] ["state", "file", "lasting", "steps"] (defScope sLawDeed) := ⟨rfl, rfl, rfl, by decide +kernel, rfl, by decide +kernel, by decide +kernel⟩
abbrev sLaw : Stmt := topS 12
theorem scLaw : FnScope ["script", "state", "file", "lasting", "steps", "k", "right"] ["script"] (defScope sLaw) := ⟨rfl, rfl, rfl, by decide +kernel, rfl, by decide +kernel, by decide +kernel⟩
structure Txt (mg : Str → Option Value) : Prop where
  len : mg "len" = none
  range : mg "range" = none
  min : mg "min" = none
  isinstance : mg "isinstance" = none
  bool : mg "bool" = none
  int : mg "int" = none
  str : mg "str" = none
  tuple : mg "tuple" = none
  list : mg "list" = none
end Q42
namespace Q42
open PySem PySem.Spec PyProof.Rows L2 SX HL
section
variable {P : Program} {w : World} {K : PySem.W.Frag} {mg : Str → Option Value} {base : Heap}
/-! ### _law_mix -/
def spMix : Sp := fun vs H Q _ => ∃ (c k : Int), vs = [.int c, .int k] ∧ ∀ v, 0 ≤ v → v < 9973 → Q (.int v) H
theorem ok_mix {f : Addr} {fd : FuncData} {k : Nat} (D : DefN K mg "_law_mix" sLawMix ["cell", "k"] f fd) (T : Txt mg) : FnOk P w K mg base CX0 (k + 1) f fd ["cell", "k"] spMix := by
  refine D.F.ok scLawMix (fun vs H Q E h => ?_) (fun cdv A outer s H vs Q E hr h => ?_)
  · obtain ⟨c, k, rfl, _⟩ := h
    rfl
  · obtain ⟨c, k, rfl, qq⟩ := h
    refine ⟨_, (pss_cons (ps_set (i := 2) scLawMix.nd rfl (.inl rfl) (pe_op op_mod (pe_callTy call_int1 (by rfl) T.int HL.boot_int (pa_cons (pe_op op_add (pe_op op_add (pe_op op_mul (pe_callTy call_int1 (by rfl) T.int HL.boot_int (pa_cons (pv 0) pa_nil)) pe_int) (pe_op op_mul (pv 1) pe_int)) pe_int) pa_nil)) pe_int))
        (pss_cons (ps_set (i := 2) scLawMix.nd rfl (.inl rfl) (pe_op op_mod (pe_callTy call_int1 (by rfl) T.int HL.boot_int (pa_cons (pe_op op_add (pe_op op_add (pe_op op_mul (pv 2) (pv 2)) (pe_op op_mul (pv 1) pe_int)) pe_int) pa_nil)) pe_int))
        (pss_one (ps_ret (pe_op op_mod (pe_op op_fdiv (pv 2) pe_int) pe_int))))), ?_⟩
    refine ⟨_, rfl, .inl ⟨c, rfl, _, _, rfl, rfl, .inr ⟨by decide, by decide⟩, _, rfl, _, _, rfl, rfl, .inr ⟨by decide, by decide⟩, _, _, rfl, rfl, _, _, rfl, rfl, .inl ⟨_, rfl, _, _, rfl, rfl, (by show (0 : Int) < 2147483647; decide), ?_⟩⟩⟩
    have v0 := Int.emod_nonneg (c * 48271 + k * 69621 + 12345) (show (2147483647 : Int) ≠ 0 by decide)
    have v1 := Int.emod_lt_of_pos (c * 48271 + k * 69621 + 12345) (show (0 : Int) < 2147483647 by decide)
    revert v0 v1
    dsimp only
    generalize (c * 48271 + k * 69621 + 12345) % 2147483647 = v
    intro v0 v1
    refine ⟨_, rfl, _, rfl, v, v, rfl, rfl, .inl ⟨by omega, by omega⟩, _, rfl, _, _, rfl, rfl, .inr ⟨by decide, by decide⟩, _, _, rfl, rfl, _, _, rfl, rfl, .inl ⟨_, rfl, _, _, rfl, rfl, (by show (0 : Int) < 2147483399; decide), ?_⟩⟩
    refine ⟨_, rfl, _, _, rfl, rfl, ⟨by decide, by decide⟩, _, _, rfl, rfl, (by show (0 : Int) < 9973; decide), qq _ (Int.emod_nonneg _ (by decide)) (Int.emod_lt_of_pos _ (by decide))⟩
end
end Q42
namespace Q42
open PySem PySem.Spec PyProof.Rows L2 SX HL
section
variable {P : Program} {w : World} {K : PySem.W.Frag} {mg : Str → Option Value} {base : Heap}
/-! ### _law_draws -/
def Draws (ds : List Int) : Prop := ∀ x ∈ ds, 0 ≤ x ∧ x < 9973
def spDraws (K : PySem.W.Frag) : Sp := fun vs H Q _ => ∃ (a : Addr) (ns : List Int), vs = [.ref a] ∧ SqL K H a (ns.map V.int) ∧ ns.length ≤ 63 ∧
  ∀ d H' ds, H d = none → Same H H' → H' d = some (.lst (ds.map V.int)) → ds.length ≤ 4000 → Draws ds → Q (.ref d) H'
theorem ok_draws {f fM : Addr} {fd fdM : FuncData} {k : Nat} (D : DefN K mg "_law_draws" sLawDraws ["script"] f fd) (T : Txt mg) (DLawMix : DefN K mg "_law_mix" sLawMix ["cell", "k"] fM fdM) : FnOk P w K mg base CX0 (k + 2) f fd ["script"] (spDraws K) := by
  have GLawMix : FnOk P w K mg base CX0 (k + 1) fM fdM ["cell", "k"] spMix := ok_mix DLawMix T
  refine D.F.ok scLawDraws (fun vs H Q E h => ?_) (fun cdv A outer s H vs Q E hr h => ?_)
  · obtain ⟨a, ns, rfl, _⟩ := h
    rfl
  · obtain ⟨a, ns, rfl, hS, hl, qq⟩ := h
    refine ⟨_, (pss_cons (ps_set (i := 1) scLawDraws.nd rfl (.inl rfl) (pe_lst pa_nil))
        (pss_cons (ps_for PassesOwn.never rfl (pi_range1 (by rfl) T.range (pa_cons (pe_callB (call_min2 rfl) (by rfl) T.min (by decide +kernel) (pa_cons pe_int (pa_cons (pe_callB call_len_seq (by rfl) T.len PySem.boot_len (pa_cons (pv 0) pa_nil)) pa_nil))) pa_nil)) (pg_name (i := 2) scLawDraws.nd rfl (.inl rfl)) (pss_cons (ps_set (i := 3) scLawDraws.nd rfl (.inl rfl) (pe_callTy call_int1 (by rfl) T.int HL.boot_int (pa_cons (pe_ix ix_list (pv 0) (pv 2) (fun _ _ => rfl)) pa_nil)))
        (pss_one (ps_if (pt_cmpR op_lt (pv 3) (pe_op op_pow pe_int pe_int) (nomark _)) (pss_one (ps_expr (pe_bm PySem.F.plainAttrs_list PySem.F.slot_list_append PySem.F.type_list_append mt_append (pv 1) (pa_cons (pe_call GLawMix (hr.mono (by omega)) (by rfl) DLawMix.g DLawMix.F.kp DLawMix.b .nil pass0 (pa_cons (pv 3) (pa_cons (pv 2) pa_nil))) pa_nil)))) (pss_one (ps_for PassesOwn.never rfl (pi_range1 (by rfl) T.range (pa_cons pe_int pa_nil)) (pg_name (i := 4) scLawDraws.nd rfl (.inl rfl)) (pss_one (ps_if (pt_cmpR op_gt (pv 3) pe_int (nomark _)) (pss_cons (ps_expr (pe_bm PySem.F.plainAttrs_list PySem.F.slot_list_append PySem.F.type_list_append mt_append (pv 1) (pa_cons (pe_op op_mod (pe_callTy call_int1 (by rfl) T.int HL.boot_int (pa_cons (pv 3) pa_nil)) pe_int) pa_nil)))
        (pss_one (ps_set (i := 3) scLawDraws.nd rfl (.inl rfl) (pe_op op_fdiv (pv 3) pe_int)))) pss_nil))))))))
        (pss_one (ps_ret (pv 1))))), ?_⟩
    refine ⟨Nat.zero_le _, fun D0 hD => ⟨_, rfl, a, _, rfl, .inl ((same_upd hD).seq hS), 63, _, rfl, _, rfl, ?_⟩⟩
    have hlen : (ns.map V.int).length = ns.length := List.length_map _
    rw [hlen]
    have nn : (if (ns.length : Int) < 63 then (ns.length : Int) else 63) = (ns.length : Int) := by
      split <;> omega
    rw [nn]
    refine ⟨by omega, by omega, ?_⟩
    have ap : ∀ {H' : Hp} {ds : List Int} {v : Int}, Same H H' → Same H (upd H' D0 (.lst (ds.map V.int ++ [.int v]))) := fun s b o hb => by
      rw [upd_ne (ne_of_none hb hD)]
      exact s b o hb
    refine for_range (lo := 0) (n := ns.length) (fun i σ H' => ∃ (ds : List Int) (y2 y3 y4 : Option V), σ = [some (.ref a), some (.ref D0), y2, y3, y4] ∧ Same H H' ∧ H' D0 = some (.lst (ds.map V.int)) ∧ ds.length ≤ 60 * i ∧ Draws ds)
      ⟨[], none, none, none, rfl, same_upd hD, upd_same, Nat.zero_le _, fun _ h => nomatch h⟩ ?_ ?_
    · rintro i σ H' hi ⟨ds, y2, y3, y4, rfl, sm, hd, hdl, hdr⟩
      have hg : atI (ns.map V.int) ((0 : Int) + (i : Int)) = some (.int (ns.getD i 0)) := by
        rw [Int.zero_add]
        refine atI_nat ?_
        simp [hi]
      generalize ns.getD i 0 = x at hg
      refine ⟨_, rfl, _, rfl, a, _, _, _, rfl, rfl, sm.seq hS, hg, .inl ⟨x, rfl, ?_⟩⟩
      refine ⟨_, rfl, 10, 18, rfl, rfl, ⟨by decide, by decide, by decide⟩, _, _, rfl, rfl, _, rfl, ite2 (fun _ => ?_) (fun e => ?_)⟩
      · refine ⟨_, rfl, .inl ⟨rfl, _, SqL.of hd⟩, _, rfl, _, rfl, x, _, rfl, fun v v0 v1 => ⟨D0, _, _, rfl, rfl, hd, ?_, ?_⟩⟩
        · rw [List.length_map]
          exact Nat.lt_of_le_of_lt (show ds.length ≤ 4000 by omega) (by decide)
        · refine ⟨ds ++ [v], _, _, _, rfl, ap sm, by rw [upd_same]; simp, by simp; omega, fun y hy => ?_⟩
          rcases List.mem_append.mp hy with hy | hy
          · exact hdr y hy
          · rw [List.mem_singleton.mp hy]
            exact ⟨v0, v1⟩
      · refine ⟨60, rfl, by decide, by decide, ?_⟩
        refine for_range (lo := 0) (n := 60) (fun j σ H' => ∃ (ds2 : List Int) (x : Int) (y4 : Option V), σ = [some (.ref a), some (.ref D0), some (.int (0 + (i : Int))), some (.int x), y4] ∧ Same H H' ∧ H' D0 = some (.lst (ds2.map V.int)) ∧ ds2.length ≤ 60 * i + j ∧ Draws ds2)
          ⟨ds, x, y4, rfl, sm, hd, hdl, hdr⟩ ?_ ?_
        · rintro j σ H2 hj ⟨ds2, x, y4, rfl, sm2, hd2, hdl2, hdr2⟩
          refine ⟨_, rfl, x, 0, rfl, rfl, _, rfl, ite2 (fun e => ?_) (fun e => ?_)⟩
          · refine ⟨_, rfl, .inl ⟨rfl, _, SqL.of hd2⟩, _, rfl, .inl ⟨x, rfl, x, 9973, rfl, rfl, (by show (0 : Int) < 9973; decide), D0, _, _, rfl, rfl, hd2, ?_, ?_⟩⟩
            · rw [List.length_map]
              exact Nat.lt_of_le_of_lt (show ds2.length ≤ 4000 by omega) (by decide)
            · refine ⟨_, rfl, x, 9973, rfl, rfl, ⟨by decide, by decide⟩, ds2 ++ [x % 9973], x / 9973, _, rfl, ap sm2, by rw [upd_same]; simp, by simp; omega, fun y hy => ?_⟩
              rcases List.mem_append.mp hy with hy | hy
              · exact hdr2 y hy
              · rw [List.mem_singleton.mp hy]
                exact ⟨Int.emod_nonneg _ (by decide), Int.emod_lt_of_pos _ (by decide)⟩
          · exact ⟨ds2, x, _, rfl, sm2, hd2, by omega, hdr2⟩
        · rintro σ H2 ⟨ds2, x, y4, rfl, sm2, hd2, hdl2, hdr2⟩
          exact ⟨ds2, _, _, _, rfl, sm2, hd2, by omega, hdr2⟩
    · rintro σ H' ⟨ds, y2, y3, y4, rfl, sm, hd, hdl, hdr⟩
      exact ⟨_, rfl, qq D0 H' ds hD sm hd (by omega) hdr⟩
/-! ### _law_at -/
def spAt : Sp := fun vs H Q _ => ∃ (d : Addr) (ds : List Int) (i : Int), vs = [.ref d, .int i] ∧ H d = some (.lst (ds.map V.int)) ∧ Draws ds ∧ 0 ≤ i ∧ ∀ v, 0 ≤ v → v < 9973 → Q (.int v) H
theorem ok_at {f fM : Addr} {fd fdM : FuncData} {k : Nat} (D : DefN K mg "_law_at" sLawAt ["draws", "index"] f fd) (T : Txt mg) (DLawMix : DefN K mg "_law_mix" sLawMix ["cell", "k"] fM fdM) : FnOk P w K mg base CX0 (k + 2) f fd ["draws", "index"] spAt := by
  have GLawMix : FnOk P w K mg base CX0 (k + 1) fM fdM ["cell", "k"] spMix := ok_mix DLawMix T
  refine D.F.ok scLawAt (fun vs H Q E h => ?_) (fun cdv A outer s H vs Q E hr h => ?_)
  · obtain ⟨a, ns, i, rfl, _⟩ := h
    rfl
  · obtain ⟨d, ds, i, rfl, hd, hD, i0, qq⟩ := h
    refine ⟨_, (pss_cons (ps_if (pt_cmpR op_lt (pv 1) (pe_callB call_len_seq (by rfl) T.len PySem.boot_len (pa_cons (pv 0) pa_nil)) (nomark _)) (pss_one (ps_ret (pe_ix ix_list (pv 0) (pv 1) (fun _ _ => rfl)))) pss_nil)
        (pss_cons (ps_if (pt_cmpR op_eq (pe_callB call_len_seq (by rfl) T.len PySem.boot_len (pa_cons (pv 0) pa_nil)) pe_int (nomark _)) (pss_one (ps_ret (pe_call GLawMix (hr.mono (by omega)) (by rfl) DLawMix.g DLawMix.F.kp DLawMix.b .nil pass0 (pa_cons (pv 1) (pa_cons pe_int pa_nil))))) pss_nil)
        (pss_one (ps_ret (pe_call GLawMix (hr.mono (by omega)) (by rfl) DLawMix.g DLawMix.F.kp DLawMix.b .nil pass0 (pa_cons (pe_op op_add (pe_ix ix_list (pv 0) (pe_op op_mod (pe_callTy call_int1 (by rfl) T.int HL.boot_int (pa_cons (pv 1) pa_nil)) (pe_callB call_len_seq (by rfl) T.len PySem.boot_len (pa_cons (pv 0) pa_nil))) (fun _ _ => rfl)) (pe_op op_mul (pv 1) pe_int)) (pa_cons (pv 1) pa_nil))))))), ?_⟩
    have hlen : (ds.map V.int).length = ds.length := List.length_map _
    refine ⟨_, rfl, _, rfl, d, _, rfl, .inl (SqL.of hd), _, _, rfl, rfl, _, rfl, ite2 (fun e => ?_) (fun e => ?_)⟩
    · have e2 : i < ((ds.map V.int).length : Int) := of_decide_eq_true e
      rw [hlen] at e2
      have hi : i.toNat < ds.length := by omega
      have hg : atI (ds.map V.int) i = some (.int ds[i.toNat]) := by
        have h0 := atI_nat (xs := ds.map V.int) (j := i.toNat) (v := .int ds[i.toNat]) (by simp [hi])
        have : ((i.toNat : Nat) : Int) = i := by omega
        rwa [this] at h0
      have hb := hD _ (List.getElem_mem hi)
      exact ⟨_, rfl, _, rfl, d, _, i, _, rfl, rfl, SqL.of hd, hg, qq _ hb.1 hb.2⟩
    · refine ⟨_, rfl, d, _, rfl, .inl (SqL.of hd), rfl, _, rfl, ite2 (fun e2 => ?_) (fun e2 => ?_)⟩
      · exact ⟨_, rfl, i, 77, rfl, qq⟩
      · have hp : 0 < ds.length := by
          rcases Nat.eq_zero_or_pos ds.length with z | z
          · exact absurd (decide_eq_true (by rw [hlen, z]; rfl)) e2
          · exact z
        have m0 := Int.emod_nonneg i (show (ds.length : Int) ≠ 0 by omega)
        have m1 := Int.emod_lt_of_pos i (show (0 : Int) < (ds.length : Int) by omega)
        have hi : (i % (ds.length : Int)).toNat < ds.length := by omega
        have hg : atI (ds.map V.int) (i % (ds.length : Int)) = some (.int ds[(i % (ds.length : Int)).toNat]) := by
          have h0 := atI_nat (xs := ds.map V.int) (j := (i % (ds.length : Int)).toNat) (v := .int ds[(i % (ds.length : Int)).toNat]) (by simp [hi])
          have : (((i % (ds.length : Int)).toNat : Nat) : Int) = i % (ds.length : Int) := by omega
          rwa [this] at h0
        generalize ds[(i % (ds.length : Int)).toNat] = x at hg
        refine ⟨_, rfl, _, rfl, .inl ⟨i, rfl, _, rfl, d, _, rfl, .inl (SqL.of hd), ?_⟩⟩
        rw [hlen]
        refine ⟨_, _, rfl, rfl, (by show (0 : Int) < (ds.length : Int); omega), d, _, _, _, rfl, rfl, SqL.of hd, hg, _, rfl, i, 131, rfl, rfl, .inr ⟨by decide, by decide⟩, _, _, rfl, rfl, _, rfl, _, _, rfl, qq⟩
end
end Q42
namespace Q42
open PySem PySem.Spec PyProof.Rows L2 SX HL
section
variable {P : Program} {w : World} {K : PySem.W.Frag} {mg : Str → Option Value} {base : Heap}
/-! ### _law_is_integer -/
def spIsInt : Sp := fun vs H Q _ => ∃ i : Int, vs = [.int i] ∧ Q (.bl true) H
theorem ok_isint {f : Addr} {fd : FuncData} {k : Nat} (D : DefN K mg "_law_is_integer" sLawIsInteger ["actual"] f fd) (T : Txt mg) : FnOk P w K mg base CX0 (k + 1) f fd ["actual"] spIsInt := by
  refine D.F.ok scLawIsInteger (fun vs H Q E h => ?_) (fun cdv A outer s H vs Q E hr h => ?_)
  · obtain ⟨i, rfl, _⟩ := h
    rfl
  · obtain ⟨i, rfl, q⟩ := h
    refine ⟨_, (pss_one (ps_ret (pe_and (pe_callB call_isB (by rfl) T.isinstance HL.boot_isinstance (pa_cons (pv 0) (pa_cons (pe_bltn (v := .ty "int") (by rfl) T.int HL.boot_int rfl) pa_nil))) (pe_one (pe_not (pe_callB call_isB (by rfl) T.isinstance HL.boot_isinstance (pa_cons (pv 0) (pa_cons (pe_bltn (v := .ty "bool") (by rfl) T.bool HL.boot_bool rfl) pa_nil)))))))), ?_⟩
    refine ⟨_, rfl, _, "int", "int", true, rfl, .base (.int i), by decide +kernel, true, rfl, iteT ?_⟩
    exact ⟨_, rfl, _, "int", "bool", false, rfl, .base (.int i), by decide +kernel, false, rfl, q⟩
/-! ### _law_same -/
def spLess (K : PySem.W.Frag) : Nat → Sp
  | 0 => fun _ _ _ _ => False
  | n + 1 => spSameG K n
theorem same_step {f fI : Addr} {fd fdI : FuncData} {n : Nat} (DLawSame : DefN K mg "_law_same" sLawSame ["actual", "expected"] f fd) (T : Txt mg) (DLawIsInteger : DefN K mg "_law_is_integer" sLawIsInteger ["actual"] fI fdI)
    (GLawSame : FnOk P w K mg base CX0 (n + 1) f fd ["actual", "expected"] (spLess K n)) : FnOk P w K mg base CX0 (n + 2) f fd ["actual", "expected"] (spSameG K n) := by
  have GLawIsInteger : FnOk P w K mg base CX0 1 fI fdI ["actual"] spIsInt := ok_isint (k := 0) DLawIsInteger T
  refine DLawSame.F.ok scLawSame (fun vs H Q E h => ?_) (fun cdv A outer s H vs Q E hr h => ?_)
  · obtain ⟨x, y, rfl, _⟩ := h
    rfl
  · obtain ⟨x, y, rfl, hs, q⟩ := h
    refine ⟨_, (pss_cons (ps_if (pt_val (pe_callB call_isiT (by rfl) T.isinstance HL.boot_isinstance (pa_cons (pv 1) (pa_cons (pe_tup (pa_cons (pe_bltn (v := .ty "list") (by rfl) T.list HL.boot_list rfl) (pa_cons (pe_bltn (v := .ty "tuple") (by rfl) T.tuple HL.boot_tuple rfl) pa_nil))) pa_nil)))) (pss_cons (ps_if (PW.pt (pw_or (pt_cmpR op_ne (pe_callB call_isB (by rfl) T.isinstance HL.boot_isinstance (pa_cons (pv 1) (pa_cons (pe_bltn (v := .ty "list") (by rfl) T.list HL.boot_list rfl) pa_nil))) (pe_callB call_isB (by rfl) T.isinstance HL.boot_isinstance (pa_cons (pv 0) (pa_cons (pe_bltn (v := .ty "list") (by rfl) T.list HL.boot_list rfl) pa_nil))) (nomark _)) (pw_or1 (pt_cmpR op_ne (pe_callB call_isB (by rfl) T.isinstance HL.boot_isinstance (pa_cons (pv 1) (pa_cons (pe_bltn (v := .ty "tuple") (by rfl) T.tuple HL.boot_tuple rfl) pa_nil))) (pe_callB call_isB (by rfl) T.isinstance HL.boot_isinstance (pa_cons (pv 0) (pa_cons (pe_bltn (v := .ty "tuple") (by rfl) T.tuple HL.boot_tuple rfl) pa_nil))) (nomark _))))) (pss_one (ps_ret pe_bl)) pss_nil)
        (pss_cons (ps_if (pt_cmpR op_ne (pe_callB call_len_seq (by rfl) T.len PySem.boot_len (pa_cons (pv 0) pa_nil)) (pe_callB call_len_seq (by rfl) T.len PySem.boot_len (pa_cons (pv 1) pa_nil)) (nomark _)) (pss_one (ps_ret pe_bl)) pss_nil)
        (pss_cons (ps_for PassesOwn.never rfl (pi_range1 (by rfl) T.range (pa_cons (pe_callB call_len_seq (by rfl) T.len PySem.boot_len (pa_cons (pv 1) pa_nil)) pa_nil)) (pg_name (i := 2) scLawSame.nd rfl (.inl rfl)) (pss_one (ps_if (pt_not (pt_val (pe_call GLawSame (hr.mono (by omega)) (by rfl) DLawSame.g DLawSame.F.kp DLawSame.b .nil pass0 (pa_cons (pe_ix ix_seq (pv 0) (pv 2) (fun _ _ => rfl)) (pa_cons (pe_ix ix_seq (pv 1) (pv 2) (fun _ _ => rfl)) pa_nil))))) (pss_one (ps_ret pe_bl)) pss_nil)))
        (pss_one (ps_ret pe_bl))))) pss_nil)
        (pss_cons (ps_if (pt_cmp (pc_isN (pv 1))) (pss_one (ps_ret (pe_cmp (pc_isN (pv 0)) rfl))) pss_nil)
        (pss_cons (ps_if (pt_val (pe_callB call_isB (by rfl) T.isinstance HL.boot_isinstance (pa_cons (pv 1) (pa_cons (pe_bltn (v := .ty "bool") (by rfl) T.bool HL.boot_bool rfl) pa_nil)))) (pss_one (ps_ret (pe_and (pe_callB call_isB (by rfl) T.isinstance HL.boot_isinstance (pa_cons (pv 0) (pa_cons (pe_bltn (v := .ty "bool") (by rfl) T.bool HL.boot_bool rfl) pa_nil))) (pe_one (pe_cmpR op_eq (pv 0) (pv 1) (nomark _)))))) pss_nil)
        (pss_cons (ps_if (pt_val (pe_callB call_isB (by rfl) T.isinstance HL.boot_isinstance (pa_cons (pv 1) (pa_cons (pe_bltn (v := .ty "int") (by rfl) T.int HL.boot_int rfl) pa_nil)))) (pss_one (ps_ret (pe_and (pe_call GLawIsInteger (hr.mono (by omega)) (by rfl) DLawIsInteger.g DLawIsInteger.F.kp DLawIsInteger.b .nil pass0 (pa_cons (pv 0) pa_nil)) (pe_one (pe_cmpR op_eq (pv 0) (pv 1) (nomark _)))))) pss_nil)
        (pss_one (ps_ret (pe_and (pe_callB call_isB (by rfl) T.isinstance HL.boot_isinstance (pa_cons (pv 0) (pa_cons (pe_bltn (v := .ty "str") (by rfl) T.str HL.boot_str rfl) pa_nil))) (pe_one (pe_cmpR op_eq (pv 0) (pv 1) (nomark _)))))))))), ?_⟩
    have t2 : 2 ≤ sizeLine := by decide
    have hs : (Leaf x ∧ x = y) ∨ ∃ (m : Nat) (t : String) (a b : Addr) (xs ys : List V), n = m + 1 ∧ x = .ref a ∧ y = .ref b ∧ IsSeq K H t a xs ∧ IsSeq K H t b ys ∧ xs.length = ys.length ∧ ys.length ≤ 1000000 ∧
        ∀ (i : Nat) (u v : V), xs[i]? = some u → ys[i]? = some v → SameD K H m u v := by
      cases n with
      | zero => exact .inl hs
      | succ m =>
        rcases hs with h | ⟨t, a, b, xs, ys, h⟩
        · exact .inl h
        · exact .inr ⟨m, t, a, b, xs, ys, rfl, h⟩
    rcases hs with ⟨lf, rfl⟩ | ⟨m, t, a, b, xs, ys, rfl, rfl, rfl, h1, h2, el, hz, hh⟩
    · cases x with
      | int i =>
        refine ⟨_, rfl, t2, fun p hp => ⟨_, p, _, .type "int", _, _, rfl, upd_same, .cons (.ty _) (.cons (.ty _) .nil), .base (.int i), kit_two (by decide +kernel : kitB "int" "list" = some false) (by decide +kernel : kitB "int" "tuple" = some false), _, rfl, iteF ?_⟩⟩
        refine ⟨_, rfl, _, rfl, iteF ?_⟩
        refine ⟨_, rfl, _, "int", "bool", false, rfl, .base (.int i), by decide +kernel, false, rfl, iteF ?_⟩
        refine ⟨_, rfl, _, "int", "int", true, rfl, .base (.int i), by decide +kernel, true, rfl, iteT ?_⟩
        refine ⟨_, rfl, i, rfl, true, rfl, iteT ⟨_, rfl, _, rfl, rfl, ?_⟩⟩
        rw [decide_eq_true rfl]
        exact q _ (same_upd hp)
      | str z =>
        refine ⟨_, rfl, t2, fun p hp => ⟨_, p, _, .type "str", _, _, rfl, upd_same, .cons (.ty _) (.cons (.ty _) .nil), .base (.str z), kit_two (by decide +kernel : kitB "str" "list" = some false) (by decide +kernel : kitB "str" "tuple" = some false), _, rfl, iteF ?_⟩⟩
        refine ⟨_, rfl, _, rfl, iteF ?_⟩
        refine ⟨_, rfl, _, "str", "bool", false, rfl, .base (.str z), by decide +kernel, false, rfl, iteF ?_⟩
        refine ⟨_, rfl, _, "str", "int", false, rfl, .base (.str z), by decide +kernel, false, rfl, iteF ?_⟩
        refine ⟨_, rfl, _, "str", "str", true, rfl, .base (.str z), by decide +kernel, true, rfl, iteT ?_⟩
        refine ⟨_, rfl, _, rfl, rfl, ?_⟩
        rw [decide_eq_true rfl]
        exact q _ (same_upd hp)
      | bl b =>
        refine ⟨_, rfl, t2, fun p hp => ⟨_, p, _, .type "bool", _, _, rfl, upd_same, .cons (.ty _) (.cons (.ty _) .nil), .base (.bl b), kit_two (by decide +kernel : kitB "bool" "list" = some false) (by decide +kernel : kitB "bool" "tuple" = some false), _, rfl, iteF ?_⟩⟩
        refine ⟨_, rfl, _, rfl, iteF ?_⟩
        refine ⟨_, rfl, _, "bool", "bool", true, rfl, .base (.bl b), by decide +kernel, true, rfl, iteT ?_⟩
        refine ⟨_, rfl, _, "bool", "bool", true, rfl, .base (.bl b), by decide +kernel, true, rfl, iteT ?_⟩
        refine ⟨_, rfl, _, rfl, rfl, ?_⟩
        rw [decide_eq_true rfl]
        exact q _ (same_upd hp)
      | non =>
        refine ⟨_, rfl, t2, fun p hp => ⟨_, p, _, .type "NoneType", _, _, rfl, upd_same, .cons (.ty _) (.cons (.ty _) .nil), .base .non, kit_two (by decide +kernel : kitB "NoneType" "list" = some false) (by decide +kernel : kitB "NoneType" "tuple" = some false), _, rfl, iteF ?_⟩⟩
        refine ⟨_, rfl, _, rfl, iteT ?_⟩
        exact ⟨_, rfl, q _ (same_upd hp)⟩
      | _ => exact (show False from lf).elim
    · have rest : ∀ (i : Nat) (u v : V), xs[i]? = some u → ys[i]? = some v → atI xs ((0 : Int) + (i : Int)) = some u ∧ atI ys ((0 : Int) + (i : Int)) = some v := fun i u v hu hv => by
        rw [Int.zero_add]
        exact ⟨atI_nat hu, atI_nat hv⟩
      have turn : ∀ i : Nat, i < (ys.length : Int).toNat → ∃ u v, xs[i]? = some u ∧ ys[i]? = some v := fun i hi => by
        have i1 : i < ys.length := by omega
        have i2 : i < xs.length := by omega
        exact ⟨_, _, List.getElem?_eq_getElem i2, List.getElem?_eq_getElem i1⟩
      rcases h1 with ⟨rfl, s1, t1⟩ | ⟨rfl, s1, t1⟩
      · rcases h2 with ⟨_, s2, t2'⟩ | ⟨z, _⟩
        · refine ⟨_, rfl, t2, fun p hp => ⟨_, p, _, .type "tuple", _, _, rfl, upd_same, .cons (.ty _) (.cons (.ty _) .nil), tyx_same (same_upd hp) t2', kit_two (by decide +kernel : kitB "tuple" "list" = some false) (by decide +kernel : kitB "tuple" "tuple" = some true), _, rfl, iteT ?_⟩⟩
          have s10 := s1
          have s20 := s2
          have s1 := seqT_same (same_upd (o := .tup [.ty "list", .ty "tuple"]) hp) s1
          have s2 := seqT_same (same_upd (o := .tup [.ty "list", .ty "tuple"]) hp) s2
          refine ⟨_, rfl, _, "tuple", "list", false, rfl, tyx_same (same_upd hp) t2', by decide +kernel, _, rfl, _, "tuple", "list", false, rfl, tyx_same (same_upd hp) t1, by decide +kernel, rfl, _, rfl, iteNS rfl ?_⟩
          refine ⟨_, rfl, _, "tuple", "tuple", true, rfl, tyx_same (same_upd hp) t2', by decide +kernel, _, rfl, _, "tuple", "tuple", true, rfl, tyx_same (same_upd hp) t1, by decide +kernel, rfl, _, rfl, iteNS rfl ?_⟩
          refine ⟨_, rfl, a, xs, rfl, .inr s1, _, rfl, b, ys, rfl, .inr s2, rfl, _, rfl, iteNS (by rw [el]) ?_⟩
          refine ⟨_, rfl, b, ys, rfl, .inr s2, _, rfl, by omega, by omega, ?_⟩
          refine for_range (lo := 0) (n := (ys.length : Int).toNat) (fun i σ H' => Same H H' ∧ ∃ y, σ = [some (.ref a), some (.ref b), y]) ⟨same_upd hp, none, rfl⟩ ?_ ?_
          · rintro i σ H' hi ⟨sm, y, rfl⟩
            obtain ⟨u, v, hu, hv⟩ := turn i hi
            obtain ⟨r1, r2⟩ := rest i u v hu hv
            exact ⟨_, rfl, _, rfl, .inr (.inl ⟨a, xs, _, u, rfl, rfl, seqT_same sm s10, r1, _, rfl, _, rfl, .inr (.inl ⟨b, ys, _, v, rfl, rfl, seqT_same sm s20, r2, u, v, rfl, sameD_same sm (hh i u v hu hv), fun H2 s2 => ⟨true, rfl, iteF ⟨sm.trans s2, _, rfl⟩⟩⟩)⟩)⟩
          · rintro σ H' ⟨sm, y, rfl⟩
            exact q _ sm
        · exact absurd z (by decide)
      · rcases h2 with ⟨z, _⟩ | ⟨_, s2, t2'⟩
        · exact absurd z (by decide)
        · refine ⟨_, rfl, t2, fun p hp => ⟨_, p, _, .type "list", _, _, rfl, upd_same, .cons (.ty _) (.cons (.ty _) .nil), tyx_same (same_upd hp) t2', kit_two (by decide +kernel : kitB "list" "list" = some true) (by decide +kernel : kitB "list" "tuple" = some false), _, rfl, iteT ?_⟩⟩
          have s10 := s1
          have s20 := s2
          have s1 := (same_upd (o := .tup [.ty "list", .ty "tuple"]) hp).seq s1
          have s2 := (same_upd (o := .tup [.ty "list", .ty "tuple"]) hp).seq s2
          refine ⟨_, rfl, _, "list", "list", true, rfl, tyx_same (same_upd hp) t2', by decide +kernel, _, rfl, _, "list", "list", true, rfl, tyx_same (same_upd hp) t1, by decide +kernel, rfl, _, rfl, iteNS rfl ?_⟩
          refine ⟨_, rfl, _, "list", "tuple", false, rfl, tyx_same (same_upd hp) t2', by decide +kernel, _, rfl, _, "list", "tuple", false, rfl, tyx_same (same_upd hp) t1, by decide +kernel, rfl, _, rfl, iteNS rfl ?_⟩
          refine ⟨_, rfl, a, xs, rfl, .inl s1, _, rfl, b, ys, rfl, .inl s2, rfl, _, rfl, iteNS (by rw [el]) ?_⟩
          refine ⟨_, rfl, b, ys, rfl, .inl s2, _, rfl, by omega, by omega, ?_⟩
          refine for_range (lo := 0) (n := (ys.length : Int).toNat) (fun i σ H' => Same H H' ∧ ∃ y, σ = [some (.ref a), some (.ref b), y]) ⟨same_upd hp, none, rfl⟩ ?_ ?_
          · rintro i σ H' hi ⟨sm, y, rfl⟩
            obtain ⟨u, v, hu, hv⟩ := turn i hi
            obtain ⟨r1, r2⟩ := rest i u v hu hv
            exact ⟨_, rfl, _, rfl, .inl ⟨a, xs, _, u, rfl, rfl, sm.seq s10, r1, _, rfl, _, rfl, .inl ⟨b, ys, _, v, rfl, rfl, sm.seq s20, r2, u, v, rfl, sameD_same sm (hh i u v hu hv), fun H2 s2 => ⟨true, rfl, iteF ⟨sm.trans s2, _, rfl⟩⟩⟩⟩⟩
          · rintro σ H' ⟨sm, y, rfl⟩
            exact q _ sm
theorem ok_same {f fI : Addr} {fd fdI : FuncData} (DLawSame : DefN K mg "_law_same" sLawSame ["actual", "expected"] f fd) (T : Txt mg) (DLawIsInteger : DefN K mg "_law_is_integer" sLawIsInteger ["actual"] fI fdI) : ∀ n, FnOk P w K mg base CX0 (n + 2) f fd ["actual", "expected"] (spSameG K n)
  | 0 => same_step DLawSame T DLawIsInteger (DLawSame.F.ok scLawSame (fun vs H Q E h => (show False from h).elim) (fun cdv A outer s H vs Q E hr h => (show False from h).elim))
  | n + 1 => same_step DLawSame T DLawIsInteger (ok_same DLawSame T DLawIsInteger n)
end
end Q42
namespace Q42
open PySem PySem.Spec PyProof.Rows L2 SX HL
section
variable {P : Program} {w : World} {K : PySem.W.Frag} {mg : Str → Option Value} {base : Heap}
/-! ### _law_next -/
def StN (H : Hp) (p q : Addr) (ds : List Int) : Prop := H q = some (.lst (ds.map V.int)) ∧ Draws ds ∧ ∃ i : Int, 0 ≤ i ∧ H p = some (.lst [.ref q, .int i])
theorem StN.ne {H : Hp} {p q : Addr} {ds : List Int} (h : StN H p q ds) : q ≠ p := by
  obtain ⟨h1, _, i, _, h2⟩ := h
  intro e
  subst e
  rw [h1] at h2
  have e2 := HO.lst.inj (Option.some.inj h2)
  cases ds with
  | nil => cases e2
  | cons x r => cases e2
theorem StN.same {H H' : Hp} {p q : Addr} {ds : List Int} (h : StN H p q ds) (s : ∀ b o, b = p ∨ b = q → H b = some o → H' b = some o) : StN H' p q ds := by
  obtain ⟨h1, h3, i, h0, h2⟩ := h
  exact ⟨s _ _ (.inr rfl) h1, h3, i, h0, s _ _ (.inl rfl) h2⟩
def spNext : Sp := fun vs H Q _ => ∃ (p q : Addr) (ds : List Int) (lim : Int), vs = [.ref p, .int lim] ∧ StN H p q ds ∧ 0 < lim ∧
  ∀ H' v, StN H' p q ds → But H H' p → 0 ≤ v → v < lim → Q (.int v) H'
theorem ok_next {f fA fM : Addr} {fd fdA fdM : FuncData} {k : Nat} (D : DefN K mg "_law_next" sLawNext ["state", "limit"] f fd) (T : Txt mg) (DLawAt : DefN K mg "_law_at" sLawAt ["draws", "index"] fA fdA) (DLawMix : DefN K mg "_law_mix" sLawMix ["cell", "k"] fM fdM) : FnOk P w K mg base CX0 (k + 3) f fd ["state", "limit"] spNext := by
  have GLawAt : FnOk P w K mg base CX0 (k + 2) fA fdA ["draws", "index"] spAt := ok_at DLawAt T DLawMix
  refine D.F.ok scLawNext (fun vs H Q E h => ?_) (fun cdv A outer s H vs Q E hr h => ?_)
  · obtain ⟨p, q, ns, lim, rfl, _⟩ := h
    rfl
  · obtain ⟨p, q, ds, lim, rfl, hS, l0, qq⟩ := h
    refine ⟨_, (pss_cons (ps_augS (pv 0) pe_int pget_list pe_int ip_add set_list)
        (pss_one (ps_ret (pe_op op_mod (pe_call GLawAt (hr.mono (by omega)) (by rfl) DLawAt.g DLawAt.F.kp DLawAt.b .nil pass0 (pa_cons (pe_ix ix_list (pv 0) pe_int (fun _ _ => rfl)) (pa_cons (pe_ix ix_list (pv 0) pe_int (fun _ _ => rfl)) pa_nil))) (pv 1))))), ?_⟩
    have ne := hS.ne
    obtain ⟨hq, hD, i, hi, hp⟩ := id hS
    refine ⟨.ref p, rfl, p, _, 1, .int i, rfl, rfl, SqL.of hp, by decide, rfl, i, 1, rfl, rfl, p, _, 1, 1, rfl, rfl, hp, rfl, ?_⟩
    have hq' : upd H p (.lst ([.ref q, .int i].set 1 (.int (i + 1)))) q = some (.lst (ds.map V.int)) := by rw [upd_ne ne]; exact hq
    refine ⟨.ref p, rfl, p, _, 0, .ref q, rfl, rfl, SqL.of upd_same, rfl, .ref p, rfl, p, _, 1, .int (i + 1), rfl, rfl, SqL.of upd_same, rfl, q, ds, i + 1, rfl, hq', hD, by omega, fun v v0 v1 => ⟨.int lim, rfl, v, lim, rfl, rfl, l0, ?_⟩⟩
    exact qq _ _ ⟨hq', hD, i + 1, by omega, upd_same⟩ but_upd (Int.emod_nonneg _ (by omega)) (Int.emod_lt_of_pos _ l0)
end
end Q42
namespace Q42
open PySem PySem.Spec PyProof.Rows L2 SX HL
/-! ### the mathematics: steps on a file -/
def vi (n : Nat) : V := .int (n : Int)
/-- true: shorten to so many; false: a byte more -/
abbrev Step := Bool × Nat
def act (d : List Nat) (s : Step) : List Nat := if s.1 then d.take s.2 else d ++ [s.2]
def after : List Nat → List Step → List Nat
  | d, [] => d
  | d, s :: r => after (act d s) r
theorem after_app (d : List Nat) (a b : List Step) : after d (a ++ b) = after (after d a) b := by
  induction a generalizing d with
  | nil => rfl
  | cons s a ih => exact ih (act d s)
theorem act_len (d : List Nat) (s : Step) : (act d s).length ≤ d.length + 1 := by
  unfold act
  split
  · rw [List.length_take]; omega
  · simp
theorem after_len (d : List Nat) (a : List Step) : (after d a).length ≤ d.length + a.length := by
  induction a generalizing d with
  | nil => exact Nat.le_refl _
  | cons s a ih =>
    have h1 := ih (act d s)
    have h2 := act_len d s
    show (after (act d s) a).length ≤ _
    rw [List.length_cons]
    omega
def wF (s : Step) : List V := [.str (if s.1 then "shorten" else "write"), vi s.2]
def wL (s : Step) : List V := [.int (if s.1 then 1 else 0), vi s.2]
/-! ### the object -/
theorem n12 : ¬ (("_content" : Str) = "_lasting") := by decide +kernel
theorem n13 : ¬ (("_content" : Str) = "_pending") := by decide +kernel
theorem n23 : ¬ (("_lasting" : Str) = "_pending") := by decide +kernel
def flds (c l q : Addr) : List (Str × V) := [("_content", .ref c), ("_lasting", .ref l), ("_pending", .ref q)]
theorem flds_c (c l q : Addr) : (flds c l q).lookup ("_content" : Str) = some (.ref c) := lkF_eq _ _ _
theorem flds_l (c l q : Addr) : (flds c l q).lookup ("_lasting" : Str) = some (.ref l) := by
  unfold flds
  rw [lkF_ne (fun e => n12 e.symm), lkF_eq]
theorem flds_q (c l q : Addr) : (flds c l q).lookup ("_pending" : Str) = some (.ref q) := by
  unfold flds
  rw [lkF_ne (fun e => n13 e.symm), lkF_ne (fun e => n23 e.symm), lkF_eq]
theorem flds_no (c l q : Addr) {m : Str} (h1 : ¬ m = "_content") (h2 : ¬ m = "_lasting") (h3 : ¬ m = "_pending") : (flds c l q).lookup m = none := by
  unfold flds
  rw [lkF_ne h1, lkF_ne h2, lkF_ne h3]
  rfl
theorem put_c (c l q c' : Addr) : putF "_content" (.ref c') (flds c l q) = flds c' l q := by
  unfold flds
  rw [putF_eq]
theorem put_l (c l q l' : Addr) : putF "_lasting" (.ref l') (flds c l q) = flds c l' q := by
  unfold flds
  rw [putF_ne n12, putF_eq]
theorem put_q (c l q q' : Addr) : putF "_pending" (.ref q') (flds c l q) = flds c l q' := by
  unfold flds
  rw [putF_ne n13, putF_ne n23, putF_eq]
structure FileAt (C : Addr) (H : Hp) (p c l q : Addr) (Cn L : List Nat) (S : List Step) : Prop where
  ob : ∃ dx, H p = some (.ins C dx (flds c l q))
  hc : H c = some (.lst (Cn.map vi))
  hl : H l = some (.lst (L.map vi))
  hq : ∃ ts, H q = some (.lst ts) ∧ All2 (IsRow wF H) ts S
  cl : c ≠ l
  cq : c ≠ q
  lq : l ≠ q
def Owns (p c l q b : Addr) : Prop := b = p ∨ b = c ∨ b = l ∨ b = q
/-- what is not the file's is as it was, and not the file's later -/
def Grow (H H' : Hp) (p c l q c' l' q' : Addr) : Prop := ∀ b o, H b = some o → ¬ Owns p c l q b → H' b = some o ∧ ¬ Owns p c' l' q' b
theorem Grow.refl {H : Hp} {p c l q : Addr} : Grow H H p c l q c l q := fun _ _ h n => ⟨h, n⟩
theorem Grow.trans {H H1 H2 : Hp} {p c l q c' l' q' c2 l2 q2 : Addr} (a : Grow H H1 p c l q c' l' q') (b : Grow H1 H2 p c' l' q' c2 l2 q2) : Grow H H2 p c l q c2 l2 q2 := fun x o h n => by
  obtain ⟨h1, n1⟩ := a x o h n
  exact b x o h1 n1
theorem FileAt.tup {C : Addr} {H : Hp} {p c l q : Addr} {Cn L : List Nat} {S : List Step} (F : FileAt C H p c l q Cn L S) {t : Addr} {o : List V} (h : H t = some (.tup o)) : ¬ Owns p c l q t := by
  obtain ⟨⟨dx, ho⟩, hc, hl, ⟨ts, hq, _⟩, _⟩ := F
  rintro (e | e | e | e) <;> subst e
  · rw [ho] at h; cases h
  · rw [hc] at h; cases h
  · rw [hl] at h; cases h
  · rw [hq] at h; cases h
/-- .. of what is not the file's -/
theorem FileAt.keep {C : Addr} {H H' : Hp} {p c l q : Addr} {Cn L : List Nat} {S : List Step} (F : FileAt C H p c l q Cn L S) (k : ∀ b o, H b = some o → Owns p c l q b ∨ (∃ xs, o = .tup xs) → H' b = some o) : FileAt C H' p c l q Cn L S := by
  obtain ⟨⟨dx, ho⟩, hc, hl, ⟨ts, hq, hts⟩, a, b, d⟩ := F
  exact ⟨⟨dx, k _ _ ho (.inl (.inl rfl))⟩, k _ _ hc (.inl (.inr (.inl rfl))), k _ _ hl (.inl (.inr (.inr (.inl rfl)))), ⟨ts, k _ _ hq (.inl (.inr (.inr (.inr rfl)))), hts.mono fun v s h => h.same fun t o e => k _ _ e (.inr ⟨o, rfl⟩)⟩, a, b, d⟩
/-- what the walk asks of the class -/
structure TxtFile (K : PySem.W.Frag) (C : Addr) : Prop where
  nc : NoAttr K C "_content"
  nl : NoAttr K C "_lasting"
  nq : NoAttr K C "_pending"
section
variable {P : Program} {w : World} {K : PySem.W.Frag} {mg : Str → Option Value} {base : Heap}
/-! ### granted -/
def vo (o : Option Nat) : V := match o with | none => .non | some n => vi n
def grant (n : Nat) (o : Option Nat) : Nat := match o with | none => n | some m => min n m
def spGranted : Sp := fun vs H Q _ => ∃ (n : Nat) (o : Option Nat), vs = [vi n, vo o] ∧ Q (vi (grant n o)) H
theorem ok_granted {f : Addr} {fd : FuncData} {k : Nat} (D : DefN K mg "granted" sGranted ["needed", "steps"] f fd) (T : Txt mg) : FnOk P w K mg base CX0 (k + 1) f fd ["needed", "steps"] spGranted := by
  refine D.F.ok scGranted (fun vs H Q E h => ?_) (fun cdv A outer s H vs Q E hr h => ?_)
  · obtain ⟨n, o, rfl, _⟩ := h
    rfl
  · obtain ⟨n, o, rfl, qq⟩ := h
    refine ⟨_, (pss_one (ps_ret (pe_ifExp (pt_cmp (pc_isN (pv 1))) (pv 0) (pe_callB (call_min2 rfl) (by rfl) T.min (by decide +kernel) (pa_cons (pv 0) (pa_cons (pv 1) pa_nil)))))), ?_⟩
    cases o with
    | none => exact ⟨_, rfl, _, rfl, iteT ⟨_, rfl, qq⟩⟩
    | some m =>
      refine ⟨_, rfl, _, rfl, iteF ⟨_, rfl, _, rfl, (n : Int), (m : Int), rfl, ?_⟩⟩
      have e : (if (m : Int) < (n : Int) then (m : Int) else (n : Int)) = ((min n m : Nat) : Int) := by split <;> omega
      show Q (.int (if (m : Int) < (n : Int) then (m : Int) else (n : Int))) H
      rw [e]
      exact qq
/-! ### File -/
def spInit (C : Addr) : Sp := fun vs H Q _ => ∃ (p dx : Addr), vs = [.ref p] ∧ H p = some (.ins C dx []) ∧
  ∀ c l q H', FileAt C H' p c l q [] [] [] → (∀ b o, H b = some o → b ≠ p → H' b = some o ∧ ¬ Owns p c l q b) → Q .non H'
theorem ok_init {f C : Addr} {fd : FuncData} {k : Nat} (D : DefI K "File.__init__" sFileInit ["self"] f fd) (T : Txt mg) {fI : Addr} (CFile : ClsN K mg "File" C fI) (TF : TxtFile K C) : FnOk P w K mg base CX0 (k + 1) f fd ["self"] (spInit C) := by
  refine D.F.ok scFileInit (fun vs H Q E h => ?_) (fun cdv A outer s H vs Q E hr h => ?_)
  · obtain ⟨p, dx, rfl, _⟩ := h
    rfl
  · obtain ⟨p, dx, rfl, hp, qq⟩ := h
    refine ⟨_, (pss_cons (ps_fld (pv 0) (pe_lst pa_nil) rfl)
        (pss_cons (ps_fld (pv 0) (pe_lst pa_nil) rfl)
        (pss_one (ps_fld (pv 0) (pe_lst pa_nil) rfl)))), ?_⟩
    refine ⟨Nat.zero_le _, fun c hc => ⟨_, rfl, p, C, dx, [], rfl, (by rw [upd_ne (ne_of_none hp hc)]; exact hp), CFile.cl, TF.nc, (by show 0 < 1000; decide), ?_⟩⟩
    refine ⟨Nat.zero_le _, fun l hl => ⟨_, rfl, p, C, dx, _, rfl, (by rw [upd_ne (ne_of_none upd_same hl)]; exact upd_same), CFile.cl, TF.nl, (by show 1 < 1000; decide), ?_⟩⟩
    refine ⟨Nat.zero_le _, fun q hq => ⟨_, rfl, p, C, dx, _, rfl, (by rw [upd_ne (ne_of_none upd_same hq)]; exact upd_same), CFile.cl, TF.nq, (by show 2 < 1000; decide), ?_⟩⟩
    have npc : p ≠ c := ne_of_none hp hc
    have hc1 : upd (upd H c (.lst [])) p (.ins C dx (putF "_content" (.ref c) [])) c = some (.lst []) := by rw [upd_ne npc.symm]; exact upd_same
    have npl : p ≠ l := ne_of_none upd_same hl
    have ncl : c ≠ l := ne_of_none hc1 hl
    have hc2 : ∀ o1 o2, upd (upd (upd (upd H c (.lst [])) p o1) l (.lst [])) p o2 c = some (.lst []) := fun o1 o2 => by
      rw [upd_ne npc.symm, upd_ne ncl, upd_ne npc.symm]; exact upd_same
    have hl2 : ∀ o1 o2, upd (upd (upd (upd H c (.lst [])) p o1) l (.lst [])) p o2 l = some (.lst []) := fun o1 o2 => by
      rw [upd_ne npl.symm]; exact upd_same
    have npq : p ≠ q := ne_of_none upd_same hq
    have ncq : c ≠ q := ne_of_none (hc2 _ _) hq
    have nlq : l ≠ q := ne_of_none (hl2 _ _) hq
    refine qq c l q _ ⟨⟨dx, ?_⟩, ?_, ?_, ⟨[], ?_, .nil⟩, ncl, ncq, nlq⟩ ?_
    · rw [upd_same]
      show some (HO.ins C dx (putF "_pending" (.ref q) (putF "_lasting" (.ref l) [("_content", .ref c)]))) = _
      rw [putF_ne n12, putF_nil, putF_ne n13, putF_ne n23, putF_nil]
      rfl
    · rw [upd_ne npc.symm, upd_ne ncq]
      exact hc2 _ _
    · rw [upd_ne npl.symm, upd_ne nlq]
      exact hl2 _ _
    · rw [upd_ne npq.symm]
      exact upd_same
    · intro b o hb nb
      have nbc : b ≠ c := ne_of_none hb hc
      have g1 : ∀ o1, upd (upd H c (.lst [])) p o1 b = some o := fun o1 => by rw [upd_ne nb, upd_ne nbc]; exact hb
      have nbl : b ≠ l := ne_of_none (g1 _) hl
      have g2 : ∀ o1 o2, upd (upd (upd (upd H c (.lst [])) p o1) l (.lst [])) p o2 b = some o := fun o1 o2 => by rw [upd_ne nb, upd_ne nbl]; exact g1 _
      have nbq : b ≠ q := ne_of_none (g2 _ _) hq
      refine ⟨by rw [upd_ne nb, upd_ne nbq]; exact g2 _ _, ?_⟩
      rintro (e | e | e | e)
      · exact nb e
      · exact nbc e
      · exact nbl e
      · exact nbq e
/-- a step done -/
def spDo (C : Addr) : Sp := fun vs H Q _ => ∃ (p c l q t : Addr) (Cn L : List Nat) (S : List Step) (s : Step), vs = [.ref p, .ref t] ∧ FileAt C H p c l q Cn L S ∧ H t = some (.tup (wF s)) ∧ Cn.length ≤ 100000 ∧ S.length ≤ 100000 ∧
  ∀ H' c', Grow H H' p c l q c' l q → FileAt C H' p c' l q (act Cn s) L (S ++ [s]) → Q .non H'
theorem ok_do {f C : Addr} {fd : FuncData} {k : Nat} (D : DefM K C "_do" "File._do" sFileDo ["self", "step"] f fd) (T : Txt mg) {fI : Addr} (CFile : ClsN K mg "File" C fI) (TF : TxtFile K C) : FnOk P w K mg base CX0 (k + 1) f fd ["self", "step"] (spDo C) := by
  refine D.F.ok scFileDo (fun vs H Q E h => ?_) (fun cdv A outer s H vs Q E hr h => ?_)
  · obtain ⟨p, c, l, q, t, Cn, L, S, s, rfl, _⟩ := h
    rfl
  · obtain ⟨p, c, l, q, t, Cn, L, S, s, rfl, F, ht, b1, b2, qq⟩ := h
    refine ⟨_, (pss_cons (ps_asg (pv 1) (pg_tup rfl (pgs_cons (pg_name (i := 2) scFileDo.nd rfl (.inl rfl)) (pgs_cons (pg_name (i := 3) scFileDo.nd rfl (.inl rfl)) pgs_nil))))
        (C8.pss_cut (ps_if (pt_cmpR op_eq (pv 2) pe_str (nomark _)) (pss_one (ps_expr (pe_bm PySem.F.plainAttrs_list PySem.F.slot_list_append PySem.F.type_list_append mt_append (pe_fld (pv 0) rfl) (pa_cons (pv 3) pa_nil)))) (pss_one (ps_fld (pv 0) (pe_slice sl_list (pe_fld (pv 0) rfl) po_none (po_some (pv 3))) rfl)))
        (pss_one (ps_expr (pe_bm PySem.F.plainAttrs_list PySem.F.slot_list_append PySem.F.type_list_append mt_append (pe_fld (pv 0) rfl) (pa_cons (pv 1) pa_nil)))))), ?_⟩
    obtain ⟨⟨dx, ho⟩, hc, hl, ⟨ts, hq, hts⟩, cl, cq, lq⟩ := id F
    have npc : p ≠ c := ne_of ho hc (by intro z; cases z)
    have npl : p ≠ l := ne_of ho hl (by intro z; cases z)
    have npq : p ≠ q := ne_of ho hq (by intro z; cases z)
    refine ⟨_, rfl, t, _, rfl, SqT.of ht, rfl, _, _, rfl, _, _, rfl, rfl, ?_⟩
    refine ⟨fun σ' H' => σ' = [some (.ref p), some (.ref t), some (.str (if s.1 then "shorten" else "write")), some (vi s.2)] ∧ ∃ c', Grow H H' p c l q c' l q ∧ FileAt C H' p c' l q (act Cn s) L S ∧ H' t = some (.tup (wF s)), ?_, ?_⟩
    · obtain ⟨b, n⟩ := s
      cases b with
      | false =>
        refine ⟨_, rfl, rfl, _, rfl, iteT ?_⟩
        refine ⟨_, rfl, p, C, dx, _, _, rfl, ho, CFile.cl, TF.nc, flds_c _ _ _, .inl ⟨rfl, _, SqL.of hc⟩, _, rfl, c, _, _, rfl, rfl, hc, (by rw [List.length_map]; exact Nat.lt_of_le_of_lt b1 (by decide)), ?_⟩
        have nt : t ≠ c := ne_of ht hc (by intro z; cases z)
        have ent : ∀ u o, H u = some (.tup o) → upd H c (.lst (Cn.map vi ++ [vi n])) u = some (.tup o) := fun u o hu => by
          rw [upd_ne (ne_of hu hc (by intro z; cases z))]; exact hu
        refine ⟨rfl, c, fun b o hb nb => ⟨by rw [upd_ne (fun e => nb (.inr (.inl e)))]; exact hb, nb⟩, ⟨⟨dx, by rw [upd_ne npc]; exact ho⟩, ?_, by rw [upd_ne cl.symm]; exact hl, ⟨ts, by rw [upd_ne cq.symm]; exact hq, hts.mono fun v s h => h.same ent⟩, cl, cq, lq⟩, ent _ _ ht⟩
        rw [upd_same]
        simp [act]
      | true =>
        refine ⟨_, rfl, rfl, _, rfl, iteF ?_⟩
        refine ⟨_, rfl, p, C, dx, _, _, rfl, ho, CFile.cl, TF.nc, flds_c _ _ _, _, rfl, (n : Int), rfl, c, _, rfl, SqL.of hc, fun c' hc' => ?_⟩
        have npc' : p ≠ c' := ne_of_none ho hc'
        refine ⟨_, rfl, p, C, dx, _, rfl, by rw [upd_ne npc']; exact ho, CFile.cl, TF.nc, (by show 3 < 1000; decide), ?_⟩
        have ent : ∀ u o, H u = some (.tup o) → ∀ x y, upd (upd H c' x) p y u = some (.tup o) := fun u o hu x y => by
          rw [upd_ne (ne_of hu ho (by intro z; cases z)), upd_ne (ne_of_none hu hc')]; exact hu
        refine ⟨rfl, c', fun b o hb nb => ⟨by rw [upd_ne (fun e => nb (.inl e)), upd_ne (ne_of_none hb hc')]; exact hb, ?_⟩, ⟨⟨dx, ?_⟩, ?_, by rw [upd_ne npl.symm, upd_ne (ne_of_none hl hc')]; exact hl, ⟨ts, by rw [upd_ne npq.symm, upd_ne (ne_of_none hq hc')]; exact hq, hts.mono fun v s h => h.same fun u o hu => ent u o hu _ _⟩, (ne_of_none hl hc').symm, (ne_of_none hq hc').symm, lq⟩, ent _ _ ht _ _⟩
        · rintro (e | e | e | e)
          · exact nb (.inl e)
          · exact (ne_of_none hb hc') e
          · exact nb (.inr (.inr (.inl e)))
          · exact nb (.inr (.inr (.inr e)))
        · rw [upd_same, put_c]
        · rw [upd_ne npc'.symm, upd_same]
          show some (HO.lst (cutV (Cn.map vi) none (some (n : Int)))) = some (HO.lst ((Cn.take n).map vi))
          rw [cut_to, List.map_take]
    · rintro σ' H' ⟨rfl, c', G, F', ht'⟩
      obtain ⟨⟨dx', ho'⟩, hc', hl', ⟨ts', hq', hts'⟩, cl', cq', lq'⟩ := id F'
      have npq' : p ≠ q := npq
      refine ⟨_, rfl, p, C, dx', _, _, rfl, ho', CFile.cl, TF.nq, flds_q _ _ _, .inl ⟨rfl, _, SqL.of hq'⟩, _, rfl, q, _, _, rfl, rfl, hq', (by rw [hts'.len]; exact Nat.lt_of_le_of_lt b2 (by decide)), ?_⟩
      have ent : ∀ u o, H' u = some (.tup o) → upd H' q (.lst (ts' ++ [.ref t])) u = some (.tup o) := fun u o hu => by
        rw [upd_ne (ne_of hu hq' (by intro z; cases z))]; exact hu
      refine qq _ c' (G.trans fun b o hb nb => ⟨by rw [upd_ne (fun e => nb (.inr (.inr (.inr e))))]; exact hb, nb⟩) ⟨⟨dx', by rw [upd_ne npq']; exact ho'⟩, by rw [upd_ne cq']; exact hc', by rw [upd_ne lq']; exact hl', ⟨_, upd_same, ?_⟩, cl', cq', lq'⟩
      exact (hts'.mono fun v s h => h.same ent).snoc ⟨t, rfl, ent _ _ ht'⟩
/-- what was pending lasts -/
def spSettle (C : Addr) : Sp := fun vs H Q _ => ∃ (p c l q : Addr) (Cn L : List Nat) (S : List Step), vs = [.ref p] ∧ FileAt C H p c l q Cn L S ∧
  ∀ H' l' q', Grow H H' p c l q c l' q' → FileAt C H' p c l' q' Cn Cn [] → Q .non H'
theorem ok_settle {f C : Addr} {fd : FuncData} {k : Nat} (D : DefM K C "_settle" "File._settle" sFileSettle ["self"] f fd) (T : Txt mg) {fI : Addr} (CFile : ClsN K mg "File" C fI) (TF : TxtFile K C) : FnOk P w K mg base CX0 (k + 1) f fd ["self"] (spSettle C) := by
  refine D.F.ok scFileSettle (fun vs H Q E h => ?_) (fun cdv A outer s H vs Q E hr h => ?_)
  · obtain ⟨p, c, l, q, Cn, L, S, rfl, _⟩ := h
    rfl
  · obtain ⟨p, c, l, q, Cn, L, S, rfl, F, qq⟩ := h
    refine ⟨_, (pss_cons (ps_fld (pv 0) (pe_callTy call_list_of (by rfl) T.list HL.boot_list (pa_cons (pe_fld (pv 0) rfl) pa_nil)) rfl)
        (pss_one (ps_fld (pv 0) (pe_lst pa_nil) rfl))), ?_⟩
    obtain ⟨⟨dx, ho⟩, hc, hl, ⟨ts, hq, hts⟩, cl, cq, lq⟩ := id F
    have npc : p ≠ c := ne_of ho hc (by intro z; cases z)
    refine ⟨_, rfl, p, C, dx, _, _, rfl, ho, CFile.cl, TF.nc, flds_c _ _ _, c, _, rfl, .inl (SqL.of hc), fun l' hl' => ?_⟩
    have npl' : p ≠ l' := ne_of_none ho hl'
    refine ⟨_, rfl, p, C, dx, _, rfl, by rw [upd_ne npl']; exact ho, CFile.cl, TF.nl, (by show 3 < 1000; decide), ?_⟩
    rw [put_l]
    have hl2 : ∀ x, upd (upd H l' (.lst (Cn.map vi))) p x l' = some (.lst (Cn.map vi)) := fun x => by rw [upd_ne npl'.symm]; exact upd_same
    have hc2 : ∀ x, upd (upd H l' (.lst (Cn.map vi))) p x c = some (.lst (Cn.map vi)) := fun x => by rw [upd_ne npc.symm, upd_ne (ne_of_none hc hl')]; exact hc
    refine ⟨Nat.zero_le _, fun q' hq' => ?_⟩
    have npq' : p ≠ q' := ne_of_none upd_same hq'
    have ncq' : c ≠ q' := ne_of_none (hc2 _) hq'
    have nlq' : l' ≠ q' := ne_of_none (hl2 _) hq'
    refine ⟨_, rfl, p, C, dx, _, rfl, by rw [upd_ne npq']; exact upd_same, CFile.cl, TF.nq, (by show 3 < 1000; decide), ?_⟩
    rw [put_q]
    refine qq _ l' q' (fun b o hb nb => ?_) ⟨⟨dx, upd_same⟩, by rw [upd_ne npc.symm, upd_ne ncq']; exact hc2 _, by rw [upd_ne npl'.symm, upd_ne nlq']; exact hl2 _, ⟨[], by rw [upd_ne npq'.symm]; exact upd_same, .nil⟩, ne_of_none hc hl', ncq', nlq'⟩
    have nbp : b ≠ p := fun e => nb (.inl e)
    have g1 : ∀ x, upd (upd H l' (.lst (Cn.map vi))) p x b = some o := fun x => by rw [upd_ne nbp, upd_ne (ne_of_none hb hl')]; exact hb
    refine ⟨by rw [upd_ne nbp, upd_ne (ne_of_none (g1 _) hq')]; exact g1 _, ?_⟩
    rintro (e | e | e | e)
    · exact nbp e
    · exact nb (.inr (.inl e))
    · exact (ne_of_none hb hl') e
    · exact (ne_of_none (g1 _) hq') e
end
end Q42
namespace Q42
open PySem PySem.Spec PyProof.Rows L2 SX HL
theorem FileAt.own {C : Addr} {H : Hp} {p c l q : Addr} {Cn L : List Nat} {S : List Step} (F : FileAt C H p c l q Cn L S) {b : Addr} (h : Owns p c l q b) : ∃ o, H b = some o := by
  obtain ⟨⟨dx, ho⟩, hc, hl, ⟨ts, hq, _⟩, _⟩ := F
  rcases h with e | e | e | e <;> subst e
  · exact ⟨_, ho⟩
  · exact ⟨_, hc⟩
  · exact ⟨_, hl⟩
  · exact ⟨_, hq⟩
theorem FileAt.fresh {C : Addr} {H : Hp} {p c l q : Addr} {Cn L : List Nat} {S : List Step} (F : FileAt C H p c l q Cn L S) {b : Addr} (h : H b = none) : ¬ Owns p c l q b := fun o => by
  obtain ⟨x, e⟩ := F.own o
  rw [h] at e
  cases e
theorem FileAt.same {C : Addr} {H H' : Hp} {p c l q : Addr} {Cn L : List Nat} {S : List Step} (F : FileAt C H p c l q Cn L S) (s : Same H H') : FileAt C H' p c l q Cn L S := F.keep fun b o h _ => s b o h
theorem grow_same {H H' : Hp} {p c l q : Addr} (s : Same H H') : Grow H H' p c l q c l q := fun b o h n => ⟨s b o h, n⟩
theorem FileAt.rows {C : Addr} {H H' : Hp} {p c l q c' l' q' : Addr} {Cn L : List Nat} {S : List Step} {f : Step → List V} {ts : List V} {R : List Step} (F : FileAt C H p c l q Cn L S) (h : All2 (IsRow f H) ts R) (G : Grow H H' p c l q c' l' q') : All2 (IsRow f H') ts R :=
  h.mono fun v s r => r.same fun t o e => (G t _ e (F.tup e)).1
def bytes (bs : List Nat) : List Step := bs.map fun n => (false, n)
section
variable {P : Program} {w : World} {K : PySem.W.Frag} {mg : Str → Option Value} {base : Heap}
/-! ### write -/
def spWrite (K : PySem.W.Frag) (C : Addr) : Sp := fun vs H Q _ => ∃ (p c l q d : Addr) (Cn L : List Nat) (S : List Step) (bs : List Nat) (o : Option Nat), vs = [.ref p, .ref d, vo o] ∧ FileAt C H p c l q Cn L S ∧ H d = some (.lst (bs.map vi)) ∧ Cn.length + bs.length ≤ 100000 ∧ S.length + bs.length ≤ 100000 ∧
  ∀ H' c', Grow H H' p c l q c' l q → FileAt C H' p c' l q (after Cn (bytes (bs.take (grant bs.length o)))) L (S ++ bytes (bs.take (grant bs.length o))) → Q (vi (grant bs.length o)) H'
theorem ok_write {f C fG fD fI : Addr} {fd fdG fdD : FuncData} {k : Nat} (D : DefM K C "write" "File.write" sFileWrite ["self", "data", "steps"] f fd) (T : Txt mg) (CFile : ClsN K mg "File" C fI) (TF : TxtFile K C)
    (DGranted : DefN K mg "granted" sGranted ["needed", "steps"] fG fdG) (DFileDo : DefM K C "_do" "File._do" sFileDo ["self", "step"] fD fdD) : FnOk P w K mg base CX0 (k + 2) f fd ["self", "data", "steps"] (spWrite K C) := by
  have GGranted : FnOk P w K mg base CX0 (k + 1) fG fdG ["needed", "steps"] spGranted := ok_granted DGranted T
  have GFileDo : FnOk P w K mg base CX0 (k + 1) fD fdD ["self", "step"] (spDo C) := ok_do DFileDo T CFile TF
  refine D.F.ok scFileWrite (fun vs H Q E h => ?_) (fun cdv A outer s H vs Q E hr h => ?_)
  · obtain ⟨p, c, l, q, d, Cn, L, S, bs, o, rfl, _⟩ := h
    rfl
  · obtain ⟨p, c, l, q, d, Cn, L, S, bs, o, rfl, F, hd, b1, b2, qq⟩ := h
    refine ⟨_, (pss_cons (ps_set (i := 3) scFileWrite.nd rfl (.inl rfl) (pe_call GGranted (hr.mono (by omega)) (by rfl) DGranted.g DGranted.F.kp DGranted.b .nil pass0 (pa_cons (pe_callB call_len_seq (by rfl) T.len PySem.boot_len (pa_cons (pv 1) pa_nil)) (pa_cons (pv 2) pa_nil))))
        (pss_cons (ps_for PassesOwn.never rfl (pi_list (pe_slice sl_list (pv 1) po_none (po_some (pv 3)))) (pg_name (i := 4) scFileWrite.nd rfl (.inl rfl)) (pss_one (ps_expr (pe_meth (pv 0) CFile.cl DFileDo.m GFileDo (hr.mono (by omega)) DFileDo.b .nil pass0 (pa_cons (pe_tup (pa_cons pe_str (pa_cons (pv 4) pa_nil))) pa_nil)))))
        (pss_one (ps_ret (pv 3))))), ?_⟩
    refine ⟨_, rfl, d, _, rfl, .inl (SqL.of hd), _, rfl, bs.length, o, by rw [List.length_map]; rfl, ?_⟩
    generalize hg : grant bs.length o = m
    rw [hg] at qq
    refine ⟨_, rfl, _, rfl, (m : Int), rfl, d, _, rfl, SqL.of hd, fun r hr0 => ⟨r, rfl, ⟨_, SqL.of upd_same⟩, ?_⟩⟩
    have s0 : Same H (upd H r (.lst (cutV (bs.map vi) none (some (m : Int))))) := same_upd hr0
    have nr := F.fresh hr0
    have F0 := F.same s0
    refine for_list (K := K) (a := r) (xs := cutV (bs.map vi) none (some (m : Int))) (fun i σ H2 => ∃ (c' : Addr) (y : Option V), σ = [some (.ref p), some (.ref d), some (vo o), some (vi m), y] ∧ Grow (upd H r (.lst (cutV (bs.map vi) none (some (m : Int))))) H2 p c l q c' l q ∧ FileAt C H2 p c' l q (after Cn (bytes ((bs.take m).take i))) L (S ++ bytes ((bs.take m).take i)))
      ⟨c, none, rfl, Grow.refl, by simpa [bytes, after] using F0⟩ (fun i σ H2 _ ⟨c', y, _, G, _⟩ => SqL.of (G r _ upd_same nr).1) ?_ ?_
    · rintro i x σ H2 hi ⟨c', y, rfl, G, F2⟩
      rw [cut_to, ← List.map_take] at hi
      obtain ⟨n, hn, rfl⟩ : ∃ n, (bs.take m)[i]? = some n ∧ x = vi n := by
        rw [List.getElem?_map] at hi
        cases e : (bs.take m)[i]? with
        | none => rw [e] at hi; cases hi
        | some n => rw [e] at hi; exact ⟨n, rfl, (Option.some.inj hi).symm⟩
      have hil : i < (bs.take m).length := (List.getElem?_eq_some_iff.mp hn).1
      have hml : (bs.take m).length ≤ bs.length := by rw [List.length_take]; omega
      have hti : ((bs.take m).take i).length ≤ bs.length := by rw [List.length_take]; omega
      have hbl : (bytes ((bs.take m).take i)).length ≤ bs.length := by unfold bytes; rw [List.length_map]; exact hti
      have htk : (bs.take m).take (i + 1) = (bs.take m).take i ++ [n] := by
        rw [List.take_add_one, hn]
        rfl
      obtain ⟨⟨dx, ho⟩, _⟩ := id F2
      refine ⟨_, rfl, p, dx, _, rfl, ho, flds_no _ _ _ (by decide +kernel) (by decide +kernel) (by decide +kernel), _, rfl, (by show 2 ≤ sizeLine; decide), fun t ht => ?_⟩
      have s2 : Same H2 (upd H2 t (.tup [.str "write", vi n])) := same_upd ht
      refine ⟨p, c', l, q, t, _, L, _, (false, n), rfl, F2.same s2, upd_same, ?_, ?_, fun H3 c3 G3 F3 => ⟨c3, _, rfl, (G.trans (grow_same s2)).trans G3, ?_⟩⟩
      · have := after_len Cn (bytes ((bs.take m).take i))
        omega
      · rw [List.length_append]
        omega
      · rw [htk]
        show FileAt C H3 p c3 l q (after Cn (bytes ((bs.take m).take i ++ [n]))) L (S ++ bytes ((bs.take m).take i ++ [n]))
        have e1 : bytes ((bs.take m).take i ++ [n]) = bytes ((bs.take m).take i) ++ [(false, n)] := by simp [bytes]
        rw [e1, after_app, ← List.append_assoc]
        exact F3
    · rintro σ H2 ⟨c', y, rfl, G, F2⟩
      rw [cut_to, ← List.map_take, List.length_map, List.take_of_length_le (Nat.le_refl _)] at F2
      exact ⟨_, rfl, qq H2 c' ((grow_same s0).trans G) F2⟩
/-! ### shorten, flush -/
def isOne (o : Option Nat) : Bool := grant 1 o == 1
theorem grant_one (o : Option Nat) : grant 1 o = if isOne o then 1 else 0 := by
  unfold isOne
  cases o with
  | none => rfl
  | some m =>
    cases m with
    | zero => rfl
    | succ m =>
      have : grant 1 (some (m + 1)) = 1 := by show min 1 (m + 1) = 1; omega
      rw [this]
      rfl
def spShorten (C : Addr) : Sp := fun vs H Q _ => ∃ (p c l q : Addr) (Cn L : List Nat) (S : List Step) (n : Nat) (o : Option Nat), vs = [.ref p, vi n, vo o] ∧ FileAt C H p c l q Cn L S ∧ Cn.length ≤ 100000 ∧ S.length ≤ 100000 ∧
  ∀ H' c', Grow H H' p c l q c' l q → FileAt C H' p c' l q (after Cn (if isOne o then [(true, n)] else [])) L (S ++ (if isOne o then [(true, n)] else [])) → Q (vi (grant 1 o)) H'
theorem ok_shorten {f C fG fD fI : Addr} {fd fdG fdD : FuncData} {k : Nat} (D : DefM K C "shorten" "File.shorten" sFileShorten ["self", "size", "steps"] f fd) (T : Txt mg) (CFile : ClsN K mg "File" C fI) (TF : TxtFile K C)
    (DGranted : DefN K mg "granted" sGranted ["needed", "steps"] fG fdG) (DFileDo : DefM K C "_do" "File._do" sFileDo ["self", "step"] fD fdD) : FnOk P w K mg base CX0 (k + 2) f fd ["self", "size", "steps"] (spShorten C) := by
  have GGranted : FnOk P w K mg base CX0 (k + 1) fG fdG ["needed", "steps"] spGranted := ok_granted DGranted T
  have GFileDo : FnOk P w K mg base CX0 (k + 1) fD fdD ["self", "step"] (spDo C) := ok_do DFileDo T CFile TF
  refine D.F.ok scFileShorten (fun vs H Q E h => ?_) (fun cdv A outer s H vs Q E hr h => ?_)
  · obtain ⟨p, c, l, q, Cn, L, S, n, o, rfl, _⟩ := h
    rfl
  · obtain ⟨p, c, l, q, Cn, L, S, n, o, rfl, F, b1, b2, qq⟩ := h
    refine ⟨_, (pss_cons (ps_set (i := 3) scFileShorten.nd rfl (.inl rfl) (pe_call GGranted (hr.mono (by omega)) (by rfl) DGranted.g DGranted.F.kp DGranted.b .nil pass0 (pa_cons pe_int (pa_cons (pv 2) pa_nil))))
        (C8.pss_cut (ps_if (pt_cmpR op_eq (pv 3) pe_int (nomark _)) (pss_one (ps_expr (pe_meth (pv 0) CFile.cl DFileDo.m GFileDo (hr.mono (by omega)) DFileDo.b .nil pass0 (pa_cons (pe_tup (pa_cons pe_str (pa_cons (pv 1) pa_nil))) pa_nil)))) pss_nil)
        (pss_one (ps_ret (pv 3))))), ?_⟩
    refine ⟨_, rfl, 1, o, rfl, ?_⟩
    refine ⟨fun σ' H' => σ' = [some (.ref p), some (vi n), some (vo o), some (vi (grant 1 o))] ∧ ∃ c', Grow H H' p c l q c' l q ∧ FileAt C H' p c' l q (after Cn (if isOne o then [(true, n)] else [])) L (S ++ (if isOne o then [(true, n)] else [])), ?_, ?_⟩
    · refine ⟨_, rfl, rfl, _, rfl, ?_⟩
      cases e : isOne o with
      | true =>
        have e1 : grant 1 o = 1 := by rw [grant_one, e]; rfl
        rw [e1]
        refine iteT ?_
        obtain ⟨⟨dx, ho⟩, _⟩ := id F
        refine ⟨_, rfl, p, dx, _, rfl, ho, flds_no _ _ _ (by decide +kernel) (by decide +kernel) (by decide +kernel), _, rfl, (by show 2 ≤ sizeLine; decide), fun t ht => ?_⟩
        have s2 : Same H (upd H t (.tup [.str "shorten", vi n])) := same_upd ht
        exact ⟨p, c, l, q, t, _, L, _, (true, n), rfl, F.same s2, upd_same, b1, b2, fun H3 c3 G3 F3 => ⟨rfl, c3, (grow_same s2).trans G3, F3⟩⟩
      | false =>
        have e1 : grant 1 o = 0 := by rw [grant_one, e]; rfl
        rw [e1]
        refine iteF ⟨rfl, c, Grow.refl, ?_⟩
        simpa [after] using F
    · rintro σ' H' ⟨rfl, c', G, F'⟩
      exact ⟨_, rfl, qq H' c' G F'⟩
def spFlush (C : Addr) : Sp := fun vs H Q _ => ∃ (p c l q : Addr) (Cn L : List Nat) (S : List Step) (o : Option Nat), vs = [.ref p, vo o] ∧ FileAt C H p c l q Cn L S ∧
  ∀ H' l' q', Grow H H' p c l q c l' q' → FileAt C H' p c l' q' Cn (if isOne o then Cn else L) (if isOne o then [] else S) → Q (vi (grant 1 o)) H'
theorem ok_flush {f C fG fS fI : Addr} {fd fdG fdS : FuncData} {k : Nat} (D : DefM K C "flush" "File.flush" sFileFlush ["self", "steps"] f fd) (T : Txt mg) (CFile : ClsN K mg "File" C fI) (TF : TxtFile K C)
    (DGranted : DefN K mg "granted" sGranted ["needed", "steps"] fG fdG) (DFileSettle : DefM K C "_settle" "File._settle" sFileSettle ["self"] fS fdS) : FnOk P w K mg base CX0 (k + 2) f fd ["self", "steps"] (spFlush C) := by
  have GGranted : FnOk P w K mg base CX0 (k + 1) fG fdG ["needed", "steps"] spGranted := ok_granted DGranted T
  have GFileSettle : FnOk P w K mg base CX0 (k + 1) fS fdS ["self"] (spSettle C) := ok_settle DFileSettle T CFile TF
  refine D.F.ok scFileFlush (fun vs H Q E h => ?_) (fun cdv A outer s H vs Q E hr h => ?_)
  · obtain ⟨p, c, l, q, Cn, L, S, o, rfl, _⟩ := h
    rfl
  · obtain ⟨p, c, l, q, Cn, L, S, o, rfl, F, qq⟩ := h
    refine ⟨_, (pss_cons (ps_set (i := 2) scFileFlush.nd rfl (.inl rfl) (pe_call GGranted (hr.mono (by omega)) (by rfl) DGranted.g DGranted.F.kp DGranted.b .nil pass0 (pa_cons pe_int (pa_cons (pv 1) pa_nil))))
        (C8.pss_cut (ps_if (pt_cmpR op_eq (pv 2) pe_int (nomark _)) (pss_one (ps_expr (pe_meth0 (pv 0) CFile.cl DFileSettle.m GFileSettle (hr.mono (by omega)) DFileSettle.b .nil pass0))) pss_nil)
        (pss_one (ps_ret (pv 2))))), ?_⟩
    refine ⟨_, rfl, 1, o, rfl, ?_⟩
    refine ⟨fun σ' H' => σ' = [some (.ref p), some (vo o), some (vi (grant 1 o))] ∧ ∃ l' q', Grow H H' p c l q c l' q' ∧ FileAt C H' p c l' q' Cn (if isOne o then Cn else L) (if isOne o then [] else S), ?_, ?_⟩
    · refine ⟨_, rfl, rfl, _, rfl, ?_⟩
      cases e : isOne o with
      | true =>
        have e1 : grant 1 o = 1 := by rw [grant_one, e]; rfl
        rw [e1]
        refine iteT ?_
        obtain ⟨⟨dx, ho⟩, _⟩ := id F
        exact ⟨_, rfl, p, dx, _, rfl, ho, flds_no _ _ _ (by decide +kernel) (by decide +kernel) (by decide +kernel), p, c, l, q, _, L, _, rfl, F, fun H3 l3 q3 G3 F3 => ⟨rfl, l3, q3, G3, F3⟩⟩
      | false =>
        have e1 : grant 1 o = 0 := by rw [grant_one, e]; rfl
        rw [e1]
        exact iteF ⟨rfl, l, q, Grow.refl, F⟩
    · rintro σ' H' ⟨rfl, l', q', G, F'⟩
      exact ⟨_, rfl, qq H' l' q' G F'⟩
/-! ### content, pending -/
def spContent (C : Addr) : Sp := fun vs H Q _ => ∃ (p c l q : Addr) (Cn L : List Nat) (S : List Step), vs = [.ref p] ∧ FileAt C H p c l q Cn L S ∧ ∀ r, H r = none → Q (.ref r) (upd H r (.lst (Cn.map vi)))
theorem ok_content {f C fI : Addr} {fd : FuncData} {k : Nat} (D : DefM K C "content" "File.content" sFileContent ["self"] f fd) (T : Txt mg) (CFile : ClsN K mg "File" C fI) (TF : TxtFile K C) : FnOk P w K mg base CX0 (k + 1) f fd ["self"] (spContent C) := by
  refine D.F.ok scFileContent (fun vs H Q E h => ?_) (fun cdv A outer s H vs Q E hr h => ?_)
  · obtain ⟨p, c, l, q, Cn, L, S, rfl, _⟩ := h
    rfl
  · obtain ⟨p, c, l, q, Cn, L, S, rfl, F, qq⟩ := h
    refine ⟨_, (pss_one (ps_ret (pe_callTy call_list_of (by rfl) T.list HL.boot_list (pa_cons (pe_fld (pv 0) rfl) pa_nil)))), ?_⟩
    obtain ⟨⟨dx, ho⟩, hc, _⟩ := id F
    exact ⟨_, rfl, p, C, dx, _, _, rfl, ho, CFile.cl, TF.nc, flds_c _ _ _, c, _, rfl, .inl (SqL.of hc), fun r hr => qq r hr⟩
def spPending (C : Addr) : Sp := fun vs H Q _ => ∃ (p c l q : Addr) (Cn L : List Nat) (S : List Step), vs = [.ref p] ∧ FileAt C H p c l q Cn L S ∧ Q (vi S.length) H
theorem ok_pending {f C fI : Addr} {fd : FuncData} {k : Nat} (D : DefM K C "pending" "File.pending" sFilePending ["self"] f fd) (T : Txt mg) (CFile : ClsN K mg "File" C fI) (TF : TxtFile K C) : FnOk P w K mg base CX0 (k + 1) f fd ["self"] (spPending C) := by
  refine D.F.ok scFilePending (fun vs H Q E h => ?_) (fun cdv A outer s H vs Q E hr h => ?_)
  · obtain ⟨p, c, l, q, Cn, L, S, rfl, _⟩ := h
    rfl
  · obtain ⟨p, c, l, q, Cn, L, S, rfl, F, qq⟩ := h
    refine ⟨_, (pss_one (ps_ret (pe_callB call_len_seq (by rfl) T.len PySem.boot_len (pa_cons (pe_fld (pv 0) rfl) pa_nil)))), ?_⟩
    obtain ⟨⟨dx, ho⟩, hc, hl, ⟨ts, hq, hts⟩, _⟩ := id F
    refine ⟨_, rfl, p, C, dx, _, _, rfl, ho, CFile.cl, TF.nq, flds_q _ _ _, q, _, rfl, .inl (SqL.of hq), ?_⟩
    rw [hts.len]
    exact qq
/-! ### lose -/
def spLose (C : Addr) : Sp := fun vs H Q _ => ∃ (p c l q : Addr) (Cn L : List Nat) (S : List Step) (n : Nat), vs = [.ref p, vi n] ∧ FileAt C H p c l q Cn L S ∧ L.length ≤ 40000 ∧ S.length ≤ 40000 ∧
  ∀ H' c' l' q', Grow H H' p c l q c' l' q' → FileAt C H' p c' l' q' (after L (S.take n)) (after L (S.take n)) [] → Q .non H'
theorem ok_lose {f C fS fD fI : Addr} {fd fdS fdD : FuncData} {k : Nat} (D : DefM K C "lose" "File.lose" sFileLose ["self", "steps"] f fd) (T : Txt mg) (CFile : ClsN K mg "File" C fI) (TF : TxtFile K C)
    (DFileSettle : DefM K C "_settle" "File._settle" sFileSettle ["self"] fS fdS) (DFileDo : DefM K C "_do" "File._do" sFileDo ["self", "step"] fD fdD) : FnOk P w K mg base CX0 (k + 2) f fd ["self", "steps"] (spLose C) := by
  have GFileSettle : FnOk P w K mg base CX0 (k + 1) fS fdS ["self"] (spSettle C) := ok_settle DFileSettle T CFile TF
  have GFileDo : FnOk P w K mg base CX0 (k + 1) fD fdD ["self", "step"] (spDo C) := ok_do DFileDo T CFile TF
  refine D.F.ok scFileLose (fun vs H Q E h => ?_) (fun cdv A outer s H vs Q E hr h => ?_)
  · obtain ⟨p, c, l, q, Cn, L, S, n, rfl, _⟩ := h
    rfl
  · obtain ⟨p, c, l, q, Cn, L, S, n, rfl, F, b1, b2, qq⟩ := h
    refine ⟨_, (pss_cons (ps_set (i := 2) scFileLose.nd rfl (.inl rfl) (pe_slice sl_list (pe_fld (pv 0) rfl) po_none (po_some (pv 1))))
        (pss_cons (ps_fld (pv 0) (pe_callTy call_list_of (by rfl) T.list HL.boot_list (pa_cons (pe_fld (pv 0) rfl) pa_nil)) rfl)
        (pss_cons (ps_for PassesOwn.never rfl (pi_list (pv 2)) (pg_name (i := 3) scFileLose.nd rfl (.inl rfl)) (pss_one (ps_expr (pe_meth (pv 0) CFile.cl DFileDo.m GFileDo (hr.mono (by omega)) DFileDo.b .nil pass0 (pa_cons (pv 3) pa_nil)))))
        (pss_one (ps_expr (pe_meth0 (pv 0) CFile.cl DFileSettle.m GFileSettle (hr.mono (by omega)) DFileSettle.b .nil pass0)))))), ?_⟩
    obtain ⟨⟨dx, ho⟩, hc, hl, ⟨ts, hq, hts⟩, cl, cq, lq⟩ := id F
    have npl : p ≠ l := ne_of ho hl (by intro z; cases z)
    have npq : p ≠ q := ne_of ho hq (by intro z; cases z)
    refine ⟨_, rfl, p, C, dx, _, _, rfl, ho, CFile.cl, TF.nq, flds_q _ _ _, _, rfl, (n : Int), rfl, q, _, rfl, SqL.of hq, fun r hr0 => ?_⟩
    rw [cut_to]
    have nr := F.fresh hr0
    have s0 : Same H (upd H r (.lst (ts.take n))) := same_upd hr0
    have F0 := F.same s0
    have o0 : upd H r (.lst (ts.take n)) p = some (.ins C dx (flds c l q)) := s0 _ _ ho
    refine ⟨_, rfl, p, C, dx, _, _, rfl, o0, CFile.cl, TF.nl, flds_l _ _ _, l, _, rfl, .inl (SqL.of (s0 _ _ hl)), fun c1 hc1 => ?_⟩
    have s1 : Same (upd H r (.lst (ts.take n))) (upd (upd H r (.lst (ts.take n))) c1 (.lst (L.map vi))) := same_upd hc1
    refine ⟨_, rfl, p, C, dx, _, rfl, s1 _ _ o0, CFile.cl, TF.nc, (by show 3 < 1000; decide), ?_⟩
    rw [put_c]
    generalize hH1 : upd (upd H r (.lst (ts.take n))) c1 (.lst (L.map vi)) = H1
    rw [hH1] at s1
    have g1 : H1 c1 = some (.lst (L.map vi)) := by rw [← hH1]; exact upd_same
    have F1 := F0.same s1
    obtain ⟨⟨dx1, ho1⟩, _, hl1, ⟨ts1, hq1, hts1⟩, _⟩ := id F1
    have nc1 := F0.fresh hc1
    have npc1 : p ≠ c1 := fun e => nc1 (.inl e.symm)
    -- the object with its content anew
    have s01 : ∀ b o, H b = some o → H1 b = some o := fun b o h => s1 _ _ (s0 _ _ h)
    have F2 : FileAt C (upd H1 p (.ins C dx (flds c1 l q))) p c1 l q L L S := by
      refine ⟨⟨dx, upd_same⟩, by rw [upd_ne npc1.symm]; exact g1, by rw [upd_ne npl.symm]; exact hl1, ⟨ts1, by rw [upd_ne npq.symm]; exact hq1, hts1.mono fun v s h => h.same fun t o e => ?_⟩, fun e => nc1 (.inr (.inr (.inl e))), fun e => nc1 (.inr (.inr (.inr e))), lq⟩
      rw [upd_ne (ne_of e ho1 (by intro z; cases z))]
      exact e
    have G2 : Grow H (upd H1 p (.ins C dx (flds c1 l q))) p c l q c1 l q := fun b o hb nb => by
      refine ⟨by rw [upd_ne (fun e => nb (.inl e))]; exact s01 _ _ hb, ?_⟩
      rintro (e | e | e | e)
      · exact nb (.inl e)
      · exact (ne_of_none (s0 _ _ hb) hc1) e
      · exact nb (.inr (.inr (.inl e)))
      · exact nb (.inr (.inr (.inr e)))
    have nrp : r ≠ p := fun e => nr (.inl e)
    have hr2 : upd H1 p (.ins C dx (flds c1 l q)) r = some (.lst (ts.take n)) := by rw [upd_ne nrp]; exact s1 _ _ upd_same
    have nr2 : ¬ Owns p c1 l q r := by
      rintro (e | e | e | e)
      · exact nr (.inl e)
      · exact (ne_of_none upd_same hc1) e
      · exact nr (.inr (.inr (.inl e)))
      · exact nr (.inr (.inr (.inr e)))
    have hts2 : All2 (IsRow wF (upd H1 p (.ins C dx (flds c1 l q)))) (ts.take n) (S.take n) := (F.rows hts G2).take n
    generalize upd H1 p (.ins C dx (flds c1 l q)) = H2 at F2 G2 hr2 hts2
    refine ⟨_, rfl, r, rfl, ⟨_, SqL.of hr2⟩, ?_⟩
    refine for_list (K := K) (a := r) (xs := ts.take n) (fun i σ H3 => ∃ (c' : Addr) (y : Option V), σ = [some (.ref p), some (vi n), some (.ref r), y] ∧ Grow H2 H3 p c1 l q c' l q ∧ FileAt C H3 p c' l q (after L ((S.take n).take i)) L (S ++ (S.take n).take i))
      ⟨c1, none, rfl, Grow.refl, by simpa [after] using F2⟩ (fun i σ H3 _ ⟨c', y, _, G, _⟩ => SqL.of (G r _ hr2 nr2).1) ?_ ?_
    · rintro i x σ H3 hi ⟨c', y, rfl, G, F3⟩
      obtain ⟨st, hst, hrow⟩ := (F2.rows hts2 G).get hi
      obtain ⟨t, rfl, ht⟩ := hrow
      have hil : i < (S.take n).length := (List.getElem?_eq_some_iff.mp hst).1
      have hml : (S.take n).length ≤ S.length := by rw [List.length_take]; omega
      have hti : ((S.take n).take i).length ≤ S.length := by rw [List.length_take]; omega
      have htk : (S.take n).take (i + 1) = (S.take n).take i ++ [st] := by
        rw [List.take_add_one, hst]
        rfl
      obtain ⟨⟨dx3, ho3⟩, _⟩ := id F3
      refine ⟨_, rfl, p, dx3, _, rfl, ho3, flds_no _ _ _ (by decide +kernel) (by decide +kernel) (by decide +kernel), _, rfl, p, c', l, q, t, _, L, _, st, rfl, F3, ht, ?_, ?_, fun H4 c4 G4 F4 => ⟨c4, _, rfl, G.trans G4, ?_⟩⟩
      · have := after_len L ((S.take n).take i)
        omega
      · rw [List.length_append]
        omega
      · rw [htk, after_app, ← List.append_assoc]
        exact F4
    · rintro σ H3 ⟨c', y, rfl, G, F3⟩
      have e1 : (ts.take n).length = (S.take n).length := hts2.len
      rw [e1, List.take_of_length_le (Nat.le_refl _)] at F3
      obtain ⟨⟨dx3, ho3⟩, _⟩ := id F3
      exact ⟨_, rfl, p, dx3, _, rfl, ho3, flds_no _ _ _ (by decide +kernel) (by decide +kernel) (by decide +kernel), p, c', l, q, _, _, _, rfl, F3, fun H4 l4 q4 G4 F4 => qq H4 c' l4 q4 ((G2.trans G).trans G4) F4⟩
end
end Q42
namespace Q42
open PySem PySem.Spec PyProof.Rows L2 SX HL
section
variable {P : Program} {w : World} {K : PySem.W.Frag} {mg : Str → Option Value} {base : Heap}
/-! ### _law_after -/
def spAfter (K : PySem.W.Frag) : Sp := fun vs H Q _ => ∃ (d st : Addr) (L : List Nat) (ts : List V) (S : List Step), vs = [.ref d, .ref st] ∧ H d = some (.lst (L.map vi)) ∧ H st = some (.lst ts) ∧ All2 (IsRow wL H) ts S ∧ L.length + S.length ≤ 40000 ∧
  ∀ H' r, Same H H' → H r = none → H' r = some (.lst ((after L S).map vi)) → Q (.ref r) H'
theorem ok_after {f : Addr} {fd : FuncData} {k : Nat} (D : DefN K mg "_law_after" sLawAfter ["data", "steps"] f fd) (T : Txt mg) : FnOk P w K mg base CX0 (k + 1) f fd ["data", "steps"] (spAfter K) := by
  refine D.F.ok scLawAfter (fun vs H Q E h => ?_) (fun cdv A outer s H vs Q E hr h => ?_)
  · obtain ⟨d, st, L, ts, S, rfl, _⟩ := h
    rfl
  · obtain ⟨d, st, L, ts, S, rfl, hd, hst, hts, hb, qq⟩ := h
    refine ⟨_, (pss_cons (ps_set (i := 0) scLawAfter.nd rfl (.inl rfl) (pe_callTy call_list_of (by rfl) T.list HL.boot_list (pa_cons (pv 0) pa_nil)))
        (pss_cons (ps_for PassesOwn.never rfl (pi_list (pv 1)) (pg_tup rfl (pgs_cons (pg_name (i := 2) scLawAfter.nd rfl (.inl rfl)) (pgs_cons (pg_name (i := 3) scLawAfter.nd rfl (.inl rfl)) pgs_nil))) (pss_one (ps_if (pt_cmpR op_eq (pv 2) pe_int (nomark _)) (pss_one (ps_expr (pe_bm PySem.F.plainAttrs_list PySem.F.slot_list_append PySem.F.type_list_append mt_append (pv 0) (pa_cons (pv 3) pa_nil)))) (pss_one (ps_set (i := 0) scLawAfter.nd rfl (.inl rfl) (pe_slice sl_list (pv 0) po_none (po_some (pv 3))))))))
        (pss_one (ps_ret (pv 0))))), ?_⟩
    refine ⟨_, rfl, d, _, rfl, .inl (SqL.of hd), fun r hr0 => ?_⟩
    have s0 : Same H (upd H r (.lst (L.map vi))) := same_upd hr0
    refine ⟨_, rfl, st, rfl, ⟨_, SqL.of (s0 _ _ hst)⟩, ?_⟩
    refine for_list (K := K) (a := st) (xs := ts) (fun i σ H2 => ∃ (r : Addr) (y z : Option V), σ = [some (.ref r), some (.ref st), y, z] ∧ Same H H2 ∧ H r = none ∧ H2 r = some (.lst ((after L (S.take i)).map vi)))
      ⟨r, none, none, rfl, s0, hr0, upd_same⟩ (fun i σ H2 _ ⟨_, _, _, _, s, _⟩ => SqL.of (s _ _ hst)) ?_ ?_
    · rintro i x σ H2 hi ⟨r, y, z, rfl, s2, hr0, hr2⟩
      obtain ⟨st', hs', t, rfl, ht⟩ := hts.get hi
      have hil : i < S.length := (List.getElem?_eq_some_iff.mp hs').1
      have htk : S.take (i + 1) = S.take i ++ [st'] := by
        rw [List.take_add_one, hs']
        rfl
      have hln : (after L (S.take i)).length ≤ 40000 := by
        have := after_len L (S.take i)
        rw [List.length_take] at this
        omega
      obtain ⟨b, n⟩ := st'
      refine ⟨t, _, rfl, SqT.of (s2 _ _ ht), rfl, _, _, rfl, _, _, rfl, rfl, ?_⟩
      cases b with
      | false =>
        refine ⟨_, rfl, rfl, _, rfl, iteT ?_⟩
        refine ⟨_, rfl, .inl ⟨rfl, _, SqL.of hr2⟩, _, rfl, r, _, _, rfl, rfl, hr2, (by rw [List.length_map]; exact Nat.lt_of_le_of_lt hln (by decide)), ?_⟩
        refine ⟨r, _, _, rfl, fun b o hb => by rw [upd_ne (ne_of_none hb hr0)]; exact s2 b o hb, hr0, ?_⟩
        rw [upd_same, htk, after_app]
        simp [after, act]
      | true =>
        refine ⟨_, rfl, rfl, _, rfl, iteF ?_⟩
        refine ⟨_, rfl, _, rfl, (n : Int), rfl, r, _, rfl, SqL.of hr2, fun r' hr' => ?_⟩
        have n0 : H r' = none := by
          cases e : H r' with
          | none => rfl
          | some o => rw [s2 _ _ e] at hr'; cases hr'
        refine ⟨r', _, _, rfl, fun b o hb => by rw [upd_ne (ne_of_none hb n0)]; exact s2 b o hb, n0, ?_⟩
        rw [upd_same, htk, after_app, cut_to, ← List.map_take]
        rfl
    · rintro σ H2 ⟨r, y, z, rfl, s2, hr0, hr2⟩
      rw [hts.len, List.take_of_length_le (Nat.le_refl _)] at hr2
      exact ⟨_, rfl, qq H2 r s2 hr0 hr2⟩
end
/-! ### where the law stands -/
structure LawAt (C : Addr) (H : Hp) (ps qs : Addr) (ds : List Int) (p c l q la st : Addr) (L : List Nat) (S : List Step) : Prop where
  S0 : StN H ps qs ds
  F : FileAt C H p c l q (after L S) L S
  hla : H la = some (.lst (L.map vi))
  hst : ∃ ts, H st = some (.lst ts) ∧ All2 (IsRow wL H) ts S
  o1 : ¬ Owns p c l q ps
  o2 : ¬ Owns p c l q qs
  o3 : ¬ Owns p c l q la
  o4 : ¬ Owns p c l q st
  n1 : la ≠ ps
  n2 : st ≠ ps
section
variable {C : Addr} {H H' : Hp} {ps qs p c l q la st : Addr} {ds : List Int} {L : List Nat} {S : List Step}
theorem LawAt.keep (W : LawAt C H ps qs ds p c l q la st L S) (k : ∀ b o, b ≠ ps → H b = some o → H' b = some o) (s : StN H' ps qs ds) : LawAt C H' ps qs ds p c l q la st L S := by
  obtain ⟨ts, h1, h2⟩ := W.hst
  have tn : ∀ t o, H t = some (.tup o) → t ≠ ps := fun t o e z => by
    obtain ⟨_, _, i, _, h⟩ := W.S0
    rw [z, h] at e
    cases e
  refine ⟨s, W.F.keep fun b o hb h => k b o ?_ hb, k _ _ W.n1 W.hla, ⟨ts, k _ _ W.n2 h1, h2.mono fun v x r => r.same fun t o e => k _ _ (tn t o e) e⟩, W.o1, W.o2, W.o3, W.o4, W.n1, W.n2⟩
  rintro rfl
  rcases h with h | ⟨xs, rfl⟩
  · exact W.o1 h
  · exact tn _ _ hb rfl
theorem LawAt.next (W : LawAt C H ps qs ds p c l q la st L S) (s : StN H' ps qs ds) (b : But H H' ps) : LawAt C H' ps qs ds p c l q la st L S := W.keep (fun x o n h => by rw [b x n]; exact h) s
theorem LawAt.same (W : LawAt C H ps qs ds p c l q la st L S) (s : Same H H') : LawAt C H' ps qs ds p c l q la st L S := W.keep (fun x o _ h => s x o h) (W.S0.same fun b o _ h => s b o h)
theorem LawAt.grow {c' l' q' : Addr} {L' : List Nat} {S' : List Step} (W : LawAt C H ps qs ds p c l q la st L S) (G : Grow H H' p c l q c' l' q') (F : FileAt C H' p c' l' q' (after L' S') L' S') {la' st' : Addr}
    (hla : H' la' = some (.lst (L'.map vi))) (hst : ∃ ts, H' st' = some (.lst ts) ∧ All2 (IsRow wL H') ts S') (o3 : ¬ Owns p c' l' q' la') (o4 : ¬ Owns p c' l' q' st') (n1 : la' ≠ ps) (n2 : st' ≠ ps) : LawAt C H' ps qs ds p c' l' q' la' st' L' S' := by
  obtain ⟨h1, h3, i, h0, h2⟩ := id W.S0
  have g1 := G _ _ h1 W.o2
  have g2 := G _ _ h2 W.o1
  exact ⟨⟨g1.1, h3, i, h0, g2.1⟩, F, hla, hst, g2.2, g1.2, o3, o4, n1, n2⟩
end
end Q42
namespace Q42
open PySem PySem.Spec PyProof.Rows L2 SX HL
section
variable {C : Addr} {H H' : Hp} {ps qs p c l q la st : Addr} {ds : List Int} {L : List Nat} {S : List Step}
def Ours (p c l q la st qs ps b : Addr) : Prop := Owns p c l q b ∨ b = la ∨ b = st ∨ b = qs ∨ b = ps
theorem LawAt.fresh (W : LawAt C H ps qs ds p c l q la st L S) {b : Addr} (h : H b = none) : ¬ Ours p c l q la st qs ps b := by
  obtain ⟨ts, h1, _⟩ := W.hst
  obtain ⟨g1, _, i, _, g2⟩ := W.S0
  rintro (e | e | e | e | e)
  · exact W.F.fresh h e
  · subst e; rw [W.hla] at h; cases h
  · subst e; rw [h1] at h; cases h
  · subst e; rw [g1] at h; cases h
  · subst e; rw [g2] at h; cases h
theorem LawAt.upd {D : Addr} {o : HO} (W : LawAt C H ps qs ds p c l q la st L S) (hD : ¬ Ours p c l q la st qs ps D) (ht : ∀ xs, ¬ H D = some (.tup xs)) : LawAt C (upd H D o) ps qs ds p c l q la st L S := by
  obtain ⟨ts, h1, h2⟩ := W.hst
  obtain ⟨g1, g3, i, g0, g2⟩ := W.S0
  have k : ∀ b x, b ≠ D → H b = some x → L2.upd H D o b = some x := fun b x n h => by rw [upd_ne n]; exact h
  have tn : ∀ t xs, H t = some (.tup xs) → t ≠ D := fun t xs e z => ht xs (by rw [← z]; exact e)
  refine ⟨⟨k _ _ (fun e => hD (.inr (.inr (.inr (.inl e.symm))))) g1, g3, i, g0, k _ _ (fun e => hD (.inr (.inr (.inr (.inr e.symm))))) g2⟩, W.F.keep fun b x hb h => k b x ?_ hb, k _ _ (fun e => hD (.inr (.inl e.symm))) W.hla,
    ⟨ts, k _ _ (fun e => hD (.inr (.inr (.inl e.symm)))) h1, h2.mono fun v s r => r.same fun t xs e => k _ _ (tn t xs e) e⟩, W.o1, W.o2, W.o3, W.o4, W.n1, W.n2⟩
  rintro rfl
  rcases h with h | ⟨xs, rfl⟩
  · exact hD (.inl h)
  · exact ht _ hb
end
theorem vo_zero (o : Option Nat) : (vo o = V.int 0) ↔ isOne o = false := by
  cases o with
  | none => exact ⟨fun h => (by cases h), fun h => (by cases h)⟩
  | some m =>
    cases m with
    | zero => exact ⟨fun _ => rfl, fun _ => rfl⟩
    | succ m =>
      have e : isOne (some (m + 1)) = true := by
        show (min 1 (m + 1) == 1) = true
        have : min 1 (m + 1) = 1 := by omega
        rw [this]; rfl
      refine ⟨fun h => ?_, fun h => ?_⟩
      · have h2 := V.int.inj (show V.int ((m + 1 : Nat) : Int) = V.int 0 from h)
        omega
      · rw [e] at h; cases h
section
variable {P : Program} {w : World} {K : PySem.W.Frag} {mg : Str → Option Value} {base : Heap}
/-! ### _law_deed -/
def spDeed (C : Addr) : Sp := fun vs H Q _ => ∃ (ps qs p c l q la st : Addr) (ds : List Int) (L : List Nat) (S : List Step), vs = [.ref ps, .ref p, .ref la, .ref st] ∧ LawAt C H ps qs ds p c l q la st L S ∧ L.length + S.length ≤ 2000 ∧
  ∀ H' r c' l' q' la' st' L' S', H' r = some (.lst [.bl true, .ref la', .ref st']) → LawAt C H' ps qs ds p c' l' q' la' st' L' S' → L'.length + S'.length ≤ L.length + S.length + 10 → Q (.ref r) H'
theorem ok_deed {f C fI fN fA fM fS fJ fF fW fH fL fO fG fT fB : Addr} {fd fdN fdA fdM fdS fdJ fdF fdW fdH fdL fdO fdG fdT : FuncData} (D : DefN K mg "_law_deed" sLawDeed ["state", "file", "lasting", "steps"] f fd) (T : Txt mg) (CFile : ClsN K mg "File" C fI) (TF : TxtFile K C)
    (DLawNext : DefN K mg "_law_next" sLawNext ["state", "limit"] fN fdN) (DLawAt : DefN K mg "_law_at" sLawAt ["draws", "index"] fA fdA) (DLawMix : DefN K mg "_law_mix" sLawMix ["cell", "k"] fM fdM)
    (DLawSame : DefN K mg "_law_same" sLawSame ["actual", "expected"] fS fdS) (DLawIsInteger : DefN K mg "_law_is_integer" sLawIsInteger ["actual"] fJ fdJ) (DLawAfter : DefN K mg "_law_after" sLawAfter ["data", "steps"] fF fdF)
    (DFileWrite : DefM K C "write" "File.write" sFileWrite ["self", "data", "steps"] fW fdW) (DFileShorten : DefM K C "shorten" "File.shorten" sFileShorten ["self", "size", "steps"] fH fdH) (DFileFlush : DefM K C "flush" "File.flush" sFileFlush ["self", "steps"] fL fdL)
    (DFileLose : DefM K C "lose" "File.lose" sFileLose ["self", "steps"] fO fdO) (DGranted : DefN K mg "granted" sGranted ["needed", "steps"] fG fdG) (DFileDo : DefM K C "_do" "File._do" sFileDo ["self", "step"] fT fdT) {fdB : FuncData} (DFileSettle : DefM K C "_settle" "File._settle" sFileSettle ["self"] fB fdB) :
    FnOk P w K mg base CX0 4 f fd ["state", "file", "lasting", "steps"] (spDeed C) := by
  have GLawNext : FnOk P w K mg base CX0 3 fN fdN ["state", "limit"] spNext := ok_next (k := 0) DLawNext T DLawAt DLawMix
  have GLawSame : FnOk P w K mg base CX0 2 fS fdS ["actual", "expected"] (spSameG K 0) := ok_same DLawSame T DLawIsInteger 0
  have GLawAfter : FnOk P w K mg base CX0 1 fF fdF ["data", "steps"] (spAfter K) := ok_after (k := 0) DLawAfter T
  have GFileWrite : FnOk P w K mg base CX0 2 fW fdW ["self", "data", "steps"] (spWrite K C) := ok_write (k := 0) DFileWrite T CFile TF DGranted DFileDo
  have GFileShorten : FnOk P w K mg base CX0 2 fH fdH ["self", "size", "steps"] (spShorten C) := ok_shorten (k := 0) DFileShorten T CFile TF DGranted DFileDo
  have GFileFlush : FnOk P w K mg base CX0 2 fL fdL ["self", "steps"] (spFlush C) := ok_flush (k := 0) DFileFlush T CFile TF DGranted DFileSettle
  have GFileLose : FnOk P w K mg base CX0 2 fO fdO ["self", "steps"] (spLose C) := ok_lose (k := 0) DFileLose T CFile TF DFileSettle DFileDo
  refine D.F.ok scLawDeed (fun vs H Q E h => ?_) (fun cdv A outer s H vs Q E hr h => ?_)
  · obtain ⟨ps, qs, p, c, l, q, la, st, ds, L, S, rfl, _⟩ := h
    rfl
  · obtain ⟨ps, qs, p, c, l, q, la, st, ds, L, S, rfl, W, hb, qq⟩ := h
    refine ⟨_, (pss_cons (ps_set (i := 4) scLawDeed.nd rfl (.inl rfl) (pe_call GLawNext (hr.mono (by omega)) (by rfl) DLawNext.g DLawNext.F.kp DLawNext.b .nil pass0 (pa_cons (pv 0) (pa_cons pe_int pa_nil))))
        (pss_cons (ps_set (i := 5) scLawDeed.nd rfl (.inl rfl) pe_non)
        (C8.pss_cut (ps_if (pt_cmpR op_eq (pe_call GLawNext (hr.mono (by omega)) (by rfl) DLawNext.g DLawNext.F.kp DLawNext.b .nil pass0 (pa_cons (pv 0) (pa_cons pe_int pa_nil))) pe_int (nomark _)) (pss_one (ps_set (i := 5) scLawDeed.nd rfl (.inl rfl) (pe_call GLawNext (hr.mono (by omega)) (by rfl) DLawNext.g DLawNext.F.kp DLawNext.b .nil pass0 (pa_cons (pv 0) (pa_cons pe_int pa_nil))))) pss_nil)
        (pss_cons (ps_if (pt_cmpR op_lt (pv 4) pe_int (nomark _)) (pss_cons (ps_setLc (i := 6) (own := [("k", 11)]) (g := (gName 11)) (by rfl) scLawDeed.nd rfl rfl (sw_true rfl rfl rfl (by decide +kernel)) (pi_range1 (by rfl) T.range (pa_cons (pe_call GLawNext (hr.mono (by omega)) (by rfl) DLawNext.g DLawNext.F.kp DLawNext.b .nil pass0 (pa_cons (pv 0) (pa_cons pe_int pa_nil))) pa_nil)) (blkOk_by (own := [("k", 11)]) (N := ["state", "file", "lasting", "steps", "pick", "limit", "data", "count", "passed", "done", "size", "k", "byte"]) (sc := defScope sLawDeed) (by decide +kernel)) (fun _ _ _ _ _ => (pg_name (i := 11) scLawDeed.nd rfl (Or.inl rfl))) (fun _ _ _ _ _ => pts_nil) (fun _ _ _ _ _ => (pe_call GLawNext (hr.mono (by omega)) (by rfl) DLawNext.g DLawNext.F.kp DLawNext.b .nil pass0 (pa_cons (pv 0) (pa_cons pe_int pa_nil)))))
        (pss_cons (ps_set (i := 7) scLawDeed.nd rfl (.inl rfl) (pe_callB call_len_seq (by rfl) T.len PySem.boot_len (pa_cons (pv 6) pa_nil)))
        (C8.pss_cut (ps_if (pt_cmp (pc_notN (pv 5))) (pss_one (ps_set (i := 7) scLawDeed.nd rfl (.inl rfl) (pe_callB (call_min2 rfl) (by rfl) T.min (by decide +kernel) (pa_cons (pv 7) (pa_cons (pv 5) pa_nil))))) pss_nil)
        (pss_cons (ps_set (i := 8) scLawDeed.nd rfl (.inl rfl) (pe_callTy call_list_of (by rfl) T.list HL.boot_list (pa_cons (pv 6) pa_nil)))
        (pss_cons (ps_set (i := 9) scLawDeed.nd rfl (.inl rfl) (pe_meth (pv 1) CFile.cl DFileWrite.m GFileWrite (hr.mono (by omega)) DFileWrite.b .nil pass0 (pa_cons (pv 8) (pa_cons (pv 5) pa_nil))))
        (pss_cons (ps_expr (pe_bm PySem.F.plainAttrs_list PySem.F.slot_list_append PySem.F.type_list_append mt_append (pv 8) (pa_cons pe_int pa_nil)))
        (pss_one (ps_ret (pe_lst (pa_cons (pe_call GLawSame (hr.mono (by omega)) (by rfl) DLawSame.g DLawSame.F.kp DLawSame.b .nil pass0 (pa_cons (pv 9) (pa_cons (pv 7) pa_nil))) (pa_cons (pv 2) (pa_cons (pe_op op_cat (pv 3) (pe_lc (own := [("byte", 12)]) (g := (gName 12)) (by rfl) scLawDeed.nd (pi_list (pe_slice sl_list (pv 6) po_none (po_some (pv 7)))) (blkOk_by (own := [("byte", 12)]) (N := ["state", "file", "lasting", "steps", "pick", "limit", "data", "count", "passed", "done", "size", "k", "byte"]) (sc := defScope sLawDeed) (by decide +kernel)) (fun _ _ _ _ _ => (pg_name (i := 12) scLawDeed.nd rfl (Or.inl rfl))) (fun _ _ _ _ _ => pts_nil) (fun _ _ _ _ _ => (pe_tup (pa_cons pe_int (pa_cons (pv 12) pa_nil)))))) pa_nil)))))))))))) pss_nil)
        (pss_cons (ps_if (pt_cmpR op_lt (pv 4) pe_int (nomark _)) (pss_cons (ps_set (i := 10) scLawDeed.nd rfl (.inl rfl) (pe_call GLawNext (hr.mono (by omega)) (by rfl) DLawNext.g DLawNext.F.kp DLawNext.b .nil pass0 (pa_cons (pv 0) (pa_cons (pe_op op_add (pe_callB call_len_seq (by rfl) T.len PySem.boot_len (pa_cons (pe_call GLawAfter (hr.mono (by omega)) (by rfl) DLawAfter.g DLawAfter.F.kp DLawAfter.b .nil pass0 (pa_cons (pv 2) (pa_cons (pv 3) pa_nil))) pa_nil)) pe_int) pa_nil))))
        (pss_cons (ps_set (i := 9) scLawDeed.nd rfl (.inl rfl) (pe_meth (pv 1) CFile.cl DFileShorten.m GFileShorten (hr.mono (by omega)) DFileShorten.b .nil pass0 (pa_cons (pv 10) (pa_cons (pv 5) pa_nil))))
        (pss_cons (ps_if (pt_cmpR op_eq (pv 5) pe_int (nomark _)) (pss_one (ps_ret (pe_lst (pa_cons (pe_call GLawSame (hr.mono (by omega)) (by rfl) DLawSame.g DLawSame.F.kp DLawSame.b .nil pass0 (pa_cons (pv 9) (pa_cons pe_int pa_nil))) (pa_cons (pv 2) (pa_cons (pv 3) pa_nil)))))) pss_nil)
        (pss_one (ps_ret (pe_lst (pa_cons (pe_call GLawSame (hr.mono (by omega)) (by rfl) DLawSame.g DLawSame.F.kp DLawSame.b .nil pass0 (pa_cons (pv 9) (pa_cons pe_int pa_nil))) (pa_cons (pv 2) (pa_cons (pe_op op_cat (pv 3) (pe_lst (pa_cons (pe_tup (pa_cons pe_int (pa_cons (pv 10) pa_nil))) pa_nil))) pa_nil))))))))) pss_nil)
        (pss_cons (ps_if (pt_cmpR op_lt (pv 4) pe_int (nomark _)) (pss_cons (ps_set (i := 9) scLawDeed.nd rfl (.inl rfl) (pe_meth (pv 1) CFile.cl DFileFlush.m GFileFlush (hr.mono (by omega)) DFileFlush.b .nil pass0 (pa_cons (pv 5) pa_nil)))
        (pss_cons (ps_if (pt_cmpR op_eq (pv 5) pe_int (nomark _)) (pss_one (ps_ret (pe_lst (pa_cons (pe_call GLawSame (hr.mono (by omega)) (by rfl) DLawSame.g DLawSame.F.kp DLawSame.b .nil pass0 (pa_cons (pv 9) (pa_cons pe_int pa_nil))) (pa_cons (pv 2) (pa_cons (pv 3) pa_nil)))))) pss_nil)
        (pss_one (ps_ret (pe_lst (pa_cons (pe_call GLawSame (hr.mono (by omega)) (by rfl) DLawSame.g DLawSame.F.kp DLawSame.b .nil pass0 (pa_cons (pv 9) (pa_cons pe_int pa_nil))) (pa_cons (pe_call GLawAfter (hr.mono (by omega)) (by rfl) DLawAfter.g DLawAfter.F.kp DLawAfter.b .nil pass0 (pa_cons (pv 2) (pa_cons (pv 3) pa_nil))) (pa_cons (pe_lst pa_nil) pa_nil)))))))) pss_nil)
        (pss_cons (ps_set (i := 7) scLawDeed.nd rfl (.inl rfl) (pe_call GLawNext (hr.mono (by omega)) (by rfl) DLawNext.g DLawNext.F.kp DLawNext.b .nil pass0 (pa_cons (pv 0) (pa_cons (pe_op op_add (pe_callB call_len_seq (by rfl) T.len PySem.boot_len (pa_cons (pv 3) pa_nil)) pe_int) pa_nil))))
        (pss_cons (ps_expr (pe_meth (pv 1) CFile.cl DFileLose.m GFileLose (hr.mono (by omega)) DFileLose.b .nil pass0 (pa_cons (pv 7) pa_nil)))
        (pss_one (ps_ret (pe_lst (pa_cons pe_bl (pa_cons (pe_call GLawAfter (hr.mono (by omega)) (by rfl) DLawAfter.g DLawAfter.F.kp DLawAfter.b .nil pass0 (pa_cons (pv 2) (pa_cons (pe_slice sl_list (pv 3) po_none (po_some (pv 7))) pa_nil))) (pa_cons (pe_lst pa_nil) pa_nil)))))))))))))), ?_⟩
    have sm : ∀ (n : Nat) (H : Hp) (Q : VK), (∀ H', Same H H' → Q (.bl true) H') → ∃ x y : V, [vi n, vi n] = [x, y] ∧ SameD K H 0 x y ∧ ∀ H', Same H H' → Q (.bl true) H' := fun n H Q h => ⟨_, _, rfl, .leaf True.intro, h⟩
    refine ⟨_, rfl, ps, qs, ds, 8, rfl, W.S0, by decide, fun H1 pick S1 B1 p0 p1 => ?_⟩
    have W1 := W.next S1 B1
    refine ⟨fun σ' H' => (∃ o : Option Nat, σ' = [some (.ref ps), some (.ref p), some (.ref la), some (.ref st), some (.int pick), some (vo o), none, none, none, none, none, none, none]) ∧ LawAt C H' ps qs ds p c l q la st L S, ?_, ?_⟩
    · refine ⟨_, rfl, ps, qs, ds, 3, rfl, W1.S0, by decide, fun H2 v S2 B2 v0 v1 => ⟨rfl, _, rfl, ite2 (fun _ => ?_) (fun _ => ⟨⟨none, rfl⟩, W1.next S2 B2⟩)⟩⟩
      refine ⟨_, rfl, ps, qs, ds, 7, rfl, S2, by decide, fun H3 u S3 B3 u0 u1 => ?_⟩
      obtain ⟨m, rfl⟩ : ∃ m : Nat, u = (m : Int) := ⟨u.toNat, by omega⟩
      exact ⟨⟨some m, rfl⟩, (W1.next S2 B2).next S3 B3⟩
    · rintro σ' H2 ⟨⟨o, rfl⟩, W2⟩
      clear W1 B1 S1 W
      obtain ⟨ts, hst, hts⟩ := id W2.hst
      have hla := W2.hla
      have F2 := W2.F
      have bA : (after L S).length ≤ 2000 := Nat.le_trans (after_len L S) hb
      refine ⟨_, rfl, pick, 3, rfl, rfl, _, rfl, ite2 (fun _ => ?_) (fun _ => ?_)⟩
      · -- write
        refine ⟨_, rfl, ps, qs, ds, 10, rfl, W2.S0, by decide, fun H3 m S3 B3 m0 m1 => ?_⟩
        have W3 := W2.next S3 B3
        obtain ⟨m, rfl⟩ : ∃ n : Nat, m = (n : Int) := ⟨m.toNat, by omega⟩
        refine ⟨_, rfl, by omega, by omega, fun D0 hD0 => ?_⟩
        have nD0 := W3.fresh hD0
        refine lc_range (lo := 0) (n := (m : Int).toNat) (fun i H' => LawAt C H' ps qs ds p c l q la st L S ∧ ∃ bs : List Nat, H' D0 = some (.lst (bs.map vi)) ∧ bs.length = i) ⟨W3.same (same_upd hD0), [], upd_same, rfl⟩ ?_ ?_
        · rintro i H4 hi ⟨W4, bs, hbs, hbl⟩
          refine ⟨rfl, lc_yes ⟨_, rfl, ps, qs, ds, 256, rfl, W4.S0, by decide, fun H5 v S5 B5 v0 v1 => ?_⟩⟩
          obtain ⟨b, rfl⟩ : ∃ n : Nat, v = (n : Int) := ⟨v.toNat, by omega⟩
          have h5 : H5 D0 = some (.lst (bs.map vi)) := by rw [B5 D0 (fun e => nD0 (.inr (.inr (.inr (.inr e)))))]; exact hbs
          refine ⟨_, h5, (by rw [List.length_map]; exact Nat.lt_of_le_of_lt (show bs.length ≤ 1000 by omega) (by decide)), (W4.next S5 B5).upd nD0 (fun xs e => by rw [h5] at e; cases e), bs ++ [b], by rw [upd_same]; simp [vi], by simp [hbl]⟩
        · rintro H4 ⟨W4, bs, hbs, hbl⟩
          have hbl' : bs.length ≤ 9 := by omega
          refine ⟨_, rfl, D0, _, rfl, .inl (SqL.of hbs), ?_⟩
          refine ⟨fun σ' H' => H' = H4 ∧ σ' = [some (.ref ps), some (.ref p), some (.ref la), some (.ref st), some (.int pick), some (vo o), some (.ref D0), some (vi (grant bs.length o)), none, none, none, none, none], ?_, ?_⟩
          · cases o with
            | none =>
              refine ⟨_, rfl, _, rfl, iteF ⟨rfl, ?_⟩⟩
              rw [List.length_map]
              rfl
            | some m' =>
              refine ⟨_, rfl, _, rfl, iteT ⟨_, rfl, _, rfl, _, _, rfl, rfl, ?_⟩⟩
              rw [List.length_map]
              have e : (if (m' : Int) < (bs.length : Int) then (m' : Int) else (bs.length : Int)) = ((min bs.length m' : Nat) : Int) := by split <;> omega
              rw [e]
              rfl
          · rintro σ' H' ⟨rfl, rfl⟩
            generalize hg : grant bs.length o = g
            refine ⟨_, rfl, D0, _, rfl, .inl (SqL.of hbs), fun pa hpa => ?_⟩
            have s5 : Same H' (L2.upd H' pa (.lst (bs.map vi))) := same_upd hpa
            have npa := W4.fresh hpa
            have W5 := W4.same s5
            have h5 := s5 _ _ hbs
            have g5 : L2.upd H' pa (.lst (bs.map vi)) pa = some (.lst (bs.map vi)) := upd_same
            have nDp : D0 ≠ pa := ne_of_none hbs hpa
            generalize L2.upd H' pa (.lst (bs.map vi)) = H5 at W5 h5 g5
            obtain ⟨⟨dx, ho⟩, _⟩ := id W5.F
            obtain ⟨ts5, hst5, hts5⟩ := id W5.hst
            refine ⟨_, rfl, p, dx, _, rfl, ho, flds_no _ _ _ (by decide +kernel) (by decide +kernel) (by decide +kernel), _, rfl, _, rfl, p, c, l, q, pa, _, L, S, bs, o, rfl, W5.F, g5, by omega, by omega, fun H6 c6 G6 F6 => ?_⟩
            rw [hg] at F6 ⊢
            have k6 := G6 _ _ g5 (fun e => npa (.inl e))
            have d6 := G6 _ _ h5 (fun e => nD0 (.inl e))
            have W6 : LawAt C H6 ps qs ds p c6 l q la st L S ∨ True := .inr True.intro
            clear W6
            refine ⟨_, rfl, .inl ⟨rfl, _, SqL.of k6.1⟩, pa, _, _, rfl, rfl, k6.1, (by rw [List.length_map]; exact Nat.lt_of_le_of_lt (show bs.length ≤ 1000 by omega) (by decide)), ?_⟩
            -- the heap with passed a byte longer
            have kp : ∀ b x, b ≠ pa → H6 b = some x → L2.upd H6 pa (.lst (bs.map vi ++ [.int 9])) b = some x := fun b x n h => by rw [upd_ne n]; exact h
            have tn : ∀ t xs, H6 t = some (.tup xs) → t ≠ pa := fun t xs e z => by rw [z, k6.1] at e; cases e
            have la6 := G6 _ _ W5.hla W5.o3
            have st6 := G6 _ _ hst5 W5.o4
            obtain ⟨q1, q3, i0, q0, q2⟩ := id W5.S0
            have qs6 := G6 _ _ q1 W5.o2
            have ps6 := G6 _ _ q2 W5.o1
            have F7 : FileAt C (L2.upd H6 pa (.lst (bs.map vi ++ [.int 9]))) p c6 l q (after (after L S) (bytes (bs.take g))) L (S ++ bytes (bs.take g)) := F6.keep fun b x hb h => kp b x (by
              rintro rfl
              rcases h with h | ⟨xs, rfl⟩
              · exact k6.2 h
              · exact tn _ _ hb rfl) hb
            have r7 : All2 (IsRow wL (L2.upd H6 pa (.lst (bs.map vi ++ [.int 9])))) ts5 S := (W5.F.rows hts5 G6).mono fun v s r => r.same fun t xs e => kp _ _ (tn t xs e) e
            have la7 := kp _ _ (fun e => npa (.inr (.inl e.symm))) la6.1
            have st7 := kp _ _ (fun e => npa (.inr (.inr (.inl e.symm)))) st6.1
            have qs7 := kp _ _ (fun e => npa (.inr (.inr (.inr (.inl e.symm))))) qs6.1
            have ps7 := kp _ _ (fun e => npa (.inr (.inr (.inr (.inr e.symm))))) ps6.1
            have d7 := kp _ _ nDp d6.1
            generalize L2.upd H6 pa (.lst (bs.map vi ++ [.int 9])) = H7 at F7 r7 la7 st7 qs7 ps7 d7
            refine ⟨_, rfl, _, rfl, _, _, rfl, .leaf True.intro, fun H8 s8 => ?_⟩
            refine ⟨_, rfl, _, rfl, _, rfl, _, rfl, (g : Int), rfl, D0, _, rfl, SqL.of (s8 _ _ d7), fun r hr0 => ⟨r, rfl, ⟨_, SqL.of upd_same⟩, fun D1 hD1 => ?_⟩⟩
            rw [cut_to, ← List.map_take]
            rw [cut_to, ← List.map_take] at hD1
            have s9 : Same H8 (L2.upd H8 r (.lst ((bs.take g).map vi))) := same_upd hr0
            have g9 : L2.upd H8 r (.lst ((bs.take g).map vi)) r = some (.lst ((bs.take g).map vi)) := upd_same
            generalize L2.upd H8 r (.lst ((bs.take g).map vi)) = H9 at s9 g9 hD1
            refine lc_list (K := K) (xs := (bs.take g).map vi) (fun i H' => Same H9 H' ∧ ∃ us, H' D1 = some (.lst us) ∧ All2 (IsRow wL H') us (bytes ((bs.take g).take i))) ⟨same_upd hD1, [], upd_same, .nil⟩ (fun i H' _ h => SqL.of (h.1 _ _ g9)) ?_ ?_
            · rintro i x H10 hx ⟨s10, us, hus, hrows⟩
              obtain ⟨n, hn, rfl⟩ : ∃ n, (bs.take g)[i]? = some n ∧ x = vi n := by
                rw [List.getElem?_map] at hx
                cases e : (bs.take g)[i]? with
                | none => rw [e] at hx; cases hx
                | some n => rw [e] at hx; exact ⟨n, rfl, (Option.some.inj hx).symm⟩
              have htk : (bs.take g).take (i + 1) = (bs.take g).take i ++ [n] := by
                rw [List.take_add_one, hn]
                rfl
              have hil : i < (bs.take g).length := (List.getElem?_eq_some_iff.mp hn).1
              have hml : (bs.take g).length ≤ bs.length := by rw [List.length_take]; omega
              refine ⟨rfl, lc_yes ⟨_, rfl, (by show 2 ≤ sizeLine; decide), fun t ht => ?_⟩⟩
              have s11 : Same H10 (L2.upd H10 t (.tup [.int 0, vi n])) := same_upd ht
              have hus' := s11 _ _ hus
              have ul : us.length ≤ 9 := by
                rw [hrows.len]
                unfold bytes
                rw [List.length_map, List.length_take]
                omega
              refine ⟨us, hus', Nat.lt_of_le_of_lt (show us.length ≤ 1000 by omega) (by decide), fun b x hb => ?_, us ++ [.ref t], upd_same, ?_⟩
              · rw [upd_ne (ne_of_none hb hD1)]
                exact s11 _ _ (s10 _ _ hb)
              · have e1 : bytes ((bs.take g).take i ++ [n]) = bytes ((bs.take g).take i) ++ [(false, n)] := by simp [bytes]
                rw [htk, e1]
                have tk : ∀ u xs, L2.upd H10 t (.tup [.int 0, vi n]) u = some (.tup xs) → L2.upd (L2.upd H10 t (.tup [.int 0, vi n])) D1 (.lst (us ++ [.ref t])) u = some (.tup xs) := fun u xs e => by
                  rw [upd_ne (ne_of e hus' (by intro z; cases z))]
                  exact e
                exact (hrows.mono fun v s r => r.same fun u xs e => tk _ _ (s11 _ _ e)).snoc ⟨t, rfl, tk _ _ upd_same⟩
            · rintro H10 ⟨s10, us, hus, hrows⟩
              rw [List.length_map, List.take_of_length_le (Nat.le_refl _)] at hrows
              have sa : ∀ b x, H7 b = some x → H10 b = some x := fun b x h => s10 _ _ (s9 _ _ (s8 _ _ h))
              have hul : us.length ≤ 9 := by
                rw [hrows.len]
                unfold bytes
                rw [List.length_map, List.length_take]
                omega
              have htl : ts5.length ≤ 2000 := by rw [hts5.len]; omega
              refine ⟨st, D1, _, _, rfl, rfl, sa _ _ st7, hus, Nat.le_trans (show ts5.length + us.length ≤ 10000 by omega) (by decide), fun st' hst' => ?_⟩
              have s12 : Same H10 (L2.upd H10 st' (.lst (ts5 ++ us))) := same_upd hst'
              refine ⟨(by show 3 ≤ sizeLine; decide), fun rr hrr => ?_⟩
              have s13 : Same (L2.upd H10 st' (.lst (ts5 ++ us))) (L2.upd (L2.upd H10 st' (.lst (ts5 ++ us))) rr (.lst [.bl true, .ref la, .ref st'])) := same_upd hrr
              have sb : Same H7 (L2.upd (L2.upd H10 st' (.lst (ts5 ++ us))) rr (.lst [.bl true, .ref la, .ref st'])) := fun b x h => s13 _ _ (s12 _ _ (sa _ _ h))
              have F13 := F7.same sb
              have n7 : H7 st' = none := by
                cases e : H7 st' with
                | none => rfl
                | some x => rw [sa _ _ e] at hst'; cases hst'
              refine qq _ rr c6 l q la st' L (S ++ bytes (bs.take g)) upd_same ⟨⟨sb _ _ qs7, q3, i0, q0, sb _ _ ps7⟩, ?_, sb _ _ la7, ⟨_, s13 _ _ upd_same, ?_⟩, ps6.2, qs6.2, la6.2, F7.fresh n7, W5.n1, ?_⟩ ?_
              · rw [after_app]
                exact F13
              · exact (r7.mono fun v s r => r.same fun t xs e => sb _ _ e).app (hrows.mono fun v s r => r.same fun t xs e => s13 _ _ (s12 _ _ e))
              · rintro rfl
                rw [ps7] at n7
                cases n7
              · rw [List.length_append]
                unfold bytes
                rw [List.length_map, List.length_take]
                omega
      refine ⟨_, rfl, pick, 5, rfl, rfl, _, rfl, ite2 (fun _ => ?_) (fun _ => ?_)⟩
      · -- shorten
        refine ⟨_, rfl, _, rfl, _, rfl, la, st, L, ts, S, rfl, hla, hst, hts, by omega, fun H3 r s3 hr0 hr3 => ?_⟩
        refine ⟨r, _, rfl, .inl (SqL.of hr3), _, _, rfl, rfl, ps, qs, ds, _, rfl, (W2.same s3).S0, by omega, fun H4 n S4 B4 n0 n1 => ?_⟩
        have W4 := (W2.same s3).next S4 B4
        obtain ⟨n, rfl⟩ : ∃ m : Nat, n = (m : Int) := ⟨n.toNat, by omega⟩
        clear n1 B4 S4 s3 hr3 hr0
        obtain ⟨⟨dx, ho⟩, _⟩ := id W4.F
        obtain ⟨ts4, hst4, hts4⟩ := id W4.hst
        refine ⟨_, rfl, p, dx, _, rfl, ho, flds_no _ _ _ (by decide +kernel) (by decide +kernel) (by decide +kernel), _, rfl, _, rfl, p, c, l, q, _, L, S, n, o, rfl, W4.F, by omega, by omega, fun H5 c5 G5 F5 => ?_⟩
        have la5 := G5 _ _ W4.hla W4.o3
        have st5 := G5 _ _ hst4 W4.o4
        refine ⟨_, rfl, by cases o <;> rfl, _, rfl, ite2 (fun e => ?_) (fun e => ?_)⟩
        · have e1 : isOne o = false := (vo_zero o).mp (of_decide_eq_true e)
          have e2 : grant 1 o = 0 := by rw [grant_one, e1]; rfl
          rw [e2]
          rw [e1] at F5
          refine ⟨_, rfl, _, _, rfl, .leaf True.intro, fun H6 s6 => ⟨_, rfl, _, rfl, (by show 3 ≤ sizeLine; decide), fun rr hrr => ?_⟩⟩
          have sb : Same H5 (L2.upd H6 rr (.lst [.bl true, .ref la, .ref st])) := fun b x h => same_upd hrr _ _ (s6 _ _ h)
          have F6 : FileAt C H5 p c5 l q (after L S) L S := by simpa [after] using F5
          have W5 := W4.grow G5 F6 la5.1 ⟨_, st5.1, W4.F.rows hts4 G5⟩ la5.2 st5.2 W4.n1 W4.n2
          exact qq _ rr c5 l q la st L S upd_same (W5.same sb) (by omega)
        · have e1 : isOne o = true := by
            cases h : isOne o with
            | true => rfl
            | false => exact absurd (decide_eq_true ((vo_zero o).mpr h)) e
          have e2 : grant 1 o = 1 := by rw [grant_one, e1]; rfl
          rw [e2]
          rw [e1] at F5
          refine ⟨_, rfl, _, _, rfl, .leaf True.intro, fun H6 s6 => ⟨_, rfl, _, rfl, _, rfl, (by show 2 ≤ sizeLine; decide), fun t ht => ?_⟩⟩
          have s7 : Same H6 (L2.upd H6 t (.tup [.int 1, .int (n : Int)])) := same_upd ht
          have g7 : L2.upd H6 t (.tup [.int 1, .int (n : Int)]) t = some (.tup (wL (true, n))) := upd_same
          generalize L2.upd H6 t (.tup [.int 1, .int (n : Int)]) = H7 at s7 g7
          refine ⟨(by show 1 ≤ sizeLine; decide), fun l1 hl1 => ?_⟩
          have s8 : Same H7 (L2.upd H7 l1 (.lst [.ref t])) := same_upd hl1
          have g8 : L2.upd H7 l1 (.lst [.ref t]) l1 = some (.lst [.ref t]) := upd_same
          generalize L2.upd H7 l1 (.lst [.ref t]) = H8 at s8 g8
          have htl : ts4.length ≤ 2000 := by rw [hts4.len]; omega
          refine ⟨st, l1, _, _, rfl, rfl, s8 _ _ (s7 _ _ (s6 _ _ st5.1)), g8, Nat.le_trans (show ts4.length + 1 ≤ 10000 by omega) (by decide), fun st' hst' => ?_⟩
          have s9 : Same H8 (L2.upd H8 st' (.lst (ts4 ++ [.ref t]))) := same_upd hst'
          have g9 : L2.upd H8 st' (.lst (ts4 ++ [.ref t])) st' = some (.lst (ts4 ++ [.ref t])) := upd_same
          generalize L2.upd H8 st' (.lst (ts4 ++ [.ref t])) = H9 at s9 g9
          refine ⟨(by show 3 ≤ sizeLine; decide), fun rr hrr => ?_⟩
          have s10 : Same H9 (L2.upd H9 rr (.lst [.bl true, .ref la, .ref st'])) := same_upd hrr
          have sc : Same H7 (L2.upd H9 rr (.lst [.bl true, .ref la, .ref st'])) := fun b x h => s10 _ _ (s9 _ _ (s8 _ _ h))
          have sb : Same H5 (L2.upd H9 rr (.lst [.bl true, .ref la, .ref st'])) := fun b x h => sc _ _ (s7 _ _ (s6 _ _ h))
          have n5 : H5 st' = none := by
            cases e : H5 st' with
            | none => rfl
            | some x => rw [s8 _ _ (s7 _ _ (s6 _ _ e))] at hst'; cases hst'
          have F6 : FileAt C H5 p c5 l q (after L (S ++ [(true, n)])) L (S ++ [(true, n)]) := by rw [after_app]; simpa using F5
          have nps : st' ≠ ps := by
            obtain ⟨q1, q3, i0, q0, q2⟩ := id W4.S0
            rintro rfl
            rw [(G5 _ _ q2 W4.o1).1] at n5
            cases n5
          have F10 := F6.same sb
          have G10 : Grow H4 (L2.upd H9 rr (.lst [.bl true, .ref la, .ref st'])) p c l q c5 l q := fun b x hb nb => ⟨sb _ _ (G5 b x hb nb).1, (G5 b x hb nb).2⟩
          refine qq _ rr c5 l q la st' L (S ++ [(true, n)]) upd_same (W4.grow G10 F10 (sb _ _ la5.1) ⟨_, s10 _ _ g9, ?_⟩ la5.2 (F6.fresh n5) W4.n1 nps) (by rw [List.length_append]; show _ + (_ + 1) ≤ _; omega)
          exact ((W4.F.rows hts4 G10)).snoc ⟨t, rfl, sc _ _ g7⟩
      refine ⟨_, rfl, pick, 7, rfl, rfl, _, rfl, ite2 (fun _ => ?_) (fun _ => ?_)⟩
      · -- flush
        obtain ⟨⟨dx, ho⟩, _⟩ := id F2
        refine ⟨_, rfl, p, dx, _, rfl, ho, flds_no _ _ _ (by decide +kernel) (by decide +kernel) (by decide +kernel), _, rfl, p, c, l, q, _, L, S, o, rfl, F2, fun H5 l5 q5 G5 F5 => ?_⟩
        have la5 := G5 _ _ hla W2.o3
        have st5 := G5 _ _ hst W2.o4
        refine ⟨_, rfl, by cases o <;> rfl, _, rfl, ite2 (fun e => ?_) (fun e => ?_)⟩
        · have e1 : isOne o = false := (vo_zero o).mp (of_decide_eq_true e)
          have e2 : grant 1 o = 0 := by rw [grant_one, e1]; rfl
          rw [e2]
          rw [e1] at F5
          refine ⟨_, rfl, _, _, rfl, .leaf True.intro, fun H6 s6 => ⟨_, rfl, _, rfl, (by show 3 ≤ sizeLine; decide), fun rr hrr => ?_⟩⟩
          have sb : Same H5 (L2.upd H6 rr (.lst [.bl true, .ref la, .ref st])) := fun b x h => same_upd hrr _ _ (s6 _ _ h)
          have F6 : FileAt C H5 p c l5 q5 (after L S) L S := F5
          have W5 := W2.grow G5 F6 la5.1 ⟨_, st5.1, F2.rows hts G5⟩ la5.2 st5.2 W2.n1 W2.n2
          exact qq _ rr c l5 q5 la st L S upd_same (W5.same sb) (by omega)
        · have e1 : isOne o = true := by
            cases h : isOne o with
            | true => rfl
            | false => exact absurd (decide_eq_true ((vo_zero o).mpr h)) e
          have e2 : grant 1 o = 1 := by rw [grant_one, e1]; rfl
          rw [e2]
          rw [e1] at F5
          refine ⟨_, rfl, _, _, rfl, .leaf True.intro, fun H6 s6 => ⟨_, rfl, _, rfl, la, st, L, ts, S, rfl, s6 _ _ la5.1, s6 _ _ st5.1, (F2.rows hts G5).mono fun v s r => r.same fun t xs e => s6 _ _ e, by omega, fun H7 r s7 hr0 hr7 => ?_⟩⟩
          refine ⟨Nat.zero_le _, fun st' hst' => ⟨(by show 3 ≤ sizeLine; decide), fun rr hrr => ?_⟩⟩
          have s8 : Same H7 (L2.upd H7 st' (.lst [])) := same_upd hst'
          have g8 : L2.upd H7 st' (.lst []) st' = some (.lst []) := upd_same
          generalize L2.upd H7 st' (.lst []) = H8 at s8 g8 hrr
          have s9 : Same H8 (L2.upd H8 rr (.lst [.bl true, .ref r, .ref st'])) := same_upd hrr
          have sb : Same H5 (L2.upd H8 rr (.lst [.bl true, .ref r, .ref st'])) := fun b x h => s9 _ _ (s8 _ _ (s7 _ _ (s6 _ _ h)))
          have n5 : ∀ b, H7 b = none → H5 b = none := fun b h => by
            cases e : H5 b with
            | none => rfl
            | some x => rw [s7 _ _ (s6 _ _ e)] at h; cases h
          have nr5 : H5 r = none := by
            cases e : H5 r with
            | none => rfl
            | some x => rw [s6 _ _ e] at hr0; cases hr0
          have F6 : FileAt C H5 p c l5 q5 (after (after L S) []) (after L S) [] := F5
          obtain ⟨q1, q3, i0, q0, q2⟩ := id W2.S0
          have np : ∀ b, H5 b = none → b ≠ ps := fun b h z => by
            rw [z, (G5 _ _ q2 W2.o1).1] at h
            cases h
          have G9 : Grow H2 (L2.upd H8 rr (.lst [.bl true, .ref r, .ref st'])) p c l q c l5 q5 := fun b x hb nb => ⟨sb _ _ (G5 b x hb nb).1, (G5 b x hb nb).2⟩
          refine qq _ rr c l5 q5 r st' (after L S) [] upd_same (W2.grow G9 (F6.same sb) (s9 _ _ (s8 _ _ hr7)) ⟨_, s9 _ _ g8, .nil⟩ (F6.fresh nr5) (F6.fresh (n5 _ hst')) (np _ nr5) (np _ (n5 _ hst'))) ?_
          have := after_len L S
          show _ + 0 ≤ _
          omega
      · -- lose
        refine ⟨_, rfl, _, rfl, st, _, rfl, .inl (SqL.of hst), _, _, rfl, rfl, ps, qs, ds, _, rfl, W2.S0, by omega, fun H4 n S4 B4 n0 n1 => ?_⟩
        have W4 := W2.next S4 B4
        obtain ⟨n, rfl⟩ : ∃ m : Nat, n = (m : Int) := ⟨n.toNat, by omega⟩
        clear n1 B4 S4
        obtain ⟨⟨dx, ho⟩, _⟩ := id W4.F
        obtain ⟨ts4, hst4, hts4⟩ := id W4.hst
        refine ⟨_, rfl, p, dx, _, rfl, ho, flds_no _ _ _ (by decide +kernel) (by decide +kernel) (by decide +kernel), _, rfl, p, c, l, q, _, L, S, n, rfl, W4.F, by omega, by omega, fun H5 c5 l5 q5 G5 F5 => ?_⟩
        have la5 := G5 _ _ W4.hla W4.o3
        have st5 := G5 _ _ hst4 W4.o4
        refine ⟨_, rfl, _, rfl, _, rfl, (n : Int), rfl, st, _, rfl, SqL.of st5.1, fun sl hsl => ?_⟩
        rw [cut_to]
        have s6 : Same H5 (L2.upd H5 sl (.lst (ts4.take n))) := same_upd hsl
        have g6 : L2.upd H5 sl (.lst (ts4.take n)) sl = some (.lst (ts4.take n)) := upd_same
        generalize L2.upd H5 sl (.lst (ts4.take n)) = H6 at s6 g6
        have tl : (S.take n).length ≤ S.length := by rw [List.length_take]; omega
        refine ⟨la, sl, L, _, S.take n, rfl, s6 _ _ la5.1, g6, ((W4.F.rows hts4 G5).mono fun v s r => r.same fun t xs e => s6 _ _ e).take n, by omega, fun H7 r s7 hr0 hr7 => ?_⟩
        refine ⟨Nat.zero_le _, fun st' hst' => ⟨(by show 3 ≤ sizeLine; decide), fun rr hrr => ?_⟩⟩
        have s8 : Same H7 (L2.upd H7 st' (.lst [])) := same_upd hst'
        have g8 : L2.upd H7 st' (.lst []) st' = some (.lst []) := upd_same
        generalize L2.upd H7 st' (.lst []) = H8 at s8 g8 hrr
        have s9 : Same H8 (L2.upd H8 rr (.lst [.bl true, .ref r, .ref st'])) := same_upd hrr
        have sb : Same H5 (L2.upd H8 rr (.lst [.bl true, .ref r, .ref st'])) := fun b x h => s9 _ _ (s8 _ _ (s7 _ _ (s6 _ _ h)))
        have n5 : ∀ b, H7 b = none → H5 b = none := fun b h => by
          cases e : H5 b with
          | none => rfl
          | some x => rw [s7 _ _ (s6 _ _ e)] at h; cases h
        have nr5 : H5 r = none := by
          cases e : H5 r with
          | none => rfl
          | some x => rw [s6 _ _ e] at hr0; cases hr0
        have F6 : FileAt C H5 p c5 l5 q5 (after (after L (S.take n)) []) (after L (S.take n)) [] := F5
        obtain ⟨q1, q3, i0, q0, q2⟩ := id W4.S0
        have np : ∀ b, H5 b = none → b ≠ ps := fun b h z => by
          rw [z, (G5 _ _ q2 W4.o1).1] at h
          cases h
        have G9 : Grow H4 (L2.upd H8 rr (.lst [.bl true, .ref r, .ref st'])) p c l q c5 l5 q5 := fun b x hb nb => ⟨sb _ _ (G5 b x hb nb).1, (G5 b x hb nb).2⟩
        refine qq _ rr c5 l5 q5 r st' (after L (S.take n)) [] upd_same (W4.grow G9 (F6.same sb) (s9 _ _ (s8 _ _ hr7)) ⟨_, s9 _ _ g8, .nil⟩ (F6.fresh nr5) (F6.fresh (n5 _ hst')) (np _ nr5) (np _ (n5 _ hst'))) ?_
        have := after_len L (S.take n)
        show _ + 0 ≤ _
        omega
end
end Q42
namespace Q42
open PySem PySem.Spec PyProof.Rows L2 SX HL
theorem same_ints {K : PySem.W.Frag} {H : Hp} {a b : Addr} {xs : List Nat} (h1 : H a = some (.lst (xs.map vi))) (h2 : H b = some (.lst (xs.map vi))) (hl : xs.length ≤ 100000) : SameD K H 1 (.ref a) (.ref b) :=
  .seq (.lst h1) (.lst h2) rfl (by rw [List.length_map]; omega) fun i u v hu hv => by
    rw [hu] at hv
    cases hv
    rw [List.getElem?_map] at hu
    cases e : xs[i]? with
    | none => rw [e] at hu; cases hu
    | some n => rw [e] at hu; cases hu; exact .leaf True.intro
section
variable {P : Program} {w : World} {K : PySem.W.Frag} {mg : Str → Option Value} {base : Heap}
def spLaw (K : PySem.W.Frag) : Sp := fun vs H Q _ => ∃ (a : Addr) (ns : List Int), vs = [.ref a] ∧ SqL K H a (ns.map V.int) ∧ ns.length ≤ 63 ∧ ∀ H', Q (.bl true) H'
theorem ok_law {f C fI fN fA fM fS fJ fF fW fH fL fO fG fT fB fD fP fE fX : Addr} {fd fdN fdA fdM fdS fdJ fdF fdW fdH fdL fdO fdG fdT fdB fdD fdP fdE fdX fdI : FuncData} (D : DefN K mg "law" sLaw ["script"] f fd) (T : Txt mg) (CFile : ClsN K mg "File" C fI) (TF : TxtFile K C)
    (DLawDraws : DefN K mg "_law_draws" sLawDraws ["script"] fD fdD) (DLawDeed : DefN K mg "_law_deed" sLawDeed ["state", "file", "lasting", "steps"] fE fdE)
    (DLawNext : DefN K mg "_law_next" sLawNext ["state", "limit"] fN fdN) (DLawAt : DefN K mg "_law_at" sLawAt ["draws", "index"] fA fdA) (DLawMix : DefN K mg "_law_mix" sLawMix ["cell", "k"] fM fdM)
    (DLawSame : DefN K mg "_law_same" sLawSame ["actual", "expected"] fS fdS) (DLawIsInteger : DefN K mg "_law_is_integer" sLawIsInteger ["actual"] fJ fdJ) (DLawAfter : DefN K mg "_law_after" sLawAfter ["data", "steps"] fF fdF)
    (DFileInit : DefI K "File.__init__" sFileInit ["self"] fI fdI)
    (DFileWrite : DefM K C "write" "File.write" sFileWrite ["self", "data", "steps"] fW fdW) (DFileShorten : DefM K C "shorten" "File.shorten" sFileShorten ["self", "size", "steps"] fH fdH) (DFileFlush : DefM K C "flush" "File.flush" sFileFlush ["self", "steps"] fL fdL)
    (DFileContent : DefM K C "content" "File.content" sFileContent ["self"] fX fdX) (DFilePending : DefM K C "pending" "File.pending" sFilePending ["self"] fP fdP)
    (DFileLose : DefM K C "lose" "File.lose" sFileLose ["self", "steps"] fO fdO) (DGranted : DefN K mg "granted" sGranted ["needed", "steps"] fG fdG) (DFileDo : DefM K C "_do" "File._do" sFileDo ["self", "step"] fT fdT) (DFileSettle : DefM K C "_settle" "File._settle" sFileSettle ["self"] fB fdB) :
    FnOk P w K mg base CX0 5 f fd ["script"] (spLaw K) := by
  have GLawDraws : FnOk P w K mg base CX0 2 fD fdD ["script"] (spDraws K) := ok_draws (k := 0) DLawDraws T DLawMix
  have GLawNext : FnOk P w K mg base CX0 3 fN fdN ["state", "limit"] spNext := ok_next (k := 0) DLawNext T DLawAt DLawMix
  have GLawSame : FnOk P w K mg base CX0 3 fS fdS ["actual", "expected"] (spSameG K 1) := ok_same DLawSame T DLawIsInteger 1
  have GLawAfter : FnOk P w K mg base CX0 1 fF fdF ["data", "steps"] (spAfter K) := ok_after (k := 0) DLawAfter T
  have GLawDeed : FnOk P w K mg base CX0 4 fE fdE ["state", "file", "lasting", "steps"] (spDeed C) := ok_deed DLawDeed T CFile TF DLawNext DLawAt DLawMix DLawSame DLawIsInteger DLawAfter DFileWrite DFileShorten DFileFlush DFileLose DGranted DFileDo DFileSettle
  have GFileInit : FnOk P w K mg base CX0 1 fI fdI ["self"] (spInit C) := ok_init (k := 0) DFileInit T CFile TF
  have GFileContent : FnOk P w K mg base CX0 1 fX fdX ["self"] (spContent C) := ok_content (k := 0) DFileContent T CFile TF
  have GFilePending : FnOk P w K mg base CX0 1 fP fdP ["self"] (spPending C) := ok_pending (k := 0) DFilePending T CFile TF
  have GFileLose : FnOk P w K mg base CX0 2 fO fdO ["self", "steps"] (spLose C) := ok_lose (k := 0) DFileLose T CFile TF DFileSettle DFileDo
  refine D.F.ok scLaw (fun vs H Q E h => ?_) (fun cdv A outer s H vs Q E hr h => ?_)
  · obtain ⟨a, ns, rfl, _⟩ := h
    rfl
  · obtain ⟨a, ns, rfl, hS, hn, qq⟩ := h
    refine ⟨_, (pss_cons (ps_set (i := 1) scLaw.nd rfl (.inl rfl) (pe_lst (pa_cons (pe_call GLawDraws (hr.mono (by omega)) (by rfl) DLawDraws.g DLawDraws.F.kp DLawDraws.b .nil pass0 (pa_cons (pv 0) pa_nil)) (pa_cons pe_int pa_nil))))
        (pss_cons (ps_set (i := 2) scLaw.nd rfl (.inl rfl) (pe_make0 CFile.make GFileInit (hr.mono (by omega)) rfl CFile.g DFileInit.b .nil pass0))
        (pss_cons (ps_set (i := 3) scLaw.nd rfl (.inl rfl) (pe_lst pa_nil))
        (pss_cons (ps_set (i := 4) scLaw.nd rfl (.inl rfl) (pe_lst pa_nil))
        (pss_cons (ps_for PassesOwn.never rfl (pi_range1 (by rfl) T.range (pa_cons (pe_call GLawNext (hr.mono (by omega)) (by rfl) DLawNext.g DLawNext.F.kp DLawNext.b .nil pass0 (pa_cons (pv 1) (pa_cons pe_int pa_nil))) pa_nil)) (pg_name (i := 5) scLaw.nd rfl (.inl rfl)) (pss_cons (ps_asg (pe_call GLawDeed (hr.mono (by omega)) (by rfl) DLawDeed.g DLawDeed.F.kp DLawDeed.b .nil pass0 (pa_cons (pv 1) (pa_cons (pv 2) (pa_cons (pv 3) (pa_cons (pv 4) pa_nil))))) (pg_unl rfl (pgs_cons (pg_name (i := 6) scLaw.nd rfl (.inl rfl)) (pgs_cons (pg_name (i := 3) scLaw.nd rfl (.inl rfl)) (pgs_cons (pg_name (i := 4) scLaw.nd rfl (.inl rfl)) pgs_nil)))))
        (pss_cons (ps_if (PW.pt (pw_or (pt_not (pt_val (pv 6))) (pw_or1 (pt_not (pt_val (pe_call GLawSame (hr.mono (by omega)) (by rfl) DLawSame.g DLawSame.F.kp DLawSame.b .nil pass0 (pa_cons (pe_meth0 (pv 2) CFile.cl DFileContent.m GFileContent (hr.mono (by omega)) DFileContent.b .nil pass0) (pa_cons (pe_call GLawAfter (hr.mono (by omega)) (by rfl) DLawAfter.g DLawAfter.F.kp DLawAfter.b .nil pass0 (pa_cons (pv 3) (pa_cons (pv 4) pa_nil))) pa_nil)))))))) (pss_one (ps_ret pe_bl)) pss_nil)
        (pss_cons (ps_if (pt_not (pt_val (pe_call GLawSame (hr.mono (by omega)) (by rfl) DLawSame.g DLawSame.F.kp DLawSame.b .nil pass0 (pa_cons (pe_meth0 (pv 2) CFile.cl DFilePending.m GFilePending (hr.mono (by omega)) DFilePending.b .nil pass0) (pa_cons (pe_callB call_len_seq (by rfl) T.len PySem.boot_len (pa_cons (pv 4) pa_nil)) pa_nil))))) (pss_one (ps_ret pe_bl)) pss_nil)
        (pss_cons (ps_expr (pe_bm PySem.F.plainAttrs_list PySem.F.slot_list_append PySem.F.type_list_append mt_append (pe_meth0 (pv 2) CFile.cl DFileContent.m GFileContent (hr.mono (by omega)) DFileContent.b .nil pass0) (pa_cons pe_int pa_nil)))
        (pss_one (ps_if (PW.pt (pw_and (pt_cmpR op_eq (pe_call GLawNext (hr.mono (by omega)) (by rfl) DLawNext.g DLawNext.F.kp DLawNext.b .nil pass0 (pa_cons (pv 1) (pa_cons pe_int pa_nil))) pe_int (nomark _)) (pw_and1 (pt_not (pt_val (pe_call GLawSame (hr.mono (by omega)) (by rfl) DLawSame.g DLawSame.F.kp DLawSame.b .nil pass0 (pa_cons (pe_meth0 (pv 2) CFile.cl DFileContent.m GFileContent (hr.mono (by omega)) DFileContent.b .nil pass0) (pa_cons (pe_call GLawAfter (hr.mono (by omega)) (by rfl) DLawAfter.g DLawAfter.F.kp DLawAfter.b .nil pass0 (pa_cons (pv 3) (pa_cons (pv 4) pa_nil))) pa_nil)))))))) (pss_one (ps_ret pe_bl)) pss_nil)))))))
        (pss_cons (ps_expr (pe_meth (pv 2) CFile.cl DFileLose.m GFileLose (hr.mono (by omega)) DFileLose.b .nil pass0 (pa_cons pe_int pa_nil)))
        (pss_one (ps_ret (pe_and (pe_call GLawSame (hr.mono (by omega)) (by rfl) DLawSame.g DLawSame.F.kp DLawSame.b .nil pass0 (pa_cons (pe_meth0 (pv 2) CFile.cl DFileContent.m GFileContent (hr.mono (by omega)) DFileContent.b .nil pass0) (pa_cons (pv 3) pa_nil))) (pe_one (pe_call GLawSame (hr.mono (by omega)) (by rfl) DLawSame.g DLawSame.F.kp DLawSame.b .nil pass0 (pa_cons (pe_meth0 (pv 2) CFile.cl DFilePending.m GFilePending (hr.mono (by omega)) DFilePending.b .nil pass0) (pa_cons pe_int pa_nil))))))))))))), ?_⟩
    refine ⟨_, rfl, a, ns, rfl, hS, hn, fun d H1 ds hd s1 hdd hdl hds => ⟨(by show 2 ≤ sizeLine; decide), fun ps hps => ?_⟩⟩
    have s2 : Same H1 (L2.upd H1 ps (.lst [.ref d, .int 20])) := same_upd hps
    have S2 : StN (L2.upd H1 ps (.lst [.ref d, .int 20])) ps d ds := ⟨s2 _ _ hdd, hds, 20, by decide, upd_same⟩
    generalize L2.upd H1 ps (.lst [.ref d, .int 20]) = H2 at S2
    intro x dx nx ndx nex
    refine ⟨x, dx, rfl, upd_same, fun c l q H3 F3 k3 => ⟨rfl, ?_⟩⟩
    have k3' : ∀ b o, H2 b = some o → H3 b = some o ∧ ¬ Owns x c l q b := fun b o h => k3 b o (by rw [upd_ne (ne_of_none h nx), upd_ne (ne_of_none h ndx)]; exact h) (ne_of_none h nx)
    obtain ⟨q1, q3, i0, q0, q2⟩ := id S2
    have S3 : StN H3 ps d ds := ⟨(k3' _ _ q1).1, q3, i0, q0, (k3' _ _ q2).1⟩
    have o1 := (k3' _ _ q2).2
    have o2 := (k3' _ _ q1).2
    clear k3 k3' q1 q2 S2 nx ndx nex s2 hps s1 hdd
    refine ⟨Nat.zero_le _, fun la hla => ?_⟩
    have s4 : Same H3 (L2.upd H3 la (.lst [])) := same_upd hla
    have g4 : L2.upd H3 la (.lst []) la = some (.lst []) := upd_same
    have F4 := F3.same s4
    have S4 := S3.same (H' := L2.upd H3 la (.lst [])) (fun b o _ h => s4 b o h)
    have ola := F3.fresh hla
    have nla : la ≠ ps := by
      obtain ⟨_, _, i, _, e⟩ := S3
      rintro rfl
      rw [e] at hla
      cases hla
    generalize L2.upd H3 la (.lst []) = H4 at F4 S4 g4
    clear s4 F3 S3
    refine ⟨Nat.zero_le _, fun st hst => ?_⟩
    have s5 : Same H4 (L2.upd H4 st (.lst [])) := same_upd hst
    have g5 : L2.upd H4 st (.lst []) st = some (.lst []) := upd_same
    have ost := F4.fresh hst
    have nst : st ≠ ps := by
      obtain ⟨_, _, i, _, e⟩ := S4
      rintro rfl
      rw [e] at hst
      cases hst
    have W5 : LawAt C (L2.upd H4 st (.lst [])) ps d ds x c l q la st [] [] := ⟨S4.same fun b o _ h => s5 b o h, F4.same s5, s5 _ _ g4, ⟨[], g5, .nil⟩, o1, o2, ola, ost, nla, nst⟩
    generalize L2.upd H4 st (.lst []) = H5 at W5
    clear s5 g5 F4 S4 g4
    refine ⟨_, rfl, ps, d, ds, 31, rfl, W5.S0, by decide, fun H6 m S6 B6 m0 m1 => ?_⟩
    have W6 := W5.next S6 B6
    obtain ⟨m, rfl⟩ : ∃ n : Nat, m = (n : Int) := ⟨m.toNat, by omega⟩
    refine ⟨_, rfl, by omega, by omega, ?_⟩
    refine for_range (lo := 0) (n := (m : Int).toNat) (fun i σ H' => ∃ (c l q la st : Addr) (L : List Nat) (S : List Step) (y5 y6 : Option V), σ = [some (.ref a), some (.ref ps), some (.ref x), some (.ref la), some (.ref st), y5, y6] ∧ LawAt C H' ps d ds x c l q la st L S ∧ L.length + S.length ≤ 10 * i)
      ⟨c, l, q, la, st, [], [], none, none, rfl, W6, Nat.le_refl _⟩ ?_ ?_
    · clear W6 W5 S6 B6 o1 o2 ola ost nla nst hla hst
      rintro i σ H7 hi ⟨c, l, q, la, st, L, S, y5, y6, rfl, W, hb⟩
      refine ⟨_, rfl, _, rfl, _, rfl, _, rfl, ps, d, x, c, l, q, la, st, ds, L, S, rfl, W, by omega, fun H8 r c l q la st L' S' hr8 W8 hb8 => ?_⟩
      refine ⟨r, _, rfl, SqL.of hr8, rfl, _, _, rfl, _, _, rfl, _, _, rfl, rfl, ?_⟩
      have hb' : L'.length + S'.length ≤ 10 * (i + 1) := by omega
      have hbb : L'.length + S'.length ≤ 400 := by omega
      clear W hb hb8
      have hal : (after L' S').length ≤ 100000 := by
        have := after_len L' S'
        omega
      refine ⟨_, rfl, true, rfl, iteF ?_⟩
      obtain ⟨⟨dx8, ho8⟩, _⟩ := id W8.F
      refine ⟨_, rfl, x, dx8, _, rfl, ho8, flds_no _ _ _ (by decide +kernel) (by decide +kernel) (by decide +kernel), x, c, l, q, _, L', S', rfl, W8.F, fun r1 hr1 => ?_⟩
      have s9 : Same H8 (L2.upd H8 r1 (.lst ((after L' S').map vi))) := same_upd hr1
      have g9 : L2.upd H8 r1 (.lst ((after L' S').map vi)) r1 = some (.lst ((after L' S').map vi)) := upd_same
      have W9 := W8.same s9
      generalize L2.upd H8 r1 (.lst ((after L' S').map vi)) = H9 at W9 g9
      clear s9
      obtain ⟨ts9, hst9, hts9⟩ := id W9.hst
      refine ⟨_, rfl, _, rfl, la, st, L', ts9, S', rfl, W9.hla, hst9, hts9, by omega, fun H10 r2 s10 hr2 g10 => ?_⟩
      refine ⟨_, _, rfl, same_ints (s10 _ _ g9) g10 hal, fun H11 s11 => ⟨true, rfl, iteF ?_⟩⟩
      have W11 := (W9.same s10).same s11
      clear s10 s11 g10 hr2 g9 hr1 hst9 hts9
      obtain ⟨⟨dx11, ho11⟩, _⟩ := id W11.F
      obtain ⟨ts11, hst11, hts11⟩ := id W11.hst
      refine ⟨_, rfl, x, dx11, _, rfl, ho11, flds_no _ _ _ (by decide +kernel) (by decide +kernel) (by decide +kernel), x, c, l, q, _, L', S', rfl, W11.F, ?_⟩
      refine ⟨_, rfl, st, _, rfl, .inl (SqL.of hst11), vi S'.length, _, rfl, ?_, fun H12 s12 => ⟨true, rfl, iteF ?_⟩⟩
      · rw [hts11.len]
        exact .leaf True.intro
      have W12 := W11.same s12
      obtain ⟨⟨dx12, ho12⟩, _⟩ := id W12.F
      refine ⟨_, rfl, x, dx12, _, rfl, ho12, flds_no _ _ _ (by decide +kernel) (by decide +kernel) (by decide +kernel), x, c, l, q, _, L', S', rfl, W12.F, fun r1 hr1 => ?_⟩
      refine ⟨.inl ⟨rfl, _, SqL.of upd_same⟩, r1, _, _, rfl, rfl, upd_same, (by rw [List.length_map]; exact Nat.lt_of_le_of_lt hal (by decide)), ?_⟩
      rw [upd_upd]
      have W13 := W12.same (same_upd (o := .lst ((after L' S').map vi ++ [.int 7])) hr1)
      generalize L2.upd H12 r1 (.lst ((after L' S').map vi ++ [.int 7])) = H13 at W13
      refine ⟨_, rfl, ps, d, ds, 4, rfl, W13.S0, by decide, fun H14 v S14 B14 v0 v1 => ⟨rfl, _, rfl, ite2 (fun _ => ?_) (fun _ => ⟨c, l, q, la, st, L', S', _, _, rfl, W13.next S14 B14, hb'⟩)⟩⟩
      have W14 := W13.next S14 B14
      obtain ⟨⟨dx14, ho14⟩, _⟩ := id W14.F
      refine ⟨_, rfl, x, dx14, _, rfl, ho14, flds_no _ _ _ (by decide +kernel) (by decide +kernel) (by decide +kernel), x, c, l, q, _, L', S', rfl, W14.F, fun r1 hr1 => ?_⟩
      have s9 : Same H14 (L2.upd H14 r1 (.lst ((after L' S').map vi))) := same_upd hr1
      have g9 : L2.upd H14 r1 (.lst ((after L' S').map vi)) r1 = some (.lst ((after L' S').map vi)) := upd_same
      have W9 := W14.same s9
      generalize L2.upd H14 r1 (.lst ((after L' S').map vi)) = H9 at W9 g9
      obtain ⟨ts9, hst9, hts9⟩ := id W9.hst
      refine ⟨_, rfl, _, rfl, la, st, L', ts9, S', rfl, W9.hla, hst9, hts9, by omega, fun H10 r2 s10 hr2 g10 => ?_⟩
      refine ⟨_, _, rfl, same_ints (s10 _ _ g9) g10 hal, fun H11 s11 => ⟨true, rfl, iteF ⟨c, l, q, la, st, L', S', _, _, rfl, (W9.same s10).same s11, hb'⟩⟩⟩
    · rintro σ H7 ⟨c, l, q, la, st, L, S, y5, y6, rfl, W, hb⟩
      obtain ⟨⟨dx, ho⟩, _⟩ := id W.F
      refine ⟨_, rfl, x, dx, _, rfl, ho, flds_no _ _ _ (by decide +kernel) (by decide +kernel) (by decide +kernel), x, c, l, q, _, L, S, 0, rfl, W.F, by omega, by omega, fun H8 c8 l8 q8 G8 F8 => ?_⟩
      have la8 := (G8 _ _ W.hla W.o3).1
      have F8' : FileAt C H8 x c8 l8 q8 L L [] := F8
      obtain ⟨⟨dx8, ho8⟩, _⟩ := id F8'
      refine ⟨_, rfl, x, dx8, _, rfl, ho8, flds_no _ _ _ (by decide +kernel) (by decide +kernel) (by decide +kernel), x, c8, l8, q8, _, L, [], rfl, F8', fun r1 hr1 => ?_⟩
      have s9 : Same H8 (L2.upd H8 r1 (.lst (L.map vi))) := same_upd hr1
      refine ⟨_, rfl, _, _, rfl, same_ints upd_same (s9 _ _ la8) (by omega), fun H9 s10 => ⟨true, rfl, iteT ?_⟩⟩
      have F9 := (F8'.same s9).same s10
      obtain ⟨⟨dx9, ho9⟩, _⟩ := id F9
      exact ⟨_, rfl, x, dx9, _, rfl, ho9, flds_no _ _ _ (by decide +kernel) (by decide +kernel) (by decide +kernel), x, c8, l8, q8, _, L, [], rfl, F9, _, _, rfl, .leaf True.intro, fun H10 _ => qq H10⟩
end
end Q42
namespace Q42
open PySem PySem.Spec PyProof.Rows L2 SX HL
theorem all_mk {l : PySem.W.OpenLaw} {w : World} {K : PySem.W.Frag} {h : Heap} {mg : Str → Option Value} {fa f1 f2 f3 f4 f5 f6 f7 f8 f9 f10 : Addr} (X : K.In h) (G : h.Ns mainGlobals mg) (hfa : mg "law" = some (.ref fa))
    {cFile g1 g2 g3 g4 g5 g6 g7 g8 g9 : Addr} {Od1 An1 Od2 An2 Od3 An3 Od4 An4 Od5 An5 Od6 An6 Od7 An7 Od8 An8 Od9 An9 : Option Addr} {Sl1 Sl2 Sl3 Sl4 Sl5 Sl6 Sl7 Sl8 Sl9 : Array (Option Value)} {Oc1 KV1 Dc1 Pm1 Cd1 Ct1 Oc2 KV2 Dc2 Pm2 Cd2 Ct2 Oc3 KV3 Dc3 Pm3 Cd3 Ct3 Oc4 KV4 Dc4 Pm4 Cd4 Ct4 Oc5 KV5 Dc5 Pm5 Cd5 Ct5 Oc6 KV6 Dc6 Pm6 Cd6 Ct6 Oc7 KV7 Dc7 Pm7 Cd7 Ct7 Oc8 KV8 Dc8 Pm8 Cd8 Ct8 Oc9 KV9 Dc9 Pm9 Cd9 Ct9 : Value}
    {od1 an1 od2 an2 od3 an3 od4 an4 od5 an5 od6 an6 od7 an7 od8 an8 od9 an9 od10 an10 : Option Addr} {sl1 sl2 sl3 sl4 sl5 sl6 sl7 sl8 sl9 sl10 : Array (Option Value)} {oc1 kV1 dc1 pm1 cd1 ct1 oc2 kV2 dc2 pm2 cd2 ct2 oc3 kV3 dc3 pm3 cd3 ct3 oc4 kV4 dc4 pm4 cd4 ct4 oc5 kV5 dc5 pm5 cd5 ct5 oc6 kV6 dc6 pm6 cd6 ct6 oc7 kV7 dc7 pm7 cd7 ct7 oc8 kV8 dc8 pm8 cd8 ct8 oc9 kV9 dc9 pm9 cd9 ct9 oc10 kV10 dc10 pm10 cd10 ct10 : Value} 
    (a1 : PySem.W.nsIn K mainGlobals "granted" = some (some (.ref f1)))
    (l1 : K.lookup f1 = some ⟨oc1, od1, .func (PySem.W.fnOf "granted" "granted" (defArgs sGranted) (defBody sGranted) (defScope sGranted) .none kV1 dc1 pm1 an1 cd1 ct1), sl1⟩)
    (c1 : PySem.W.codeIn K cd1 "granted" = true)
    (k1 : PySem.W.keepIn K (.ref f1) = true)
    (a2 : PySem.W.nsIn K mainGlobals "_law_mix" = some (some (.ref f2)))
    (l2 : K.lookup f2 = some ⟨oc2, od2, .func (PySem.W.fnOf "_law_mix" "_law_mix" (defArgs sLawMix) (defBody sLawMix) (defScope sLawMix) .none kV2 dc2 pm2 an2 cd2 ct2), sl2⟩)
    (c2 : PySem.W.codeIn K cd2 "_law_mix" = true)
    (k2 : PySem.W.keepIn K (.ref f2) = true)
    (a3 : PySem.W.nsIn K mainGlobals "_law_draws" = some (some (.ref f3)))
    (l3 : K.lookup f3 = some ⟨oc3, od3, .func (PySem.W.fnOf "_law_draws" "_law_draws" (defArgs sLawDraws) (defBody sLawDraws) (defScope sLawDraws) .none kV3 dc3 pm3 an3 cd3 ct3), sl3⟩)
    (c3 : PySem.W.codeIn K cd3 "_law_draws" = true)
    (k3 : PySem.W.keepIn K (.ref f3) = true)
    (a4 : PySem.W.nsIn K mainGlobals "_law_at" = some (some (.ref f4)))
    (l4 : K.lookup f4 = some ⟨oc4, od4, .func (PySem.W.fnOf "_law_at" "_law_at" (defArgs sLawAt) (defBody sLawAt) (defScope sLawAt) .none kV4 dc4 pm4 an4 cd4 ct4), sl4⟩)
    (c4 : PySem.W.codeIn K cd4 "_law_at" = true)
    (k4 : PySem.W.keepIn K (.ref f4) = true)
    (a5 : PySem.W.nsIn K mainGlobals "_law_is_integer" = some (some (.ref f5)))
    (l5 : K.lookup f5 = some ⟨oc5, od5, .func (PySem.W.fnOf "_law_is_integer" "_law_is_integer" (defArgs sLawIsInteger) (defBody sLawIsInteger) (defScope sLawIsInteger) .none kV5 dc5 pm5 an5 cd5 ct5), sl5⟩)
    (c5 : PySem.W.codeIn K cd5 "_law_is_integer" = true)
    (k5 : PySem.W.keepIn K (.ref f5) = true)
    (a6 : PySem.W.nsIn K mainGlobals "_law_same" = some (some (.ref f6)))
    (l6 : K.lookup f6 = some ⟨oc6, od6, .func (PySem.W.fnOf "_law_same" "_law_same" (defArgs sLawSame) (defBody sLawSame) (defScope sLawSame) .none kV6 dc6 pm6 an6 cd6 ct6), sl6⟩)
    (c6 : PySem.W.codeIn K cd6 "_law_same" = true)
    (k6 : PySem.W.keepIn K (.ref f6) = true)
    (a7 : PySem.W.nsIn K mainGlobals "_law_next" = some (some (.ref f7)))
    (l7 : K.lookup f7 = some ⟨oc7, od7, .func (PySem.W.fnOf "_law_next" "_law_next" (defArgs sLawNext) (defBody sLawNext) (defScope sLawNext) .none kV7 dc7 pm7 an7 cd7 ct7), sl7⟩)
    (c7 : PySem.W.codeIn K cd7 "_law_next" = true)
    (k7 : PySem.W.keepIn K (.ref f7) = true)
    (a8 : PySem.W.nsIn K mainGlobals "_law_after" = some (some (.ref f8)))
    (l8 : K.lookup f8 = some ⟨oc8, od8, .func (PySem.W.fnOf "_law_after" "_law_after" (defArgs sLawAfter) (defBody sLawAfter) (defScope sLawAfter) .none kV8 dc8 pm8 an8 cd8 ct8), sl8⟩)
    (c8 : PySem.W.codeIn K cd8 "_law_after" = true)
    (k8 : PySem.W.keepIn K (.ref f8) = true)
    (a9 : PySem.W.nsIn K mainGlobals "_law_deed" = some (some (.ref f9)))
    (l9 : K.lookup f9 = some ⟨oc9, od9, .func (PySem.W.fnOf "_law_deed" "_law_deed" (defArgs sLawDeed) (defBody sLawDeed) (defScope sLawDeed) .none kV9 dc9 pm9 an9 cd9 ct9), sl9⟩)
    (c9 : PySem.W.codeIn K cd9 "_law_deed" = true)
    (k9 : PySem.W.keepIn K (.ref f9) = true)
    (a10 : PySem.W.nsIn K mainGlobals "law" = some (some (.ref f10)))
    (l10 : K.lookup f10 = some ⟨oc10, od10, .func (PySem.W.fnOf "law" "law" (defArgs sLaw) (defBody sLaw) (defScope sLaw) .none kV10 dc10 pm10 an10 cd10 ct10), sl10⟩)
    (c10 : PySem.W.codeIn K cd10 "law" = true)
    (k10 : PySem.W.keepIn K (.ref f10) = true)
    (caFile : PySem.W.nsIn K mainGlobals "File" = some (some (.ref cFile)))
    (ma1 : PySem.W.findIn K (.ref cFile) "__init__" = some (some (.ref g1)))
    (mi1 : PySem.W.isFn K (.ref g1) = true)
    (ml1 : K.lookup g1 = some ⟨Oc1, Od1, .func (PySem.W.fnOf "__init__" "File.__init__" (defArgs sFileInit) (defBody sFileInit) (defScope sFileInit) .none KV1 Dc1 Pm1 An1 Cd1 Ct1), Sl1⟩)
    (mc1 : PySem.W.codeIn K Cd1 "File.__init__" = true)
    (mk1 : PySem.W.keepIn K (.ref g1) = true)
    (ma2 : PySem.W.findIn K (.ref cFile) "write" = some (some (.ref g2)))
    (mi2 : PySem.W.isFn K (.ref g2) = true)
    (ml2 : K.lookup g2 = some ⟨Oc2, Od2, .func (PySem.W.fnOf "write" "File.write" (defArgs sFileWrite) (defBody sFileWrite) (defScope sFileWrite) .none KV2 Dc2 Pm2 An2 Cd2 Ct2), Sl2⟩)
    (mc2 : PySem.W.codeIn K Cd2 "File.write" = true)
    (mk2 : PySem.W.keepIn K (.ref g2) = true)
    (ma3 : PySem.W.findIn K (.ref cFile) "shorten" = some (some (.ref g3)))
    (mi3 : PySem.W.isFn K (.ref g3) = true)
    (ml3 : K.lookup g3 = some ⟨Oc3, Od3, .func (PySem.W.fnOf "shorten" "File.shorten" (defArgs sFileShorten) (defBody sFileShorten) (defScope sFileShorten) .none KV3 Dc3 Pm3 An3 Cd3 Ct3), Sl3⟩)
    (mc3 : PySem.W.codeIn K Cd3 "File.shorten" = true)
    (mk3 : PySem.W.keepIn K (.ref g3) = true)
    (ma4 : PySem.W.findIn K (.ref cFile) "flush" = some (some (.ref g4)))
    (mi4 : PySem.W.isFn K (.ref g4) = true)
    (ml4 : K.lookup g4 = some ⟨Oc4, Od4, .func (PySem.W.fnOf "flush" "File.flush" (defArgs sFileFlush) (defBody sFileFlush) (defScope sFileFlush) .none KV4 Dc4 Pm4 An4 Cd4 Ct4), Sl4⟩)
    (mc4 : PySem.W.codeIn K Cd4 "File.flush" = true)
    (mk4 : PySem.W.keepIn K (.ref g4) = true)
    (ma5 : PySem.W.findIn K (.ref cFile) "content" = some (some (.ref g5)))
    (mi5 : PySem.W.isFn K (.ref g5) = true)
    (ml5 : K.lookup g5 = some ⟨Oc5, Od5, .func (PySem.W.fnOf "content" "File.content" (defArgs sFileContent) (defBody sFileContent) (defScope sFileContent) .none KV5 Dc5 Pm5 An5 Cd5 Ct5), Sl5⟩)
    (mc5 : PySem.W.codeIn K Cd5 "File.content" = true)
    (mk5 : PySem.W.keepIn K (.ref g5) = true)
    (ma6 : PySem.W.findIn K (.ref cFile) "pending" = some (some (.ref g6)))
    (mi6 : PySem.W.isFn K (.ref g6) = true)
    (ml6 : K.lookup g6 = some ⟨Oc6, Od6, .func (PySem.W.fnOf "pending" "File.pending" (defArgs sFilePending) (defBody sFilePending) (defScope sFilePending) .none KV6 Dc6 Pm6 An6 Cd6 Ct6), Sl6⟩)
    (mc6 : PySem.W.codeIn K Cd6 "File.pending" = true)
    (mk6 : PySem.W.keepIn K (.ref g6) = true)
    (ma7 : PySem.W.findIn K (.ref cFile) "lose" = some (some (.ref g7)))
    (mi7 : PySem.W.isFn K (.ref g7) = true)
    (ml7 : K.lookup g7 = some ⟨Oc7, Od7, .func (PySem.W.fnOf "lose" "File.lose" (defArgs sFileLose) (defBody sFileLose) (defScope sFileLose) .none KV7 Dc7 Pm7 An7 Cd7 Ct7), Sl7⟩)
    (mc7 : PySem.W.codeIn K Cd7 "File.lose" = true)
    (mk7 : PySem.W.keepIn K (.ref g7) = true)
    (ma8 : PySem.W.findIn K (.ref cFile) "_do" = some (some (.ref g8)))
    (mi8 : PySem.W.isFn K (.ref g8) = true)
    (ml8 : K.lookup g8 = some ⟨Oc8, Od8, .func (PySem.W.fnOf "_do" "File._do" (defArgs sFileDo) (defBody sFileDo) (defScope sFileDo) .none KV8 Dc8 Pm8 An8 Cd8 Ct8), Sl8⟩)
    (mc8 : PySem.W.codeIn K Cd8 "File._do" = true)
    (mk8 : PySem.W.keepIn K (.ref g8) = true)
    (ma9 : PySem.W.findIn K (.ref cFile) "_settle" = some (some (.ref g9)))
    (mi9 : PySem.W.isFn K (.ref g9) = true)
    (ml9 : K.lookup g9 = some ⟨Oc9, Od9, .func (PySem.W.fnOf "_settle" "File._settle" (defArgs sFileSettle) (defBody sFileSettle) (defScope sFileSettle) .none KV9 Dc9 Pm9 An9 Cd9 Ct9), Sl9⟩)
    (mc9 : PySem.W.codeIn K Cd9 "File._settle" = true)
    (mk9 : PySem.W.keepIn K (.ref g9) = true)
    (cpgFile : PySem.W.plainGet K cFile Str.empty = true)
    (chdFile : PySem.W.hasDictIn K cFile = true)
    (cpoFile : PySem.W.plainOver K cFile = true)
    (csaFile : PySem.W.findIn K (.ref cFile) "__setattr__" = some (some (.builtin "object.__setattr__")))
    (cmkFile : PySem.W.makesIn K cFile = true)
    (ckcFile : PySem.W.keepIn K (.ref cFile) = true)
    (cnFile_0 : PySem.W.findIn K (.ref cFile) "_content" = some none)
    (cnFile_1 : PySem.W.findIn K (.ref cFile) "_lasting" = some none)
    (cnFile_2 : PySem.W.findIn K (.ref cFile) "_pending" = some none)
    (z_len : PySem.W.nsIn K mainGlobals "len" = some none)
    (z_range : PySem.W.nsIn K mainGlobals "range" = some none)
    (z_min : PySem.W.nsIn K mainGlobals "min" = some none)
    (z_isinstance : PySem.W.nsIn K mainGlobals "isinstance" = some none)
    (z_bool : PySem.W.nsIn K mainGlobals "bool" = some none)
    (z_int : PySem.W.nsIn K mainGlobals "int" = some none)
    (z_str : PySem.W.nsIn K mainGlobals "str" = some none)
    (z_tuple : PySem.W.nsIn K mainGlobals "tuple" = some none)
    (z_list : PySem.W.nsIn K mainGlobals "list" = some none)
    : ∃ fd : FuncData, (∀ (s : Shared) (v : Value), BindsTo s fd ⟨[v], []⟩ [("script", v)]) ∧ ∀ base : Heap, K.In base → base.Ns mainGlobals mg → FnOk l.prog w K mg base CX0 5 fa fd ["script"] (spLaw K) := by
  have e := hfa.symm.trans (PySem.W.mg_of X G a10)
  cases e
  have T : Txt mg := { len := PySem.W.mg_none_of X G z_len, range := PySem.W.mg_none_of X G z_range, min := PySem.W.mg_none_of X G z_min, isinstance := PySem.W.mg_none_of X G z_isinstance, bool := PySem.W.mg_none_of X G z_bool, int := PySem.W.mg_none_of X G z_int, str := PySem.W.mg_none_of X G z_str, tuple := PySem.W.mg_none_of X G z_tuple, list := PySem.W.mg_none_of X G z_list }
  have F1 := fun_mk (st := sGranted) l1 c1 k1
  have b1 := F1.binds (ps := ["needed", "steps"]) fun _ _ _ _ _ _ us hl => match us, hl with | [_, _], _ => rfl
  have DGranted : DefN K mg "granted" sGranted ["needed", "steps"] f1 _ := ⟨F1, b1, PySem.W.mg_of X G a1⟩
  have F2 := fun_mk (st := sLawMix) l2 c2 k2
  have b2 := F2.binds (ps := ["cell", "k"]) fun _ _ _ _ _ _ us hl => match us, hl with | [_, _], _ => rfl
  have DLawMix : DefN K mg "_law_mix" sLawMix ["cell", "k"] f2 _ := ⟨F2, b2, PySem.W.mg_of X G a2⟩
  have F3 := fun_mk (st := sLawDraws) l3 c3 k3
  have b3 := F3.binds (ps := ["script"]) fun _ _ _ _ _ _ us hl => match us, hl with | [_], _ => rfl
  have DLawDraws : DefN K mg "_law_draws" sLawDraws ["script"] f3 _ := ⟨F3, b3, PySem.W.mg_of X G a3⟩
  have F4 := fun_mk (st := sLawAt) l4 c4 k4
  have b4 := F4.binds (ps := ["draws", "index"]) fun _ _ _ _ _ _ us hl => match us, hl with | [_, _], _ => rfl
  have DLawAt : DefN K mg "_law_at" sLawAt ["draws", "index"] f4 _ := ⟨F4, b4, PySem.W.mg_of X G a4⟩
  have F5 := fun_mk (st := sLawIsInteger) l5 c5 k5
  have b5 := F5.binds (ps := ["actual"]) fun _ _ _ _ _ _ us hl => match us, hl with | [_], _ => rfl
  have DLawIsInteger : DefN K mg "_law_is_integer" sLawIsInteger ["actual"] f5 _ := ⟨F5, b5, PySem.W.mg_of X G a5⟩
  have F6 := fun_mk (st := sLawSame) l6 c6 k6
  have b6 := F6.binds (ps := ["actual", "expected"]) fun _ _ _ _ _ _ us hl => match us, hl with | [_, _], _ => rfl
  have DLawSame : DefN K mg "_law_same" sLawSame ["actual", "expected"] f6 _ := ⟨F6, b6, PySem.W.mg_of X G a6⟩
  have F7 := fun_mk (st := sLawNext) l7 c7 k7
  have b7 := F7.binds (ps := ["state", "limit"]) fun _ _ _ _ _ _ us hl => match us, hl with | [_, _], _ => rfl
  have DLawNext : DefN K mg "_law_next" sLawNext ["state", "limit"] f7 _ := ⟨F7, b7, PySem.W.mg_of X G a7⟩
  have F8 := fun_mk (st := sLawAfter) l8 c8 k8
  have b8 := F8.binds (ps := ["data", "steps"]) fun _ _ _ _ _ _ us hl => match us, hl with | [_, _], _ => rfl
  have DLawAfter : DefN K mg "_law_after" sLawAfter ["data", "steps"] f8 _ := ⟨F8, b8, PySem.W.mg_of X G a8⟩
  have F9 := fun_mk (st := sLawDeed) l9 c9 k9
  have b9 := F9.binds (ps := ["state", "file", "lasting", "steps"]) fun _ _ _ _ _ _ us hl => match us, hl with | [_, _, _, _], _ => rfl
  have DLawDeed : DefN K mg "_law_deed" sLawDeed ["state", "file", "lasting", "steps"] f9 _ := ⟨F9, b9, PySem.W.mg_of X G a9⟩
  have F10 := fun_mk (st := sLaw) l10 c10 k10
  have b10 := F10.binds (ps := ["script"]) fun _ _ _ _ _ _ us hl => match us, hl with | [_], _ => rfl
  have DLaw : DefN K mg "law" sLaw ["script"] fa _ := ⟨F10, b10, PySem.W.mg_of X G a10⟩
  have E1 := fun_mk (st := sFileInit) ml1 mc1 mk1
  have e1 := E1.binds (ps := ["self"]) fun _ _ _ _ _ _ us hl => match us, hl with | [_], _ => rfl
  have DFileInit : DefI K "File.__init__" sFileInit ["self"] g1 _ := ⟨E1, e1⟩
  have CFile : ClsN K mg "File" cFile g1 := ⟨PySem.W.mg_of X G caFile, ⟨cpgFile, chdFile, cpoFile, csaFile⟩, ⟨cmkFile, ma1, mi1, ckcFile⟩⟩
  have TFile : TxtFile K cFile := ⟨cnFile_0, cnFile_1, cnFile_2⟩
  have E2 := fun_mk (st := sFileWrite) ml2 mc2 mk2
  have e2 := E2.binds (ps := ["self", "data", "steps"]) fun _ _ _ _ _ _ us hl => match us, hl with | [_, _, _], _ => rfl
  have DFileWrite : DefM K cFile "write" "File.write" sFileWrite ["self", "data", "steps"] g2 _ := ⟨E2, e2, ⟨ma2, mi2, mk2⟩⟩
  have E3 := fun_mk (st := sFileShorten) ml3 mc3 mk3
  have e3 := E3.binds (ps := ["self", "size", "steps"]) fun _ _ _ _ _ _ us hl => match us, hl with | [_, _, _], _ => rfl
  have DFileShorten : DefM K cFile "shorten" "File.shorten" sFileShorten ["self", "size", "steps"] g3 _ := ⟨E3, e3, ⟨ma3, mi3, mk3⟩⟩
  have E4 := fun_mk (st := sFileFlush) ml4 mc4 mk4
  have e4 := E4.binds (ps := ["self", "steps"]) fun _ _ _ _ _ _ us hl => match us, hl with | [_, _], _ => rfl
  have DFileFlush : DefM K cFile "flush" "File.flush" sFileFlush ["self", "steps"] g4 _ := ⟨E4, e4, ⟨ma4, mi4, mk4⟩⟩
  have E5 := fun_mk (st := sFileContent) ml5 mc5 mk5
  have e5 := E5.binds (ps := ["self"]) fun _ _ _ _ _ _ us hl => match us, hl with | [_], _ => rfl
  have DFileContent : DefM K cFile "content" "File.content" sFileContent ["self"] g5 _ := ⟨E5, e5, ⟨ma5, mi5, mk5⟩⟩
  have E6 := fun_mk (st := sFilePending) ml6 mc6 mk6
  have e6 := E6.binds (ps := ["self"]) fun _ _ _ _ _ _ us hl => match us, hl with | [_], _ => rfl
  have DFilePending : DefM K cFile "pending" "File.pending" sFilePending ["self"] g6 _ := ⟨E6, e6, ⟨ma6, mi6, mk6⟩⟩
  have E7 := fun_mk (st := sFileLose) ml7 mc7 mk7
  have e7 := E7.binds (ps := ["self", "steps"]) fun _ _ _ _ _ _ us hl => match us, hl with | [_, _], _ => rfl
  have DFileLose : DefM K cFile "lose" "File.lose" sFileLose ["self", "steps"] g7 _ := ⟨E7, e7, ⟨ma7, mi7, mk7⟩⟩
  have E8 := fun_mk (st := sFileDo) ml8 mc8 mk8
  have e8 := E8.binds (ps := ["self", "step"]) fun _ _ _ _ _ _ us hl => match us, hl with | [_, _], _ => rfl
  have DFileDo : DefM K cFile "_do" "File._do" sFileDo ["self", "step"] g8 _ := ⟨E8, e8, ⟨ma8, mi8, mk8⟩⟩
  have E9 := fun_mk (st := sFileSettle) ml9 mc9 mk9
  have e9 := E9.binds (ps := ["self"]) fun _ _ _ _ _ _ us hl => match us, hl with | [_], _ => rfl
  have DFileSettle : DefM K cFile "_settle" "File._settle" sFileSettle ["self"] g9 _ := ⟨E9, e9, ⟨ma9, mi9, mk9⟩⟩
  exact ⟨PySem.W.fnOf "law" "law" (defArgs sLaw) (defBody sLaw) (defScope sLaw) .none kV10 dc10 pm10 an10 cd10 ct10, fun s v => .of_eq rfl, fun base _ _ => ok_law DLaw T CFile TFile DLawDraws DLawDeed DLawNext DLawAt DLawMix DLawSame DLawIsInteger DLawAfter DFileInit DFileWrite DFileShorten DFileFlush DFileContent DFilePending DFileLose DGranted DFileDo DFileSettle⟩
end Q42
open PySem PySem.W PyProof.Rows
set_option maxHeartbeats 0 in
theorem PySem.Challenge.cw_quillrun_k42_files_keep_a_beginning_holds : PySem.Challenge.rw_quillrun_k42_files_keep_a_beginning.Holds := by
  w_on; o_law; k_head; (case hw => w_witness2)
  k_fill
  refine L2.walk_of (l := PySem.Challenge.rw_quillrun_k42_files_keep_a_beginning) (n := 63) (k := 5) (x := "script") (CX := fun _ => L2.CX0) (sp := fun w => Q42.spLaw _) rfl (by decide) rfl ⟨rfl, by decide, by decide⟩ (fun w h Y => PySem.W.kIn_of Y) ?F (fun _ _ a ns hl _ hS => ⟨a, ns, rfl, hS, hl, fun _ => rfl⟩) (fun _ _ _ _ _ h => h)
  case F =>
    intro w mg fa h KX G hmg
    refine' Q42.all_mk KX G hmg ?a1 ?l1 ?c1 ?k1 ?a2 ?l2 ?c2 ?k2 ?a3 ?l3 ?c3 ?k3 ?a4 ?l4 ?c4 ?k4 ?a5 ?l5 ?c5 ?k5 ?a6 ?l6 ?c6 ?k6 ?a7 ?l7 ?c7 ?k7 ?a8 ?l8 ?c8 ?k8 ?a9 ?l9 ?c9 ?k9 ?a10 ?l10 ?c10 ?k10 ?caFile ?ma1 ?mi1 ?ml1 ?mc1 ?mk1 ?ma2 ?mi2 ?ml2 ?mc2 ?mk2 ?ma3 ?mi3 ?ml3 ?mc3 ?mk3 ?ma4 ?mi4 ?ml4 ?mc4 ?mk4 ?ma5 ?mi5 ?ml5 ?mc5 ?mk5 ?ma6 ?mi6 ?ml6 ?mc6 ?mk6 ?ma7 ?mi7 ?ml7 ?mc7 ?mk7 ?ma8 ?mi8 ?ml8 ?mc8 ?mk8 ?ma9 ?mi9 ?ml9 ?mc9 ?mk9 ?cpgFile ?chdFile ?cpoFile ?csaFile ?cmkFile ?ckcFile ?cnFile_0 ?cnFile_1 ?cnFile_2 ?z_len ?z_range ?z_min ?z_isinstance ?z_bool ?z_int ?z_str ?z_tuple ?z_list
    (case a1 => k_is)
    (case l1 => k_is)
    (case c1 => k_is)
    (case k1 => k_is)
    (case a2 => k_is)
    (case l2 => k_is)
    (case c2 => k_is)
    (case k2 => k_is)
    (case a3 => k_is)
    (case l3 => k_is)
    (case c3 => k_is)
    (case k3 => k_is)
    (case a4 => k_is)
    (case l4 => k_is)
    (case c4 => k_is)
    (case k4 => k_is)
    (case a5 => k_is)
    (case l5 => k_is)
    (case c5 => k_is)
    (case k5 => k_is)
    (case a6 => k_is)
    (case l6 => k_is)
    (case c6 => k_is)
    (case k6 => k_is)
    (case a7 => k_is)
    (case l7 => k_is)
    (case c7 => k_is)
    (case k7 => k_is)
    (case a8 => k_is)
    (case l8 => k_is)
    (case c8 => k_is)
    (case k8 => k_is)
    (case a9 => k_is)
    (case l9 => k_is)
    (case c9 => k_is)
    (case k9 => k_is)
    (case a10 => k_is)
    (case l10 => k_is)
    (case c10 => k_is)
    (case k10 => k_is)
    (case caFile => k_is)
    (case ma1 => k_is)
    (case mi1 => k_is)
    (case ml1 => k_is)
    (case mc1 => k_is)
    (case mk1 => k_is)
    (case ma2 => k_is)
    (case mi2 => k_is)
    (case ml2 => k_is)
    (case mc2 => k_is)
    (case mk2 => k_is)
    (case ma3 => k_is)
    (case mi3 => k_is)
    (case ml3 => k_is)
    (case mc3 => k_is)
    (case mk3 => k_is)
    (case ma4 => k_is)
    (case mi4 => k_is)
    (case ml4 => k_is)
    (case mc4 => k_is)
    (case mk4 => k_is)
    (case ma5 => k_is)
    (case mi5 => k_is)
    (case ml5 => k_is)
    (case mc5 => k_is)
    (case mk5 => k_is)
    (case ma6 => k_is)
    (case mi6 => k_is)
    (case ml6 => k_is)
    (case mc6 => k_is)
    (case mk6 => k_is)
    (case ma7 => k_is)
    (case mi7 => k_is)
    (case ml7 => k_is)
    (case mc7 => k_is)
    (case mk7 => k_is)
    (case ma8 => k_is)
    (case mi8 => k_is)
    (case ml8 => k_is)
    (case mc8 => k_is)
    (case mk8 => k_is)
    (case ma9 => k_is)
    (case mi9 => k_is)
    (case ml9 => k_is)
    (case mc9 => k_is)
    (case mk9 => k_is)
    (case cpgFile => k_is)
    (case chdFile => k_is)
    (case cpoFile => k_is)
    (case csaFile => k_is)
    (case cmkFile => k_is)
    (case ckcFile => k_is)
    (case cnFile_0 => k_is)
    (case cnFile_1 => k_is)
    (case cnFile_2 => k_is)
    (case z_len => k_is)
    (case z_range => k_is)
    (case z_min => k_is)
    (case z_isinstance => k_is)
    (case z_bool => k_is)
    (case z_int => k_is)
    (case z_str => k_is)
    (case z_tuple => k_is)
    (case z_list => k_is)
#print axioms PySem.Challenge.cw_quillrun_k42_files_keep_a_beginning_holds
