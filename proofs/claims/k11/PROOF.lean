import PyProof.Rows.All
import Wide.All
import OpenK.AllK
import Wide.FinOn
import PyProof.Rows.All
import HandS.ForMost
import HandS.ForExc
import HandS.IsInst
import HandS.Codes
import HandS.Walk
import HandS.Star
import HandS.TryOnly
import HandS.ExcOwn
import HandS.Defaults
import HandS.Deep
import HandS.Comp
import HandS.DictComp
import PyProof.Draws
import HandS.Rev
import HandS.RevTup
import KE.KRevIter
import PyProof.RulesMatchSeq
import PyProof.Rows.MatchSeqLen
import HandS.Zip
import PyProof.AutoSeq1
import KE.KRevSl
import HandS.ExcIs
import KE.GoesEnumKw
import KE.GoesMore
import HandS.FStr
import HandS.StrMore
import HandS.NoneIn
import HandS.SetKeys
import HandS.More
import HandS.RaiseMore
import KE.RegKIsAll
import PySem.Challenge.RW_quillrun_k11_names_made_and_used
set_option Elab.async false
set_option linter.all false
set_option maxRecDepth 100000
set_option maxHeartbeats 4000000
namespace HL
open PySem PySem.Spec PyProof.Rows L2 SX
/-! ## short words of my own, over the hand layer -/
theorem boot_isinstance : bootBuiltins "isinstance" = some (.builtin "isinstance") := by decide +kernel
theorem boot_bool : bootBuiltins "bool" = some (.type "bool") := by decide +kernel
theorem boot_int : bootBuiltins "int" = some (.type "int") := by decide +kernel
theorem boot_str : bootBuiltins "str" = some (.type "str") := by decide +kernel
theorem boot_tuple : bootBuiltins "tuple" = some (.type "tuple") := by decide +kernel
theorem boot_list : bootBuiltins "list" = some (.type "list") := by decide +kernel
theorem boot_dict : bootBuiltins "dict" = some (.type "dict") := by decide +kernel
/-- a def of the module: its body, its arguments, its name -/
structure DefN (K : PySem.W.Frag) (mg : Str → Option Value) (x : Str) (st : Stmt) (ps : List Str) (f : Addr) (fd : FuncData) : Prop where
  F : Fun K x x st f fd
  b : Binds K fd ps []
  g : mg x = some (.ref f)
theorem small (n : Nat) (h : n ≤ 1000000) : n ≤ sizeLine := Nat.le_trans h (by decide)
theorem same_upd {H : Hp} {p : Addr} {o : HO} (h : H p = none) : Same H (upd H p o) := fun b x e => by
  rw [upd_ne (ne_of_none e h)]
  exact e
theorem S_app (a b : List Nat) : (S a ++ S b : Str) = S (a ++ b) := S_cat a b
theorem sign_at {t : List Nat} {k : Nat} (h : k < t.length) : atI (S t).cps.toList (k : Int) = some (t.getD k 0) := by
  show atI t.toArray.toList (k : Int) = _
  refine atI_nat ?_
  simp [List.getD_eq_getElem?_getD, h]
theorem cutS_nat (t : List Nat) (a b : Nat) (h : a ≤ b) (h2 : b ≤ t.length) : cutS (S t) (some (a : Int)) (some (b : Int)) = S ((t.drop a).take (b - a)) := by
  unfold cutS
  rw [S_len, HT.sIx_nat, HT.sIx_nat]
  have e1 : min a t.length = a := by omega
  have e2 : min b t.length = b := by omega
  rw [e1, e2]
/-- ends beyond the end -/
theorem cutS_any (t : List Nat) (a b : Nat) : cutS (S t) (some (a : Int)) (some (b : Int)) = S ((t.drop a).take (b - a)) := by
  unfold cutS
  rw [S_len, HT.sIx_nat, HT.sIx_nat]
  congr 2
  show List.take _ (List.drop _ t) = _
  by_cases ha : a ≤ t.length
  · have e1 : min a t.length = a := by omega
    rw [e1]
    by_cases hb : b ≤ t.length
    · have e2 : min b t.length = b := by omega
      rw [e2]
    · have e2 : min b t.length = t.length := by omega
      rw [e2, List.take_of_length_le (by rw [List.length_drop]; omega), List.take_of_length_le (by rw [List.length_drop]; omega)]
  · have e1 : min a t.length = t.length := by omega
    rw [e1, List.drop_of_length_le (Nat.le_refl _), List.drop_of_length_le (show t.length ≤ a by omega)]
    simp
theorem joinL_nil : ∀ C : List (List Nat), TL.joinL [] C = C.flatten
  | [] => rfl
  | [c] => by simp [TL.joinL]
  | c :: d :: r => by
    show c ++ ([] ++ TL.joinL [] (d :: r)) = _
    rw [joinL_nil (d :: r)]
    simp
/-- a test whose answer is known -/
theorem iteNo {c A B : Prop} [Decidable c] (h : ¬ c) (hb : B) : if c then A else B := by
  rw [if_neg h]
  exact hb
theorem iteYes {c A B : Prop} [Decidable c] (h : c) (ha : A) : if c then A else B := by
  rw [if_pos h]
  exact ha
/-- a comprehension without a test -/
theorem lc_yes {te : TE} {σ : L2.St} {H : Hp} {R : VK} {B : Hp → Prop} (h : te σ H R) : tYes σ H (fun b H3 => if b = true then te σ H3 R else B H3) := by
  show (if true = true then te σ H R else B H)
  rw [if_pos rfl]
  exact h
/-- all but p is as it was -/
def But (H H' : Hp) (p : Addr) : Prop := ∀ b, b ≠ p → H' b = H b
theorem but_upd {H : Hp} {p : Addr} {o : HO} : But H (upd H p o) p := fun _ h => upd_ne h
theorem But.refl {H : Hp} {p : Addr} : But H H p := fun _ _ => rfl
theorem But.trans {H H1 H2 : Hp} {p : Addr} (a : But H H1 p) (b : But H1 H2 p) : But H H2 p := fun c h => (b c h).trans (a c h)
/-- all but p, and what is new, is as it was -/
def Kept (H H' : Hp) (p : Addr) : Prop := ∀ b o, b ≠ p → H b = some o → H' b = some o
theorem Kept.refl {H : Hp} {p : Addr} : Kept H H p := fun _ _ _ h => h
theorem Kept.trans {H H1 H2 : Hp} {p : Addr} (a : Kept H H1 p) (b : Kept H1 H2 p) : Kept H H2 p := fun c o n h => b c o n (a c o n h)
theorem But.kept {H H' : Hp} {p : Addr} (b : But H H' p) : Kept H H' p := fun c o n h => (b c n).trans h
theorem _root_.L2.Same.kept {H H' : Hp} (s : Same H H') (p : Addr) : Kept H H' p := fun c o _ h => s c o h
section
variable {X : Cx}
/-- a constant of the module: a text, a number -/
theorem pe_gstr {x z : Str} {pos : Pos} (hg : Gl X x) (hm : ∃ t, X.mg x = some (.str z t)) (hd : (x == ("__debug__" : Str)) = false := by decide) : PE X (.Name x pos) (tC (.str z)) := by
  obtain ⟨t, h⟩ := hm
  exact pe_glob hg h ⟨t, rfl⟩ hd
theorem pe_gint {x : Str} {i : Int} {pos : Pos} (hg : Gl X x) (hm : ∃ t, X.mg x = some (.int i t)) (hd : (x == ("__debug__" : Str)) = false := by decide) : PE X (.Name x pos) (tC (.int i)) := by
  obtain ⟨t, h⟩ := hm
  exact pe_glob hg h ⟨t, rfl⟩ hd
/-- within a comprehension -/
theorem ix_listK {K : PySem.W.Frag} (h : X.K = K) : IxR X (rIxL K) := by
  subst h
  exact ix_list
theorem ix_tupK {K : PySem.W.Frag} (h : X.K = K) : IxR X (rIxT K) := by
  subst h
  exact ix_tup
/-- o[i] of a list, for o[i] op= e -/
def rGetL (K : PySem.W.Frag) : V → V → Hp → VK → Prop := fun x y H Q => ∃ p xs i v, x = .ref p ∧ y = .int i ∧ SqL K H p xs ∧ 0 ≤ i ∧ atI xs i = some v ∧ Q v H
theorem pget_list : PGet X (rGetL X.K) := by
  intro pins s σ H x y v u Q I rx ry h
  obtain ⟨p, xs, i, z, rfl, rfl, hq, h0, he, q⟩ := h
  cases rx
  obtain ⟨t, rfl⟩ := ry
  obtain ⟨its, r, pl, hz⟩ := I.list hq
  obtain ⟨j, h1, h2, h3, h4, h5⟩ := atI_get he
  obtain ⟨w, ew, rw'⟩ := r.get h2
  have hl := r.length
  have hn := line63
  have hj : i.toNat = j := by
    rw [seqIndex_of h0 h5] at h1
    exact Option.some.inj h1
  exact wpAny_getItem_list pl.isList h0 (by omega) (by rw [hj]; simpa using ew) ⟨z, H, I, rw', q⟩
/-- isinstance(x, T), T a built-in class -/
def rIsB (K : PySem.W.Frag) : List V → Hp → VK → Prop := fun xs H Q => ∃ (x : V) (T n : String) (b : Bool), xs = [x, .ty n] ∧ TyX K H x (.type T) ∧ kitB T n = some b ∧ Q (.bl b) H
theorem call_isB : CallR X (.builtin "isinstance") (rIsB X.K) := by
  intro pins s σ H xs us Q I r h
  obtain ⟨x, T, n, b, rfl, ty, e, q⟩ := h
  exact call_isi pins s σ H _ us Q I r ⟨x, .ty n, .type T, .type n, b, rfl, .ty n, ty, kit_ty e, q⟩
/-- a text, n times -/
theorem rep_fold (z : Str) : ∀ n : Nat, ((List.replicate n z.cps).foldl (· ++ ·) (#[] : Array Nat)).toList = (List.replicate n z.cps.toList).flatten := by
  have h : ∀ (l : List (Array Nat)) (a : Array Nat), (l.foldl (· ++ ·) a).toList = a.toList ++ (l.map (·.toList)).flatten := by
    intro l
    induction l with
    | nil => intro a; simp
    | cons x l ih => intro a; rw [List.foldl_cons, ih]; simp
  intro n
  rw [h]
  simp
theorem op_mul_strR : OpR X (binaryOp .Mult) (fun x y H Q => ∃ (l : List Nat) (n : Nat), x = .str (S l) ∧ y = .int (n : Int) ∧ 2 ≤ n ∧ n ≤ 1000 ∧ 1 ≤ l.length ∧ l.length ≤ 1000 ∧ Q (.str (S (List.replicate n l).flatten)) H) := by
  intro pins s σ H x y v u Q I rx ry h
  obtain ⟨l, n, rfl, rfl, h2, h3, h4, h5, q⟩ := h
  obtain ⟨t, rfl⟩ := rx
  obtain ⟨t', rfl⟩ := ry
  have hl : (S l).length = l.length := S_len l
  have e1 : ((n : Int) == 1 || (S l).length == 0) = false := by
    rw [hl]
    have a1 : ((n : Int) == 1) = false := by simp; omega
    have a2 : (l.length == 0) = false := by simp; intro z; rw [z] at h4; simp at h4
    rw [a1, a2]; rfl
  have hsz : l.length * n ≤ 1000000 := Nat.le_trans (Nat.mul_le_mul h5 h3) (by decide)
  refine PySem.P.mul_str ?_ (fun _ _ => ?_) (fun _ _ => ?_) ?_
  · have b1 : decide ((n : Int) < -(2 ^ 63 : Int)) = false := decide_eq_false (by omega)
    have b2 : decide ((n : Int) ≥ 2 ^ 63) = false := decide_eq_false (by omega)
    rw [b1, b2]; rfl
  · rw [hl]
    have hp : (l.length : Int) * (n : Int) ≤ 1000000 := by
      have := Int.ofNat_le.mpr hsz
      rw [Int.natCast_mul] at this
      exact this
    have := Int.le_ediv_of_mul_le (show (0 : Int) < (n : Int) by omega) (show (l.length : Int) * (n : Int) ≤ 2 ^ 63 - 1 from Int.le_trans hp (by decide))
    omega
  · rw [hl]
    exact decide_eq_false (by rw [sizeLine_eq, Int.toNat_natCast]; omega)
  · rw [if_neg (by omega), if_neg (by rw [e1]; simp)]
    have ef : (⟨(List.replicate (n : Int).toNat (S l).cps).foldl (· ++ ·) #[]⟩ : Str) = S (List.replicate n l).flatten := by
      have : ((List.replicate (n : Int).toNat (S l).cps).foldl (· ++ ·) (#[] : Array Nat)) = ((List.replicate n l).flatten).toArray := by
        apply Array.ext'
        rw [rep_fold]
        simp
      rw [this]
    rw [ef]
    refine ⟨?_, .str _, H, I.tok _, ⟨_, rfl⟩, q⟩
    rw [S_len, sizeLine_eq]
    simp
    rw [Nat.mul_comm]
    omega
end
/-! ### data that are told the same: _law_same -/
/-- the type of a list or a tuple that is read -/
def IsSeq (K : PySem.W.Frag) (H : Hp) (t : String) (a : Addr) (xs : List V) : Prop := (t = "tuple" ∧ SqT K H a xs ∧ TyX K H (.ref a) (.type "tuple")) ∨ (t = "list" ∧ SqL K H a xs ∧ TyX K H (.ref a) (.type "list"))
theorem IsSeq.tup {K : PySem.W.Frag} {H : Hp} {a : Addr} {xs : List V} (h : H a = some (.tup xs)) : IsSeq K H "tuple" a xs := .inl ⟨rfl, SqT.of h, .base (.tup h)⟩
theorem IsSeq.lst {K : PySem.W.Frag} {H : Hp} {a : Addr} {xs : List V} (h : H a = some (.lst xs)) : IsSeq K H "list" a xs := .inr ⟨rfl, SqL.of h, .base (.lst h)⟩
/-- a number, a text, a truth, None -/
def Leaf : V → Prop
  | .int _ => True
  | .str _ => True
  | .bl _ => True
  | .non => True
  | _ => False
def SameD (K : PySem.W.Frag) (H : Hp) : Nat → V → V → Prop
  | 0, x, y => Leaf x ∧ x = y
  | n + 1, x, y => (Leaf x ∧ x = y) ∨ ∃ (t : String) (a b : Addr) (xs ys : List V), x = .ref a ∧ y = .ref b ∧ IsSeq K H t a xs ∧ IsSeq K H t b ys ∧ xs.length = ys.length ∧ ys.length ≤ 1000000 ∧
      ∀ (i : Nat) (u v : V), xs[i]? = some u → ys[i]? = some v → SameD K H n u v
theorem SameD.leaf {K : PySem.W.Frag} {H : Hp} {n : Nat} {x : V} (h : Leaf x) : SameD K H n x x := by
  cases n with
  | zero => exact ⟨h, rfl⟩
  | succ n => exact .inl ⟨h, rfl⟩
theorem SameD.seq {K : PySem.W.Frag} {H : Hp} {n : Nat} {t : String} {a b : Addr} {xs ys : List V} (h1 : IsSeq K H t a xs) (h2 : IsSeq K H t b ys) (hl : xs.length = ys.length) (hz : ys.length ≤ 1000000)
    (h : ∀ (i : Nat) (u v : V), xs[i]? = some u → ys[i]? = some v → SameD K H n u v) : SameD K H (n + 1) (.ref a) (.ref b) := .inr ⟨t, a, b, xs, ys, rfl, rfl, h1, h2, hl, hz, h⟩
/-- rows of leaves -/
theorem SameD.row {K : PySem.W.Frag} {H : Hp} {n : Nat} {a b : Addr} {xs : List V} (h1 : H a = some (.tup xs)) (h2 : H b = some (.tup xs)) (hz : xs.length ≤ 1000000) (h : ∀ x ∈ xs, Leaf x) : SameD K H (n + 1) (.ref a) (.ref b) :=
  .seq (.tup h1) (.tup h2) rfl hz fun i u v hu hv => by
    rw [hu] at hv
    cases hv
    exact .leaf (h u (List.mem_of_getElem? hu))
def spSame (K : PySem.W.Frag) (n : Nat) : Sp := fun vs H Q _ => ∃ x y : V, vs = [x, y] ∧ SameD K H n x y ∧ Q (.bl true) H
end HL
namespace HL
open PySem PySem.Spec PyProof.Rows L2 SX
/-- isinstance of two built-in classes -/
theorem kit_two {K : PySem.W.Frag} {T a b : String} {x y : Bool} (h1 : kitB T a = some x) (h2 : kitB T b = some y) : PySem.W.kitAny K (.type T) [.type a, .type b] = some (x || y) := by
  have e1 := kit_ty (K := K) h1
  have e2 := kit_ty (K := K) h2
  simp only [PySem.W.kitAny, e1, e2]
  cases x <;> cases y <;> rfl
theorem tyx_same {K : PySem.W.Frag} {H H' : Hp} {x : V} {t : Value} (s : Same H H') (h : TyX K H x t) : TyX K H' x t := by
  cases h with
  | base b =>
    cases b with
    | non => exact .base .non
    | bl y => exact .base (.bl y)
    | int i => exact .base (.int i)
    | str y => exact .base (.str y)
    | flt y => exact .base (.flt y)
    | lst e => exact .base (.lst (s _ _ e))
    | frz e => exact .base (.frz (s _ _ e))
    | tup e => exact .base (.tup (s _ _ e))
    | dK e => exact .base (.dK (s _ _ e))
    | dT e => exact .base (.dT (s _ _ e))
    | ins e h1 h2 h3 h4 h5 => exact .base (.ins (s _ _ e) h1 h2 h3 h4 h5)
  | byt y => exact .byt y
  | set e => exact .set (s _ _ e)
  | kList e c => exact .kList e c
  | kTuple e c => exact .kTuple e c
  | kDict e c => exact .kDict e c
  | fTuple e => exact .fTuple (s _ _ e)
  | fDict e => exact .fDict (s _ _ e)
theorem seqT_same {K : PySem.W.Frag} {H H' : Hp} {a : Addr} {xs : List V} (e : Same H H') (h : SqT K H a xs) : SqT K H' a xs := by
  rcases h with (h | ⟨o, h⟩) | h
  · exact .inl (.inl (e _ _ h))
  · exact .inl (.inr ⟨o, e _ _ h⟩)
  · exact .inr h
theorem isSeq_same {K : PySem.W.Frag} {H H' : Hp} {t : String} {a : Addr} {xs : List V} (s : Same H H') (h : IsSeq K H t a xs) : IsSeq K H' t a xs := by
  rcases h with ⟨e, h1, h2⟩ | ⟨e, h1, h2⟩
  · exact .inl ⟨e, seqT_same s h1, tyx_same s h2⟩
  · exact .inr ⟨e, s.seq h1, tyx_same s h2⟩
theorem sameD_same {K : PySem.W.Frag} {H H' : Hp} (s : Same H H') : ∀ {n : Nat} {x y : V}, SameD K H n x y → SameD K H' n x y
  | 0, x, y, h => h
  | n + 1, x, y, h => by
    rcases h with h | ⟨t, a, b, xs, ys, e1, e2, h1, h2, el, hz, hh⟩
    · exact .inl h
    · exact .inr ⟨t, a, b, xs, ys, e1, e2, isSeq_same s h1, isSeq_same s h2, el, hz, fun i u v hu hv => sameD_same s (hh i u v hu hv)⟩
/-- told the same; the heap may grow -/
def spSameG (K : PySem.W.Frag) (n : Nat) : Sp := fun vs H Q _ => ∃ x y : V, vs = [x, y] ∧ SameD K H n x y ∧ ∀ H', Same H H' → Q (.bl true) H'
end HL
namespace HL
open PySem PySem.Spec PyProof.Rows L2 SX
/-- a list or a tuple, also a locked one -/
def Seqo : HO → Prop
  | .lst _ => True
  | .tup _ => True
  | .frz _ (.lst _) => True
  | .frz _ (.tup _) => True
  | _ => False
def SeqKept (H H' : Hp) : Prop := ∀ a o, H a = some o → Seqo o → H' a = some o
theorem _root_.L2.Same.seqKept {H H' : Hp} (s : Same H H') : SeqKept H H' := fun a o h _ => s a o h
theorem SeqKept.seqT {K : PySem.W.Frag} {H H' : Hp} {a : Addr} {xs : List V} (e : SeqKept H H') (h : SqT K H a xs) : SqT K H' a xs := by
  rcases h with (h | ⟨o, h⟩) | h
  · exact .inl (.inl (e _ _ h True.intro))
  · exact .inl (.inr ⟨o, e _ _ h True.intro⟩)
  · exact .inr h
theorem SeqKept.seq {K : PySem.W.Frag} {H H' : Hp} {a : Addr} {xs : List V} (e : SeqKept H H') (h : SqL K H a xs) : SqL K H' a xs := by
  rcases h with (h | ⟨o, h⟩) | h
  · exact .inl (.inl (e _ _ h True.intro))
  · exact .inl (.inr ⟨o, e _ _ h True.intro⟩)
  · exact .inr h
theorem tyx_tup {K : PySem.W.Frag} {H H' : Hp} {x : V} {t : Value} (s : SeqKept H H') (ht : t = .type "tuple" ∨ t = .type "list") (h : TyX K H x t) : TyX K H' x t := by
  cases h with
  | base b =>
    cases b with
    | non => exact .base .non
    | bl y => exact .base (.bl y)
    | int i => exact .base (.int i)
    | str y => exact .base (.str y)
    | flt y => exact .base (.flt y)
    | lst e => exact .base (.lst (s _ _ e True.intro))
    | frz e => exact .base (.frz (s _ _ e True.intro))
    | tup e => exact .base (.tup (s _ _ e True.intro))
    | dK e => rcases ht with z | z <;> exact absurd (Value.type.inj z) (by decide)
    | dT e => rcases ht with z | z <;> exact absurd (Value.type.inj z) (by decide)
    | ins e h1 h2 h3 h4 h5 => rcases ht with z | z <;> cases z
  | byt y => exact .byt y
  | set e => rcases ht with z | z <;> exact absurd (Value.type.inj z) (by decide)
  | kList e c => exact .kList e c
  | kTuple e c => exact .kTuple e c
  | kDict e c => exact .kDict e c
  | fTuple e => exact .fTuple (s _ _ e True.intro)
  | fDict e => rcases ht with z | z <;> exact absurd (Value.type.inj z) (by decide)
theorem isSeq_kept {K : PySem.W.Frag} {H H' : Hp} {t : String} {a : Addr} {xs : List V} (s : SeqKept H H') (h : IsSeq K H t a xs) : IsSeq K H' t a xs := by
  rcases h with ⟨e, h1, h2⟩ | ⟨e, h1, h2⟩
  · exact .inl ⟨e, s.seqT h1, tyx_tup s (.inl rfl) h2⟩
  · exact .inr ⟨e, s.seq h1, tyx_tup s (.inr rfl) h2⟩
theorem sameD_kept {K : PySem.W.Frag} {H H' : Hp} (s : SeqKept H H') : ∀ {n : Nat} {x y : V}, SameD K H n x y → SameD K H' n x y
  | 0, x, y, h => h
  | n + 1, x, y, h => by
    rcases h with h | ⟨t, a, b, xs, ys, e1, e2, h1, h2, el, hz, hh⟩
    · exact .inl h
    · exact .inr ⟨t, a, b, xs, ys, e1, e2, isSeq_kept s h1, isSeq_kept s h2, el, hz, fun i u v hu hv => sameD_kept s (hh i u v hu hv)⟩
/-- a dict locked, and the way back -/
theorem seqKept_lock {H : Hp} {d : Addr} {kvs : List (Key × V)} {o : HO} (h : H d = some (.dK kvs)) : SeqKept H (upd H d o) := fun a x hx hs => by
  have ne : a ≠ d := fun e => by
    rw [e, h] at hx
    cases hx
    exact hs
  rw [upd_ne ne]
  exact hx
theorem unlock {H H' : Hp} {d : Addr} {u o : HO} (h : H d = some u) (s : Same (upd H d o) H') : Same H (upd H' d u) := fun a x hx => by
  by_cases e : a = d
  · subst e
    rw [upd_same, ← h, hx]
  · rw [upd_ne e]
    exact s a x (by rw [upd_ne e]; exact hx)
end HL
namespace HL
open PySem PySem.Spec PyProof.Rows L2 SX
/-! ### methods, classes -/
/-- a method of the class at C -/
structure DefM (K : PySem.W.Frag) (C : Addr) (x q : Str) (st : Stmt) (ps : List Str) (f : Addr) (fd : FuncData) : Prop where
  F : Fun K x q st f fd
  b : Binds K fd ps []
  m : Meth K C x f
/-- its __init__ -/
structure DefI (K : PySem.W.Frag) (q : Str) (st : Stmt) (ps : List Str) (f : Addr) (fd : FuncData) : Prop where
  F : Fun K "__init__" q st f fd
  b : Binds K fd ps []
structure ClsN (K : PySem.W.Frag) (mg : Str → Option Value) (x : Str) (C fI : Addr) : Prop where
  g : mg x = some (.ref C)
  cl : Cls K C
  make : Mk K C fI
/-- an own exception without an __init__, under ValueError -/
structure ExcN (K : PySem.W.Frag) (mg : Str → Option Value) (x : Str) (C : Addr) : Prop where
  g : mg x = some (.ref C)
  ex : PySem.W.excIn K C [.type "ValueError", .type "Exception", .type "BaseException", .type "object"] "ValueError.__new__" = true
  kp : PySem.W.keepIn K (.ref C) = true
  sub : PySem.W.subIn K (.ref C) (.type "BaseException") = some true
  ty : PySem.W.typeIn K (.ref C) = some (.type "type")
  te : PySem.W.exmOne K (.ref C) (.ref C) = some true
/-- its class is caught by its name -/
theorem exm_of {K : PySem.W.Frag} {S : Addr} (h1 : PySem.W.subIn K (.ref S) (.type "BaseException") = some true) (h2 : PySem.W.isClsIn K S = true) (h3 : PySem.W.typeIn K (.ref S) = some (.type "type")) (h4 : PySem.W.subIn K (.ref S) (.ref S) = some true) :
    PySem.W.exmOne K (.ref S) (.ref S) = some true := by
  have e1 : (PySem.W.subIn K (.ref S) (.type "BaseException") == some true) = true := by rw [h1] <;> rfl
  have e2 : ((PySem.W.clsIn K S).isSome && PySem.W.typeIn K (.ref S) == some (.type "type")) = true := by
    have h2' : (PySem.W.clsIn K S).isSome = true := h2
    rw [h2', h3] <;> rfl
  show (if (PySem.W.subIn K (.ref S) (.type "BaseException") == some true) = true then (if ((PySem.W.clsIn K S).isSome && PySem.W.typeIn K (.ref S) == some (.type "type")) = true then PySem.W.subIn K (.ref S) (.ref S) else none) else none) = some true
  rw [if_pos e1, if_pos e2]
  exact h4
/-! ### fields -/
theorem putF_nil (f : Str) (v : V) : putF f v [] = [(f, v)] := rfl
theorem putF_eq (f : Str) (v x : V) (r : List (Str × V)) : putF f v ((f, x) :: r) = (f, v) :: r := if_pos rfl
theorem putF_ne {f g : Str} (h : ¬ g = f) (v x : V) (r : List (Str × V)) : putF f v ((g, x) :: r) = (g, x) :: putF f v r := if_neg h
theorem lkF_eq (f : Str) (v : V) (r : List (Str × V)) : List.lookup f ((f, v) :: r) = some v := by
  have h : (f == f) = true := beq_iff_eq.mpr rfl
  simp only [List.lookup, h]
theorem lkF_ne {f g : Str} (h : ¬ g = f) (v : V) (r : List (Str × V)) : List.lookup g ((f, v) :: r) = List.lookup g r := by
  have h' : (g == f) = false := beq_eq_false_iff_ne.mpr h
  simp only [List.lookup, h']
/-! ### two lists, item by item -/
inductive All2 {α β : Type _} (R : α → β → Prop) : List α → List β → Prop
  | nil : All2 R [] []
  | cons {x : α} {y : β} {xs : List α} {ys : List β} : R x y → All2 R xs ys → All2 R (x :: xs) (y :: ys)
namespace All2
variable {α β γ : Type _} {R S : α → β → Prop}
theorem len {xs : List α} {ys : List β} (h : All2 R xs ys) : xs.length = ys.length := by
  induction h with
  | nil => rfl
  | cons _ _ ih => simp [ih]
theorem mono {xs : List α} {ys : List β} (h : All2 R xs ys) (f : ∀ x y, R x y → S x y) : All2 S xs ys := by
  induction h with
  | nil => exact .nil
  | cons a _ ih => exact .cons (f _ _ a) ih
theorem app {xs xs' : List α} {ys ys' : List β} (h : All2 R xs ys) (h' : All2 R xs' ys') : All2 R (xs ++ xs') (ys ++ ys') := by
  induction h with
  | nil => exact h'
  | cons a _ ih => exact .cons a ih
theorem one {x : α} {y : β} (h : R x y) : All2 R [x] [y] := .cons h .nil
theorem snoc {xs : List α} {ys : List β} {x : α} {y : β} (h : All2 R xs ys) (a : R x y) : All2 R (xs ++ [x]) (ys ++ [y]) := h.app (one a)
theorem take {xs : List α} {ys : List β} (h : All2 R xs ys) (n : Nat) : All2 R (xs.take n) (ys.take n) := by
  induction h generalizing n with
  | nil => simp; exact .nil
  | cons a _ ih =>
    cases n with
    | zero => exact .nil
    | succ n => exact .cons a (ih n)
theorem drop {xs : List α} {ys : List β} (h : All2 R xs ys) (n : Nat) : All2 R (xs.drop n) (ys.drop n) := by
  induction h generalizing n with
  | nil => simp; exact .nil
  | cons a hb ih =>
    cases n with
    | zero => exact .cons a hb
    | succ n => exact ih n
theorem get {xs : List α} {ys : List β} (h : All2 R xs ys) {i : Nat} {x : α} (e : xs[i]? = some x) : ∃ y, ys[i]? = some y ∧ R x y := by
  induction h generalizing i with
  | nil => simp at e
  | cons a _ ih =>
    cases i with
    | zero =>
      simp at e
      subst e
      exact ⟨_, rfl, a⟩
    | succ i => exact ih (by simpa using e)
theorem getR {xs : List α} {ys : List β} (h : All2 R xs ys) {i : Nat} {y : β} (e : ys[i]? = some y) : ∃ x, xs[i]? = some x ∧ R x y := by
  induction h generalizing i with
  | nil => simp at e
  | cons a _ ih =>
    cases i with
    | zero =>
      simp at e
      subst e
      exact ⟨_, rfl, a⟩
    | succ i => exact ih (by simpa using e)
theorem of_at {xs : List α} {ys : List β} (hl : xs.length = ys.length) (h : ∀ (i : Nat) (x : α) (y : β), xs[i]? = some x → ys[i]? = some y → R x y) : All2 R xs ys := by
  induction xs generalizing ys with
  | nil =>
    cases ys with
    | nil => exact .nil
    | cons _ _ => simp at hl
  | cons x xs ih =>
    cases ys with
    | nil => simp at hl
    | cons y ys => exact .cons (h 0 x y rfl rfl) (ih (by simpa using hl) fun i a b ha hb => h (i + 1) a b (by simpa using ha) (by simpa using hb))
end All2
/-- a row: at v stands a tuple of what f tells -/
def IsRow {α : Type _} (f : α → List V) (H : Hp) (v : V) (x : α) : Prop := ∃ t, v = .ref t ∧ H t = some (.tup (f x))
theorem IsRow.same {α : Type _} {f : α → List V} {H H' : Hp} {v : V} {x : α} (h : IsRow f H v x) (s : ∀ t o, H t = some (.tup o) → H' t = some (.tup o)) : IsRow f H' v x := by
  obtain ⟨t, e, ht⟩ := h
  exact ⟨t, e, s _ _ ht⟩
/-- slices with an end -/
theorem cut_to (xs : List V) (n : Nat) : cutV xs none (some (n : Int)) = xs.take n := by
  unfold cutV
  rw [HT.sIx_none, HT.sIx_nat, Nat.sub_zero, List.drop_zero]
  by_cases h : n ≤ xs.length
  · rw [Nat.min_eq_left h]
  · have h' : xs.length ≤ n := by omega
    rw [Nat.min_eq_right h', List.take_of_length_le (Nat.le_refl _), List.take_of_length_le h']
theorem cut_from (xs : List V) (n : Nat) : cutV xs (some (n : Int)) none = xs.drop n := by
  unfold cutV
  rw [HT.sIx_none, HT.sIx_nat]
  by_cases h : n ≤ xs.length
  · rw [Nat.min_eq_left h, List.take_of_length_le]
    rw [List.length_drop]
    exact Nat.le_refl _
  · have h' : xs.length ≤ n := by omega
    rw [Nat.min_eq_right h', Nat.sub_self, List.take_zero, List.drop_of_length_le h']
theorem cut_mid (xs : List V) (a b : Nat) : cutV xs (some (a : Int)) (some (b : Int)) = (xs.drop a).take (b - a) := by
  unfold cutV
  rw [HT.sIx_nat, HT.sIx_nat]
  by_cases ha : a ≤ xs.length
  · rw [Nat.min_eq_left ha]
    by_cases hb : b ≤ xs.length
    · rw [Nat.min_eq_left hb]
    · have hb' : xs.length ≤ b := by omega
      rw [Nat.min_eq_right hb', List.take_of_length_le (by rw [List.length_drop]; omega), List.take_of_length_le (by rw [List.length_drop]; omega)]
  · have ha' : xs.length ≤ a := by omega
    rw [Nat.min_eq_right ha', List.drop_of_length_le (Nat.le_refl _), List.drop_of_length_le ha']
    simp
/-- a natural number -/
def vi (n : Nat) : V := .int (n : Int)
theorem vi_inj {a b : Nat} (h : vi a = vi b) : a = b := by
  have := V.int.inj h
  omega
theorem map_vi (l : List Nat) : l.map vi = (l.map fun n : Nat => (n : Int)).map V.int := by
  rw [List.map_map]
  rfl
theorem get_vi {l : List Nat} {i : Nat} {x : V} (h : (l.map vi)[i]? = some x) : ∃ n, l[i]? = some n ∧ x = vi n := by
  rw [List.getElem?_map] at h
  cases e : l[i]? with
  | none => rw [e] at h; cases h
  | some n => rw [e] at h; exact ⟨n, rfl, (Option.some.inj h).symm⟩
theorem take_snoc {α : Type _} {l : List α} {i : Nat} {x : α} (h : l[i]? = some x) : l.take (i + 1) = l.take i ++ [x] := by
  rw [List.take_add_one, h]
  rfl
theorem same_list {K : PySem.W.Frag} {H : Hp} {n : Nat} {a b : Addr} {xs : List Nat} (h1 : H a = some (.lst (xs.map vi))) (h2 : H b = some (.lst (xs.map vi))) (hl : xs.length ≤ 1000000) : SameD K H (n + 1) (.ref a) (.ref b) :=
  .seq (.lst h1) (.lst h2) rfl (by rw [List.length_map]; omega) fun i u v hu hv => by
    rw [hu] at hv
    cases hv
    obtain ⟨k, _, rfl⟩ := get_vi hu
    exact .leaf True.intro
theorem Same.none {H H' : Hp} (s : Same H H') {b : Addr} (h : H' b = none) : H b = none := by
  cases e : H b with
  | none => rfl
  | some o => rw [s _ _ e] at h; cases h
theorem Same.tr {H H1 H2 : Hp} (a : Same H H1) (b : Same H1 H2) : Same H H2 := fun c o h => b c o (a c o h)
/-- lists of natural numbers as data -/
def di (n : Nat) : PyData := .int (n : Int)
theorem dp_vis {K : PySem.W.Frag} {H : Hp} : ∀ xs : List Nat, DpAll K H (xs.map vi) (xs.map di)
  | [] => .nil
  | n :: xs => .cons (.int (n : Int)) (dp_vis xs)
theorem dis_can : ∀ xs : List Nat, PyData.canLayAll0 (xs.map di) = true
  | [] => rfl
  | n :: xs => by
    show (true && PyData.canLayAll0 (xs.map di)) = true
    rw [dis_can xs]
    rfl
theorem dis_depth : ∀ xs : List Nat, PyData.depthAll (xs.map di) ≤ 1
  | [] => Nat.zero_le _
  | n :: xs => by
    have := dis_depth xs
    simp only [List.map_cons, PyData.depthAll, di, PyData.depth] at this ⊢
    omega
theorem shaped_ints (xs : List Nat) : SeqAt.shaped (.list (xs.map di)) = true := by
  have h1 := dis_can xs
  have h2 := dis_depth xs
  simp only [SeqAt.shaped, PyData.canLay0, PyData.depth, Bool.and_eq_true, decide_eq_true_eq]
  exact ⟨h1, decide_eq_true (by omega)⟩
theorem eqv_ints (xs ys : List Nat) : PyData.eqv (.list (xs.map di)) (.list (ys.map di)) = decide (xs = ys) := by
  have h : ∀ xs ys : List Nat, PyData.eqvAll (xs.map di) (ys.map di) = decide (xs = ys) := by
    intro xs
    induction xs with
    | nil =>
      intro ys
      cases ys with
      | nil => rfl
      | cons y ys => simp [PyData.eqvAll]
    | cons x xs ih =>
      intro ys
      cases ys with
      | nil => simp [PyData.eqvAll]
      | cons y ys =>
        show (PyData.eqv (di x) (di y) && PyData.eqvAll (xs.map di) (ys.map di)) = _
        rw [ih ys]
        by_cases e : x = y
        · subst e
          simp [PyData.eqv, di]
        · have h' : ¬ (x : Int) = (y : Int) := by omega
          simp [PyData.eqv, di, e, h']
  show PyData.eqvAll (xs.map di) (ys.map di) = _
  exact h xs ys
theorem dp_list {K : PySem.W.Frag} {H : Hp} {a : Addr} {xs : List Nat} (h : H a = some (.lst (xs.map vi))) : Dp K H (.ref a) (.list (xs.map di)) := .lst (SqL.of h) (dp_vis xs)
end HL
namespace HX
open PySem PySem.Spec PyProof.Rows L2 SX HL
section
variable {Y : Cx} {cx : CXT} {n : Nat} {g cl : Addr} {gd : FuncData} {qs : List Str} {pr : Sp} {Ex : L2.St → XK} {nm : Str} {p0 q0 r0 : Pos} {a0 o0 : Expr} {as : List Expr} {to_ : TE} {ar : TA}
/-- a method called where what it lets out is wanted by the slots -/
def tMethS (cl : Addr) (nm : Str) (pr : Sp) (Ex : L2.St → XK) (to_ : TE) (ar : TA) : TE := fun σ H Q => to_ σ H fun x H1 => ∃ a dx fs, x = .ref a ∧ H1 a = some (.ins cl dx fs) ∧ fs.lookup nm = none ∧
  ar σ H1 fun vs H2 => pr (x :: vs) H2 Q (Ex σ)
theorem pe_methS1 {pl : Sem Bool} (ho : PE Y o0 to_) (cc : Cls Y.K cl) (mm : Meth Y.K cl nm g) (G : FnOk Y.prog Y.w Y.K Y.mg Y.base cx n g gd qs pr) (room : Room n Y.A) (bb : Binds Y.K gd qs []) (hx : ∀ σ, PassesAt cx Y σ (Ex σ)) (ha : PA Y (a0 :: as) ar)
    (hst : starEach (a0 :: as) Y.env = (false, eval a0 Y.env) :: starEach as Y.env := by rfl) (hpl : (backTo p0 (starEach as Y.env)).any (·.1) = false := by rfl)
    (ht : eval (.Call (.Attribute o0 nm r0) (a0 :: as) [] p0) Y.env = (do
      let ob ← eval o0 Y.env
      standAt r0.atName
      let (fn, fst) ← holding [ob] (getMethod ob nm pl)
      callWith p0 fn fst (backTo p0 (starEach (a0 :: as) Y.env)) (backToKw p0 (keywordEach [] Y.env))) := by rfl) :
    PE Y (.Call (.Attribute o0 nm r0) (a0 :: as) [] p0) (tMethS cl nm pr Ex to_ ar) := by
  refine ⟨fun pins s σ H Q I0 h0 => PySem.W.methodCall_KW (pl := pl) (thn (ho.run pins s σ H _ I0 h0) fun u s1 ⟨x, H1, I1, rx, a, dx, fs, ex, ea, l, q⟩ => ?_) ht⟩
  subst ex
  obtain rfl : u = Value.ref a := rx
  refine getmeth_ok I1 ea cc mm l (PySem.W.callWith_K (first := [.ref a]) (h₀ := Y.base) I1.ok.mod.kin mm.kp (thn (ha.run p0 pins s1 σ H1 _ I1 q) fun us s2 ⟨vs, H2, I2, r, q2⟩ => ⟨I2.kIn, ?_⟩) hst hpl)
  exact run_fnS (us := .ref a :: us) (vs := .ref a :: vs) G room bb (hx σ) I2 (.cons rfl r) q2
theorem pe_methS0 {pl : Sem Bool} (ho : PE Y o0 to_) (cc : Cls Y.K cl) (mm : Meth Y.K cl nm g) (G : FnOk Y.prog Y.w Y.K Y.mg Y.base cx n g gd qs pr) (room : Room n Y.A) (bb : Binds Y.K gd qs []) (hx : ∀ σ, PassesAt cx Y σ (Ex σ))
    (ht : eval (.Call (.Attribute o0 nm r0) [] [] p0) Y.env = (do
      let ob ← eval o0 Y.env
      standAt r0.atName
      let (fn, fst) ← holding [ob] (getMethod ob nm pl)
      callWith p0 fn fst (backTo p0 (starEach [] Y.env)) (backToKw p0 (keywordEach [] Y.env))) := by rfl) :
    PE Y (.Call (.Attribute o0 nm r0) [] [] p0) (tMethS cl nm pr Ex to_ tNil) := by
  refine ⟨fun pins s σ H Q I0 h0 => PySem.W.methodCall_KW (pl := pl) (thn (ho.run pins s σ H _ I0 h0) fun u s1 ⟨x, H1, I1, rx, a, dx, fs, ex, ea, l, q⟩ => ?_) ht⟩
  subst ex
  obtain rfl : u = Value.ref a := rx
  exact getmeth_ok I1 ea cc mm l (PySem.W.callWith_K0 (first := [.ref a]) I1.kIn mm.kp (run_fnS (us := [.ref a]) (vs := [.ref a]) G room bb (hx σ) I1 (.cons rfl .nil) q))
theorem pe_callS0 (G : FnOk Y.prog Y.w Y.K Y.mg Y.base cx n g gd qs pr) (room : Room n Y.A) (hg : Gl Y nm) (hm : Y.mg nm = some (.ref g)) (hk : PySem.W.keepIn Y.K (.ref g) = true) (bb : Binds Y.K gd qs []) (hx : ∀ σ, PassesAt cx Y σ (Ex σ))
    (hdb : (nm == ("__debug__" : Str)) = false := by decide) : PE Y (.Call (.Name nm q0) [] [] p0) (tCallS pr Ex tNil) := by
  refine ⟨fun pins s σ H Q I0 h0 => wpAny_Call_Name_kw (ld_glob I0 hg hm ?_ hdb)⟩
  exact PySem.W.callWith_K0 I0.kIn hk (run_fnS (us := []) G room bb (hx σ) I0 .nil h0)
end
end HX
namespace HX
open PySem PySem.Spec PyProof.Rows L2 SX HL
theorem bd_full {K : PySem.W.Frag} {fd : FuncData} {ps : List Str} (h : ∃ ds, Vals [] ds ∧ Binds K fd ps ds) : Binds K fd ps [] := by
  obtain ⟨ds, v, b⟩ := h
  cases v
  exact b
/-- a method whose last parameters have defaults -/
structure DefMD (K : PySem.W.Frag) (C : Addr) (x q : Str) (st : Stmt) (ps : List Str) (dvs : List V) (f : Addr) (fd : FuncData) : Prop where
  F : FunD K x q (defArgs st) (defBody st) (defScope st) dvs [] f fd
  m : Meth K C x f
  bd : ∃ ds, Vals dvs ds ∧ Binds K fd ps ds
  b : Binds K fd ps []
end HX
namespace HX
open PySem PySem.Spec PyProof.Rows L2 SX HL
/-! ### rules within comprehensions: K is told -/
section
variable {X : Cx} {K : PySem.W.Frag}
theorem call_len_seqK (h : X.K = K) : CallR X (.builtin "len") (fun xs H Q => ∃ p ys, xs = [.ref p] ∧ (SqL K H p ys ∨ SqT K H p ys) ∧ Q (.int ys.length) H) := by
  subst h
  exact call_len_seq
theorem op_eqDK (h : X.K = K) (hu : X.A.units + 64 < cLine) : OpR X (compareOp .Eq) (rEqD K) := by
  subst h
  exact op_eqD hu
theorem op_neDK (h : X.K = K) (hu : X.A.units + 64 < cLine) : OpR X (compareOp .NotEq) (rNeD K) := by
  subst h
  exact op_neD hu
theorem sl_listK (h : X.K = K) : SlR X (rSlL K) := by
  subst h
  exact sl_list
theorem ix_seqK (h : X.K = K) : IxR X (rIx K) := by
  subst h
  exact ix_seq
theorem op_inDK (h : X.K = K) (hu : X.A.units + 65 < cLine) : OpR X (compareOp .In) (rInD K) := by
  subst h
  exact op_inD hu
theorem op_notInDK (h : X.K = K) (hu : X.A.units + 65 < cLine) : OpR X (compareOp .NotIn) (rNotInD K) := by
  subst h
  exact op_notInD hu
theorem call_list_ofK (h : X.K = K) : CallR X (.type "list") (fun xs H Q => ∃ p ys, xs = [.ref p] ∧ (SqL K H p ys ∨ SqT K H p ys) ∧ ∀ l, H l = none → Q (.ref l) (upd H l (.lst ys))) := by
  subst h
  exact call_list_of
theorem call_isBK (h : X.K = K) : CallR X (.builtin "isinstance") (rIsB K) := by
  subst h
  exact call_isB
end
end HX
namespace HE
open PySem PySem.Spec PyProof.Rows L2 SX HL
/-! ## enumerate of a text, of a dict's keys -/
section
variable {prog : Program} {w : World} {A : Around} {E : Value → Shared → Prop} {s : Shared}
theorem keys_item {it d : Addr} {i n ep : Nat} {od : Obj} {es : Array DictEntry} {en : DictEntry} {Q : Value → Shared → Prop} (hit : s.heap.IsKeyIter it d i n ep) (hod : s.heap.get? d = some od) (hdd : od.data = .dict es ep) (hn : es.size = n) (hx : es[i]? = some en)
    (q : ∀ h', h'.IsKeyIter it d (i + 1) n ep → Heap.SameBut it s.heap h' → Q en.key { s with heap := h' }) : wpAny (model prog w) A (Builtin.SmallTypes.nextOf (.ref it)) Q E s := by
  obtain ⟨o, ho, oc, hd⟩ := id hit
  unfold Builtin.SmallTypes.nextOf
  refine wpAny_bind (wpAny_callSpecial?_slot (name := Str.ofString "__next__") hit.typeIs F.slot_dict_keyiterator_next (wpAny_call_entry F.slot_dict_keyiterator_next hit.typeIs F.entry_dict_keyiterator_next ?_ (F.args_dict_keyiterator_next_1 _)))
  refine wpAny_bind (wpAny_pure (wpAny_bind (wpAny_bind ?_)))
  first | refine wpAny_bind (wpAny_typeNameOfWhole_keyiter hit.typeIs (wpAny_pure (wpAny_bind (wpAny_fieldsOf ho hd ?_)))) | refine wpAny_bind (wpAny_typeNameOf_keyiter hit.typeIs (wpAny_pure (wpAny_bind (wpAny_fieldsOf ho hd ?_))))
  have own : Builtin.Dict_items.ownsTuple "dict_keyiterator" = false := by decide
  simp only [own, Bool.false_eq_true, if_false]
  show wpAny _ A.in1 (if (Value.ref d == Value.none) = true then _ else _) _ _ s
  rw [if_neg (show ¬ (Value.ref d == Value.none) = true from Bool.false_ne_true)]; refine wpAny_bind (wpAny_pure (wpAny_bind (wpAny_dictEntries hod hdd ?_)))
  rw [if_neg (by rw [hn]; simp)]; refine wpAny_bind (wpAny_pure (wpAny_bind (wpAny_dictEpoch hod hdd ?_)))
  rw [if_neg (by simp)]; refine wpAny_pure ?_
  obtain ⟨lt, he⟩ := Array.getElem?_eq_some_iff.mp hx
  simp only [show ¬ ((i : Int) < 0) from by omega, if_false, Int.toNat_natCast, Array.getElem?_eq_getElem lt]; refine wpAny_bind ?_
  first | refine wpAny_bind (wpAny_typeNameOfWhole_keyiter hit.typeIs (wpAny_pure (wpAny_bind (wpAny_isOneOf_keyiter hit.typeIs ?_)))) | refine wpAny_bind (wpAny_typeNameOf_keyiter hit.typeIs (wpAny_pure (wpAny_bind (wpAny_isOneOf_keyiter hit.typeIs ?_))))
  show wpAny _ _ (setField (.ref it) 1 (rawInt ((i : Int) + 1)) >>= _) _ _ s
  refine wpAny_bind (wpAny_setField ho hd (by simp) ?_)
  have it2 : (s.heap.update it (Obj.mapFields (·.setIfInBounds 1 (rawInt ((i : Int) + 1))))).IsKeyIter it d (i + 1) n ep := ⟨_, Heap.get?_update_self _ ho (Obj.isFreed_of_fields (Obj.data_mapFields hd _)), (Obj.cls_mapFields ..).trans oc, by rw [Obj.data_mapFields hd]; simp [rawInt]⟩
  refine wpAny_bind (wpAny_holding (wpAny_bind (wpAny_isOneOf_keyiter (s := { s with heap := s.heap.update it (Obj.mapFields (·.setIfInBounds 1 (rawInt ((i : Int) + 1)))) }) it2.typeIs ?_)))
  show wpAny _ A.in1 (pure es[i].key) _ _ _
  rw [he]; exact wpAny_pure (wpAny_pure ⟨_, rfl, wpAny_pure (q _ it2 (Heap.SameBut.update ..))⟩)
theorem keys_end {it d : Addr} {i n ep : Nat} {od : Obj} {es : Array DictEntry} {Q : Value → Shared → Prop} (hh : A.handled = none) (hit : s.heap.IsKeyIter it d i n ep) (hod : s.heap.get? d = some od) (hdd : od.data = .dict es ep) (hn : es.size = n) (hge : n ≤ i)
    (q : ∀ h' x, Heap.ExtBut it s.heap h' → (∃ o, h'.get? x = some o ∧ o.cls = .type "StopIteration") → E (.ref x) { s with heap := h' }) : wpAny (model prog w) A (Builtin.SmallTypes.nextOf (.ref it)) Q E s := by
  obtain ⟨o, ho, oc, hd⟩ := id hit
  unfold Builtin.SmallTypes.nextOf
  refine wpAny_bind (wpAny_callSpecial?_slot (name := Str.ofString "__next__") hit.typeIs F.slot_dict_keyiterator_next (wpAny_call_entry F.slot_dict_keyiterator_next hit.typeIs F.entry_dict_keyiterator_next ?_ (F.args_dict_keyiterator_next_1 _)))
  refine wpAny_bind (wpAny_pure (wpAny_bind (wpAny_bind ?_)))
  first | refine wpAny_bind (wpAny_typeNameOfWhole_keyiter hit.typeIs (wpAny_pure (wpAny_bind (wpAny_fieldsOf ho hd ?_)))) | refine wpAny_bind (wpAny_typeNameOf_keyiter hit.typeIs (wpAny_pure (wpAny_bind (wpAny_fieldsOf ho hd ?_))))
  have own : Builtin.Dict_items.ownsTuple "dict_keyiterator" = false := by decide
  simp only [own, Bool.false_eq_true, if_false]
  show wpAny _ A.in1 (if (Value.ref d == Value.none) = true then _ else _) _ _ s
  rw [if_neg (show ¬ (Value.ref d == Value.none) = true from Bool.false_ne_true)]; refine wpAny_bind (wpAny_pure (wpAny_bind (wpAny_dictEntries hod hdd ?_)))
  rw [if_neg (by rw [hn]; simp)]; refine wpAny_bind (wpAny_pure (wpAny_bind (wpAny_dictEpoch hod hdd ?_)))
  rw [if_neg (by simp)]; refine wpAny_pure ?_
  have ge : es.size ≤ i := by rw [hn]; exact hge
  simp only [show ¬ ((i : Int) < 0) from by omega, if_false, Int.toNat_natCast, Array.getElem?_eq_none ge]; refine wpAny_bind ?_
  first | refine wpAny_bind (wpAny_typeNameOfWhole_keyiter hit.typeIs (wpAny_pure ?_)) | refine wpAny_bind (wpAny_typeNameOf_keyiter hit.typeIs (wpAny_pure ?_))
  show wpAny _ A.in1 (setField (.ref it) 0 .none >>= _) _ _ s
  refine wpAny_bind (wpAny_setField ho hd (by simp) ?_)
  show wpAny _ A.in1 (newExc (.type "StopIteration") [] >>= _) _ _ _
  refine wpAny_bind ?_
  simp only [newExc, newTuple]; refine wpAny_bind (wpAny_newObj_type ?_ (by size_fits))
  refine wpAny_bind (m := firstArgMember _ _) (wpAny_of_eq (a := Value.none) (by first | rfl | (simp only [firstArgMember]; rfl)) (wpAny_newObj_type ?_ (by size_fits)))
  simp only [raiseNew]; refine wpAny_bind (wpAny_handled ?_)
  first | rw [show A.in1.handled = none from hh] | rw [hh]
  refine wpAny_bind (wpAny_pure (wpAny_throw ?_))
  exact q _ _ (((Heap.SameBut.update ..).extBut.push _).push _) ⟨_, Heap.get?_push_size _ rfl, rfl⟩
theorem draws_keys (hh : A.handled = none) (it d : Addr) (hne : d ≠ it) {od : Obj} {es : Array DictEntry} {ep : Nat} (hdd : od.data = .dict es ep) :
    Draws prog w A it [it, d] es.size (fun i v => ∃ en, es[i]? = some en ∧ v = en.key) (fun i h => h.IsKeyIter it d i es.size ep ∧ h.get? d = some od) where
  live := fun _ _ st => let ⟨o, ho, _⟩ := st.1; ⟨o, ho⟩
  frame := fun _ _ _ st k => ⟨st.1.at fun o e => k it (by simp) o e, k d (by simp) _ st.2⟩
  item := fun i s Q E hi st q => by
    refine keys_item st.1 st.2 hdd rfl (en := es[i]) (Array.getElem?_eq_getElem hi) fun h' it' sb => ?_
    exact q _ h' s.toks ⟨_, Array.getElem?_eq_getElem hi, rfl⟩ ⟨it', (sb.2 d hne).trans st.2⟩ sb
  done := fun s Q E st q => keys_end hh st.1 st.2 hdd rfl (Nat.le_refl _) q
end
open AutoSeq1 (wpAny_loadPart')
theorem meets_keys (d : Addr) (o : Obj) (es : Array DictEntry) (ep : Nat) (hd : (d == sysModules) = false) (hc : o.ExactDict) (hdat : o.data = .dict es ep) :
    Meets (Builtin.«enumerate.__new__» ⟨[.type "enumerate", .ref d], []⟩) (fun _ R s => s.heap.get? d = some o ∧
      R (.ok (.ret (.ref (s.heap.push { cls := .type "dict_keyiterator", data := .fields #[.ref d, .int 0 0, .int es.size 0, .int ep 0] }).objs.size)))
        { s with heap := (s.heap.push { cls := .type "dict_keyiterator", data := .fields #[.ref d, .int 0 0, .int es.size 0, .int ep 0] }).push { cls := .type "enumerate", data := .fields #[.none, .bool false, .ref s.heap.objs.size, rawInt 0, .none, .none] } }) :=
  .of_wp fun prog w A R s h => by
    obtain ⟨hp, g, dr, tk, os⟩ := s
    obtain ⟨ho, h⟩ := h
    have hsub := sub_enumerate
    have ik : ∀ {A : Around} {E : Value → Shared → Prop} {Q : Value → Shared → Prop}, Q (.ref hp.objs.size) ⟨hp.push { cls := .type "dict_keyiterator", data := .fields #[.ref d, .int 0 0, .int es.size 0, .int ep 0] }, g, dr, tk, os⟩ → wpAny (model prog w) A (pyIter (.ref d)) Q E ⟨hp, g, dr, tk, os⟩ := fun q => iter_keys (s := ⟨hp, g, dr, tk, os⟩) hd ho hc hdat q
    wp_walk using wpAny_loadPart' ho
    refine wpAny_stack_any fun st => wpAny_pure ?_
    split
    · rename_i c _ _ _ _ _
      cases (c == Value.type "enumerate") <;> (wp_walk using wpAny_loadPart' ho, ik; exact ⟨_, rfl, h⟩)
    · wp_walk using wpAny_loadPart' ho, ik
      exact ⟨_, rfl, h⟩
theorem call_enum_keys {prog : Program} {w : World} {A : Around} {E : Value → Shared → Prop} {s : Shared} {d : Addr} {o : Obj} {es : Array DictEntry} {ep : Nat} {Q : Value → Shared → Prop} (hd : (d == sysModules) = false) (ho : s.heap.get? d = some o) (hc : o.ExactDict) (hdat : o.data = .dict es ep)
    (q : ∀ h', IsEnum h' (s.heap.objs.size + 1) s.heap.objs.size 0 .none → h'.IsKeyIter s.heap.objs.size d 0 es.size ep → (∀ b x, s.heap.get? b = some x → h'.get? b = some x) → Q (.ref (s.heap.objs.size + 1)) { s with heap := h' }) :
    wpAny (model prog w) A (call (.type "enumerate") [.ref d]) Q E s := by
  refine callType_new F.called_enumerate (by decide) (F.typeCall_enumerate_1 _) (F.newCall_enumerate_1 _) (fun obj => F.args_object_init_2 obj _) F.entry_enumerate_new (meets_keys d o es ep hd hc hdat) ⟨ho, ?_⟩
  have hz : (s.heap.push { cls := .type "dict_keyiterator", data := .fields #[.ref d, .int 0 0, .int es.size 0, .int ep 0] }).objs.size = s.heap.objs.size + 1 := Heap.size_push ..
  show _ ∧ _
  rw [hz]
  have he : IsEnum ((s.heap.push { cls := .type "dict_keyiterator", data := .fields #[.ref d, .int 0 0, .int es.size 0, .int ep 0] }).push { cls := .type "enumerate", data := .fields #[.none, .bool false, .ref s.heap.objs.size, rawInt 0, .none, .none] }) (s.heap.objs.size + 1) s.heap.objs.size 0 .none := by
    have := Heap.get?_push_size (s.heap.push { cls := .type "dict_keyiterator", data := .fields #[.ref d, .int 0 0, .int es.size 0, .int ep 0] }) (o := { cls := .type "enumerate", data := .fields #[.none, .bool false, .ref s.heap.objs.size, rawInt 0, .none, .none] }) rfl
    rwa [hz] at this
  exact ⟨⟨_, he, rfl⟩, q _ he ⟨_, Heap.get?_push_of_some _ (Heap.get?_push_size _ rfl), rfl, rfl⟩ fun b x e => Heap.get?_push_of_some _ (Heap.get?_push_of_some _ e)⟩
/-- (0, key), (1, key), ..: the locked dict at d -/
def Itek (d : Addr) (o : Obj) (kvs : List (Key × V)) : It :=
  ⟨fun i H => H d = some (.frz o (.dK kvs)) ∧ i < kvs.length, fun i H v H' => ∃ T k x, kvs[i]? = some (k, x) ∧ v = .ref T ∧ H T = none ∧ H' = upd H T (.tup [.int (i : Nat), kV k]), fun i H => H d = some (.frz o (.dK kvs)) ∧ kvs.length ≤ i⟩
theorem turn_enumK {P : Program} {w : World} {K : PySem.W.Frag} {elts : List Expr} {kk : Nat} {tpos : Pos} {d : Addr} {o : Obj} {kvs : List (Key × V)} {es : Array DictEntry} {ep : Nat} (e it : Addr) (hod : o.data = .dict es ep) :
    Turn P w K (.Tuple elts kk tpos) (Itek d o kvs) [e, it] e (fun i h => (∃ old, IsEnum h e it ((i : Nat) : Int) old) ∧ h.IsKeyIter it d i kvs.length ep ∧ e ≠ it ∧ i ≤ kvs.length) where
  mem := by simp
  obj := fun i h st b hb => by
    obtain ⟨⟨old, he⟩, ⟨o', ho, hc, hd⟩, _⟩ := st
    rcases (show b = e ∨ b = it by simpa using hb) with z | z
    · rw [z]; exact ⟨_, he, fun v q => nomatch q⟩
    · rw [z]; exact ⟨o', ho, fun v q => by rw [hd] at q; cases q⟩
  keep := fun i h h' st k => let ⟨⟨old, he⟩, hi, hne, hle⟩ := st; ⟨⟨old, k e (by simp) _ he⟩, hi.at fun o q => k it (by simp) o q, hne, hle⟩
  item := by
    intro X hP hw hK hc i pins s σ H E I hf st hg
    subst hP hw hK
    obtain ⟨⟨old, he⟩, hit, hne, hle⟩ := st
    obtain ⟨hd, hi⟩ := hg
    obtain ⟨hs, hgd, hx, es', ep', vs, hdt, hsz, kv, hm⟩ := I.frzK hd
    obtain ⟨rfl, rfl⟩ := dict_ep hod hdt
    have hel : e < s.heap.objs.size := Heap.lt_size he
    have hil : it < s.heap.objs.size := by obtain ⟨_, q, _⟩ := hit; exact Heap.lt_size q
    have nd : ∀ b, FpOk X pins H b → d ≠ b := fun b hb z => by rw [← z] at hb; have := hb.1; rw [hd] at this; cases this
    have ndi := nd it (hf it (by simp))
    have nde := nd e (hf e (by simp))
    obtain ⟨⟨k, v⟩, hkv⟩ : ∃ p, kvs[i]? = some p := ⟨kvs[i], List.getElem?_eq_getElem hi⟩
    have D := draws_keys (prog := X.prog) (w := X.w) (A := X.A.in1) (I.ok.hd hc) it d ndi hdt
    rw [← hsz] at hit hi
    refine wpAny_pyNext_enum_itemD D he ⟨hit, hgd⟩ hi hne (by simp [hne, nde.symm]) fun x h' tk hP ho st' hT hsz' hk => ?_
    obtain ⟨en, hen, rfl⟩ := hP
    refine ⟨_, rfl, wpAny_letOwnedTupleGo_enum (s := { s with heap := h', toks := tk + 1 }) ho fun h'' he' sb => ?_⟩
    have hT2 : h''.get? s.heap.objs.size = some { cls := .type "tuple", data := .seq #[.int i tk, en.key] } := (sb.2 _ (Nat.ne_of_gt hel)).trans hT
    have rk : RelV (kV k) en.key := by
      obtain ⟨u, hu, _⟩ := kv_get kv hkv
      obtain ⟨od, es2, hod2, hcd, hdd, hks, hp, hnn⟩ := id hm
      rw [hgd] at hod2
      cases hod2
      rw [hdt] at hdd
      cases hdd
      exact relV_key (hp.get? (by simpa using hen) hu).1
    have new : ObjOk X.prog X.w (upd H s.heap.objs.size (.tup [.int (i : Nat), kV k])) h'' s.heap.objs.size (.tup [.int (i : Nat), kV k]) :=
      ⟨by show 2 ≤ sizeLine; decide, [.int i tk, en.key], .cons ⟨_, rfl⟩ (.cons rk .nil), ⟨_, hT2, rfl, _, rfl⟩⟩
    have I1 : Inv X pins σ (upd H s.heap.objs.size (.tup [.int (i : Nat), kV k])) { s with heap := h'', toks := tk + 1 } :=
      I.turnedNew (ch := [e, it]) (fun b ob hb q => (sb.2 b (fun z => hb (by simp [z]))).trans (hk b ob (fun z => hb (by simp [z])) (fun z => hb (by simp [z])) q)) hf (Nat.le_refl _) new
    refine ⟨.ref s.heap.objs.size, _, I1, rfl, ⟨_, k, v, hkv, rfl, I.hok.fresh (Nat.le_refl _), rfl⟩, ⟨⟨en.key, ?_⟩, ?_, hne, by omega⟩, fun b hb => ?_⟩
    · have e1 : ((i + 1 : Nat) : Int) = (i : Int) + 1 := by omega
      rw [e1]; exact he'
    · rw [← hsz]
      exact st'.1.at fun o q => (sb.2 it (Ne.symm hne)).trans q
    · have hb' : b < s.heap.objs.size := by
        rcases (show b = e ∨ b = it by simpa using hb) with z | z
        · rw [z]; exact hel
        · rw [z]; exact hil
      rw [upd_ne (Nat.ne_of_lt hb')]
      exact (hf b hb).1
  done := by
    intro X hP hw hK hc i pins s σ H E I hf st hg
    subst hP hw hK
    obtain ⟨⟨old, he⟩, hit, hne, hle⟩ := st
    obtain ⟨hd, hi⟩ := hg
    obtain ⟨hs, hgd, hx, es', ep', vs, hdt, hsz, kv, hm⟩ := I.frzK hd
    obtain ⟨rfl, rfl⟩ := dict_ep hod hdt
    obtain ⟨f0, f1, f2, f3, f4, f5⟩ := hf it (by simp)
    have nd : d ≠ it := fun z => by rw [← z, hd] at f0; cases f0
    have nde : d ≠ e := fun z => by have := (hf e (by simp)).1; rw [← z, hd] at this; cases this
    have ei : i = es'.size := by omega
    have D := draws_keys (prog := X.prog) (w := X.w) (A := X.A.in1) (I.ok.hd hc) it d nd hdt
    rw [← hsz, ei] at hit
    rw [ei] at he
    exact wpAny_pyNext_enum_endD D he ⟨hit, hgd⟩ fun h' eb => ⟨rfl, I.turned (t' := s.toks) (fun b o hb q => eb b o hb q) f0 f1 f3 f4 f5⟩
  self := fun A i s Q E st h => let ⟨⟨_, he⟩, _⟩ := st; wpAny_pyIter_enum he h
def iEnumK (ta : TA) : TI := fun σ H R => ta σ H fun vs H1 => ∃ d o kvs, vs = [.ref d] ∧ H1 d = some (.frz o (.dK kvs)) ∧ R (Itek d o kvs) H1
/-- for i, k in enumerate(d), d locked -/
theorem pi_enumK {X : Cx} {e : Expr} {ta : TA} {p pos tpos : Pos} {elts : List Expr} {kk : Nat} (hg : Gl X "enumerate") (hm : X.mg "enumerate" = none) (ha : PA X [e] ta) (hs : starEach [e] X.env = [(false, eval e X.env)] := by rfl) :
    PI X (.Tuple elts kk tpos) (.Call (.Name "enumerate" p) [e] [] pos) (iEnumK ta) := by
  refine ⟨fun pins s σ H R I h => Call_ (ld_blt I hg hm boot_enumerate (PyProof.Rows.callWith_type1 (thn (ha.run pos pins s σ H _ I h) fun us s1 ⟨vs, H1, I1, r1, q1⟩ => ?_) hs rfl))⟩
  obtain ⟨d, o, kvs, ex, hd, q⟩ := q1
  subst ex
  cases r1 with
  | cons r rr =>
    cases rr
    cases r
    obtain ⟨hsm, hgd, hx, es, ep, vs, hdt, hsz, kv, hmm⟩ := I1.frzK hd
    refine call_enum_keys hsm hgd hx hdt fun h' he hit hk => wpAny_pyIter_enum he ?_
    have I2 : Inv X pins σ H1 { s1 with heap := h' } := I1.kept (t' := s1.toks) hk
    rw [hsz] at hit
    refine ⟨s1.heap.objs.size + 1, [s1.heap.objs.size + 1, s1.heap.objs.size], _, _, H1, rfl, I2, turn_enumK (s1.heap.objs.size + 1) s1.heap.objs.size hdt, ⟨⟨.none, he⟩, hit, Nat.succ_ne_self _, Nat.zero_le _⟩, fun b hb => ?_, q⟩
    have hle : s1.heap.objs.size ≤ b := by
      rcases (show b = s1.heap.objs.size + 1 ∨ b = s1.heap.objs.size by simpa using hb) with z | z
      · rw [z]; exact Nat.le_add_right _ _
      · rw [z]; exact Nat.le_refl _
    exact I1.fpOk hle (I1.hok.fresh hle)
/-- (0, sign), (1, sign), ..: a text -/
def Ites (z : Str) : It :=
  ⟨fun i _ => i < z.cps.size, fun i H v H' => ∃ T c, z.cps[i]? = some c ∧ v = .ref T ∧ H T = none ∧ H' = upd H T (.tup [.int (i : Nat), .str ⟨#[c]⟩]), fun i _ => z.cps.size ≤ i⟩
theorem draws_str {prog : Program} {w : World} {A : Around} (hh : A.handled = none) (it : Addr) (x : Str) (t : Tok) : Draws prog w A it [it] x.cps.size (fun i v => ∃ c u, x.cps[i]? = some c ∧ v = .str ⟨#[c]⟩ u) (fun i h => h.IsStrIter it (strIterType x) x t i) := by
  unfold strIterType
  split
  · exact Draws.strAscii hh it x t
  · exact Draws.strWide hh it x t
theorem turn_enumS {P : Program} {w : World} {K : PySem.W.Frag} {elts : List Expr} {kk : Nat} {tpos : Pos} {z : Str} {t : Tok} (e it : Addr) :
    Turn P w K (.Tuple elts kk tpos) (Ites z) [e, it] e (fun i h => (∃ old, IsEnum h e it ((i : Nat) : Int) old) ∧ h.IsStrIter it (strIterType z) z t i ∧ e ≠ it ∧ i ≤ z.cps.size) where
  mem := by simp
  obj := fun i h st b hb => by
    obtain ⟨⟨old, he⟩, ⟨o', ho, hc, hd⟩, _⟩ := st
    rcases (show b = e ∨ b = it by simpa using hb) with y | y
    · rw [y]; exact ⟨_, he, fun v q => nomatch q⟩
    · rw [y]; exact ⟨o', ho, fun v q => by rw [hd] at q; cases q⟩
  keep := fun i h h' st k => let ⟨⟨old, he⟩, ⟨o, ho, r⟩, hne, hle⟩ := st; ⟨⟨old, k e (by simp) _ he⟩, ⟨o, k it (by simp) o ho, r⟩, hne, hle⟩
  item := by
    intro X hP hw hK hc i pins s σ H E I hf st hi
    subst hP hw hK
    obtain ⟨⟨old, he⟩, hit, hne, hle⟩ := st
    have hel : e < s.heap.objs.size := Heap.lt_size he
    have hil : it < s.heap.objs.size := by obtain ⟨_, q, _⟩ := hit; exact Heap.lt_size q
    have D := draws_str (prog := X.prog) (w := X.w) (A := X.A.in1) (I.ok.hd hc) it z t
    refine wpAny_pyNext_enum_itemD D he hit hi hne (by simp [hne]) fun x h' tk hP ho st' hT hsz' hk => ?_
    obtain ⟨c, u, hcu, rfl⟩ := hP
    refine ⟨_, rfl, wpAny_letOwnedTupleGo_enum (s := { s with heap := h', toks := tk + 1 }) ho fun h'' he' sb => ?_⟩
    have hT2 : h''.get? s.heap.objs.size = some { cls := .type "tuple", data := .seq #[.int i tk, .str ⟨#[c]⟩ u] } := (sb.2 _ (Nat.ne_of_gt hel)).trans hT
    have new : ObjOk X.prog X.w (upd H s.heap.objs.size (.tup [.int (i : Nat), .str ⟨#[c]⟩])) h'' s.heap.objs.size (.tup [.int (i : Nat), .str ⟨#[c]⟩]) :=
      ⟨by show 2 ≤ sizeLine; decide, [.int i tk, .str ⟨#[c]⟩ u], .cons ⟨_, rfl⟩ (.cons ⟨_, rfl⟩ .nil), ⟨_, hT2, rfl, _, rfl⟩⟩
    have I1 : Inv X pins σ (upd H s.heap.objs.size (.tup [.int (i : Nat), .str ⟨#[c]⟩])) { s with heap := h'', toks := tk + 1 } :=
      I.turnedNew (ch := [e, it]) (fun b ob hb q => (sb.2 b (fun z => hb (by simp [z]))).trans (hk b ob (fun z => hb (by simp [z])) (fun z => hb (by simp [z])) q)) hf (Nat.le_refl _) new
    have hi' : i < z.cps.size := hi
    refine ⟨.ref s.heap.objs.size, _, I1, rfl, ⟨_, c, hcu, rfl, I.hok.fresh (Nat.le_refl _), rfl⟩, ⟨⟨.str ⟨#[c]⟩ u, ?_⟩, ?_, hne, by omega⟩, fun b hb => ?_⟩
    · have e1 : ((i + 1 : Nat) : Int) = (i : Int) + 1 := by omega
      rw [e1]; exact he'
    · obtain ⟨o, ho', r⟩ := st'
      exact ⟨o, (sb.2 it (Ne.symm hne)).trans ho', r⟩
    · have hb' : b < s.heap.objs.size := by
        rcases (show b = e ∨ b = it by simpa using hb) with y | y
        · rw [y]; exact hel
        · rw [y]; exact hil
      rw [upd_ne (Nat.ne_of_lt hb')]
      exact (hf b hb).1
  done := by
    intro X hP hw hK hc i pins s σ H E I hf st hi
    subst hP hw hK
    obtain ⟨⟨old, he⟩, hit, hne, hle⟩ := st
    obtain ⟨f0, f1, f2, f3, f4, f5⟩ := hf it (by simp)
    have hi' : z.cps.size ≤ i := hi
    have ei : i = z.cps.size := by omega
    have D := draws_str (prog := X.prog) (w := X.w) (A := X.A.in1) (I.ok.hd hc) it z t
    rw [ei] at hit he
    exact wpAny_pyNext_enum_endD D he hit fun h' eb => ⟨rfl, I.turned (t' := s.toks) (fun b o hb q => eb b o hb q) f0 f1 f3 f4 f5⟩
  self := fun A i s Q E st h => let ⟨⟨_, he⟩, _⟩ := st; wpAny_pyIter_enum he h
def iEnumS (ta : TA) : TI := fun σ H R => ta σ H fun vs H1 => ∃ z, vs = [.str z] ∧ R (Ites z) H1
/-- for i, c in enumerate(text) -/
theorem pi_enumS {X : Cx} {e : Expr} {ta : TA} {p pos tpos : Pos} {elts : List Expr} {kk : Nat} (hg : Gl X "enumerate") (hm : X.mg "enumerate" = none) (ha : PA X [e] ta) (hs : starEach [e] X.env = [(false, eval e X.env)] := by rfl) :
    PI X (.Tuple elts kk tpos) (.Call (.Name "enumerate" p) [e] [] pos) (iEnumS ta) := by
  refine ⟨fun pins s σ H R I h => Call_ (ld_blt I hg hm boot_enumerate (PyProof.Rows.callWith_type1 (thn (ha.run pos pins s σ H _ I h) fun us s1 ⟨vs, H1, I1, r1, q1⟩ => ?_) hs rfl))⟩
  obtain ⟨z, ex, q⟩ := q1
  subst ex
  cases r1 with
  | cons r rr =>
    cases rr
    obtain ⟨t, rfl⟩ := r
    refine call_enumerate_str fun h' he hit hsz hk => wpAny_pyIter_enum he ?_
    have I2 : Inv X pins σ H1 { s1 with heap := h' } := I1.kept (t' := s1.toks) hk
    refine ⟨s1.heap.objs.size + 1, [s1.heap.objs.size + 1, s1.heap.objs.size], _, _, H1, rfl, I2, turn_enumS (s1.heap.objs.size + 1) s1.heap.objs.size, ⟨⟨.none, he⟩, hit, Nat.succ_ne_self _, Nat.zero_le _⟩, fun b hb => ?_, q⟩
    have hle : s1.heap.objs.size ≤ b := by
      rcases (show b = s1.heap.objs.size + 1 ∨ b = s1.heap.objs.size by simpa using hb) with y | y
      · rw [y]; exact Nat.le_add_right _ _
      · rw [y]; exact Nat.le_refl _
    exact I1.fpOk hle (I1.hok.fresh hle)
/-! ## name = {k: v for ..} on one line, the name a local -/
section
variable {X : Cx}
theorem ps_setDc {i : Nat} {y : Str} {py : Pos} {kx vx tg iter : Expr} {ifs : List Expr} {scope : Scope} {own : List (Str × Nat)} {pos spos : Pos} {wi : TI} {g : TG} {tt : TT} {tk tv : TE} (hc : X.calm = true) (hN : X.N.Nodup) (hy : X.N[i]? = some y) (hyl : X.env.scope.names.lookup y = some .local)
    (hsw : swapsWith (.DictComp kx vx [⟨tg, iter, ifs, 0⟩] scope pos) (some (.Name y py)) spos.line X.env = pure true) (hi : PI X tg iter wi) (ok : BlkOk X.N X.env.scope scope own)
    (hg : ∀ (s : Shared) (H : Hp) (C : Addr) (cl : List (Str × Addr)) (fp : List Addr), PG (X.blk s H scope (compEnvC scope cl C X.env) fp) tg g) (ht : ∀ (s : Shared) (H : Hp) (C : Addr) (cl : List (Str × Addr)) (fp : List Addr), PTs (X.blk s H scope (compEnvC scope cl C X.env) fp) ifs tt)
    (hk : ∀ (s : Shared) (H : Hp) (C : Addr) (cl : List (Str × Addr)) (fp : List Addr), PE (X.blk s H scope (compEnvC scope cl C X.env) fp) kx tk)
    (he : ∀ (s : Shared) (H : Hp) (C : Addr) (cl : List (Str × Addr)) (fp : List Addr), PE (X.blk s H scope (compEnvC scope cl C X.env) fp) vx tv) (hs : ∀ x, foldedSetIterable iter X.env x = pure x := by intro _; rfl) :
    PS X (.Assign [.Name y py] (.DictComp kx vx [⟨tg, iter, ifs, 0⟩] scope pos) spos) (tAsg (tDc wi g tt tk tv (own.map (·.2))) (gName i)) := by
  refine ⟨fun pins s σ H D I h => ?_⟩
  rw [exec_Assign_Name_used _ _ _ _ hsw]
  refine wpAny_bind (wpAny_standAt (wpAny_bind ?_))
  show wpAny _ X.A (do let _ ← comprehension (.DictComp kx vx [⟨tg, iter, ifs, 0⟩] scope pos) scope X.env (firstIterPos [⟨tg, iter, ifs, 0⟩] pos) newDict false (eval iter X.env) (some (assign (.Name y py) X.env))) _ _ s
  have h : tDc wi g tt tk tv (own.map (·.2)) σ H (fun x H1 => gName i x σ H1 D.nx) := h
  refine wpAny_bind (thn (dc_core (Qf := fun _ s' => SP X pins D .next s') hc hN I hi ok hg ht hk he hs h fun L C s' m H' I' q hn f => ?_) fun _ s' hq => wpAny_pure (wpAny_pure hq))
  show wpAny _ _ (assign (.Name y py) X.env (.ref L)) _ _ _
  refine wpAny_assign_Name (store_ok2 (v := V.ref L) I' hN hy (.inl hyl) rfl (fun s2 I2 ⟨a, sb, ha⟩ => ?_) (.inr hyl))
  obtain ⟨f0, f1, f2, f3, f4, f5⟩ := f
  have haC : C ≠ a := by
    rcases ha with z | z
    · rw [z]; exact f1
    · exact fun e => f4 y a z e.symm
  refine ⟨m, hn.sameBut sb haC, fun h3 sb3 => ?_⟩
  exact ⟨_, H', I2.turned (t' := s2.toks) (fun b o hb e => (sb3.2 b hb).trans e) f0 f1 f3 f4 f5, q⟩
theorem swd_true {kx vx : Expr} {gs : List Comprehension} {scope : Scope} {pos py : Pos} {y : Str} {l : Nat} {env : Env} (hk : env.scope.kind = .function) (hy : env.scope.names.lookup y = some .local) (hl : (py.line == pos.line) = true)
    (ha : (scope.names.any fun (n, k) => n == y && (k == .local || k == .cell)) = false) : swapsWith (.DictComp kx vx gs scope pos) (some (.Name y py)) l env = pure true := by
  have ky : env.kindOf y = some .local := hy
  have hb : env.blockKind = .function := by unfold Env.blockKind; rw [hk]; rfl
  unfold swapsWith
  simp only [hb, ky, ha, Expr.pos, hl]
  rfl
end
section
theorem walk_enumK {d : Addr} {o : Obj} {kvs : List (Key × V)} : Walk (Itek d o kvs) kvs.length (fun H => H d = some (.frz o (.dK kvs))) (YPair (fun i => some (.int (i : Nat))) (fun i => kvs[i]?.map fun kv => kV kv.1)) := by
  refine ⟨fun _ _ hi q => ⟨q, hi⟩, fun _ q => ⟨q, Nat.le_refl _⟩, fun i H x H' _ _ y => ?_⟩
  obtain ⟨T, k, v, h1, h2, h3, h4⟩ := y
  exact ⟨T, .int (i : Nat), kV k, h2, h3, h4, rfl, by simp [h1]⟩
theorem walk_enumS {z : Str} : Walk (Ites z) z.cps.size (fun _ => True) (YPair (fun i => some (.int (i : Nat))) (fun i => z.cps[i]?.map fun c => V.str ⟨#[c]⟩)) := by
  refine ⟨fun _ _ hi _ => hi, fun _ _ => Nat.le_refl _, fun i H x H' _ _ y => ?_⟩
  obtain ⟨T, c, h1, h2, h3, h4⟩ := y
  exact ⟨T, .int (i : Nat), .str ⟨#[c]⟩, h2, h3, h4, rfl, by simp [h1]⟩
variable {J : It} {n : Nat} {G : Hp → Prop} {Y : Nat → Hp → V → Hp → Prop}
/-- a dict comprehension over it -/
theorem dc_it (w : Walk J n G Y) {g : TG} {tt : TT} {tk tv : TE} {vs : List Nat} {σ : L2.St} {H1 : Hp} {D : Addr} {Qd : Hp → Prop} (Pv : Nat → Hp → Prop) (h0 : Pv 0 (upd H1 D (.dK []))) (hG : ∀ i H, i ≤ n → Pv i H → G H)
    (hs : ∀ i x H H', i < n → Pv i H → Y i H x H' → g x (wipe σ vs) H' fun σ2 H2 => wipe σ2 vs = wipe σ vs ∧ tt σ2 H2 fun b H3 =>
      if b = true then tk σ2 H3 fun y H4 => tv σ2 H4 fun z H5 => ∃ kvs k, y = kV k ∧ H5 D = some (.dK kvs) ∧ kvs.length < sizeLine ∧ Pv (i + 1) (upd H5 D (.dK (putK kvs k z))) else Pv (i + 1) H3) (hd : ∀ H, Pv n H → Qd H) :
    ∃ W : Nat → Nat → Hp → Prop, (∃ m, W 0 m (upd H1 D (.dK []))) ∧ ∀ i m H, W i m H →
      (J.stop i H ∧ Qd H) ∨ (J.go i H ∧ ∃ Nx : Hp → Prop, (∀ H', Nx H' → ∃ m', m' < m ∧ W (i + 1) m' H') ∧ ∀ x H', J.yld i H x H' → g x (wipe σ vs) H' fun σ2 H2 => wipe σ2 vs = wipe σ vs ∧ tt σ2 H2 fun b H3 =>
        if b = true then tk σ2 H3 fun y H4 => tv σ2 H4 fun z H5 => ∃ kvs k, y = kV k ∧ H5 D = some (.dK kvs) ∧ kvs.length < sizeLine ∧ Nx (upd H5 D (.dK (putK kvs k z))) else Nx H3) := by
  refine ⟨fun i m H => m = n - i ∧ i ≤ n ∧ Pv i H, ⟨n, by simp, Nat.zero_le _, h0⟩, ?_⟩
  rintro i m H ⟨rfl, hi, p⟩
  have q := hG i H hi p
  by_cases hlt : i < n
  · exact .inr ⟨w.goes i H hlt q, Pv (i + 1), fun H' p' => ⟨n - (i + 1), by omega, rfl, hlt, p'⟩, fun x H' y => hs i x H H' hlt p (w.yields i H x H' hlt q y)⟩
  · have e : i = n := by omega
    subst e
    exact .inl ⟨w.stops H q, hd H p⟩
end
end HE
namespace HV
open PySem PySem.Spec PyProof.Rows L2 RT
section
variable {prog : Program} {w : World} {A : Around} {E : Value → Shared → Prop} {s : Shared}
/-- an item of reversed(tuple), asked by an iterator over it -/
theorem rt_item {it t : Addr} {i : Nat} {items : Array Value} {x : Value} {Q : Value → Shared → Prop} (hit : IsRt s.heap it t (i : Int)) (ht : IsTup s.heap t items) (hx : items[i]? = some x) (hsz : items.size ≤ sizeLine)
    (q : ∀ h', IsRt h' it t ((i : Int) - 1) → Heap.SameBut it s.heap h' → Q x { s with heap := h', toks := s.toks + 1 }) : wpAny (model prog w) A (Builtin.SmallTypes.nextOf (.ref it)) Q E s := by
  obtain ⟨o, ho, hc, hd⟩ := id hit
  have hi : i < items.size := (Array.getElem?_eq_some_iff.mp hx).1
  have hT : s.TypeIs (.ref t) "tuple" := IsTup.typeOf' ht
  rw [sizeLine_eq] at hsz
  unfold Builtin.SmallTypes.nextOf
  refine wpAny_bind (wpAny_callSpecial?_slot (name := Str.ofString "__next__") hit.typeIs slot_rt_next (wpAny_call_entry slot_rt_next hit.typeIs entry_rt_next ?_ (args_rt_next _)))
  unfold Builtin.«reversed.__next__»
  refine wpAny_bind (wpAny_of_eq (a := (Value.ref it, [])) rfl ?_)
  try dsimp only
  refine wpAny_bind (wpAny_field ho hd (x := .ref t) rfl (wpAny_bind (wpAny_field ho hd (x := rawInt (i : Int)) rfl ?_)))
  show wpAny _ _ (if (i : Int) < 0 then _ else _) _ _ s
  rw [if_neg (by omega)]
  refine wpAny_bind (wpAny_specialOf hT get_tuple ?_)
  try dsimp only
  try rw [if_neg (by decide)]
  refine wpAny_bind (wpAny_mkInt (wpAny_bind (wpAny_attempt ?_)))
  refine PyProof.Rows.getItem_tuple (s := { s with toks := s.toks + 1 }) ht (by omega) (by omega) (seqIndex_of (by omega) (by omega)) hx ?_
  try dsimp only
  refine wpAny_bind (wpAny_field (s := { s with toks := s.toks + 1 }) ho hd (x := rawInt (i : Int)) rfl ?_)
  refine wpAny_bind (wpAny_setField (s := { s with toks := s.toks + 1 }) ho hd (by simp) ?_)
  first
  | refine wpAny_pure ⟨x, rfl, wpAny_pure (q _ ?_ (Heap.SameBut.update ..))⟩
  | refine wpAny_bind (wpAny_pure (wpAny_pure ⟨x, rfl, wpAny_pure (q _ ?_ (Heap.SameBut.update ..))⟩))
  exact ⟨_, Heap.get?_update_self _ ho (Obj.isFreed_of_fields (Obj.data_mapFields hd _)), (Obj.cls_mapFields ..).trans hc, by rw [Obj.data_mapFields hd]; simp⟩
theorem rt_end {it t : Addr} {Q : Value → Shared → Prop} (hh : A.handled = none) (hit : IsRt s.heap it t (-1)) (q : ∀ h' x, Heap.ExtBut it s.heap h' → (∃ o, h'.get? x = some o ∧ o.cls = .type "StopIteration") → E (.ref x) { s with heap := h' }) :
    wpAny (model prog w) A (Builtin.SmallTypes.nextOf (.ref it)) Q E s := by
  obtain ⟨o, ho, hc, hd⟩ := id hit
  unfold Builtin.SmallTypes.nextOf
  refine wpAny_bind (wpAny_callSpecial?_slot (name := Str.ofString "__next__") hit.typeIs slot_rt_next (wpAny_call_entry slot_rt_next hit.typeIs entry_rt_next ?_ (args_rt_next _)))
  unfold Builtin.«reversed.__next__»
  refine wpAny_bind (wpAny_of_eq (a := (Value.ref it, [])) rfl ?_)
  try dsimp only
  refine wpAny_bind (wpAny_field ho hd (x := .ref t) rfl (wpAny_bind (wpAny_field ho hd (x := rawInt (-1)) rfl ?_)))
  show wpAny _ _ (if (-1 : Int) < 0 then _ else _) _ _ s
  rw [if_pos (by decide)]
  try dsimp only
  refine wpAny_bind (wpAny_rule (wpAny_bind ?_))
  wp_delta
  refine wpAny_bind (wpAny_setField ho hd (by simp) ?_)
  have ho2 := Heap.get?_update_self (Obj.mapFields (·.setIfInBounds 1 (rawInt (-1)))) ho (Obj.isFreed_of_fields (Obj.data_mapFields hd _))
  refine wpAny_setField (s := { s with heap := s.heap.update it (Obj.mapFields (·.setIfInBounds 1 (rawInt (-1)))) }) ho2 (Obj.data_mapFields hd _) (by simp) ?_
  try dsimp only
  first
  | show wpAny _ _ (newExc (.type "StopIteration") [] >>= _) _ _ _
  | (refine wpAny_bind ?_; show wpAny _ _ (newExc (.type "StopIteration") [] >>= _) _ _ _)
  | (refine wpAny_bind ?_; wp_delta; show wpAny _ _ (newExc (.type "StopIteration") [] >>= _) _ _ _)
  refine wpAny_bind ?_
  simp only [newExc, newTuple]; refine wpAny_bind (wpAny_newObj_type ?_ (by size_fits))
  refine wpAny_bind (m := firstArgMember _ _) (wpAny_of_eq (a := Value.none) (by first | rfl | (simp only [firstArgMember]; rfl)) (wpAny_newObj_type ?_ (by size_fits)))
  simp only [raiseNew]; refine wpAny_bind (wpAny_handled ?_)
  first | rw [show A.in1.handled = none from hh] | rw [hh]
  refine wpAny_bind (wpAny_pure (wpAny_throw ?_))
  refine q _ _ (((?_ : Heap.ExtBut it s.heap _).push _).push _) ⟨_, Heap.get?_push_size _ rfl, rfl⟩
  exact fun b ob hb e => (Heap.get?_update_other _ _ (Ne.symm hb)).trans ((Heap.get?_update_other _ _ (Ne.symm hb)).trans e)
theorem lri_item {it l : Addr} {i : Nat} {items : Array Value} {x : Value} {Q : Value → Shared → Prop} (hit : s.heap.IsRevIter it l (i : Int)) (hl : s.heap.IsList l items) (hx : items[i]? = some x)
    (q : ∀ h', h'.IsRevIter it l ((i : Int) - 1) → Heap.SameBut it s.heap h' → Q x { s with heap := h' }) : wpAny (model prog w) A (Builtin.SmallTypes.nextOf (.ref it)) Q E s := by
  obtain ⟨o, ho, hc, hd⟩ := id hit
  obtain ⟨ol, hol, _, nl, hdl⟩ := hl
  unfold Builtin.SmallTypes.nextOf
  refine wpAny_bind (wpAny_callSpecial?_slot (name := Str.ofString "__next__") hit.typeIs F.slot_lri_next (wpAny_call_entry F.slot_lri_next hit.typeIs F.entry_lri_next ?_ (F.args_lri_next_1 _)))
  unfold Builtin.«list_reverseiterator.__next__»
  refine wpAny_bind (wpAny_of_eq (a := (Value.ref it, [])) rfl ?_)
  try dsimp only
  refine wpAny_bind (wpAny_field ho hd (x := rawInt (i : Int)) rfl ?_)
  show wpAny _ _ (if (i : Int) < 0 then _ else _) _ _ s
  rw [if_neg (by omega)]
  show wpAny _ _ (field (.ref it) 0 >>= _) _ _ s
  refine wpAny_bind (wpAny_field ho hd (x := .ref l) rfl ?_)
  show wpAny _ _ (seqItems? (.ref l) >>= _) _ _ s
  refine wpAny_bind (wpAny_seqItems hol hdl ?_)
  simp only [Int.toNat_natCast, hx]
  refine wpAny_bind (wpAny_setField ho hd (by simp) ?_)
  first
  | refine wpAny_pure ⟨x, rfl, wpAny_pure (q _ ?_ (Heap.SameBut.update ..))⟩
  | refine wpAny_bind (wpAny_pure (wpAny_pure ⟨x, rfl, wpAny_pure (q _ ?_ (Heap.SameBut.update ..))⟩))
  exact ⟨_, Heap.get?_update_self _ ho (Obj.isFreed_of_fields (Obj.data_mapFields hd _)), (Obj.cls_mapFields ..).trans hc, by rw [Obj.data_mapFields hd]; simp⟩
theorem lri_end {it l : Addr} {Q : Value → Shared → Prop} (hh : A.handled = none) (hit : s.heap.IsRevIter it l (-1)) (q : ∀ h' x, Heap.ExtBut it s.heap h' → (∃ o, h'.get? x = some o ∧ o.cls = .type "StopIteration") → E (.ref x) { s with heap := h' }) :
    wpAny (model prog w) A (Builtin.SmallTypes.nextOf (.ref it)) Q E s := by
  obtain ⟨o, ho, hc, hd⟩ := id hit
  unfold Builtin.SmallTypes.nextOf
  refine wpAny_bind (wpAny_callSpecial?_slot (name := Str.ofString "__next__") hit.typeIs F.slot_lri_next (wpAny_call_entry F.slot_lri_next hit.typeIs F.entry_lri_next ?_ (F.args_lri_next_1 _)))
  unfold Builtin.«list_reverseiterator.__next__»
  refine wpAny_bind (wpAny_of_eq (a := (Value.ref it, [])) rfl ?_)
  try dsimp only
  refine wpAny_bind (wpAny_field ho hd (x := rawInt (-1)) rfl ?_)
  show wpAny _ _ (if (-1 : Int) < 0 then _ else _) _ _ s
  rw [if_pos (by decide)]
  refine wpAny_bind (wpAny_rule ?_)
  first
  | show wpAny _ _ (newExc (.type "StopIteration") [] >>= _) _ _ _
  | (refine wpAny_bind ?_; show wpAny _ _ (newExc (.type "StopIteration") [] >>= _) _ _ _)
  refine wpAny_bind ?_
  simp only [newExc, newTuple]; refine wpAny_bind (wpAny_newObj_type ?_ (by size_fits))
  refine wpAny_bind (m := firstArgMember _ _) (wpAny_of_eq (a := Value.none) (by first | rfl | (simp only [firstArgMember]; rfl)) (wpAny_newObj_type ?_ (by size_fits)))
  simp only [raiseNew]; refine wpAny_bind (wpAny_handled ?_)
  first | rw [show A.in1.handled = none from hh] | rw [hh]
  refine wpAny_bind (wpAny_pure (wpAny_throw ?_))
  exact q _ _ (((Heap.ExtBut.refl _ _).push _).push _) ⟨_, Heap.get?_push_size _ rfl, rfl⟩
/-- what reversed(tuple) gives, asked one by one -/
theorem draws_rt (hh : A.handled = none) (it t : Addr) (hne : t ≠ it) {items : Array Value} (hsz : items.size ≤ sizeLine) :
    Draws prog w A it [it, t] items.size (fun i v => items[items.size - 1 - i]? = some v) (fun i h => i ≤ items.size ∧ IsRt h it t ((items.size : Int) - 1 - (i : Nat)) ∧ IsTup h t items) where
  live := fun _ _ st => let ⟨o, ho, _⟩ := st.2.1; ⟨o, ho⟩
  frame := fun _ _ _ st k => ⟨st.1, st.2.1.at fun o e => k it (by simp) o e, let ⟨o, e, x⟩ := st.2.2; ⟨o, k t (by simp) o e, x⟩⟩
  item := fun i s Q E hi st q => by
    obtain ⟨_, hit, ht⟩ := st
    have e1 : (items.size : Int) - 1 - ((i : Nat) : Int) = ((items.size - 1 - i : Nat) : Int) := by omega
    rw [e1] at hit
    have hlt : items.size - 1 - i < items.size := by omega
    refine rt_item hit ht (Array.getElem?_eq_getElem hlt) hsz fun h' it' sb => ?_
    have e2 : ((items.size - 1 - i : Nat) : Int) - 1 = (items.size : Int) - 1 - ((i + 1 : Nat) : Int) := by omega
    rw [e2] at it'
    exact q _ h' (s.toks + 1) (Array.getElem?_eq_getElem hlt) ⟨hi, it', let ⟨o, e, x⟩ := ht; ⟨o, (sb.2 t hne).trans e, x⟩⟩ sb
  done := fun s Q E st q => by
    obtain ⟨_, hit, _⟩ := st
    have e1 : (items.size : Int) - 1 - ((items.size : Nat) : Int) = -1 := by omega
    rw [e1] at hit
    exact rt_end hh hit q
theorem draws_lri (hh : A.handled = none) (it l : Addr) (hne : l ≠ it) {items : Array Value} :
    Draws prog w A it [it, l] items.size (fun i v => items[items.size - 1 - i]? = some v) (fun i h => i ≤ items.size ∧ h.IsRevIter it l ((items.size : Int) - 1 - (i : Nat)) ∧ h.IsList l items) where
  live := fun _ _ st => let ⟨o, ho, _⟩ := st.2.1; ⟨o, ho⟩
  frame := fun _ _ _ st k => ⟨st.1, st.2.1.at fun o e => k it (by simp) o e, let ⟨o, e, x⟩ := st.2.2; ⟨o, k l (by simp) o e, x⟩⟩
  item := fun i s Q E hi st q => by
    obtain ⟨_, hit, ht⟩ := st
    have e1 : (items.size : Int) - 1 - ((i : Nat) : Int) = ((items.size - 1 - i : Nat) : Int) := by omega
    rw [e1] at hit
    have hlt : items.size - 1 - i < items.size := by omega
    refine lri_item hit ht (Array.getElem?_eq_getElem hlt) fun h' it' sb => ?_
    have e2 : ((items.size - 1 - i : Nat) : Int) - 1 = (items.size : Int) - 1 - ((i + 1 : Nat) : Int) := by omega
    rw [e2] at it'
    exact q _ h' s.toks (Array.getElem?_eq_getElem hlt) ⟨hi, it', let ⟨o, e, x⟩ := ht; ⟨o, (sb.2 l hne).trans e, x⟩⟩ sb
  done := fun s Q E st q => by
    obtain ⟨_, hit, _⟩ := st
    have e1 : (items.size : Int) - 1 - ((items.size : Nat) : Int) = -1 := by omega
    rw [e1] at hit
    exact lri_end hh hit q
end
open AutoSeq1 (wpAny_loadPart')
theorem meets_it (r : Addr) (o : Obj) (ik : ∀ (prog : Program) (w : World) (A : Around) (E : Value → Shared → Prop) (Q : Value → Shared → Prop) (s : Shared), s.heap.get? r = some o → Q (.ref r) s → wpAny (model prog w) A (pyIter (.ref r)) Q E s) :
    Meets (Builtin.«enumerate.__new__» ⟨[.type "enumerate", .ref r], []⟩) (fun _ R s => s.heap.get? r = some o ∧
      R (.ok (.ret (.ref s.heap.objs.size))) { s with heap := s.heap.push { cls := .type "enumerate", data := .fields #[.none, .bool false, .ref r, rawInt 0, .none, .none] } }) :=
  .of_wp fun prog w A R s h => by
    obtain ⟨hp, g, dr, tk, os⟩ := s
    obtain ⟨ho, h⟩ := h
    have hsub := sub_enumerate
    have ik2 : ∀ {A : Around} {E : Value → Shared → Prop} {Q : Value → Shared → Prop}, Q (.ref r) ⟨hp, g, dr, tk, os⟩ → wpAny (model prog w) A (pyIter (.ref r)) Q E ⟨hp, g, dr, tk, os⟩ := fun q => ik _ _ _ _ _ _ ho q
    wp_walk using wpAny_loadPart' ho
    refine wpAny_stack_any fun st => wpAny_pure ?_
    split
    · rename_i c _ _ _ _ _
      cases (c == Value.type "enumerate") <;> (wp_walk using wpAny_loadPart' ho, ik2; exact ⟨_, rfl, h⟩)
    · wp_walk using wpAny_loadPart' ho, ik2
      exact ⟨_, rfl, h⟩
theorem call_enum_it {prog : Program} {w : World} {A : Around} {E : Value → Shared → Prop} {s : Shared} {r : Addr} {o : Obj} {Q : Value → Shared → Prop} (ik : ∀ (prog : Program) (w : World) (A : Around) (E : Value → Shared → Prop) (Q : Value → Shared → Prop) (s : Shared), s.heap.get? r = some o → Q (.ref r) s → wpAny (model prog w) A (pyIter (.ref r)) Q E s) (ho : s.heap.get? r = some o)
    (q : ∀ h', IsEnum h' s.heap.objs.size r 0 .none → (∀ b x, s.heap.get? b = some x → h'.get? b = some x) → Q (.ref s.heap.objs.size) { s with heap := h' }) : wpAny (model prog w) A (call (.type "enumerate") [.ref r]) Q E s := by
  refine callType_new F.called_enumerate (by decide) (F.typeCall_enumerate_1 _) (F.newCall_enumerate_1 _) (fun obj => F.args_object_init_2 obj _) F.entry_enumerate_new (meets_it r o ik) ⟨ho, ?_⟩
  have he : IsEnum (s.heap.push { cls := .type "enumerate", data := .fields #[.none, .bool false, .ref r, rawInt 0, .none, .none] }) s.heap.objs.size r 0 .none := Heap.get?_push_size _ rfl
  exact ⟨⟨_, he, rfl⟩, q _ he fun b x e => Heap.get?_push_of_some _ e⟩
/-- (0, last), (1, the one before it), ..: reversed(tuple) of n items -/
def ItER (K : PySem.W.Frag) (a : Addr) (n : Nat) : It :=
  ⟨fun i H => i < n ∧ ∃ xs, SqT K H a xs ∧ xs.length = n, fun i H v H' => ∃ T x, v = .ref T ∧ H T = none ∧ H' = upd H T (.tup [.int (i : Nat), x]) ∧ ∀ xs, SqT K H a xs → xs[n - 1 - i]? = some x, fun i H => n ≤ i ∧ ∃ xs, SqT K H a xs ∧ xs.length = n⟩
theorem turn_er {P : Program} {w : World} {K : PySem.W.Frag} {elts : List Expr} {kk : Nat} {tpos : Pos} {a : Addr} {n : Nat} (e it : Addr) (hai : a ≠ it) (hae : a ≠ e) :
    Turn P w K (.Tuple elts kk tpos) (ItER K a n) [e, it] e (fun i h => (∃ old, IsEnum h e it ((i : Nat) : Int) old) ∧ IsRt h it a ((n : Int) - 1 - (i : Nat)) ∧ e ≠ it ∧ i ≤ n) where
  mem := by simp
  obj := fun i h st b hb => by
    obtain ⟨⟨old, he⟩, ⟨o', ho, hc, hd⟩, _⟩ := st
    rcases (show b = e ∨ b = it by simpa using hb) with z | z
    · rw [z]; exact ⟨_, he, fun v q => nomatch q⟩
    · rw [z]; exact ⟨o', ho, fun v q => by rw [hd] at q; cases q⟩
  keep := fun i h h' st k => let ⟨⟨old, he⟩, hi, hne, hle⟩ := st; ⟨⟨old, k e (by simp) _ he⟩, hi.at fun o q => k it (by simp) o q, hne, hle⟩
  item := by
    intro X hP hw hK hc i pins s σ H E I hf st hg
    subst hP hw hK
    obtain ⟨⟨old, he⟩, hit, hne, hle⟩ := st
    obtain ⟨hi, xs, hq, hxl⟩ := hg
    obtain ⟨its, rv, p, hz⟩ := I.tuple hq
    have hlen : its.toArray.size = n := by rw [List.size_toArray, ← rv.length, hxl]
    have hel : e < s.heap.objs.size := Heap.lt_size he
    have hil : it < s.heap.objs.size := by obtain ⟨_, q, _⟩ := hit; exact Heap.lt_size q
    have D := draws_rt (prog := X.prog) (w := X.w) (A := X.A.in1) (I.ok.hd hc) it a hai (items := its.toArray) (by rw [hlen, ← hxl]; exact hz)
    rw [← hlen] at hit
    refine wpAny_pyNext_enum_itemD D he ⟨by omega, hit, p⟩ (by omega) hne (by simp [hne, Ne.symm hae]) fun x h' tk hP ho st' hT hsz' hk => ?_
    refine ⟨_, rfl, wpAny_letOwnedTupleGo_enum (s := { s with heap := h', toks := tk + 1 }) ho fun h'' he' sb => ?_⟩
    have hT2 : h''.get? s.heap.objs.size = some { cls := .type "tuple", data := .seq #[.int i tk, x] } := (sb.2 _ (Nat.ne_of_gt hel)).trans hT
    have hP' : its[n - 1 - i]? = some x := by
      have h1 : its.toArray[its.toArray.size - 1 - i]? = some x := hP
      rw [hlen] at h1
      simpa using h1
    obtain ⟨v, hv, rk⟩ : ∃ v, xs[n - 1 - i]? = some v ∧ RelV v x := by
      have hlt : n - 1 - i < xs.length := by omega
      obtain ⟨u, hu, ru⟩ := rv.get (List.getElem?_eq_getElem hlt)
      rw [hP'] at hu
      cases hu
      exact ⟨_, List.getElem?_eq_getElem hlt, ru⟩
    have new : ObjOk X.prog X.w (upd H s.heap.objs.size (.tup [.int (i : Nat), v])) h'' s.heap.objs.size (.tup [.int (i : Nat), v]) :=
      ⟨by show 2 ≤ sizeLine; decide, [.int i tk, x], .cons ⟨_, rfl⟩ (.cons rk .nil), ⟨_, hT2, rfl, _, rfl⟩⟩
    have I1 : Inv X pins σ (upd H s.heap.objs.size (.tup [.int (i : Nat), v])) { s with heap := h'', toks := tk + 1 } :=
      I.turnedNew (ch := [e, it]) (fun b ob hb q => (sb.2 b (fun z => hb (by simp [z]))).trans (hk b ob (fun z => hb (by simp [z])) (fun z => hb (by simp [z])) q)) hf (Nat.le_refl _) new
    refine ⟨.ref s.heap.objs.size, _, I1, rfl, ⟨_, v, rfl, I.hok.fresh (Nat.le_refl _), rfl, fun ys hy => by rw [I.tuple_inj hy hq]; exact hv⟩, ⟨⟨x, ?_⟩, ?_, hne, by omega⟩, fun b hb => ?_⟩
    · have e1 : ((i + 1 : Nat) : Int) = (i : Int) + 1 := by omega
      rw [e1]; exact he'
    · rw [← hlen]
      exact st'.2.1.at fun o q => (sb.2 it (Ne.symm hne)).trans q
    · have hb' : b < s.heap.objs.size := by
        rcases (show b = e ∨ b = it by simpa using hb) with z | z
        · rw [z]; exact hel
        · rw [z]; exact hil
      rw [upd_ne (Nat.ne_of_lt hb')]
      exact (hf b hb).1
  done := by
    intro X hP hw hK hc i pins s σ H E I hf st hg
    subst hP hw hK
    obtain ⟨⟨old, he⟩, hit, hne, hle⟩ := st
    obtain ⟨hi, xs, hq, hxl⟩ := hg
    obtain ⟨its, rv, p, hz⟩ := I.tuple hq
    have hlen : its.toArray.size = n := by rw [List.size_toArray, ← rv.length, hxl]
    obtain ⟨f0, f1, f2, f3, f4, f5⟩ := hf it (by simp)
    have D := draws_rt (prog := X.prog) (w := X.w) (A := X.A.in1) (I.ok.hd hc) it a hai (items := its.toArray) (by rw [hlen, ← hxl]; exact hz)
    have ei : i = its.toArray.size := by omega
    rw [← hlen, ei] at hit
    rw [ei] at he
    exact wpAny_pyNext_enum_endD D he ⟨Nat.le_refl _, hit, p⟩ fun h' eb => ⟨rfl, I.turned (t' := s.toks) (fun b o hb q => eb b o hb q) f0 f1 f3 f4 f5⟩
  self := fun A i s Q E st h => let ⟨⟨_, he⟩, _⟩ := st; wpAny_pyIter_enum he h
/-- (0, last), (1, the one before it), ..: reversed(list) of n items -/
def ItEL (K : PySem.W.Frag) (a : Addr) (n : Nat) : It :=
  ⟨fun i H => i < n ∧ ∃ xs, SqL K H a xs ∧ xs.length = n, fun i H v H' => ∃ T x, v = .ref T ∧ H T = none ∧ H' = upd H T (.tup [.int (i : Nat), x]) ∧ ∀ xs, SqL K H a xs → xs[n - 1 - i]? = some x, fun i H => n ≤ i ∧ ∃ xs, SqL K H a xs ∧ xs.length = n⟩
theorem turn_el {P : Program} {w : World} {K : PySem.W.Frag} {elts : List Expr} {kk : Nat} {tpos : Pos} {a : Addr} {n : Nat} (e it : Addr) (hai : a ≠ it) (hae : a ≠ e) :
    Turn P w K (.Tuple elts kk tpos) (ItEL K a n) [e, it] e (fun i h => (∃ old, IsEnum h e it ((i : Nat) : Int) old) ∧ Heap.IsRevIter h it a ((n : Int) - 1 - (i : Nat)) ∧ e ≠ it ∧ i ≤ n) where
  mem := by simp
  obj := fun i h st b hb => by
    obtain ⟨⟨old, he⟩, ⟨o', ho, hc, hd⟩, _⟩ := st
    rcases (show b = e ∨ b = it by simpa using hb) with z | z
    · rw [z]; exact ⟨_, he, fun v q => nomatch q⟩
    · rw [z]; exact ⟨o', ho, fun v q => by rw [hd] at q; cases q⟩
  keep := fun i h h' st k => let ⟨⟨old, he⟩, hi, hne, hle⟩ := st; ⟨⟨old, k e (by simp) _ he⟩, hi.at fun o q => k it (by simp) o q, hne, hle⟩
  item := by
    intro X hP hw hK hc i pins s σ H E I hf st hg
    subst hP hw hK
    obtain ⟨⟨old, he⟩, hit, hne, hle⟩ := st
    obtain ⟨hi, xs, hq, hxl⟩ := hg
    obtain ⟨its, rv, p, hz⟩ := I.list hq
    have hlen : its.toArray.size = n := by rw [List.size_toArray, ← rv.length, hxl]
    have hel : e < s.heap.objs.size := Heap.lt_size he
    have hil : it < s.heap.objs.size := by obtain ⟨_, q, _⟩ := hit; exact Heap.lt_size q
    have D := draws_lri (prog := X.prog) (w := X.w) (A := X.A.in1) (I.ok.hd hc) it a hai (items := its.toArray)
    rw [← hlen] at hit
    refine wpAny_pyNext_enum_itemD D he ⟨by omega, hit, p.isList⟩ (by omega) hne (by simp [hne, Ne.symm hae]) fun x h' tk hP ho st' hT hsz' hk => ?_
    refine ⟨_, rfl, wpAny_letOwnedTupleGo_enum (s := { s with heap := h', toks := tk + 1 }) ho fun h'' he' sb => ?_⟩
    have hT2 : h''.get? s.heap.objs.size = some { cls := .type "tuple", data := .seq #[.int i tk, x] } := (sb.2 _ (Nat.ne_of_gt hel)).trans hT
    have hP' : its[n - 1 - i]? = some x := by
      have h1 : its.toArray[its.toArray.size - 1 - i]? = some x := hP
      rw [hlen] at h1
      simpa using h1
    obtain ⟨v, hv, rk⟩ : ∃ v, xs[n - 1 - i]? = some v ∧ RelV v x := by
      have hlt : n - 1 - i < xs.length := by omega
      obtain ⟨u, hu, ru⟩ := rv.get (List.getElem?_eq_getElem hlt)
      rw [hP'] at hu
      cases hu
      exact ⟨_, List.getElem?_eq_getElem hlt, ru⟩
    have new : ObjOk X.prog X.w (upd H s.heap.objs.size (.tup [.int (i : Nat), v])) h'' s.heap.objs.size (.tup [.int (i : Nat), v]) :=
      ⟨by show 2 ≤ sizeLine; decide, [.int i tk, x], .cons ⟨_, rfl⟩ (.cons rk .nil), ⟨_, hT2, rfl, _, rfl⟩⟩
    have I1 : Inv X pins σ (upd H s.heap.objs.size (.tup [.int (i : Nat), v])) { s with heap := h'', toks := tk + 1 } :=
      I.turnedNew (ch := [e, it]) (fun b ob hb q => (sb.2 b (fun z => hb (by simp [z]))).trans (hk b ob (fun z => hb (by simp [z])) (fun z => hb (by simp [z])) q)) hf (Nat.le_refl _) new
    refine ⟨.ref s.heap.objs.size, _, I1, rfl, ⟨_, v, rfl, I.hok.fresh (Nat.le_refl _), rfl, fun ys hy => by rw [I.list_inj hy hq]; exact hv⟩, ⟨⟨x, ?_⟩, ?_, hne, by omega⟩, fun b hb => ?_⟩
    · have e1 : ((i + 1 : Nat) : Int) = (i : Int) + 1 := by omega
      rw [e1]; exact he'
    · rw [← hlen]
      exact st'.2.1.at fun o q => (sb.2 it (Ne.symm hne)).trans q
    · have hb' : b < s.heap.objs.size := by
        rcases (show b = e ∨ b = it by simpa using hb) with z | z
        · rw [z]; exact hel
        · rw [z]; exact hil
      rw [upd_ne (Nat.ne_of_lt hb')]
      exact (hf b hb).1
  done := by
    intro X hP hw hK hc i pins s σ H E I hf st hg
    subst hP hw hK
    obtain ⟨⟨old, he⟩, hit, hne, hle⟩ := st
    obtain ⟨hi, xs, hq, hxl⟩ := hg
    obtain ⟨its, rv, p, hz⟩ := I.list hq
    have hlen : its.toArray.size = n := by rw [List.size_toArray, ← rv.length, hxl]
    obtain ⟨f0, f1, f2, f3, f4, f5⟩ := hf it (by simp)
    have D := draws_lri (prog := X.prog) (w := X.w) (A := X.A.in1) (I.ok.hd hc) it a hai (items := its.toArray)
    have ei : i = its.toArray.size := by omega
    rw [← hlen, ei] at hit
    rw [ei] at he
    exact wpAny_pyNext_enum_endD D he ⟨Nat.le_refl _, hit, p.isList⟩ fun h' eb => ⟨rfl, I.turned (t' := s.toks) (fun b o hb q => eb b o hb q) f0 f1 f3 f4 f5⟩
  self := fun A i s Q E st h => let ⟨⟨_, he⟩, _⟩ := st; wpAny_pyIter_enum he h
/-- enumerate(reversed(x)), x a tuple or a list -/
def iEnumR (K : PySem.W.Frag) (te : TE) : TI := fun σ H R => te σ H fun v H1 => ∃ (a : Addr) (xs : List V), v = .ref a ∧ ((SqL K H1 a xs ∧ R (ItEL K a xs.length) H1) ∨ (SqT K H1 a xs ∧ R (ItER K a xs.length) H1))
theorem pi_enumR {X : Cx} {e : Expr} {te : TE} {p pos p2 pos2 tpos : Pos} {elts : List Expr} {kk : Nat} (hg : Gl X "enumerate") (hm : X.mg "enumerate" = none) (hg2 : Gl X "reversed") (hm2 : X.mg "reversed" = none) (he : PE X e te)
    (hs2 : starEach [e] X.env = (false, eval e X.env) :: starEach [] X.env := by rfl) (hs : starEach [.Call (.Name "reversed" p2) [e] [] pos2] X.env = (false, eval (.Call (.Name "reversed" p2) [e] [] pos2) X.env) :: starEach [] X.env := by rfl) :
    PI X (.Tuple elts kk tpos) (.Call (.Name "enumerate" p) [.Call (.Name "reversed" p2) [e] [] pos2] [] pos) (iEnumR X.K te) := by
  refine ⟨fun pins s σ H R I h => ?_⟩
  refine Call_ (ld_blt I hg hm boot_enumerate (PyProof.Rows.callWith_type1 (args_cons (Call_ (ld_blt I hg2 hm2 PyProof.Rows.boot_reversed (PyProof.Rows.callWith_type1 (args_cons (thn (he.run pins s σ H _ I h) fun u s1 ⟨v, H1, I1, r1, q1⟩ => args_nil ?_) hs2) hs2 rfl))) hs) hs rfl))
  obtain ⟨a, xs, ev, q⟩ := q1
  subst ev
  obtain rfl : u = Value.ref a := r1
  rcases q with ⟨hq, q⟩ | ⟨hq, q⟩
  · obtain ⟨its, rv, p', hz⟩ := I1.list hq
    have hl := rv.length
    have e1 : ((its.toArray.size : Nat) : Int) - 1 = (xs.length : Int) - 1 - ((0 : Nat) : Int) := by simp only [List.size_toArray]; omega
    have hal : a < s1.heap.objs.size := by obtain ⟨o, ho, _⟩ := p'.isList; exact Heap.lt_size ho
    refine call_reversed_list p'.isList (args_nil (call_enum_it (o := revObj a ((its.toArray.size : Int) - 1)) (fun _ _ _ _ _ _ ho q => wpAny_pyIter_revIter ⟨_, ho, rfl, rfl⟩ q) (Heap.get?_push_size _ rfl) fun h' hen hk => wpAny_pyIter_enum hen ?_))
    have hsz : (s1.heap.push (revObj a ((its.toArray.size : Int) - 1))).objs.size = s1.heap.objs.size + 1 := Heap.size_push ..
    have I2 : Inv X pins σ H1 { s1 with heap := h' } := I1.kept (t' := s1.toks) fun b o q => hk b o (Heap.get?_push_of_some _ q)
    have hr := hk _ _ (Heap.get?_push_size (h := s1.heap) (o := revObj a ((its.toArray.size : Int) - 1)) rfl)
    rw [e1] at hr
    have hen' : IsEnum h' (s1.heap.objs.size + 1) s1.heap.objs.size 0 .none := by rw [← hsz]; exact hen
    show PIE X pins σ _ R (.ref (s1.heap.push (revObj a ((its.toArray.size : Int) - 1))).objs.size) _
    rw [hsz]
    refine ⟨s1.heap.objs.size + 1, [s1.heap.objs.size + 1, s1.heap.objs.size], _, _, H1, rfl, I2, turn_el (a := a) (n := xs.length) (s1.heap.objs.size + 1) s1.heap.objs.size (Nat.ne_of_lt hal) (Nat.ne_of_lt (Nat.lt_succ_of_lt hal)), ⟨⟨.none, hen'⟩, ⟨_, hr, rfl, rfl⟩, Nat.succ_ne_self _, Nat.zero_le _⟩, fun b hb => ?_, q⟩
    have hle : s1.heap.objs.size ≤ b := by
      rcases (show b = s1.heap.objs.size + 1 ∨ b = s1.heap.objs.size by simpa using hb) with z | z
      · rw [z]; exact Nat.le_add_right _ _
      · rw [z]; exact Nat.le_refl _
    exact I1.fpOk hle (I1.hok.fresh hle)
  · obtain ⟨its, rv, p', hz⟩ := I1.tuple hq
    have hl := rv.length
    have hn := line63
    have e1 : ((its.toArray.size : Nat) : Int) - 1 = (xs.length : Int) - 1 - ((0 : Nat) : Int) := by simp only [List.size_toArray]; omega
    have hal : a < s1.heap.objs.size := by obtain ⟨o, ho, _⟩ := p'; exact Heap.lt_size ho
    refine call_reversed_tup p' (fun A E Q k => len_tuple p' (by simp only [List.size_toArray] <;> omega) k) (args_nil (call_enum_it (o := rtObj a ((its.toArray.size : Int) - 1)) (fun _ _ _ _ _ _ ho q => iter_rt ⟨_, ho, rfl, rfl⟩ q) (Heap.get?_push_size _ rfl) fun h' hen hk => wpAny_pyIter_enum hen ?_))
    have hsz : (s1.heap.push (rtObj a ((its.toArray.size : Int) - 1))).objs.size = s1.heap.objs.size + 1 := Heap.size_push ..
    have I2 : Inv X pins σ H1 { s1 with heap := h', toks := s1.toks + 1 + 1 } := I1.kept (t' := s1.toks + 1 + 1) fun b o q => hk b o (Heap.get?_push_of_some _ q)
    have hr := hk _ _ (Heap.get?_push_size (h := s1.heap) (o := rtObj a ((its.toArray.size : Int) - 1)) rfl)
    rw [e1] at hr
    have hen' : IsEnum h' (s1.heap.objs.size + 1) s1.heap.objs.size 0 .none := by rw [← hsz]; exact hen
    show PIE X pins σ _ R (.ref (s1.heap.push (rtObj a ((its.toArray.size : Int) - 1))).objs.size) _
    rw [hsz]
    refine ⟨s1.heap.objs.size + 1, [s1.heap.objs.size + 1, s1.heap.objs.size], _, _, H1, rfl, I2, turn_er (a := a) (n := xs.length) (s1.heap.objs.size + 1) s1.heap.objs.size (Nat.ne_of_lt hal) (Nat.ne_of_lt (Nat.lt_succ_of_lt hal)), ⟨⟨.none, hen'⟩, ⟨_, hr, rfl, rfl⟩, Nat.succ_ne_self _, Nat.zero_le _⟩, fun b hb => ?_, q⟩
    have hle : s1.heap.objs.size ≤ b := by
      rcases (show b = s1.heap.objs.size + 1 ∨ b = s1.heap.objs.size by simpa using hb) with z | z
      · rw [z]; exact Nat.le_add_right _ _
      · rw [z]; exact Nat.le_refl _
    exact I1.fpOk hle (I1.hok.fresh hle)
theorem walk_er {K : PySem.W.Frag} {a : Addr} {xs : List V} : Walk (ItER K a xs.length) xs.length (fun H => SqT K H a xs) (YPair (fun i => some (.int (i : Nat))) (fun i => xs[xs.length - 1 - i]?)) := by
  refine ⟨fun i H hi q => ⟨hi, xs, q, rfl⟩, fun H q => ⟨Nat.le_refl _, xs, q, rfl⟩, fun i H v H' _ q y => ?_⟩
  obtain ⟨T, x, h1, h2, h3, h4⟩ := y
  exact ⟨T, .int (i : Nat), x, h1, h2, h3, rfl, h4 xs q⟩
theorem walk_el {K : PySem.W.Frag} {a : Addr} {xs : List V} : Walk (ItEL K a xs.length) xs.length (fun H => SqL K H a xs) (YPair (fun i => some (.int (i : Nat))) (fun i => xs[xs.length - 1 - i]?)) := by
  refine ⟨fun i H hi q => ⟨hi, xs, q, rfl⟩, fun H q => ⟨Nat.le_refl _, xs, q, rfl⟩, fun i H v H' _ q y => ?_⟩
  obtain ⟨T, x, h1, h2, h3, h4⟩ := y
  exact ⟨T, .int (i : Nat), x, h1, h2, h3, rfl, h4 xs q⟩
end HV
namespace HM
open PySem PySem.Spec PyProof.Rows L2 SX HL
/-! ## match: a value against constant texts; a tuple whose first item is a text against [text, names ..] -/
/-- what captures and wildcards bind, by slot -/
inductive Caps (X : Cx) : List Pattern → List (Option Nat) → Prop
  | nil : Caps X [] []
  | name {i : Nat} {x : Str} {pos : Pos} {ps : List Pattern} {cs : List (Option Nat)} : X.N[i]? = some x → Loc X.env.scope x → (X.fn x = true ∨ X.env.scope.names.lookup x = some .local) → Caps X ps cs → Caps X (.MatchAs none (some x) pos :: ps) (some i :: cs)
  | wild {pos : Pos} {ps : List Pattern} {cs : List (Option Nat)} : Caps X ps cs → Caps X (.MatchAs none none pos :: ps) (none :: cs)
def setCaps : L2.St → List (Option Nat) → List V → L2.St
  | σ, some i :: cs, v :: vs => setCaps (σ.set i (some v)) cs vs
  | σ, none :: cs, _ :: vs => setCaps σ cs vs
  | σ, _, _ => σ
def bsOf : List Pattern → List Value → List (Str × Value)
  | .MatchAs none (some n) _ :: ps, u :: us => (n, u) :: bsOf ps us
  | _ :: ps, _ :: us => bsOf ps us
  | _, _ => []
section
variable {X : Cx} {pins : List (Addr × Obj)}
theorem Caps.len {ps : List Pattern} {cs : List (Option Nat)} (h : Caps X ps cs) : ps.length = cs.length := by
  induction h with
  | nil => rfl
  | name _ _ _ _ ih => simp [ih]
  | wild _ ih => simp [ih]
theorem caps_each {M : Model} {A : Around} {E : Value → Shared → Prop} {env : Env} {ps : List Pattern} {cs : List (Option Nat)} (h : Caps X ps cs) : ∀ {us : List Value} {s : Shared} {Q : Option (List (Str × Value)) → Shared → Prop}, us.length = ps.length → Q (some (bsOf ps us)) s → wpAny M A (matchEach ps env us) Q E s := by
  induction h with
  | nil =>
    intro us s Q hl q
    cases us with
    | nil => exact wpAny_matchEach_nil q
    | cons u us => simp at hl
  | @name i x pos ps cs _ _ _ _ ih =>
    intro us s Q hl q
    cases us with
    | nil => simp at hl
    | cons u us =>
      refine wpAny_matchEach_cons (wpAny_matchPattern_Capture ?_)
      exact ih (by simpa using hl) q
  | @wild pos ps cs _ ih =>
    intro us s Q hl q
    cases us with
    | nil => simp at hl
    | cons u us =>
      refine wpAny_matchEach_cons (wpAny_matchPattern_Capture ?_)
      exact ih (by simpa using hl) q
theorem caps_assign {M : Model} {A : Around} {E : Value → Shared → Prop} {ps : List Pattern} {cs : List (Option Nat)} (hN : X.N.Nodup) (h : Caps X ps cs) : ∀ {us : List Value} {vs : List V} {σ : L2.St} {H : Hp} {s : Shared} {Q : Unit → Shared → Prop}, Vals vs us → us.length = ps.length →
    Inv X pins σ H s → (∀ s', Inv X pins (setCaps σ cs vs) H s' → Q () s') → wpAny M A (assignInOrder ((bsOf ps us).map fun p => bindName X.env p.1) ((bsOf ps us).map (·.2))) Q E s := by
  induction h with
  | nil =>
    intro us vs σ H s Q r hl I q
    cases r with
    | nil => exact assignInOrder_nil (q s I)
    | cons _ _ => simp at hl
  | @name i x pos ps cs h1 h2 h3 _ ih =>
    intro us vs σ H s Q r hl I q
    cases r with
    | nil => simp at hl
    | @cons v u vs us rv rr =>
      show wpAny M A (assignInOrder (bindName X.env x :: (bsOf ps us).map fun p => bindName X.env p.1) (u :: (bsOf ps us).map (·.2))) Q E s
      refine assignInOrder_cons (wpAny_bindName (store_ok I hN h1 h2 rv (fun s' I' => ?_) h3))
      exact ih rr (by simpa using hl) I' q
  | @wild pos ps cs _ ih =>
    intro us vs σ H s Q r hl I q
    cases r with
    | nil => simp at hl
    | @cons v u vs us rv rr =>
      show wpAny M A (assignInOrder ((bsOf ps us).map fun p => bindName X.env p.1) ((bsOf ps us).map (·.2))) Q E s
      exact ih rr (by simpa using hl) I q
/-- cases of a match: what is read of each -/
abbrev TMs := V → Ends → L2.St → Hp → Prop
structure PMs (X : Cx) (cases : List MatchCase) (t : TMs) : Prop where
  run : ∀ (first : Bool) (pins : List (Addr × Obj)) (s : Shared) (σ : L2.St) (H : Hp) (D : Ends) (v : V) (u : Value), Inv X pins σ H s → RelV v u → t v D σ H → wpAny (model X.prog X.w) X.A (matchCases cases X.env u first) (SP X pins D) X.xe s
theorem ps_match {subject : Expr} {cases : List MatchCase} {pos : Pos} {te : TE} {t : TMs} (he : PE X subject te) (hc : PMs X cases t) : PS X (.Match subject cases pos) (fun D σ H => te σ H fun v H1 => t v D σ H1) := by
  refine ⟨fun pins s σ H D I h => ?_⟩
  refine wpAny_Match (thn (he.run pins s σ H _ I h) fun u s1 ⟨v, H1, I1, r, q⟩ => ?_)
  exact hc.run true pins s1 σ H1 D v u I1 r q
/-- no case is left -/
theorem pm_nil : PMs X [] (fun _ D σ H => D.nx σ H) := ⟨fun first pins s σ H D v u I r h => wpAny_matchCases_nil ⟨σ, H, I, h⟩⟩
/-- case _: -/
theorem pm_wild {body : List Stmt} {rest : List MatchCase} {pos : Pos} {tb : TS} (hb : PSs X body tb) : PMs X (⟨.MatchAs none none pos, none, body⟩ :: rest) (fun _ D σ H => tb D σ H) := by
  refine ⟨fun first pins s σ H D v u I r h => ?_⟩
  refine wpAny_matchCases_cons (wpAny_matchPattern_Capture ?_)
  exact assignInOrder_nil (hb.run pins s σ H D I h)
/-- case 'text': -/
theorem pm_val {z : Str} {body : List Stmt} {rest : List MatchCase} {k pos : Pos} {j : Nat} {tb : TS} {t : TMs} (hb : PSs X body tb) (hr : PMs X rest t) :
    PMs X (⟨.MatchValue (.Constant (.str z) j k) pos, none, body⟩ :: rest) (fun v D σ H => ∃ y, v = .str y ∧ if y = z then tb D σ H else t v D σ H) := by
  refine ⟨fun first pins s σ H D v u I r h => ?_⟩
  obtain ⟨y, rfl, h⟩ := h
  refine wpAny_matchCases_cons (wpAny_matchPattern_Value ?_)
  refine thn ((pe_str (X := X) (x := z)).run pins s σ H (fun w H1 => w = .str z ∧ H1 = H) I ⟨rfl, rfl⟩) fun x s1 ⟨w, H1, I1, r1, e1, e2⟩ => ?_
  subst e1
  rw [e2] at I1
  refine thn (op_eq (X := X) pins s1 σ H (.str y) (.str z) u x (fun c H2 => c = .bl (decide (V.str y = V.str z)) ∧ H2 = H) I1 r r1 ⟨rfl, rfl, rfl⟩) fun c s2 ⟨w, H2, I2, r2, e3, e4⟩ => ?_
  subst e3
  rw [e4] at I2
  obtain rfl : c = .bool (decide (V.str y = V.str z)) := r2
  refine wpAny_truthy_bool ?_
  by_cases e : y = z
  · have ed : decide (V.str y = V.str z) = true := decide_eq_true (by rw [e])
    rw [if_pos e] at h
    rw [ed, if_pos rfl]
    exact assignInOrder_nil (hb.run pins s2 σ H D I2 h)
  · have ed : decide (V.str y = V.str z) = false := decide_eq_false (fun q => e (V.str.inj q))
    rw [if_neg e] at h
    rw [ed, if_neg (by simp)]
    exact hr.run false pins s2 σ H D _ u I2 r h
/-- case ['text', names ..]: -/
theorem pm_tag {z : Str} {ps : List Pattern} {cs : List (Option Nat)} {body : List Stmt} {rest : List MatchCase} {k pos pos' : Pos} {j : Nat} {tb : TS} {t : TMs} (hc : X.calm = true) (hN : X.N.Nodup) (hcap : Caps X ps cs) (hb : PSs X body tb) (hr : PMs X rest t)
    (hstar : (Pattern.MatchValue (.Constant (.str z) j k) pos :: ps).findIdx? (·.isStar) = none := by rfl) :
    PMs X (⟨.MatchSequence (.MatchValue (.Constant (.str z) j k) pos :: ps) pos', none, body⟩ :: rest) (fun v D σ H => ∃ a y xs, v = .ref a ∧ SqT X.K H a (.str y :: xs) ∧ if y = z ∧ xs.length = cs.length then tb D (setCaps σ cs xs) H else t v D σ H) := by
  refine ⟨fun first pins s σ H D v u I r h => ?_⟩
  obtain ⟨a, y, xs, rfl, hq, h⟩ := h
  obtain rfl : u = .ref a := r
  obtain ⟨its, rv, ht, hz⟩ := I.tuple hq
  cases rv with
  | @cons _ w _ us rw' rr =>
  have hlen : us.length = xs.length := rr.length.symm
  have hl : (w :: us).toArray.size = us.length + 1 := by simp
  have l63 := line63
  have hfit : (((w :: us).toArray.size : Nat) : Int) < 2 ^ 63 := by
    rw [hl, hlen]
    simp at hz
    have : (sizeLine : Int) < 2 ^ 63 := by exact_mod_cast l63
    omega
  refine wpAny_matchCases_cons ?_
  by_cases hn : us.length = ps.length
  · refine matchSeq_tuple_hit ht hfit (by rw [hl, hn]; rfl) ?_ hstar rfl
    have hsz : (Pattern.MatchValue (.Constant (.str z) j k) pos :: ps).length = (w :: us).toArray.size := by rw [hl, hn]; rfl
    rw [hsz]
    have I1 : Inv X pins σ H { s with toks := s.toks + 1 + 1 } := I.tok _
    refine unpackItems_tuple (I.ok.hd hc) ht fun h' hx => ?_
    have I2 : Inv X pins σ H { s with heap := h', toks := s.toks + 1 + 1 } := I.kept fun b o e => hx b o (Nat.ne_of_lt (Heap.lt_size e)) e
    refine wpAny_matchEach_cons (wpAny_matchPattern_Value ?_)
    refine thn ((pe_str (X := X) (x := z)).run pins _ σ H (fun w H1 => w = .str z ∧ H1 = H) I2 ⟨rfl, rfl⟩) fun x s1 ⟨w1, H1, I1, r1, e1, e2⟩ => ?_
    subst e1
    rw [e2] at I1
    refine thn (op_eq (X := X) pins s1 σ H (.str y) (.str z) w x (fun c H2 => c = .bl (decide (V.str y = V.str z)) ∧ H2 = H) I1 rw' r1 ⟨rfl, rfl, rfl⟩) fun c s2 ⟨w2, H2, I2, r2, e3, e4⟩ => ?_
    subst e3
    rw [e4] at I2
    obtain rfl : c = .bool (decide (V.str y = V.str z)) := r2
    refine wpAny_truthy_bool ?_
    by_cases e : y = z
    · have ed : decide (V.str y = V.str z) = true := decide_eq_true (by rw [e])
      rw [if_pos ⟨e, by rw [← hlen, hn, hcap.len]⟩] at h
      rw [ed, if_pos rfl]
      refine caps_each hcap hn ?_
      exact caps_assign hN hcap rr hn I2 fun s3 I3 => hb.run pins s3 _ H D I3 h
    · have ed : decide (V.str y = V.str z) = false := decide_eq_false (fun q => e (V.str.inj q))
      rw [if_neg (fun q => e q.1)] at h
      rw [ed, if_neg (by simp)]
      exact hr.run false pins s2 σ H D (.ref a) _ I2 rfl h
  · refine matchSeq_tuple_miss ht hfit (by rw [hl]; simpa using hn) ?_ hstar rfl
    rw [if_neg (fun q => hn (by rw [hlen, q.2, hcap.len]))] at h
    exact hr.run false pins _ σ H D (.ref a) _ (I.tok _) rfl h
end
end HM
namespace HC
open PySem PySem.Spec PyProof.Rows L2
section
variable {J : It} {n : Nat} {G : Hp → Prop} {Y : Nat → Hp → V → Hp → Prop}
/-- any walk, any body: for the two clauses of a comprehension -/
theorem wk_it (w : Walk J n G Y) {B : V → Hp → (Hp → Prop) → Prop} {H0 : Hp} {Qd : Hp → Prop} (Pv : Nat → Hp → Prop) (h0 : Pv 0 H0) (hG : ∀ i H, i ≤ n → Pv i H → G H)
    (hs : ∀ i x H H', i < n → Pv i H → Y i H x H' → B x H' (Pv (i + 1))) (hd : ∀ H, Pv n H → Qd H) :
    ∃ W : Nat → Nat → Hp → Prop, (∃ m, W 0 m H0) ∧ ∀ i m H, W i m H →
      (J.stop i H ∧ Qd H) ∨ (J.go i H ∧ ∃ Nx : Hp → Prop, (∀ H', Nx H' → ∃ m', m' < m ∧ W (i + 1) m' H') ∧ ∀ x H', J.yld i H x H' → B x H' Nx) := by
  refine ⟨fun i m H => m = n - i ∧ i ≤ n ∧ Pv i H, ⟨n, by simp, Nat.zero_le _, h0⟩, ?_⟩
  rintro i m H ⟨rfl, hi, p⟩
  have q := hG i H hi p
  by_cases hlt : i < n
  · exact .inr ⟨w.goes i H hlt q, Pv (i + 1), fun H' p' => ⟨n - (i + 1), by omega, rfl, hlt, p'⟩, fun x H' y => hs i x H H' hlt p (w.yields i H x H' hlt q y)⟩
  · obtain rfl : i = n := by omega
    exact .inl ⟨w.stops H q, hd H p⟩
end
theorem yes {f : Bool → Hp → Prop} {σ : L2.St} {H : Hp} (h : f true H) : tYes σ H f := h
theorem pi_zipK {K : PySem.W.Frag} {X : Cx} {e e2 : Expr} {ta : TA} {p pos tpos : Pos} {elts : List Expr} {kk : Nat} (hK : X.K = K) (hg : Gl X "zip") (hm : X.mg "zip" = none) (ha : PA X [e, e2] ta)
    (hs : starEach [e, e2] X.env = (false, eval e X.env) :: starEach [e2] X.env := by rfl) (hpl : (backTo pos (starEach [e2] X.env)).any (·.1) = false := by rfl) :
    PI X (.Tuple elts kk tpos) (.Call (.Name "zip" p) [e, e2] [] pos) (iZip K ta) := by
  subst hK
  exact pi_zip hg hm ha hs hpl
theorem pi_listK {K : PySem.W.Frag} {X : Cx} {e tg : Expr} {t : TE} (hK : X.K = K) (h : PI X tg e (iList X.K t)) : PI X tg e (iList K t) := by
  subst hK
  exact h
theorem op_ltTK {K : PySem.W.Frag} {X : Cx} (hK : X.K = K) (hu : X.A.units < cLine) : OpR X (compareOp .Lt) (rLtT K) := by
  subst hK
  exact op_ltT hu
end HC
/-! list.extend of a tuple -/
namespace HK
open PySem PySem.Spec PyProof.Rows L2 SX
open AutoSeq1
theorem ext_tup (l : Addr) (us : Array Value) (n : Nat) (b : Addr) (vs : Array Value) (m : Nat) (od : Option Addr) (sl : Array (Option Value)) (h0 : ¬ (!us.isEmpty && Builtin.List.listTooLong (us.size + vs.size)) = true) (h1 : us.size ≤ sizeLine) (h2 : us.size + vs.size ≤ sizeLine + 1) :
    Meets (Builtin.«list.extend» ⟨[.ref l, .ref b], []⟩) (fun _ R s => (s.heap.get? l = some { cls := .type "list", dict := none, data := .seq us n, slots := #[] } ∧ s.heap.get? b = some { cls := .type "tuple", dict := od, data := .seq vs m, slots := sl }) ∧
      R (.ok (.ret Value.none)) { s with heap := s.heap.update l (Obj.mapSeq fun x => x ++ vs), toks := s.toks }) :=
  .of_wp fun prog w A R s h => by
    obtain ⟨hp, g, d, tk, os⟩ := s
    obtain ⟨⟨hl, hb⟩, h⟩ := h
    have f1 := idx_int
    have f2 := AutoSeq1.sub_tuple_tuple
    have f3 := AutoSeq1.sub_list_list
    have f4 := AutoSeq1.sub_tuple_list
    have f5 := AutoSeq1.sub_list_tuple
    have hz' : (us ++ vs).size ≤ sizeLine + 1 := by
      rw [Array.size_append]
      exact h2
    wp_walk using (wpAny_updateSeq hl rfl (hz := h1) (_hz' := hz')), wpAny_loadPart' hl, wpAny_loadPart' hb
    exact ⟨_, rfl, h⟩
section
variable {X : Cx}
def rExtT (K : PySem.W.Frag) : V → List V → Hp → VK → Prop := fun x vs H Q => ∃ l b xs zs, x = .ref l ∧ vs = [.ref b] ∧ H l = some (.lst xs) ∧ SqT K H b zs ∧ xs.length + zs.length ≤ sizeLine ∧ Q .non (upd H l (.lst (xs ++ zs)))
theorem mt_extendT : MtM X "list.extend" (rExtT X.K) := by
  intro pins s σ H x vs v us Q I rx rv h
  obtain ⟨l, b, xs, zs, rfl, rfl, hH, hB, hz, q⟩ := h
  cases rx
  obtain ⟨u, rfl, ru⟩ := rv.one
  cases ru
  obtain ⟨z, its, n, r, hl, e⟩ := I.lstM hH
  obtain ⟨its2, r2, ⟨⟨oc, od, dt, sl⟩, hb, hc, m, hd⟩, z2⟩ := I.tuple hB
  cases hc
  cases hd
  have e1 := r.length
  have e2 := r2.length
  have hsz : its.toArray.size + its2.toArray.size ≤ sizeLine := by
    rw [List.size_toArray, List.size_toArray]
    omega
  have hlong : ¬ (!its.toArray.isEmpty && Builtin.List.listTooLong (its.toArray.size + its2.toArray.size)) = true := by
    rw [notLongL hsz, Bool.and_false]
    decide
  refine call_meets F.slot_list_extend ⟨_, e, rfl⟩ F.entry_list_extend (F.args_list_extend_2 _ _) (ext_tup l its.toArray n b its2.toArray m od sl hlong (by omega) (by omega)) ⟨⟨e, hb⟩, .non, _, I.lset (its' := its ++ its2) hH e (by simp) (r.append r2) (by rw [List.length_append]; omega), rfl, q⟩
theorem op_in_kdK {K : PySem.W.Frag} {w : World} {d : Addr} {es : Array DictEntry} {n : Nat} (hK : X.K = K) (hw : X.w = w) (D : KDict K w d es n) : OpR X (compareOp .In) (fun x y H Q => ∃ (z : Str) (r : Option Value), x = .str z ∧ y = .ref d ∧ PySem.W.nsIn K d z = some r ∧ Q (.bl r.isSome) H) := by
  subst hK
  subst hw
  exact op_in_kd D
theorem ix_kdictK {K : PySem.W.Frag} {w : World} (hK : X.K = K) (hw : X.w = w) : IxR X (rIxD K w) := by
  subst hK
  subst hw
  exact ix_kdict
theorem pi_tupK {K : PySem.W.Frag} {tg l : Expr} {tl : TE} (hK : X.K = K) (hl : PE X l tl) : PI X tg l (iTup K tl) := by
  subst hK
  exact pi_tup hl
end
end HK
namespace KX
open PySem PySem.Spec PyProof.Rows L2 SX HL
/-! ### more rules within comprehensions: K is told -/
section
variable {X : Cx} {K : PySem.W.Frag}
theorem pa_starK {e : Expr} {es : List Expr} {te : TE} {t : TA} {p : Pos} (h : X.K = K) (he : PE X e te) (hr : PA X es t) (hs : starEach (.Starred e p :: es) X.env = (true, eval e X.env) :: starEach es X.env := by rfl) : PA X (.Starred e p :: es) (StX.tStar K te t) := by
  subst h
  exact StX.pa_star he hr hs
theorem call_tuple_ofK (h : X.K = K) : CallR X (.type "tuple") (fun xs H Q => ∃ p ys, xs = [.ref p] ∧ ((SqL K H p ys ∧ ∀ l, H l = none → Q (.ref l) (upd H l (.tup ys))) ∨ (SqT K H p ys ∧ Q (.ref p) H))) := by
  subst h
  exact call_tuple_of
theorem pe_fldK {e : Expr} {ta : TE} {f : Str} {pos : Pos} (h : X.K = K) (he : PE X e ta) (hb : attributeBase e f X.env (eval e X.env) = eval e X.env) : PE X (.Attribute e f pos) (tFld K ta f) := by
  subst h
  exact pe_fld he hb
theorem op_catTK (h : X.K = K) : OpR X (binaryOp .Add) (rCatT K) := by
  subst h
  exact op_catT
end
end KX
namespace HR
open PySem PySem.Spec PyProof.Rows L2 SX HL
section
variable {X : Cx} {e : Expr} {te ts : TE} {p2 pos p3 p4 : Pos} {kk : Nat}
theorem vals_reverse {xs : List V} {us : List Value} (r : Vals xs us) : Vals xs.reverse us.reverse := by
  induction r with
  | nil => exact .nil
  | @cons x u xs us h r ih =>
    rw [List.reverse_cons, List.reverse_cons]
    exact ih.append (.cons h .nil)
/-- xs[::-1] of a list -/
def tRevL (K : PySem.W.Frag) (te ts : TE) : TE := fun σ H Q => te σ H fun x H1 => ts σ H1 fun y H2 => y = .int (-1) ∧ ∃ a xs, x = .ref a ∧ SqL K H2 a xs ∧ ∀ p, H2 p = none → Q (.ref p) (upd H2 p (.lst xs.reverse))
theorem pe_revL (he : PE X e te) (hst : PE X (.UnaryOp .USub (.Constant (.int 1) kk p4) p3) ts) : PE X (.Subscript e (.Slice none none (some (.UnaryOp .USub (.Constant (.int 1) kk p4) p3)) p2) pos) (tRevL X.K te ts) := by
  refine ⟨fun pins s σ H Q I0 h0 => Subscript_ (thn (he.run pins s σ H _ I0 h0) fun v s1 ⟨x, H1, I1, r1, q1⟩ => wpAny_Slice ?_)⟩
  rw [evalPart_none]
  refine wpAny_pure ?_
  refine wpAny_pure ?_
  rw [evalPart_some]
  refine thn (hst.run pins s1 σ H1 _ I1 q1) fun w s2 ⟨y, H2, I2, r2, q2⟩ => ?_
  obtain ⟨rfl, a, xs, rfl, hx, q⟩ := q2
  obtain ⟨t, rfl⟩ := r2
  obtain rfl : v = Value.ref a := r1
  have I4 : Inv X pins σ H2 { s2 with heap := s2.heap.push { cls := .type "slice", data := .fields #[.none, .none, .int (-1) t] } } := I2.kept (t' := s2.toks) fun b ob g => Heap.get?_push_of_some _ g
  obtain ⟨its, r, pl, hz⟩ := I4.list hx
  have hlen := r.length
  refine tail_any (ops := [.ref a, .ref s2.heap.objs.size]) pl.isList.typeIs slot_list_getitem.lookup ?_ (by with_unfolding_all rfl)
  refine wpAny_getItem_list_slice (lo := none) (hi := none) (st := some (-1)) pl.isList (Heap.IsSliceOf.new ..) .none .none (.int (-1) t) (by decide) ?_ (by rw [List.size_toArray]; omega)
  rw [PySem.W.krv_pick]
  refine ⟨.ref _, _, I4.laid (t' := s2.toks) (o := .lst xs.reverse) (fun b ob g => Heap.get?_push_of_some _ g) (Nat.le_refl _) ?_, rfl, q _ (I4.hok.fresh (Nat.le_refl _))⟩
  exact ⟨by rw [List.length_reverse]; omega, _, 0, vals_reverse r, Heap.get?_push_size _ rfl⟩
end
end HR
namespace TG
open PySem PySem.Spec PyProof.Rows L2 SX HL
/-- a tuple that the top has written -/
theorem sqt_tup {K : PySem.W.Frag} {a : Addr} {od : Option Addr} {its : List Value} {n : Nat} {sl : Array (Option Value)} {xs : List V} (h : K.lookup a = some ⟨.type "tuple", od, .seq its.toArray n, sl⟩) (hs : its.toArray.size ≤ sizeLine) (hv : Vals xs its.toArray.toList) (H : Hp) : SqT K H a xs :=
  .inr ⟨_, its.toArray, n, h, rfl, rfl, hs, hv⟩
end TG
namespace HL
open PySem PySem.Spec PyProof.Rows L2 SX
theorem op_in_seqK {X : Cx} {K : PySem.W.Frag} (h : X.K = K) : OpR X (compareOp .In) (rIn K false) := by
  subst h
  exact op_in_seq
theorem op_notIn_seqK {X : Cx} {K : PySem.W.Frag} (h : X.K = K) : OpR X (compareOp .NotIn) (rIn K true) := by
  subst h
  exact op_notIn_seq
end HL
namespace XI
open PySem PySem.Spec PyProof.Rows L2
/-- isinstance(e, c), e what the suite holds, of whichever class -/
def rIsX (K : PySem.W.Frag) (cls : Value) (d : Option Addr) (a : Addr) : List V → Hp → VK → Prop := fun xs H Q => ∃ (D : Addr) (c : V) (cv : Value) (b : Bool), cls = .ref D ∧ d = none ∧ ExcC K D ∧ xs = [.ref a, c] ∧ (∀ u, RelV c u → u = cv) ∧ PySem.W.kitOne K (.ref D) cv = some b ∧ Q (.bl b) H
theorem call_isX {K : PySem.W.Frag} {X : Cx} {a : Addr} {oe : Obj} {pn : List (Addr × Obj)} {cls : Value} {d : Option Addr} (hK : X.K = K) (hz : Zc cls d oe) (hf : ∃ vs, oe.data = .fields vs) : CallR (X.suite a ((a, oe) :: pn)) (.builtin "isinstance") (rIsX K cls d a) := by
  subst hK
  intro pins s σ H xs us Q I r h
  obtain ⟨D, c, cv, b, rfl, rfl, C, rfl, hcv, e, q⟩ := h
  exact call_isE C hz hf pins s σ H _ us Q I r ⟨c, cv, b, rfl, hcv, e, q⟩
end XI
namespace XI
open PySem PySem.Spec PyProof.Rows L2
/-- a class is caught by the name of one above it -/
theorem exm_of2 {K : PySem.W.Frag} {S C : Addr} (h1 : PySem.W.subIn K (.ref C) (.type "BaseException") = some true) (h2 : PySem.W.isClsIn K C = true) (h3 : PySem.W.typeIn K (.ref C) = some (.type "type")) (h4 : PySem.W.subIn K (.ref S) (.ref C) = some true) :
    PySem.W.exmOne K (.ref S) (.ref C) = some true := by
  have e1 : (PySem.W.subIn K (.ref C) (.type "BaseException") == some true) = true := by rw [h1] <;> rfl
  have e2 : ((PySem.W.clsIn K C).isSome && PySem.W.typeIn K (.ref C) == some (.type "type")) = true := by
    have h2' : (PySem.W.clsIn K C).isSome = true := h2
    rw [h2', h3] <;> rfl
  show (if (PySem.W.subIn K (.ref C) (.type "BaseException") == some true) = true then (if ((PySem.W.clsIn K C).isSome && PySem.W.typeIn K (.ref C) == some (.type "type")) = true then PySem.W.subIn K (.ref S) (.ref C) else none) else none) = some true
  rw [if_pos e1, if_pos e2]
  exact h4
end XI
/-! enumerate(tuple) -/
namespace ET
open PySem PySem.Spec PyProof.Rows L2 SX
open AutoSeq1 (wpAny_loadPart')
theorem meets_tup (t : Addr) (items : Array Value) (n : Nat) (dct : Option Addr) (sl : Array (Option Value)) :
    Meets (Builtin.«enumerate.__new__» ⟨[.type "enumerate", .ref t], []⟩) (fun _ R s => s.heap.get? t = some ⟨.type "tuple", dct, .seq items n, sl⟩ ∧
      R (.ok (.ret (.ref (s.heap.push { cls := .type "tuple_iterator", data := .fields #[.ref t, .int 0 0] }).objs.size))) { s with heap := (s.heap.push { cls := .type "tuple_iterator", data := .fields #[.ref t, .int 0 0] }).push { cls := .type "enumerate", data := .fields #[.none, .bool false, .ref s.heap.objs.size, rawInt 0, .none, .none] } }) :=
  .of_wp fun prog w A R s h => by
    obtain ⟨hp, g, dr, tk, os⟩ := s
    obtain ⟨ho, h⟩ := h
    have hsub := sub_enumerate
    have ik2 : ∀ {A : Around} {E : Value → Shared → Prop} {Q : Value → Shared → Prop}, Q (.ref hp.objs.size) ⟨hp.push { cls := .type "tuple_iterator", data := .fields #[.ref t, .int 0 0] }, g, dr, tk, os⟩ → wpAny (model prog w) A (pyIter (.ref t)) Q E ⟨hp, g, dr, tk, os⟩ := fun q => wpAny_pyIter_tuple ⟨_, ho, rfl, n, rfl⟩ q
    wp_walk using wpAny_loadPart' ho
    refine wpAny_stack_any fun st => wpAny_pure ?_
    split
    · rename_i c _ _ _ _ _
      cases (c == Value.type "enumerate") <;> (wp_walk using wpAny_loadPart' ho, ik2; exact ⟨_, rfl, h⟩)
    · wp_walk using wpAny_loadPart' ho, ik2
      exact ⟨_, rfl, h⟩
/-- (0, first), (1, the next), ..: the tuple at a, of n items -/
def ItET (K : PySem.W.Frag) (a : Addr) (n : Nat) : It :=
  ⟨fun i H => i < n ∧ ∃ xs, SqT K H a xs ∧ xs.length = n, fun i H v H' => ∃ T x, v = .ref T ∧ H T = none ∧ H' = upd H T (.tup [.int (i : Nat), x]) ∧ ∀ xs, SqT K H a xs → xs[i]? = some x, fun i H => n ≤ i ∧ ∃ xs, SqT K H a xs ∧ xs.length = n⟩
theorem turn_et {P : Program} {w : World} {K : PySem.W.Frag} {elts : List Expr} {kk : Nat} {tpos : Pos} {a : Addr} {n : Nat} (e it : Addr) (hai : a ≠ it) (hae : a ≠ e) :
    Turn P w K (.Tuple elts kk tpos) (ItET K a n) [e, it] e (fun i h => (∃ old, IsEnum h e it ((i : Nat) : Int) old) ∧ h.IsTupleIter it a i ∧ e ≠ it ∧ i ≤ n) where
  mem := by simp
  obj := fun i h st b hb => by
    obtain ⟨⟨old, he⟩, ⟨o', ho, hc, hd⟩, _⟩ := st
    rcases (show b = e ∨ b = it by simpa using hb) with z | z
    · rw [z]; exact ⟨_, he, fun v q => nomatch q⟩
    · rw [z]; exact ⟨o', ho, fun v q => by rw [hd] at q; cases q⟩
  keep := fun i h h' st k => let ⟨⟨old, he⟩, hi, hne, hle⟩ := st; ⟨⟨old, k e (by simp) _ he⟩, hi.at fun o q => k it (by simp) o q, hne, hle⟩
  item := by
    intro X hP hw hK hc i pins s σ H E I hf st hg
    subst hP hw hK
    obtain ⟨⟨old, he⟩, hit, hne, hle⟩ := st
    obtain ⟨hi, xs, hq, hxl⟩ := hg
    obtain ⟨its, rv, p, hz⟩ := I.tuple hq
    have hlen : its.toArray.size = n := by rw [List.size_toArray, ← rv.length, hxl]
    have hel : e < s.heap.objs.size := Heap.lt_size he
    have hil : it < s.heap.objs.size := by obtain ⟨_, q, _⟩ := hit; exact Heap.lt_size q
    have D := Draws.tuple (prog := X.prog) (w := X.w) (A := X.A.in1) (I.ok.hd hc) it a hai its.toArray
    refine wpAny_pyNext_enum_itemD D he ⟨hit, p⟩ (by omega) hne (by simp [hne, Ne.symm hae]) fun x h' tk hP ho st' hT hsz' hk => ?_
    refine ⟨_, rfl, wpAny_letOwnedTupleGo_enum (s := { s with heap := h', toks := tk + 1 }) ho fun h'' he' sb => ?_⟩
    have hT2 : h''.get? s.heap.objs.size = some { cls := .type "tuple", data := .seq #[.int i tk, x] } := (sb.2 _ (Nat.ne_of_gt hel)).trans hT
    have hP' : its[i]? = some x := by
      have h1 : its.toArray[i]? = some x := hP
      simpa using h1
    obtain ⟨v, hv, rk⟩ : ∃ v, xs[i]? = some v ∧ RelV v x := by
      have hlt : i < xs.length := by omega
      obtain ⟨u, hu, ru⟩ := rv.get (List.getElem?_eq_getElem hlt)
      rw [hP'] at hu
      cases hu
      exact ⟨_, List.getElem?_eq_getElem hlt, ru⟩
    have new : ObjOk X.prog X.w (upd H s.heap.objs.size (.tup [.int (i : Nat), v])) h'' s.heap.objs.size (.tup [.int (i : Nat), v]) :=
      ⟨by show 2 ≤ sizeLine; decide, [.int i tk, x], .cons ⟨_, rfl⟩ (.cons rk .nil), ⟨_, hT2, rfl, _, rfl⟩⟩
    have I1 : Inv X pins σ (upd H s.heap.objs.size (.tup [.int (i : Nat), v])) { s with heap := h'', toks := tk + 1 } :=
      I.turnedNew (ch := [e, it]) (fun b ob hb q => (sb.2 b (fun z => hb (by simp [z]))).trans (hk b ob (fun z => hb (by simp [z])) (fun z => hb (by simp [z])) q)) hf (Nat.le_refl _) new
    refine ⟨.ref s.heap.objs.size, _, I1, rfl, ⟨_, v, rfl, I.hok.fresh (Nat.le_refl _), rfl, fun ys hy => by rw [I.tuple_inj hy hq]; exact hv⟩, ⟨⟨x, ?_⟩, ?_, hne, by omega⟩, fun b hb => ?_⟩
    · have e1 : ((i + 1 : Nat) : Int) = (i : Int) + 1 := by omega
      rw [e1]; exact he'
    · exact st'.1.at fun o q => (sb.2 it (Ne.symm hne)).trans q
    · have hb' : b < s.heap.objs.size := by
        rcases (show b = e ∨ b = it by simpa using hb) with z | z
        · rw [z]; exact hel
        · rw [z]; exact hil
      rw [upd_ne (Nat.ne_of_lt hb')]
      exact (hf b hb).1
  done := by
    intro X hP hw hK hc i pins s σ H E I hf st hg
    subst hP hw hK
    obtain ⟨⟨old, he⟩, hit, hne, hle⟩ := st
    obtain ⟨hi, xs, hq, hxl⟩ := hg
    obtain ⟨its, rv, p, hz⟩ := I.tuple hq
    have hlen : its.toArray.size = n := by rw [List.size_toArray, ← rv.length, hxl]
    obtain ⟨f0, f1, f2, f3, f4, f5⟩ := hf it (by simp)
    have D := Draws.tuple (prog := X.prog) (w := X.w) (A := X.A.in1) (I.ok.hd hc) it a hai its.toArray
    have ei : i = its.toArray.size := by omega
    rw [ei] at hit
    exact wpAny_pyNext_enum_endD D he ⟨hit, p⟩ fun h' eb => ⟨rfl, I.turned (t' := s.toks) (fun b o hb q => eb b o hb q) f0 f1 f3 f4 f5⟩
  self := fun A i s Q E st h => let ⟨⟨_, he⟩, _⟩ := st; wpAny_pyIter_enum he h
def iEnumT (K : PySem.W.Frag) (ta : TA) : TI := fun σ H R => ta σ H fun vs H1 => ∃ (a : Addr) (xs : List V), vs = [.ref a] ∧ SqT K H1 a xs ∧ R (ItET K a xs.length) H1
theorem call_enum_tup {prog : Program} {w : World} {A : Around} {E : Value → Shared → Prop} {s : Shared} {t : Addr} {items : Array Value} {Q : Value → Shared → Prop} (hL : s.heap.IsTuple t items)
    (h : ∀ h', IsEnum h' (s.heap.objs.size + 1) s.heap.objs.size 0 .none → h'.IsTupleIter s.heap.objs.size t 0 → h'.objs.size = s.heap.objs.size + 2 →
      (∀ b o, s.heap.get? b = some o → h'.get? b = some o) → Q (.ref (s.heap.objs.size + 1)) { s with heap := h' }) :
    wpAny (model prog w) A (call (.type "enumerate") [.ref t]) Q E s := by
  obtain ⟨⟨c, dct, dt, sl⟩, hl, hc, n, hd⟩ := hL
  replace hc : c = .type "tuple" := hc
  replace hd : dt = .seq items n := hd
  subst hc hd
  refine callType_new F.called_enumerate (by decide) (F.typeCall_enumerate_1 _) (F.newCall_enumerate_1 _) (fun obj => F.args_object_init_2 obj _) F.entry_enumerate_new (meets_tup t items n dct sl) ⟨hl, ?_⟩
  have hz : (s.heap.push { cls := .type "tuple_iterator", data := .fields #[.ref t, .int 0 0] }).objs.size = s.heap.objs.size + 1 := Heap.size_push ..
  show _ ∧ _
  rw [hz]
  have he : IsEnum ((s.heap.push { cls := .type "tuple_iterator", data := .fields #[.ref t, .int 0 0] }).push { cls := .type "enumerate", data := .fields #[.none, .bool false, .ref s.heap.objs.size, rawInt 0, .none, .none] }) (s.heap.objs.size + 1) s.heap.objs.size 0 .none := by
    have := Heap.get?_push_size (s.heap.push { cls := .type "tuple_iterator", data := .fields #[.ref t, .int 0 0] }) (o := { cls := .type "enumerate", data := .fields #[.none, .bool false, .ref s.heap.objs.size, rawInt 0, .none, .none] }) rfl
    rw [hz] at this
    exact this
  exact ⟨⟨_, he, rfl⟩, h _ he ⟨_, Heap.get?_push_of_some _ (Heap.get?_push_size _ rfl), rfl, rfl⟩ (by rw [Heap.size_push, hz]) fun b o x => Heap.get?_push_of_some _ (Heap.get?_push_of_some _ x)⟩
/-- enumerate(x), x a tuple -/
theorem pi_enumT {X : Cx} {e : Expr} {ta : TA} {p pos tpos : Pos} {elts : List Expr} {kk : Nat} (hg : Gl X "enumerate") (hm : X.mg "enumerate" = none) (ha : PA X [e] ta) (hs : starEach [e] X.env = [(false, eval e X.env)] := by rfl) :
    PI X (.Tuple elts kk tpos) (.Call (.Name "enumerate" p) [e] [] pos) (iEnumT X.K ta) := by
  refine ⟨fun pins s σ H R I h => ?_⟩
  refine Call_ (ld_blt I hg hm boot_enumerate (PyProof.Rows.callWith_type1 (thn (ha.run pos pins s σ H _ I h) fun us s1 ⟨vs, H1, I1, r1, q1⟩ => ?_) hs rfl))
  obtain ⟨a, xs, ex, hq, q⟩ := q1
  subst ex
  cases r1 with
  | cons r rr =>
    cases rr
    cases r
    obtain ⟨its, rv, p', hz⟩ := I1.tuple hq
    have hal : a < s1.heap.objs.size := by obtain ⟨o, ho, _⟩ := p'; exact Heap.lt_size ho
    refine call_enum_tup p' fun h' he hit hsz hk => wpAny_pyIter_enum he ?_
    have I2 : Inv X pins σ H1 { s1 with heap := h' } := I1.kept (t' := s1.toks) hk
    refine ⟨s1.heap.objs.size + 1, [s1.heap.objs.size + 1, s1.heap.objs.size], _, _, H1, rfl, I2, turn_et (a := a) (n := xs.length) (s1.heap.objs.size + 1) s1.heap.objs.size (Nat.ne_of_lt hal) (Nat.ne_of_lt (Nat.lt_succ_of_lt hal)), ⟨⟨.none, he⟩, hit, Nat.succ_ne_self _, Nat.zero_le _⟩, fun b hb => ?_, q⟩
    have hle : s1.heap.objs.size ≤ b := by
      rcases (show b = s1.heap.objs.size + 1 ∨ b = s1.heap.objs.size by simpa using hb) with z | z
      · rw [z]; exact Nat.le_add_right _ _
      · rw [z]; exact Nat.le_refl _
    exact I1.fpOk hle (I1.hok.fresh hle)
theorem pi_enumTK {K : PySem.W.Frag} {X : Cx} {e : Expr} {ta : TA} {p pos tpos : Pos} {elts : List Expr} {kk : Nat} (hK : X.K = K) (hg : Gl X "enumerate") (hm : X.mg "enumerate" = none) (ha : PA X [e] ta) (hs : starEach [e] X.env = [(false, eval e X.env)] := by rfl) :
    PI X (.Tuple elts kk tpos) (.Call (.Name "enumerate" p) [e] [] pos) (iEnumT K ta) := by
  subst hK
  exact pi_enumT hg hm ha hs
theorem walk_et {K : PySem.W.Frag} {a : Addr} {xs : List V} : Walk (ItET K a xs.length) xs.length (fun H => SqT K H a xs) (YPair (fun i => some (.int (i : Nat))) (fun i => xs[i]?)) := by
  refine ⟨fun i H hi q => ⟨hi, xs, q, rfl⟩, fun H q => ⟨Nat.le_refl _, xs, q, rfl⟩, fun i H v H' _ q y => ?_⟩
  obtain ⟨T, x, h1, h2, h3, h4⟩ := y
  exact ⟨T, .int (i : Nat), x, h1, h2, h3, rfl, h4 xs q⟩
theorem pi_listK {X : Cx} {tg l : Expr} {tl : TE} {K : PySem.W.Frag} (hK : X.K = K) (hl : PE X l tl) : PI X tg l (iList K tl) := by
  subst hK
  exact pi_list hl
/-- a list or a tuple -/
def iSeq (K : PySem.W.Frag) (tl : TE) : TI := fun σ H R => tl σ H fun x H1 => ∃ a xs, x = .ref a ∧ ((SqL K H1 a xs ∧ R (Itl K a) H1) ∨ (SqT K H1 a xs ∧ R (Itt K a) H1))
theorem pi_seqK {X : Cx} {tg l : Expr} {tl : TE} {K : PySem.W.Frag} (hK : X.K = K) (hl : PE X l tl) : PI X tg l (iSeq K tl) := by
  subst hK
  refine ⟨fun pins s σ H R I h => ?_⟩
  refine thn (hl.run pins s σ H _ I h) fun v s1 ⟨x, H1, I1, r1, q1⟩ => ?_
  obtain ⟨a, xs, e, q⟩ := q1
  subst e
  cases r1
  rcases q with ⟨hq, q⟩ | ⟨hq, q⟩
  · obtain ⟨its, rv, p, hz⟩ := I1.list hq
    refine wpAny_pyIter_list p.isList ?_
    refine ⟨s1.heap.objs.size, [s1.heap.objs.size], _, _, H1, rfl, I1.kept (t' := s1.toks) fun b o e => Heap.get?_push_of_some _ e, turn_list a _, ⟨_, Heap.get?_push_size _ rfl, rfl, rfl⟩, fun b hb => ?_, q⟩
    have e : b = s1.heap.objs.size := by simpa using hb
    subst e
    exact I1.fpOk (Nat.le_refl _) (I1.hok.fresh (Nat.le_refl _))
  · obtain ⟨its, rv, p, hz⟩ := I1.tuple hq
    refine wpAny_pyIter_tuple (show s1.heap.IsTuple a its.toArray from p) ?_
    refine ⟨s1.heap.objs.size, [s1.heap.objs.size], _, _, H1, rfl, I1.kept (t' := s1.toks) fun b o e => Heap.get?_push_of_some _ e, turn_tuple a _, ⟨_, Heap.get?_push_size _ rfl, rfl, rfl⟩, fun b hb => ?_, q⟩
    have e : b = s1.heap.objs.size := by simpa using hb
    subst e
    exact I1.fpOk (Nat.le_refl _) (I1.hok.fresh (Nat.le_refl _))
end ET
namespace Q11
open PySem PySem.Spec PyProof.Rows L2 SX HL
def topS (i : Nat) : Stmt := PySem.Challenge.pw_quillrun_k11_names_made_and_used.main.body.getD i (.Pass ⟨0, 0, 0, 0⟩)
abbrev sParts : Stmt := topS 1
theorem scParts : FnScope ["e", "items", "arguments", "first", "second", "condition", "whole", "arms", "arm"] ["e"] (defScope sParts) := ⟨rfl, rfl, rfl, by decide +kernel, rfl, by decide +kernel, by decide +kernel⟩
abbrev sExpressions : Stmt := topS 2
theorem scExpressions : FnScope ["definition", "e", "settings", "setting"] ["definition"] (defScope sExpressions) := ⟨rfl, rfl, rfl, by decide +kernel, rfl, by decide +kernel, by decide +kernel⟩
abbrev sKinds : Stmt := topS 3
theorem scKinds : FnScope ["definition", "makers", "kind", "_", "fields", "field"] ["definition"] (defScope sKinds) := ⟨rfl, rfl, rfl, by decide +kernel, rfl, by decide +kernel, by decide +kernel⟩
abbrev sBound : Stmt := topS 4
theorem scBound : FnScope ["e", "name", "item", "rest", "arms", "arm", "_"] ["e"] (defScope sBound) := ⟨rfl, rfl, rfl, by decide +kernel, rfl, by decide +kernel, by decide +kernel⟩
abbrev sParameters : Stmt := topS 5
theorem scParameters : FnScope ["definition"] ["definition"] (defScope sParameters) := ⟨rfl, rfl, rfl, by decide +kernel, rfl, by decide +kernel, by decide +kernel⟩
abbrev sMakes : Stmt := topS 8
theorem scMakes : FnScope ["definition", "name", "maker", "_"] ["definition"] (defScope sMakes) := ⟨rfl, rfl, rfl, by decide +kernel, rfl, by decide +kernel, by decide +kernel⟩
abbrev sMakersUsed : Stmt := topS 9
theorem scMakersUsed : FnScope ["definition", "found", "e", "words", "is_maker", "word"] ["definition"] (defScope sMakersUsed) := ⟨rfl, rfl, rfl, by decide +kernel, rfl, by decide +kernel, by decide +kernel⟩
abbrev sUses : Stmt := topS 10
theorem scUses : FnScope ["definition", "makers", "used", "cells", "place", "e", "is_maker", "word", "_", "base", "cell"] ["definition", "makers"] (defScope sUses) := ⟨rfl, rfl, rfl, by decide +kernel, rfl, by decide +kernel, by decide +kernel⟩
abbrev sEachOnce : Stmt := topS 11
theorem scEachOnce : FnScope ["words", "word"] ["words"] (defScope sEachOnce) := ⟨rfl, rfl, rfl, by decide +kernel, rfl, by decide +kernel, by decide +kernel⟩
abbrev sMentioned : Stmt := topS 12
theorem scMentioned : FnScope ["e", "local", "found", "part", "names"] ["e", "local"] (defScope sMentioned) := ⟨rfl, rfl, rfl, by decide +kernel, rfl, by decide +kernel, by decide +kernel⟩
abbrev sMentionedAtStart : Stmt := topS 13
theorem scMentionedAtStart : FnScope ["e", "local", "name", "maker"] ["e", "local"] (defScope sMentionedAtStart) := ⟨rfl, rfl, rfl, by decide +kernel, rfl, by decide +kernel, by decide +kernel⟩
abbrev sMentionedInMatch : Stmt := topS 14
theorem scMentionedInMatch : FnScope ["e", "local", "_", "whole", "arms", "found", "maker", "names", "arm"] ["e", "local"] (defScope sMentionedInMatch) := ⟨rfl, rfl, rfl, by decide +kernel, rfl, by decide +kernel, by decide +kernel⟩
abbrev sLawMix : Stmt := topS 16
theorem scLawMix : FnScope ["cell", "k", "value"] ["cell", "k"] (defScope sLawMix) := ⟨rfl, rfl, rfl, by decide +kernel, rfl, by decide +kernel, by decide +kernel⟩
abbrev sLawDraws : Stmt := topS 17
theorem scLawDraws : FnScope ["script", "draws", "k", "cell", "place"] ["script"] (defScope sLawDraws) := ⟨rfl, rfl, rfl, by decide +kernel, rfl, by decide +kernel, by decide +kernel⟩
abbrev sLawAt : Stmt := topS 18
theorem scLawAt : FnScope ["draws", "index"] ["draws", "index"] (defScope sLawAt) := ⟨rfl, rfl, rfl, by decide +kernel, rfl, by decide +kernel, by decide +kernel⟩
abbrev sLawIsInteger : Stmt := topS 19
theorem scLawIsInteger : FnScope ["actual"] ["actual"] (defScope sLawIsInteger) := ⟨rfl, rfl, rfl, by decide +kernel, rfl, by decide +kernel, by decide +kernel⟩
abbrev sLawSame : Stmt := topS 20
theorem scLawSame : FnScope ["actual", "expected", "k"] ["actual", "expected"] (defScope sLawSame) := ⟨rfl, rfl, rfl, by decide +kernel, rfl, by decide +kernel, by decide +kernel⟩
abbrev sLawIsDict : Stmt := topS 21
theorem scLawIsDict : FnScope ["actual", "expected", "key"] ["actual", "expected"] (defScope sLawIsDict) := ⟨rfl, rfl, rfl, by decide +kernel, rfl, by decide +kernel, by decide +kernel⟩
abbrev sLawNext : Stmt := topS 22
theorem scLawNext : FnScope ["state", "limit"] ["state", "limit"] (defScope sLawNext) := ⟨rfl, rfl, rfl, by decide +kernel, rfl, by decide +kernel, by decide +kernel⟩
abbrev sLawLocals : Stmt := topS 23
theorem scLawLocals : FnScope ["local", "known", "name", "kind"] ["local"] (defScope sLawLocals) := ⟨rfl, rfl, rfl, by decide +kernel, rfl, by decide +kernel, by decide +kernel⟩
abbrev sLawKinds : Stmt := topS 24
theorem scLawKinds : FnScope [] [] (defScope sLawKinds) := ⟨rfl, rfl, rfl, by decide +kernel, rfl, by decide +kernel, by decide +kernel⟩
abbrev sLawDrawnKind : Stmt := topS 25
theorem scLawDrawnKind : FnScope ["state"] ["state"] (defScope sLawDrawnKind) := ⟨rfl, rfl, rfl, by decide +kernel, rfl, by decide +kernel, by decide +kernel⟩
abbrev sLawPlan : Stmt := topS 26
theorem scLawPlan : FnScope ["state", "plan", "name", "kinds_v", "k"] ["state"] (defScope sLawPlan) := ⟨rfl, rfl, rfl, by decide +kernel, rfl, by decide +kernel, by decide +kernel⟩
abbrev sLawPlain : Stmt := topS 27
theorem scLawPlain : FnScope ["state", "kind"] ["state", "kind"] (defScope sLawPlain) := ⟨rfl, rfl, rfl, by decide +kernel, rfl, by decide +kernel, by decide +kernel⟩
abbrev sLawTerm : Stmt := topS 28
theorem scLawTerm : FnScope ["state", "plan", "local", "kind", "depth", "steady", "known", "names", "pick", "name"] ["state", "plan", "local", "kind", "depth", "steady"] (defScope sLawTerm) := ⟨rfl, rfl, rfl, by decide +kernel, rfl, by decide +kernel, by decide +kernel⟩
abbrev sLawNames : Stmt := topS 29
theorem scLawNames : FnScope ["state", "count", "names", "start", "found", "k"] ["state", "count"] (defScope sLawNames) := ⟨rfl, rfl, rfl, by decide +kernel, rfl, by decide +kernel, by decide +kernel⟩
abbrev sLawChoice : Stmt := topS 30
theorem scLawChoice : FnScope ["state", "plan", "local", "kind", "depth", "steady", "pick", "other", "first", "second", "name", "head", "tail", "item", "more", "data", "arms", "maker", "kinds_v", "names", "calls", "parts_v", "k", "each"] ["state", "plan", "local", "kind", "depth", "steady"] (defScope sLawChoice) := ⟨rfl, rfl, rfl, by decide +kernel, rfl, by decide +kernel, by decide +kernel⟩
abbrev sLawMade : Stmt := topS 31
theorem scLawMade : FnScope ["state", "plan", "local", "kind", "depth", "steady", "item", "first", "count", "maker", "kinds_v", "operator", "side", "k", "each"] ["state", "plan", "local", "kind", "depth", "steady"] (defScope sLawMade) := ⟨rfl, rfl, rfl, by decide +kernel, rfl, by decide +kernel, by decide +kernel⟩
abbrev sLawDefinition : Stmt := topS 32
theorem scLawDefinition : FnScope ["state", "plan", "name", "form", "turn", "steady", "names", "local", "settings", "cell", "k"] ["state", "plan", "name"] (defScope sLawDefinition) := ⟨rfl, rfl, rfl, by decide +kernel, rfl, by decide +kernel, by decide +kernel⟩
abbrev sLawDefinitions : Stmt := topS 33
theorem scLawDefinitions : FnScope ["state", "plan", "definitions", "name"] ["state"] (defScope sLawDefinitions) := ⟨rfl, rfl, rfl, by decide +kernel, rfl, by decide +kernel, by decide +kernel⟩
abbrev sLawMakes : Stmt := topS 34
theorem scLawMakes : FnScope ["definition", "names", "maker", "kinds_v"] ["definition"] (defScope sLawMakes) := ⟨rfl, rfl, rfl, by decide +kernel, rfl, by decide +kernel, by decide +kernel⟩
abbrev sLawUsedData : Stmt := topS 35
theorem scLawUsedData : FnScope ["kinds_v", "levels", "base"] ["kinds_v"] (defScope sLawUsedData) := ⟨rfl, rfl, rfl, by decide +kernel, rfl, by decide +kernel, by decide +kernel⟩
abbrev sLawUsed : Stmt := topS 36
theorem scLawUsed : FnScope ["e", "local", "makers", "form", "found", "maker", "names", "result", "parts_v", "part"] ["e", "local", "makers"] (defScope sLawUsed) := ⟨rfl, rfl, rfl, by decide +kernel, rfl, by decide +kernel, by decide +kernel⟩
abbrev sLawUses : Stmt := topS 37
theorem scLawUses : FnScope ["definition", "makers", "form", "found", "maker", "kinds_v", "cell", "e", "k"] ["definition", "makers"] (defScope sLawUses) := ⟨rfl, rfl, rfl, by decide +kernel, rfl, by decide +kernel, by decide +kernel⟩
abbrev sLaw : Stmt := topS 38
theorem scLaw : FnScope ["script", "state", "definitions", "makers", "maker", "passed", "definition", "told", "name"] ["script"] (defScope sLaw) := ⟨rfl, rfl, rfl, by decide +kernel, rfl, by decide +kernel, by decide +kernel⟩
/-- what the top has written -/
structure Defs (K : PySem.W.Frag) (mg : Str → Option Value) where
  bool : mg "bool" = none
  dict : mg "dict" = none
  enumerate : mg "enumerate" = none
  int : mg "int" = none
  isinstance : mg "isinstance" = none
  len : mg "len" = none
  list : mg "list" = none
  min : mg "min" = none
  range : mg "range" = none
  str : mg "str" = none
  tuple : mg "tuple" = none
  zip : mg "zip" = none
  fParts : Addr
  fdParts : FuncData
  DParts : DefN K mg "parts" sParts ["e"] fParts fdParts
  fExpressions : Addr
  fdExpressions : FuncData
  DExpressions : DefN K mg "expressions" sExpressions ["definition"] fExpressions fdExpressions
  fKinds : Addr
  fdKinds : FuncData
  DKinds : DefN K mg "kinds" sKinds ["definition"] fKinds fdKinds
  fBound : Addr
  fdBound : FuncData
  DBound : DefN K mg "bound" sBound ["e"] fBound fdBound
  fParameters : Addr
  fdParameters : FuncData
  DParameters : DefN K mg "parameters" sParameters ["definition"] fParameters fdParameters
  fMakes : Addr
  fdMakes : FuncData
  DMakes : DefN K mg "makes" sMakes ["definition"] fMakes fdMakes
  fMakersUsed : Addr
  fdMakersUsed : FuncData
  DMakersUsed : DefN K mg "makers_used" sMakersUsed ["definition"] fMakersUsed fdMakersUsed
  fUses : Addr
  fdUses : FuncData
  DUses : DefN K mg "uses" sUses ["definition", "makers"] fUses fdUses
  fEachOnce : Addr
  fdEachOnce : FuncData
  DEachOnce : DefN K mg "each_once" sEachOnce ["words"] fEachOnce fdEachOnce
  fMentioned : Addr
  fdMentioned : FuncData
  DMentioned : DefN K mg "mentioned" sMentioned ["e", "local"] fMentioned fdMentioned
  fMentionedAtStart : Addr
  fdMentionedAtStart : FuncData
  DMentionedAtStart : DefN K mg "mentioned_at_start" sMentionedAtStart ["e", "local"] fMentionedAtStart fdMentionedAtStart
  fMentionedInMatch : Addr
  fdMentionedInMatch : FuncData
  DMentionedInMatch : DefN K mg "mentioned_in_match" sMentionedInMatch ["e", "local"] fMentionedInMatch fdMentionedInMatch
  fLawMix : Addr
  fdLawMix : FuncData
  DLawMix : DefN K mg "_law_mix" sLawMix ["cell", "k"] fLawMix fdLawMix
  fLawDraws : Addr
  fdLawDraws : FuncData
  DLawDraws : DefN K mg "_law_draws" sLawDraws ["script"] fLawDraws fdLawDraws
  fLawAt : Addr
  fdLawAt : FuncData
  DLawAt : DefN K mg "_law_at" sLawAt ["draws", "index"] fLawAt fdLawAt
  fLawIsInteger : Addr
  fdLawIsInteger : FuncData
  DLawIsInteger : DefN K mg "_law_is_integer" sLawIsInteger ["actual"] fLawIsInteger fdLawIsInteger
  fLawSame : Addr
  fdLawSame : FuncData
  DLawSame : DefN K mg "_law_same" sLawSame ["actual", "expected"] fLawSame fdLawSame
  fLawIsDict : Addr
  fdLawIsDict : FuncData
  DLawIsDict : DefN K mg "_law_is_dict" sLawIsDict ["actual", "expected"] fLawIsDict fdLawIsDict
  fLawNext : Addr
  fdLawNext : FuncData
  DLawNext : DefN K mg "_law_next" sLawNext ["state", "limit"] fLawNext fdLawNext
  fLawLocals : Addr
  fdLawLocals : FuncData
  DLawLocals : DefN K mg "_law_locals" sLawLocals ["local"] fLawLocals fdLawLocals
  fLawKinds : Addr
  fdLawKinds : FuncData
  DLawKinds : DefN K mg "_law_kinds" sLawKinds [] fLawKinds fdLawKinds
  fLawDrawnKind : Addr
  fdLawDrawnKind : FuncData
  DLawDrawnKind : DefN K mg "_law_drawn_kind" sLawDrawnKind ["state"] fLawDrawnKind fdLawDrawnKind
  fLawPlan : Addr
  fdLawPlan : FuncData
  DLawPlan : DefN K mg "_law_plan" sLawPlan ["state"] fLawPlan fdLawPlan
  fLawPlain : Addr
  fdLawPlain : FuncData
  DLawPlain : DefN K mg "_law_plain" sLawPlain ["state", "kind"] fLawPlain fdLawPlain
  fLawTerm : Addr
  fdLawTerm : FuncData
  DLawTerm : DefN K mg "_law_term" sLawTerm ["state", "plan", "local", "kind", "depth", "steady"] fLawTerm fdLawTerm
  fLawNames : Addr
  fdLawNames : FuncData
  DLawNames : DefN K mg "_law_names" sLawNames ["state", "count"] fLawNames fdLawNames
  fLawChoice : Addr
  fdLawChoice : FuncData
  DLawChoice : DefN K mg "_law_choice" sLawChoice ["state", "plan", "local", "kind", "depth", "steady"] fLawChoice fdLawChoice
  fLawMade : Addr
  fdLawMade : FuncData
  DLawMade : DefN K mg "_law_made" sLawMade ["state", "plan", "local", "kind", "depth", "steady"] fLawMade fdLawMade
  fLawDefinition : Addr
  fdLawDefinition : FuncData
  DLawDefinition : DefN K mg "_law_definition" sLawDefinition ["state", "plan", "name"] fLawDefinition fdLawDefinition
  fLawDefinitions : Addr
  fdLawDefinitions : FuncData
  DLawDefinitions : DefN K mg "_law_definitions" sLawDefinitions ["state"] fLawDefinitions fdLawDefinitions
  fLawMakes : Addr
  fdLawMakes : FuncData
  DLawMakes : DefN K mg "_law_makes" sLawMakes ["definition"] fLawMakes fdLawMakes
  fLawUsedData : Addr
  fdLawUsedData : FuncData
  DLawUsedData : DefN K mg "_law_used_data" sLawUsedData ["kinds_v"] fLawUsedData fdLawUsedData
  fLawUsed : Addr
  fdLawUsed : FuncData
  DLawUsed : DefN K mg "_law_used" sLawUsed ["e", "local", "makers"] fLawUsed fdLawUsed
  fLawUses : Addr
  fdLawUses : FuncData
  DLawUses : DefN K mg "_law_uses" sLawUses ["definition", "makers"] fLawUses fdLawUses
  fLaw : Addr
  fdLaw : FuncData
  DLaw : DefN K mg "law" sLaw ["script"] fLaw fdLaw
  aPLAINBASES : Addr
  gPLAINBASES : mg "PLAIN_BASES" = some (.ref aPLAINBASES)
  sPLAINBASES : ∀ H : Hp, SqT K H aPLAINBASES [V.str "num", V.str "text", V.str "bool"]
end Q11
namespace Q11
open PySem PySem.Spec PyProof.Rows L2 SX HL
section
variable {P : Program} {w : World} {K : PySem.W.Frag} {mg : Str → Option Value} {base : Heap}
/-! ### _law_mix -/
def spMix : Sp := fun vs H Q _ => ∃ (c k : Int), vs = [.int c, .int k] ∧ ∀ v, 0 ≤ v → v < 9973 → Q (.int v) H
theorem ok_mix {k : Nat} (Z : Defs K mg) : FnOk P w K mg base CX0 (k + 1) Z.fLawMix Z.fdLawMix ["cell", "k"] spMix := by
  refine Z.DLawMix.F.ok scLawMix (fun vs H Q E h => ?_) (fun cdv A outer s H vs Q E hr h => ?_)
  · obtain ⟨c, k, rfl, _⟩ := h
    rfl
  · obtain ⟨c, k, rfl, qq⟩ := h
    refine ⟨_, (pss_cons (ps_set (i := 2) scLawMix.nd rfl (.inl rfl) (pe_op op_mod (pe_callTy call_int1 (by rfl) Z.int HL.boot_int (pa_cons (pe_op op_add (pe_op op_add (pe_op op_mul (pe_callTy call_int1 (by rfl) Z.int HL.boot_int (pa_cons (pv 0) pa_nil)) pe_int) (pe_op op_mul (pv 1) pe_int)) pe_int) pa_nil)) pe_int))
        (pss_cons (ps_set (i := 2) scLawMix.nd rfl (.inl rfl) (pe_op op_mod (pe_callTy call_int1 (by rfl) Z.int HL.boot_int (pa_cons (pe_op op_add (pe_op op_add (pe_op op_mul (pv 2) (pv 2)) (pe_op op_mul (pv 1) pe_int)) pe_int) pa_nil)) pe_int))
        (pss_one (ps_ret (pe_op op_mod (pe_op op_fdiv (pv 2) pe_int) pe_int))))), ?_⟩
    refine ⟨_, rfl, .inl ⟨c, rfl, _, _, rfl, rfl, .inr ⟨by decide, by decide⟩, _, rfl, _, _, rfl, rfl, .inr ⟨by decide, by decide⟩, _, _, rfl, rfl, _, _, rfl, rfl, .inl ⟨_, rfl, _, _, rfl, rfl, (by show (0 : Int) < 2147483647; decide), ?_⟩⟩⟩
    have v0 := Int.emod_nonneg (c * 48271 + k * 69621 + 12345) (show (2147483647 : Int) ≠ 0 by decide)
    have v1 := Int.emod_lt_of_pos (c * 48271 + k * 69621 + 12345) (show (0 : Int) < 2147483647 by decide)
    revert v0 v1
    dsimp only
    generalize (c * 48271 + k * 69621 + 12345) % 2147483647 = v
    intro v0 v1
    refine ⟨_, rfl, _, rfl, v, v, rfl, rfl, .inl ⟨by omega, by omega⟩, _, rfl, _, _, rfl, rfl, .inr ⟨by decide, by decide⟩, _, _, rfl, rfl, _, _, rfl, rfl, .inl ⟨_, rfl, _, _, rfl, rfl, (by show (0 : Int) < 2147483399; decide), ?_⟩⟩
    refine ⟨_, rfl, _, _, rfl, rfl, ⟨by decide, by decide⟩, _, _, rfl, rfl, (by show (0 : Int) < 9973; decide), qq _ (Int.emod_nonneg _ (by decide)) (Int.emod_lt_of_pos _ (by decide))⟩
end
end Q11
namespace Q11
open PySem PySem.Spec PyProof.Rows L2 SX HL
section
variable {P : Program} {w : World} {K : PySem.W.Frag} {mg : Str → Option Value} {base : Heap}
/-! ### _law_draws -/
def Draws (ds : List Int) : Prop := ∀ x ∈ ds, 0 ≤ x ∧ x < 9973
def spDraws (K : PySem.W.Frag) : Sp := fun vs H Q _ => ∃ (a : Addr) (ns : List Int), vs = [.ref a] ∧ SqL K H a (ns.map V.int) ∧ ns.length ≤ 63 ∧
  ∀ d H' ds, H d = none → Same H H' → H' d = some (.lst (ds.map V.int)) → ds.length ≤ 4000 → Draws ds → Q (.ref d) H'
theorem ok_draws {k : Nat} (Z : Defs K mg) : FnOk P w K mg base CX0 (k + 2) Z.fLawDraws Z.fdLawDraws ["script"] (spDraws K) := by
  have GLawMix : FnOk P w K mg base CX0 (k + 1) Z.fLawMix Z.fdLawMix ["cell", "k"] spMix := ok_mix Z
  refine Z.DLawDraws.F.ok scLawDraws (fun vs H Q E h => ?_) (fun cdv A outer s H vs Q E hr h => ?_)
  · obtain ⟨a, ns, rfl, _⟩ := h
    rfl
  · obtain ⟨a, ns, rfl, hS, hl, qq⟩ := h
    refine ⟨_, (pss_cons (ps_set (i := 1) scLawDraws.nd rfl (.inl rfl) (pe_lst pa_nil))
        (pss_cons (ps_for PassesOwn.never rfl (pi_range1 (by rfl) Z.range (pa_cons (pe_callB (call_min2 rfl) (by rfl) Z.min (by decide +kernel) (pa_cons pe_int (pa_cons (pe_callB call_len_seq (by rfl) Z.len PySem.boot_len (pa_cons (pv 0) pa_nil)) pa_nil))) pa_nil)) (pg_name (i := 2) scLawDraws.nd rfl (.inl rfl)) (pss_cons (ps_set (i := 3) scLawDraws.nd rfl (.inl rfl) (pe_callTy call_int1 (by rfl) Z.int HL.boot_int (pa_cons (pe_ix ix_list (pv 0) (pv 2) (fun _ _ => rfl)) pa_nil)))
        (pss_one (ps_if (pt_cmpR op_lt (pv 3) (pe_op op_pow pe_int pe_int) (nomark _)) (pss_one (ps_expr (pe_bm PySem.F.plainAttrs_list PySem.F.slot_list_append PySem.F.type_list_append mt_append (pv 1) (pa_cons (pe_call GLawMix (hr.mono (by omega)) (by rfl) Z.DLawMix.g Z.DLawMix.F.kp Z.DLawMix.b .nil pass0 (pa_cons (pv 3) (pa_cons (pv 2) pa_nil))) pa_nil)))) (pss_one (ps_for PassesOwn.never rfl (pi_range1 (by rfl) Z.range (pa_cons pe_int pa_nil)) (pg_name (i := 4) scLawDraws.nd rfl (.inl rfl)) (pss_one (ps_if (pt_cmpR op_gt (pv 3) pe_int (nomark _)) (pss_cons (ps_expr (pe_bm PySem.F.plainAttrs_list PySem.F.slot_list_append PySem.F.type_list_append mt_append (pv 1) (pa_cons (pe_op op_mod (pe_callTy call_int1 (by rfl) Z.int HL.boot_int (pa_cons (pv 3) pa_nil)) pe_int) pa_nil)))
        (pss_one (ps_set (i := 3) scLawDraws.nd rfl (.inl rfl) (pe_op op_fdiv (pv 3) pe_int)))) pss_nil))))))))
        (pss_one (ps_ret (pv 1))))), ?_⟩
    refine ⟨Nat.zero_le _, fun D0 hD => ⟨_, rfl, a, _, rfl, .inl ((same_upd hD).seq hS), 63, _, rfl, _, rfl, ?_⟩⟩
    have hlen : (ns.map V.int).length = ns.length := List.length_map _
    rw [hlen]
    have nn : (if (ns.length : Int) < 63 then (ns.length : Int) else 63) = (ns.length : Int) := by
      split <;> omega
    rw [nn]
    refine ⟨by omega, by omega, ?_⟩
    have ap : ∀ {H' : Hp} {ds : List Int} {v : Int}, Same H H' → Same H (upd H' D0 (.lst (ds.map V.int ++ [.int v]))) := fun s b o hb => by
      rw [upd_ne (ne_of_none hb hD)]
      exact s b o hb
    refine for_range (lo := 0) (n := ns.length) (fun i σ H' => ∃ (ds : List Int) (y2 y3 y4 : Option V), σ = [some (.ref a), some (.ref D0), y2, y3, y4] ∧ Same H H' ∧ H' D0 = some (.lst (ds.map V.int)) ∧ ds.length ≤ 60 * i ∧ Draws ds)
      ⟨[], none, none, none, rfl, same_upd hD, upd_same, Nat.zero_le _, fun _ h => nomatch h⟩ ?_ ?_
    · rintro i σ H' hi ⟨ds, y2, y3, y4, rfl, sm, hd, hdl, hdr⟩
      have hg : atI (ns.map V.int) ((0 : Int) + (i : Int)) = some (.int (ns.getD i 0)) := by
        rw [Int.zero_add]
        refine atI_nat ?_
        simp [hi]
      generalize ns.getD i 0 = x at hg
      refine ⟨_, rfl, _, rfl, a, _, _, _, rfl, rfl, sm.seq hS, hg, .inl ⟨x, rfl, ?_⟩⟩
      refine ⟨_, rfl, 10, 18, rfl, rfl, ⟨by decide, by decide, by decide⟩, _, _, rfl, rfl, _, rfl, ite2 (fun _ => ?_) (fun e => ?_)⟩
      · refine ⟨_, rfl, .inl ⟨rfl, _, SqL.of hd⟩, _, rfl, _, rfl, x, _, rfl, fun v v0 v1 => ⟨D0, _, _, rfl, rfl, hd, ?_, ?_⟩⟩
        · rw [List.length_map]
          exact Nat.lt_of_le_of_lt (show ds.length ≤ 4000 by omega) (by decide)
        · refine ⟨ds ++ [v], _, _, _, rfl, ap sm, by rw [upd_same]; simp, by simp; omega, fun y hy => ?_⟩
          rcases List.mem_append.mp hy with hy | hy
          · exact hdr y hy
          · rw [List.mem_singleton.mp hy]
            exact ⟨v0, v1⟩
      · refine ⟨60, rfl, by decide, by decide, ?_⟩
        refine for_range (lo := 0) (n := 60) (fun j σ H' => ∃ (ds2 : List Int) (x : Int) (y4 : Option V), σ = [some (.ref a), some (.ref D0), some (.int (0 + (i : Int))), some (.int x), y4] ∧ Same H H' ∧ H' D0 = some (.lst (ds2.map V.int)) ∧ ds2.length ≤ 60 * i + j ∧ Draws ds2)
          ⟨ds, x, y4, rfl, sm, hd, hdl, hdr⟩ ?_ ?_
        · rintro j σ H2 hj ⟨ds2, x, y4, rfl, sm2, hd2, hdl2, hdr2⟩
          refine ⟨_, rfl, x, 0, rfl, rfl, _, rfl, ite2 (fun e => ?_) (fun e => ?_)⟩
          · refine ⟨_, rfl, .inl ⟨rfl, _, SqL.of hd2⟩, _, rfl, .inl ⟨x, rfl, x, 9973, rfl, rfl, (by show (0 : Int) < 9973; decide), D0, _, _, rfl, rfl, hd2, ?_, ?_⟩⟩
            · rw [List.length_map]
              exact Nat.lt_of_le_of_lt (show ds2.length ≤ 4000 by omega) (by decide)
            · refine ⟨_, rfl, x, 9973, rfl, rfl, ⟨by decide, by decide⟩, ds2 ++ [x % 9973], x / 9973, _, rfl, ap sm2, by rw [upd_same]; simp, by simp; omega, fun y hy => ?_⟩
              rcases List.mem_append.mp hy with hy | hy
              · exact hdr2 y hy
              · rw [List.mem_singleton.mp hy]
                exact ⟨Int.emod_nonneg _ (by decide), Int.emod_lt_of_pos _ (by decide)⟩
          · exact ⟨ds2, x, _, rfl, sm2, hd2, by omega, hdr2⟩
        · rintro σ H2 ⟨ds2, x, y4, rfl, sm2, hd2, hdl2, hdr2⟩
          exact ⟨ds2, _, _, _, rfl, sm2, hd2, by omega, hdr2⟩
    · rintro σ H' ⟨ds, y2, y3, y4, rfl, sm, hd, hdl, hdr⟩
      exact ⟨_, rfl, qq D0 H' ds hD sm hd (by omega) hdr⟩
/-! ### _law_at -/
def spAt : Sp := fun vs H Q _ => ∃ (d : Addr) (ds : List Int) (i : Int), vs = [.ref d, .int i] ∧ H d = some (.lst (ds.map V.int)) ∧ Draws ds ∧ 0 ≤ i ∧ ∀ v, 0 ≤ v → v < 9973 → Q (.int v) H
theorem ok_at {k : Nat} (Z : Defs K mg) : FnOk P w K mg base CX0 (k + 2) Z.fLawAt Z.fdLawAt ["draws", "index"] spAt := by
  have GLawMix : FnOk P w K mg base CX0 (k + 1) Z.fLawMix Z.fdLawMix ["cell", "k"] spMix := ok_mix Z
  refine Z.DLawAt.F.ok scLawAt (fun vs H Q E h => ?_) (fun cdv A outer s H vs Q E hr h => ?_)
  · obtain ⟨a, ns, i, rfl, _⟩ := h
    rfl
  · obtain ⟨d, ds, i, rfl, hd, hD, i0, qq⟩ := h
    refine ⟨_, (pss_cons (ps_if (pt_cmpR op_lt (pv 1) (pe_callB call_len_seq (by rfl) Z.len PySem.boot_len (pa_cons (pv 0) pa_nil)) (nomark _)) (pss_one (ps_ret (pe_ix ix_list (pv 0) (pv 1) (fun _ _ => rfl)))) pss_nil)
        (pss_cons (ps_if (pt_cmpR op_eq (pe_callB call_len_seq (by rfl) Z.len PySem.boot_len (pa_cons (pv 0) pa_nil)) pe_int (nomark _)) (pss_one (ps_ret (pe_call GLawMix (hr.mono (by omega)) (by rfl) Z.DLawMix.g Z.DLawMix.F.kp Z.DLawMix.b .nil pass0 (pa_cons (pv 1) (pa_cons pe_int pa_nil))))) pss_nil)
        (pss_one (ps_ret (pe_call GLawMix (hr.mono (by omega)) (by rfl) Z.DLawMix.g Z.DLawMix.F.kp Z.DLawMix.b .nil pass0 (pa_cons (pe_op op_add (pe_ix ix_list (pv 0) (pe_op op_mod (pe_callTy call_int1 (by rfl) Z.int HL.boot_int (pa_cons (pv 1) pa_nil)) (pe_callB call_len_seq (by rfl) Z.len PySem.boot_len (pa_cons (pv 0) pa_nil))) (fun _ _ => rfl)) (pe_op op_mul (pv 1) pe_int)) (pa_cons (pv 1) pa_nil))))))), ?_⟩
    have hlen : (ds.map V.int).length = ds.length := List.length_map _
    refine ⟨_, rfl, _, rfl, d, _, rfl, .inl (SqL.of hd), _, _, rfl, rfl, _, rfl, ite2 (fun e => ?_) (fun e => ?_)⟩
    · have e2 : i < ((ds.map V.int).length : Int) := of_decide_eq_true e
      rw [hlen] at e2
      have hi : i.toNat < ds.length := by omega
      have hg : atI (ds.map V.int) i = some (.int ds[i.toNat]) := by
        have h0 := atI_nat (xs := ds.map V.int) (j := i.toNat) (v := .int ds[i.toNat]) (by simp [hi])
        have : ((i.toNat : Nat) : Int) = i := by omega
        rwa [this] at h0
      have hb := hD _ (List.getElem_mem hi)
      exact ⟨_, rfl, _, rfl, d, _, i, _, rfl, rfl, SqL.of hd, hg, qq _ hb.1 hb.2⟩
    · refine ⟨_, rfl, d, _, rfl, .inl (SqL.of hd), rfl, _, rfl, ite2 (fun e2 => ?_) (fun e2 => ?_)⟩
      · exact ⟨_, rfl, i, 77, rfl, qq⟩
      · have hp : 0 < ds.length := by
          rcases Nat.eq_zero_or_pos ds.length with z | z
          · exact absurd (decide_eq_true (by rw [hlen, z]; rfl)) e2
          · exact z
        have m0 := Int.emod_nonneg i (show (ds.length : Int) ≠ 0 by omega)
        have m1 := Int.emod_lt_of_pos i (show (0 : Int) < (ds.length : Int) by omega)
        have hi : (i % (ds.length : Int)).toNat < ds.length := by omega
        have hg : atI (ds.map V.int) (i % (ds.length : Int)) = some (.int ds[(i % (ds.length : Int)).toNat]) := by
          have h0 := atI_nat (xs := ds.map V.int) (j := (i % (ds.length : Int)).toNat) (v := .int ds[(i % (ds.length : Int)).toNat]) (by simp [hi])
          have : (((i % (ds.length : Int)).toNat : Nat) : Int) = i % (ds.length : Int) := by omega
          rwa [this] at h0
        generalize ds[(i % (ds.length : Int)).toNat] = x at hg
        refine ⟨_, rfl, _, rfl, .inl ⟨i, rfl, _, rfl, d, _, rfl, .inl (SqL.of hd), ?_⟩⟩
        rw [hlen]
        refine ⟨_, _, rfl, rfl, (by show (0 : Int) < (ds.length : Int); omega), d, _, _, _, rfl, rfl, SqL.of hd, hg, _, rfl, i, 131, rfl, rfl, .inr ⟨by decide, by decide⟩, _, _, rfl, rfl, _, rfl, _, _, rfl, qq⟩
end
end Q11
namespace Q11
open PySem PySem.Spec PyProof.Rows L2 SX HL
section
variable {P : Program} {w : World} {K : PySem.W.Frag} {mg : Str → Option Value} {base : Heap}
/-! ### _law_is_integer -/
def spIsInt : Sp := fun vs H Q _ => ∃ i : Int, vs = [.int i] ∧ Q (.bl true) H
theorem ok_isint {k : Nat} (Z : Defs K mg) : FnOk P w K mg base CX0 (k + 1) Z.fLawIsInteger Z.fdLawIsInteger ["actual"] spIsInt := by
  refine Z.DLawIsInteger.F.ok scLawIsInteger (fun vs H Q E h => ?_) (fun cdv A outer s H vs Q E hr h => ?_)
  · obtain ⟨i, rfl, _⟩ := h
    rfl
  · obtain ⟨i, rfl, q⟩ := h
    refine ⟨_, (pss_one (ps_ret (pe_and (pe_callB call_isB (by rfl) Z.isinstance HL.boot_isinstance (pa_cons (pv 0) (pa_cons (pe_bltn (v := .ty "int") (by rfl) Z.int HL.boot_int rfl) pa_nil))) (pe_one (pe_not (pe_callB call_isB (by rfl) Z.isinstance HL.boot_isinstance (pa_cons (pv 0) (pa_cons (pe_bltn (v := .ty "bool") (by rfl) Z.bool HL.boot_bool rfl) pa_nil)))))))), ?_⟩
    refine ⟨_, rfl, _, "int", "int", true, rfl, .base (.int i), by decide +kernel, true, rfl, iteT ?_⟩
    exact ⟨_, rfl, _, "int", "bool", false, rfl, .base (.int i), by decide +kernel, false, rfl, q⟩
/-! ### _law_same -/
def spLess (K : PySem.W.Frag) : Nat → Sp
  | 0 => fun _ _ _ _ => False
  | n + 1 => spSameG K n
theorem same_step {n : Nat} (Z : Defs K mg)
    (GLawSame : FnOk P w K mg base CX0 (n + 1) Z.fLawSame Z.fdLawSame ["actual", "expected"] (spLess K n)) : FnOk P w K mg base CX0 (n + 2) Z.fLawSame Z.fdLawSame ["actual", "expected"] (spSameG K n) := by
  have GLawIsInteger : FnOk P w K mg base CX0 1 Z.fLawIsInteger Z.fdLawIsInteger ["actual"] spIsInt := ok_isint (k := 0) Z
  refine Z.DLawSame.F.ok scLawSame (fun vs H Q E h => ?_) (fun cdv A outer s H vs Q E hr h => ?_)
  · obtain ⟨x, y, rfl, _⟩ := h
    rfl
  · obtain ⟨x, y, rfl, hs, q⟩ := h
    refine ⟨_, (pss_cons (ps_if (pt_val (pe_callB call_isiT (by rfl) Z.isinstance HL.boot_isinstance (pa_cons (pv 1) (pa_cons (pe_tup (pa_cons (pe_bltn (v := .ty "list") (by rfl) Z.list HL.boot_list rfl) (pa_cons (pe_bltn (v := .ty "tuple") (by rfl) Z.tuple HL.boot_tuple rfl) pa_nil))) pa_nil)))) (pss_cons (ps_if (PW.pt (pw_or (pt_cmpR op_ne (pe_callB call_isB (by rfl) Z.isinstance HL.boot_isinstance (pa_cons (pv 1) (pa_cons (pe_bltn (v := .ty "list") (by rfl) Z.list HL.boot_list rfl) pa_nil))) (pe_callB call_isB (by rfl) Z.isinstance HL.boot_isinstance (pa_cons (pv 0) (pa_cons (pe_bltn (v := .ty "list") (by rfl) Z.list HL.boot_list rfl) pa_nil))) (nomark _)) (pw_or1 (pt_cmpR op_ne (pe_callB call_isB (by rfl) Z.isinstance HL.boot_isinstance (pa_cons (pv 1) (pa_cons (pe_bltn (v := .ty "tuple") (by rfl) Z.tuple HL.boot_tuple rfl) pa_nil))) (pe_callB call_isB (by rfl) Z.isinstance HL.boot_isinstance (pa_cons (pv 0) (pa_cons (pe_bltn (v := .ty "tuple") (by rfl) Z.tuple HL.boot_tuple rfl) pa_nil))) (nomark _))))) (pss_one (ps_ret pe_bl)) pss_nil)
        (pss_cons (ps_if (pt_cmpR op_ne (pe_callB call_len_seq (by rfl) Z.len PySem.boot_len (pa_cons (pv 0) pa_nil)) (pe_callB call_len_seq (by rfl) Z.len PySem.boot_len (pa_cons (pv 1) pa_nil)) (nomark _)) (pss_one (ps_ret pe_bl)) pss_nil)
        (pss_cons (ps_for PassesOwn.never rfl (pi_range1 (by rfl) Z.range (pa_cons (pe_callB call_len_seq (by rfl) Z.len PySem.boot_len (pa_cons (pv 1) pa_nil)) pa_nil)) (pg_name (i := 2) scLawSame.nd rfl (.inl rfl)) (pss_one (ps_if (pt_not (pt_val (pe_call GLawSame (hr.mono (by omega)) (by rfl) Z.DLawSame.g Z.DLawSame.F.kp Z.DLawSame.b .nil pass0 (pa_cons (pe_ix ix_seq (pv 0) (pv 2) (fun _ _ => rfl)) (pa_cons (pe_ix ix_seq (pv 1) (pv 2) (fun _ _ => rfl)) pa_nil))))) (pss_one (ps_ret pe_bl)) pss_nil)))
        (pss_one (ps_ret pe_bl))))) pss_nil)
        (pss_cons (ps_if (pt_cmp (pc_isN (pv 1))) (pss_one (ps_ret (pe_cmp (pc_isN (pv 0)) rfl))) pss_nil)
        (pss_cons (ps_if (pt_val (pe_callB call_isB (by rfl) Z.isinstance HL.boot_isinstance (pa_cons (pv 1) (pa_cons (pe_bltn (v := .ty "bool") (by rfl) Z.bool HL.boot_bool rfl) pa_nil)))) (pss_one (ps_ret (pe_and (pe_callB call_isB (by rfl) Z.isinstance HL.boot_isinstance (pa_cons (pv 0) (pa_cons (pe_bltn (v := .ty "bool") (by rfl) Z.bool HL.boot_bool rfl) pa_nil))) (pe_one (pe_cmpR op_eq (pv 0) (pv 1) (nomark _)))))) pss_nil)
        (pss_cons (ps_if (pt_val (pe_callB call_isB (by rfl) Z.isinstance HL.boot_isinstance (pa_cons (pv 1) (pa_cons (pe_bltn (v := .ty "int") (by rfl) Z.int HL.boot_int rfl) pa_nil)))) (pss_one (ps_ret (pe_and (pe_call GLawIsInteger (hr.mono (by omega)) (by rfl) Z.DLawIsInteger.g Z.DLawIsInteger.F.kp Z.DLawIsInteger.b .nil pass0 (pa_cons (pv 0) pa_nil)) (pe_one (pe_cmpR op_eq (pv 0) (pv 1) (nomark _)))))) pss_nil)
        (pss_one (ps_ret (pe_and (pe_callB call_isB (by rfl) Z.isinstance HL.boot_isinstance (pa_cons (pv 0) (pa_cons (pe_bltn (v := .ty "str") (by rfl) Z.str HL.boot_str rfl) pa_nil))) (pe_one (pe_cmpR op_eq (pv 0) (pv 1) (nomark _)))))))))), ?_⟩
    have t2 : 2 ≤ sizeLine := by decide
    have hs : (Leaf x ∧ x = y) ∨ ∃ (m : Nat) (t : String) (a b : Addr) (xs ys : List V), n = m + 1 ∧ x = .ref a ∧ y = .ref b ∧ IsSeq K H t a xs ∧ IsSeq K H t b ys ∧ xs.length = ys.length ∧ ys.length ≤ 1000000 ∧
        ∀ (i : Nat) (u v : V), xs[i]? = some u → ys[i]? = some v → SameD K H m u v := by
      cases n with
      | zero => exact .inl hs
      | succ m =>
        rcases hs with h | ⟨t, a, b, xs, ys, h⟩
        · exact .inl h
        · exact .inr ⟨m, t, a, b, xs, ys, rfl, h⟩
    rcases hs with ⟨lf, rfl⟩ | ⟨m, t, a, b, xs, ys, rfl, rfl, rfl, h1, h2, el, hz, hh⟩
    · cases x with
      | int i =>
        refine ⟨_, rfl, t2, fun p hp => ⟨_, p, _, .type "int", _, _, rfl, upd_same, .cons (.ty _) (.cons (.ty _) .nil), .base (.int i), kit_two (by decide +kernel : kitB "int" "list" = some false) (by decide +kernel : kitB "int" "tuple" = some false), _, rfl, iteF ?_⟩⟩
        refine ⟨_, rfl, _, rfl, iteF ?_⟩
        refine ⟨_, rfl, _, "int", "bool", false, rfl, .base (.int i), by decide +kernel, false, rfl, iteF ?_⟩
        refine ⟨_, rfl, _, "int", "int", true, rfl, .base (.int i), by decide +kernel, true, rfl, iteT ?_⟩
        refine ⟨_, rfl, i, rfl, true, rfl, iteT ⟨_, rfl, _, rfl, rfl, ?_⟩⟩
        rw [decide_eq_true rfl]
        exact q _ (same_upd hp)
      | str z =>
        refine ⟨_, rfl, t2, fun p hp => ⟨_, p, _, .type "str", _, _, rfl, upd_same, .cons (.ty _) (.cons (.ty _) .nil), .base (.str z), kit_two (by decide +kernel : kitB "str" "list" = some false) (by decide +kernel : kitB "str" "tuple" = some false), _, rfl, iteF ?_⟩⟩
        refine ⟨_, rfl, _, rfl, iteF ?_⟩
        refine ⟨_, rfl, _, "str", "bool", false, rfl, .base (.str z), by decide +kernel, false, rfl, iteF ?_⟩
        refine ⟨_, rfl, _, "str", "int", false, rfl, .base (.str z), by decide +kernel, false, rfl, iteF ?_⟩
        refine ⟨_, rfl, _, "str", "str", true, rfl, .base (.str z), by decide +kernel, true, rfl, iteT ?_⟩
        refine ⟨_, rfl, _, rfl, rfl, ?_⟩
        rw [decide_eq_true rfl]
        exact q _ (same_upd hp)
      | bl b =>
        refine ⟨_, rfl, t2, fun p hp => ⟨_, p, _, .type "bool", _, _, rfl, upd_same, .cons (.ty _) (.cons (.ty _) .nil), .base (.bl b), kit_two (by decide +kernel : kitB "bool" "list" = some false) (by decide +kernel : kitB "bool" "tuple" = some false), _, rfl, iteF ?_⟩⟩
        refine ⟨_, rfl, _, rfl, iteF ?_⟩
        refine ⟨_, rfl, _, "bool", "bool", true, rfl, .base (.bl b), by decide +kernel, true, rfl, iteT ?_⟩
        refine ⟨_, rfl, _, "bool", "bool", true, rfl, .base (.bl b), by decide +kernel, true, rfl, iteT ?_⟩
        refine ⟨_, rfl, _, rfl, rfl, ?_⟩
        rw [decide_eq_true rfl]
        exact q _ (same_upd hp)
      | non =>
        refine ⟨_, rfl, t2, fun p hp => ⟨_, p, _, .type "NoneType", _, _, rfl, upd_same, .cons (.ty _) (.cons (.ty _) .nil), .base .non, kit_two (by decide +kernel : kitB "NoneType" "list" = some false) (by decide +kernel : kitB "NoneType" "tuple" = some false), _, rfl, iteF ?_⟩⟩
        refine ⟨_, rfl, _, rfl, iteT ?_⟩
        exact ⟨_, rfl, q _ (same_upd hp)⟩
      | _ => exact (show False from lf).elim
    · have rest : ∀ (i : Nat) (u v : V), xs[i]? = some u → ys[i]? = some v → atI xs ((0 : Int) + (i : Int)) = some u ∧ atI ys ((0 : Int) + (i : Int)) = some v := fun i u v hu hv => by
        rw [Int.zero_add]
        exact ⟨atI_nat hu, atI_nat hv⟩
      have turn : ∀ i : Nat, i < (ys.length : Int).toNat → ∃ u v, xs[i]? = some u ∧ ys[i]? = some v := fun i hi => by
        have i1 : i < ys.length := by omega
        have i2 : i < xs.length := by omega
        exact ⟨_, _, List.getElem?_eq_getElem i2, List.getElem?_eq_getElem i1⟩
      rcases h1 with ⟨rfl, s1, t1⟩ | ⟨rfl, s1, t1⟩
      · rcases h2 with ⟨_, s2, t2'⟩ | ⟨z, _⟩
        · refine ⟨_, rfl, t2, fun p hp => ⟨_, p, _, .type "tuple", _, _, rfl, upd_same, .cons (.ty _) (.cons (.ty _) .nil), tyx_same (same_upd hp) t2', kit_two (by decide +kernel : kitB "tuple" "list" = some false) (by decide +kernel : kitB "tuple" "tuple" = some true), _, rfl, iteT ?_⟩⟩
          have s10 := s1
          have s20 := s2
          have s1 := seqT_same (same_upd (o := .tup [.ty "list", .ty "tuple"]) hp) s1
          have s2 := seqT_same (same_upd (o := .tup [.ty "list", .ty "tuple"]) hp) s2
          refine ⟨_, rfl, _, "tuple", "list", false, rfl, tyx_same (same_upd hp) t2', by decide +kernel, _, rfl, _, "tuple", "list", false, rfl, tyx_same (same_upd hp) t1, by decide +kernel, rfl, _, rfl, iteNS rfl ?_⟩
          refine ⟨_, rfl, _, "tuple", "tuple", true, rfl, tyx_same (same_upd hp) t2', by decide +kernel, _, rfl, _, "tuple", "tuple", true, rfl, tyx_same (same_upd hp) t1, by decide +kernel, rfl, _, rfl, iteNS rfl ?_⟩
          refine ⟨_, rfl, a, xs, rfl, .inr s1, _, rfl, b, ys, rfl, .inr s2, rfl, _, rfl, iteNS (by rw [el]) ?_⟩
          refine ⟨_, rfl, b, ys, rfl, .inr s2, _, rfl, by omega, by omega, ?_⟩
          refine for_range (lo := 0) (n := (ys.length : Int).toNat) (fun i σ H' => Same H H' ∧ ∃ y, σ = [some (.ref a), some (.ref b), y]) ⟨same_upd hp, none, rfl⟩ ?_ ?_
          · rintro i σ H' hi ⟨sm, y, rfl⟩
            obtain ⟨u, v, hu, hv⟩ := turn i hi
            obtain ⟨r1, r2⟩ := rest i u v hu hv
            exact ⟨_, rfl, _, rfl, .inr (.inl ⟨a, xs, _, u, rfl, rfl, seqT_same sm s10, r1, _, rfl, _, rfl, .inr (.inl ⟨b, ys, _, v, rfl, rfl, seqT_same sm s20, r2, u, v, rfl, sameD_same sm (hh i u v hu hv), fun H2 s2 => ⟨true, rfl, iteF ⟨sm.trans s2, _, rfl⟩⟩⟩)⟩)⟩
          · rintro σ H' ⟨sm, y, rfl⟩
            exact q _ sm
        · exact absurd z (by decide)
      · rcases h2 with ⟨z, _⟩ | ⟨_, s2, t2'⟩
        · exact absurd z (by decide)
        · refine ⟨_, rfl, t2, fun p hp => ⟨_, p, _, .type "list", _, _, rfl, upd_same, .cons (.ty _) (.cons (.ty _) .nil), tyx_same (same_upd hp) t2', kit_two (by decide +kernel : kitB "list" "list" = some true) (by decide +kernel : kitB "list" "tuple" = some false), _, rfl, iteT ?_⟩⟩
          have s10 := s1
          have s20 := s2
          have s1 := (same_upd (o := .tup [.ty "list", .ty "tuple"]) hp).seq s1
          have s2 := (same_upd (o := .tup [.ty "list", .ty "tuple"]) hp).seq s2
          refine ⟨_, rfl, _, "list", "list", true, rfl, tyx_same (same_upd hp) t2', by decide +kernel, _, rfl, _, "list", "list", true, rfl, tyx_same (same_upd hp) t1, by decide +kernel, rfl, _, rfl, iteNS rfl ?_⟩
          refine ⟨_, rfl, _, "list", "tuple", false, rfl, tyx_same (same_upd hp) t2', by decide +kernel, _, rfl, _, "list", "tuple", false, rfl, tyx_same (same_upd hp) t1, by decide +kernel, rfl, _, rfl, iteNS rfl ?_⟩
          refine ⟨_, rfl, a, xs, rfl, .inl s1, _, rfl, b, ys, rfl, .inl s2, rfl, _, rfl, iteNS (by rw [el]) ?_⟩
          refine ⟨_, rfl, b, ys, rfl, .inl s2, _, rfl, by omega, by omega, ?_⟩
          refine for_range (lo := 0) (n := (ys.length : Int).toNat) (fun i σ H' => Same H H' ∧ ∃ y, σ = [some (.ref a), some (.ref b), y]) ⟨same_upd hp, none, rfl⟩ ?_ ?_
          · rintro i σ H' hi ⟨sm, y, rfl⟩
            obtain ⟨u, v, hu, hv⟩ := turn i hi
            obtain ⟨r1, r2⟩ := rest i u v hu hv
            exact ⟨_, rfl, _, rfl, .inl ⟨a, xs, _, u, rfl, rfl, sm.seq s10, r1, _, rfl, _, rfl, .inl ⟨b, ys, _, v, rfl, rfl, sm.seq s20, r2, u, v, rfl, sameD_same sm (hh i u v hu hv), fun H2 s2 => ⟨true, rfl, iteF ⟨sm.trans s2, _, rfl⟩⟩⟩⟩⟩
          · rintro σ H' ⟨sm, y, rfl⟩
            exact q _ sm
theorem ok_same (Z : Defs K mg) : ∀ n, FnOk P w K mg base CX0 (n + 2) Z.fLawSame Z.fdLawSame ["actual", "expected"] (spSameG K n)
  | 0 => same_step Z (Z.DLawSame.F.ok scLawSame (fun vs H Q E h => (show False from h).elim) (fun cdv A outer s H vs Q E hr h => (show False from h).elim))
  | n + 1 => same_step Z (ok_same Z n)
end
end Q11
namespace Q11
open PySem PySem.Spec PyProof.Rows L2 SX HL
section
variable {P : Program} {w : World} {K : PySem.W.Frag} {mg : Str → Option Value} {base : Heap}
/-! ### _law_next -/
def StN (H : Hp) (p q : Addr) (ds : List Int) : Prop := H q = some (.lst (ds.map V.int)) ∧ Draws ds ∧ ∃ i : Int, 0 ≤ i ∧ H p = some (.lst [.ref q, .int i])
theorem StN.ne {H : Hp} {p q : Addr} {ds : List Int} (h : StN H p q ds) : q ≠ p := by
  obtain ⟨h1, _, i, _, h2⟩ := h
  intro e
  subst e
  rw [h1] at h2
  have e2 := HO.lst.inj (Option.some.inj h2)
  cases ds with
  | nil => cases e2
  | cons x r => cases e2
theorem StN.same {H H' : Hp} {p q : Addr} {ds : List Int} (h : StN H p q ds) (s : ∀ b o, b = p ∨ b = q → H b = some o → H' b = some o) : StN H' p q ds := by
  obtain ⟨h1, h3, i, h0, h2⟩ := h
  exact ⟨s _ _ (.inr rfl) h1, h3, i, h0, s _ _ (.inl rfl) h2⟩
def spNext : Sp := fun vs H Q _ => ∃ (p q : Addr) (ds : List Int) (lim : Int), vs = [.ref p, .int lim] ∧ StN H p q ds ∧ 0 < lim ∧
  ∀ H' v, StN H' p q ds → But H H' p → 0 ≤ v → v < lim → Q (.int v) H'
theorem ok_next {k : Nat} (Z : Defs K mg) : FnOk P w K mg base CX0 (k + 3) Z.fLawNext Z.fdLawNext ["state", "limit"] spNext := by
  have GLawAt : FnOk P w K mg base CX0 (k + 2) Z.fLawAt Z.fdLawAt ["draws", "index"] spAt := ok_at Z
  refine Z.DLawNext.F.ok scLawNext (fun vs H Q E h => ?_) (fun cdv A outer s H vs Q E hr h => ?_)
  · obtain ⟨p, q, ns, lim, rfl, _⟩ := h
    rfl
  · obtain ⟨p, q, ds, lim, rfl, hS, l0, qq⟩ := h
    refine ⟨_, (pss_cons (ps_augS (pv 0) pe_int pget_list pe_int ip_add set_list)
        (pss_one (ps_ret (pe_op op_mod (pe_call GLawAt (hr.mono (by omega)) (by rfl) Z.DLawAt.g Z.DLawAt.F.kp Z.DLawAt.b .nil pass0 (pa_cons (pe_ix ix_list (pv 0) pe_int (fun _ _ => rfl)) (pa_cons (pe_ix ix_list (pv 0) pe_int (fun _ _ => rfl)) pa_nil))) (pv 1))))), ?_⟩
    have ne := hS.ne
    obtain ⟨hq, hD, i, hi, hp⟩ := id hS
    refine ⟨.ref p, rfl, p, _, 1, .int i, rfl, rfl, SqL.of hp, by decide, rfl, i, 1, rfl, rfl, p, _, 1, 1, rfl, rfl, hp, rfl, ?_⟩
    have hq' : upd H p (.lst ([.ref q, .int i].set 1 (.int (i + 1)))) q = some (.lst (ds.map V.int)) := by rw [upd_ne ne]; exact hq
    refine ⟨.ref p, rfl, p, _, 0, .ref q, rfl, rfl, SqL.of upd_same, rfl, .ref p, rfl, p, _, 1, .int (i + 1), rfl, rfl, SqL.of upd_same, rfl, q, ds, i + 1, rfl, hq', hD, by omega, fun v v0 v1 => ⟨.int lim, rfl, v, lim, rfl, rfl, l0, ?_⟩⟩
    exact qq _ _ ⟨hq', hD, i + 1, by omega, upd_same⟩ but_upd (Int.emod_nonneg _ (by omega)) (Int.emod_lt_of_pos _ l0)
end
end Q11
namespace Q11
open PySem PySem.Spec PyProof.Rows L2 SX HL
/-! ### expressions, and the names that they use -/
def LOW : List Str := ["x", "y", "z", "f", "c", "g", "h", "k", "m", "v", "w", "a", "b", "d", "e", "zz"]
def UPP : List Str := ["Leaf", "Node", "One", "Two"]
inductive Ex
  | lit (f : Str) (v : V)
  | name (x : Str)
  | bin (op : Str) (a b : Ex)
  | neg (a : Ex)
  | ife (a b c : Ex)
  | lt (x : Str) (a b : Ex)
  | cons (a b : Ex)
  | list (es : List Ex)
  | call (f : Str) (es : List Ex)
  | make (f : Str) (es : List Ex)
  | split (a b : Ex) (x y : Str) (c : Ex)
  | mat (a : Ex) (arms : List (Str × List Str × Ex))
def TupK (H H' : Hp) : Prop := ∀ a xs, H a = some (.tup xs) → H' a = some (.tup xs)
theorem TupK.refl {H : Hp} : TupK H H := fun _ _ h => h
theorem TupK.tr {H H1 H2 : Hp} (a : TupK H H1) (b : TupK H1 H2) : TupK H H2 := fun z o h => b z o (a z o h)
theorem TupK.of {H H' : Hp} (s : Same H H') : TupK H H' := fun a xs h => s a _ h
theorem tk_upd {H : Hp} {a : Addr} {o : HO} (h : ∀ xs, H a ≠ some (.tup xs)) : TupK H (upd H a o) := fun z xs e => by
  rw [upd_ne (fun q => h xs (by rw [← q]; exact e))]
  exact e
theorem tk_lst {H : Hp} {a : Addr} {o : HO} {xs : List V} (h : H a = some (.lst xs)) : TupK H (upd H a o) := tk_upd fun ys e => by rw [h] at e; cases e
def LitV : V → Prop
  | .int _ => True
  | .str _ => True
  | .bl _ => True
  | _ => False
/-- names in a tuple -/
def NmsAt (H : Hp) (v : V) (ns : List Str) : Prop := ∃ t, v = .ref t ∧ H t = some (.tup (ns.map V.str)) ∧ ns.length ≤ 2 ∧ ∀ x ∈ ns, x ∈ LOW
theorem NmsAt.keep {H H' : Hp} {v : V} {ns : List Str} (k : TupK H H') (h : NmsAt H v ns) : NmsAt H' v ns := by
  obtain ⟨t, e, h1, h2⟩ := h
  exact ⟨t, e, k _ _ h1, h2⟩
/-- an expression stands at x -/
def ExAt (H : Hp) : Nat → Ex → V → Prop
  | 0, _, _ => False
  | _ + 1, .lit f v, x => (f = "number" ∨ f = "text" ∨ f = "bool") ∧ LitV v ∧ ∃ t, x = .ref t ∧ H t = some (.tup [.str f, v])
  | _ + 1, .name z, x => z ∈ LOW ∧ ∃ t, x = .ref t ∧ H t = some (.tup [.str "name", .str z])
  | n + 1, .bin op a b, x => ∃ t u v, x = .ref t ∧ H t = some (.tup [.str "binary", .str op, u, v]) ∧ ExAt H n a u ∧ ExAt H n b v
  | n + 1, .neg a, x => ∃ t u, x = .ref t ∧ H t = some (.tup [.str "not", u]) ∧ ExAt H n a u
  | n + 1, .ife a b c, x => ∃ t u v w, x = .ref t ∧ H t = some (.tup [.str "if", u, v, w]) ∧ ExAt H n a u ∧ ExAt H n b v ∧ ExAt H n c w
  | n + 1, .lt z a b, x => z ∈ LOW ∧ ∃ t u v, x = .ref t ∧ H t = some (.tup [.str "let", .str z, u, v]) ∧ ExAt H n a u ∧ ExAt H n b v
  | n + 1, .cons a b, x => ∃ t u v, x = .ref t ∧ H t = some (.tup [.str "cons", u, v]) ∧ ExAt H n a u ∧ ExAt H n b v
  | n + 1, .list es, x => ∃ t q us, x = .ref t ∧ H t = some (.tup [.str "list", .ref q]) ∧ H q = some (.tup us) ∧ us.length ≤ 3 ∧ All2 (fun u e => ExAt H n e u) us es
  | n + 1, .call f es, x => f ∈ LOW ∧ ∃ t q us, x = .ref t ∧ H t = some (.tup [.str "call", .str f, .ref q]) ∧ H q = some (.tup us) ∧ us.length ≤ 3 ∧ All2 (fun u e => ExAt H n e u) us es
  | n + 1, .make f es, x => f ∈ UPP ∧ ∃ t q us, x = .ref t ∧ H t = some (.tup [.str "make", .str f, .ref q]) ∧ H q = some (.tup us) ∧ us.length ≤ 3 ∧ All2 (fun u e => ExAt H n e u) us es
  | n + 1, .split a b z y c, x => z ∈ LOW ∧ y ∈ LOW ∧ ∃ t u v w, x = .ref t ∧ H t = some (.tup [.str "split", u, v, .str z, .str y, w]) ∧ ExAt H n a u ∧ ExAt H n b v ∧ ExAt H n c w
  | n + 1, .mat a arms, x => ∃ t u q us, x = .ref t ∧ H t = some (.tup [.str "match", u, .ref q]) ∧ H q = some (.tup us) ∧ us.length ≤ 3 ∧ ExAt H n a u ∧
      All2 (fun u m => ∃ ta tn w, u = .ref ta ∧ H ta = some (.tup [.str m.1, tn, w]) ∧ m.1 ∈ UPP ∧ NmsAt H tn m.2.1 ∧ ExAt H n m.2.2 w) us arms
def ArmAt (H : Hp) (n : Nat) (u : V) (m : Str × List Str × Ex) : Prop := ∃ ta tn w, u = .ref ta ∧ H ta = some (.tup [.str m.1, tn, w]) ∧ m.1 ∈ UPP ∧ NmsAt H tn m.2.1 ∧ ExAt H n m.2.2 w
theorem ExAt.keep {H H' : Hp} (k : TupK H H') : ∀ {n : Nat} {e : Ex} {x : V}, ExAt H n e x → ExAt H' n e x
  | 0, _, _, h => h
  | n + 1, .lit f v, x, ⟨h1, h2, t, e, h⟩ => ⟨h1, h2, t, e, k _ _ h⟩
  | n + 1, .name z, x, ⟨h0, t, e, h⟩ => ⟨h0, t, e, k _ _ h⟩
  | n + 1, .bin op a b, x, ⟨t, u, v, e, h, ha, hb⟩ => ⟨t, u, v, e, k _ _ h, ExAt.keep k ha, ExAt.keep k hb⟩
  | n + 1, .neg a, x, ⟨t, u, e, h, ha⟩ => ⟨t, u, e, k _ _ h, ExAt.keep k ha⟩
  | n + 1, .ife a b c, x, ⟨t, u, v, w, e, h, ha, hb, hc⟩ => ⟨t, u, v, w, e, k _ _ h, ExAt.keep k ha, ExAt.keep k hb, ExAt.keep k hc⟩
  | n + 1, .lt z a b, x, ⟨h0, t, u, v, e, h, ha, hb⟩ => ⟨h0, t, u, v, e, k _ _ h, ExAt.keep k ha, ExAt.keep k hb⟩
  | n + 1, .cons a b, x, ⟨t, u, v, e, h, ha, hb⟩ => ⟨t, u, v, e, k _ _ h, ExAt.keep k ha, ExAt.keep k hb⟩
  | n + 1, .list es, x, ⟨t, q, us, e, h, hq, hl, ha⟩ => ⟨t, q, us, e, k _ _ h, k _ _ hq, hl, ha.mono fun _ _ r => ExAt.keep k r⟩
  | n + 1, .call f es, x, ⟨h0, t, q, us, e, h, hq, hl, ha⟩ => ⟨h0, t, q, us, e, k _ _ h, k _ _ hq, hl, ha.mono fun _ _ r => ExAt.keep k r⟩
  | n + 1, .make f es, x, ⟨h0, t, q, us, e, h, hq, hl, ha⟩ => ⟨h0, t, q, us, e, k _ _ h, k _ _ hq, hl, ha.mono fun _ _ r => ExAt.keep k r⟩
  | n + 1, .split a b z y c, x, ⟨h1, h2, t, u, v, w, e, h, ha, hb, hc⟩ => ⟨h1, h2, t, u, v, w, e, k _ _ h, ExAt.keep k ha, ExAt.keep k hb, ExAt.keep k hc⟩
  | n + 1, .mat a arms, x, ⟨t, u, q, us, e, h, hq, hl, ha, hm⟩ => ⟨t, u, q, us, e, k _ _ h, k _ _ hq, hl, ExAt.keep k ha, hm.mono fun _ _ ⟨ta, tn, w, e1, h1, h2, h3, h4⟩ => ⟨ta, tn, w, e1, k _ _ h1, h2, h3.keep k, ExAt.keep k h4⟩⟩
theorem ExAt.up {H : Hp} : ∀ {n : Nat} {e : Ex} {x : V}, ExAt H n e x → ExAt H (n + 1) e x
  | 0, _, _, h => h.elim
  | n + 1, .lit f v, x, h => h
  | n + 1, .name z, x, h => h
  | n + 1, .bin op a b, x, ⟨t, u, v, e, h, ha, hb⟩ => ⟨t, u, v, e, h, ExAt.up ha, ExAt.up hb⟩
  | n + 1, .neg a, x, ⟨t, u, e, h, ha⟩ => ⟨t, u, e, h, ExAt.up ha⟩
  | n + 1, .ife a b c, x, ⟨t, u, v, w, e, h, ha, hb, hc⟩ => ⟨t, u, v, w, e, h, ExAt.up ha, ExAt.up hb, ExAt.up hc⟩
  | n + 1, .lt z a b, x, ⟨h0, t, u, v, e, h, ha, hb⟩ => ⟨h0, t, u, v, e, h, ExAt.up ha, ExAt.up hb⟩
  | n + 1, .cons a b, x, ⟨t, u, v, e, h, ha, hb⟩ => ⟨t, u, v, e, h, ExAt.up ha, ExAt.up hb⟩
  | n + 1, .list es, x, ⟨t, q, us, e, h, hq, hl, ha⟩ => ⟨t, q, us, e, h, hq, hl, ha.mono fun _ _ r => ExAt.up r⟩
  | n + 1, .call f es, x, ⟨h0, t, q, us, e, h, hq, hl, ha⟩ => ⟨h0, t, q, us, e, h, hq, hl, ha.mono fun _ _ r => ExAt.up r⟩
  | n + 1, .make f es, x, ⟨h0, t, q, us, e, h, hq, hl, ha⟩ => ⟨h0, t, q, us, e, h, hq, hl, ha.mono fun _ _ r => ExAt.up r⟩
  | n + 1, .split a b z y c, x, ⟨h1, h2, t, u, v, w, e, h, ha, hb, hc⟩ => ⟨h1, h2, t, u, v, w, e, h, ExAt.up ha, ExAt.up hb, ExAt.up hc⟩
  | n + 1, .mat a arms, x, ⟨t, u, q, us, e, h, hq, hl, ha, hm⟩ => ⟨t, u, q, us, e, h, hq, hl, ExAt.up ha, hm.mono fun _ _ ⟨ta, tn, w, e1, h1, h2, h3, h4⟩ => ⟨ta, tn, w, e1, h1, h2, h3, ExAt.up h4⟩⟩
/-- the parts of an expression, and the names that it binds for each -/
def subs : Ex → List Ex
  | .lit _ _ => []
  | .name _ => []
  | .bin _ a b => [a, b]
  | .neg a => [a]
  | .ife a b c => [a, b, c]
  | .lt _ a b => [a, b]
  | .cons a b => [a, b]
  | .list es => es
  | .call _ es => es
  | .make _ es => es
  | .split a b _ _ c => [a, b, c]
  | .mat a arms => a :: arms.map fun m => m.2.2
def bnds : Ex → List (List Str)
  | .lt x _ _ => [[], [x]]
  | .split _ _ x y _ => [[], [], [x, y]]
  | .mat _ arms => [] :: arms.map fun m => m.2.1
  | e => (subs e).map fun _ => []
def start : Ex → List Str → List (Bool × Str)
  | .name x, ns => if x ∈ ns then [] else [(false, x)]
  | .call f _, _ => [(false, f)]
  | .make f _, _ => [(true, f)]
  | _, _ => []
def isMat : Ex → Bool
  | .mat _ _ => true
  | _ => false
def ment : Nat → Ex → List Str → List (Bool × Str)
  | 0, _, _ => []
  | n + 1, .mat a arms, ns => ment n a ns ++ (arms.map fun m => (true, m.1) :: ment n m.2.2 (ns ++ m.2.1)).flatten
  | n + 1, e, ns => start e ns ++ (((subs e).zip (bnds e)).map fun p => ment n p.1 (ns ++ p.2)).flatten
theorem ment_plain {n : Nat} {e : Ex} {ns : List Str} (h : isMat e = false) : ment (n + 1) e ns = start e ns ++ (((subs e).zip (bnds e)).map fun p => ment n p.1 (ns ++ p.2)).flatten := by
  cases e <;> first | rfl | (cases h)
def mB : Nat → Nat
  | 0 => 0
  | n + 1 => 4 * mB n + 4
theorem mB_succ (n : Nat) : mB (n + 1) = 4 * mB n + 4 := rfl
theorem flat_le {β : Type} {α : Type} (f : α → List β) (B : Nat) : ∀ es : List α, (∀ e ∈ es, (f e).length ≤ B) → ((es.map f).flatten).length ≤ es.length * B
  | [], _ => by simp
  | e :: es, h => by
    have h1 := h e (List.mem_cons_self ..)
    have h2 := flat_le f B es fun x hx => h x (List.mem_cons_of_mem _ hx)
    rw [List.map_cons, List.flatten_cons, List.length_append, List.length_cons, Nat.succ_mul]
    omega
theorem subs_le {H : Hp} {n : Nat} {e : Ex} {x : V} (h : ExAt H (n + 1) e x) (hm : isMat e = false) : (subs e).length ≤ 3 := by
  cases e with
  | list es => obtain ⟨t, q, us, _, _, _, hl, ha⟩ := h; rw [ha.len] at hl; exact hl
  | call f es => obtain ⟨_, t, q, us, _, _, _, hl, ha⟩ := h; rw [ha.len] at hl; exact hl
  | make f es => obtain ⟨_, t, q, us, _, _, _, hl, ha⟩ := h; rw [ha.len] at hl; exact hl
  | mat a arms => cases hm
  | _ => simp [subs]
theorem start_le (e : Ex) (ns : List Str) : (start e ns).length ≤ 1 := by
  cases e <;> simp [start]
  split <;> simp
theorem subs_at {H : Hp} {n : Nat} {e : Ex} {x : V} (h : ExAt H (n + 1) e x) : ∀ s ∈ subs e, ∃ y, ExAt H n s y := by
  have two : ∀ {R : V → Ex → Prop} {us : List V} {es : List Ex} {s : Ex}, All2 R us es → s ∈ es → ∃ y, R y s := fun a hs => by
    obtain ⟨i, hi⟩ := List.mem_iff_getElem?.mp hs
    obtain ⟨u, _, hu⟩ := a.getR hi
    exact ⟨u, hu⟩
  intro s hs
  cases e with
  | lit f v => cases hs
  | name z => cases hs
  | bin op a b =>
    obtain ⟨t, u, v, _, _, ha, hb⟩ := h
    rcases List.mem_cons.mp hs with rfl | hs
    · exact ⟨_, ha⟩
    · rw [List.mem_singleton.mp hs]; exact ⟨_, hb⟩
  | neg a =>
    obtain ⟨t, u, _, _, ha⟩ := h
    rw [List.mem_singleton.mp hs]; exact ⟨_, ha⟩
  | ife a b c =>
    obtain ⟨t, u, v, w, _, _, ha, hb, hc⟩ := h
    rcases List.mem_cons.mp hs with rfl | hs
    · exact ⟨_, ha⟩
    · rcases List.mem_cons.mp hs with rfl | hs
      · exact ⟨_, hb⟩
      · rw [List.mem_singleton.mp hs]; exact ⟨_, hc⟩
  | lt z a b =>
    obtain ⟨_, t, u, v, _, _, ha, hb⟩ := h
    rcases List.mem_cons.mp hs with rfl | hs
    · exact ⟨_, ha⟩
    · rw [List.mem_singleton.mp hs]; exact ⟨_, hb⟩
  | cons a b =>
    obtain ⟨t, u, v, _, _, ha, hb⟩ := h
    rcases List.mem_cons.mp hs with rfl | hs
    · exact ⟨_, ha⟩
    · rw [List.mem_singleton.mp hs]; exact ⟨_, hb⟩
  | list es => obtain ⟨t, q, us, _, _, _, hl, ha⟩ := h; exact two ha hs
  | call f es => obtain ⟨_, t, q, us, _, _, _, hl, ha⟩ := h; exact two ha hs
  | make f es => obtain ⟨_, t, q, us, _, _, _, hl, ha⟩ := h; exact two ha hs
  | split a b z y c =>
    obtain ⟨_, _, t, u, v, w, _, _, ha, hb, hc⟩ := h
    rcases List.mem_cons.mp hs with rfl | hs
    · exact ⟨_, ha⟩
    · rcases List.mem_cons.mp hs with rfl | hs
      · exact ⟨_, hb⟩
      · rw [List.mem_singleton.mp hs]; exact ⟨_, hc⟩
  | mat a arms =>
    obtain ⟨t, u, q, us, _, _, _, _, ha, hm⟩ := h
    rcases List.mem_cons.mp hs with rfl | hs
    · exact ⟨_, ha⟩
    · obtain ⟨m, hm', rfl⟩ := List.mem_map.mp hs
      obtain ⟨i, hi⟩ := List.mem_iff_getElem?.mp hm'
      obtain ⟨u, _, ta, tn, w, _, _, _, _, hu⟩ := hm.getR hi
      exact ⟨_, hu⟩
theorem ment_len {H : Hp} : ∀ {n : Nat} {e : Ex} {x : V} (ns : List Str), ExAt H n e x → (ment n e ns).length ≤ mB n
  | 0, _, _, _, h => h.elim
  | n + 1, e, x, ns, h => by
    cases he : isMat e with
    | false =>
      rw [ment_plain he, List.length_append, mB_succ]
      have h1 := start_le e ns
      have h2 := subs_le h he
      have h3 := flat_le (fun p : Ex × List Str => ment n p.1 (ns ++ p.2)) (mB n) ((subs e).zip (bnds e)) fun p hp => by
        obtain ⟨y, hy⟩ := subs_at h p.1 (List.of_mem_zip hp).1
        exact ment_len _ hy
      have h4 : ((subs e).zip (bnds e)).length ≤ 3 := by rw [List.length_zip]; omega
      have h5 := Nat.mul_le_mul_right (mB n) h4
      omega
    | true =>
      cases e with
      | mat a arms =>
        obtain ⟨t, u, q, us, _, _, _, hl, ha, hm⟩ := h
        rw [mB_succ]
        show (ment n a ns ++ (arms.map fun m => (true, m.1) :: ment n m.2.2 (ns ++ m.2.1)).flatten).length ≤ _
        rw [List.length_append]
        have h1 := ment_len ns ha
        have h3 := flat_le (fun m : Str × List Str × Ex => (true, m.1) :: ment n m.2.2 (ns ++ m.2.1)) (mB n + 1) arms fun m hm' => by
          obtain ⟨i, hi⟩ := List.mem_iff_getElem?.mp hm'
          obtain ⟨u, _, ta, tn, w, _, _, _, _, hu⟩ := hm.getR hi
          have := ment_len (ns ++ m.2.1) hu
          rw [List.length_cons]
          omega
        rw [hm.len] at hl
        have h5 := Nat.mul_le_mul_right (mB n + 1) hl
        omega
      | _ => cases he
end Q11
namespace Q11
open PySem PySem.Spec PyProof.Rows L2 SX HL
section
variable {P : Program} {w : World} {K : PySem.W.Frag} {mg : Str → Option Value} {base : Heap}
/-! ### parts, bound, mentioned_at_start -/
theorem inV_str (z : Str) (ns : List Str) : inV (.str z) (ns.map V.str) = decide (z ∈ ns) := by
  induction ns with
  | nil => rfl
  | cons y r ih =>
    have : inV (.str z) ((y :: r).map V.str) = (y == z || inV (.str z) (r.map V.str)) := rfl
    rw [this, ih, Bool.eq_iff_iff]
    simp only [Bool.or_eq_true, beq_iff_eq, decide_eq_true_eq, List.mem_cons]
    exact ⟨fun h => h.imp (fun e => e.symm) id, fun h => h.imp (fun e => e.symm) id⟩
theorem flat_strs (ns : List Str) : (ns.map V.str).all flatV = true := by
  rw [List.all_eq_true]
  intro x hx
  obtain ⟨y, _, rfl⟩ := List.mem_map.mp hx
  rfl
def spParts (n : Nat) : Sp := fun vs H Q _ => ∃ (x : V) (e : Ex), vs = [x] ∧ ExAt H (n + 1) e x ∧ isMat e = false ∧
  ∀ H' t us, Same H H' → H' t = some (.tup us) → us.length ≤ 3 → All2 (fun u s => ExAt H' n s u) us (subs e) → Q (.ref t) H'
theorem ok_parts {k n : Nat} (Z : Defs K mg) : FnOk P w K mg base CX0 (k + 1) Z.fParts Z.fdParts ["e"] (spParts n) := by
  refine Z.DParts.F.ok scParts (fun vs H Q E h => ?_) (fun cdv A outer s H vs Q E hr h => ?_)
  · obtain ⟨x, e, rfl, _⟩ := h
    rfl
  · obtain ⟨x, e, rfl, he, hm, qq⟩ := h
    refine ⟨_, (pss_cons (HM.ps_match (pv 0) (HM.pm_tag rfl scParts.nd (.name (i := 1) rfl (.inl rfl) (by first | exact .inl rfl | exact .inr rfl) .nil) (pss_one (ps_ret (pv 1)))
          (HM.pm_tag rfl scParts.nd (.wild (.name (i := 2) rfl (.inl rfl) (by first | exact .inl rfl | exact .inr rfl) .nil)) (pss_one (ps_ret (pv 2)))
          (HM.pm_tag rfl scParts.nd (.wild (.name (i := 2) rfl (.inl rfl) (by first | exact .inl rfl | exact .inr rfl) .nil)) (pss_one (ps_ret (pv 2)))
          (HM.pm_tag rfl scParts.nd (.name (i := 3) rfl (.inl rfl) (by first | exact .inl rfl | exact .inr rfl) .nil) (pss_one (ps_ret (pe_tup (pa_cons (pv 3) pa_nil))))
          (HM.pm_tag rfl scParts.nd (.name (i := 3) rfl (.inl rfl) (by first | exact .inl rfl | exact .inr rfl) (.name (i := 4) rfl (.inl rfl) (by first | exact .inl rfl | exact .inr rfl) .nil)) (pss_one (ps_ret (pe_tup (pa_cons (pv 3) (pa_cons (pv 4) pa_nil)))))
          (HM.pm_tag rfl scParts.nd (.wild (.name (i := 3) rfl (.inl rfl) (by first | exact .inl rfl | exact .inr rfl) (.name (i := 4) rfl (.inl rfl) (by first | exact .inl rfl | exact .inr rfl) .nil))) (pss_one (ps_ret (pe_tup (pa_cons (pv 3) (pa_cons (pv 4) pa_nil)))))
          (HM.pm_tag rfl scParts.nd (.wild (.name (i := 3) rfl (.inl rfl) (by first | exact .inl rfl | exact .inr rfl) (.name (i := 4) rfl (.inl rfl) (by first | exact .inl rfl | exact .inr rfl) .nil))) (pss_one (ps_ret (pe_tup (pa_cons (pv 3) (pa_cons (pv 4) pa_nil)))))
          (HM.pm_tag rfl scParts.nd (.name (i := 5) rfl (.inl rfl) (by first | exact .inl rfl | exact .inr rfl) (.name (i := 3) rfl (.inl rfl) (by first | exact .inl rfl | exact .inr rfl) (.name (i := 4) rfl (.inl rfl) (by first | exact .inl rfl | exact .inr rfl) .nil))) (pss_one (ps_ret (pe_tup (pa_cons (pv 5) (pa_cons (pv 3) (pa_cons (pv 4) pa_nil))))))
          (HM.pm_tag rfl scParts.nd (.name (i := 6) rfl (.inl rfl) (by first | exact .inl rfl | exact .inr rfl) (.name (i := 3) rfl (.inl rfl) (by first | exact .inl rfl | exact .inr rfl) (.wild (.wild (.name (i := 4) rfl (.inl rfl) (by first | exact .inl rfl | exact .inr rfl) .nil))))) (pss_one (ps_ret (pe_tup (pa_cons (pv 6) (pa_cons (pv 3) (pa_cons (pv 4) pa_nil))))))
          (HM.pm_tag rfl scParts.nd (.name (i := 6) rfl (.inl rfl) (by first | exact .inl rfl | exact .inr rfl) (.name (i := 7) rfl (.inl rfl) (by first | exact .inl rfl | exact .inr rfl) .nil)) (pss_one (ps_ret (pe_tup (pa_cons (pv 6) (StX.pa_star (pe_lc (own := [("arm", 8)]) (g := (gName 8)) (by rfl) scParts.nd (HK.pi_tupK (K := K) rfl (pv 7)) (blkOk_by (own := [("arm", 8)]) (N := ["e", "items", "arguments", "first", "second", "condition", "whole", "arms", "arm"]) (sc := defScope sParts) (by decide +kernel)) (fun _ _ _ _ _ => (pg_name (i := 8) scParts.nd rfl (Or.inl rfl))) (fun _ _ _ _ _ => pts_nil) (fun _ _ _ _ _ => (pe_ix (HL.ix_tupK (K := K) rfl) (pv 8) pe_int (fun _ _ => rfl)))) pa_nil)))))
          HM.pm_nil)))))))))))
        (pss_one (ps_ret (pe_tup pa_nil)))), ?_⟩
    cases e with
    | lit f v =>
      obtain ⟨hf, _, t, rfl, ht⟩ := he
      rcases hf with rfl | rfl | rfl
      · refine ⟨_, rfl, t, "number", [v], rfl, SqT.of ht, iteNo (fun h => absurd h.1 (by decide +kernel)) ⟨t, "number", [v], rfl, SqT.of ht, iteNo (fun h => absurd h.1 (by decide +kernel)) ⟨t, "number", [v], rfl, SqT.of ht, iteNo (fun h => absurd h.1 (by decide +kernel)) ⟨t, "number", [v], rfl, SqT.of ht, iteNo (fun h => absurd h.1 (by decide +kernel)) ⟨t, "number", [v], rfl, SqT.of ht, iteNo (fun h => absurd h.1 (by decide +kernel)) ⟨t, "number", [v], rfl, SqT.of ht, iteNo (fun h => absurd h.1 (by decide +kernel)) ⟨t, "number", [v], rfl, SqT.of ht, iteNo (fun h => absurd h.1 (by decide +kernel)) ⟨t, "number", [v], rfl, SqT.of ht, iteNo (fun h => absurd h.1 (by decide +kernel)) ⟨t, "number", [v], rfl, SqT.of ht, iteNo (fun h => absurd h.1 (by decide +kernel)) ⟨t, "number", [v], rfl, SqT.of ht, iteNo (fun h => absurd h.1 (by decide +kernel)) ?_⟩⟩⟩⟩⟩⟩⟩⟩⟩⟩
        exact ⟨Nat.zero_le _, fun T hT => qq _ T [] (same_upd hT) upd_same (Nat.zero_le _) .nil⟩
      · refine ⟨_, rfl, t, "text", [v], rfl, SqT.of ht, iteNo (fun h => absurd h.1 (by decide +kernel)) ⟨t, "text", [v], rfl, SqT.of ht, iteNo (fun h => absurd h.1 (by decide +kernel)) ⟨t, "text", [v], rfl, SqT.of ht, iteNo (fun h => absurd h.1 (by decide +kernel)) ⟨t, "text", [v], rfl, SqT.of ht, iteNo (fun h => absurd h.1 (by decide +kernel)) ⟨t, "text", [v], rfl, SqT.of ht, iteNo (fun h => absurd h.1 (by decide +kernel)) ⟨t, "text", [v], rfl, SqT.of ht, iteNo (fun h => absurd h.1 (by decide +kernel)) ⟨t, "text", [v], rfl, SqT.of ht, iteNo (fun h => absurd h.1 (by decide +kernel)) ⟨t, "text", [v], rfl, SqT.of ht, iteNo (fun h => absurd h.1 (by decide +kernel)) ⟨t, "text", [v], rfl, SqT.of ht, iteNo (fun h => absurd h.1 (by decide +kernel)) ⟨t, "text", [v], rfl, SqT.of ht, iteNo (fun h => absurd h.1 (by decide +kernel)) ?_⟩⟩⟩⟩⟩⟩⟩⟩⟩⟩
        exact ⟨Nat.zero_le _, fun T hT => qq _ T [] (same_upd hT) upd_same (Nat.zero_le _) .nil⟩
      · refine ⟨_, rfl, t, "bool", [v], rfl, SqT.of ht, iteNo (fun h => absurd h.1 (by decide +kernel)) ⟨t, "bool", [v], rfl, SqT.of ht, iteNo (fun h => absurd h.1 (by decide +kernel)) ⟨t, "bool", [v], rfl, SqT.of ht, iteNo (fun h => absurd h.1 (by decide +kernel)) ⟨t, "bool", [v], rfl, SqT.of ht, iteNo (fun h => absurd h.1 (by decide +kernel)) ⟨t, "bool", [v], rfl, SqT.of ht, iteNo (fun h => absurd h.1 (by decide +kernel)) ⟨t, "bool", [v], rfl, SqT.of ht, iteNo (fun h => absurd h.1 (by decide +kernel)) ⟨t, "bool", [v], rfl, SqT.of ht, iteNo (fun h => absurd h.1 (by decide +kernel)) ⟨t, "bool", [v], rfl, SqT.of ht, iteNo (fun h => absurd h.1 (by decide +kernel)) ⟨t, "bool", [v], rfl, SqT.of ht, iteNo (fun h => absurd h.1 (by decide +kernel)) ⟨t, "bool", [v], rfl, SqT.of ht, iteNo (fun h => absurd h.1 (by decide +kernel)) ?_⟩⟩⟩⟩⟩⟩⟩⟩⟩⟩
        exact ⟨Nat.zero_le _, fun T hT => qq _ T [] (same_upd hT) upd_same (Nat.zero_le _) .nil⟩
    | name z =>
      obtain ⟨_, t, rfl, ht⟩ := he
      refine ⟨_, rfl, t, "name", [.str z], rfl, SqT.of ht, iteNo (fun h => absurd h.1 (by decide +kernel)) ⟨t, "name", [.str z], rfl, SqT.of ht, iteNo (fun h => absurd h.1 (by decide +kernel)) ⟨t, "name", [.str z], rfl, SqT.of ht, iteNo (fun h => absurd h.1 (by decide +kernel)) ⟨t, "name", [.str z], rfl, SqT.of ht, iteNo (fun h => absurd h.1 (by decide +kernel)) ⟨t, "name", [.str z], rfl, SqT.of ht, iteNo (fun h => absurd h.1 (by decide +kernel)) ⟨t, "name", [.str z], rfl, SqT.of ht, iteNo (fun h => absurd h.1 (by decide +kernel)) ⟨t, "name", [.str z], rfl, SqT.of ht, iteNo (fun h => absurd h.1 (by decide +kernel)) ⟨t, "name", [.str z], rfl, SqT.of ht, iteNo (fun h => absurd h.1 (by decide +kernel)) ⟨t, "name", [.str z], rfl, SqT.of ht, iteNo (fun h => absurd h.1 (by decide +kernel)) ⟨t, "name", [.str z], rfl, SqT.of ht, iteNo (fun h => absurd h.1 (by decide +kernel)) ?_⟩⟩⟩⟩⟩⟩⟩⟩⟩⟩
      exact ⟨Nat.zero_le _, fun T hT => qq _ T [] (same_upd hT) upd_same (Nat.zero_le _) .nil⟩
    | bin op a b =>
      obtain ⟨t, u, v, rfl, ht, ha, hb⟩ := he
      refine ⟨_, rfl, t, "binary", [.str op, u, v], rfl, SqT.of ht, iteNo (fun h => absurd h.1 (by decide +kernel)) ⟨t, "binary", [.str op, u, v], rfl, SqT.of ht, iteNo (fun h => absurd h.1 (by decide +kernel)) ⟨t, "binary", [.str op, u, v], rfl, SqT.of ht, iteNo (fun h => absurd h.1 (by decide +kernel)) ⟨t, "binary", [.str op, u, v], rfl, SqT.of ht, iteNo (fun h => absurd h.1 (by decide +kernel)) ⟨t, "binary", [.str op, u, v], rfl, SqT.of ht, iteNo (fun h => absurd h.1 (by decide +kernel)) ⟨t, "binary", [.str op, u, v], rfl, SqT.of ht, iteNo (fun h => absurd h.1 (by decide +kernel)) ⟨t, "binary", [.str op, u, v], rfl, SqT.of ht, iteYes ⟨rfl, rfl⟩ ?_⟩⟩⟩⟩⟩⟩⟩
      refine ⟨_, rfl, _, rfl, by show 2 ≤ sizeLine; decide, fun T hT => ?_⟩
      have sT := same_upd (o := .tup [u, v]) hT
      exact qq _ T [u, v] sT upd_same (by show 2 ≤ 3; decide) (.cons (ha.keep (TupK.of sT)) (.cons (hb.keep (TupK.of sT)) (.nil)))
    | neg a =>
      obtain ⟨t, u, rfl, ht, ha⟩ := he
      refine ⟨_, rfl, t, "not", [u], rfl, SqT.of ht, iteNo (fun h => absurd h.1 (by decide +kernel)) ⟨t, "not", [u], rfl, SqT.of ht, iteNo (fun h => absurd h.1 (by decide +kernel)) ⟨t, "not", [u], rfl, SqT.of ht, iteNo (fun h => absurd h.1 (by decide +kernel)) ⟨t, "not", [u], rfl, SqT.of ht, iteYes ⟨rfl, rfl⟩ ?_⟩⟩⟩⟩
      refine ⟨_, rfl, by show 1 ≤ sizeLine; decide, fun T hT => ?_⟩
      have sT := same_upd (o := .tup [u]) hT
      exact qq _ T [u] sT upd_same (by show 1 ≤ 3; decide) (.cons (ha.keep (TupK.of sT)) (.nil))
    | ife a b c =>
      obtain ⟨t, u, v, y, rfl, ht, ha, hb, hc⟩ := he
      refine ⟨_, rfl, t, "if", [u, v, y], rfl, SqT.of ht, iteNo (fun h => absurd h.1 (by decide +kernel)) ⟨t, "if", [u, v, y], rfl, SqT.of ht, iteNo (fun h => absurd h.1 (by decide +kernel)) ⟨t, "if", [u, v, y], rfl, SqT.of ht, iteNo (fun h => absurd h.1 (by decide +kernel)) ⟨t, "if", [u, v, y], rfl, SqT.of ht, iteNo (fun h => absurd h.1 (by decide +kernel)) ⟨t, "if", [u, v, y], rfl, SqT.of ht, iteNo (fun h => absurd h.1 (by decide +kernel)) ⟨t, "if", [u, v, y], rfl, SqT.of ht, iteNo (fun h => absurd h.1 (by decide +kernel)) ⟨t, "if", [u, v, y], rfl, SqT.of ht, iteNo (fun h => absurd h.1 (by decide +kernel)) ⟨t, "if", [u, v, y], rfl, SqT.of ht, iteYes ⟨rfl, rfl⟩ ?_⟩⟩⟩⟩⟩⟩⟩⟩
      refine ⟨_, rfl, _, rfl, _, rfl, by show 3 ≤ sizeLine; decide, fun T hT => ?_⟩
      have sT := same_upd (o := .tup [u, v, y]) hT
      exact qq _ T [u, v, y] sT upd_same (by show 3 ≤ 3; decide) (.cons (ha.keep (TupK.of sT)) (.cons (hb.keep (TupK.of sT)) (.cons (hc.keep (TupK.of sT)) (.nil))))
    | lt z a b =>
      obtain ⟨hz0, t, u, v, rfl, ht, ha, hb⟩ := he
      refine ⟨_, rfl, t, "let", [.str z, u, v], rfl, SqT.of ht, iteNo (fun h => absurd h.1 (by decide +kernel)) ⟨t, "let", [.str z, u, v], rfl, SqT.of ht, iteNo (fun h => absurd h.1 (by decide +kernel)) ⟨t, "let", [.str z, u, v], rfl, SqT.of ht, iteNo (fun h => absurd h.1 (by decide +kernel)) ⟨t, "let", [.str z, u, v], rfl, SqT.of ht, iteNo (fun h => absurd h.1 (by decide +kernel)) ⟨t, "let", [.str z, u, v], rfl, SqT.of ht, iteNo (fun h => absurd h.1 (by decide +kernel)) ⟨t, "let", [.str z, u, v], rfl, SqT.of ht, iteYes ⟨rfl, rfl⟩ ?_⟩⟩⟩⟩⟩⟩
      refine ⟨_, rfl, _, rfl, by show 2 ≤ sizeLine; decide, fun T hT => ?_⟩
      have sT := same_upd (o := .tup [u, v]) hT
      exact qq _ T [u, v] sT upd_same (by show 2 ≤ 3; decide) (.cons (ha.keep (TupK.of sT)) (.cons (hb.keep (TupK.of sT)) (.nil)))
    | cons a b =>
      obtain ⟨t, u, v, rfl, ht, ha, hb⟩ := he
      refine ⟨_, rfl, t, "cons", [u, v], rfl, SqT.of ht, iteNo (fun h => absurd h.1 (by decide +kernel)) ⟨t, "cons", [u, v], rfl, SqT.of ht, iteNo (fun h => absurd h.1 (by decide +kernel)) ⟨t, "cons", [u, v], rfl, SqT.of ht, iteNo (fun h => absurd h.1 (by decide +kernel)) ⟨t, "cons", [u, v], rfl, SqT.of ht, iteNo (fun h => absurd h.1 (by decide +kernel)) ⟨t, "cons", [u, v], rfl, SqT.of ht, iteYes ⟨rfl, rfl⟩ ?_⟩⟩⟩⟩⟩
      refine ⟨_, rfl, _, rfl, by show 2 ≤ sizeLine; decide, fun T hT => ?_⟩
      have sT := same_upd (o := .tup [u, v]) hT
      exact qq _ T [u, v] sT upd_same (by show 2 ≤ 3; decide) (.cons (ha.keep (TupK.of sT)) (.cons (hb.keep (TupK.of sT)) (.nil)))
    | list es =>
      obtain ⟨t, q, us, rfl, ht, hq, hl, ha⟩ := he
      refine ⟨_, rfl, t, "list", [.ref q], rfl, SqT.of ht, iteYes ⟨rfl, rfl⟩ ?_⟩
      exact ⟨_, rfl, qq H q us (Same.refl H) hq hl ha⟩
    | call f es =>
      obtain ⟨hf0, t, q, us, rfl, ht, hq, hl, ha⟩ := he
      refine ⟨_, rfl, t, "call", [.str f, .ref q], rfl, SqT.of ht, iteNo (fun h => absurd h.1 (by decide +kernel)) ⟨t, "call", [.str f, .ref q], rfl, SqT.of ht, iteYes ⟨rfl, rfl⟩ ?_⟩⟩
      exact ⟨_, rfl, qq H q us (Same.refl H) hq hl ha⟩
    | make f es =>
      obtain ⟨hf0, t, q, us, rfl, ht, hq, hl, ha⟩ := he
      refine ⟨_, rfl, t, "make", [.str f, .ref q], rfl, SqT.of ht, iteNo (fun h => absurd h.1 (by decide +kernel)) ⟨t, "make", [.str f, .ref q], rfl, SqT.of ht, iteNo (fun h => absurd h.1 (by decide +kernel)) ⟨t, "make", [.str f, .ref q], rfl, SqT.of ht, iteYes ⟨rfl, rfl⟩ ?_⟩⟩⟩
      exact ⟨_, rfl, qq H q us (Same.refl H) hq hl ha⟩
    | split a b z y c =>
      obtain ⟨hz0, hy0, t, u, v, r, rfl, ht, ha, hb, hc⟩ := he
      refine ⟨_, rfl, t, "split", [u, v, .str z, .str y, r], rfl, SqT.of ht, iteNo (fun h => absurd h.1 (by decide +kernel)) ⟨t, "split", [u, v, .str z, .str y, r], rfl, SqT.of ht, iteNo (fun h => absurd h.1 (by decide +kernel)) ⟨t, "split", [u, v, .str z, .str y, r], rfl, SqT.of ht, iteNo (fun h => absurd h.1 (by decide +kernel)) ⟨t, "split", [u, v, .str z, .str y, r], rfl, SqT.of ht, iteNo (fun h => absurd h.1 (by decide +kernel)) ⟨t, "split", [u, v, .str z, .str y, r], rfl, SqT.of ht, iteNo (fun h => absurd h.1 (by decide +kernel)) ⟨t, "split", [u, v, .str z, .str y, r], rfl, SqT.of ht, iteNo (fun h => absurd h.1 (by decide +kernel)) ⟨t, "split", [u, v, .str z, .str y, r], rfl, SqT.of ht, iteNo (fun h => absurd h.1 (by decide +kernel)) ⟨t, "split", [u, v, .str z, .str y, r], rfl, SqT.of ht, iteNo (fun h => absurd h.1 (by decide +kernel)) ⟨t, "split", [u, v, .str z, .str y, r], rfl, SqT.of ht, iteYes ⟨rfl, rfl⟩ ?_⟩⟩⟩⟩⟩⟩⟩⟩⟩
      refine ⟨_, rfl, _, rfl, _, rfl, by show 3 ≤ sizeLine; decide, fun T hT => ?_⟩
      have sT := same_upd (o := .tup [u, v, r]) hT
      exact qq _ T [u, v, r] sT upd_same (by show 3 ≤ 3; decide) (.cons (ha.keep (TupK.of sT)) (.cons (hb.keep (TupK.of sT)) (.cons (hc.keep (TupK.of sT)) (.nil))))
    | mat a arms => cases hm
/-- names in a tuple, any -/
def BndAt (H : Hp) (v : V) (ns : List Str) : Prop := ∃ q, v = .ref q ∧ H q = some (.tup (ns.map V.str)) ∧ ns.length ≤ 2
theorem bnd_keep {H H' : Hp} {v : V} {ns : List Str} (k : TupK H H') (h : BndAt H v ns) : BndAt H' v ns := by
  obtain ⟨q, e, h1, h2⟩ := h
  exact ⟨q, e, k _ _ h1, h2⟩
theorem map_rep (es : List Ex) : es.map (fun _ => ([] : List Str)) = List.replicate es.length [] := by
  induction es with
  | nil => rfl
  | cons a r ih => rw [List.map_cons, ih, List.length_cons, List.replicate_succ]
def spBound (n : Nat) : Sp := fun vs H Q _ => ∃ (x : V) (e : Ex), vs = [x] ∧ ExAt H (n + 1) e x ∧ isMat e = false ∧
  ∀ H' t us, Same H H' → H' t = some (.tup us) → us.length ≤ 3 → All2 (BndAt H') us (bnds e) → Q (.ref t) H'
theorem bnd1 {H : Hp} {Q : VK} {e : Ex} (qq : ∀ H' t us, Same H H' → H' t = some (.tup us) → us.length ≤ 3 → All2 (BndAt H') us (bnds e) → Q (.ref t) H') (z : Str) : bnds e = [[], [z]] → ∀ p, H p = none → ∀ q, upd H p (.tup []) q = none → ∀ t, upd (upd H p (.tup [])) q (.tup [.str z]) t = none → Q (.ref t) (upd (upd (upd H p (.tup [])) q (.tup [.str z])) t (.tup [.ref p, .ref q])) := by
  intro e p hp q hq t ht
  rw [e] at qq
  have s1 := same_upd (o := .tup []) hp
  have s2 := same_upd (o := .tup [.str z]) hq
  have s3 := same_upd (o := .tup [.ref p, .ref q]) ht
  refine qq _ t _ (Same.tr s1 (Same.tr s2 s3)) upd_same (by show 2 ≤ 3; decide) (.cons ⟨p, rfl, s3 _ _ (s2 _ _ upd_same), by decide⟩ (.one ⟨q, rfl, s3 _ _ upd_same, by show 1 ≤ 2; decide⟩))
theorem bnd2 {H : Hp} {Q : VK} {e : Ex} (qq : ∀ H' t us, Same H H' → H' t = some (.tup us) → us.length ≤ 3 → All2 (BndAt H') us (bnds e) → Q (.ref t) H') (z y : Str) : bnds e = [[], [], [z, y]] → ∀ p, H p = none → ∀ p2, upd H p (.tup []) p2 = none → ∀ q, upd (upd H p (.tup [])) p2 (.tup []) q = none → ∀ t, upd (upd (upd H p (.tup [])) p2 (.tup [])) q (.tup [.str z, .str y]) t = none → Q (.ref t) (upd (upd (upd (upd H p (.tup [])) p2 (.tup [])) q (.tup [.str z, .str y])) t (.tup [.ref p, .ref p2, .ref q])) := by
  intro e p hp p2 hp2 q hq t ht
  rw [e] at qq
  have s1 := same_upd (o := .tup []) hp
  have s1' := same_upd (o := .tup []) hp2
  have s2 := same_upd (o := .tup [.str z, .str y]) hq
  have s3 := same_upd (o := .tup [.ref p, .ref p2, .ref q]) ht
  refine qq _ t _ (Same.tr s1 (Same.tr s1' (Same.tr s2 s3))) upd_same (by show 3 ≤ 3; decide) (.cons ⟨p, rfl, s3 _ _ (s2 _ _ (s1' _ _ upd_same)), Nat.zero_le _⟩ (.cons ⟨p2, rfl, s3 _ _ (s2 _ _ upd_same), Nat.zero_le _⟩ (.one ⟨q, rfl, s3 _ _ upd_same, by show 2 ≤ 2; decide⟩)))
theorem ok_bound {k n : Nat} (Z : Defs K mg) : FnOk P w K mg base CX0 (k + 2) Z.fBound Z.fdBound ["e"] (spBound n) := by
  have GParts : FnOk P w K mg base CX0 (k + 1) Z.fParts Z.fdParts ["e"] (spParts n) := ok_parts Z
  refine Z.DBound.F.ok scBound (fun vs H Q E h => ?_) (fun cdv A outer s H vs Q E hr h => ?_)
  · obtain ⟨x, e, rfl, _⟩ := h
    rfl
  · obtain ⟨x, e, rfl, he, hm, qq⟩ := h
    refine ⟨_, (pss_cons (HM.ps_match (pv 0) (HM.pm_tag rfl scBound.nd (.name (i := 1) rfl (.inl rfl) (by first | exact .inl rfl | exact .inr rfl) (.wild (.wild .nil))) (pss_one (ps_ret (pe_tup (pa_cons (pe_tup pa_nil) (pa_cons (pe_tup (pa_cons (pv 1) pa_nil)) pa_nil)))))
          (HM.pm_tag rfl scBound.nd (.wild (.wild (.name (i := 2) rfl (.inl rfl) (by first | exact .inl rfl | exact .inr rfl) (.name (i := 3) rfl (.inl rfl) (by first | exact .inl rfl | exact .inr rfl) (.wild .nil))))) (pss_one (ps_ret (pe_tup (pa_cons (pe_tup pa_nil) (pa_cons (pe_tup pa_nil) (pa_cons (pe_tup (pa_cons (pv 2) (pa_cons (pv 3) pa_nil))) pa_nil))))))
          (HM.pm_tag rfl scBound.nd (.wild (.name (i := 4) rfl (.inl rfl) (by first | exact .inl rfl | exact .inr rfl) .nil)) (pss_one (ps_ret (pe_tup (pa_cons (pe_tup pa_nil) (StX.pa_star (pe_lc (own := [("arm", 5)]) (g := (gName 5)) (by rfl) scBound.nd (HK.pi_tupK (K := K) rfl (pv 4)) (blkOk_by (own := [("arm", 5)]) (N := ["e", "name", "item", "rest", "arms", "arm", "_"]) (sc := defScope sBound) (by decide +kernel)) (fun _ _ _ _ _ => (pg_name (i := 5) scBound.nd rfl (Or.inl rfl))) (fun _ _ _ _ _ => pts_nil) (fun _ _ _ _ _ => (pe_ix (HL.ix_tupK (K := K) rfl) (pv 5) pe_int (fun _ _ => rfl)))) pa_nil)))))
          HM.pm_nil))))
        (pss_one (ps_ret (pe_callTy call_tuple_of (by rfl) Z.tuple HL.boot_tuple (pa_cons (pe_lc (own := [("_", 6)]) (g := (gName 6)) (by rfl) scBound.nd (HK.pi_tupK (K := K) rfl (pe_call GParts (hr.mono (by omega)) (by rfl) Z.DParts.g Z.DParts.F.kp Z.DParts.b .nil pass0 (pa_cons (pv 0) pa_nil))) (blkOk_by (own := [("_", 6)]) (N := ["e", "name", "item", "rest", "arms", "arm", "_"]) (sc := defScope sBound) (by decide +kernel)) (fun _ _ _ _ _ => (pg_name (i := 6) scBound.nd rfl (Or.inl rfl))) (fun _ _ _ _ _ => pts_nil) (fun _ _ _ _ _ => (pe_tup pa_nil))) pa_nil))))), ?_⟩
    cases e with
    | lit f v =>
      have he0 := he
      obtain ⟨hf, _, t, rfl, ht⟩ := he
      rcases hf with rfl | rfl | rfl
      · refine ⟨_, rfl, t, "number", [v], rfl, SqT.of ht, iteNo (fun h => absurd h.1 (by decide +kernel)) ⟨t, "number", [v], rfl, SqT.of ht, iteNo (fun h => absurd h.1 (by decide +kernel)) ⟨t, "number", [v], rfl, SqT.of ht, iteNo (fun h => absurd h.1 (by decide +kernel)) ?_⟩⟩⟩
        refine ⟨_, rfl, _, _, rfl, he0, rfl, fun H1 t1 us1 s1 ht1 hl1 hu1 => ⟨t1, rfl, ⟨_, SqT.of ht1⟩, fun D hD => ?_⟩⟩
        refine lc_it walk_tup (fun i H' => Same H1 H' ∧ ∃ acc, H' D = some (.lst acc) ∧ All2 (BndAt H') acc (List.replicate i [])) ⟨same_upd hD, [], upd_same, .nil⟩ (fun i H' _ p => SqT.of (p.1 _ _ ht1)) ?_ ?_
        · rintro i x H2 H3 hi ⟨s2, acc, hD1, hacc⟩ ⟨rfl, hx⟩
          refine ⟨rfl, lc_yes ⟨Nat.zero_le _, fun q hq => ?_⟩⟩
          have s3 := same_upd (o := .tup []) hq
          have g3 : upd H3 q (.tup []) q = some (.tup []) := upd_same
          generalize upd H3 q (.tup []) = H4 at s3 g3 ⊢
          have hD4 := s3 _ _ hD1
          have k1 := tk_lst (o := .lst (acc ++ [.ref q])) hD4
          have hal := hacc.len
          rw [List.length_replicate] at hal
          have h3 : 3 ≤ sizeLine := by decide
          exact ⟨_, hD4, by omega, fun b o hb => (by rw [upd_ne (ne_of_none hb hD)]; exact s3 _ _ (s2 _ _ hb)), _, upd_same, by rw [List.replicate_succ']; exact (hacc.mono fun v ns h => bnd_keep k1 (bnd_keep (TupK.of s3) h)).app (.one ⟨q, rfl, k1 _ _ g3, Nat.zero_le _⟩)⟩
        · rintro H2 ⟨s2, acc, hD1, hacc⟩
          refine ⟨D, _, rfl, .inl ⟨SqL.of hD1, fun T hT => ?_⟩⟩
          have s3 := same_upd (o := .tup acc) hT
          have hal := hacc.len
          rw [List.length_replicate] at hal
          refine qq _ T acc (Same.tr s1 (Same.tr s2 s3)) upd_same (by omega) ?_
          rw [hu1.len, ← map_rep] at hacc
          exact hacc.mono fun v ns h => bnd_keep (TupK.of s3) h
      · refine ⟨_, rfl, t, "text", [v], rfl, SqT.of ht, iteNo (fun h => absurd h.1 (by decide +kernel)) ⟨t, "text", [v], rfl, SqT.of ht, iteNo (fun h => absurd h.1 (by decide +kernel)) ⟨t, "text", [v], rfl, SqT.of ht, iteNo (fun h => absurd h.1 (by decide +kernel)) ?_⟩⟩⟩
        refine ⟨_, rfl, _, _, rfl, he0, rfl, fun H1 t1 us1 s1 ht1 hl1 hu1 => ⟨t1, rfl, ⟨_, SqT.of ht1⟩, fun D hD => ?_⟩⟩
        refine lc_it walk_tup (fun i H' => Same H1 H' ∧ ∃ acc, H' D = some (.lst acc) ∧ All2 (BndAt H') acc (List.replicate i [])) ⟨same_upd hD, [], upd_same, .nil⟩ (fun i H' _ p => SqT.of (p.1 _ _ ht1)) ?_ ?_
        · rintro i x H2 H3 hi ⟨s2, acc, hD1, hacc⟩ ⟨rfl, hx⟩
          refine ⟨rfl, lc_yes ⟨Nat.zero_le _, fun q hq => ?_⟩⟩
          have s3 := same_upd (o := .tup []) hq
          have g3 : upd H3 q (.tup []) q = some (.tup []) := upd_same
          generalize upd H3 q (.tup []) = H4 at s3 g3 ⊢
          have hD4 := s3 _ _ hD1
          have k1 := tk_lst (o := .lst (acc ++ [.ref q])) hD4
          have hal := hacc.len
          rw [List.length_replicate] at hal
          have h3 : 3 ≤ sizeLine := by decide
          exact ⟨_, hD4, by omega, fun b o hb => (by rw [upd_ne (ne_of_none hb hD)]; exact s3 _ _ (s2 _ _ hb)), _, upd_same, by rw [List.replicate_succ']; exact (hacc.mono fun v ns h => bnd_keep k1 (bnd_keep (TupK.of s3) h)).app (.one ⟨q, rfl, k1 _ _ g3, Nat.zero_le _⟩)⟩
        · rintro H2 ⟨s2, acc, hD1, hacc⟩
          refine ⟨D, _, rfl, .inl ⟨SqL.of hD1, fun T hT => ?_⟩⟩
          have s3 := same_upd (o := .tup acc) hT
          have hal := hacc.len
          rw [List.length_replicate] at hal
          refine qq _ T acc (Same.tr s1 (Same.tr s2 s3)) upd_same (by omega) ?_
          rw [hu1.len, ← map_rep] at hacc
          exact hacc.mono fun v ns h => bnd_keep (TupK.of s3) h
      · refine ⟨_, rfl, t, "bool", [v], rfl, SqT.of ht, iteNo (fun h => absurd h.1 (by decide +kernel)) ⟨t, "bool", [v], rfl, SqT.of ht, iteNo (fun h => absurd h.1 (by decide +kernel)) ⟨t, "bool", [v], rfl, SqT.of ht, iteNo (fun h => absurd h.1 (by decide +kernel)) ?_⟩⟩⟩
        refine ⟨_, rfl, _, _, rfl, he0, rfl, fun H1 t1 us1 s1 ht1 hl1 hu1 => ⟨t1, rfl, ⟨_, SqT.of ht1⟩, fun D hD => ?_⟩⟩
        refine lc_it walk_tup (fun i H' => Same H1 H' ∧ ∃ acc, H' D = some (.lst acc) ∧ All2 (BndAt H') acc (List.replicate i [])) ⟨same_upd hD, [], upd_same, .nil⟩ (fun i H' _ p => SqT.of (p.1 _ _ ht1)) ?_ ?_
        · rintro i x H2 H3 hi ⟨s2, acc, hD1, hacc⟩ ⟨rfl, hx⟩
          refine ⟨rfl, lc_yes ⟨Nat.zero_le _, fun q hq => ?_⟩⟩
          have s3 := same_upd (o := .tup []) hq
          have g3 : upd H3 q (.tup []) q = some (.tup []) := upd_same
          generalize upd H3 q (.tup []) = H4 at s3 g3 ⊢
          have hD4 := s3 _ _ hD1
          have k1 := tk_lst (o := .lst (acc ++ [.ref q])) hD4
          have hal := hacc.len
          rw [List.length_replicate] at hal
          have h3 : 3 ≤ sizeLine := by decide
          exact ⟨_, hD4, by omega, fun b o hb => (by rw [upd_ne (ne_of_none hb hD)]; exact s3 _ _ (s2 _ _ hb)), _, upd_same, by rw [List.replicate_succ']; exact (hacc.mono fun v ns h => bnd_keep k1 (bnd_keep (TupK.of s3) h)).app (.one ⟨q, rfl, k1 _ _ g3, Nat.zero_le _⟩)⟩
        · rintro H2 ⟨s2, acc, hD1, hacc⟩
          refine ⟨D, _, rfl, .inl ⟨SqL.of hD1, fun T hT => ?_⟩⟩
          have s3 := same_upd (o := .tup acc) hT
          have hal := hacc.len
          rw [List.length_replicate] at hal
          refine qq _ T acc (Same.tr s1 (Same.tr s2 s3)) upd_same (by omega) ?_
          rw [hu1.len, ← map_rep] at hacc
          exact hacc.mono fun v ns h => bnd_keep (TupK.of s3) h
    | name z =>
      have he0 := he
      obtain ⟨_, t, rfl, ht⟩ := he
      refine ⟨_, rfl, t, "name", [.str z], rfl, SqT.of ht, iteNo (fun h => absurd h.1 (by decide +kernel)) ⟨t, "name", [.str z], rfl, SqT.of ht, iteNo (fun h => absurd h.1 (by decide +kernel)) ⟨t, "name", [.str z], rfl, SqT.of ht, iteNo (fun h => absurd h.1 (by decide +kernel)) ?_⟩⟩⟩
      refine ⟨_, rfl, _, _, rfl, he0, rfl, fun H1 t1 us1 s1 ht1 hl1 hu1 => ⟨t1, rfl, ⟨_, SqT.of ht1⟩, fun D hD => ?_⟩⟩
      refine lc_it walk_tup (fun i H' => Same H1 H' ∧ ∃ acc, H' D = some (.lst acc) ∧ All2 (BndAt H') acc (List.replicate i [])) ⟨same_upd hD, [], upd_same, .nil⟩ (fun i H' _ p => SqT.of (p.1 _ _ ht1)) ?_ ?_
      · rintro i x H2 H3 hi ⟨s2, acc, hD1, hacc⟩ ⟨rfl, hx⟩
        refine ⟨rfl, lc_yes ⟨Nat.zero_le _, fun q hq => ?_⟩⟩
        have s3 := same_upd (o := .tup []) hq
        have g3 : upd H3 q (.tup []) q = some (.tup []) := upd_same
        generalize upd H3 q (.tup []) = H4 at s3 g3 ⊢
        have hD4 := s3 _ _ hD1
        have k1 := tk_lst (o := .lst (acc ++ [.ref q])) hD4
        have hal := hacc.len
        rw [List.length_replicate] at hal
        have h3 : 3 ≤ sizeLine := by decide
        exact ⟨_, hD4, by omega, fun b o hb => (by rw [upd_ne (ne_of_none hb hD)]; exact s3 _ _ (s2 _ _ hb)), _, upd_same, by rw [List.replicate_succ']; exact (hacc.mono fun v ns h => bnd_keep k1 (bnd_keep (TupK.of s3) h)).app (.one ⟨q, rfl, k1 _ _ g3, Nat.zero_le _⟩)⟩
      · rintro H2 ⟨s2, acc, hD1, hacc⟩
        refine ⟨D, _, rfl, .inl ⟨SqL.of hD1, fun T hT => ?_⟩⟩
        have s3 := same_upd (o := .tup acc) hT
        have hal := hacc.len
        rw [List.length_replicate] at hal
        refine qq _ T acc (Same.tr s1 (Same.tr s2 s3)) upd_same (by omega) ?_
        rw [hu1.len, ← map_rep] at hacc
        exact hacc.mono fun v ns h => bnd_keep (TupK.of s3) h
    | bin op a b =>
      have he0 := he
      obtain ⟨t, u, v, rfl, ht, ha, hb⟩ := he
      refine ⟨_, rfl, t, "binary", [.str op, u, v], rfl, SqT.of ht, iteNo (fun h => absurd h.1 (by decide +kernel)) ⟨t, "binary", [.str op, u, v], rfl, SqT.of ht, iteNo (fun h => absurd h.1 (by decide +kernel)) ⟨t, "binary", [.str op, u, v], rfl, SqT.of ht, iteNo (fun h => absurd h.1 (by decide +kernel)) ?_⟩⟩⟩
      refine ⟨_, rfl, _, _, rfl, he0, rfl, fun H1 t1 us1 s1 ht1 hl1 hu1 => ⟨t1, rfl, ⟨_, SqT.of ht1⟩, fun D hD => ?_⟩⟩
      refine lc_it walk_tup (fun i H' => Same H1 H' ∧ ∃ acc, H' D = some (.lst acc) ∧ All2 (BndAt H') acc (List.replicate i [])) ⟨same_upd hD, [], upd_same, .nil⟩ (fun i H' _ p => SqT.of (p.1 _ _ ht1)) ?_ ?_
      · rintro i x H2 H3 hi ⟨s2, acc, hD1, hacc⟩ ⟨rfl, hx⟩
        refine ⟨rfl, lc_yes ⟨Nat.zero_le _, fun q hq => ?_⟩⟩
        have s3 := same_upd (o := .tup []) hq
        have g3 : upd H3 q (.tup []) q = some (.tup []) := upd_same
        generalize upd H3 q (.tup []) = H4 at s3 g3 ⊢
        have hD4 := s3 _ _ hD1
        have k1 := tk_lst (o := .lst (acc ++ [.ref q])) hD4
        have hal := hacc.len
        rw [List.length_replicate] at hal
        have h3 : 3 ≤ sizeLine := by decide
        exact ⟨_, hD4, by omega, fun b o hb => (by rw [upd_ne (ne_of_none hb hD)]; exact s3 _ _ (s2 _ _ hb)), _, upd_same, by rw [List.replicate_succ']; exact (hacc.mono fun v ns h => bnd_keep k1 (bnd_keep (TupK.of s3) h)).app (.one ⟨q, rfl, k1 _ _ g3, Nat.zero_le _⟩)⟩
      · rintro H2 ⟨s2, acc, hD1, hacc⟩
        refine ⟨D, _, rfl, .inl ⟨SqL.of hD1, fun T hT => ?_⟩⟩
        have s3 := same_upd (o := .tup acc) hT
        have hal := hacc.len
        rw [List.length_replicate] at hal
        refine qq _ T acc (Same.tr s1 (Same.tr s2 s3)) upd_same (by omega) ?_
        rw [hu1.len, ← map_rep] at hacc
        exact hacc.mono fun v ns h => bnd_keep (TupK.of s3) h
    | neg a =>
      have he0 := he
      obtain ⟨t, u, rfl, ht, ha⟩ := he
      refine ⟨_, rfl, t, "not", [u], rfl, SqT.of ht, iteNo (fun h => absurd h.1 (by decide +kernel)) ⟨t, "not", [u], rfl, SqT.of ht, iteNo (fun h => absurd h.1 (by decide +kernel)) ⟨t, "not", [u], rfl, SqT.of ht, iteNo (fun h => absurd h.1 (by decide +kernel)) ?_⟩⟩⟩
      refine ⟨_, rfl, _, _, rfl, he0, rfl, fun H1 t1 us1 s1 ht1 hl1 hu1 => ⟨t1, rfl, ⟨_, SqT.of ht1⟩, fun D hD => ?_⟩⟩
      refine lc_it walk_tup (fun i H' => Same H1 H' ∧ ∃ acc, H' D = some (.lst acc) ∧ All2 (BndAt H') acc (List.replicate i [])) ⟨same_upd hD, [], upd_same, .nil⟩ (fun i H' _ p => SqT.of (p.1 _ _ ht1)) ?_ ?_
      · rintro i x H2 H3 hi ⟨s2, acc, hD1, hacc⟩ ⟨rfl, hx⟩
        refine ⟨rfl, lc_yes ⟨Nat.zero_le _, fun q hq => ?_⟩⟩
        have s3 := same_upd (o := .tup []) hq
        have g3 : upd H3 q (.tup []) q = some (.tup []) := upd_same
        generalize upd H3 q (.tup []) = H4 at s3 g3 ⊢
        have hD4 := s3 _ _ hD1
        have k1 := tk_lst (o := .lst (acc ++ [.ref q])) hD4
        have hal := hacc.len
        rw [List.length_replicate] at hal
        have h3 : 3 ≤ sizeLine := by decide
        exact ⟨_, hD4, by omega, fun b o hb => (by rw [upd_ne (ne_of_none hb hD)]; exact s3 _ _ (s2 _ _ hb)), _, upd_same, by rw [List.replicate_succ']; exact (hacc.mono fun v ns h => bnd_keep k1 (bnd_keep (TupK.of s3) h)).app (.one ⟨q, rfl, k1 _ _ g3, Nat.zero_le _⟩)⟩
      · rintro H2 ⟨s2, acc, hD1, hacc⟩
        refine ⟨D, _, rfl, .inl ⟨SqL.of hD1, fun T hT => ?_⟩⟩
        have s3 := same_upd (o := .tup acc) hT
        have hal := hacc.len
        rw [List.length_replicate] at hal
        refine qq _ T acc (Same.tr s1 (Same.tr s2 s3)) upd_same (by omega) ?_
        rw [hu1.len, ← map_rep] at hacc
        exact hacc.mono fun v ns h => bnd_keep (TupK.of s3) h
    | ife a b c =>
      have he0 := he
      obtain ⟨t, u, v, y, rfl, ht, ha, hb, hc⟩ := he
      refine ⟨_, rfl, t, "if", [u, v, y], rfl, SqT.of ht, iteNo (fun h => absurd h.1 (by decide +kernel)) ⟨t, "if", [u, v, y], rfl, SqT.of ht, iteNo (fun h => absurd h.1 (by decide +kernel)) ⟨t, "if", [u, v, y], rfl, SqT.of ht, iteNo (fun h => absurd h.1 (by decide +kernel)) ?_⟩⟩⟩
      refine ⟨_, rfl, _, _, rfl, he0, rfl, fun H1 t1 us1 s1 ht1 hl1 hu1 => ⟨t1, rfl, ⟨_, SqT.of ht1⟩, fun D hD => ?_⟩⟩
      refine lc_it walk_tup (fun i H' => Same H1 H' ∧ ∃ acc, H' D = some (.lst acc) ∧ All2 (BndAt H') acc (List.replicate i [])) ⟨same_upd hD, [], upd_same, .nil⟩ (fun i H' _ p => SqT.of (p.1 _ _ ht1)) ?_ ?_
      · rintro i x H2 H3 hi ⟨s2, acc, hD1, hacc⟩ ⟨rfl, hx⟩
        refine ⟨rfl, lc_yes ⟨Nat.zero_le _, fun q hq => ?_⟩⟩
        have s3 := same_upd (o := .tup []) hq
        have g3 : upd H3 q (.tup []) q = some (.tup []) := upd_same
        generalize upd H3 q (.tup []) = H4 at s3 g3 ⊢
        have hD4 := s3 _ _ hD1
        have k1 := tk_lst (o := .lst (acc ++ [.ref q])) hD4
        have hal := hacc.len
        rw [List.length_replicate] at hal
        have h3 : 3 ≤ sizeLine := by decide
        exact ⟨_, hD4, by omega, fun b o hb => (by rw [upd_ne (ne_of_none hb hD)]; exact s3 _ _ (s2 _ _ hb)), _, upd_same, by rw [List.replicate_succ']; exact (hacc.mono fun v ns h => bnd_keep k1 (bnd_keep (TupK.of s3) h)).app (.one ⟨q, rfl, k1 _ _ g3, Nat.zero_le _⟩)⟩
      · rintro H2 ⟨s2, acc, hD1, hacc⟩
        refine ⟨D, _, rfl, .inl ⟨SqL.of hD1, fun T hT => ?_⟩⟩
        have s3 := same_upd (o := .tup acc) hT
        have hal := hacc.len
        rw [List.length_replicate] at hal
        refine qq _ T acc (Same.tr s1 (Same.tr s2 s3)) upd_same (by omega) ?_
        rw [hu1.len, ← map_rep] at hacc
        exact hacc.mono fun v ns h => bnd_keep (TupK.of s3) h
    | lt z a b =>
      have he0 := he
      obtain ⟨hz0, t, u, v, rfl, ht, ha, hb⟩ := he
      refine ⟨_, rfl, t, "let", [.str z, u, v], rfl, SqT.of ht, iteYes ⟨rfl, rfl⟩ ?_⟩
      exact ⟨Nat.zero_le _, fun p hp => ⟨_, rfl, by show 1 ≤ sizeLine; decide, fun q hq => ⟨by show 2 ≤ sizeLine; decide, bnd1 qq z rfl p hp q hq⟩⟩⟩
    | cons a b =>
      have he0 := he
      obtain ⟨t, u, v, rfl, ht, ha, hb⟩ := he
      refine ⟨_, rfl, t, "cons", [u, v], rfl, SqT.of ht, iteNo (fun h => absurd h.1 (by decide +kernel)) ⟨t, "cons", [u, v], rfl, SqT.of ht, iteNo (fun h => absurd h.1 (by decide +kernel)) ⟨t, "cons", [u, v], rfl, SqT.of ht, iteNo (fun h => absurd h.1 (by decide +kernel)) ?_⟩⟩⟩
      refine ⟨_, rfl, _, _, rfl, he0, rfl, fun H1 t1 us1 s1 ht1 hl1 hu1 => ⟨t1, rfl, ⟨_, SqT.of ht1⟩, fun D hD => ?_⟩⟩
      refine lc_it walk_tup (fun i H' => Same H1 H' ∧ ∃ acc, H' D = some (.lst acc) ∧ All2 (BndAt H') acc (List.replicate i [])) ⟨same_upd hD, [], upd_same, .nil⟩ (fun i H' _ p => SqT.of (p.1 _ _ ht1)) ?_ ?_
      · rintro i x H2 H3 hi ⟨s2, acc, hD1, hacc⟩ ⟨rfl, hx⟩
        refine ⟨rfl, lc_yes ⟨Nat.zero_le _, fun q hq => ?_⟩⟩
        have s3 := same_upd (o := .tup []) hq
        have g3 : upd H3 q (.tup []) q = some (.tup []) := upd_same
        generalize upd H3 q (.tup []) = H4 at s3 g3 ⊢
        have hD4 := s3 _ _ hD1
        have k1 := tk_lst (o := .lst (acc ++ [.ref q])) hD4
        have hal := hacc.len
        rw [List.length_replicate] at hal
        have h3 : 3 ≤ sizeLine := by decide
        exact ⟨_, hD4, by omega, fun b o hb => (by rw [upd_ne (ne_of_none hb hD)]; exact s3 _ _ (s2 _ _ hb)), _, upd_same, by rw [List.replicate_succ']; exact (hacc.mono fun v ns h => bnd_keep k1 (bnd_keep (TupK.of s3) h)).app (.one ⟨q, rfl, k1 _ _ g3, Nat.zero_le _⟩)⟩
      · rintro H2 ⟨s2, acc, hD1, hacc⟩
        refine ⟨D, _, rfl, .inl ⟨SqL.of hD1, fun T hT => ?_⟩⟩
        have s3 := same_upd (o := .tup acc) hT
        have hal := hacc.len
        rw [List.length_replicate] at hal
        refine qq _ T acc (Same.tr s1 (Same.tr s2 s3)) upd_same (by omega) ?_
        rw [hu1.len, ← map_rep] at hacc
        exact hacc.mono fun v ns h => bnd_keep (TupK.of s3) h
    | list es =>
      have he0 := he
      obtain ⟨t, q, us, rfl, ht, hq, hl, ha⟩ := he
      refine ⟨_, rfl, t, "list", [.ref q], rfl, SqT.of ht, iteNo (fun h => absurd h.1 (by decide +kernel)) ⟨t, "list", [.ref q], rfl, SqT.of ht, iteNo (fun h => absurd h.1 (by decide +kernel)) ⟨t, "list", [.ref q], rfl, SqT.of ht, iteNo (fun h => absurd h.1 (by decide +kernel)) ?_⟩⟩⟩
      refine ⟨_, rfl, _, _, rfl, he0, rfl, fun H1 t1 us1 s1 ht1 hl1 hu1 => ⟨t1, rfl, ⟨_, SqT.of ht1⟩, fun D hD => ?_⟩⟩
      refine lc_it walk_tup (fun i H' => Same H1 H' ∧ ∃ acc, H' D = some (.lst acc) ∧ All2 (BndAt H') acc (List.replicate i [])) ⟨same_upd hD, [], upd_same, .nil⟩ (fun i H' _ p => SqT.of (p.1 _ _ ht1)) ?_ ?_
      · rintro i x H2 H3 hi ⟨s2, acc, hD1, hacc⟩ ⟨rfl, hx⟩
        refine ⟨rfl, lc_yes ⟨Nat.zero_le _, fun q hq => ?_⟩⟩
        have s3 := same_upd (o := .tup []) hq
        have g3 : upd H3 q (.tup []) q = some (.tup []) := upd_same
        generalize upd H3 q (.tup []) = H4 at s3 g3 ⊢
        have hD4 := s3 _ _ hD1
        have k1 := tk_lst (o := .lst (acc ++ [.ref q])) hD4
        have hal := hacc.len
        rw [List.length_replicate] at hal
        have h3 : 3 ≤ sizeLine := by decide
        exact ⟨_, hD4, by omega, fun b o hb => (by rw [upd_ne (ne_of_none hb hD)]; exact s3 _ _ (s2 _ _ hb)), _, upd_same, by rw [List.replicate_succ']; exact (hacc.mono fun v ns h => bnd_keep k1 (bnd_keep (TupK.of s3) h)).app (.one ⟨q, rfl, k1 _ _ g3, Nat.zero_le _⟩)⟩
      · rintro H2 ⟨s2, acc, hD1, hacc⟩
        refine ⟨D, _, rfl, .inl ⟨SqL.of hD1, fun T hT => ?_⟩⟩
        have s3 := same_upd (o := .tup acc) hT
        have hal := hacc.len
        rw [List.length_replicate] at hal
        refine qq _ T acc (Same.tr s1 (Same.tr s2 s3)) upd_same (by omega) ?_
        rw [hu1.len, ← map_rep] at hacc
        exact hacc.mono fun v ns h => bnd_keep (TupK.of s3) h
    | call f es =>
      have he0 := he
      obtain ⟨hf0, t, q, us, rfl, ht, hq, hl, ha⟩ := he
      refine ⟨_, rfl, t, "call", [.str f, .ref q], rfl, SqT.of ht, iteNo (fun h => absurd h.1 (by decide +kernel)) ⟨t, "call", [.str f, .ref q], rfl, SqT.of ht, iteNo (fun h => absurd h.1 (by decide +kernel)) ⟨t, "call", [.str f, .ref q], rfl, SqT.of ht, iteNo (fun h => absurd h.1 (by decide +kernel)) ?_⟩⟩⟩
      refine ⟨_, rfl, _, _, rfl, he0, rfl, fun H1 t1 us1 s1 ht1 hl1 hu1 => ⟨t1, rfl, ⟨_, SqT.of ht1⟩, fun D hD => ?_⟩⟩
      refine lc_it walk_tup (fun i H' => Same H1 H' ∧ ∃ acc, H' D = some (.lst acc) ∧ All2 (BndAt H') acc (List.replicate i [])) ⟨same_upd hD, [], upd_same, .nil⟩ (fun i H' _ p => SqT.of (p.1 _ _ ht1)) ?_ ?_
      · rintro i x H2 H3 hi ⟨s2, acc, hD1, hacc⟩ ⟨rfl, hx⟩
        refine ⟨rfl, lc_yes ⟨Nat.zero_le _, fun q hq => ?_⟩⟩
        have s3 := same_upd (o := .tup []) hq
        have g3 : upd H3 q (.tup []) q = some (.tup []) := upd_same
        generalize upd H3 q (.tup []) = H4 at s3 g3 ⊢
        have hD4 := s3 _ _ hD1
        have k1 := tk_lst (o := .lst (acc ++ [.ref q])) hD4
        have hal := hacc.len
        rw [List.length_replicate] at hal
        have h3 : 3 ≤ sizeLine := by decide
        exact ⟨_, hD4, by omega, fun b o hb => (by rw [upd_ne (ne_of_none hb hD)]; exact s3 _ _ (s2 _ _ hb)), _, upd_same, by rw [List.replicate_succ']; exact (hacc.mono fun v ns h => bnd_keep k1 (bnd_keep (TupK.of s3) h)).app (.one ⟨q, rfl, k1 _ _ g3, Nat.zero_le _⟩)⟩
      · rintro H2 ⟨s2, acc, hD1, hacc⟩
        refine ⟨D, _, rfl, .inl ⟨SqL.of hD1, fun T hT => ?_⟩⟩
        have s3 := same_upd (o := .tup acc) hT
        have hal := hacc.len
        rw [List.length_replicate] at hal
        refine qq _ T acc (Same.tr s1 (Same.tr s2 s3)) upd_same (by omega) ?_
        rw [hu1.len, ← map_rep] at hacc
        exact hacc.mono fun v ns h => bnd_keep (TupK.of s3) h
    | make f es =>
      have he0 := he
      obtain ⟨hf0, t, q, us, rfl, ht, hq, hl, ha⟩ := he
      refine ⟨_, rfl, t, "make", [.str f, .ref q], rfl, SqT.of ht, iteNo (fun h => absurd h.1 (by decide +kernel)) ⟨t, "make", [.str f, .ref q], rfl, SqT.of ht, iteNo (fun h => absurd h.1 (by decide +kernel)) ⟨t, "make", [.str f, .ref q], rfl, SqT.of ht, iteNo (fun h => absurd h.1 (by decide +kernel)) ?_⟩⟩⟩
      refine ⟨_, rfl, _, _, rfl, he0, rfl, fun H1 t1 us1 s1 ht1 hl1 hu1 => ⟨t1, rfl, ⟨_, SqT.of ht1⟩, fun D hD => ?_⟩⟩
      refine lc_it walk_tup (fun i H' => Same H1 H' ∧ ∃ acc, H' D = some (.lst acc) ∧ All2 (BndAt H') acc (List.replicate i [])) ⟨same_upd hD, [], upd_same, .nil⟩ (fun i H' _ p => SqT.of (p.1 _ _ ht1)) ?_ ?_
      · rintro i x H2 H3 hi ⟨s2, acc, hD1, hacc⟩ ⟨rfl, hx⟩
        refine ⟨rfl, lc_yes ⟨Nat.zero_le _, fun q hq => ?_⟩⟩
        have s3 := same_upd (o := .tup []) hq
        have g3 : upd H3 q (.tup []) q = some (.tup []) := upd_same
        generalize upd H3 q (.tup []) = H4 at s3 g3 ⊢
        have hD4 := s3 _ _ hD1
        have k1 := tk_lst (o := .lst (acc ++ [.ref q])) hD4
        have hal := hacc.len
        rw [List.length_replicate] at hal
        have h3 : 3 ≤ sizeLine := by decide
        exact ⟨_, hD4, by omega, fun b o hb => (by rw [upd_ne (ne_of_none hb hD)]; exact s3 _ _ (s2 _ _ hb)), _, upd_same, by rw [List.replicate_succ']; exact (hacc.mono fun v ns h => bnd_keep k1 (bnd_keep (TupK.of s3) h)).app (.one ⟨q, rfl, k1 _ _ g3, Nat.zero_le _⟩)⟩
      · rintro H2 ⟨s2, acc, hD1, hacc⟩
        refine ⟨D, _, rfl, .inl ⟨SqL.of hD1, fun T hT => ?_⟩⟩
        have s3 := same_upd (o := .tup acc) hT
        have hal := hacc.len
        rw [List.length_replicate] at hal
        refine qq _ T acc (Same.tr s1 (Same.tr s2 s3)) upd_same (by omega) ?_
        rw [hu1.len, ← map_rep] at hacc
        exact hacc.mono fun v ns h => bnd_keep (TupK.of s3) h
    | split a b z y c =>
      have he0 := he
      obtain ⟨hz0, hy0, t, u, v, r, rfl, ht, ha, hb, hc⟩ := he
      refine ⟨_, rfl, t, "split", [u, v, .str z, .str y, r], rfl, SqT.of ht, iteNo (fun h => absurd h.1 (by decide +kernel)) ⟨t, "split", [u, v, .str z, .str y, r], rfl, SqT.of ht, iteYes ⟨rfl, rfl⟩ ?_⟩⟩
      exact ⟨Nat.zero_le _, fun p hp => ⟨Nat.zero_le _, fun p2 hp2 => ⟨_, rfl, _, rfl, by show 2 ≤ sizeLine; decide, fun q hq => ⟨by show 3 ≤ sizeLine; decide, bnd2 qq z y rfl p hp p2 hp2 q hq⟩⟩⟩⟩
    | mat a arms => cases hm
def MenAt (H : Hp) : V → Bool × Str → Prop := IsRow (fun x => [V.bl x.1, V.str x.2]) H
def spStart (n : Nat) : Sp := fun vs H Q _ => ∃ (x : V) (e : Ex) (nt : Addr) (ns : List Str), vs = [x, .ref nt] ∧ ExAt H (n + 1) e x ∧ isMat e = false ∧ H nt = some (.tup (ns.map V.str)) ∧
  ∀ H' l us, Same H H' → H l = none → H' l = some (.lst us) → All2 (MenAt H') us (start e ns) → Q (.ref l) H'
theorem ok_start {k n : Nat} (Z : Defs K mg) : FnOk P w K mg base CX0 (k + 1) Z.fMentionedAtStart Z.fdMentionedAtStart ["e", "local"] (spStart n) := by
  refine Z.DMentionedAtStart.F.ok scMentionedAtStart (fun vs H Q E h => ?_) (fun cdv A outer s H vs Q E hr h => ?_)
  · obtain ⟨x, e, nt, ns, rfl, _⟩ := h
    rfl
  · obtain ⟨x, e, nt, ns, rfl, he, hm, hn, qq⟩ := h
    refine ⟨_, (pss_cons (HM.ps_match (pv 0) (HM.pm_tag rfl scMentionedAtStart.nd (.name (i := 2) rfl (.inl rfl) (by first | exact .inl rfl | exact .inr rfl) .nil) (pss_one (ps_ret (pe_ifExp (pt_cmpR op_in_seq (pv 2) (pv 1) rfl) (pe_lst pa_nil) (pe_lst (pa_cons (pe_tup (pa_cons pe_bl (pa_cons (pv 2) pa_nil))) pa_nil)))))
          (HM.pm_tag rfl scMentionedAtStart.nd (.name (i := 2) rfl (.inl rfl) (by first | exact .inl rfl | exact .inr rfl) (.wild .nil)) (pss_one (ps_ret (pe_lst (pa_cons (pe_tup (pa_cons pe_bl (pa_cons (pv 2) pa_nil))) pa_nil))))
          (HM.pm_tag rfl scMentionedAtStart.nd (.name (i := 3) rfl (.inl rfl) (by first | exact .inl rfl | exact .inr rfl) (.wild .nil)) (pss_one (ps_ret (pe_lst (pa_cons (pe_tup (pa_cons pe_bl (pa_cons (pv 3) pa_nil))) pa_nil))))
          HM.pm_nil))))
        (pss_one (ps_ret (pe_lst pa_nil)))), ?_⟩
    cases e with
    | lit f v =>
      obtain ⟨hf, _, t, rfl, ht⟩ := he
      rcases hf with rfl | rfl | rfl
      · refine ⟨_, rfl, t, "number", [v], rfl, SqT.of ht, iteNo (fun h => absurd h.1 (by decide +kernel)) ⟨t, "number", [v], rfl, SqT.of ht, iteNo (fun h => absurd h.1 (by decide +kernel)) ⟨t, "number", [v], rfl, SqT.of ht, iteNo (fun h => absurd h.1 (by decide +kernel)) ?_⟩⟩⟩
        exact ⟨Nat.zero_le _, fun D hD => qq _ D [] (same_upd hD) hD upd_same .nil⟩
      · refine ⟨_, rfl, t, "text", [v], rfl, SqT.of ht, iteNo (fun h => absurd h.1 (by decide +kernel)) ⟨t, "text", [v], rfl, SqT.of ht, iteNo (fun h => absurd h.1 (by decide +kernel)) ⟨t, "text", [v], rfl, SqT.of ht, iteNo (fun h => absurd h.1 (by decide +kernel)) ?_⟩⟩⟩
        exact ⟨Nat.zero_le _, fun D hD => qq _ D [] (same_upd hD) hD upd_same .nil⟩
      · refine ⟨_, rfl, t, "bool", [v], rfl, SqT.of ht, iteNo (fun h => absurd h.1 (by decide +kernel)) ⟨t, "bool", [v], rfl, SqT.of ht, iteNo (fun h => absurd h.1 (by decide +kernel)) ⟨t, "bool", [v], rfl, SqT.of ht, iteNo (fun h => absurd h.1 (by decide +kernel)) ?_⟩⟩⟩
        exact ⟨Nat.zero_le _, fun D hD => qq _ D [] (same_upd hD) hD upd_same .nil⟩
    | name z =>
      obtain ⟨hz0, t, rfl, ht⟩ := he
      refine ⟨_, rfl, t, "name", [.str z], rfl, SqT.of ht, iteYes ⟨rfl, rfl⟩ ?_⟩
      refine ⟨_, rfl, _, rfl, nt, _, rfl, .inr (SqT.of hn), rfl, flat_strs ns, _, rfl, ?_⟩
      rw [inV_str]
      have qs : start (.name z) ns = if z ∈ ns then [] else [(false, z)] := rfl
      rw [qs] at qq
      by_cases hz : z ∈ ns
      · rw [if_pos hz] at qq
        rw [decide_eq_true hz]
        exact iteT ⟨Nat.zero_le _, fun D hD => qq _ D [] (same_upd hD) hD upd_same .nil⟩
      · rw [if_neg hz] at qq
        rw [decide_eq_false hz]
        refine iteF ?_
        refine ⟨_, rfl, by show 2 ≤ sizeLine; decide, fun T hT => ?_⟩
        have sT := same_upd (o := .tup [.bl false, .str z]) hT
        have gT : upd H T (.tup [.bl false, .str z]) T = some (.tup [.bl false, .str z]) := upd_same
        generalize upd H T (.tup [.bl false, .str z]) = H1 at sT gT
        exact ⟨by show 1 ≤ sizeLine; decide, fun D hD => qq _ D [.ref T] (Same.tr sT (same_upd hD)) (Same.none sT hD) upd_same (.one ⟨T, rfl, same_upd hD _ _ gT⟩)⟩
    | bin op a b =>
      obtain ⟨t, u, v, rfl, ht, ha, hb⟩ := he
      refine ⟨_, rfl, t, "binary", [.str op, u, v], rfl, SqT.of ht, iteNo (fun h => absurd h.1 (by decide +kernel)) ⟨t, "binary", [.str op, u, v], rfl, SqT.of ht, iteNo (fun h => absurd h.1 (by decide +kernel)) ⟨t, "binary", [.str op, u, v], rfl, SqT.of ht, iteNo (fun h => absurd h.1 (by decide +kernel)) ?_⟩⟩⟩
      exact ⟨Nat.zero_le _, fun D hD => qq _ D [] (same_upd hD) hD upd_same .nil⟩
    | neg a =>
      obtain ⟨t, u, rfl, ht, ha⟩ := he
      refine ⟨_, rfl, t, "not", [u], rfl, SqT.of ht, iteNo (fun h => absurd h.1 (by decide +kernel)) ⟨t, "not", [u], rfl, SqT.of ht, iteNo (fun h => absurd h.1 (by decide +kernel)) ⟨t, "not", [u], rfl, SqT.of ht, iteNo (fun h => absurd h.1 (by decide +kernel)) ?_⟩⟩⟩
      exact ⟨Nat.zero_le _, fun D hD => qq _ D [] (same_upd hD) hD upd_same .nil⟩
    | ife a b c =>
      obtain ⟨t, u, v, y, rfl, ht, ha, hb, hc⟩ := he
      refine ⟨_, rfl, t, "if", [u, v, y], rfl, SqT.of ht, iteNo (fun h => absurd h.1 (by decide +kernel)) ⟨t, "if", [u, v, y], rfl, SqT.of ht, iteNo (fun h => absurd h.1 (by decide +kernel)) ⟨t, "if", [u, v, y], rfl, SqT.of ht, iteNo (fun h => absurd h.1 (by decide +kernel)) ?_⟩⟩⟩
      exact ⟨Nat.zero_le _, fun D hD => qq _ D [] (same_upd hD) hD upd_same .nil⟩
    | lt z a b =>
      obtain ⟨hz0, t, u, v, rfl, ht, ha, hb⟩ := he
      refine ⟨_, rfl, t, "let", [.str z, u, v], rfl, SqT.of ht, iteNo (fun h => absurd h.1 (by decide +kernel)) ⟨t, "let", [.str z, u, v], rfl, SqT.of ht, iteNo (fun h => absurd h.1 (by decide +kernel)) ⟨t, "let", [.str z, u, v], rfl, SqT.of ht, iteNo (fun h => absurd h.1 (by decide +kernel)) ?_⟩⟩⟩
      exact ⟨Nat.zero_le _, fun D hD => qq _ D [] (same_upd hD) hD upd_same .nil⟩
    | cons a b =>
      obtain ⟨t, u, v, rfl, ht, ha, hb⟩ := he
      refine ⟨_, rfl, t, "cons", [u, v], rfl, SqT.of ht, iteNo (fun h => absurd h.1 (by decide +kernel)) ⟨t, "cons", [u, v], rfl, SqT.of ht, iteNo (fun h => absurd h.1 (by decide +kernel)) ⟨t, "cons", [u, v], rfl, SqT.of ht, iteNo (fun h => absurd h.1 (by decide +kernel)) ?_⟩⟩⟩
      exact ⟨Nat.zero_le _, fun D hD => qq _ D [] (same_upd hD) hD upd_same .nil⟩
    | list es =>
      obtain ⟨t, q, us, rfl, ht, hq, hl, ha⟩ := he
      refine ⟨_, rfl, t, "list", [.ref q], rfl, SqT.of ht, iteNo (fun h => absurd h.1 (by decide +kernel)) ⟨t, "list", [.ref q], rfl, SqT.of ht, iteNo (fun h => absurd h.1 (by decide +kernel)) ⟨t, "list", [.ref q], rfl, SqT.of ht, iteNo (fun h => absurd h.1 (by decide +kernel)) ?_⟩⟩⟩
      exact ⟨Nat.zero_le _, fun D hD => qq _ D [] (same_upd hD) hD upd_same .nil⟩
    | call f es =>
      obtain ⟨hf0, t, q, us, rfl, ht, hq, hl, ha⟩ := he
      refine ⟨_, rfl, t, "call", [.str f, .ref q], rfl, SqT.of ht, iteNo (fun h => absurd h.1 (by decide +kernel)) ⟨t, "call", [.str f, .ref q], rfl, SqT.of ht, iteYes ⟨rfl, rfl⟩ ?_⟩⟩
      refine ⟨_, rfl, by show 2 ≤ sizeLine; decide, fun T hT => ?_⟩
      have sT := same_upd (o := .tup [.bl false, .str f]) hT
      have gT : upd H T (.tup [.bl false, .str f]) T = some (.tup [.bl false, .str f]) := upd_same
      generalize upd H T (.tup [.bl false, .str f]) = H1 at sT gT
      exact ⟨by show 1 ≤ sizeLine; decide, fun D hD => qq _ D [.ref T] (Same.tr sT (same_upd hD)) (Same.none sT hD) upd_same (.one ⟨T, rfl, same_upd hD _ _ gT⟩)⟩
    | make f es =>
      obtain ⟨hf0, t, q, us, rfl, ht, hq, hl, ha⟩ := he
      refine ⟨_, rfl, t, "make", [.str f, .ref q], rfl, SqT.of ht, iteNo (fun h => absurd h.1 (by decide +kernel)) ⟨t, "make", [.str f, .ref q], rfl, SqT.of ht, iteNo (fun h => absurd h.1 (by decide +kernel)) ⟨t, "make", [.str f, .ref q], rfl, SqT.of ht, iteYes ⟨rfl, rfl⟩ ?_⟩⟩⟩
      refine ⟨_, rfl, by show 2 ≤ sizeLine; decide, fun T hT => ?_⟩
      have sT := same_upd (o := .tup [.bl true, .str f]) hT
      have gT : upd H T (.tup [.bl true, .str f]) T = some (.tup [.bl true, .str f]) := upd_same
      generalize upd H T (.tup [.bl true, .str f]) = H1 at sT gT
      exact ⟨by show 1 ≤ sizeLine; decide, fun D hD => qq _ D [.ref T] (Same.tr sT (same_upd hD)) (Same.none sT hD) upd_same (.one ⟨T, rfl, same_upd hD _ _ gT⟩)⟩
    | split a b z y c =>
      obtain ⟨hz0, hy0, t, u, v, r, rfl, ht, ha, hb, hc⟩ := he
      refine ⟨_, rfl, t, "split", [u, v, .str z, .str y, r], rfl, SqT.of ht, iteNo (fun h => absurd h.1 (by decide +kernel)) ⟨t, "split", [u, v, .str z, .str y, r], rfl, SqT.of ht, iteNo (fun h => absurd h.1 (by decide +kernel)) ⟨t, "split", [u, v, .str z, .str y, r], rfl, SqT.of ht, iteNo (fun h => absurd h.1 (by decide +kernel)) ?_⟩⟩⟩
      exact ⟨Nat.zero_le _, fun D hD => qq _ D [] (same_upd hD) hD upd_same .nil⟩
    | mat a arms => cases hm
end
end Q11
namespace Q11
open PySem PySem.Spec PyProof.Rows L2 SX HL
section
variable {P : Program} {w : World} {K : PySem.W.Frag} {mg : Str → Option Value} {base : Heap}
/-! ### mentioned -/
theorem ex_tag {H : Hp} {n : Nat} {e : Ex} {x : V} (h : ExAt H (n + 1) e x) : ∃ t tag xs, x = .ref t ∧ H t = some (.tup (.str tag :: xs)) ∧ (isMat e = true ↔ tag = "match") := by
  cases e with
  | lit f v =>
    obtain ⟨hf, _, t, e, ht⟩ := h
    rcases hf with rfl | rfl | rfl
    · exact ⟨t, _, _, e, ht, by simp [isMat]; decide +kernel⟩
    · exact ⟨t, _, _, e, ht, by simp [isMat]; decide +kernel⟩
    · exact ⟨t, _, _, e, ht, by simp [isMat]; decide +kernel⟩
  | name z => obtain ⟨_, t, e, ht⟩ := h; exact ⟨t, _, _, e, ht, by simp [isMat]; decide +kernel⟩
  | bin op a b => obtain ⟨t, u, v, e, ht, _⟩ := h; exact ⟨t, _, _, e, ht, by simp [isMat]; decide +kernel⟩
  | neg a => obtain ⟨t, u, e, ht, _⟩ := h; exact ⟨t, _, _, e, ht, by simp [isMat]; decide +kernel⟩
  | ife a b c => obtain ⟨t, u, v, w, e, ht, _⟩ := h; exact ⟨t, _, _, e, ht, by simp [isMat]; decide +kernel⟩
  | lt z a b => obtain ⟨_, t, u, v, e, ht, _⟩ := h; exact ⟨t, _, _, e, ht, by simp [isMat]; decide +kernel⟩
  | cons a b => obtain ⟨t, u, v, e, ht, _⟩ := h; exact ⟨t, _, _, e, ht, by simp [isMat]; decide +kernel⟩
  | list es => obtain ⟨t, q, us, e, ht, _⟩ := h; exact ⟨t, _, _, e, ht, by simp [isMat]; decide +kernel⟩
  | call f es => obtain ⟨_, t, q, us, e, ht, _⟩ := h; exact ⟨t, _, _, e, ht, by simp [isMat]; decide +kernel⟩
  | make f es => obtain ⟨_, t, q, us, e, ht, _⟩ := h; exact ⟨t, _, _, e, ht, by simp [isMat]; decide +kernel⟩
  | split a b z y c => obtain ⟨_, _, t, u, v, w, e, ht, _⟩ := h; exact ⟨t, _, _, e, ht, by simp [isMat]; decide +kernel⟩
  | mat a arms => obtain ⟨t, u, q, us, e, ht, _⟩ := h; exact ⟨t, _, _, e, ht, by simp [isMat]⟩
theorem MenAt.keep {H H' : Hp} (k : TupK H H') {us : List V} {l : List (Bool × Str)} (h : All2 (MenAt H) us l) : All2 (MenAt H') us l := h.mono fun _ _ r => IsRow.same r fun t o q => k t o q
theorem mB4 {n : Nat} (h : n ≤ 4) : mB n ≤ 340 := by
  have : n = 0 ∨ n = 1 ∨ n = 2 ∨ n = 3 ∨ n = 4 := by omega
  rcases this with rfl | rfl | rfl | rfl | rfl <;> decide
def spMent (n : Nat) : Sp := fun vs H Q _ => ∃ (x : V) (e : Ex) (nt : Addr) (ns : List Str), vs = [x, .ref nt] ∧ ExAt H n e x ∧ H nt = some (.tup (ns.map V.str)) ∧ ns.length + 2 * n ≤ 900 ∧
  ∀ H' l us, Same H H' → H l = none → H' l = some (.lst us) → All2 (MenAt H') us (ment n e ns) → Q (.ref l) H'
def spMatch (n : Nat) : Sp := fun vs H Q _ => ∃ (x : V) (e : Ex) (nt : Addr) (ns : List Str), vs = [x, .ref nt] ∧ ExAt H (n + 1) e x ∧ isMat e = true ∧ H nt = some (.tup (ns.map V.str)) ∧ ns.length + 2 * (n + 1) ≤ 900 ∧
  ∀ H' l us, Same H H' → H l = none → H' l = some (.lst us) → All2 (MenAt H') us (ment (n + 1) e ns) → Q (.ref l) H'
theorem len_app2 {xs ys : List V} {us vs : List (Bool × Str)} {H : Hp} (h1 : All2 (MenAt H) xs us) (h2 : All2 (MenAt H) ys vs) {a b : Nat} (q1 : us.length ≤ a) (q2 : vs.length ≤ b) (h : a + b ≤ 100000) : xs.length + ys.length ≤ sizeLine := by
  rw [h1.len, h2.len]
  exact Nat.le_trans (by omega : _ ≤ 100000) (by decide)
theorem ok_match {k n : Nat} (hn : n ≤ 3) (Z : Defs K mg) (GMentioned : FnOk P w K mg base CX0 k Z.fMentioned Z.fdMentioned ["e", "local"] (spMent n)) : FnOk P w K mg base CX0 (k + 1) Z.fMentionedInMatch Z.fdMentionedInMatch ["e", "local"] (spMatch n) := by
  refine Z.DMentionedInMatch.F.ok scMentionedInMatch (fun vs H Q E h => ?_) (fun cdv A outer s H vs Q E hr h => ?_)
  · obtain ⟨x, e, nt, ns, rfl, _⟩ := h
    rfl
  · obtain ⟨x, e, nt, ns, rfl, he, hm, hnt, hns, qq⟩ := h
    refine ⟨_, (pss_cons (ps_asg (pv 0) (pg_tup rfl (pgs_cons (pg_name (i := 2) scMentionedInMatch.nd rfl (.inl rfl)) (pgs_cons (pg_name (i := 3) scMentionedInMatch.nd rfl (.inl rfl)) (pgs_cons (pg_name (i := 4) scMentionedInMatch.nd rfl (.inl rfl)) pgs_nil)))))
        (pss_cons (ps_set (i := 5) scMentionedInMatch.nd rfl (.inl rfl) (pe_call GMentioned (hr.mono (by omega)) (by rfl) Z.DMentioned.g Z.DMentioned.F.kp Z.DMentioned.b .nil pass0 (pa_cons (pv 3) (pa_cons (pv 1) pa_nil))))
        (pss_cons (ps_for PassesOwn.never rfl (pi_tup (pv 4)) (pg_tup rfl (pgs_cons (pg_name (i := 6) scMentionedInMatch.nd rfl (.inl rfl)) (pgs_cons (pg_name (i := 7) scMentionedInMatch.nd rfl (.inl rfl)) (pgs_cons (pg_name (i := 8) scMentionedInMatch.nd rfl (.inl rfl)) pgs_nil)))) (pss_cons (ps_expr (pe_bm PySem.F.plainAttrs_list PySem.F.slot_list_append PySem.F.type_list_append mt_append (pv 5) (pa_cons (pe_tup (pa_cons pe_bl (pa_cons (pv 6) pa_nil))) pa_nil)))
        (pss_one (ps_expr (pe_bm PySem.F.plainAttrs_list PySem.F.slot_list_extend PySem.F.type_list_extend mt_extend (pv 5) (pa_cons (pe_call GMentioned (hr.mono (by omega)) (by rfl) Z.DMentioned.g Z.DMentioned.F.kp Z.DMentioned.b .nil pass0 (pa_cons (pv 8) (pa_cons (pe_tup (StX.pa_star (pv 1) (StX.pa_star (pv 7) pa_nil))) pa_nil))) pa_nil))))))
        (pss_one (ps_ret (pv 5)))))), ?_⟩
    cases e with
    | mat a arms =>
      obtain ⟨t, u, q, us, rfl, ht, hq, hl, ha, hm2⟩ := he
      have hB := mB4 (n := n) (by omega)
      refine ⟨_, rfl, t, _, rfl, SqT.of ht, rfl, _, _, rfl, _, _, rfl, _, _, rfl, rfl, ?_⟩
      refine ⟨_, rfl, _, rfl, u, a, nt, ns, rfl, ha, hnt, by omega, fun H1 D w1 s1 hDn hD hw1 => ?_⟩
      have hwl := ment_len ns ha
      have hul := hm2.len
      let seg : Str × List Str × Ex → List (Bool × Str) := fun m => (true, m.1) :: ment n m.2.2 (ns ++ m.2.1)
      refine ⟨_, rfl, q, rfl, ⟨us, SqT.of (s1 _ _ hq)⟩, ?_⟩
      refine for_it walk_tup (fun i σ H' => ∃ (y2 y6 y7 y8 : Option V) (ws : List V), σ = [some (.ref t), some (.ref nt), y2, some u, some (.ref q), some (.ref D), y6, y7, y8] ∧ Same H H' ∧ H' D = some (.lst ws) ∧ All2 (MenAt H') ws (ment n a ns ++ ((arms.take i).map seg).flatten)) ⟨_, _, _, _, w1, rfl, s1, hD, by simpa using hw1⟩ (fun i σ H' _ ⟨_, _, _, _, _, _, s, _⟩ => SqT.of (s _ _ hq)) ?_ ?_
      · rintro i x σ H2z H2 hi ⟨y2, y6, y7, y8, ws, rfl, s2, hD2, hws⟩ ⟨rfl, hx⟩
        obtain ⟨m, hm', ta, tn, r, rfl, hta, hup, hnm, hr2⟩ := hm2.get hx
        obtain ⟨tq, rfl, htq, hnl, hlow⟩ := hnm
        have e2 := take_snoc hm'
        have hlen : (((arms.take i).map seg).flatten).length ≤ 3 * (mB n + 1) := by
          have h3 := flat_le seg (mB n + 1) (arms.take i) fun m' hm'' => by
            obtain ⟨j, hj⟩ := List.mem_iff_getElem?.mp (List.mem_of_mem_take hm'')
            obtain ⟨u', _, ta', tn', w', _, _, _, _, hu'⟩ := hm2.getR hj
            have := ment_len (ns ++ m'.2.1) hu'
            show (_ :: _).length ≤ _
            rw [List.length_cons]
            omega
          have h4 : (arms.take i).length ≤ 3 := by rw [List.length_take]; omega
          exact Nat.le_trans h3 (Nat.mul_le_mul_right _ h4)
        have hwl2 := hws.len
        rw [List.length_append] at hwl2
        have big : 100000 ≤ sizeLine := by decide
        refine ⟨ta, _, rfl, SqT.of (s2 _ _ hta), rfl, _, _, rfl, _, _, rfl, _, _, rfl, rfl, ?_⟩
        refine ⟨_, rfl, .inl ⟨rfl, _, SqL.of hD2⟩, _, rfl, by show 2 ≤ sizeLine; decide, fun T hT => ?_⟩
        have sT := same_upd (o := .tup [.bl true, .str m.1]) hT
        have gT : upd H2 T (.tup [.bl true, .str m.1]) T = some (.tup [.bl true, .str m.1]) := upd_same
        generalize upd H2 T (.tup [.bl true, .str m.1]) = H3 at sT gT ⊢
        have hD3 := sT _ _ hD2
        refine ⟨D, _, _, rfl, rfl, hD3, by omega, ?_⟩
        have kD := tk_lst (o := .lst (ws ++ [.ref T])) hD3
        have s4 : Same H (upd H3 D (.lst (ws ++ [.ref T]))) := fun z o h => by rw [upd_ne (ne_of_none h hDn)]; exact sT _ _ (s2 _ _ h)
        have g4 : upd H3 D (.lst (ws ++ [.ref T])) D = some (.lst (ws ++ [.ref T])) := upd_same
        have hw4 := MenAt.keep kD ((MenAt.keep (TupK.of sT) hws).app (.one (y := (true, m.1)) ⟨T, rfl, gT⟩))
        generalize upd H3 D (.lst (ws ++ [.ref T])) = H4 at s4 g4 hw4 ⊢
        refine ⟨_, rfl, .inl ⟨rfl, _, SqL.of g4⟩, _, rfl, _, rfl, nt, _, rfl, .inl (SqT.of (s4 _ _ hnt)), _, rfl, tq, _, rfl, .inl (SqT.of (s4 _ _ htq)), ?_⟩
        have hz5 : ((ns.map V.str) ++ ((m.2.1.map V.str) ++ [])).length ≤ sizeLine := by
          rw [List.length_append, List.length_append, List.length_map, List.length_map]
          show _ + (_ + 0) ≤ _
          omega
        refine ⟨hz5, fun T2 hT2 => ?_⟩
        have s5 := same_upd (o := .tup ((ns.map V.str) ++ ((m.2.1.map V.str) ++ []))) hT2
        have g5 : upd H4 T2 (.tup ((ns.map V.str) ++ ((m.2.1.map V.str) ++ []))) T2 = some (.tup ((ns ++ m.2.1).map V.str)) := by rw [upd_same, List.append_nil, List.map_append]
        generalize upd H4 T2 (.tup ((ns.map V.str) ++ ((m.2.1.map V.str) ++ []))) = H5 at s5 g5 ⊢
        have s05 : Same H H5 := Same.tr s4 s5
        refine ⟨r, m.2.2, T2, ns ++ m.2.1, rfl, hr2.keep (TupK.of s05), g5, by rw [List.length_append]; omega, fun H6 l ls s6 hln hl6 hls => ?_⟩
        have hlsl := hls.len
        have hml := ment_len (ns ++ m.2.1) hr2
        have hD6 := s6 _ _ (s5 _ _ g4)
        have lne : l ≠ D := fun e => by rw [e, s5 _ _ g4] at hln; cases hln
        refine ⟨D, l, _, _, rfl, rfl, hD6, hl6, by rw [List.length_append]; show _ + 1 + _ ≤ _; omega, ?_⟩
        have k7 := tk_lst (o := .lst (ws ++ [.ref T] ++ ls)) hD6
        refine ⟨_, _, _, _, _, rfl, fun z o h => by rw [upd_ne (ne_of_none h hDn)]; exact s6 _ _ (s05 _ _ h), upd_same, ?_⟩
        rw [e2, List.map_append, List.flatten_append, ← List.append_assoc]
        have fin := MenAt.keep k7 ((MenAt.keep (TupK.of (Same.tr s5 s6)) hw4).app hls)
        have eS : ([(true, m.1)] ++ ment n m.2.2 (ns ++ m.2.1) : List (Bool × Str)) = (List.map seg [m]).flatten := by
          show _ = seg m ++ []
          rw [List.append_nil]
          rfl
        rw [← eS, ← List.append_assoc]
        exact fin
      · rintro σ H2 ⟨y2, y6, y7, y8, ws, rfl, s2, hD2, hws⟩
        rw [hul, List.take_length] at hws
        exact ⟨_, rfl, qq H2 D ws s2 hDn hD2 hws⟩
    | _ => cases hm
theorem walk_zipT {K : PySem.W.Frag} {a b : Addr} {xs ys : List V} {n : Nat} (hn : n = min xs.length ys.length) : Walk (RZ.ItzT K a b) n (fun H => SqT K H a xs ∧ SqT K H b ys) (YPair (fun i => xs[i]?) (fun i => ys[i]?)) := by
  subst hn
  refine ⟨fun i _ hi q => ?_, fun _ q => ⟨xs, ys, q.1, q.2, by omega⟩, fun i H v H' _ q y => ?_⟩
  · have h1 : i < xs.length := by omega
    have h2 : i < ys.length := by omega
    exact ⟨xs, ys, xs[i], ys[i], q.1, q.2, by simp [h1], by simp [h2]⟩
  · obtain ⟨T, x, z, h1, h2, h3, h4, h5⟩ := y
    exact ⟨T, x, z, h1, h2, h3, h4 xs q.1, h5 ys q.2⟩
theorem bnds_len {H : Hp} {n : Nat} {e : Ex} {x : V} (h : ExAt H (n + 1) e x) (hm : isMat e = false) : (bnds e).length = (subs e).length := by
  cases e <;> first | rfl | (exact List.length_map _) | cases hm
theorem zip_get {α β : Type} {xs : List α} {ys : List β} {i : Nat} {x : α} {y : β} (h1 : xs[i]? = some x) (h2 : ys[i]? = some y) : (xs.zip ys)[i]? = some (x, y) := by
  rw [List.getElem?_zip_eq_some]
  exact ⟨h1, h2⟩
theorem ment_step {k n : Nat} (hn : n ≤ 3) (Z : Defs K mg) (GMentioned : FnOk P w K mg base CX0 (k + 2) Z.fMentioned Z.fdMentioned ["e", "local"] (spMent n)) : FnOk P w K mg base CX0 (k + 4) Z.fMentioned Z.fdMentioned ["e", "local"] (spMent (n + 1)) := by
  have GParts : FnOk P w K mg base CX0 (k + 1) Z.fParts Z.fdParts ["e"] (spParts n) := ok_parts Z
  have GBound : FnOk P w K mg base CX0 (k + 2) Z.fBound Z.fdBound ["e"] (spBound n) := ok_bound Z
  have GMentionedAtStart : FnOk P w K mg base CX0 (k + 1) Z.fMentionedAtStart Z.fdMentionedAtStart ["e", "local"] (spStart n) := ok_start Z
  have GMentionedInMatch : FnOk P w K mg base CX0 (k + 3) Z.fMentionedInMatch Z.fdMentionedInMatch ["e", "local"] (spMatch n) := ok_match hn Z GMentioned
  refine Z.DMentioned.F.ok scMentioned (fun vs H Q E h => ?_) (fun cdv A outer s H vs Q E hr h => ?_)
  · obtain ⟨x, e, nt, ns, rfl, _⟩ := h
    rfl
  · obtain ⟨x, e, nt, ns, rfl, he, hnt, hns, qq⟩ := h
    refine ⟨_, (pss_cons (ps_if (pt_cmpR op_eq (pe_ix ix_tup (pv 0) pe_int (fun _ _ => rfl)) pe_str (nomark _)) (pss_one (ps_ret (pe_call GMentionedInMatch (hr.mono (by omega)) (by rfl) Z.DMentionedInMatch.g Z.DMentionedInMatch.F.kp Z.DMentionedInMatch.b .nil pass0 (pa_cons (pv 0) (pa_cons (pv 1) pa_nil))))) pss_nil)
        (pss_cons (ps_set (i := 2) scMentioned.nd rfl (.inl rfl) (pe_call GMentionedAtStart (hr.mono (by omega)) (by rfl) Z.DMentionedAtStart.g Z.DMentionedAtStart.F.kp Z.DMentionedAtStart.b .nil pass0 (pa_cons (pv 0) (pa_cons (pv 1) pa_nil))))
        (pss_cons (ps_for PassesOwn.never rfl (RZ.pi_zipA (by rfl) Z.zip (pa_cons (pe_call GParts (hr.mono (by omega)) (by rfl) Z.DParts.g Z.DParts.F.kp Z.DParts.b .nil pass0 (pa_cons (pv 0) pa_nil)) (pa_cons (pe_call GBound (hr.mono (by omega)) (by rfl) Z.DBound.g Z.DBound.F.kp Z.DBound.b .nil pass0 (pa_cons (pv 0) pa_nil)) pa_nil))) (pg_tup rfl (pgs_cons (pg_name (i := 3) scMentioned.nd rfl (.inl rfl)) (pgs_cons (pg_name (i := 4) scMentioned.nd rfl (.inl rfl)) pgs_nil))) (pss_one (ps_expr (pe_bm PySem.F.plainAttrs_list PySem.F.slot_list_extend PySem.F.type_list_extend mt_extend (pv 2) (pa_cons (pe_call GMentioned (hr.mono (by omega)) (by rfl) Z.DMentioned.g Z.DMentioned.F.kp Z.DMentioned.b .nil pass0 (pa_cons (pv 3) (pa_cons (pe_tup (StX.pa_star (pv 1) (StX.pa_star (pv 4) pa_nil))) pa_nil))) pa_nil)))))
        (pss_one (ps_ret (pv 2)))))), ?_⟩
    have big : 100000 ≤ sizeLine := by decide
    obtain ⟨t, tag, xs, rfl, ht, htag⟩ := ex_tag he
    refine ⟨_, rfl, t, _, 0, .str tag, rfl, rfl, SqT.of ht, atI_nat (j := 0) rfl, rfl, _, rfl, ?_⟩
    cases hm : isMat e with
    | true =>
      have := htag.mp hm
      subst this
      exact iteYes (by decide +kernel) ⟨_, rfl, _, rfl, .ref t, e, nt, ns, rfl, he, hm, hnt, hns, qq⟩
    | false =>
      have hne : ¬ tag = "match" := fun e2 => by rw [htag.mpr e2] at hm; cases hm
      refine iteNo (by simpa using fun z => hne z) ?_
      rw [ment_plain hm] at qq
      have hB := mB4 (n := n) (by omega)
      refine ⟨_, rfl, _, rfl, .ref t, e, nt, ns, rfl, he, hm, hnt, fun H1 D w1 s1 hDn hD hw1 => ?_⟩
      refine ⟨_, rfl, .ref t, e, rfl, he.keep (TupK.of s1), hm, fun H2 pt us s2 hpt hpl hus => ?_⟩
      have s02 := Same.tr s1 s2
      refine ⟨_, rfl, .ref t, e, rfl, he.keep (TupK.of s02), hm, fun H3 bt bs s3 hbt hbl hbs => ?_⟩
      have s03 := Same.tr s02 s3
      have hpt3 := s3 _ _ hpt
      have hul := hus.len
      have hbl2 := hbs.len
      have hbe := bnds_len he hm
      have hsl := subs_le he hm
      let seg : Ex × List Str → List (Bool × Str) := fun p => ment n p.1 (ns ++ p.2)
      refine ⟨pt, bt, us, bs, rfl, .inr ⟨SqT.of hpt3, SqT.of hbt, ?_⟩⟩
      refine for_it (walk_zipT (n := us.length) (by omega)) (fun i σ H' => ∃ (y3 y4 : Option V) (ws : List V), σ = [some (.ref t), some (.ref nt), some (.ref D), y3, y4] ∧ Same H H' ∧ H' pt = some (.tup us) ∧ H' bt = some (.tup bs) ∧ TupK H3 H' ∧ H' D = some (.lst ws) ∧ All2 (MenAt H') ws (start e ns ++ ((((subs e).zip (bnds e)).take i).map seg).flatten)) ⟨_, _, w1, rfl, s03, hpt3, hbt, TupK.refl, s3 _ _ (s2 _ _ hD), by simpa using MenAt.keep (TupK.of (Same.tr s2 s3)) hw1⟩ (fun i σ H' _ ⟨_, _, _, _, s, h1, h2, _⟩ => ⟨SqT.of h1, SqT.of h2⟩) ?_ ?_
      · rintro i x σ H4 H5 hi ⟨y3, y4, ws, rfl, s4, hpt4, hbt4, k34, hD4, hws⟩ ⟨T, x1, x2, rfl, hT, rfl, e1, e2⟩
        replace e1 : us[i]? = some x1 := e1
        replace e2 : bs[i]? = some x2 := e2
        obtain ⟨sb, hsb, hus1⟩ := hus.get e1
        obtain ⟨bn, hbn, q, rfl, hq, hbn2⟩ := hbs.get e2
        have hzip := zip_get hsb hbn
        have hi3 : i < us.length := hi
        have e3 := take_snoc hzip
        have hq4 : ∀ q x, H3 q = some (.tup x) → H4 q = some (.tup x) := fun q x h => k34 _ _ h
        have hu4 : ∀ s x, ExAt H2 n s x → ExAt H4 n s x := fun s x h => ExAt.keep ((TupK.of s3).tr k34) h
        have hsub : ∀ p ∈ ((subs e).zip (bnds e)).take i, (seg p).length ≤ mB n := fun p hp => by
          obtain ⟨y, hy⟩ := subs_at he p.1 (List.of_mem_zip (List.mem_of_mem_take hp)).1
          exact ment_len _ hy
        have hlen : ((((((subs e).zip (bnds e)).take i).map seg).flatten)).length ≤ 3 * mB n := by
          have h3 := flat_le seg (mB n) _ hsub
          have h4 : ((((subs e).zip (bnds e)).take i)).length ≤ 3 := by rw [List.length_take]; omega
          exact Nat.le_trans h3 (Nat.mul_le_mul_right _ h4)
        have hst := start_le e ns
        have hwl := hws.len
        rw [List.length_append] at hwl
        have sT : Same H4 (upd H4 T (.tup [x1, .ref q])) := same_upd hT
        have gT : upd H4 T (.tup [x1, .ref q]) T = some (.tup [x1, .ref q]) := upd_same
        generalize upd H4 T (.tup [x1, .ref q]) = H5 at sT gT ⊢
        refine ⟨T, _, rfl, SqT.of gT, rfl, _, _, rfl, _, _, rfl, rfl, ?_⟩
        have s05 := Same.tr s4 sT
        have hD5 := sT _ _ hD4
        refine ⟨_, rfl, .inl ⟨rfl, _, SqL.of hD5⟩, _, rfl, _, rfl, nt, _, rfl, .inl (SqT.of (s05 _ _ hnt)), _, rfl, q, bn.map V.str, rfl, .inl (SqT.of (sT _ _ (hq4 q _ hq))), ?_⟩
        have hz5 : ((ns.map V.str) ++ ((bn.map V.str) ++ [])).length ≤ sizeLine := by
          rw [List.length_append, List.length_append, List.length_map, List.length_map]
          show _ + (_ + 0) ≤ _
          omega
        refine ⟨hz5, fun T2 hT2 => ?_⟩
        have s6 := same_upd (o := .tup ((ns.map V.str) ++ ((bn.map V.str) ++ []))) hT2
        have g6 : upd H5 T2 (.tup ((ns.map V.str) ++ ((bn.map V.str) ++ []))) T2 = some (.tup ((ns ++ bn).map V.str)) := by rw [upd_same, List.append_nil, List.map_append]
        generalize upd H5 T2 (.tup ((ns.map V.str) ++ ((bn.map V.str) ++ []))) = H6 at s6 g6 ⊢
        have s06 := Same.tr s05 s6
        have hus6 : ExAt H6 n sb x1 := ExAt.keep (TupK.of (Same.tr sT s6)) (hu4 _ _ hus1)
        refine ⟨x1, sb, T2, ns ++ bn, rfl, hus6, g6, by rw [List.length_append]; omega, fun H7 l ls s7 hln hl7 hls => ?_⟩
        have hlsl := hls.len
        have hml := ment_len (ns ++ bn) hus1
        have hD7 := s7 _ _ (s6 _ _ hD5)
        refine ⟨D, l, _, _, rfl, rfl, hD7, hl7, by omega, ?_⟩
        have k7 := tk_lst (o := .lst (ws ++ ls)) hD7
        have s47 : Same H4 H7 := Same.tr sT (Same.tr s6 s7)
        have nd : ∀ z x, H4 z = some (.tup x) → upd H7 D (.lst (ws ++ ls)) z = some (.tup x) := fun z x h => k7 _ _ (s47 _ _ h)
        refine ⟨_, _, _, rfl, fun z o h => by rw [upd_ne (ne_of_none h hDn)]; exact s7 _ _ (s06 _ _ h), nd _ _ hpt4, nd _ _ hbt4, k34.tr nd, upd_same, ?_⟩
        rw [e3, List.map_append, List.flatten_append, ← List.append_assoc]
        have fin := MenAt.keep k7 ((MenAt.keep (TupK.of s47) hws).app hls)
        have eS : (ment n sb (ns ++ bn) : List (Bool × Str)) = (List.map seg [(sb, bn)]).flatten := by
          show _ = seg (sb, bn) ++ []
          rw [List.append_nil]
        rw [← eS]
        exact fin
      · rintro σ H4 ⟨y3, y4, ws, rfl, s4, _, _, _, hD4, hws⟩
        rw [List.take_of_length_le (by rw [List.length_zip]; omega)] at hws
        exact ⟨_, rfl, qq H4 D ws s4 hDn hD4 hws⟩
theorem ok_ment {k : Nat} (Z : Defs K mg) : ∀ n, n ≤ 4 → FnOk P w K mg base CX0 (k + 2 * n + 2) Z.fMentioned Z.fdMentioned ["e", "local"] (spMent n)
  | 0, _ => by
    refine Z.DMentioned.F.ok scMentioned (fun vs H Q E h => ?_) (fun cdv A outer s H vs Q E hr h => ?_)
    · obtain ⟨x, e, nt, ns, rfl, _⟩ := h
      rfl
    · obtain ⟨x, e, nt, ns, rfl, he, _⟩ := h
      exact he.elim
  | n + 1, h => ment_step (k := k + 2 * n) (by omega) Z (ok_ment Z n (by omega))
end
end Q11
namespace Q11
open PySem PySem.Spec PyProof.Rows L2 SX HL
/-! ### definitions -/
def BASES : List Str := ["num", "text", "bool", "d", "e"]
def PLAIN : List Str := ["num", "text", "bool"]
abbrev Kd := Nat × Str
def KdAt (H : Hp) (v : V) (k : Kd) : Prop := k.2 ∈ BASES ∧ ∃ t, v = .ref t ∧ H t = some (.tup [vi k.1, .str k.2])
theorem KdAt.keep {H H' : Hp} (k : TupK H H') {v : V} {d : Kd} (h : KdAt H v d) : KdAt H' v d := by
  obtain ⟨h0, t, e, h1⟩ := h
  exact ⟨h0, t, e, k _ _ h1⟩
/-- kinds in a tuple -/
def KdsAt (H : Hp) (v : V) (ks : List Kd) : Prop := ∃ b us, v = .ref b ∧ H b = some (.tup us) ∧ us.length ≤ 2 ∧ All2 (KdAt H) us ks
theorem KdsAt.keep {H H' : Hp} (k : TupK H H') {v : V} {ks : List Kd} (h : KdsAt H v ks) : KdsAt H' v ks := by
  obtain ⟨b, us, e, h1, h2, h3⟩ := h
  exact ⟨b, us, e, k _ _ h1, h2, h3.mono fun _ _ r => r.keep k⟩
def MkAt (H : Hp) (u : V) (m : Str × List Kd) : Prop := ∃ a b, u = .ref a ∧ H a = some (.tup [.str m.1, b]) ∧ m.1 ∈ UPP ∧ KdsAt H b m.2
theorem MkAt.keep {H H' : Hp} (k : TupK H H') {v : V} {m : Str × List Kd} (h : MkAt H v m) : MkAt H' v m := by
  obtain ⟨a, b, e, h1, h2, h3⟩ := h
  exact ⟨a, b, e, k _ _ h1, h2, h3.keep k⟩
def SetAt (H : Hp) (u : V) (m : Str × Ex) : Prop := ∃ a b, u = .ref a ∧ H a = some (.tup [.str m.1, b]) ∧ m.1 ∈ LOW ∧ ExAt H 4 m.2 b
theorem SetAt.keep {H H' : Hp} (k : TupK H H') {v : V} {m : Str × Ex} (h : SetAt H v m) : SetAt H' v m := by
  obtain ⟨a, b, e, h1, h2, h3⟩ := h
  exact ⟨a, b, e, k _ _ h1, h2, h3.keep k⟩
inductive Df
  | data (x : Str) (ms : List (Str × List Kd))
  | fn (x : Str) (ns : List Str) (e : Ex)
  | cell (x : Str) (kd : Kd) (e : Ex) (tv : Option Str)
  | view (x : Str) (e : Ex)
  | act (x : Str) (ns : List Str) (sets : List (Str × Ex)) (e : Ex)
def tvV : Option Str → V
  | some y => .str y
  | none => .non
def DfAt (H : Hp) : Df → V → Prop
  | .data x ms, v => x ∈ LOW ∧ ∃ t q us, v = .ref t ∧ H t = some (.tup [.str "data", .str x, .ref q]) ∧ H q = some (.tup us) ∧ us.length ≤ 2 ∧ All2 (MkAt H) us ms
  | .fn x ns e, v => x ∈ LOW ∧ ∃ t nv u, v = .ref t ∧ H t = some (.tup [.str "fun", .str x, nv, u]) ∧ NmsAt H nv ns ∧ ExAt H 4 e u
  | .cell x kd e tv, v => x ∈ LOW ∧ (∀ y, tv = some y → y ∈ LOW) ∧ ∃ t kv u, v = .ref t ∧ H t = some (.tup [.str "cell", .str x, kv, u, tvV tv]) ∧ KdAt H kv kd ∧ ExAt H 4 e u
  | .view x e, v => x ∈ LOW ∧ ∃ t u, v = .ref t ∧ H t = some (.tup [.str "view", .str x, u]) ∧ ExAt H 4 e u
  | .act x ns sets e, v => x ∈ LOW ∧ ∃ t nv q us u, v = .ref t ∧ H t = some (.tup [.str "act", .str x, nv, .ref q, u]) ∧ NmsAt H nv ns ∧ H q = some (.tup us) ∧ us.length ≤ 2 ∧ All2 (SetAt H) us sets ∧ ExAt H 4 e u
theorem DfAt.keep {H H' : Hp} (k : TupK H H') {d : Df} {v : V} (h : DfAt H d v) : DfAt H' d v := by
  cases d with
  | data x ms =>
    obtain ⟨h0, t, q, us, e, h1, h2, h3, h4⟩ := h
    exact ⟨h0, t, q, us, e, k _ _ h1, k _ _ h2, h3, h4.mono fun _ _ r => r.keep k⟩
  | fn x ns e =>
    obtain ⟨h0, t, nv, u, e, h1, h2, h3⟩ := h
    exact ⟨h0, t, nv, u, e, k _ _ h1, h2.keep k, h3.keep k⟩
  | cell x kd e tv =>
    obtain ⟨h0, h0', t, kv, u, e, h1, h2, h3⟩ := h
    exact ⟨h0, h0', t, kv, u, e, k _ _ h1, h2.keep k, h3.keep k⟩
  | view x e =>
    obtain ⟨h0, t, u, e, h1, h2⟩ := h
    exact ⟨h0, t, u, e, k _ _ h1, h2.keep k⟩
  | act x ns sets e =>
    obtain ⟨h0, t, nv, q, us, u, e, h1, h2, h3, h4, h5, h6⟩ := h
    exact ⟨h0, t, nv, q, us, u, e, k _ _ h1, h2.keep k, k _ _ h3, h4, h5.mono fun _ _ r => r.keep k, h6.keep k⟩
def dKinds : Df → List Kd
  | .data _ ms => (ms.map (·.2)).flatten
  | .cell _ kd _ _ => [kd]
  | _ => []
def dEs : Df → List Ex
  | .data _ _ => []
  | .fn _ _ e => [e]
  | .cell _ _ e _ => [e]
  | .view _ e => [e]
  | .act _ _ sets e => sets.map (·.2) ++ [e]
def dPs : Df → List Str
  | .fn _ ns _ => ns
  | .act _ ns _ _ => ns
  | _ => []
def dMakes : Df → List Str
  | .data x ms => x :: ms.map (·.1)
  | .fn x _ _ => [x]
  | .cell x _ _ _ => [x]
  | .view x _ => [x]
  | .act x _ _ _ => [x]
/-- each word once, where it stands first -/
def once (l : List Str) : List Str := l.foldl (fun acc x => if x ∈ acc then acc else acc ++ [x]) []
theorem once_snoc (l : List Str) (x : Str) : once (l ++ [x]) = if x ∈ once l then once l else once l ++ [x] := by
  unfold once
  rw [List.foldl_append]
  rfl
theorem mem_once : ∀ (n : Nat) (l : List Str), l.length = n → ∀ x, x ∈ once l ↔ x ∈ l
  | 0, l, h, x => by
    have : l = [] := List.eq_nil_of_length_eq_zero h
    subst this
    exact Iff.rfl
  | n + 1, l, h, x => by
    have e := List.dropLast_concat_getLast (l := l) (by intro z; rw [z] at h; cases h)
    rw [← e]
    have ih := mem_once n l.dropLast (by rw [List.length_dropLast]; omega)
    rw [once_snoc]
    split
    · rename_i hm
      rw [ih, List.mem_append, List.mem_singleton]
      exact ⟨.inl, fun z => z.elim id fun z => by rw [z]; exact (ih _).mp hm⟩
    · rw [List.mem_append, List.mem_append, ih]
theorem once_mem {l : List Str} {x : Str} : x ∈ once l ↔ x ∈ l := mem_once _ l rfl x
theorem once_snoc' (l : List Str) (x : Str) : once (l ++ [x]) = if x ∈ l then once l else once l ++ [x] := by
  rw [once_snoc]
  simp only [once_mem]
theorem once_len (n : Nat) : ∀ l : List Str, l.length = n → (once l).length ≤ l.length := by
  induction n with
  | zero => intro l h; rw [List.eq_nil_of_length_eq_zero h]; exact Nat.le_refl _
  | succ n ih =>
    intro l h
    have e := List.dropLast_concat_getLast (l := l) (by intro z; rw [z] at h; cases h)
    rw [← e, once_snoc]
    have h1 := ih l.dropLast (by rw [List.length_dropLast]; omega)
    split
    · rw [List.length_append]; omega
    · rw [List.length_append, List.length_append]; exact Nat.add_le_add_right h1 _
/-- only the words that p picks -/
theorem once_filter (p : Str → Bool) : ∀ (n : Nat) (l : List Str), l.length = n → once (l.filter p) = (once l).filter p
  | 0, l, h => by
    have : l = [] := List.eq_nil_of_length_eq_zero h
    subst this
    rfl
  | n + 1, l, h => by
    have e := List.dropLast_concat_getLast (l := l) (by intro z; rw [z] at h; cases h)
    have ih := once_filter p n l.dropLast (by rw [List.length_dropLast]; omega)
    rw [← e, List.filter_append, once_snoc']
    generalize l.getLast _ = x
    generalize l.dropLast = r at ih
    by_cases hp : p x = true
    · have e1 : [x].filter p = [x] := by simp [hp]
      rw [e1, once_snoc', ih]
      by_cases hm : x ∈ r
      · rw [if_pos hm, if_pos (List.mem_filter.mpr ⟨hm, hp⟩)]
      · rw [if_neg hm, if_neg (fun z => hm (List.mem_filter.mp z).1), List.filter_append, e1]
    · have e1 : [x].filter p = [] := by simp [hp]
      rw [e1, List.append_nil, ih]
      split
      · rfl
      · rw [List.filter_append, e1, List.append_nil]
section
variable {P : Program} {w : World} {K : PySem.W.Frag} {mg : Str → Option Value} {base : Heap}
def onceK (l : List Str) : List (Key × V) := (once l).map fun z => ((Sum.inr z : Key), V.bl true)
theorem onceK_next (l : List Str) (x : Str) : putK (onceK l) (.inr x) (.bl true) = onceK (l ++ [x]) := by
  unfold onceK
  rw [once_snoc]
  have ev : ∀ xs : List Str, ((xs.map fun z => ((Sum.inr z : Key), V.bl true)).any fun kv => decide (kv.1 = Sum.inr x)) = decide (x ∈ xs) := by
    intro xs
    induction xs with
    | nil => rfl
    | cons y r ih =>
      rw [List.map_cons, List.any_cons, ih, Bool.eq_iff_iff]
      simp only [Bool.or_eq_true, decide_eq_true_eq, List.mem_cons]
      exact ⟨fun h => h.imp (fun e => (Sum.inr.inj e).symm) id, fun h => h.imp (fun e => by rw [e]) id⟩
  have key : ∀ (xs : List Str), putK (xs.map fun z => ((Sum.inr z : Key), V.bl true)) (.inr x) (.bl true) = (if x ∈ xs then xs else xs ++ [x]).map fun z => ((Sum.inr z : Key), V.bl true) := by
    intro xs
    unfold putK
    rw [ev xs]
    by_cases hm : x ∈ xs
    · rw [if_pos (by simpa using hm), if_pos hm, List.map_map]
      refine List.map_congr_left fun z _ => ?_
      show (if Sum.inr z = Sum.inr x then ((Sum.inr z : Key), V.bl true) else (Sum.inr z, V.bl true)) = _
      split <;> rfl
    · rw [if_neg (by simpa using hm), if_neg hm, List.map_append]
      rfl
  exact key (once l)
def spOnce : Sp := fun vs H Q _ => ∃ (a : Addr) (l : List Str), vs = [.ref a] ∧ H a = some (.lst (l.map V.str)) ∧ l.length ≤ 10000 ∧
  ∀ H' D, Same H H' → H D = none → H' D = some (.lst ((once l).map V.str)) → Q (.ref D) H'
theorem ok_once {k : Nat} (Z : Defs K mg) : FnOk P w K mg base CX0 (k + 1) Z.fEachOnce Z.fdEachOnce ["words"] spOnce := by
  refine Z.DEachOnce.F.ok scEachOnce (fun vs H Q E h => ?_) (fun cdv A outer s H vs Q E hr h => ?_)
  · obtain ⟨a, l, rfl, _⟩ := h
    rfl
  · obtain ⟨a, l, rfl, ha, hl, qq⟩ := h
    refine ⟨_, (pss_one (ps_ret (pe_callTy (call_listD rfl) (by rfl) Z.list HL.boot_list (pa_cons (pe_dc (own := [("word", 1)]) (g := (gName 1)) (by rfl) scEachOnce.nd (ET.pi_listK (K := K) rfl (pv 0)) (blkOk_by (own := [("word", 1)]) (N := ["words", "word"]) (sc := defScope sEachOnce) (by decide +kernel)) (fun _ _ _ _ _ => (pg_name (i := 1) scEachOnce.nd rfl (Or.inl rfl))) (fun _ _ _ _ _ => pts_nil) (fun _ _ _ _ _ => (pv 1)) (fun _ _ _ _ _ => pe_bl)) pa_nil)))), ?_⟩
    refine ⟨_, rfl, a, rfl, ⟨_, SqL.of ha⟩, fun D hD => ?_⟩
    refine HE.dc_it walk_list (fun i H' => Same H H' ∧ H' D = some (.dK (onceK (l.take i)))) ⟨same_upd hD, upd_same⟩ (fun i H' _ p => SqL.of (p.1 _ _ ha)) ?_ ?_
    · rintro i x H1z H1 hi ⟨s1, hD1⟩ ⟨rfl, hx⟩
      rw [List.getElem?_map] at hx
      obtain ⟨y, hy, rfl⟩ : ∃ y, l[i]? = some y ∧ x = .str y := by
        cases e : l[i]? with
        | none => rw [e] at hx; cases hx
        | some y => rw [e] at hx; cases hx; exact ⟨y, rfl, rfl⟩
      refine ⟨rfl, lc_yes ⟨_, rfl, onceK (l.take i), .inr y, rfl, hD1, ?_, fun z o h => by rw [upd_ne (ne_of_none h hD)]; exact s1 _ _ h, ?_⟩⟩
      · have h1 := once_len _ (l.take i) rfl
        have h2 : 10000 < sizeLine := by decide
        unfold onceK
        rw [List.length_map]
        rw [List.length_take] at h1
        omega
      · rw [upd_same, onceK_next, ← take_snoc hy]
    · rintro H1 ⟨s1, hD1⟩
      rw [List.length_map, List.take_length] at hD1
      refine ⟨D, _, rfl, .inl hD1, fun p hp => ?_⟩
      refine qq _ p (Same.tr s1 (same_upd hp)) (Same.none s1 hp) ?_
      rw [upd_same]
      unfold onceK
      rw [List.map_map]
      rfl
end
end Q11
namespace Q11
open PySem PySem.Spec PyProof.Rows L2 SX HL
section
variable {P : Program} {w : World} {K : PySem.W.Frag} {mg : Str → Option Value} {base : Heap}
/-! ### expressions, kinds, parameters, makes -/
/-- the word that a definition begins with -/
def dTag : Df → Str
  | .data _ _ => "data"
  | .fn _ _ _ => "fun"
  | .cell _ _ _ _ => "cell"
  | .view _ _ => "view"
  | .act _ _ _ _ => "act"
def dName : Df → Str
  | .data x _ => x
  | .fn x _ _ => x
  | .cell x _ _ _ => x
  | .view x _ => x
  | .act x _ _ _ => x
theorem df_tag {H : Hp} {d : Df} {v : V} (h : DfAt H d v) : ∃ t xs, v = .ref t ∧ H t = some (.tup (.str (dTag d) :: .str (dName d) :: xs)) := by
  cases d with
  | data x ms => obtain ⟨_, t, q, us, e, h1, _⟩ := h; exact ⟨t, _, e, h1⟩
  | fn x ns e => obtain ⟨_, t, nv, u, e, h1, _⟩ := h; exact ⟨t, _, e, h1⟩
  | cell x kd e tv => obtain ⟨_, _, t, kv, u, e, h1, _⟩ := h; exact ⟨t, _, e, h1⟩
  | view x e => obtain ⟨_, t, u, e, h1, _⟩ := h; exact ⟨t, _, e, h1⟩
  | act x ns sets e => obtain ⟨_, t, nv, q, us, u, e, h1, _⟩ := h; exact ⟨t, _, e, h1⟩
def spExprs : Sp := fun vs H Q _ => ∃ (x : V) (d : Df), vs = [x] ∧ DfAt H d x ∧ ∀ t H' us, Same H H' → H' t = some (.tup us) → us.length ≤ 3 → All2 (fun u e => ExAt H' 4 e u) us (dEs d) → Q (.ref t) H'
theorem ok_expressions {k : Nat} (Z : Defs K mg) : FnOk P w K mg base CX0 (k + 1) Z.fExpressions Z.fdExpressions ["definition"] spExprs := by
  refine Z.DExpressions.F.ok scExpressions (fun vs H Q E h => ?_) (fun cdv A outer s H vs Q E hr h => ?_)
  · obtain ⟨x, d, rfl, _⟩ := h
    rfl
  · obtain ⟨x, d, rfl, hd, qq⟩ := h
    refine ⟨_, (pss_cons (HM.ps_match (pv 0) (HM.pm_tag rfl scExpressions.nd (.wild (.wild (.name (i := 1) rfl (.inl rfl) (by first | exact .inl rfl | exact .inr rfl) .nil))) (pss_one (ps_ret (pe_tup (pa_cons (pv 1) pa_nil))))
          (HM.pm_tag rfl scExpressions.nd (.wild (.wild (.name (i := 1) rfl (.inl rfl) (by first | exact .inl rfl | exact .inr rfl) (.wild .nil)))) (pss_one (ps_ret (pe_tup (pa_cons (pv 1) pa_nil))))
          (HM.pm_tag rfl scExpressions.nd (.wild (.name (i := 1) rfl (.inl rfl) (by first | exact .inl rfl | exact .inr rfl) .nil)) (pss_one (ps_ret (pe_tup (pa_cons (pv 1) pa_nil))))
          (HM.pm_tag rfl scExpressions.nd (.wild (.wild (.name (i := 2) rfl (.inl rfl) (by first | exact .inl rfl | exact .inr rfl) (.name (i := 1) rfl (.inl rfl) (by first | exact .inl rfl | exact .inr rfl) .nil)))) (pss_one (ps_ret (pe_tup (StX.pa_star (pe_lc (own := [("setting", 3)]) (g := (gName 3)) (by rfl) scExpressions.nd (HK.pi_tupK (K := K) rfl (pv 2)) (blkOk_by (own := [("setting", 3)]) (N := ["definition", "e", "settings", "setting"]) (sc := defScope sExpressions) (by decide +kernel)) (fun _ _ _ _ _ => (pg_name (i := 3) scExpressions.nd rfl (Or.inl rfl))) (fun _ _ _ _ _ => pts_nil) (fun _ _ _ _ _ => (pe_ix (HL.ix_tupK (K := K) rfl) (pv 3) pe_int (fun _ _ => rfl)))) (pa_cons (pv 1) pa_nil)))))
          HM.pm_nil)))))
        (pss_one (ps_ret (pe_tup pa_nil)))), ?_⟩
    have no : ∀ {a b : Str} {p : Prop}, decide (a = b) = false → ¬ (a = b ∧ p) := fun h z => by rw [decide_eq_true z.1] at h; cases h
    cases d with
    | data x ms =>
      obtain ⟨_, t, q, us, rfl, ht, hq, hl, hm⟩ := hd
      refine ⟨_, rfl, t, "data", _, rfl, SqT.of ht, iteNo (no (by decide +kernel)) ⟨t, "data", _, rfl, SqT.of ht, iteNo (no (by decide +kernel)) ⟨t, "data", _, rfl, SqT.of ht, iteNo (no (by decide +kernel)) ⟨t, "data", _, rfl, SqT.of ht, iteNo (no (by decide +kernel)) ?_⟩⟩⟩⟩
      exact ⟨Nat.zero_le _, fun T hT => qq T _ [] (same_upd hT) upd_same (Nat.zero_le _) .nil⟩
    | fn x ns e =>
      obtain ⟨_, t, nv, u, rfl, ht, hq, he⟩ := hd
      refine ⟨_, rfl, t, "fun", _, rfl, SqT.of ht, iteYes ⟨rfl, rfl⟩ ?_⟩
      exact ⟨_, rfl, by show 1 ≤ sizeLine; decide, fun T hT => qq T _ [u] (same_upd hT) upd_same (by show 1 ≤ 3; decide) (.one (he.keep (TupK.of (same_upd hT))))⟩
    | cell x kd e tv =>
      obtain ⟨_, _, t, kv, u, rfl, ht, hk, he⟩ := hd
      refine ⟨_, rfl, t, "cell", _, rfl, SqT.of ht, iteNo (no (by decide +kernel)) ⟨t, "cell", _, rfl, SqT.of ht, iteYes ⟨rfl, rfl⟩ ?_⟩⟩
      exact ⟨_, rfl, by show 1 ≤ sizeLine; decide, fun T hT => qq T _ [u] (same_upd hT) upd_same (by show 1 ≤ 3; decide) (.one (he.keep (TupK.of (same_upd hT))))⟩
    | view x e =>
      obtain ⟨_, t, u, rfl, ht, he⟩ := hd
      refine ⟨_, rfl, t, "view", _, rfl, SqT.of ht, iteNo (no (by decide +kernel)) ⟨t, "view", _, rfl, SqT.of ht, iteNo (no (by decide +kernel)) ⟨t, "view", _, rfl, SqT.of ht, iteYes ⟨rfl, rfl⟩ ?_⟩⟩⟩
      exact ⟨_, rfl, by show 1 ≤ sizeLine; decide, fun T hT => qq T _ [u] (same_upd hT) upd_same (by show 1 ≤ 3; decide) (.one (he.keep (TupK.of (same_upd hT))))⟩
    | act x ns sets e =>
      obtain ⟨_, t, nv, r, ss, u, rfl, ht, hq, hr2, hl, hs, he⟩ := hd
      refine ⟨_, rfl, t, "act", _, rfl, SqT.of ht, iteNo (no (by decide +kernel)) ⟨t, "act", _, rfl, SqT.of ht, iteNo (no (by decide +kernel)) ⟨t, "act", _, rfl, SqT.of ht, iteNo (no (by decide +kernel)) ⟨t, "act", _, rfl, SqT.of ht, iteYes ⟨rfl, rfl⟩ ?_⟩⟩⟩⟩
      refine ⟨_, rfl, r, rfl, ⟨ss, SqT.of hr2⟩, fun D hD => ?_⟩
      refine lc_it walk_tup (fun i H' => Same H H' ∧ ∃ acc, H' D = some (.lst acc) ∧ All2 (fun u e => ExAt H' 4 e u) acc ((sets.take i).map (·.2))) ⟨same_upd hD, [], upd_same, .nil⟩ (fun i H' _ p => SqT.of (p.1 _ _ hr2)) ?_ ?_
      · rintro i x H0 H1 hi ⟨s1, acc, hD1, hacc⟩ ⟨rfl, hx⟩
        obtain ⟨m', he', c, u', rfl, hc, _, hu'⟩ := hs.get hx
        have k1 := tk_lst (o := .lst (acc ++ [u'])) hD1
        refine ⟨rfl, lc_yes ⟨_, rfl, c, _, 1, _, rfl, rfl, SqT.of (s1 _ _ hc), rfl, acc, hD1, ?_, fun b o hb => ?_, _, upd_same, ?_⟩⟩
        · have := hacc.len
          rw [List.length_map, List.length_take] at this
          have : 3 ≤ sizeLine := by decide
          omega
        · rw [upd_ne (ne_of_none hb hD)]
          exact s1 _ _ hb
        · rw [take_snoc he', List.map_append]
          exact (hacc.mono fun x y h => h.keep k1).app (.one (hu'.keep ((TupK.of s1).tr k1)))
      · rintro H1 ⟨s1, acc, hD1, hacc⟩
        rw [hs.len, List.take_length] at hacc
        have hal : acc.length ≤ 2 := by rw [hacc.len, List.length_map, ← hs.len]; exact hl
        refine ⟨D, acc, rfl, .inr (SqL.of hD1), _, rfl, ?_, fun T hT => ?_⟩
        · have : 3 ≤ sizeLine := by decide
          rw [List.length_append]
          show acc.length + 1 ≤ _
          omega
        · have k2 := TupK.of (same_upd (o := .tup (acc ++ [u])) hT)
          exact qq T _ (acc ++ [u]) (Same.tr s1 (same_upd hT)) upd_same (by rw [List.length_append]; show acc.length + 1 ≤ 3; omega) ((hacc.mono fun x y h => h.keep k2).app (.one (he.keep ((TupK.of s1).tr k2))))
def spParams : Sp := fun vs H Q _ => ∃ (x : V) (d : Df), vs = [x] ∧ DfAt H d x ∧ ∀ t H', Same H H' → H' t = some (.tup ((dPs d).map V.str)) → (dPs d).length ≤ 2 → Q (.ref t) H'
theorem ok_parameters {k : Nat} (Z : Defs K mg) : FnOk P w K mg base CX0 (k + 1) Z.fParameters Z.fdParameters ["definition"] spParams := by
  refine Z.DParameters.F.ok scParameters (fun vs H Q E h => ?_) (fun cdv A outer s H vs Q E hr h => ?_)
  · obtain ⟨x, d, rfl, _⟩ := h
    rfl
  · obtain ⟨x, d, rfl, hd, qq⟩ := h
    refine ⟨_, (pss_one (ps_ret (pe_ifExp (pt_cmpR op_in_seq (pe_ix ix_tup (pv 0) pe_int (fun _ _ => rfl)) (pe_tup (pa_cons pe_str (pa_cons pe_str pa_nil))) rfl) (pe_ix ix_tup (pv 0) pe_int (fun _ _ => rfl)) (pe_tup pa_nil)))), ?_⟩
    obtain ⟨t, xs, rfl, ht⟩ := df_tag hd
    refine ⟨_, rfl, t, _, 0, .str (dTag d), rfl, rfl, SqT.of ht, atI_nat (j := 0) rfl, by show 2 ≤ sizeLine; decide, fun T hT => ⟨T, _, rfl, .inr (SqT.of upd_same), rfl, rfl, _, rfl, ?_⟩⟩
    cases d with
    | fn x ns e =>
      obtain ⟨_, t', nv, u, e1, ht', ⟨q, rfl, hq, hl, _⟩, he⟩ := hd
      cases e1
      exact iteYes (by simp only [dTag]; decide +kernel) ⟨_, rfl, t, _, 2, .ref q, rfl, rfl, SqT.of (same_upd hT _ _ ht'), rfl, qq q _ (same_upd hT) (same_upd hT _ _ hq) hl⟩
    | act x ns sets e =>
      obtain ⟨_, t', nv, r, ss, u, e1, ht', ⟨q, rfl, hq, hl, _⟩, _⟩ := hd
      cases e1
      exact iteYes (by simp only [dTag]; decide +kernel) ⟨_, rfl, t, _, 2, .ref q, rfl, rfl, SqT.of (same_upd hT _ _ ht'), rfl, qq q _ (same_upd hT) (same_upd hT _ _ hq) hl⟩
    | data x ms => exact iteNo (by simp only [dTag]; decide +kernel) ⟨Nat.zero_le _, fun T2 hT2 => qq T2 _ (Same.tr (same_upd hT) (same_upd hT2)) upd_same (Nat.zero_le _)⟩
    | cell x kd e tv => exact iteNo (by simp only [dTag]; decide +kernel) ⟨Nat.zero_le _, fun T2 hT2 => qq T2 _ (Same.tr (same_upd hT) (same_upd hT2)) upd_same (Nat.zero_le _)⟩
    | view x e => exact iteNo (by simp only [dTag]; decide +kernel) ⟨Nat.zero_le _, fun T2 hT2 => qq T2 _ (Same.tr (same_upd hT) (same_upd hT2)) upd_same (Nat.zero_le _)⟩
def spKinds : Sp := fun vs H Q _ => ∃ (x : V) (d : Df), vs = [x] ∧ DfAt H d x ∧ ∀ t H' us, Same H H' → H' t = some (.tup us) → us.length ≤ 4 → All2 (KdAt H') us (dKinds d) → Q (.ref t) H'
theorem ok_kinds {k : Nat} (Z : Defs K mg) : FnOk P w K mg base CX0 (k + 1) Z.fKinds Z.fdKinds ["definition"] spKinds := by
  refine Z.DKinds.F.ok scKinds (fun vs H Q E h => ?_) (fun cdv A outer s H vs Q E hr h => ?_)
  · obtain ⟨x, d, rfl, _⟩ := h
    rfl
  · obtain ⟨x, d, rfl, hd, qq⟩ := h
    refine ⟨_, (pss_cons (HM.ps_match (pv 0) (HM.pm_tag rfl scKinds.nd (.wild (.name (i := 1) rfl (.inl rfl) (by first | exact .inl rfl | exact .inr rfl) .nil)) (pss_one (ps_ret (pe_callTy call_tuple_of (by rfl) Z.tuple HL.boot_tuple (pa_cons (pe_lc2 (own := [("_", 3), ("fields", 4), ("field", 5)]) (vs1 := [5]) (g := (gTup K 2 (gCons (gName 3) (gCons (gName 4) gNil)))) (g1 := (gName 5)) (by rfl) scKinds.nd  (pi_tup (pv 1)) (blkOk_by (own := [("_", 3), ("fields", 4), ("field", 5)]) (N := ["definition", "makers", "kind", "_", "fields", "field"]) (sc := defScope sKinds) (by decide +kernel)) (by decide) (fun _ _ _ _ _ => (pg_tup rfl (pgs_cons (pg_name (i := 3) scKinds.nd rfl (.inl rfl)) (pgs_cons (pg_name (i := 4) scKinds.nd rfl (.inl rfl)) pgs_nil)))) (fun _ _ _ _ _ => pts_nil) (fun _ _ _ _ _ => (HK.pi_tupK (K := K) rfl (pv 4))) (fun _ _ _ _ _ => (pg_name (i := 5) scKinds.nd rfl (Or.inl rfl))) (fun _ _ _ _ _ => pts_nil) (fun _ _ _ _ _ => (pv 5))) pa_nil))))
          (HM.pm_tag rfl scKinds.nd (.wild (.name (i := 2) rfl (.inl rfl) (by first | exact .inl rfl | exact .inr rfl) (.wild (.wild .nil)))) (pss_one (ps_ret (pe_tup (pa_cons (pv 2) pa_nil))))
          HM.pm_nil)))
        (pss_one (ps_ret (pe_tup pa_nil)))), ?_⟩
    have no : ∀ {a b : Str} {p : Prop}, decide (a = b) = false → ¬ (a = b ∧ p) := fun h z => by rw [decide_eq_true z.1] at h; cases h
    cases d with
    | data x ms =>
      obtain ⟨_, t, q, us, rfl, ht, hq, hl, hm⟩ := hd
      refine ⟨_, rfl, t, "data", _, rfl, SqT.of ht, iteYes ⟨rfl, rfl⟩ ?_⟩
      have hml := hm.len
      refine ⟨_, rfl, q, rfl, ⟨us, SqT.of hq⟩, fun D hD => ?_⟩
      refine HC.wk_it walk_tup (fun i H' => Same H H' ∧ ∃ acc, H' D = some (.lst acc) ∧ acc.length ≤ 2 * i ∧ All2 (KdAt H') acc (((ms.take i).map (·.2)).flatten)) ⟨same_upd hD, [], upd_same, Nat.zero_le _, .nil⟩ (fun i H' _ p => SqT.of (p.1 _ _ hq)) ?_ ?_
      · rintro i x H1z H1 hi ⟨s1, acc, hD1, hal, hacc⟩ ⟨rfl, hx⟩
        obtain ⟨m, hm', a, b, rfl, ha, hup, b', ks, rfl, hb, hkl, hks⟩ := hm.get hx
        have e2 := take_snoc hm'
        refine ⟨a, _, rfl, SqT.of (s1 _ _ ha), rfl, _, _, rfl, _, _, rfl, rfl, rfl, HC.yes (iteT ?_)⟩
        refine ⟨_, rfl, b', rfl, ⟨_, SqT.of (s1 _ _ hb)⟩, ?_⟩
        refine HC.wk_it walk_tup (fun j H' => Same H H' ∧ ∃ acc, H' D = some (.lst acc) ∧ acc.length ≤ 2 * i + j ∧ All2 (KdAt H') acc (((ms.take i).map (·.2)).flatten ++ m.2.take j)) ⟨s1, acc, hD1, by omega, by simpa using hacc⟩ (fun j H' _ p => SqT.of (p.1 _ _ hb)) ?_ ?_
        · rintro j y H2z H2 hj ⟨s2, acc2, hD2, hal2, hacc2⟩ ⟨rfl, hy⟩
          obtain ⟨kd, hkd, hkd2⟩ := hks.get hy
          have k1 := tk_lst (o := .lst (acc2 ++ [y])) hD2
          have big : 100 ≤ sizeLine := by decide
          refine ⟨rfl, HC.yes (iteT ⟨_, rfl, acc2, hD2, by omega, fun z o h => by rw [upd_ne (ne_of_none h hD)]; exact s2 _ _ h, _, upd_same, by rw [List.length_append]; show _ + 1 ≤ _; omega, ?_⟩)⟩
          rw [take_snoc hkd, ← List.append_assoc]
          exact (hacc2.mono fun _ _ r => r.keep k1).app (.one (hkd2.keep ((TupK.of s2).tr k1)))
        · rintro H2 ⟨s2, acc2, hD2, hal2, hacc2⟩
          rw [hks.len, List.take_length] at hacc2
          refine ⟨s2, acc2, hD2, by omega, ?_⟩
          rw [e2, List.map_append, List.flatten_append]
          simpa using hacc2
      · rintro H1 ⟨s1, acc, hD1, hal, hacc⟩
        rw [hml, List.take_length] at hacc
        refine ⟨D, acc, rfl, .inl ⟨SqL.of hD1, fun T hT => ?_⟩⟩
        exact qq T _ acc (Same.tr s1 (same_upd hT)) upd_same (by omega) (hacc.mono fun _ _ r => r.keep (TupK.of (same_upd hT)))
    | cell x kd e tv =>
      obtain ⟨_, _, t, kv, u, rfl, ht, hk, he⟩ := hd
      refine ⟨_, rfl, t, "cell", _, rfl, SqT.of ht, iteNo (no (by decide +kernel)) ⟨t, "cell", _, rfl, SqT.of ht, iteYes ⟨rfl, rfl⟩ ?_⟩⟩
      exact ⟨_, rfl, by show 1 ≤ sizeLine; decide, fun T hT => qq T _ [kv] (same_upd hT) upd_same (by show 1 ≤ 4; decide) (.one (hk.keep (TupK.of (same_upd hT))))⟩
    | fn x ns e =>
      obtain ⟨t, xs, rfl, ht⟩ := df_tag hd
      refine ⟨_, rfl, t, "fun", _, rfl, SqT.of ht, iteNo (no (by decide +kernel)) ⟨t, "fun", _, rfl, SqT.of ht, iteNo (no (by decide +kernel)) ?_⟩⟩
      exact ⟨Nat.zero_le _, fun T hT => qq T _ [] (same_upd hT) upd_same (Nat.zero_le _) .nil⟩
    | view x e =>
      obtain ⟨t, xs, rfl, ht⟩ := df_tag hd
      refine ⟨_, rfl, t, "view", _, rfl, SqT.of ht, iteNo (no (by decide +kernel)) ⟨t, "view", _, rfl, SqT.of ht, iteNo (no (by decide +kernel)) ?_⟩⟩
      exact ⟨Nat.zero_le _, fun T hT => qq T _ [] (same_upd hT) upd_same (Nat.zero_le _) .nil⟩
    | act x ns sets e =>
      obtain ⟨t, xs, rfl, ht⟩ := df_tag hd
      refine ⟨_, rfl, t, "act", _, rfl, SqT.of ht, iteNo (no (by decide +kernel)) ⟨t, "act", _, rfl, SqT.of ht, iteNo (no (by decide +kernel)) ?_⟩⟩
      exact ⟨Nat.zero_le _, fun T hT => qq T _ [] (same_upd hT) upd_same (Nat.zero_le _) .nil⟩
def spMakes : Sp := fun vs H Q _ => ∃ (x : V) (d : Df), vs = [x] ∧ DfAt H d x ∧ ∀ H' l, Same H H' → H l = none → H' l = some (.lst ((dMakes d).map V.str)) → (dMakes d).length ≤ 3 → Q (.ref l) H'
theorem ok_makes {k : Nat} (Z : Defs K mg) : FnOk P w K mg base CX0 (k + 1) Z.fMakes Z.fdMakes ["definition"] spMakes := by
  refine Z.DMakes.F.ok scMakes (fun vs H Q E h => ?_) (fun cdv A outer s H vs Q E hr h => ?_)
  · obtain ⟨x, d, rfl, _⟩ := h
    rfl
  · obtain ⟨x, d, rfl, hd, qq⟩ := h
    refine ⟨_, (pss_cons (ps_set (i := 1) scMakes.nd rfl (.inl rfl) (pe_ix ix_tup (pv 0) pe_int (fun _ _ => rfl)))
        (pss_cons (ps_if (pt_cmpR op_eq (pe_ix ix_tup (pv 0) pe_int (fun _ _ => rfl)) pe_str (nomark _)) (pss_one (ps_ret (pe_lst (pa_cons (pv 1) (StX.pa_star (pe_lc (own := [("maker", 2), ("_", 3)]) (g := (gTup K 2 (gCons (gName 2) (gCons (gName 3) gNil)))) (by rfl) scMakes.nd (HK.pi_tupK (K := K) rfl (pe_ix (HL.ix_tupK (K := K) rfl) (pv 0) pe_int (fun _ _ => rfl))) (blkOk_by (own := [("maker", 2), ("_", 3)]) (N := ["definition", "name", "maker", "_"]) (sc := defScope sMakes) (by decide +kernel)) (fun _ _ _ _ _ => (pg_tup rfl (pgs_cons (pg_name (i := 2) scMakes.nd rfl (.inl rfl)) (pgs_cons (pg_name (i := 3) scMakes.nd rfl (.inl rfl)) pgs_nil)))) (fun _ _ _ _ _ => pts_nil) (fun _ _ _ _ _ => (pv 2))) pa_nil))))) pss_nil)
        (pss_one (ps_ret (pe_lst (pa_cons (pv 1) pa_nil)))))), ?_⟩
    obtain ⟨t, xs, rfl, ht⟩ := df_tag hd
    refine ⟨_, rfl, t, _, 1, .str (dName d), rfl, rfl, SqT.of ht, atI_nat (j := 1) rfl, ?_⟩
    refine ⟨_, rfl, t, _, 0, .str (dTag d), rfl, rfl, SqT.of ht, atI_nat (j := 0) rfl, rfl, _, rfl, ?_⟩
    cases d with
    | data x ms =>
      obtain ⟨_, t', q, us, e1, ht', hq, hl, hm⟩ := hd
      cases e1
      rw [ht'] at ht
      cases ht
      refine iteYes (by simp only [dTag]; decide +kernel) ?_
      refine ⟨_, rfl, _, rfl, t, _, 2, .ref q, rfl, rfl, SqT.of ht', rfl, q, rfl, ⟨us, SqT.of hq⟩, fun D hD => ?_⟩
      refine lc_it walk_tup (fun i H' => Same H H' ∧ H' D = some (.lst ((ms.take i).map fun m => .str m.1))) ⟨same_upd hD, upd_same⟩ (fun i H' _ p => SqT.of (p.1 _ _ hq)) ?_ ?_
      · rintro i x H1z H1 hi ⟨s1, hD1⟩ ⟨rfl, hx⟩
        obtain ⟨m, hm', a, b, rfl, ha, _⟩ := hm.get hx
        have big : 100 ≤ sizeLine := by decide
        refine ⟨a, _, rfl, SqT.of (s1 _ _ ha), rfl, _, _, rfl, _, _, rfl, rfl, rfl, lc_yes ⟨_, rfl, _, hD1, ?_, fun z o h => by rw [upd_ne (ne_of_none h hD)]; exact s1 _ _ h, ?_⟩⟩
        · rw [List.length_map, List.length_take]; omega
        · rw [upd_same, take_snoc hm', List.map_append]; rfl
      · rintro H1 ⟨s1, hD1⟩
        rw [hm.len, List.take_length] at hD1
        have hml := hm.len
        refine ⟨D, _, rfl, .inr (SqL.of hD1), ?_⟩
        refine ⟨?_, fun l hl2 => ?_⟩
        · have big : 100 ≤ sizeLine := by decide
          show (_ :: (_ ++ [])).length ≤ _
          rw [List.append_nil, List.length_cons, List.length_map]
          omega
        · refine qq _ l (Same.tr s1 (same_upd hl2)) (Same.none s1 hl2) ?_ (by show (_ :: _).length ≤ 3; rw [List.length_cons, List.length_map]; omega)
          rw [upd_same, List.append_nil]
          show some (HO.lst (V.str x :: ms.map fun m => V.str m.1)) = some (HO.lst ((x :: ms.map (·.1)).map V.str))
          rw [List.map_cons, List.map_map]
          rfl
    | fn x ns e => exact iteNo (fun h => absurd (V.str.inj (of_decide_eq_true h)) (show ¬ ("fun" : Str) = "data" by decide +kernel)) ⟨_, rfl, by show 1 ≤ sizeLine; decide, fun D hD => qq _ D (same_upd hD) hD upd_same (by show 1 ≤ 3; decide)⟩
    | cell x kd e tv => exact iteNo (fun h => absurd (V.str.inj (of_decide_eq_true h)) (show ¬ ("cell" : Str) = "data" by decide +kernel)) ⟨_, rfl, by show 1 ≤ sizeLine; decide, fun D hD => qq _ D (same_upd hD) hD upd_same (by show 1 ≤ 3; decide)⟩
    | view x e => exact iteNo (fun h => absurd (V.str.inj (of_decide_eq_true h)) (show ¬ ("view" : Str) = "data" by decide +kernel)) ⟨_, rfl, by show 1 ≤ sizeLine; decide, fun D hD => qq _ D (same_upd hD) hD upd_same (by show 1 ≤ 3; decide)⟩
    | act x ns sets e => exact iteNo (fun h => absurd (V.str.inj (of_decide_eq_true h)) (show ¬ ("act" : Str) = "data" by decide +kernel)) ⟨_, rfl, by show 1 ≤ sizeLine; decide, fun D hD => qq _ D (same_upd hD) hD upd_same (by show 1 ≤ 3; decide)⟩
end
end Q11
namespace Q11
open PySem PySem.Spec PyProof.Rows L2 SX HL
section
variable {P : Program} {w : World} {K : PySem.W.Frag} {mg : Str → Option Value} {base : Heap}
/-! ### makers_used, uses -/
def mm (d : Df) (mk : Str → Str) (e : Ex) : List Str := (ment 4 e (dPs d)).map fun p => if p.1 = true then mk p.2 else p.2
def dCells : Df → List Str
  | .act _ _ sets _ => sets.map (·.1)
  | _ => []
def bodyN (d : Df) (mk : Str → Str) : Nat → List Str
  | 0 => []
  | n + 1 => bodyN d mk n ++ ((dCells d).drop n).take 1 ++ (match (dEs d)[n]? with | some e => mm d mk e | none => [])
def turnL : Df → List Str
  | .cell _ _ _ (some y) => [y]
  | _ => []
def dataL (ks : List Kd) : List Str := (ks.filter fun k => decide (k.2 ∉ PLAIN)).map (·.2)
def usesAll (d : Df) (mk : Str → Str) : List Str := dataL (dKinds d) ++ bodyN d mk (dEs d).length ++ turnL d
theorem mm_len {H : Hp} {d : Df} {mk : Str → Str} {e : Ex} {x : V} (h : ExAt H 4 e x) : (mm d mk e).length ≤ 340 := by
  unfold mm
  rw [List.length_map]
  exact Nat.le_trans (ment_len _ h) (mB4 (Nat.le_refl 4))
theorem bodyN_len {H : Hp} {d : Df} {mk : Str → Str} {us : List V} (h : All2 (fun u e => ExAt H 4 e u) us (dEs d)) : ∀ n, (bodyN d mk n).length ≤ 341 * n
  | 0 => Nat.le_refl _
  | n + 1 => by
    have ih := bodyN_len (mk := mk) h n
    have h1 : (((dCells d).drop n).take 1).length ≤ 1 := by rw [List.length_take]; omega
    have h2 : (match (dEs d)[n]? with | some e => mm d mk e | none => []).length ≤ 340 := by
      cases e : (dEs d)[n]? with
      | none => exact Nat.zero_le _
      | some e' =>
        obtain ⟨u, _, hu⟩ := h.getR e
        exact mm_len hu
    rw [bodyN, List.length_append, List.length_append]
    omega
/-- a dict of names -/
def MapAt (H : Hp) (a : Addr) (mk : Str → Str) : Prop := ∃ kvs, H a = some (.dK kvs) ∧ ∀ z, (valV kvs (.inr z)).getD (.str z) = .str (mk z)
theorem MapAt.keep {H H' : Hp} {a : Addr} {mk : Str → Str} (h : MapAt H a mk) (e : ∀ o, H a = some o → H' a = some o) : MapAt H' a mk := by
  obtain ⟨kvs, h1, h2⟩ := h
  exact ⟨kvs, e _ h1, h2⟩
theorem dataL_snoc (ks : List Kd) (k : Kd) : dataL (ks ++ [k]) = dataL ks ++ (if k.2 ∈ PLAIN then [] else [k.2]) := by
  unfold dataL
  rw [List.filter_append, List.map_append]
  congr 1
  by_cases h : k.2 ∈ PLAIN
  · rw [if_pos h]; simp [h]
  · rw [if_neg h]; simp [h]
theorem dataL_len (ks : List Kd) : (dataL ks).length ≤ ks.length := by
  unfold dataL
  rw [List.length_map]
  exact List.length_filter_le ..
theorem snoc_str (l : List Str) (z : Str) : some (HO.lst (l.map V.str ++ [V.str z])) = some (HO.lst ((l ++ [z]).map V.str)) := by
  rw [List.map_append]
  rfl
def spUses : Sp := fun vs H Q _ => ∃ (x : V) (d : Df) (a : Addr) (mk : Str → Str), vs = [x, .ref a] ∧ DfAt H d x ∧ MapAt H a mk ∧ ∀ H' l, Same H H' → H l = none → H' l = some (.lst ((once (usesAll d mk)).map V.str)) → (usesAll d mk).length ≤ 2000 → Q (.ref l) H'
theorem ok_uses {k : Nat} (Z : Defs K mg) : FnOk P w K mg base CX0 (k + 11) Z.fUses Z.fdUses ["definition", "makers"] spUses := by
  have GKinds : FnOk P w K mg base CX0 (k + 1) Z.fKinds Z.fdKinds ["definition"] spKinds := ok_kinds Z
  have GExpressions : FnOk P w K mg base CX0 (k + 1) Z.fExpressions Z.fdExpressions ["definition"] spExprs := ok_expressions Z
  have GParameters : FnOk P w K mg base CX0 (k + 1) Z.fParameters Z.fdParameters ["definition"] spParams := ok_parameters Z
  have GMentioned : FnOk P w K mg base CX0 (k + 10) Z.fMentioned Z.fdMentioned ["e", "local"] (spMent 4) := ok_ment Z 4 (Nat.le_refl _)
  have GEachOnce : FnOk P w K mg base CX0 (k + 1) Z.fEachOnce Z.fdEachOnce ["words"] spOnce := ok_once Z
  refine Z.DUses.F.ok scUses (fun vs H Q E h => ?_) (fun cdv A outer s H vs Q E hr h => ?_)
  · obtain ⟨x, d, a, mk, rfl, _⟩ := h
    rfl
  · obtain ⟨x, d, a, mk, rfl, hd, ha, qq⟩ := h
    refine ⟨_, (pss_cons (ps_setLc (i := 2) (own := [("_", 8), ("base", 9)]) (g := (gTup K 2 (gCons (gName 8) (gCons (gName 9) gNil)))) (by rfl) scUses.nd rfl rfl (sw_true rfl rfl rfl (by decide +kernel)) (HK.pi_tupK (K := K) rfl (pe_call GKinds (hr.mono (by omega)) (by rfl) Z.DKinds.g Z.DKinds.F.kp Z.DKinds.b .nil pass0 (pa_cons (pv 0) pa_nil))) (blkOk_by (own := [("_", 8), ("base", 9)]) (N := ["definition", "makers", "used", "cells", "place", "e", "is_maker", "word", "_", "base", "cell"]) (sc := defScope sUses) (by decide +kernel)) (fun _ _ _ _ _ => (pg_tup rfl (pgs_cons (pg_name (i := 8) scUses.nd rfl (.inl rfl)) (pgs_cons (pg_name (i := 9) scUses.nd rfl (.inl rfl)) pgs_nil)))) (fun _ _ _ _ _ => (pts_one (pt_cmpR (HL.op_notIn_seqK (K := K) rfl) (pv 9) (pe_glob (v := .ref Z.aPLAINBASES) rfl Z.gPLAINBASES rfl) rfl))) (fun _ _ _ _ _ => (pv 9)))
        (C8.pss_cut (ps_set (i := 3) scUses.nd rfl (.inl rfl) (pe_ifExp (pt_cmpR op_eq (pe_ix ix_tup (pv 0) pe_int (fun _ _ => rfl)) pe_str (nomark _)) (pe_lc (own := [("cell", 10), ("_", 8)]) (g := (gTup K 2 (gCons (gName 10) (gCons (gName 8) gNil)))) (by rfl) scUses.nd (HK.pi_tupK (K := K) rfl (pe_ix (HL.ix_tupK (K := K) rfl) (pv 0) pe_int (fun _ _ => rfl))) (blkOk_by (own := [("cell", 10), ("_", 8)]) (N := ["definition", "makers", "used", "cells", "place", "e", "is_maker", "word", "_", "base", "cell"]) (sc := defScope sUses) (by decide +kernel)) (fun _ _ _ _ _ => (pg_tup rfl (pgs_cons (pg_name (i := 10) scUses.nd rfl (.inl rfl)) (pgs_cons (pg_name (i := 8) scUses.nd rfl (.inl rfl)) pgs_nil)))) (fun _ _ _ _ _ => pts_nil) (fun _ _ _ _ _ => (pv 10))) (pe_lst pa_nil)))
        (pss_cons (ps_for PassesOwn.never rfl (ET.pi_enumTK (K := K) rfl (by rfl) Z.enumerate (pa_cons (pe_call GExpressions (hr.mono (by omega)) (by rfl) Z.DExpressions.g Z.DExpressions.F.kp Z.DExpressions.b .nil pass0 (pa_cons (pv 0) pa_nil)) pa_nil)) (pg_tup rfl (pgs_cons (pg_name (i := 4) scUses.nd rfl (.inl rfl)) (pgs_cons (pg_name (i := 5) scUses.nd rfl (.inl rfl)) pgs_nil))) (pss_cons (ps_expr (pe_bm PySem.F.plainAttrs_list PySem.F.slot_list_extend PySem.F.type_list_extend mt_extend (pv 2) (pa_cons (pe_slice sl_list (pv 3) (po_some (pv 4)) (po_some (pe_op op_add (pv 4) pe_int))) pa_nil)))
        (pss_one (ps_for PassesOwn.never rfl (pi_list (pe_call GMentioned (hr.mono (by omega)) (by rfl) Z.DMentioned.g Z.DMentioned.F.kp Z.DMentioned.b .nil pass0 (pa_cons (pv 5) (pa_cons (pe_call GParameters (hr.mono (by omega)) (by rfl) Z.DParameters.g Z.DParameters.F.kp Z.DParameters.b .nil pass0 (pa_cons (pv 0) pa_nil)) pa_nil)))) (pg_tup rfl (pgs_cons (pg_name (i := 6) scUses.nd rfl (.inl rfl)) (pgs_cons (pg_name (i := 7) scUses.nd rfl (.inl rfl)) pgs_nil))) (pss_one (ps_expr (pe_bm PySem.F.plainAttrs_list PySem.F.slot_list_append PySem.F.type_list_append mt_append (pv 2) (pa_cons (pe_ifExp (pt_val (pv 6)) (pe_dget2 (hu_of hr) (pv 1) (pv 7) (pv 7) ⟨rfl, rfl, rfl, rfl⟩) (pv 7)) pa_nil))))))))
        (C8.pss_cut (ps_if (PW.pt (pw_and (pt_cmpR op_eq (pe_ix ix_tup (pv 0) pe_int (fun _ _ => rfl)) pe_str (nomark _)) (pw_and1 (pt_cmp (pc_notN (pe_ix ix_tup (pv 0) pe_int (fun _ _ => rfl))))))) (pss_one (ps_expr (pe_bm PySem.F.plainAttrs_list PySem.F.slot_list_append PySem.F.type_list_append mt_append (pv 2) (pa_cons (pe_ix ix_tup (pv 0) pe_int (fun _ _ => rfl)) pa_nil)))) pss_nil)
        (pss_one (ps_ret (pe_call GEachOnce (hr.mono (by omega)) (by rfl) Z.DEachOnce.g Z.DEachOnce.F.kp Z.DEachOnce.b .nil pass0 (pa_cons (pv 2) pa_nil)))))))), ?_⟩
    have big : 100000 ≤ sizeLine := by decide
    refine ⟨_, rfl, x, d, rfl, hd, fun t1 H1 us s1 ht1 hl1 hus => ⟨t1, rfl, ⟨_, SqT.of ht1⟩, fun D hD => ?_⟩⟩
    have hDn : H D = none := Same.none s1 hD
    have hul := hus.len
    refine lc_it walk_tup (fun i H' => Same H1 H' ∧ H' D = some (.lst ((dataL ((dKinds d).take i)).map V.str))) ⟨same_upd hD, upd_same⟩ (fun i H' _ p => SqT.of (p.1 _ _ ht1)) ?_ ?_
    · rintro i y H2z H2 hi ⟨s2, hD2⟩ ⟨rfl, hy⟩
      obtain ⟨kd, hkd, hb, tk, rfl, hk⟩ := hus.get hy
      have e2 := dataL_snoc ((dKinds d).take i) kd
      rw [← take_snoc hkd] at e2
      refine ⟨tk, _, rfl, SqT.of (s2 _ _ hk), rfl, _, _, rfl, _, _, rfl, rfl, rfl, ?_⟩
      refine ⟨_, rfl, Z.aPLAINBASES, _, rfl, .inr (Z.sPLAINBASES _), rfl, rfl, _, rfl, ?_⟩
      have eI : inV (V.str kd.2) [V.str "num", V.str "text", V.str "bool"] = decide (kd.2 ∈ PLAIN) := inV_str kd.2 PLAIN
      have hdl := dataL_len ((dKinds d).take i)
      rw [List.length_take] at hdl
      rw [if_pos rfl, eI]
      by_cases hp : kd.2 ∈ PLAIN
      · rw [if_pos hp, List.append_nil] at e2
        rw [decide_eq_true hp]
        refine iteF ⟨s2, ?_⟩
        rw [e2]
        exact hD2
      · rw [if_neg hp] at e2
        rw [decide_eq_false hp]
        refine iteT ⟨_, rfl, _, hD2, by rw [List.length_map]; omega, fun z o h => by rw [upd_ne (ne_of_none h hD)]; exact s2 _ _ h, ?_⟩
        rw [upd_same, e2, List.map_append]
        rfl
    · rintro H2 ⟨s2, hD2⟩
      rw [hul, List.take_length] at hD2
      have s02 := Same.tr s1 s2
      have hd2 := hd.keep (TupK.of s02)
      have hdl := dataL_len (dKinds d)
      obtain ⟨t, xs, rfl, ht⟩ := df_tag hd
      refine ⟨fun σ' H' => ∃ c : Addr, σ' = [some (.ref t), some (.ref a), some (.ref D), some (.ref c), none, none, none, none, none, none, none] ∧ Same H2 H' ∧ H' c = some (.lst ((dCells d).map V.str)) ∧ H2 c = none, ?_, ?_⟩
      · refine ⟨_, rfl, t, _, 0, .str (dTag d), rfl, rfl, SqT.of (s02 _ _ ht), atI_nat (j := 0) rfl, rfl, _, rfl, ?_⟩
        cases d with
        | act x ns sets e =>
          obtain ⟨_, t', nv, q, us', u, e1, ht', hnv, hq, hl, hs, he⟩ := hd2
          cases e1
          refine iteYes (by simp only [dTag]; decide +kernel) ⟨_, rfl, t, _, 3, .ref q, rfl, rfl, SqT.of ht', rfl, q, rfl, ⟨us', SqT.of hq⟩, fun c hc => ?_⟩
          refine lc_it walk_tup (fun i H' => Same H2 H' ∧ H' c = some (.lst ((sets.take i).map fun m => .str m.1))) ⟨same_upd hc, upd_same⟩ (fun i H' _ p => SqT.of (p.1 _ _ hq)) ?_ ?_
          · rintro i y H3z H3 hi ⟨s3, hc3⟩ ⟨rfl, hy⟩
            obtain ⟨m, hm', b, b2, rfl, hb, _⟩ := hs.get hy
            refine ⟨b, _, rfl, SqT.of (s3 _ _ hb), rfl, _, _, rfl, _, _, rfl, rfl, rfl, lc_yes ⟨_, rfl, _, hc3, ?_, fun z o h => by rw [upd_ne (ne_of_none h hc)]; exact s3 _ _ h, ?_⟩⟩
            · rw [List.length_map, List.length_take]; omega
            · rw [upd_same, take_snoc hm', List.map_append]; rfl
          · rintro H3 ⟨s3, hc3⟩
            rw [hs.len, List.take_length] at hc3
            refine ⟨c, rfl, s3, ?_, hc⟩
            rw [hc3]
            show _ = some (HO.lst ((sets.map (·.1)).map V.str))
            rw [List.map_map]
            rfl
        | data x ms => exact iteNo (fun h => absurd (V.str.inj (of_decide_eq_true h)) (show ¬ ("data" : Str) = "act" by decide +kernel)) ⟨Nat.zero_le _, fun c hc => ⟨c, rfl, same_upd hc, upd_same, hc⟩⟩
        | fn x ns e => exact iteNo (fun h => absurd (V.str.inj (of_decide_eq_true h)) (show ¬ ("fun" : Str) = "act" by decide +kernel)) ⟨Nat.zero_le _, fun c hc => ⟨c, rfl, same_upd hc, upd_same, hc⟩⟩
        | cell x kd e tv => exact iteNo (fun h => absurd (V.str.inj (of_decide_eq_true h)) (show ¬ ("cell" : Str) = "act" by decide +kernel)) ⟨Nat.zero_le _, fun c hc => ⟨c, rfl, same_upd hc, upd_same, hc⟩⟩
        | view x e => exact iteNo (fun h => absurd (V.str.inj (of_decide_eq_true h)) (show ¬ ("view" : Str) = "act" by decide +kernel)) ⟨Nat.zero_le _, fun c hc => ⟨c, rfl, same_upd hc, upd_same, hc⟩⟩
      · rintro σ' H3 ⟨c, rfl, s3, hc3, hc2⟩
        have hD3 := s3 _ _ hD2
        have ncD : c ≠ D := fun e => by rw [e, hD2] at hc2; cases hc2
        have hcl : (dCells d).length ≤ 2 := by
          cases d with
          | act x ns sets e =>
            obtain ⟨_, t', nv, q, us', u, e1, ht', hnv, hq, hl, hs, he⟩ := hd2
            show (sets.map (·.1)).length ≤ 2
            rw [List.length_map, ← hs.len]
            exact hl
          | _ => exact Nat.zero_le _
        refine ⟨_, rfl, .ref t, d, rfl, hd2.keep (TupK.of s3), fun et H4 es s4 het hel hes => ⟨et, es, rfl, SqT.of het, ?_⟩⟩
        have s04 := Same.tr s02 (Same.tr s3 s4)
        have hbl := bodyN_len (mk := mk) hes
        refine for_it ET.walk_et (fun i σ H' => ∃ (y4 y5 y6 y7 : Option V), σ = [some (.ref t), some (.ref a), some (.ref D), some (.ref c), y4, y5, y6, y7, none, none, none] ∧ (∀ z o, H4 z = some o → z ≠ D → H' z = some o) ∧ H' D = some (.lst ((dataL (dKinds d) ++ bodyN d mk i).map V.str))) ⟨_, _, _, _, rfl, fun z o h _ => h, by rw [s4 _ _ hD3, bodyN, List.append_nil]⟩ (fun i σ H' _ ⟨_, _, _, _, _, f, _⟩ => SqT.of (f _ _ het fun e => by rw [e, s4 _ _ hD3] at het; cases het)) ?_ ?_
        · rintro i y σ H5 H5' hi ⟨y4, y5, y6, y7, rfl, f5, hD5⟩ ⟨T, x1, x2, rfl, hT, rfl, e1, e2⟩
          obtain rfl : V.int (i : Nat) = x1 := Option.some.inj e1
          replace e2 : es[i]? = some x2 := e2
          obtain ⟨ex, hex, hex2⟩ := hes.get e2
          have sT : Same H5 (upd H5 T (.tup [.int (i : Nat), x2])) := same_upd hT
          have gT : upd H5 T (.tup [.int (i : Nat), x2]) T = some (.tup [.int (i : Nat), x2]) := upd_same
          generalize upd H5 T (.tup [.int (i : Nat), x2]) = H6 at sT gT ⊢
          refine ⟨T, _, rfl, SqT.of gT, rfl, _, _, rfl, _, _, rfl, rfl, ?_⟩
          have hD6 := sT _ _ hD5
          have f6 : ∀ z o, H4 z = some o → z ≠ D → H6 z = some o := fun z o h n => sT _ _ (f5 _ _ h n)
          have hc6 := f6 _ _ (s4 _ _ hc3) ncD
          have cutE : cutV ((dCells d).map V.str) (some (i : Int)) (some ((i : Int) + 1)) = (((dCells d).drop i).take 1).map V.str := by
            have := cut_mid ((dCells d).map V.str) i (i + 1)
            rw [show ((i + 1 : Nat) : Int) = (i : Int) + 1 by omega] at this
            rw [this, List.map_take, List.map_drop]
            congr 1
            omega
          have hes3 : i < 3 := by have : i < es.length := hi; omega
          have hbi := bodyN_len (mk := mk) hes i
          have hb1 : (((dCells d).drop i).take 1).length ≤ 1 := by rw [List.length_take]; omega
          refine ⟨_, rfl, .inl ⟨rfl, _, SqL.of hD6⟩, _, rfl, _, rfl, (i : Int), rfl, _, rfl, _, _, rfl, rfl, ((i : Int) + 1), rfl, ?_⟩
          refine ⟨c, _, rfl, SqL.of hc6, fun q hq => ?_⟩
          have s7 := same_upd (o := .lst (cutV ((dCells d).map V.str) (some (i : Int)) (some ((i : Int) + 1)))) hq
          have g7 : upd H6 q (.lst (cutV ((dCells d).map V.str) (some (i : Int)) (some ((i : Int) + 1)))) q = some (.lst ((((dCells d).drop i).take 1).map V.str)) := by rw [upd_same, cutE]
          generalize upd H6 q (.lst (cutV ((dCells d).map V.str) (some (i : Int)) (some ((i : Int) + 1)))) = H7 at s7 g7 ⊢
          have hD7 := s7 _ _ hD6
          have hl8 : (dataL (dKinds d)).length ≤ 4 := by omega
          refine ⟨D, q, _, _, rfl, rfl, hD7, g7, by simp only [List.length_map, List.length_append]; omega, ?_⟩
          have f8 : ∀ z o, H4 z = some o → z ≠ D → upd H7 D (.lst ((dataL (dKinds d) ++ bodyN d mk i).map V.str ++ (((dCells d).drop i).take 1).map V.str)) z = some o := fun z o h n => by rw [upd_ne n]; exact s7 _ _ (f6 _ _ h n)
          have g8 : upd H7 D (.lst ((dataL (dKinds d) ++ bodyN d mk i).map V.str ++ (((dCells d).drop i).take 1).map V.str)) D = some (.lst ((dataL (dKinds d) ++ bodyN d mk i ++ ((dCells d).drop i).take 1).map V.str)) := by rw [upd_same, ← List.map_append]
          generalize upd H7 D (.lst ((dataL (dKinds d) ++ bodyN d mk i).map V.str ++ (((dCells d).drop i).take 1).map V.str)) = H8 at f8 g8 ⊢
          have nt : ∀ z x, H4 z = some (.tup x) → z ≠ D := fun z x h e => by rw [e, s4 _ _ hD3] at h; cases h
          have k48 : TupK H4 H8 := fun z x h => f8 _ _ h (nt z x h)
          have hd8 : DfAt H8 d (.ref t) := (hd2.keep (TupK.of (Same.tr s3 s4))).keep k48
          refine ⟨_, rfl, _, rfl, .ref t, d, rfl, hd8, fun pt H9 s9 hpt hpl => ?_⟩
          have hex9 : ExAt H9 4 ex x2 := (hex2.keep k48).keep (TupK.of s9)
          refine ⟨x2, ex, pt, dPs d, rfl, hex9, hpt, by omega, fun H10 l ls s10 hln hl10 hls => ⟨l, rfl, ⟨_, SqL.of hl10⟩, ?_⟩⟩
          have hD9 := s9 _ _ g8
          have hlD : l ≠ D := fun e => by rw [e, hD9] at hln; cases hln
          have f10 : ∀ z o, H4 z = some o → z ≠ D → H10 z = some o := fun z o h n => s10 _ _ (s9 _ _ (f8 _ _ h n))
          have hml := mm_len (mk := mk) (d := d) hex2
          have hll := hls.len
          have eM : ∀ j p, (ment 4 ex (dPs d))[j]? = some p → (mm d mk ex).take (j + 1) = (mm d mk ex).take j ++ [if p.1 = true then mk p.2 else p.2] := fun j p hp => take_snoc (by unfold mm; rw [List.getElem?_map, hp]; rfl)
          refine for_it walk_list (fun j σ H' => ∃ (y6 y7 : Option V), σ = [some (.ref t), some (.ref a), some (.ref D), some (.ref c), some (.int (i : Nat)), some x2, y6, y7, none, none, none] ∧ (∀ z o, H10 z = some o → z ≠ D → H' z = some o) ∧ H' D = some (.lst ((dataL (dKinds d) ++ bodyN d mk i ++ ((dCells d).drop i).take 1 ++ (mm d mk ex).take j).map V.str))) ⟨y6, y7, rfl, fun z o h _ => h, by rw [s10 _ _ hD9, List.take_zero, List.append_nil]⟩ (fun j σ H' _ ⟨_, _, _, f, _⟩ => SqL.of (f _ _ hl10 hlD)) ?_ ?_
          · rintro j y σ H11z H11 hj ⟨y6, y7, rfl, f11, hD11⟩ ⟨rfl, hy⟩
            obtain ⟨⟨b, word⟩, hp, tt, rfl, htt⟩ := hls.get hy
            have ntt : tt ≠ D := fun e => by rw [e, s10 _ _ hD9] at htt; cases htt
            have eJ := eM j _ hp
            have hmd : MapAt H11 a mk := ha.keep fun o h => f11 _ _ (f10 _ _ (s04 _ _ h) (fun e => by rw [e, hDn] at h; cases h)) (fun e => by rw [e, hDn] at h; cases h)
            obtain ⟨kvs, hkv, hmk⟩ := hmd
            have hlen : ((dataL (dKinds d) ++ bodyN d mk i ++ ((dCells d).drop i).take 1 ++ (mm d mk ex).take j).map V.str).length < sizeLine := by
              have : ((mm d mk ex).take j).length ≤ (mm d mk ex).length := by rw [List.length_take]; exact Nat.min_le_right ..
              simp only [List.length_map, List.length_append]
              omega
            refine ⟨tt, _, rfl, SqT.of (f11 _ _ htt ntt), rfl, _, _, rfl, _, _, rfl, rfl, ?_⟩
            refine ⟨_, rfl, .inl ⟨rfl, _, SqL.of hD11⟩, _, rfl, b, rfl, ?_⟩
            cases b with
            | true =>
              refine iteT ⟨_, rfl, a, rfl, .inl ⟨_, .inl hkv⟩, _, rfl, _, rfl, _, .inl ⟨kvs, .inr word, .inl hkv, rfl, rfl⟩, ?_⟩
              have eg := hmk word
              rw [eg]
              exact ⟨D, _, _, rfl, rfl, hD11, hlen, _, _, rfl, fun z o h n => by rw [upd_ne n]; exact f11 _ _ h n, by rw [upd_same, eJ, ← List.append_assoc]; exact snoc_str _ _⟩
            | false =>
              refine iteF ⟨_, rfl, ?_⟩
              exact ⟨D, _, _, rfl, rfl, hD11, hlen, _, _, rfl, fun z o h n => by rw [upd_ne n]; exact f11 _ _ h n, by rw [upd_same, eJ, ← List.append_assoc]; exact snoc_str _ _⟩
          · rintro σ H11 ⟨y6, y7, rfl, f11, hD11⟩
            refine ⟨_, _, _, _, rfl, fun z o h n => f11 _ _ (f10 _ _ h n) n, ?_⟩
            rw [hD11, hll, List.take_of_length_le (l := mm d mk ex) (by unfold mm; rw [List.length_map]; exact Nat.le_refl _), bodyN, hex]
            simp only [List.append_assoc]
        · rintro σ H5 ⟨y4, y5, y6, y7, rfl, f5, hD5⟩
          rw [hes.len] at hD5
          have s05 : ∀ z o, H z = some o → H5 z = some o := fun z o h => f5 _ _ (s04 _ _ h) fun e => by rw [e, hDn] at h; cases h
          have nD : ∀ z x, H z = some (.tup x) → z ≠ D := fun z x h e => by rw [e, hDn] at h; cases h
          have htg := s05 _ _ ht
          have hub : (dataL (dKinds d) ++ bodyN d mk (dEs d).length).length ≤ 1200 := by
            have h1 := hbl (dEs d).length
            have h2 := hes.len
            rw [List.length_append]
            have : 341 * (dEs d).length ≤ 341 * 3 := Nat.mul_le_mul_left _ (by omega)
            omega
          have fin : ∀ (H' : Hp) (l : List Str), Same H H' → H' D = some (.lst (l.map V.str)) → l = usesAll d mk → l.length ≤ 1201 → ∀ Q', Q' = Q → spOnce [.ref D] H' Q' E0 := fun H' l s e e2 e3 Q' eQ => by
            subst eQ
            refine ⟨D, l, rfl, e, by omega, fun H'' l2 s2 hn hl2 => ?_⟩
            rw [e2] at hl2
            exact qq H'' l2 (Same.tr s s2) (Same.none s hn) hl2 (by rw [← e2]; omega)
          refine ⟨fun σ' H' => ∃ (y4 y5 y6 y7 : Option V), σ' = [some (.ref t), some (.ref a), some (.ref D), some (.ref c), y4, y5, y6, y7, none, none, none] ∧ Same H H' ∧ H' D = some (.lst ((usesAll d mk).map V.str)) ∧ (usesAll d mk).length ≤ 1201, ?_, ?_⟩
          · refine ⟨_, rfl, t, _, 0, .str (dTag d), rfl, rfl, SqT.of htg, atI_nat (j := 0) rfl, rfl, _, rfl, ?_⟩
            have no : turnL d = [] → ∃ (z4 z5 z6 z7 : Option V), ([some (.ref t), some (.ref a), some (.ref D), some (.ref c), y4, y5, y6, y7, none, none, none] : List (Option V)) = [some (.ref t), some (.ref a), some (.ref D), some (.ref c), z4, z5, z6, z7, none, none, none] ∧ Same H H5 ∧ H5 D = some (.lst ((usesAll d mk).map V.str)) ∧ (usesAll d mk).length ≤ 1201 := fun e => by
              have eu : usesAll d mk = dataL (dKinds d) ++ bodyN d mk (dEs d).length := by unfold usesAll; rw [e, List.append_nil]
              exact ⟨_, _, _, _, rfl, s05, by rw [eu]; exact hD5, by rw [eu]; omega⟩
            cases d with
            | cell x kd e tv =>
              obtain ⟨_, _, t', kv, u, e1, ht', _⟩ := hd
              cases e1
              refine iteYes (decide_eq_true rfl) ⟨_, rfl, t, _, 4, tvV tv, rfl, rfl, SqT.of (s05 _ _ ht'), rfl, ?_⟩
              cases tv with
              | none => exact ⟨false, rfl, iteF (no rfl)⟩
              | some y =>
                refine ⟨true, rfl, iteT ⟨_, rfl, .inl ⟨rfl, _, SqL.of hD5⟩, _, rfl, t, _, 4, .str y, rfl, rfl, SqT.of (s05 _ _ ht'), rfl, D, _, _, rfl, rfl, hD5, by rw [List.length_map]; omega, ?_⟩⟩
                have eu : usesAll (.cell x kd e (some y)) mk = dataL (dKinds (.cell x kd e (some y))) ++ bodyN (.cell x kd e (some y)) mk (dEs (.cell x kd e (some y))).length ++ [y] := rfl
                exact ⟨_, _, _, _, rfl, fun z o h => by rw [upd_ne (fun e => by rw [e, hDn] at h; cases h)]; exact s05 _ _ h, by rw [upd_same, eu]; exact snoc_str _ _, by rw [eu, List.length_append]; exact Nat.add_le_add_right hub 1⟩
            | data x ms => exact iteNo (fun h => absurd (V.str.inj (of_decide_eq_true h)) (show ¬ ("data" : Str) = "cell" by decide +kernel)) (iteF (no rfl))
            | fn x ns e => exact iteNo (fun h => absurd (V.str.inj (of_decide_eq_true h)) (show ¬ ("fun" : Str) = "cell" by decide +kernel)) (iteF (no rfl))
            | view x e => exact iteNo (fun h => absurd (V.str.inj (of_decide_eq_true h)) (show ¬ ("view" : Str) = "cell" by decide +kernel)) (iteF (no rfl))
            | act x ns sets e => exact iteNo (fun h => absurd (V.str.inj (of_decide_eq_true h)) (show ¬ ("act" : Str) = "cell" by decide +kernel)) (iteF (no rfl))
          · rintro σ' H6 ⟨y4, y5, y6, y7, rfl, s6, hD6, hl6⟩
            exact ⟨_, rfl, fin H6 _ s6 hD6 rfl hl6 _ rfl⟩
end
end Q11
namespace Q11
open PySem PySem.Spec PyProof.Rows L2 SX HL
/-! ### the words of an expression: makers, and others -/
def isUp (x : Str) : Bool := decide (x ∈ UPP)
theorem low_up {x : Str} (h : x ∈ LOW) : isUp x = false := by
  have : ∀ y ∈ LOW, isUp y = false := by decide +kernel
  exact this x h
theorem up_up {x : Str} (h : x ∈ UPP) : isUp x = true := decide_eq_true h
theorem ment_words {H : Hp} : ∀ {n : Nat} {e : Ex} {x : V} (ns : List Str), ExAt H n e x → ∀ p ∈ ment n e ns, p.1 = isUp p.2 ∧ (p.2 ∈ LOW ∨ p.2 ∈ UPP)
  | 0, _, _, _, h => h.elim
  | n + 1, e, x, ns, h => by
    intro p hp
    cases he : isMat e with
    | false =>
      rw [ment_plain he] at hp
      rcases List.mem_append.mp hp with hp | hp
      · cases e with
        | name z =>
          have hp : p ∈ (if z ∈ ns then [] else [(false, z)]) := hp
          split at hp
          · cases hp
          · rw [List.mem_singleton.mp hp]; exact ⟨(low_up h.1).symm, .inl h.1⟩
        | call f es => rw [List.mem_singleton.mp hp]; exact ⟨(low_up h.1).symm, .inl h.1⟩
        | make f es => rw [List.mem_singleton.mp hp]; exact ⟨(up_up h.1).symm, .inr h.1⟩
        | _ => cases hp
      · obtain ⟨l, hl, hpl⟩ := List.mem_flatten.mp hp
        obtain ⟨q, hq, rfl⟩ := List.mem_map.mp hl
        obtain ⟨y, hy⟩ := subs_at h q.1 (List.of_mem_zip hq).1
        exact ment_words _ hy p hpl
    | true =>
      cases e with
      | mat a arms =>
        obtain ⟨t, u, q, us, _, _, _, hl, ha, hm⟩ := h
        have hp : p ∈ ment n a ns ++ (arms.map fun m => (true, m.1) :: ment n m.2.2 (ns ++ m.2.1)).flatten := hp
        rcases List.mem_append.mp hp with hp | hp
        · exact ment_words _ ha p hp
        · obtain ⟨l, hl, hpl⟩ := List.mem_flatten.mp hp
          obtain ⟨m, hm', rfl⟩ := List.mem_map.mp hl
          obtain ⟨i, hi⟩ := List.mem_iff_getElem?.mp hm'
          obtain ⟨u, _, ta, tn, w, _, _, hup, _, hu⟩ := hm.getR hi
          rcases List.mem_cons.mp hpl with rfl | hpl
          · exact ⟨(up_up hup).symm, .inr hup⟩
          · exact ment_words _ hu p hpl
      | _ => cases he
def makersL (d : Df) : List Str := ((((dEs d).map fun e => ment 4 e (dPs d)).flatten).filter fun p => p.1).map (·.2)
/-- without a dict, a maker is used by its own name: what is a maker tells the makers -/
theorem makers_of {H : Hp} {d : Df} {v : V} (h : DfAt H d v) : (usesAll d id).filter isUp = makersL d ∧ ∀ x ∈ usesAll d id, x ∈ LOW ∨ x ∈ UPP := by
  have bases : ∀ b ∈ BASES, b ∉ PLAIN → b ∈ LOW := by decide +kernel
  have hE : ∀ e ∈ dEs d, ∃ x, ExAt H 4 e x := by
    have two : ∀ {R : V → (Str × Ex) → Prop} {us : List V} {es : List (Str × Ex)} {s : Str × Ex}, All2 R us es → s ∈ es → ∃ y, R y s := fun a hs => by
      obtain ⟨i, hi⟩ := List.mem_iff_getElem?.mp hs
      obtain ⟨u, _, hu⟩ := a.getR hi
      exact ⟨u, hu⟩
    intro e he
    cases d with
    | data x ms => cases he
    | fn x ns e' => obtain ⟨_, t, nv, u, _, _, _, h3⟩ := h; rw [List.mem_singleton.mp he]; exact ⟨_, h3⟩
    | cell x kd e' tv => obtain ⟨_, _, t, kv, u, _, _, _, h3⟩ := h; rw [List.mem_singleton.mp he]; exact ⟨_, h3⟩
    | view x e' => obtain ⟨_, t, u, _, _, h3⟩ := h; rw [List.mem_singleton.mp he]; exact ⟨_, h3⟩
    | act x ns sets e' =>
      obtain ⟨_, t, nv, q, us, u, _, _, _, _, _, h5, h6⟩ := h
      rcases List.mem_append.mp he with he | he
      · obtain ⟨m, hm, rfl⟩ := List.mem_map.mp he
        obtain ⟨y, a, b, _, _, _, hb⟩ := two h5 hm
        exact ⟨_, hb⟩
      · rw [List.mem_singleton.mp he]; exact ⟨_, h6⟩
  have hK : ∀ x ∈ dataL (dKinds d), x ∈ LOW := by
    have all : ∀ k ∈ dKinds d, k.2 ∈ BASES := by
      intro k hk
      cases d with
      | data x ms =>
        obtain ⟨_, t, q, us, _, _, _, _, hm⟩ := h
        obtain ⟨l, hl, hkl⟩ := List.mem_flatten.mp hk
        obtain ⟨m, hm', rfl⟩ := List.mem_map.mp hl
        obtain ⟨i, hi⟩ := List.mem_iff_getElem?.mp hm'
        obtain ⟨u, _, a, b, _, _, _, b', ks, _, _, _, hks⟩ := hm.getR hi
        obtain ⟨j, hj⟩ := List.mem_iff_getElem?.mp hkl
        obtain ⟨y, _, hy⟩ := hks.getR hj
        exact hy.1
      | cell x kd e tv => obtain ⟨_, _, t, kv, u, _, _, hk', _⟩ := h; rw [List.mem_singleton.mp hk]; exact hk'.1
      | fn x ns e => cases hk
      | view x e => cases hk
      | act x ns sets e => cases hk
    intro x hx
    unfold dataL at hx
    obtain ⟨k, hk, rfl⟩ := List.mem_map.mp hx
    obtain ⟨h1, h2⟩ := List.mem_filter.mp hk
    exact bases _ (all k h1) (of_decide_eq_true h2)
  have hC : ∀ x ∈ dCells d, x ∈ LOW := by
    intro x hx
    cases d with
    | act y ns sets e =>
      obtain ⟨_, t, nv, q, us, u, _, _, _, _, _, h5, h6⟩ := h
      obtain ⟨m, hm, rfl⟩ := List.mem_map.mp hx
      obtain ⟨i, hi⟩ := List.mem_iff_getElem?.mp hm
      obtain ⟨u, _, a, b, _, _, hl, _⟩ := h5.getR hi
      exact hl
    | _ => cases hx
  have hT : ∀ x ∈ turnL d, x ∈ LOW := by
    intro x hx
    cases d with
    | cell y kd e tv =>
      cases tv with
      | none => cases hx
      | some z => rw [List.mem_singleton.mp hx]; exact h.2.1 z rfl
    | _ => cases hx
  have none_of : ∀ l : List Str, (∀ x ∈ l, x ∈ LOW) → l.filter isUp = [] := fun l hl => List.filter_eq_nil_iff.mpr fun x hx => by rw [low_up (hl x hx)]; simp
  have hM : ∀ e ∈ dEs d, (mm d id e).filter isUp = ((ment 4 e (dPs d)).filter fun p => p.1).map (·.2) ∧ ∀ x ∈ mm d id e, x ∈ LOW ∨ x ∈ UPP := fun e he => by
    obtain ⟨x, hx⟩ := hE e he
    have hw := ment_words (dPs d) hx
    have e1 : mm d id e = (ment 4 e (dPs d)).map (·.2) := by
      unfold mm
      refine List.map_congr_left fun p _ => ?_
      show (if p.1 = true then p.2 else p.2) = p.2
      split <;> rfl
    rw [e1]
    refine ⟨?_, fun y hy => ?_⟩
    · rw [List.filter_map]
      congr 1
      refine List.filter_congr fun p hp => ?_
      exact (hw p hp).1.symm
    · obtain ⟨p, hp, rfl⟩ := List.mem_map.mp hy
      exact (hw p hp).2
  have hBody : ∀ n, n ≤ (dEs d).length → (bodyN d id n).filter isUp = (((((dEs d).take n).map fun e => ment 4 e (dPs d)).flatten).filter fun p => p.1).map (·.2) ∧ ∀ x ∈ bodyN d id n, x ∈ LOW ∨ x ∈ UPP := by
    intro n
    induction n with
    | zero => intro _; exact ⟨rfl, fun x hx => by cases hx⟩
    | succ n ih =>
      intro hn
      obtain ⟨i1, i2⟩ := ih (by omega)
      have hg := List.getElem?_eq_getElem (show n < (dEs d).length by omega)
      obtain ⟨m1, m2⟩ := hM _ (List.getElem_mem (show n < (dEs d).length by omega))
      rw [bodyN, hg]
      refine ⟨?_, fun x hx => ?_⟩
      · rw [List.filter_append, List.filter_append, i1, none_of _ fun x hx => hC x (List.mem_of_mem_drop (List.mem_of_mem_take hx)), List.append_nil, take_snoc hg, List.map_append, List.flatten_append, List.filter_append, List.map_append]
        congr 1
        rw [m1]
        simp
      · rcases List.mem_append.mp hx with hx | hx
        · rcases List.mem_append.mp hx with hx | hx
          · exact i2 x hx
          · exact .inl (hC x (List.mem_of_mem_drop (List.mem_of_mem_take hx)))
        · exact m2 x hx
  obtain ⟨b1, b2⟩ := hBody (dEs d).length (Nat.le_refl _)
  refine ⟨?_, fun x hx => ?_⟩
  · unfold usesAll
    rw [List.filter_append, List.filter_append, none_of _ hK, none_of _ hT, b1, List.take_length, List.append_nil]
    rfl
  · unfold usesAll at hx
    rcases List.mem_append.mp hx with hx | hx
    · rcases List.mem_append.mp hx with hx | hx
      · exact .inl (hK x hx)
      · exact b2 x hx
    · exact .inl (hT x hx)
theorem once_makers {H : Hp} {d : Df} {v : V} (h : DfAt H d v) : once (makersL d) = (once (usesAll d id)).filter isUp := by
  rw [← (makers_of h).1]
  exact once_filter isUp _ _ rfl
section
variable {P : Program} {w : World} {K : PySem.W.Frag} {mg : Str → Option Value} {base : Heap}
/-- a list of lists of words -/
def ListsAt (H : Hp) (D : Addr) (us : List V) (ls : List (List (Bool × Str))) : Prop := All2 (fun u l => ∃ a ws, u = .ref a ∧ a ≠ D ∧ H a = some (.lst ws) ∧ All2 (MenAt H) ws l) us ls
theorem ListsAt.keep {H H' : Hp} {D : Addr} {us : List V} {ls : List (List (Bool × Str))} (h : ListsAt H D us ls) (f : ∀ z o, H z = some o → z ≠ D → H' z = some o) (k : TupK H H') : ListsAt H' D us ls := by
  refine All2.mono h fun u l ⟨a, ws, e, n, h1, h2⟩ => ⟨a, ws, e, n, f _ _ h1 n, MenAt.keep k h2⟩
def spMkUsed : Sp := fun vs H Q _ => ∃ (x : V) (d : Df), vs = [x] ∧ DfAt H d x ∧ ∀ H' l, Same H H' → H l = none → H' l = some (.lst ((once (makersL d)).map V.str)) → Q (.ref l) H'
theorem ok_makersUsed {k : Nat} (Z : Defs K mg) : FnOk P w K mg base CX0 (k + 11) Z.fMakersUsed Z.fdMakersUsed ["definition"] spMkUsed := by
  have GExpressions : FnOk P w K mg base CX0 (k + 1) Z.fExpressions Z.fdExpressions ["definition"] spExprs := ok_expressions Z
  have GParameters : FnOk P w K mg base CX0 (k + 1) Z.fParameters Z.fdParameters ["definition"] spParams := ok_parameters Z
  have GMentioned : FnOk P w K mg base CX0 (k + 10) Z.fMentioned Z.fdMentioned ["e", "local"] (spMent 4) := ok_ment Z 4 (Nat.le_refl _)
  have GEachOnce : FnOk P w K mg base CX0 (k + 1) Z.fEachOnce Z.fdEachOnce ["words"] spOnce := ok_once Z
  refine Z.DMakersUsed.F.ok scMakersUsed (fun vs H Q E h => ?_) (fun cdv A outer s H vs Q E hr h => ?_)
  · obtain ⟨x, d, rfl, _⟩ := h
    rfl
  · obtain ⟨x, d, rfl, hd, qq⟩ := h
    refine ⟨_, (pss_cons (ps_setLc (i := 1) (own := [("e", 2)]) (g := (gName 2)) (by rfl) scMakersUsed.nd rfl rfl (sw_true rfl rfl rfl (by decide +kernel)) (HK.pi_tupK (K := K) rfl (pe_call GExpressions (hr.mono (by omega)) (by rfl) Z.DExpressions.g Z.DExpressions.F.kp Z.DExpressions.b .nil pass0 (pa_cons (pv 0) pa_nil))) (blkOk_by (own := [("e", 2)]) (N := ["definition", "found", "e", "words", "is_maker", "word"]) (sc := defScope sMakersUsed) (by decide +kernel)) (fun _ _ _ _ _ => (pg_name (i := 2) scMakersUsed.nd rfl (Or.inl rfl))) (fun _ _ _ _ _ => pts_nil) (fun _ _ _ _ _ => (pe_call GMentioned (hr.mono (by omega)) (by rfl) Z.DMentioned.g Z.DMentioned.F.kp Z.DMentioned.b .nil pass0 (pa_cons (pv 2) (pa_cons (pe_call GParameters (hr.mono (by omega)) (by rfl) Z.DParameters.g Z.DParameters.F.kp Z.DParameters.b .nil pass0 (pa_cons (pv 0) pa_nil)) pa_nil)))))
        (pss_one (ps_ret (pe_call GEachOnce (hr.mono (by omega)) (by rfl) Z.DEachOnce.g Z.DEachOnce.F.kp Z.DEachOnce.b .nil pass0 (pa_cons (pe_lc2 (own := [("words", 3), ("is_maker", 4), ("word", 5)]) (vs1 := [4, 5]) (g := (gName 3)) (g1 := (gTup K 2 (gCons (gName 4) (gCons (gName 5) gNil)))) (by rfl) scMakersUsed.nd  (pi_list (pv 1)) (blkOk_by (own := [("words", 3), ("is_maker", 4), ("word", 5)]) (N := ["definition", "found", "e", "words", "is_maker", "word"]) (sc := defScope sMakersUsed) (by decide +kernel)) (by decide) (fun _ _ _ _ _ => (pg_name (i := 3) scMakersUsed.nd rfl (Or.inl rfl))) (fun _ _ _ _ _ => pts_nil) (fun _ _ _ _ _ => (ET.pi_listK (K := K) rfl (pv 3))) (fun _ _ _ _ _ => (pg_tup rfl (pgs_cons (pg_name (i := 4) scMakersUsed.nd rfl (.inl rfl)) (pgs_cons (pg_name (i := 5) scMakersUsed.nd rfl (.inl rfl)) pgs_nil)))) (fun _ _ _ _ _ => (pts_one (pt_val (pv 4)))) (fun _ _ _ _ _ => (pv 5))) pa_nil))))), ?_⟩
    have big : 100000 ≤ sizeLine := by decide
    let pr : Ex → List (Bool × Str) := fun e => ment 4 e (dPs d)
    refine ⟨_, rfl, x, d, rfl, hd, fun et H1 es s1 het hel hes => ⟨et, rfl, ⟨_, SqT.of het⟩, fun D hD => ?_⟩⟩
    have hel2 := hes.len
    refine lc_it walk_tup (fun i H' => Same H1 H' ∧ ∃ us, H' D = some (.lst us) ∧ ListsAt H' D us (((dEs d).take i).map pr)) ⟨same_upd hD, [], upd_same, .nil⟩ (fun i H' _ p => SqT.of (p.1 _ _ het)) ?_ ?_
    · rintro i y H2z H2 hi ⟨s2, us, hD2, hus⟩ ⟨rfl, hy⟩
      obtain ⟨ex, hex, hex2⟩ := hes.get hy
      have s02 := Same.tr s1 s2
      have hul := hus.len
      rw [List.length_map, List.length_take] at hul
      refine ⟨rfl, lc_yes ⟨_, rfl, _, rfl, x, d, rfl, hd.keep (TupK.of s02), fun pt H3 s3 hpt hpl => ⟨y, ex, pt, dPs d, rfl, (hex2.keep (TupK.of s2)).keep (TupK.of s3), hpt, by omega, fun H4 l ls s4 hln hl4 hls => ?_⟩⟩⟩
      have hD4 := s4 _ _ (s3 _ _ hD2)
      have nl : l ≠ D := fun e => by rw [e, s3 _ _ hD2] at hln; cases hln
      have k5 := tk_lst (o := .lst (us ++ [.ref l])) hD4
      refine ⟨us, hD4, by omega, fun z o h => by rw [upd_ne (ne_of_none h hD)]; exact s4 _ _ (s3 _ _ (s2 _ _ h)), _, upd_same, ?_⟩
      rw [take_snoc hex, List.map_append]
      have f5 : ∀ z o, H4 z = some o → z ≠ D → upd H4 D (.lst (us ++ [.ref l])) z = some o := fun z o h n => by rw [upd_ne n]; exact h
      exact ((hus.keep (fun z o h _ => s4 _ _ (s3 _ _ h)) (TupK.of (Same.tr s3 s4))).keep f5 k5).app (.one ⟨l, ls, rfl, nl, f5 _ _ hl4 nl, MenAt.keep k5 hls⟩)
    · rintro H2 ⟨s2, us, hD2, hus⟩
      rw [hel2, List.take_length] at hus
      have s02 := Same.tr s1 s2
      have hul := hus.len
      rw [List.length_map] at hul
      refine ⟨_, rfl, D, rfl, ⟨us, SqL.of hD2⟩, fun D2 hD2n => ?_⟩
      have nDD : D ≠ D2 := ne_of_none hD2 hD2n
      let ws : List (Bool × Str) → List Str := fun l => (l.filter fun p => p.1).map (·.2)
      have wl : ∀ l, (ws l).length ≤ l.length := fun l => by show (List.map _ _).length ≤ _; rw [List.length_map]; exact List.length_filter_le ..
      have snoc1 : ∀ (l : List (Bool × Str)) (p : Bool × Str), ws (l ++ [p]) = ws l ++ (if p.1 = true then [p.2] else []) := fun l p => by
        show List.map _ (List.filter _ _) = _
        rw [List.filter_append, List.map_append]
        congr 1
        cases hp : p.1 <;> simp [hp]
      have lens : ∀ i, (((dEs d).take i).map pr).flatten.length ≤ 340 * 3 := fun i => by
        have h3 := flat_le pr 340 ((dEs d).take i) fun e he => by
          obtain ⟨j, hj⟩ := List.mem_iff_getElem?.mp (List.mem_of_mem_take he)
          obtain ⟨u, _, hu⟩ := hes.getR hj
          exact Nat.le_trans (ment_len _ hu) (mB4 (Nat.le_refl 4))
        have h4 : ((dEs d).take i).length ≤ 3 := by rw [List.length_take]; omega
        have := Nat.mul_le_mul_right 340 h4
        omega
      refine HC.wk_it walk_list (fun i H' => Same H2 H' ∧ H' D2 = some (.lst ((ws (((dEs d).take i).map pr).flatten).map V.str))) ⟨same_upd hD2n, upd_same⟩ (fun i H' _ p => SqL.of (p.1 _ _ hD2)) ?_ ?_
      · rintro i y H3z H3 hi ⟨s3, hD3⟩ ⟨rfl, hy⟩
        obtain ⟨l, hl, a, us2, rfl, na, ha, hws⟩ := hus.get hy
        rw [List.getElem?_map] at hl
        obtain ⟨ex, hex, rfl⟩ : ∃ ex, (dEs d)[i]? = some ex ∧ l = pr ex := by
          cases e : (dEs d)[i]? with
          | none => rw [e] at hl; cases hl
          | some ex => rw [e] at hl; exact ⟨ex, rfl, (Option.some.inj hl).symm⟩
        have e2 : (((dEs d).take (i + 1)).map pr).flatten = (((dEs d).take i).map pr).flatten ++ pr ex := by
          rw [take_snoc hex, List.map_append, List.flatten_append]
          simp
        have hln := lens (i + 1)
        rw [e2, List.length_append] at hln
        refine ⟨rfl, HC.yes (iteT ⟨_, rfl, a, rfl, ⟨us2, SqL.of (s3 _ _ ha)⟩, ?_⟩)⟩
        refine HC.wk_it walk_list (fun j H' => Same H2 H' ∧ H' D2 = some (.lst ((ws ((((dEs d).take i).map pr).flatten ++ (pr ex).take j)).map V.str))) ⟨s3, by rw [List.take_zero, List.append_nil]; exact hD3⟩ (fun j H' _ p => SqL.of (p.1 _ _ ha)) ?_ ?_
        · rintro j y H4z H4 hj ⟨s4, hD4⟩ ⟨rfl, hy⟩
          obtain ⟨⟨b, word⟩, hp, tt, rfl, htt⟩ := hws.get hy
          have e3 := snoc1 ((((dEs d).take i).map pr).flatten ++ (pr ex).take j) (b, word)
          rw [List.append_assoc, ← take_snoc hp] at e3
          have hwl := wl ((((dEs d).take i).map pr).flatten ++ (pr ex).take j)
          rw [List.length_append] at hwl
          have hptl : ((pr ex).take j).length ≤ (pr ex).length := by rw [List.length_take]; exact Nat.min_le_right ..
          refine ⟨tt, _, rfl, SqT.of (s4 _ _ htt), rfl, _, _, rfl, _, _, rfl, rfl, rfl, _, rfl, b, rfl, ?_⟩
          cases b with
          | true =>
            refine iteT ⟨_, rfl, _, hD4, by rw [List.length_map]; omega, fun z o h => by rw [upd_ne (ne_of_none h hD2n)]; exact s4 _ _ h, ?_⟩
            rw [upd_same, e3, List.map_append]
            rfl
          | false =>
            refine iteF ⟨s4, ?_⟩
            rw [e3]
            simpa using hD4
        · rintro H4 ⟨s4, hD4⟩
          rw [hws.len, List.take_length] at hD4
          exact ⟨s4, by rw [e2]; exact hD4⟩
      · rintro H3 ⟨s3, hD3⟩
        rw [hul, List.take_length] at hD3
        have hln := lens (dEs d).length
        rw [List.take_length] at hln
        have hwl := wl ((dEs d).map pr).flatten
        refine ⟨D2, ws ((dEs d).map pr).flatten, rfl, hD3, by omega, fun H4 l s4 hln4 hl4 => ?_⟩
        exact qq H4 l (Same.tr s02 (Same.tr s3 s4)) (Same.none s02 (Same.none s3 hln4)) hl4
end
end Q11
namespace Q11
open PySem PySem.Spec PyProof.Rows L2 SX HL
section
variable {P : Program} {w : World} {K : PySem.W.Frag} {mg : Str → Option Value} {base : Heap}
/-! ### _law_used -/
def lu (mk : Str → Str) (l : List (Bool × Str)) : List Str := l.map fun p => if p.1 = true then mk p.2 else p.2
theorem lu_app (mk : Str → Str) (a b : List (Bool × Str)) : lu mk (a ++ b) = lu mk a ++ lu mk b := List.map_append
theorem app_str (a b : List Str) : some (HO.lst (a.map V.str ++ b.map V.str)) = some (HO.lst ((a ++ b).map V.str)) := by rw [List.map_append]
theorem lu_len (mk : Str → Str) (l : List (Bool × Str)) : (lu mk l).length = l.length := List.length_map _
def spUsed (n : Nat) : Sp := fun vs H Q _ => ∃ (x : V) (e : Ex) (nl a : Addr) (ns : List Str) (mk : Str → Str), vs = [x, .ref nl, .ref a] ∧ ExAt H n e x ∧ H nl = some (.lst (ns.map V.str)) ∧ ns.length + 2 * n ≤ 900 ∧ MapAt H a mk ∧
  ∀ H' l, Same H H' → H' l = some (.lst ((lu mk (ment n e ns)).map V.str)) → Q (.ref l) H'
theorem MapAt.same {H H' : Hp} {a : Addr} {mk : Str → Str} (h : MapAt H a mk) (s : Same H H') : MapAt H' a mk := h.keep fun o e => s _ _ e
theorem flat_take {α : Type} {f : α → List (Bool × Str)} {es : List α} {i : Nat} {e : α} (h : es[i]? = some e) : ((es.take (i + 1)).map f).flatten = ((es.take i).map f).flatten ++ f e := by
  rw [take_snoc h, List.map_append, List.flatten_append]
  simp
theorem zip_nil {n : Nat} {ns : List Str} : ∀ es : List Ex, (((es.zip (es.map fun _ => ([] : List Str))).map fun p => ment n p.1 (ns ++ p.2)).flatten) = (es.map fun e => ment n e ns).flatten
  | [] => rfl
  | e :: r => by
    rw [List.map_cons, List.zip_cons_cons, List.map_cons, List.flatten_cons, List.map_cons, List.flatten_cons, zip_nil r]
    show ment n e (ns ++ []) ++ _ = _
    rw [List.append_nil]
def SB (t nl a : Addr) (tag : Str) (H : Hp) (pts : List V) (fnd : List Str) (σ' : L2.St) (H' : Hp) : Prop := ∃ fl q : Addr, σ' = [some (.ref t), some (.ref nl), some (.ref a), some (.str tag), some (.ref fl), none, none, none, some (.ref q), none] ∧ Same H H' ∧ H' q = some (.tup pts) ∧ H' fl = some (.lst (fnd.map V.str))
theorem used_step {k n : Nat} (hn : n ≤ 3) (Z : Defs K mg) (GLawUsed : FnOk P w K mg base CX0 k Z.fLawUsed Z.fdLawUsed ["e", "local", "makers"] (spUsed n)) : FnOk P w K mg base CX0 (k + 1) Z.fLawUsed Z.fdLawUsed ["e", "local", "makers"] (spUsed (n + 1)) := by
  refine Z.DLawUsed.F.ok scLawUsed (fun vs H Q E h => ?_) (fun cdv A outer s H vs Q E hr h => ?_)
  · obtain ⟨x, e, nl, a, ns, mk, rfl, _⟩ := h
    rfl
  · obtain ⟨x, e, nl, a, ns, mk, rfl, he, hnl, hns, ha, qq⟩ := h
    refine ⟨_, (pss_cons (ps_set (i := 3) scLawUsed.nd rfl (.inl rfl) (pe_ix ix_tup (pv 0) pe_int (fun _ _ => rfl)))
        (pss_cons (ps_if (pt_cmpR op_in_seq (pv 3) (pe_lst (pa_cons pe_str (pa_cons pe_str (pa_cons pe_str pa_nil)))) rfl) (pss_one (ps_ret (pe_lst pa_nil))) pss_nil)
        (pss_cons (ps_if (pt_cmpR op_eq (pv 3) pe_str (nomark _)) (pss_one (ps_ret (pe_op op_rep (pe_lst (pa_cons (pe_ix ix_tup (pv 0) pe_int (fun _ _ => rfl)) pa_nil)) (pe_callTy call_int1 (by rfl) Z.int HL.boot_int (pa_cons (pe_cmpR op_notIn_seq (pe_ix ix_tup (pv 0) pe_int (fun _ _ => rfl)) (pv 1) rfl) pa_nil))))) pss_nil)
        (pss_cons (ps_if (pt_cmpR op_eq (pv 3) pe_str (nomark _)) (pss_one (ps_ret (pe_op op_cat (pe_call GLawUsed (hr.mono (by omega)) (by rfl) Z.DLawUsed.g Z.DLawUsed.F.kp Z.DLawUsed.b .nil pass0 (pa_cons (pe_ix ix_tup (pv 0) pe_int (fun _ _ => rfl)) (pa_cons (pv 1) (pa_cons (pv 2) pa_nil)))) (pe_call GLawUsed (hr.mono (by omega)) (by rfl) Z.DLawUsed.g Z.DLawUsed.F.kp Z.DLawUsed.b .nil pass0 (pa_cons (pe_ix ix_tup (pv 0) pe_int (fun _ _ => rfl)) (pa_cons (pe_op op_cat (pv 1) (pe_lst (pa_cons (pe_ix ix_tup (pv 0) pe_int (fun _ _ => rfl)) pa_nil))) (pa_cons (pv 2) pa_nil))))))) pss_nil)
        (pss_cons (ps_if (pt_cmpR op_eq (pv 3) pe_str (nomark _)) (pss_cons (ps_set (i := 4) scLawUsed.nd rfl (.inl rfl) (pe_op op_cat (pe_call GLawUsed (hr.mono (by omega)) (by rfl) Z.DLawUsed.g Z.DLawUsed.F.kp Z.DLawUsed.b .nil pass0 (pa_cons (pe_ix ix_tup (pv 0) pe_int (fun _ _ => rfl)) (pa_cons (pv 1) (pa_cons (pv 2) pa_nil)))) (pe_call GLawUsed (hr.mono (by omega)) (by rfl) Z.DLawUsed.g Z.DLawUsed.F.kp Z.DLawUsed.b .nil pass0 (pa_cons (pe_ix ix_tup (pv 0) pe_int (fun _ _ => rfl)) (pa_cons (pv 1) (pa_cons (pv 2) pa_nil))))))
        (pss_one (ps_ret (pe_op op_cat (pv 4) (pe_call GLawUsed (hr.mono (by omega)) (by rfl) Z.DLawUsed.g Z.DLawUsed.F.kp Z.DLawUsed.b .nil pass0 (pa_cons (pe_ix ix_tup (pv 0) pe_int (fun _ _ => rfl)) (pa_cons (pe_op op_cat (pv 1) (pe_lst (pa_cons (pe_ix ix_tup (pv 0) pe_int (fun _ _ => rfl)) (pa_cons (pe_ix ix_tup (pv 0) pe_int (fun _ _ => rfl)) pa_nil)))) (pa_cons (pv 2) pa_nil)))))))) pss_nil)
        (pss_cons (ps_if (pt_cmpR op_eq (pv 3) pe_str (nomark _)) (pss_cons (ps_set (i := 4) scLawUsed.nd rfl (.inl rfl) (pe_call GLawUsed (hr.mono (by omega)) (by rfl) Z.DLawUsed.g Z.DLawUsed.F.kp Z.DLawUsed.b .nil pass0 (pa_cons (pe_ix ix_tup (pv 0) pe_int (fun _ _ => rfl)) (pa_cons (pv 1) (pa_cons (pv 2) pa_nil)))))
        (pss_cons (ps_for PassesOwn.never rfl (pi_tup (pe_ix ix_tup (pv 0) pe_int (fun _ _ => rfl))) (pg_tup rfl (pgs_cons (pg_name (i := 5) scLawUsed.nd rfl (.inl rfl)) (pgs_cons (pg_name (i := 6) scLawUsed.nd rfl (.inl rfl)) (pgs_cons (pg_name (i := 7) scLawUsed.nd rfl (.inl rfl)) pgs_nil)))) (pss_one (ps_set (i := 4) scLawUsed.nd rfl (.inl rfl) (pe_op op_cat (pe_op op_cat (pv 4) (pe_lst (pa_cons (pe_dget2 (hu_of hr) (pv 2) (pv 5) (pv 5) ⟨rfl, rfl, rfl, rfl⟩) pa_nil))) (pe_call GLawUsed (hr.mono (by omega)) (by rfl) Z.DLawUsed.g Z.DLawUsed.F.kp Z.DLawUsed.b .nil pass0 (pa_cons (pv 7) (pa_cons (pe_op op_cat (pv 1) (pe_callTy call_list_of (by rfl) Z.list HL.boot_list (pa_cons (pv 6) pa_nil))) (pa_cons (pv 2) pa_nil))))))))
        (pss_one (ps_ret (pv 4))))) pss_nil)
        (pss_cons (ps_set (i := 4) scLawUsed.nd rfl (.inl rfl) (pe_lst pa_nil))
        (pss_cons (ps_set (i := 8) scLawUsed.nd rfl (.inl rfl) (pe_slice sl_tup (pv 0) (po_some pe_int) po_none))
        (C8.pss_cut (ps_if (pt_cmpR op_eq (pv 3) pe_str (nomark _)) (pss_one (ps_set (i := 8) scLawUsed.nd rfl (.inl rfl) (pe_ix ix_tup (pv 0) pe_int (fun _ _ => rfl)))) pss_nil)
        (C8.pss_cut (ps_if (pt_cmpR op_eq (pv 3) pe_str (nomark _)) (pss_one (ps_set (i := 8) scLawUsed.nd rfl (.inl rfl) (pe_slice sl_tup (pv 0) (po_some pe_int) po_none))) pss_nil)
        (C8.pss_cut (ps_if (PW.pt (pw_or (pt_cmpR op_eq (pv 3) pe_str (nomark _)) (pw_or1 (pt_cmpR op_eq (pv 3) pe_str (nomark _))))) (pss_cons (ps_set (i := 8) scLawUsed.nd rfl (.inl rfl) (pe_ix ix_tup (pv 0) pe_int (fun _ _ => rfl)))
        (pss_one (ps_set (i := 4) scLawUsed.nd rfl (.inl rfl) (pe_lst (pa_cons (pe_ix ix_tup (pv 0) pe_int (fun _ _ => rfl)) pa_nil))))) pss_nil)
        (C8.pss_cut (ps_if (pt_cmpR op_eq (pv 3) pe_str (nomark _)) (pss_one (ps_set (i := 4) scLawUsed.nd rfl (.inl rfl) (pe_lst (pa_cons (pe_dget2 (hu_of hr) (pv 2) (pe_ix ix_tup (pv 0) pe_int (fun _ _ => rfl)) (pe_ix ix_tup (pv 0) pe_int (fun _ _ => rfl)) ⟨rfl, rfl, rfl, rfl⟩) pa_nil)))) pss_nil)
        (pss_cons (ps_for PassesOwn.never rfl (pi_tup (pv 8)) (pg_name (i := 9) scLawUsed.nd rfl (.inl rfl)) (pss_one (ps_set (i := 4) scLawUsed.nd rfl (.inl rfl) (pe_op op_cat (pv 4) (pe_call GLawUsed (hr.mono (by omega)) (by rfl) Z.DLawUsed.g Z.DLawUsed.F.kp Z.DLawUsed.b .nil pass0 (pa_cons (pv 9) (pa_cons (pv 1) (pa_cons (pv 2) pa_nil))))))))
        (pss_one (ps_ret (pv 4)))))))))))))))), ?_⟩
    have big : 100000 ≤ sizeLine := by decide
    have hB := mB4 (n := n) (by omega)
    have he0 := he
    cases e with
    | lit f v =>
      obtain ⟨hf, _, t, rfl, ht⟩ := he
      rcases hf with rfl | rfl | rfl
      · refine ⟨_, rfl, t, _, 0, .str "number", rfl, rfl, SqT.of ht, rfl, _, rfl, by show 3 ≤ sizeLine; decide, fun X1 hX1 => ⟨X1, _, rfl, .inl (SqL.of upd_same), rfl, rfl, _, rfl, iteYes (by decide +kernel) ?_⟩⟩
        have s1 : Same H (upd H X1 (.lst [.str "number", .str "text", .str "bool"])) := same_upd hX1
        generalize upd H X1 (.lst [.str "number", .str "text", .str "bool"]) = H1 at s1 ⊢
        exact ⟨Nat.zero_le _, fun D hD => qq _ D (Same.tr s1 (same_upd hD)) upd_same⟩
      · refine ⟨_, rfl, t, _, 0, .str "text", rfl, rfl, SqT.of ht, rfl, _, rfl, by show 3 ≤ sizeLine; decide, fun X1 hX1 => ⟨X1, _, rfl, .inl (SqL.of upd_same), rfl, rfl, _, rfl, iteYes (by decide +kernel) ?_⟩⟩
        have s1 : Same H (upd H X1 (.lst [.str "number", .str "text", .str "bool"])) := same_upd hX1
        generalize upd H X1 (.lst [.str "number", .str "text", .str "bool"]) = H1 at s1 ⊢
        exact ⟨Nat.zero_le _, fun D hD => qq _ D (Same.tr s1 (same_upd hD)) upd_same⟩
      · refine ⟨_, rfl, t, _, 0, .str "bool", rfl, rfl, SqT.of ht, rfl, _, rfl, by show 3 ≤ sizeLine; decide, fun X1 hX1 => ⟨X1, _, rfl, .inl (SqL.of upd_same), rfl, rfl, _, rfl, iteYes (by decide +kernel) ?_⟩⟩
        have s1 : Same H (upd H X1 (.lst [.str "number", .str "text", .str "bool"])) := same_upd hX1
        generalize upd H X1 (.lst [.str "number", .str "text", .str "bool"]) = H1 at s1 ⊢
        exact ⟨Nat.zero_le _, fun D hD => qq _ D (Same.tr s1 (same_upd hD)) upd_same⟩
    | name z =>
      obtain ⟨hz0, t, rfl, ht⟩ := he
      refine ⟨_, rfl, t, _, 0, .str "name", rfl, rfl, SqT.of ht, rfl, _, rfl, by show 3 ≤ sizeLine; decide, fun X1 hX1 => ⟨X1, _, rfl, .inl (SqL.of upd_same), rfl, rfl, _, rfl, iteNo (by decide +kernel) ?_⟩⟩
      have s1 : Same H (upd H X1 (.lst [.str "number", .str "text", .str "bool"])) := same_upd hX1
      generalize upd H X1 (.lst [.str "number", .str "text", .str "bool"]) = H1 at s1 ⊢
      refine ⟨_, rfl, rfl, _, rfl, iteYes (by decide +kernel) ?_⟩
      refine ⟨_, rfl, t, _, 1, .str z, rfl, rfl, SqT.of (s1 _ _ ht), rfl, by show 1 ≤ sizeLine; decide, fun X2 hX2 => ?_⟩
      have s2 : Same H1 (upd H1 X2 (.lst [.str z])) := same_upd hX2
      have gX2 : upd H1 X2 (.lst [.str z]) X2 = some (.lst [.str z]) := upd_same
      generalize upd H1 X2 (.lst [.str z]) = H2 at s2 gX2 ⊢
      refine ⟨_, rfl, t, _, 1, .str z, rfl, rfl, SqT.of ((Same.tr s1 s2) _ _ ht), rfl, _, rfl, nl, _, rfl, .inl (SqL.of ((Same.tr s1 s2) _ _ hnl)), rfl, flat_strs ns, ?_⟩
      rw [if_pos rfl, inV_str]
      have qs : ment (n + 1) (.name z) ns = if z ∈ ns then [] else [(false, z)] := by
        rw [ment_plain rfl]
        show (if z ∈ ns then [] else [(false, z)]) ++ [] = _
        rw [List.append_nil]
      rw [qs] at qq
      by_cases hz : z ∈ ns
      · rw [if_pos hz] at qq
        rw [decide_eq_true hz]
        refine .inr ⟨_, rfl, X2, _, _, rfl, rfl, gX2, by decide, by decide, by show 1 * _ ≤ _; decide, fun p hp => ?_⟩
        exact qq _ p (Same.tr (Same.tr s1 s2) (same_upd hp)) (by rw [upd_same]; rfl)
      · rw [if_neg hz] at qq
        rw [decide_eq_false hz]
        refine .inr ⟨_, rfl, X2, _, _, rfl, rfl, gX2, by decide, by decide, by show 1 * _ ≤ _; decide, fun p hp => ?_⟩
        exact qq _ p (Same.tr (Same.tr s1 s2) (same_upd hp)) (by rw [upd_same]; rfl)
    | lt z a' b' =>
      obtain ⟨hz0, t, u, v, rfl, ht, hea, heb⟩ := he
      refine ⟨_, rfl, t, _, 0, .str "let", rfl, rfl, SqT.of ht, rfl, _, rfl, by show 3 ≤ sizeLine; decide, fun X1 hX1 => ⟨X1, _, rfl, .inl (SqL.of upd_same), rfl, rfl, _, rfl, iteNo (by decide +kernel) ?_⟩⟩
      have s1 : Same H (upd H X1 (.lst [.str "number", .str "text", .str "bool"])) := same_upd hX1
      generalize upd H X1 (.lst [.str "number", .str "text", .str "bool"]) = H1 at s1 ⊢
      refine ⟨_, rfl, rfl, _, rfl, iteNo (by decide +kernel) ?_⟩
      refine ⟨_, rfl, rfl, _, rfl, iteYes (by decide +kernel) ?_⟩
      refine ⟨_, rfl, t, _, 2, u, rfl, rfl, SqT.of (s1 _ _ ht), rfl, _, rfl, _, rfl, u, a', nl, a, ns, mk, rfl, (hea.keep (TupK.of s1)), (s1 _ _ hnl), by omega, ha.same s1, fun H2 l2 s2 hl2 => ?_⟩
      have m2 := ment_len (n := n) (e := a') (ns) hea
      refine ⟨_, rfl, t, _, 3, v, rfl, rfl, SqT.of ((Same.tr s1 s2) _ _ ht), rfl, _, rfl, _, rfl, t, _, 1, .str z, rfl, rfl, SqT.of ((Same.tr s1 s2) _ _ ht), rfl, by show 1 ≤ sizeLine; decide, fun X3 hX3 => ?_⟩
      have s3 : Same H2 (upd H2 X3 (.lst [.str z])) := same_upd hX3
      have gX3 : upd H2 X3 (.lst [.str z]) X3 = some (.lst ([z].map V.str)) := by rw [upd_same]; simp
      generalize upd H2 X3 (.lst [.str z]) = H3 at s3 gX3 ⊢
      refine ⟨nl, X3, _, _, rfl, rfl, ((Same.tr s1 (Same.tr s2 s3)) _ _ hnl), gX3, by simp only [List.length_map, List.length_append, List.length_cons, List.length_nil, lu_len]; omega, fun X4 hX4 => ?_⟩
      have s4 : Same H3 (upd H3 X4 (.lst (ns.map V.str ++ ([z] : List Str).map V.str))) := same_upd hX4
      have gX4 : upd H3 X4 (.lst (ns.map V.str ++ ([z] : List Str).map V.str)) X4 = some (.lst ((ns ++ ([z] : List Str)).map V.str)) := by rw [upd_same]; exact app_str _ _
      generalize upd H3 X4 (.lst (ns.map V.str ++ ([z] : List Str).map V.str)) = H4 at s4 gX4 ⊢
      refine ⟨_, rfl, v, b', X4, a, (ns ++ ([z] : List Str)), mk, rfl, (heb.keep (TupK.of (Same.tr s1 (Same.tr s2 (Same.tr s3 s4))))), gX4, by (rw [List.length_append]; show _ + 1 + _ ≤ _; omega), ha.same (Same.tr s1 (Same.tr s2 (Same.tr s3 s4))), fun H5 l5 s5 hl5 => ?_⟩
      have m5 := ment_len (n := n) (e := b') ((ns ++ ([z] : List Str))) heb
      refine ⟨l2, l5, _, _, rfl, rfl, ((Same.tr s3 (Same.tr s4 s5)) _ _ hl2), hl5, by simp only [List.length_map, List.length_append, List.length_cons, List.length_nil, lu_len]; omega, fun X6 hX6 => ?_⟩
      have s6 : Same H5 (upd H5 X6 (.lst ((lu mk (ment n a' (ns))).map V.str ++ (lu mk (ment n b' ((ns ++ ([z] : List Str))))).map V.str))) := same_upd hX6
      have gX6 : upd H5 X6 (.lst ((lu mk (ment n a' (ns))).map V.str ++ (lu mk (ment n b' ((ns ++ ([z] : List Str))))).map V.str)) X6 = some (.lst (((lu mk (ment n a' (ns))) ++ (lu mk (ment n b' ((ns ++ ([z] : List Str)))))).map V.str)) := by rw [upd_same]; exact app_str _ _
      generalize upd H5 X6 (.lst ((lu mk (ment n a' (ns))).map V.str ++ (lu mk (ment n b' ((ns ++ ([z] : List Str))))).map V.str)) = H6 at s6 gX6 ⊢
      refine qq _ X6 (Same.tr s1 (Same.tr s2 (Same.tr s3 (Same.tr s4 (Same.tr s5 s6))))) ?_
      have fin := gX6
      rw [ment_plain rfl, lu_app, show lu mk (((subs (.lt z a' b')).zip (bnds (.lt z a' b'))).map fun p => ment n p.1 (ns ++ p.2)).flatten = lu mk (ment n a' ns) ++ lu mk (ment n b' (ns ++ [z])) by simp [subs, bnds, lu_app], show lu mk (start (.lt z a' b') ns) = [] from rfl, List.nil_append]
      exact fin
    | split a' b' z y c' =>
      obtain ⟨hz0, hy0, t, u, v, r, rfl, ht, hea, heb, hec⟩ := he
      refine ⟨_, rfl, t, _, 0, .str "split", rfl, rfl, SqT.of ht, rfl, _, rfl, by show 3 ≤ sizeLine; decide, fun X1 hX1 => ⟨X1, _, rfl, .inl (SqL.of upd_same), rfl, rfl, _, rfl, iteNo (by decide +kernel) ?_⟩⟩
      have s1 : Same H (upd H X1 (.lst [.str "number", .str "text", .str "bool"])) := same_upd hX1
      generalize upd H X1 (.lst [.str "number", .str "text", .str "bool"]) = H1 at s1 ⊢
      refine ⟨_, rfl, rfl, _, rfl, iteNo (by decide +kernel) ?_⟩
      refine ⟨_, rfl, rfl, _, rfl, iteNo (by decide +kernel) ?_⟩
      refine ⟨_, rfl, rfl, _, rfl, iteYes (by decide +kernel) ?_⟩
      refine ⟨_, rfl, t, _, 1, u, rfl, rfl, SqT.of (s1 _ _ ht), rfl, _, rfl, _, rfl, u, a', nl, a, ns, mk, rfl, (hea.keep (TupK.of s1)), (s1 _ _ hnl), by omega, ha.same s1, fun H2 l2 s2 hl2 => ?_⟩
      have m2 := ment_len (n := n) (e := a') (ns) hea
      refine ⟨_, rfl, t, _, 2, v, rfl, rfl, SqT.of ((Same.tr s1 s2) _ _ ht), rfl, _, rfl, _, rfl, v, b', nl, a, ns, mk, rfl, (heb.keep (TupK.of (Same.tr s1 s2))), ((Same.tr s1 s2) _ _ hnl), by omega, ha.same (Same.tr s1 s2), fun H3 l3 s3 hl3 => ?_⟩
      have m3 := ment_len (n := n) (e := b') (ns) heb
      refine ⟨l2, l3, _, _, rfl, rfl, (s3 _ _ hl2), hl3, by simp only [List.length_map, List.length_append, List.length_cons, List.length_nil, lu_len]; omega, fun X4 hX4 => ?_⟩
      have s4 : Same H3 (upd H3 X4 (.lst ((lu mk (ment n a' (ns))).map V.str ++ (lu mk (ment n b' (ns))).map V.str))) := same_upd hX4
      have gX4 : upd H3 X4 (.lst ((lu mk (ment n a' (ns))).map V.str ++ (lu mk (ment n b' (ns))).map V.str)) X4 = some (.lst (((lu mk (ment n a' (ns))) ++ (lu mk (ment n b' (ns)))).map V.str)) := by rw [upd_same]; exact app_str _ _
      generalize upd H3 X4 (.lst ((lu mk (ment n a' (ns))).map V.str ++ (lu mk (ment n b' (ns))).map V.str)) = H4 at s4 gX4 ⊢
      refine ⟨_, rfl, _, rfl, t, _, 5, r, rfl, rfl, SqT.of ((Same.tr s1 (Same.tr s2 (Same.tr s3 s4))) _ _ ht), rfl, _, rfl, _, rfl, t, _, 3, .str z, rfl, rfl, SqT.of ((Same.tr s1 (Same.tr s2 (Same.tr s3 s4))) _ _ ht), rfl, _, rfl, t, _, 4, .str y, rfl, rfl, SqT.of ((Same.tr s1 (Same.tr s2 (Same.tr s3 s4))) _ _ ht), rfl, by show 2 ≤ sizeLine; decide, fun X5 hX5 => ?_⟩
      have s5 : Same H4 (upd H4 X5 (.lst [.str z, .str y])) := same_upd hX5
      have gX5 : upd H4 X5 (.lst [.str z, .str y]) X5 = some (.lst ([z, y].map V.str)) := by rw [upd_same]; simp
      generalize upd H4 X5 (.lst [.str z, .str y]) = H5 at s5 gX5 ⊢
      refine ⟨nl, X5, _, _, rfl, rfl, ((Same.tr s1 (Same.tr s2 (Same.tr s3 (Same.tr s4 s5)))) _ _ hnl), gX5, by simp only [List.length_map, List.length_append, List.length_cons, List.length_nil, lu_len]; omega, fun X6 hX6 => ?_⟩
      have s6 : Same H5 (upd H5 X6 (.lst (ns.map V.str ++ ([z, y] : List Str).map V.str))) := same_upd hX6
      have gX6 : upd H5 X6 (.lst (ns.map V.str ++ ([z, y] : List Str).map V.str)) X6 = some (.lst ((ns ++ ([z, y] : List Str)).map V.str)) := by rw [upd_same]; exact app_str _ _
      generalize upd H5 X6 (.lst (ns.map V.str ++ ([z, y] : List Str).map V.str)) = H6 at s6 gX6 ⊢
      refine ⟨_, rfl, r, c', X6, a, (ns ++ ([z, y] : List Str)), mk, rfl, (hec.keep (TupK.of (Same.tr s1 (Same.tr s2 (Same.tr s3 (Same.tr s4 (Same.tr s5 s6))))))), gX6, by (rw [List.length_append]; show _ + 2 + _ ≤ _; omega), ha.same (Same.tr s1 (Same.tr s2 (Same.tr s3 (Same.tr s4 (Same.tr s5 s6))))), fun H7 l7 s7 hl7 => ?_⟩
      have m7 := ment_len (n := n) (e := c') ((ns ++ ([z, y] : List Str))) hec
      refine ⟨X4, l7, _, _, rfl, rfl, ((Same.tr s5 (Same.tr s6 s7)) _ _ gX4), hl7, by simp only [List.length_map, List.length_append, List.length_cons, List.length_nil, lu_len]; omega, fun X8 hX8 => ?_⟩
      have s8 : Same H7 (upd H7 X8 (.lst (((lu mk (ment n a' (ns))) ++ (lu mk (ment n b' (ns)))).map V.str ++ (lu mk (ment n c' ((ns ++ ([z, y] : List Str))))).map V.str))) := same_upd hX8
      have gX8 : upd H7 X8 (.lst (((lu mk (ment n a' (ns))) ++ (lu mk (ment n b' (ns)))).map V.str ++ (lu mk (ment n c' ((ns ++ ([z, y] : List Str))))).map V.str)) X8 = some (.lst ((((lu mk (ment n a' (ns))) ++ (lu mk (ment n b' (ns)))) ++ (lu mk (ment n c' ((ns ++ ([z, y] : List Str)))))).map V.str)) := by rw [upd_same]; exact app_str _ _
      generalize upd H7 X8 (.lst (((lu mk (ment n a' (ns))) ++ (lu mk (ment n b' (ns)))).map V.str ++ (lu mk (ment n c' ((ns ++ ([z, y] : List Str))))).map V.str)) = H8 at s8 gX8 ⊢
      refine qq _ X8 (Same.tr s1 (Same.tr s2 (Same.tr s3 (Same.tr s4 (Same.tr s5 (Same.tr s6 (Same.tr s7 s8))))))) ?_
      have fin := gX8
      rw [ment_plain rfl, lu_app, show lu mk (((subs (.split a' b' z y c')).zip (bnds (.split a' b' z y c'))).map fun p => ment n p.1 (ns ++ p.2)).flatten = lu mk (ment n a' ns) ++ lu mk (ment n b' ns) ++ lu mk (ment n c' (ns ++ [z, y])) by simp [subs, bnds, lu_app], show lu mk (start (.split a' b' z y c') ns) = [] from rfl, List.nil_append]
      exact fin
    | bin op a' b' =>
      obtain ⟨t, u, v, rfl, ht, hea, heb⟩ := he
      refine ⟨_, rfl, t, _, 0, .str "binary", rfl, rfl, SqT.of ht, rfl, _, rfl, by show 3 ≤ sizeLine; decide, fun X1 hX1 => ⟨X1, _, rfl, .inl (SqL.of upd_same), rfl, rfl, _, rfl, iteNo (by decide +kernel) ?_⟩⟩
      have s1 : Same H (upd H X1 (.lst [.str "number", .str "text", .str "bool"])) := same_upd hX1
      generalize upd H X1 (.lst [.str "number", .str "text", .str "bool"]) = H1 at s1 ⊢
      refine ⟨_, rfl, rfl, _, rfl, iteNo (by decide +kernel) ?_⟩
      refine ⟨_, rfl, rfl, _, rfl, iteNo (by decide +kernel) ?_⟩
      refine ⟨_, rfl, rfl, _, rfl, iteNo (by decide +kernel) ?_⟩
      refine ⟨_, rfl, rfl, _, rfl, iteNo (by decide +kernel) ?_⟩
      refine ⟨Nat.zero_le _, fun X2 hX2 => ?_⟩
      have s2 : Same H1 (upd H1 X2 (.lst [])) := same_upd hX2
      have gX2 : upd H1 X2 (.lst []) X2 = some (.lst []) := upd_same
      generalize upd H1 X2 (.lst []) = H2 at s2 gX2 ⊢
      refine ⟨_, rfl, (1 : Int), rfl, t, _, rfl, SqT.of ((Same.tr s1 s2) _ _ ht), (fun h => by have := h.1; simp [HT.sIx] at this), fun X3 hX3 => ?_⟩
      have s3 : Same H2 (upd H2 X3 (.tup (cutV (.str "binary" :: [.str op, u, v]) (some 1) none))) := same_upd hX3
      have gX3 : upd H2 X3 (.tup (cutV (.str "binary" :: [.str op, u, v]) (some 1) none)) X3 = some (.tup [.str op, u, v]) := by rw [upd_same]; exact congrArg (fun z => some (HO.tup z)) (cut_from _ 1)
      generalize upd H2 X3 (.tup (cutV (.str "binary" :: [.str op, u, v]) (some 1) none)) = H3 at s3 gX3 ⊢
      refine ⟨fun σ' H' => SB t nl a "binary" H [.str op, u, v] [] σ' H', ?_, ?_⟩
      · exact ⟨_, rfl, rfl, _, rfl, iteNo (by decide +kernel) ⟨X2, X3, rfl, (Same.tr s1 (Same.tr s2 s3)), gX3, (s3 _ _ (gX2))⟩⟩
      rintro σ' H1 ⟨fl, q2, rfl, s1, gq, gf⟩
      refine ⟨fun σ' H' => SB t nl a "binary" H [u, v] [] σ' H', ?_, ?_⟩
      · exact ⟨_, rfl, rfl, _, rfl, iteYes (by decide +kernel) ⟨_, rfl, (2 : Int), rfl, t, _, rfl, SqT.of (s1 _ _ ht), (fun h => by have := h.1; simp [HT.sIx] at this), fun p hp => ⟨fl, p, rfl, Same.tr s1 (same_upd hp), by rw [upd_same]; exact congrArg (fun z => some (HO.tup z)) (cut_from _ 2), same_upd hp _ _ gf⟩⟩⟩
      rintro σ' H1 ⟨fl, q2, rfl, s1, gq, gf⟩
      refine ⟨fun σ' H' => SB t nl a "binary" H [u, v] [] σ' H', ?_, ?_⟩
      · exact ⟨_, rfl, rfl, _, rfl, iteNo (by decide +kernel) ⟨_, rfl, rfl, _, rfl, iteNo (by decide +kernel) ⟨fl, q2, rfl, s1, gq, gf⟩⟩⟩
      rintro σ' H1 ⟨fl, q2, rfl, s1, gq, gf⟩
      refine ⟨fun σ' H' => SB t nl a "binary" H [u, v] [] σ' H', ?_, ?_⟩
      · exact ⟨_, rfl, rfl, _, rfl, iteNo (by decide +kernel) ⟨fl, q2, rfl, s1, gq, gf⟩⟩
      rintro σ' H1 ⟨fl, q2, rfl, s1, gq, gf⟩
      have he1 : All2 (fun u e => ExAt H n e u) [u, v] [a', b'] := .cons hea (.one heb)
      have em : ment (n + 1) (.bin op a' b') ns = start (.bin op a' b') ns ++ (([a', b']).map fun e => ment n e ns).flatten := by rw [ment_plain rfl]; exact congrArg (fun z => start (.bin op a' b') ns ++ z) (zip_nil [a', b'])
      have ef : lu mk (start (.bin op a' b') ns) = [] := rfl
      rw [em] at qq
      have hsl : ([a', b'] : List Ex).length ≤ 3 := (by simp)
      rw [← ef] at gf
      have hsp := start_le (.bin op a' b') ns
      generalize start (.bin op a' b') ns = sp at qq gf hsp
      generalize ([a', b'] : List Ex) = es' at he1 qq hsl
      generalize ([u, v] : List V) = us at he1 gq
      have hul := he1.len
      have lens : ∀ i, ((es'.take i).map fun e => ment n e ns).flatten.length ≤ 3 * 340 := fun i => by
        have h3 := flat_le (fun e => ment n e ns) 340 (es'.take i) fun e he => by
          obtain ⟨j, hj⟩ := List.mem_iff_getElem?.mp (List.mem_of_mem_take he)
          obtain ⟨u, _, hu⟩ := he1.getR hj
          exact Nat.le_trans (ment_len _ hu) hB
        have h4 : (es'.take i).length ≤ 3 := by rw [List.length_take]; omega
        have := Nat.mul_le_mul_right 340 h4
        omega
      refine ⟨_, rfl, q2, rfl, ⟨us, SqT.of gq⟩, ?_⟩
      refine for_it walk_tup (fun i σ H' => ∃ (fl : Addr) (y9 : Option V), σ = [some (.ref t), some (.ref nl), some (.ref a), some (.str "binary"), some (.ref fl), none, none, none, some (.ref q2), y9] ∧ Same H1 H' ∧ H' fl = some (.lst ((lu mk (sp ++ ((es'.take i).map fun e => ment n e ns).flatten)).map V.str))) ⟨fl, none, rfl, Same.refl _, by simpa using gf⟩ (fun i σ H' _ ⟨_, _, _, s, _⟩ => SqT.of (s _ _ gq)) ?_ ?_
      · rintro i y σ H2z H2 hi ⟨fl, y9, rfl, s2, hf2⟩ ⟨rfl, hy⟩
        obtain ⟨ex, hex, hex2⟩ := he1.get hy
        have s02 := Same.tr s1 s2
        refine ⟨_, rfl, _, rfl, _, rfl, _, rfl, y, ex, nl, a, ns, mk, rfl, hex2.keep (TupK.of s02), s02 _ _ hnl, by omega, ha.same s02, fun H3 l s3 hl3 => ?_⟩
        have m1 := ment_len ns hex2
        have ln := lens i
        refine ⟨fl, l, _, _, rfl, rfl, s3 _ _ hf2, hl3, by simp only [List.length_map, List.length_append, lu_len]; omega, fun p hp => ?_⟩
        refine ⟨p, _, rfl, Same.tr s2 (Same.tr s3 (same_upd hp)), ?_⟩
        rw [upd_same, flat_take (f := fun e => ment n e ns) hex, ← List.append_assoc, lu_app mk (sp ++ _)]
        exact app_str _ _
      · rintro σ H2 ⟨fl, y9, rfl, s2, hf2⟩
        rw [hul, List.take_length] at hf2
        exact ⟨_, rfl, qq H2 fl (Same.tr s1 s2) hf2⟩
    | neg a' =>
      obtain ⟨t, u, rfl, ht, hea⟩ := he
      refine ⟨_, rfl, t, _, 0, .str "not", rfl, rfl, SqT.of ht, rfl, _, rfl, by show 3 ≤ sizeLine; decide, fun X1 hX1 => ⟨X1, _, rfl, .inl (SqL.of upd_same), rfl, rfl, _, rfl, iteNo (by decide +kernel) ?_⟩⟩
      have s1 : Same H (upd H X1 (.lst [.str "number", .str "text", .str "bool"])) := same_upd hX1
      generalize upd H X1 (.lst [.str "number", .str "text", .str "bool"]) = H1 at s1 ⊢
      refine ⟨_, rfl, rfl, _, rfl, iteNo (by decide +kernel) ?_⟩
      refine ⟨_, rfl, rfl, _, rfl, iteNo (by decide +kernel) ?_⟩
      refine ⟨_, rfl, rfl, _, rfl, iteNo (by decide +kernel) ?_⟩
      refine ⟨_, rfl, rfl, _, rfl, iteNo (by decide +kernel) ?_⟩
      refine ⟨Nat.zero_le _, fun X2 hX2 => ?_⟩
      have s2 : Same H1 (upd H1 X2 (.lst [])) := same_upd hX2
      have gX2 : upd H1 X2 (.lst []) X2 = some (.lst []) := upd_same
      generalize upd H1 X2 (.lst []) = H2 at s2 gX2 ⊢
      refine ⟨_, rfl, (1 : Int), rfl, t, _, rfl, SqT.of ((Same.tr s1 s2) _ _ ht), (fun h => by have := h.1; simp [HT.sIx] at this), fun X3 hX3 => ?_⟩
      have s3 : Same H2 (upd H2 X3 (.tup (cutV (.str "not" :: [u]) (some 1) none))) := same_upd hX3
      have gX3 : upd H2 X3 (.tup (cutV (.str "not" :: [u]) (some 1) none)) X3 = some (.tup [u]) := by rw [upd_same]; exact congrArg (fun z => some (HO.tup z)) (cut_from _ 1)
      generalize upd H2 X3 (.tup (cutV (.str "not" :: [u]) (some 1) none)) = H3 at s3 gX3 ⊢
      refine ⟨fun σ' H' => SB t nl a "not" H [u] [] σ' H', ?_, ?_⟩
      · exact ⟨_, rfl, rfl, _, rfl, iteNo (by decide +kernel) ⟨X2, X3, rfl, (Same.tr s1 (Same.tr s2 s3)), gX3, (s3 _ _ (gX2))⟩⟩
      rintro σ' H1 ⟨fl, q2, rfl, s1, gq, gf⟩
      refine ⟨fun σ' H' => SB t nl a "not" H [u] [] σ' H', ?_, ?_⟩
      · exact ⟨_, rfl, rfl, _, rfl, iteNo (by decide +kernel) ⟨fl, q2, rfl, s1, gq, gf⟩⟩
      rintro σ' H1 ⟨fl, q2, rfl, s1, gq, gf⟩
      refine ⟨fun σ' H' => SB t nl a "not" H [u] [] σ' H', ?_, ?_⟩
      · exact ⟨_, rfl, rfl, _, rfl, iteNo (by decide +kernel) ⟨_, rfl, rfl, _, rfl, iteNo (by decide +kernel) ⟨fl, q2, rfl, s1, gq, gf⟩⟩⟩
      rintro σ' H1 ⟨fl, q2, rfl, s1, gq, gf⟩
      refine ⟨fun σ' H' => SB t nl a "not" H [u] [] σ' H', ?_, ?_⟩
      · exact ⟨_, rfl, rfl, _, rfl, iteNo (by decide +kernel) ⟨fl, q2, rfl, s1, gq, gf⟩⟩
      rintro σ' H1 ⟨fl, q2, rfl, s1, gq, gf⟩
      have he1 : All2 (fun u e => ExAt H n e u) [u] [a'] := .one hea
      have em : ment (n + 1) (.neg a') ns = start (.neg a') ns ++ (([a']).map fun e => ment n e ns).flatten := by rw [ment_plain rfl]; exact congrArg (fun z => start (.neg a') ns ++ z) (zip_nil [a'])
      have ef : lu mk (start (.neg a') ns) = [] := rfl
      rw [em] at qq
      have hsl : ([a'] : List Ex).length ≤ 3 := (by simp)
      rw [← ef] at gf
      have hsp := start_le (.neg a') ns
      generalize start (.neg a') ns = sp at qq gf hsp
      generalize ([a'] : List Ex) = es' at he1 qq hsl
      generalize ([u] : List V) = us at he1 gq
      have hul := he1.len
      have lens : ∀ i, ((es'.take i).map fun e => ment n e ns).flatten.length ≤ 3 * 340 := fun i => by
        have h3 := flat_le (fun e => ment n e ns) 340 (es'.take i) fun e he => by
          obtain ⟨j, hj⟩ := List.mem_iff_getElem?.mp (List.mem_of_mem_take he)
          obtain ⟨u, _, hu⟩ := he1.getR hj
          exact Nat.le_trans (ment_len _ hu) hB
        have h4 : (es'.take i).length ≤ 3 := by rw [List.length_take]; omega
        have := Nat.mul_le_mul_right 340 h4
        omega
      refine ⟨_, rfl, q2, rfl, ⟨us, SqT.of gq⟩, ?_⟩
      refine for_it walk_tup (fun i σ H' => ∃ (fl : Addr) (y9 : Option V), σ = [some (.ref t), some (.ref nl), some (.ref a), some (.str "not"), some (.ref fl), none, none, none, some (.ref q2), y9] ∧ Same H1 H' ∧ H' fl = some (.lst ((lu mk (sp ++ ((es'.take i).map fun e => ment n e ns).flatten)).map V.str))) ⟨fl, none, rfl, Same.refl _, by simpa using gf⟩ (fun i σ H' _ ⟨_, _, _, s, _⟩ => SqT.of (s _ _ gq)) ?_ ?_
      · rintro i y σ H2z H2 hi ⟨fl, y9, rfl, s2, hf2⟩ ⟨rfl, hy⟩
        obtain ⟨ex, hex, hex2⟩ := he1.get hy
        have s02 := Same.tr s1 s2
        refine ⟨_, rfl, _, rfl, _, rfl, _, rfl, y, ex, nl, a, ns, mk, rfl, hex2.keep (TupK.of s02), s02 _ _ hnl, by omega, ha.same s02, fun H3 l s3 hl3 => ?_⟩
        have m1 := ment_len ns hex2
        have ln := lens i
        refine ⟨fl, l, _, _, rfl, rfl, s3 _ _ hf2, hl3, by simp only [List.length_map, List.length_append, lu_len]; omega, fun p hp => ?_⟩
        refine ⟨p, _, rfl, Same.tr s2 (Same.tr s3 (same_upd hp)), ?_⟩
        rw [upd_same, flat_take (f := fun e => ment n e ns) hex, ← List.append_assoc, lu_app mk (sp ++ _)]
        exact app_str _ _
      · rintro σ H2 ⟨fl, y9, rfl, s2, hf2⟩
        rw [hul, List.take_length] at hf2
        exact ⟨_, rfl, qq H2 fl (Same.tr s1 s2) hf2⟩
    | ife a' b' c' =>
      obtain ⟨t, u, v, y, rfl, ht, hea, heb, hec⟩ := he
      refine ⟨_, rfl, t, _, 0, .str "if", rfl, rfl, SqT.of ht, rfl, _, rfl, by show 3 ≤ sizeLine; decide, fun X1 hX1 => ⟨X1, _, rfl, .inl (SqL.of upd_same), rfl, rfl, _, rfl, iteNo (by decide +kernel) ?_⟩⟩
      have s1 : Same H (upd H X1 (.lst [.str "number", .str "text", .str "bool"])) := same_upd hX1
      generalize upd H X1 (.lst [.str "number", .str "text", .str "bool"]) = H1 at s1 ⊢
      refine ⟨_, rfl, rfl, _, rfl, iteNo (by decide +kernel) ?_⟩
      refine ⟨_, rfl, rfl, _, rfl, iteNo (by decide +kernel) ?_⟩
      refine ⟨_, rfl, rfl, _, rfl, iteNo (by decide +kernel) ?_⟩
      refine ⟨_, rfl, rfl, _, rfl, iteNo (by decide +kernel) ?_⟩
      refine ⟨Nat.zero_le _, fun X2 hX2 => ?_⟩
      have s2 : Same H1 (upd H1 X2 (.lst [])) := same_upd hX2
      have gX2 : upd H1 X2 (.lst []) X2 = some (.lst []) := upd_same
      generalize upd H1 X2 (.lst []) = H2 at s2 gX2 ⊢
      refine ⟨_, rfl, (1 : Int), rfl, t, _, rfl, SqT.of ((Same.tr s1 s2) _ _ ht), (fun h => by have := h.1; simp [HT.sIx] at this), fun X3 hX3 => ?_⟩
      have s3 : Same H2 (upd H2 X3 (.tup (cutV (.str "if" :: [u, v, y]) (some 1) none))) := same_upd hX3
      have gX3 : upd H2 X3 (.tup (cutV (.str "if" :: [u, v, y]) (some 1) none)) X3 = some (.tup [u, v, y]) := by rw [upd_same]; exact congrArg (fun z => some (HO.tup z)) (cut_from _ 1)
      generalize upd H2 X3 (.tup (cutV (.str "if" :: [u, v, y]) (some 1) none)) = H3 at s3 gX3 ⊢
      refine ⟨fun σ' H' => SB t nl a "if" H [u, v, y] [] σ' H', ?_, ?_⟩
      · exact ⟨_, rfl, rfl, _, rfl, iteNo (by decide +kernel) ⟨X2, X3, rfl, (Same.tr s1 (Same.tr s2 s3)), gX3, (s3 _ _ (gX2))⟩⟩
      rintro σ' H1 ⟨fl, q2, rfl, s1, gq, gf⟩
      refine ⟨fun σ' H' => SB t nl a "if" H [u, v, y] [] σ' H', ?_, ?_⟩
      · exact ⟨_, rfl, rfl, _, rfl, iteNo (by decide +kernel) ⟨fl, q2, rfl, s1, gq, gf⟩⟩
      rintro σ' H1 ⟨fl, q2, rfl, s1, gq, gf⟩
      refine ⟨fun σ' H' => SB t nl a "if" H [u, v, y] [] σ' H', ?_, ?_⟩
      · exact ⟨_, rfl, rfl, _, rfl, iteNo (by decide +kernel) ⟨_, rfl, rfl, _, rfl, iteNo (by decide +kernel) ⟨fl, q2, rfl, s1, gq, gf⟩⟩⟩
      rintro σ' H1 ⟨fl, q2, rfl, s1, gq, gf⟩
      refine ⟨fun σ' H' => SB t nl a "if" H [u, v, y] [] σ' H', ?_, ?_⟩
      · exact ⟨_, rfl, rfl, _, rfl, iteNo (by decide +kernel) ⟨fl, q2, rfl, s1, gq, gf⟩⟩
      rintro σ' H1 ⟨fl, q2, rfl, s1, gq, gf⟩
      have he1 : All2 (fun u e => ExAt H n e u) [u, v, y] [a', b', c'] := .cons hea (.cons heb (.one hec))
      have em : ment (n + 1) (.ife a' b' c') ns = start (.ife a' b' c') ns ++ (([a', b', c']).map fun e => ment n e ns).flatten := by rw [ment_plain rfl]; exact congrArg (fun z => start (.ife a' b' c') ns ++ z) (zip_nil [a', b', c'])
      have ef : lu mk (start (.ife a' b' c') ns) = [] := rfl
      rw [em] at qq
      have hsl : ([a', b', c'] : List Ex).length ≤ 3 := (by simp)
      rw [← ef] at gf
      have hsp := start_le (.ife a' b' c') ns
      generalize start (.ife a' b' c') ns = sp at qq gf hsp
      generalize ([a', b', c'] : List Ex) = es' at he1 qq hsl
      generalize ([u, v, y] : List V) = us at he1 gq
      have hul := he1.len
      have lens : ∀ i, ((es'.take i).map fun e => ment n e ns).flatten.length ≤ 3 * 340 := fun i => by
        have h3 := flat_le (fun e => ment n e ns) 340 (es'.take i) fun e he => by
          obtain ⟨j, hj⟩ := List.mem_iff_getElem?.mp (List.mem_of_mem_take he)
          obtain ⟨u, _, hu⟩ := he1.getR hj
          exact Nat.le_trans (ment_len _ hu) hB
        have h4 : (es'.take i).length ≤ 3 := by rw [List.length_take]; omega
        have := Nat.mul_le_mul_right 340 h4
        omega
      refine ⟨_, rfl, q2, rfl, ⟨us, SqT.of gq⟩, ?_⟩
      refine for_it walk_tup (fun i σ H' => ∃ (fl : Addr) (y9 : Option V), σ = [some (.ref t), some (.ref nl), some (.ref a), some (.str "if"), some (.ref fl), none, none, none, some (.ref q2), y9] ∧ Same H1 H' ∧ H' fl = some (.lst ((lu mk (sp ++ ((es'.take i).map fun e => ment n e ns).flatten)).map V.str))) ⟨fl, none, rfl, Same.refl _, by simpa using gf⟩ (fun i σ H' _ ⟨_, _, _, s, _⟩ => SqT.of (s _ _ gq)) ?_ ?_
      · rintro i y σ H2z H2 hi ⟨fl, y9, rfl, s2, hf2⟩ ⟨rfl, hy⟩
        obtain ⟨ex, hex, hex2⟩ := he1.get hy
        have s02 := Same.tr s1 s2
        refine ⟨_, rfl, _, rfl, _, rfl, _, rfl, y, ex, nl, a, ns, mk, rfl, hex2.keep (TupK.of s02), s02 _ _ hnl, by omega, ha.same s02, fun H3 l s3 hl3 => ?_⟩
        have m1 := ment_len ns hex2
        have ln := lens i
        refine ⟨fl, l, _, _, rfl, rfl, s3 _ _ hf2, hl3, by simp only [List.length_map, List.length_append, lu_len]; omega, fun p hp => ?_⟩
        refine ⟨p, _, rfl, Same.tr s2 (Same.tr s3 (same_upd hp)), ?_⟩
        rw [upd_same, flat_take (f := fun e => ment n e ns) hex, ← List.append_assoc, lu_app mk (sp ++ _)]
        exact app_str _ _
      · rintro σ H2 ⟨fl, y9, rfl, s2, hf2⟩
        rw [hul, List.take_length] at hf2
        exact ⟨_, rfl, qq H2 fl (Same.tr s1 s2) hf2⟩
    | cons a' b' =>
      obtain ⟨t, u, v, rfl, ht, hea, heb⟩ := he
      refine ⟨_, rfl, t, _, 0, .str "cons", rfl, rfl, SqT.of ht, rfl, _, rfl, by show 3 ≤ sizeLine; decide, fun X1 hX1 => ⟨X1, _, rfl, .inl (SqL.of upd_same), rfl, rfl, _, rfl, iteNo (by decide +kernel) ?_⟩⟩
      have s1 : Same H (upd H X1 (.lst [.str "number", .str "text", .str "bool"])) := same_upd hX1
      generalize upd H X1 (.lst [.str "number", .str "text", .str "bool"]) = H1 at s1 ⊢
      refine ⟨_, rfl, rfl, _, rfl, iteNo (by decide +kernel) ?_⟩
      refine ⟨_, rfl, rfl, _, rfl, iteNo (by decide +kernel) ?_⟩
      refine ⟨_, rfl, rfl, _, rfl, iteNo (by decide +kernel) ?_⟩
      refine ⟨_, rfl, rfl, _, rfl, iteNo (by decide +kernel) ?_⟩
      refine ⟨Nat.zero_le _, fun X2 hX2 => ?_⟩
      have s2 : Same H1 (upd H1 X2 (.lst [])) := same_upd hX2
      have gX2 : upd H1 X2 (.lst []) X2 = some (.lst []) := upd_same
      generalize upd H1 X2 (.lst []) = H2 at s2 gX2 ⊢
      refine ⟨_, rfl, (1 : Int), rfl, t, _, rfl, SqT.of ((Same.tr s1 s2) _ _ ht), (fun h => by have := h.1; simp [HT.sIx] at this), fun X3 hX3 => ?_⟩
      have s3 : Same H2 (upd H2 X3 (.tup (cutV (.str "cons" :: [u, v]) (some 1) none))) := same_upd hX3
      have gX3 : upd H2 X3 (.tup (cutV (.str "cons" :: [u, v]) (some 1) none)) X3 = some (.tup [u, v]) := by rw [upd_same]; exact congrArg (fun z => some (HO.tup z)) (cut_from _ 1)
      generalize upd H2 X3 (.tup (cutV (.str "cons" :: [u, v]) (some 1) none)) = H3 at s3 gX3 ⊢
      refine ⟨fun σ' H' => SB t nl a "cons" H [u, v] [] σ' H', ?_, ?_⟩
      · exact ⟨_, rfl, rfl, _, rfl, iteNo (by decide +kernel) ⟨X2, X3, rfl, (Same.tr s1 (Same.tr s2 s3)), gX3, (s3 _ _ (gX2))⟩⟩
      rintro σ' H1 ⟨fl, q2, rfl, s1, gq, gf⟩
      refine ⟨fun σ' H' => SB t nl a "cons" H [u, v] [] σ' H', ?_, ?_⟩
      · exact ⟨_, rfl, rfl, _, rfl, iteNo (by decide +kernel) ⟨fl, q2, rfl, s1, gq, gf⟩⟩
      rintro σ' H1 ⟨fl, q2, rfl, s1, gq, gf⟩
      refine ⟨fun σ' H' => SB t nl a "cons" H [u, v] [] σ' H', ?_, ?_⟩
      · exact ⟨_, rfl, rfl, _, rfl, iteNo (by decide +kernel) ⟨_, rfl, rfl, _, rfl, iteNo (by decide +kernel) ⟨fl, q2, rfl, s1, gq, gf⟩⟩⟩
      rintro σ' H1 ⟨fl, q2, rfl, s1, gq, gf⟩
      refine ⟨fun σ' H' => SB t nl a "cons" H [u, v] [] σ' H', ?_, ?_⟩
      · exact ⟨_, rfl, rfl, _, rfl, iteNo (by decide +kernel) ⟨fl, q2, rfl, s1, gq, gf⟩⟩
      rintro σ' H1 ⟨fl, q2, rfl, s1, gq, gf⟩
      have he1 : All2 (fun u e => ExAt H n e u) [u, v] [a', b'] := .cons hea (.one heb)
      have em : ment (n + 1) (.cons a' b') ns = start (.cons a' b') ns ++ (([a', b']).map fun e => ment n e ns).flatten := by rw [ment_plain rfl]; exact congrArg (fun z => start (.cons a' b') ns ++ z) (zip_nil [a', b'])
      have ef : lu mk (start (.cons a' b') ns) = [] := rfl
      rw [em] at qq
      have hsl : ([a', b'] : List Ex).length ≤ 3 := (by simp)
      rw [← ef] at gf
      have hsp := start_le (.cons a' b') ns
      generalize start (.cons a' b') ns = sp at qq gf hsp
      generalize ([a', b'] : List Ex) = es' at he1 qq hsl
      generalize ([u, v] : List V) = us at he1 gq
      have hul := he1.len
      have lens : ∀ i, ((es'.take i).map fun e => ment n e ns).flatten.length ≤ 3 * 340 := fun i => by
        have h3 := flat_le (fun e => ment n e ns) 340 (es'.take i) fun e he => by
          obtain ⟨j, hj⟩ := List.mem_iff_getElem?.mp (List.mem_of_mem_take he)
          obtain ⟨u, _, hu⟩ := he1.getR hj
          exact Nat.le_trans (ment_len _ hu) hB
        have h4 : (es'.take i).length ≤ 3 := by rw [List.length_take]; omega
        have := Nat.mul_le_mul_right 340 h4
        omega
      refine ⟨_, rfl, q2, rfl, ⟨us, SqT.of gq⟩, ?_⟩
      refine for_it walk_tup (fun i σ H' => ∃ (fl : Addr) (y9 : Option V), σ = [some (.ref t), some (.ref nl), some (.ref a), some (.str "cons"), some (.ref fl), none, none, none, some (.ref q2), y9] ∧ Same H1 H' ∧ H' fl = some (.lst ((lu mk (sp ++ ((es'.take i).map fun e => ment n e ns).flatten)).map V.str))) ⟨fl, none, rfl, Same.refl _, by simpa using gf⟩ (fun i σ H' _ ⟨_, _, _, s, _⟩ => SqT.of (s _ _ gq)) ?_ ?_
      · rintro i y σ H2z H2 hi ⟨fl, y9, rfl, s2, hf2⟩ ⟨rfl, hy⟩
        obtain ⟨ex, hex, hex2⟩ := he1.get hy
        have s02 := Same.tr s1 s2
        refine ⟨_, rfl, _, rfl, _, rfl, _, rfl, y, ex, nl, a, ns, mk, rfl, hex2.keep (TupK.of s02), s02 _ _ hnl, by omega, ha.same s02, fun H3 l s3 hl3 => ?_⟩
        have m1 := ment_len ns hex2
        have ln := lens i
        refine ⟨fl, l, _, _, rfl, rfl, s3 _ _ hf2, hl3, by simp only [List.length_map, List.length_append, lu_len]; omega, fun p hp => ?_⟩
        refine ⟨p, _, rfl, Same.tr s2 (Same.tr s3 (same_upd hp)), ?_⟩
        rw [upd_same, flat_take (f := fun e => ment n e ns) hex, ← List.append_assoc, lu_app mk (sp ++ _)]
        exact app_str _ _
      · rintro σ H2 ⟨fl, y9, rfl, s2, hf2⟩
        rw [hul, List.take_length] at hf2
        exact ⟨_, rfl, qq H2 fl (Same.tr s1 s2) hf2⟩
    | list es =>
      obtain ⟨t, q, us, rfl, ht, hq, hl, hes⟩ := he
      refine ⟨_, rfl, t, _, 0, .str "list", rfl, rfl, SqT.of ht, rfl, _, rfl, by show 3 ≤ sizeLine; decide, fun X1 hX1 => ⟨X1, _, rfl, .inl (SqL.of upd_same), rfl, rfl, _, rfl, iteNo (by decide +kernel) ?_⟩⟩
      have s1 : Same H (upd H X1 (.lst [.str "number", .str "text", .str "bool"])) := same_upd hX1
      generalize upd H X1 (.lst [.str "number", .str "text", .str "bool"]) = H1 at s1 ⊢
      refine ⟨_, rfl, rfl, _, rfl, iteNo (by decide +kernel) ?_⟩
      refine ⟨_, rfl, rfl, _, rfl, iteNo (by decide +kernel) ?_⟩
      refine ⟨_, rfl, rfl, _, rfl, iteNo (by decide +kernel) ?_⟩
      refine ⟨_, rfl, rfl, _, rfl, iteNo (by decide +kernel) ?_⟩
      refine ⟨Nat.zero_le _, fun X2 hX2 => ?_⟩
      have s2 : Same H1 (upd H1 X2 (.lst [])) := same_upd hX2
      have gX2 : upd H1 X2 (.lst []) X2 = some (.lst []) := upd_same
      generalize upd H1 X2 (.lst []) = H2 at s2 gX2 ⊢
      refine ⟨_, rfl, (1 : Int), rfl, t, _, rfl, SqT.of ((Same.tr s1 s2) _ _ ht), (fun h => by have := h.1; simp [HT.sIx] at this), fun X3 hX3 => ?_⟩
      have s3 : Same H2 (upd H2 X3 (.tup (cutV (.str "list" :: [.ref q]) (some 1) none))) := same_upd hX3
      have gX3 : upd H2 X3 (.tup (cutV (.str "list" :: [.ref q]) (some 1) none)) X3 = some (.tup [.ref q]) := by rw [upd_same]; exact congrArg (fun z => some (HO.tup z)) (cut_from _ 1)
      generalize upd H2 X3 (.tup (cutV (.str "list" :: [.ref q]) (some 1) none)) = H3 at s3 gX3 ⊢
      refine ⟨fun σ' H' => SB t nl a "list" H us [] σ' H', ?_, ?_⟩
      · exact ⟨_, rfl, rfl, _, rfl, iteYes (by decide +kernel) ⟨_, rfl, t, _, 1, .ref q, rfl, rfl, SqT.of ((Same.tr s1 (Same.tr s2 s3)) _ _ ht), rfl, X2, q, rfl, (Same.tr s1 (Same.tr s2 s3)), ((Same.tr s1 (Same.tr s2 s3)) _ _ hq), (s3 _ _ (gX2))⟩⟩
      rintro σ' H1 ⟨fl, q2, rfl, s1, gq, gf⟩
      refine ⟨fun σ' H' => SB t nl a "list" H us [] σ' H', ?_, ?_⟩
      · exact ⟨_, rfl, rfl, _, rfl, iteNo (by decide +kernel) ⟨fl, q2, rfl, s1, gq, gf⟩⟩
      rintro σ' H1 ⟨fl, q2, rfl, s1, gq, gf⟩
      refine ⟨fun σ' H' => SB t nl a "list" H us [] σ' H', ?_, ?_⟩
      · exact ⟨_, rfl, rfl, _, rfl, iteNo (by decide +kernel) ⟨_, rfl, rfl, _, rfl, iteNo (by decide +kernel) ⟨fl, q2, rfl, s1, gq, gf⟩⟩⟩
      rintro σ' H1 ⟨fl, q2, rfl, s1, gq, gf⟩
      refine ⟨fun σ' H' => SB t nl a "list" H us [] σ' H', ?_, ?_⟩
      · exact ⟨_, rfl, rfl, _, rfl, iteNo (by decide +kernel) ⟨fl, q2, rfl, s1, gq, gf⟩⟩
      rintro σ' H1 ⟨fl, q2, rfl, s1, gq, gf⟩
      have he1 : All2 (fun u e => ExAt H n e u) us es := hes
      have em : ment (n + 1) (.list es) ns = start (.list es) ns ++ ((es).map fun e => ment n e ns).flatten := by rw [ment_plain rfl]; exact congrArg (fun z => start (.list es) ns ++ z) (zip_nil es)
      have ef : lu mk (start (.list es) ns) = [] := rfl
      rw [em] at qq
      have hsl : (es : List Ex).length ≤ 3 := (by rw [← hes.len]; exact hl)
      rw [← ef] at gf
      have hsp := start_le (.list es) ns
      generalize start (.list es) ns = sp at qq gf hsp
      generalize (es : List Ex) = es' at he1 qq hsl
      have hul := he1.len
      have lens : ∀ i, ((es'.take i).map fun e => ment n e ns).flatten.length ≤ 3 * 340 := fun i => by
        have h3 := flat_le (fun e => ment n e ns) 340 (es'.take i) fun e he => by
          obtain ⟨j, hj⟩ := List.mem_iff_getElem?.mp (List.mem_of_mem_take he)
          obtain ⟨u, _, hu⟩ := he1.getR hj
          exact Nat.le_trans (ment_len _ hu) hB
        have h4 : (es'.take i).length ≤ 3 := by rw [List.length_take]; omega
        have := Nat.mul_le_mul_right 340 h4
        omega
      refine ⟨_, rfl, q2, rfl, ⟨us, SqT.of gq⟩, ?_⟩
      refine for_it walk_tup (fun i σ H' => ∃ (fl : Addr) (y9 : Option V), σ = [some (.ref t), some (.ref nl), some (.ref a), some (.str "list"), some (.ref fl), none, none, none, some (.ref q2), y9] ∧ Same H1 H' ∧ H' fl = some (.lst ((lu mk (sp ++ ((es'.take i).map fun e => ment n e ns).flatten)).map V.str))) ⟨fl, none, rfl, Same.refl _, by simpa using gf⟩ (fun i σ H' _ ⟨_, _, _, s, _⟩ => SqT.of (s _ _ gq)) ?_ ?_
      · rintro i y σ H2z H2 hi ⟨fl, y9, rfl, s2, hf2⟩ ⟨rfl, hy⟩
        obtain ⟨ex, hex, hex2⟩ := he1.get hy
        have s02 := Same.tr s1 s2
        refine ⟨_, rfl, _, rfl, _, rfl, _, rfl, y, ex, nl, a, ns, mk, rfl, hex2.keep (TupK.of s02), s02 _ _ hnl, by omega, ha.same s02, fun H3 l s3 hl3 => ?_⟩
        have m1 := ment_len ns hex2
        have ln := lens i
        refine ⟨fl, l, _, _, rfl, rfl, s3 _ _ hf2, hl3, by simp only [List.length_map, List.length_append, lu_len]; omega, fun p hp => ?_⟩
        refine ⟨p, _, rfl, Same.tr s2 (Same.tr s3 (same_upd hp)), ?_⟩
        rw [upd_same, flat_take (f := fun e => ment n e ns) hex, ← List.append_assoc, lu_app mk (sp ++ _)]
        exact app_str _ _
      · rintro σ H2 ⟨fl, y9, rfl, s2, hf2⟩
        rw [hul, List.take_length] at hf2
        exact ⟨_, rfl, qq H2 fl (Same.tr s1 s2) hf2⟩
    | call f es =>
      obtain ⟨hf0, t, q, us, rfl, ht, hq, hl, hes⟩ := he
      refine ⟨_, rfl, t, _, 0, .str "call", rfl, rfl, SqT.of ht, rfl, _, rfl, by show 3 ≤ sizeLine; decide, fun X1 hX1 => ⟨X1, _, rfl, .inl (SqL.of upd_same), rfl, rfl, _, rfl, iteNo (by decide +kernel) ?_⟩⟩
      have s1 : Same H (upd H X1 (.lst [.str "number", .str "text", .str "bool"])) := same_upd hX1
      generalize upd H X1 (.lst [.str "number", .str "text", .str "bool"]) = H1 at s1 ⊢
      refine ⟨_, rfl, rfl, _, rfl, iteNo (by decide +kernel) ?_⟩
      refine ⟨_, rfl, rfl, _, rfl, iteNo (by decide +kernel) ?_⟩
      refine ⟨_, rfl, rfl, _, rfl, iteNo (by decide +kernel) ?_⟩
      refine ⟨_, rfl, rfl, _, rfl, iteNo (by decide +kernel) ?_⟩
      refine ⟨Nat.zero_le _, fun X2 hX2 => ?_⟩
      have s2 : Same H1 (upd H1 X2 (.lst [])) := same_upd hX2
      have gX2 : upd H1 X2 (.lst []) X2 = some (.lst []) := upd_same
      generalize upd H1 X2 (.lst []) = H2 at s2 gX2 ⊢
      refine ⟨_, rfl, (1 : Int), rfl, t, _, rfl, SqT.of ((Same.tr s1 s2) _ _ ht), (fun h => by have := h.1; simp [HT.sIx] at this), fun X3 hX3 => ?_⟩
      have s3 : Same H2 (upd H2 X3 (.tup (cutV (.str "call" :: [.str f, .ref q]) (some 1) none))) := same_upd hX3
      have gX3 : upd H2 X3 (.tup (cutV (.str "call" :: [.str f, .ref q]) (some 1) none)) X3 = some (.tup [.str f, .ref q]) := by rw [upd_same]; exact congrArg (fun z => some (HO.tup z)) (cut_from _ 1)
      generalize upd H2 X3 (.tup (cutV (.str "call" :: [.str f, .ref q]) (some 1) none)) = H3 at s3 gX3 ⊢
      refine ⟨fun σ' H' => SB t nl a "call" H [.str f, .ref q] [] σ' H', ?_, ?_⟩
      · exact ⟨_, rfl, rfl, _, rfl, iteNo (by decide +kernel) ⟨X2, X3, rfl, (Same.tr s1 (Same.tr s2 s3)), gX3, (s3 _ _ (gX2))⟩⟩
      rintro σ' H1 ⟨fl, q2, rfl, s1, gq, gf⟩
      refine ⟨fun σ' H' => SB t nl a "call" H [.str f, .ref q] [] σ' H', ?_, ?_⟩
      · exact ⟨_, rfl, rfl, _, rfl, iteNo (by decide +kernel) ⟨fl, q2, rfl, s1, gq, gf⟩⟩
      rintro σ' H1 ⟨fl, q2, rfl, s1, gq, gf⟩
      refine ⟨fun σ' H' => SB t nl a "call" H us [f] σ' H', ?_, ?_⟩
      · exact ⟨_, rfl, rfl, _, rfl, iteYes (by decide +kernel) (iteT ⟨_, rfl, t, _, 2, .ref q, rfl, rfl, SqT.of (s1 _ _ ht), rfl, _, rfl, t, _, 1, .str f, rfl, rfl, SqT.of (s1 _ _ ht), rfl, by show 1 ≤ sizeLine; decide, fun p hp => ⟨p, q, rfl, Same.tr s1 (same_upd hp), same_upd hp _ _ (s1 _ _ hq), upd_same⟩⟩)⟩
      rintro σ' H1 ⟨fl, q2, rfl, s1, gq, gf⟩
      refine ⟨fun σ' H' => SB t nl a "call" H us [f] σ' H', ?_, ?_⟩
      · exact ⟨_, rfl, rfl, _, rfl, iteNo (by decide +kernel) ⟨fl, q2, rfl, s1, gq, gf⟩⟩
      rintro σ' H1 ⟨fl, q2, rfl, s1, gq, gf⟩
      have he1 : All2 (fun u e => ExAt H n e u) us es := hes
      have em : ment (n + 1) (.call f es) ns = start (.call f es) ns ++ ((es).map fun e => ment n e ns).flatten := by rw [ment_plain rfl]; exact congrArg (fun z => start (.call f es) ns ++ z) (zip_nil es)
      have ef : lu mk (start (.call f es) ns) = [f] := rfl
      rw [em] at qq
      have hsl : (es : List Ex).length ≤ 3 := (by rw [← hes.len]; exact hl)
      rw [← ef] at gf
      have hsp := start_le (.call f es) ns
      generalize start (.call f es) ns = sp at qq gf hsp
      generalize (es : List Ex) = es' at he1 qq hsl
      have hul := he1.len
      have lens : ∀ i, ((es'.take i).map fun e => ment n e ns).flatten.length ≤ 3 * 340 := fun i => by
        have h3 := flat_le (fun e => ment n e ns) 340 (es'.take i) fun e he => by
          obtain ⟨j, hj⟩ := List.mem_iff_getElem?.mp (List.mem_of_mem_take he)
          obtain ⟨u, _, hu⟩ := he1.getR hj
          exact Nat.le_trans (ment_len _ hu) hB
        have h4 : (es'.take i).length ≤ 3 := by rw [List.length_take]; omega
        have := Nat.mul_le_mul_right 340 h4
        omega
      refine ⟨_, rfl, q2, rfl, ⟨us, SqT.of gq⟩, ?_⟩
      refine for_it walk_tup (fun i σ H' => ∃ (fl : Addr) (y9 : Option V), σ = [some (.ref t), some (.ref nl), some (.ref a), some (.str "call"), some (.ref fl), none, none, none, some (.ref q2), y9] ∧ Same H1 H' ∧ H' fl = some (.lst ((lu mk (sp ++ ((es'.take i).map fun e => ment n e ns).flatten)).map V.str))) ⟨fl, none, rfl, Same.refl _, by simpa using gf⟩ (fun i σ H' _ ⟨_, _, _, s, _⟩ => SqT.of (s _ _ gq)) ?_ ?_
      · rintro i y σ H2z H2 hi ⟨fl, y9, rfl, s2, hf2⟩ ⟨rfl, hy⟩
        obtain ⟨ex, hex, hex2⟩ := he1.get hy
        have s02 := Same.tr s1 s2
        refine ⟨_, rfl, _, rfl, _, rfl, _, rfl, y, ex, nl, a, ns, mk, rfl, hex2.keep (TupK.of s02), s02 _ _ hnl, by omega, ha.same s02, fun H3 l s3 hl3 => ?_⟩
        have m1 := ment_len ns hex2
        have ln := lens i
        refine ⟨fl, l, _, _, rfl, rfl, s3 _ _ hf2, hl3, by simp only [List.length_map, List.length_append, lu_len]; omega, fun p hp => ?_⟩
        refine ⟨p, _, rfl, Same.tr s2 (Same.tr s3 (same_upd hp)), ?_⟩
        rw [upd_same, flat_take (f := fun e => ment n e ns) hex, ← List.append_assoc, lu_app mk (sp ++ _)]
        exact app_str _ _
      · rintro σ H2 ⟨fl, y9, rfl, s2, hf2⟩
        rw [hul, List.take_length] at hf2
        exact ⟨_, rfl, qq H2 fl (Same.tr s1 s2) hf2⟩
    | make f es =>
      obtain ⟨hf0, t, q, us, rfl, ht, hq, hl, hes⟩ := he
      refine ⟨_, rfl, t, _, 0, .str "make", rfl, rfl, SqT.of ht, rfl, _, rfl, by show 3 ≤ sizeLine; decide, fun X1 hX1 => ⟨X1, _, rfl, .inl (SqL.of upd_same), rfl, rfl, _, rfl, iteNo (by decide +kernel) ?_⟩⟩
      have s1 : Same H (upd H X1 (.lst [.str "number", .str "text", .str "bool"])) := same_upd hX1
      generalize upd H X1 (.lst [.str "number", .str "text", .str "bool"]) = H1 at s1 ⊢
      refine ⟨_, rfl, rfl, _, rfl, iteNo (by decide +kernel) ?_⟩
      refine ⟨_, rfl, rfl, _, rfl, iteNo (by decide +kernel) ?_⟩
      refine ⟨_, rfl, rfl, _, rfl, iteNo (by decide +kernel) ?_⟩
      refine ⟨_, rfl, rfl, _, rfl, iteNo (by decide +kernel) ?_⟩
      refine ⟨Nat.zero_le _, fun X2 hX2 => ?_⟩
      have s2 : Same H1 (upd H1 X2 (.lst [])) := same_upd hX2
      have gX2 : upd H1 X2 (.lst []) X2 = some (.lst []) := upd_same
      generalize upd H1 X2 (.lst []) = H2 at s2 gX2 ⊢
      refine ⟨_, rfl, (1 : Int), rfl, t, _, rfl, SqT.of ((Same.tr s1 s2) _ _ ht), (fun h => by have := h.1; simp [HT.sIx] at this), fun X3 hX3 => ?_⟩
      have s3 : Same H2 (upd H2 X3 (.tup (cutV (.str "make" :: [.str f, .ref q]) (some 1) none))) := same_upd hX3
      have gX3 : upd H2 X3 (.tup (cutV (.str "make" :: [.str f, .ref q]) (some 1) none)) X3 = some (.tup [.str f, .ref q]) := by rw [upd_same]; exact congrArg (fun z => some (HO.tup z)) (cut_from _ 1)
      generalize upd H2 X3 (.tup (cutV (.str "make" :: [.str f, .ref q]) (some 1) none)) = H3 at s3 gX3 ⊢
      refine ⟨fun σ' H' => SB t nl a "make" H [.str f, .ref q] [] σ' H', ?_, ?_⟩
      · exact ⟨_, rfl, rfl, _, rfl, iteNo (by decide +kernel) ⟨X2, X3, rfl, (Same.tr s1 (Same.tr s2 s3)), gX3, (s3 _ _ (gX2))⟩⟩
      rintro σ' H1 ⟨fl, q2, rfl, s1, gq, gf⟩
      refine ⟨fun σ' H' => SB t nl a "make" H [.str f, .ref q] [] σ' H', ?_, ?_⟩
      · exact ⟨_, rfl, rfl, _, rfl, iteNo (by decide +kernel) ⟨fl, q2, rfl, s1, gq, gf⟩⟩
      rintro σ' H1 ⟨fl, q2, rfl, s1, gq, gf⟩
      refine ⟨fun σ' H' => SB t nl a "make" H us [f] σ' H', ?_, ?_⟩
      · exact ⟨_, rfl, rfl, _, rfl, iteNo (by decide +kernel) ⟨_, rfl, rfl, _, rfl, iteYes (by decide +kernel) ⟨_, rfl, t, _, 2, .ref q, rfl, rfl, SqT.of (s1 _ _ ht), rfl, _, rfl, t, _, 1, .str f, rfl, rfl, SqT.of (s1 _ _ ht), rfl, by show 1 ≤ sizeLine; decide, fun p hp => ⟨p, q, rfl, Same.tr s1 (same_upd hp), same_upd hp _ _ (s1 _ _ hq), upd_same⟩⟩⟩⟩
      rintro σ' H1 ⟨fl, q2, rfl, s1, gq, gf⟩
      obtain ⟨kvs, hkv, hmk⟩ := ha.same s1
      refine ⟨fun σ' H' => SB t nl a "make" H us [mk f] σ' H', ?_, ?_⟩
      · exact ⟨_, rfl, rfl, _, rfl, iteYes (by decide +kernel) ⟨_, rfl, a, rfl, .inl ⟨_, .inl hkv⟩, _, rfl, t, _, 1, .str f, rfl, rfl, SqT.of (s1 _ _ ht), rfl, _, rfl, t, _, 1, .str f, rfl, rfl, SqT.of (s1 _ _ ht), rfl, _, .inl ⟨kvs, .inr f, .inl hkv, rfl, rfl⟩, by show 1 ≤ sizeLine; decide, fun p hp => ⟨p, q2, rfl, Same.tr s1 (same_upd hp), same_upd hp _ _ gq, by rw [hmk f]; exact upd_same⟩⟩⟩
      rintro σ' H1 ⟨fl, q2, rfl, s1, gq, gf⟩
      have he1 : All2 (fun u e => ExAt H n e u) us es := hes
      have em : ment (n + 1) (.make f es) ns = start (.make f es) ns ++ ((es).map fun e => ment n e ns).flatten := by rw [ment_plain rfl]; exact congrArg (fun z => start (.make f es) ns ++ z) (zip_nil es)
      have ef : lu mk (start (.make f es) ns) = [mk f] := rfl
      rw [em] at qq
      have hsl : (es : List Ex).length ≤ 3 := (by rw [← hes.len]; exact hl)
      rw [← ef] at gf
      have hsp := start_le (.make f es) ns
      generalize start (.make f es) ns = sp at qq gf hsp
      generalize (es : List Ex) = es' at he1 qq hsl
      have hul := he1.len
      have lens : ∀ i, ((es'.take i).map fun e => ment n e ns).flatten.length ≤ 3 * 340 := fun i => by
        have h3 := flat_le (fun e => ment n e ns) 340 (es'.take i) fun e he => by
          obtain ⟨j, hj⟩ := List.mem_iff_getElem?.mp (List.mem_of_mem_take he)
          obtain ⟨u, _, hu⟩ := he1.getR hj
          exact Nat.le_trans (ment_len _ hu) hB
        have h4 : (es'.take i).length ≤ 3 := by rw [List.length_take]; omega
        have := Nat.mul_le_mul_right 340 h4
        omega
      refine ⟨_, rfl, q2, rfl, ⟨us, SqT.of gq⟩, ?_⟩
      refine for_it walk_tup (fun i σ H' => ∃ (fl : Addr) (y9 : Option V), σ = [some (.ref t), some (.ref nl), some (.ref a), some (.str "make"), some (.ref fl), none, none, none, some (.ref q2), y9] ∧ Same H1 H' ∧ H' fl = some (.lst ((lu mk (sp ++ ((es'.take i).map fun e => ment n e ns).flatten)).map V.str))) ⟨fl, none, rfl, Same.refl _, by simpa using gf⟩ (fun i σ H' _ ⟨_, _, _, s, _⟩ => SqT.of (s _ _ gq)) ?_ ?_
      · rintro i y σ H2z H2 hi ⟨fl, y9, rfl, s2, hf2⟩ ⟨rfl, hy⟩
        obtain ⟨ex, hex, hex2⟩ := he1.get hy
        have s02 := Same.tr s1 s2
        refine ⟨_, rfl, _, rfl, _, rfl, _, rfl, y, ex, nl, a, ns, mk, rfl, hex2.keep (TupK.of s02), s02 _ _ hnl, by omega, ha.same s02, fun H3 l s3 hl3 => ?_⟩
        have m1 := ment_len ns hex2
        have ln := lens i
        refine ⟨fl, l, _, _, rfl, rfl, s3 _ _ hf2, hl3, by simp only [List.length_map, List.length_append, lu_len]; omega, fun p hp => ?_⟩
        refine ⟨p, _, rfl, Same.tr s2 (Same.tr s3 (same_upd hp)), ?_⟩
        rw [upd_same, flat_take (f := fun e => ment n e ns) hex, ← List.append_assoc, lu_app mk (sp ++ _)]
        exact app_str _ _
      · rintro σ H2 ⟨fl, y9, rfl, s2, hf2⟩
        rw [hul, List.take_length] at hf2
        exact ⟨_, rfl, qq H2 fl (Same.tr s1 s2) hf2⟩
    | mat a' arms =>
      obtain ⟨t, u, q, us, rfl, ht, hq, hl, hea, hm2⟩ := he
      refine ⟨_, rfl, t, _, 0, .str "match", rfl, rfl, SqT.of ht, rfl, _, rfl, by show 3 ≤ sizeLine; decide, fun X1 hX1 => ⟨X1, _, rfl, .inl (SqL.of upd_same), rfl, rfl, _, rfl, iteNo (by decide +kernel) ?_⟩⟩
      have s1 : Same H (upd H X1 (.lst [.str "number", .str "text", .str "bool"])) := same_upd hX1
      generalize upd H X1 (.lst [.str "number", .str "text", .str "bool"]) = H1 at s1 ⊢
      refine ⟨_, rfl, rfl, _, rfl, iteNo (by decide +kernel) ?_⟩
      refine ⟨_, rfl, rfl, _, rfl, iteNo (by decide +kernel) ?_⟩
      refine ⟨_, rfl, rfl, _, rfl, iteNo (by decide +kernel) ?_⟩
      refine ⟨_, rfl, rfl, _, rfl, iteYes (by decide +kernel) ?_⟩
      refine ⟨_, rfl, t, _, 1, u, rfl, rfl, SqT.of (s1 _ _ ht), rfl, _, rfl, _, rfl, u, a', nl, a, ns, mk, rfl, (hea.keep (TupK.of s1)), (s1 _ _ hnl), by omega, ha.same s1, fun H2 l2 s2 hl2 => ?_⟩
      have m2 := ment_len (n := n) (e := a') (ns) hea
      have hul := hm2.len
      have hwl := ment_len ns hea
      let seg : Str × List Str × Ex → List (Bool × Str) := fun m => (true, m.1) :: ment n m.2.2 (ns ++ m.2.1)
      have lens : ∀ i, ((arms.take i).map seg).flatten.length ≤ 3 * 341 := fun i => by
        have h3 := flat_le seg 341 (arms.take i) fun m' hm'' => by
          obtain ⟨j, hj⟩ := List.mem_iff_getElem?.mp (List.mem_of_mem_take hm'')
          obtain ⟨u', _, ta', tn', w', _, _, _, _, hu'⟩ := hm2.getR hj
          have := ment_len (ns ++ m'.2.1) hu'
          show (_ :: _).length ≤ _
          rw [List.length_cons]
          omega
        have h4 : (arms.take i).length ≤ 3 := by rw [List.length_take]; omega
        have := Nat.mul_le_mul_right 341 h4
        omega
      refine ⟨_, rfl, t, _, 2, .ref q, rfl, rfl, SqT.of ((Same.tr s1 s2) _ _ ht), rfl, q, rfl, ⟨us, SqT.of ((Same.tr s1 s2) _ _ hq)⟩, ?_⟩
      refine for_it walk_tup (fun i σ H' => ∃ (fl : Addr) (y5 y6 y7 : Option V), σ = [some (.ref t), some (.ref nl), some (.ref a), some (.str "match"), some (.ref fl), y5, y6, y7, none, none] ∧ Same H H' ∧ H' fl = some (.lst ((lu mk (ment n a' ns ++ ((arms.take i).map seg).flatten)).map V.str))) ⟨l2, none, none, none, rfl, (Same.tr s1 s2), by simpa using hl2⟩ (fun i σ H' _ ⟨_, _, _, _, _, s, _⟩ => SqT.of (s _ _ hq)) ?_ ?_
      · rintro i y σ K1z K1 hi ⟨fl, y5, y6, y7, rfl, c1, hf1⟩ ⟨rfl, hy⟩
        obtain ⟨m, hm', ta, tn, r, rfl, hta, hup, hnm, hr2⟩ := hm2.get hy
        obtain ⟨tq, rfl, htq, hnl2, hlow⟩ := hnm
        obtain ⟨kvs, hkv, hmk⟩ := ha.same c1
        have hln := lens i
        have hml := ment_len (ns ++ m.2.1) hr2
        refine ⟨ta, _, rfl, SqT.of (c1 _ _ hta), rfl, _, _, rfl, _, _, rfl, _, _, rfl, rfl, ?_⟩
        refine ⟨_, rfl, _, rfl, a, rfl, .inl ⟨_, .inl hkv⟩, _, rfl, _, rfl, _, .inl ⟨kvs, .inr m.1, .inl hkv, rfl, rfl⟩, by show 1 ≤ sizeLine; decide, fun X hX => ?_⟩
        rw [hmk m.1]
        have s2 := same_upd (o := .lst [.str (mk m.1)]) hX
        have gX : upd K1 X (.lst [.str (mk m.1)]) X = some (.lst ((([mk m.1]) : List Str).map V.str)) := upd_same
        generalize upd K1 X (.lst [.str (mk m.1)]) = K2 at s2 gX ⊢
        refine ⟨fl, X, _, _, rfl, rfl, s2 _ _ hf1, gX, by simp only [List.length_map, List.length_append, List.length_cons, List.length_nil, lu_len]; omega, fun Y hY => ?_⟩
        have s3 := same_upd (o := .lst ((lu mk (ment n a' ns ++ ((arms.take i).map seg).flatten)).map V.str ++ (([mk m.1]) : List Str).map V.str)) hY
        have gY : upd K2 Y (.lst ((lu mk (ment n a' ns ++ ((arms.take i).map seg).flatten)).map V.str ++ (([mk m.1]) : List Str).map V.str)) Y = some (.lst ((lu mk (ment n a' ns ++ ((arms.take i).map seg).flatten ++ [(true, m.1)])).map V.str)) := by
          rw [upd_same, lu_app mk (ment n a' ns ++ _)]
          exact app_str _ _
        generalize upd K2 Y (.lst ((lu mk (ment n a' ns ++ ((arms.take i).map seg).flatten)).map V.str ++ (([mk m.1]) : List Str).map V.str)) = K3 at s3 gY ⊢
        have c3 := Same.tr c1 (Same.tr s2 s3)
        refine ⟨_, rfl, _, rfl, _, rfl, tq, _, rfl, .inr (SqT.of (c3 _ _ htq)), fun Z hZ => ?_⟩
        have s4 := same_upd (o := .lst (m.2.1.map V.str)) hZ
        have gZ : upd K3 Z (.lst (m.2.1.map V.str)) Z = some (.lst (m.2.1.map V.str)) := upd_same
        generalize upd K3 Z (.lst (m.2.1.map V.str)) = K4 at s4 gZ ⊢
        have c4 := Same.tr c3 s4
        refine ⟨nl, Z, _, _, rfl, rfl, c4 _ _ hnl, gZ, by simp only [List.length_map]; omega, fun W hW => ?_⟩
        have s5 := same_upd (o := .lst (ns.map V.str ++ m.2.1.map V.str)) hW
        have gW : upd K4 W (.lst (ns.map V.str ++ m.2.1.map V.str)) W = some (.lst ((ns ++ m.2.1).map V.str)) := by rw [upd_same]; exact app_str _ _
        generalize upd K4 W (.lst (ns.map V.str ++ m.2.1.map V.str)) = K5 at s5 gW ⊢
        have c5 := Same.tr c4 s5
        refine ⟨_, rfl, r, m.2.2, W, a, ns ++ m.2.1, mk, rfl, hr2.keep (TupK.of c5), gW, by rw [List.length_append]; omega, ha.same c5, fun K6 l s6 hl6 => ?_⟩
        refine ⟨Y, l, _, _, rfl, rfl, s6 _ _ (s5 _ _ (s4 _ _ gY)), hl6, by simp only [List.length_map, List.length_append, List.length_cons, List.length_nil, lu_len]; omega, fun p hp => ?_⟩
        refine ⟨p, _, _, _, rfl, Same.tr c5 (Same.tr s6 (same_upd hp)), ?_⟩
        rw [upd_same, flat_take (f := seg) hm', ← List.append_assoc]
        show _ = some (HO.lst ((lu mk (ment n a' ns ++ ((arms.take i).map seg).flatten ++ ([(true, m.1)] ++ ment n m.2.2 (ns ++ m.2.1)))).map V.str))
        rw [← List.append_assoc, lu_app mk (_ ++ [(true, m.1)])]
        exact app_str _ _
      · rintro σ K1 ⟨fl, y5, y6, y7, rfl, c1, hf1⟩
        rw [hul, List.take_length] at hf1
        exact ⟨_, rfl, qq K1 fl c1 hf1⟩
theorem ok_used {k : Nat} (Z : Defs K mg) : ∀ n, n ≤ 4 → FnOk P w K mg base CX0 (k + n + 1) Z.fLawUsed Z.fdLawUsed ["e", "local", "makers"] (spUsed n)
  | 0, _ => by
    refine Z.DLawUsed.F.ok scLawUsed (fun vs H Q E h => ?_) (fun cdv A outer s H vs Q E hr h => ?_)
    · obtain ⟨x, e, nl, a, ns, mk, rfl, _⟩ := h
      rfl
    · obtain ⟨x, e, nl, a, ns, mk, rfl, he, _⟩ := h
      exact he.elim
  | n + 1, h => used_step (k := k + n + 1) (by omega) Z (ok_used Z n (by omega))
end
end Q11
namespace Q11
open PySem PySem.Spec PyProof.Rows L2 SX HL
section
variable {P : Program} {w : World} {K : PySem.W.Frag} {mg : Str → Option Value} {base : Heap}
/-! ### _law_makes, _law_used_data, _law_uses -/
theorem ok_lmakes {k : Nat} (Z : Defs K mg) : FnOk P w K mg base CX0 (k + 1) Z.fLawMakes Z.fdLawMakes ["definition"] spMakes := by
  refine Z.DLawMakes.F.ok scLawMakes (fun vs H Q E h => ?_) (fun cdv A outer s H vs Q E hr h => ?_)
  · obtain ⟨x, d, rfl, _⟩ := h
    rfl
  · obtain ⟨x, d, rfl, hd, qq⟩ := h
    refine ⟨_, (pss_cons (ps_set (i := 1) scLawMakes.nd rfl (.inl rfl) (pe_lst (pa_cons (pe_ix ix_tup (pv 0) pe_int (fun _ _ => rfl)) pa_nil)))
        (C8.pss_cut (ps_if (pt_cmpR op_eq (pe_ix ix_tup (pv 0) pe_int (fun _ _ => rfl)) pe_str (nomark _)) (pss_one (ps_set (i := 1) scLawMakes.nd rfl (.inl rfl) (pe_op op_cat (pv 1) (pe_lc (own := [("maker", 2), ("kinds_v", 3)]) (g := (gTup K 2 (gCons (gName 2) (gCons (gName 3) gNil)))) (by rfl) scLawMakes.nd (HK.pi_tupK (K := K) rfl (pe_ix (HL.ix_tupK (K := K) rfl) (pv 0) pe_int (fun _ _ => rfl))) (blkOk_by (own := [("maker", 2), ("kinds_v", 3)]) (N := ["definition", "names", "maker", "kinds_v"]) (sc := defScope sLawMakes) (by decide +kernel)) (fun _ _ _ _ _ => (pg_tup rfl (pgs_cons (pg_name (i := 2) scLawMakes.nd rfl (.inl rfl)) (pgs_cons (pg_name (i := 3) scLawMakes.nd rfl (.inl rfl)) pgs_nil)))) (fun _ _ _ _ _ => pts_nil) (fun _ _ _ _ _ => (pv 2)))))) pss_nil)
        (pss_one (ps_ret (pv 1))))), ?_⟩
    obtain ⟨t, xs, rfl, ht⟩ := df_tag hd
    refine ⟨_, rfl, t, _, 1, .str (dName d), rfl, rfl, SqT.of ht, atI_nat (j := 1) rfl, by show 1 ≤ sizeLine; decide, fun X hX => ?_⟩
    have s1 := same_upd (o := .lst [.str (dName d)]) hX
    have gX : upd H X (.lst [.str (dName d)]) X = some (.lst [.str (dName d)]) := upd_same
    generalize upd H X (.lst [.str (dName d)]) = H1 at s1 gX ⊢
    have hlen : (dMakes d).length ≤ 3 := by
      cases d with
      | data x ms => obtain ⟨_, t', q, us, _, _, _, hl, hm⟩ := hd; show (_ :: _).length ≤ 3; rw [List.length_cons, List.length_map, ← hm.len]; omega
      | fn x ns e => exact (by show 1 ≤ 3; decide)
      | cell x kd e tv => exact (by show 1 ≤ 3; decide)
      | view x e => exact (by show 1 ≤ 3; decide)
      | act x ns sets e => exact (by show 1 ≤ 3; decide)
    refine ⟨fun σ' H' => ∃ (l : Addr), σ' = [some (.ref t), some (.ref l), none, none] ∧ Same H H' ∧ H l = none ∧ H' l = some (.lst ((dMakes d).map V.str)), ?_, ?_⟩
    · refine ⟨_, rfl, t, _, 0, .str (dTag d), rfl, rfl, SqT.of (s1 _ _ ht), atI_nat (j := 0) rfl, rfl, _, rfl, ?_⟩
      cases d with
      | data x ms =>
        obtain ⟨_, t', q, us, e1, ht', hq, hl, hm⟩ := hd
        cases e1
        refine iteYes (decide_eq_true rfl) ⟨_, rfl, _, rfl, t, _, 2, .ref q, rfl, rfl, SqT.of (s1 _ _ ht'), rfl, q, rfl, ⟨us, SqT.of (s1 _ _ hq)⟩, fun D hD => ?_⟩
        refine lc_it walk_tup (fun i H' => Same H1 H' ∧ H' D = some (.lst ((ms.take i).map fun m => .str m.1))) ⟨same_upd hD, upd_same⟩ (fun i H' _ p => SqT.of (p.1 _ _ (s1 _ _ hq))) ?_ ?_
        · rintro i y H2z H2 hi ⟨s2, hD2⟩ ⟨rfl, hy⟩
          obtain ⟨m, hm', a, b, rfl, ha, _⟩ := hm.get hy
          have big : 100 ≤ sizeLine := by decide
          refine ⟨a, _, rfl, SqT.of (s2 _ _ (s1 _ _ ha)), rfl, _, _, rfl, _, _, rfl, rfl, rfl, lc_yes ⟨_, rfl, _, hD2, ?_, fun z o h => by rw [upd_ne (ne_of_none h hD)]; exact s2 _ _ h, ?_⟩⟩
          · rw [List.length_map, List.length_take]; omega
          · rw [upd_same, take_snoc hm', List.map_append]; rfl
        · rintro H2 ⟨s2, hD2⟩
          rw [hm.len, List.take_length] at hD2
          refine ⟨X, D, _, _, rfl, rfl, s2 _ _ gX, hD2, ?_, fun p hp => ?_⟩
          · have big : 100 ≤ sizeLine := by decide
            have hml := hm.len
            rw [List.length_map]
            show 1 + _ ≤ _
            omega
          · refine ⟨p, rfl, Same.tr s1 (Same.tr s2 (same_upd hp)), Same.none s1 (Same.none s2 hp), ?_⟩
            rw [upd_same]
            show _ = some (HO.lst ((x :: ms.map (·.1)).map V.str))
            rw [List.map_cons, List.map_map]
            rfl
      | fn x ns e => exact iteNo (fun h => absurd (V.str.inj (of_decide_eq_true h)) (show ¬ ("fun" : Str) = "data" by decide +kernel)) ⟨X, rfl, s1, hX, gX⟩
      | cell x kd e tv => exact iteNo (fun h => absurd (V.str.inj (of_decide_eq_true h)) (show ¬ ("cell" : Str) = "data" by decide +kernel)) ⟨X, rfl, s1, hX, gX⟩
      | view x e => exact iteNo (fun h => absurd (V.str.inj (of_decide_eq_true h)) (show ¬ ("view" : Str) = "data" by decide +kernel)) ⟨X, rfl, s1, hX, gX⟩
      | act x ns sets e => exact iteNo (fun h => absurd (V.str.inj (of_decide_eq_true h)) (show ¬ ("act" : Str) = "data" by decide +kernel)) ⟨X, rfl, s1, hX, gX⟩
    · rintro σ' H2 ⟨l, rfl, s2, hln, hl⟩
      exact ⟨_, rfl, qq H2 l s2 hln hl hlen⟩
def spUsedData : Sp := fun vs H Q _ => ∃ (x : Addr) (us : List V) (ks : List Kd), vs = [.ref x] ∧ (H x = some (.lst us) ∨ H x = some (.tup us)) ∧ All2 (KdAt H) us ks ∧ ks.length ≤ 4 ∧
  ∀ H' l, Same H H' → H' l = some (.lst ((dataL ks).map V.str)) → Q (.ref l) H'
theorem ok_usedData {k : Nat} (Z : Defs K mg) : FnOk P w K mg base CX0 (k + 1) Z.fLawUsedData Z.fdLawUsedData ["kinds_v"] spUsedData := by
  refine Z.DLawUsedData.F.ok scLawUsedData (fun vs H Q E h => ?_) (fun cdv A outer s H vs Q E hr h => ?_)
  · obtain ⟨x, us, ks, rfl, _⟩ := h
    rfl
  · obtain ⟨x, us, ks, rfl, hx, hus, hl, qq⟩ := h
    refine ⟨_, (pss_one (ps_ret (pe_lc (own := [("levels", 1), ("base", 2)]) (g := (gTup K 2 (gCons (gName 1) (gCons (gName 2) gNil)))) (by rfl) scLawUsedData.nd (ET.pi_seqK (K := K) rfl (pv 0)) (blkOk_by (own := [("levels", 1), ("base", 2)]) (N := ["kinds_v", "levels", "base"]) (sc := defScope sLawUsedData) (by decide +kernel)) (fun _ _ _ _ _ => (pg_tup rfl (pgs_cons (pg_name (i := 1) scLawUsedData.nd rfl (.inl rfl)) (pgs_cons (pg_name (i := 2) scLawUsedData.nd rfl (.inl rfl)) pgs_nil)))) (fun _ _ _ _ _ => (pts_one (pt_cmpR (HL.op_notIn_seqK (K := K) rfl) (pv 2) (pe_lst (pa_cons pe_str (pa_cons pe_str (pa_cons pe_str pa_nil)))) rfl))) (fun _ _ _ _ _ => (pv 2))))), ?_⟩
    have hul := hus.len
    rcases hx with hx | hx
    · refine ⟨_, rfl, x, us, rfl, .inl ⟨SqL.of hx, fun D hD => ?_⟩⟩
      refine lc_it walk_list (fun i H' => Same H H' ∧ H' D = some (.lst ((dataL (ks.take i)).map V.str))) ⟨same_upd hD, upd_same⟩ (fun i H' _ p => SqL.of (p.1 _ _ hx)) ?_ ?_
      · rintro i y H1z H1 hi ⟨s1, hD1⟩ ⟨rfl, hy⟩
        obtain ⟨kd, hkd, hb, tk, rfl, hk⟩ := hus.get hy
        have e2 := dataL_snoc (ks.take i) kd
        rw [← take_snoc hkd] at e2
        have big : 100 ≤ sizeLine := by decide
        have eI : inV (V.str kd.2) [V.str "num", V.str "text", V.str "bool"] = decide (kd.2 ∈ PLAIN) := inV_str kd.2 PLAIN
        have hdl := dataL_len (ks.take i)
        rw [List.length_take] at hdl
        refine ⟨tk, _, rfl, SqT.of (s1 _ _ hk), rfl, _, _, rfl, _, _, rfl, rfl, rfl, _, rfl, by show 3 ≤ sizeLine; decide, fun L hL => ?_⟩
        have sL := same_upd (o := .lst [.str "num", .str "text", .str "bool"]) hL
        have gL : upd H1 L (.lst [.str "num", .str "text", .str "bool"]) L = some (.lst [.str "num", .str "text", .str "bool"]) := upd_same
        generalize upd H1 L (.lst [.str "num", .str "text", .str "bool"]) = H2 at sL gL ⊢
        refine ⟨L, _, rfl, .inl (SqL.of gL), rfl, rfl, _, rfl, ?_⟩
        rw [if_pos rfl, eI]
        by_cases hp : kd.2 ∈ PLAIN
        · rw [if_pos hp, List.append_nil] at e2
          rw [decide_eq_true hp]
          refine iteF ⟨Same.tr s1 sL, ?_⟩
          rw [e2]
          exact sL _ _ hD1
        · rw [if_neg hp] at e2
          rw [decide_eq_false hp]
          refine iteT ⟨_, rfl, _, sL _ _ hD1, by rw [List.length_map]; omega, fun z o h => by rw [upd_ne (ne_of_none h hD)]; exact sL _ _ (s1 _ _ h), ?_⟩
          rw [upd_same, e2]
          exact snoc_str _ _
      · rintro H1 ⟨s1, hD1⟩
        rw [hul, List.take_length] at hD1
        exact qq H1 D s1 hD1
    · refine ⟨_, rfl, x, us, rfl, .inr ⟨SqT.of hx, fun D hD => ?_⟩⟩
      refine lc_it walk_tup (fun i H' => Same H H' ∧ H' D = some (.lst ((dataL (ks.take i)).map V.str))) ⟨same_upd hD, upd_same⟩ (fun i H' _ p => SqT.of (p.1 _ _ hx)) ?_ ?_
      · rintro i y H1z H1 hi ⟨s1, hD1⟩ ⟨rfl, hy⟩
        obtain ⟨kd, hkd, hb, tk, rfl, hk⟩ := hus.get hy
        have e2 := dataL_snoc (ks.take i) kd
        rw [← take_snoc hkd] at e2
        have big : 100 ≤ sizeLine := by decide
        have eI : inV (V.str kd.2) [V.str "num", V.str "text", V.str "bool"] = decide (kd.2 ∈ PLAIN) := inV_str kd.2 PLAIN
        have hdl := dataL_len (ks.take i)
        rw [List.length_take] at hdl
        refine ⟨tk, _, rfl, SqT.of (s1 _ _ hk), rfl, _, _, rfl, _, _, rfl, rfl, rfl, _, rfl, by show 3 ≤ sizeLine; decide, fun L hL => ?_⟩
        have sL := same_upd (o := .lst [.str "num", .str "text", .str "bool"]) hL
        have gL : upd H1 L (.lst [.str "num", .str "text", .str "bool"]) L = some (.lst [.str "num", .str "text", .str "bool"]) := upd_same
        generalize upd H1 L (.lst [.str "num", .str "text", .str "bool"]) = H2 at sL gL ⊢
        refine ⟨L, _, rfl, .inl (SqL.of gL), rfl, rfl, _, rfl, ?_⟩
        rw [if_pos rfl, eI]
        by_cases hp : kd.2 ∈ PLAIN
        · rw [if_pos hp, List.append_nil] at e2
          rw [decide_eq_true hp]
          refine iteF ⟨Same.tr s1 sL, ?_⟩
          rw [e2]
          exact sL _ _ hD1
        · rw [if_neg hp] at e2
          rw [decide_eq_false hp]
          refine iteT ⟨_, rfl, _, sL _ _ hD1, by rw [List.length_map]; omega, fun z o h => by rw [upd_ne (ne_of_none h hD)]; exact sL _ _ (s1 _ _ h), ?_⟩
          rw [upd_same, e2]
          exact snoc_str _ _
      · rintro H1 ⟨s1, hD1⟩
        rw [hul, List.take_length] at hD1
        exact qq H1 D s1 hD1
end
end Q11
namespace Q11
open PySem PySem.Spec PyProof.Rows L2 SX HL
section
variable {P : Program} {w : World} {K : PySem.W.Frag} {mg : Str → Option Value} {base : Heap}
/-! ### _law_uses -/
theorem dataL_app (a b : List Kd) : dataL (a ++ b) = dataL a ++ dataL b := by
  unfold dataL
  rw [List.filter_append, List.map_append]
theorem mm_lu (d : Df) (mk : Str → Str) (e : Ex) : mm d mk e = lu mk (ment 4 e (dPs d)) := rfl
theorem act_body (x : Str) (ns : List Str) (sets : List (Str × Ex)) (e : Ex) (mk : Str → Str) : ∀ i, i ≤ sets.length → bodyN (.act x ns sets e) mk i = ((sets.take i).map fun m => m.1 :: lu mk (ment 4 m.2 ns)).flatten
  | 0, _ => rfl
  | i + 1, h => by
    have hg := List.getElem?_eq_getElem (show i < sets.length by omega)
    have h1 : (dEs (.act x ns sets e))[i]? = some sets[i].2 := by
      show (sets.map (·.2) ++ [e])[i]? = _
      rw [List.getElem?_append_left (by rw [List.length_map]; omega), List.getElem?_map, hg]
      rfl
    have h2 : ((dCells (.act x ns sets e)).drop i).take 1 = [sets[i].1] := by
      show ((sets.map (·.1)).drop i).take 1 = _
      rw [List.drop_eq_getElem_cons (by rw [List.length_map]; omega)]
      simp
    rw [bodyN, h1, h2, act_body x ns sets e mk i (by omega), take_snoc hg, List.map_append, List.flatten_append]
    simp [mm_lu, dPs]
theorem act_all (x : Str) (ns : List Str) (sets : List (Str × Ex)) (e : Ex) (mk : Str → Str) : usesAll (.act x ns sets e) mk = (sets.map fun m => m.1 :: lu mk (ment 4 m.2 ns)).flatten ++ lu mk (ment 4 e ns) := by
  have h1 : (dEs (.act x ns sets e)).length = sets.length + 1 := by
    show (sets.map (·.2) ++ [e]).length = _
    rw [List.length_append, List.length_map]
    rfl
  have h2 : (dEs (.act x ns sets e))[sets.length]? = some e := by
    show (sets.map (·.2) ++ [e])[sets.length]? = _
    rw [List.getElem?_append_right (by rw [List.length_map]; exact Nat.le_refl _), List.length_map, Nat.sub_self]
    rfl
  have h3 : ((dCells (.act x ns sets e)).drop sets.length).take 1 = [] := by
    show ((sets.map (·.1)).drop sets.length).take 1 = _
    rw [List.drop_of_length_le (by rw [List.length_map]; exact Nat.le_refl _)]
    rfl
  have hb := act_body x ns sets e mk sets.length (Nat.le_refl _)
  rw [List.take_length] at hb
  unfold usesAll
  rw [h1, bodyN, h2, h3, hb]
  simp [dataL, dKinds, turnL, mm_lu, dPs]
def SU (t a : Addr) (tag : Str) (H : Hp) (fnd : List Str) (σ' : L2.St) (H' : Hp) : Prop := ∃ (fl : Addr) (y4 y5 y6 y7 : Option V), σ' = [some (.ref t), some (.ref a), some (.str tag), some (.ref fl), y4, y5, y6, y7, none] ∧ Same H H' ∧ H' fl = some (.lst (fnd.map V.str))
def spLUses : Sp := fun vs H Q _ => ∃ (x : V) (d : Df) (a : Addr) (mk : Str → Str), vs = [x, .ref a] ∧ DfAt H d x ∧ MapAt H a mk ∧ (usesAll d mk).length ≤ 2000 ∧ ∀ H' l, Same H H' → H' l = some (.lst ((once (usesAll d mk)).map V.str)) → Q (.ref l) H'
theorem ok_luses {k : Nat} (Z : Defs K mg) : FnOk P w K mg base CX0 (k + 6) Z.fLawUses Z.fdLawUses ["definition", "makers"] spLUses := by
  have GLawUsed : FnOk P w K mg base CX0 (k + 5) Z.fLawUsed Z.fdLawUsed ["e", "local", "makers"] (spUsed 4) := ok_used Z 4 (Nat.le_refl _)
  have GLawUsedData : FnOk P w K mg base CX0 (k + 1) Z.fLawUsedData Z.fdLawUsedData ["kinds_v"] spUsedData := ok_usedData Z
  refine Z.DLawUses.F.ok scLawUses (fun vs H Q E h => ?_) (fun cdv A outer s H vs Q E hr h => ?_)
  · obtain ⟨x, d, a, mk, rfl, _⟩ := h
    rfl
  · obtain ⟨x, d, a, mk, rfl, hd, ha, hlen, qq⟩ := h
    refine ⟨_, (pss_cons (ps_set (i := 2) scLawUses.nd rfl (.inl rfl) (pe_ix ix_tup (pv 0) pe_int (fun _ _ => rfl)))
        (pss_cons (ps_set (i := 3) scLawUses.nd rfl (.inr rfl) (pe_lst pa_nil))
        (C8.pss_cut (ps_if (pt_cmpR op_eq (pv 2) pe_str (nomark _)) (pss_one (ps_for PassesOwn.never rfl (pi_tup (pe_ix ix_tup (pv 0) pe_int (fun _ _ => rfl))) (pg_tup rfl (pgs_cons (pg_name (i := 4) scLawUses.nd rfl (.inl rfl)) (pgs_cons (pg_name (i := 5) scLawUses.nd rfl (.inl rfl)) pgs_nil))) (pss_one (ps_set (i := 3) scLawUses.nd rfl (.inr rfl) (pe_op op_cat (pv 3) (pe_call GLawUsedData (hr.mono (by omega)) (by rfl) Z.DLawUsedData.g Z.DLawUsedData.F.kp Z.DLawUsedData.b .nil pass0 (pa_cons (pv 5) pa_nil))))))) pss_nil)
        (C8.pss_cut (ps_if (pt_cmpR op_eq (pv 2) pe_str (nomark _)) (pss_one (ps_set (i := 3) scLawUses.nd rfl (.inr rfl) (pe_call GLawUsed (hr.mono (by omega)) (by rfl) Z.DLawUsed.g Z.DLawUsed.F.kp Z.DLawUsed.b .nil pass0 (pa_cons (pe_ix ix_tup (pv 0) pe_int (fun _ _ => rfl)) (pa_cons (pe_callTy call_list_of (by rfl) Z.list HL.boot_list (pa_cons (pe_ix ix_tup (pv 0) pe_int (fun _ _ => rfl)) pa_nil)) (pa_cons (pv 1) pa_nil)))))) pss_nil)
        (C8.pss_cut (ps_if (pt_cmpR op_eq (pv 2) pe_str (nomark _)) (pss_one (ps_set (i := 3) scLawUses.nd rfl (.inr rfl) (pe_call GLawUsed (hr.mono (by omega)) (by rfl) Z.DLawUsed.g Z.DLawUsed.F.kp Z.DLawUsed.b .nil pass0 (pa_cons (pe_ix ix_tup (pv 0) pe_int (fun _ _ => rfl)) (pa_cons (pe_lst pa_nil) (pa_cons (pv 1) pa_nil)))))) pss_nil)
        (C8.pss_cut (ps_if (pt_cmpR op_eq (pv 2) pe_str (nomark _)) (pss_cons (ps_set (i := 3) scLawUses.nd rfl (.inr rfl) (pe_op op_cat (pe_call GLawUsedData (hr.mono (by omega)) (by rfl) Z.DLawUsedData.g Z.DLawUsedData.F.kp Z.DLawUsedData.b .nil pass0 (pa_cons (pe_lst (pa_cons (pe_ix ix_tup (pv 0) pe_int (fun _ _ => rfl)) pa_nil)) pa_nil)) (pe_call GLawUsed (hr.mono (by omega)) (by rfl) Z.DLawUsed.g Z.DLawUsed.F.kp Z.DLawUsed.b .nil pass0 (pa_cons (pe_ix ix_tup (pv 0) pe_int (fun _ _ => rfl)) (pa_cons (pe_lst pa_nil) (pa_cons (pv 1) pa_nil))))))
        (pss_one (ps_set (i := 3) scLawUses.nd rfl (.inr rfl) (pe_op op_cat (pv 3) (pe_op op_rep (pe_lst (pa_cons (pe_ix ix_tup (pv 0) pe_int (fun _ _ => rfl)) pa_nil)) (pe_callTy call_int1 (by rfl) Z.int HL.boot_int (pa_cons (pe_cmp (pc_notN (pe_ix ix_tup (pv 0) pe_int (fun _ _ => rfl))) rfl) pa_nil))))))) pss_nil)
        (C8.pss_cut (ps_if (pt_cmpR op_eq (pv 2) pe_str (nomark _)) (pss_cons (ps_for PassesOwn.never rfl (pi_tup (pe_ix ix_tup (pv 0) pe_int (fun _ _ => rfl))) (pg_tup rfl (pgs_cons (pg_name (i := 6) scLawUses.nd rfl (.inl rfl)) (pgs_cons (pg_name (i := 7) scLawUses.nd rfl (.inl rfl)) pgs_nil))) (pss_one (ps_set (i := 3) scLawUses.nd rfl (.inr rfl) (pe_op op_cat (pe_op op_cat (pv 3) (pe_lst (pa_cons (pv 6) pa_nil))) (pe_call GLawUsed (hr.mono (by omega)) (by rfl) Z.DLawUsed.g Z.DLawUsed.F.kp Z.DLawUsed.b .nil pass0 (pa_cons (pv 7) (pa_cons (pe_callTy call_list_of (by rfl) Z.list HL.boot_list (pa_cons (pe_ix ix_tup (pv 0) pe_int (fun _ _ => rfl)) pa_nil)) (pa_cons (pv 1) pa_nil))))))))
        (pss_one (ps_set (i := 3) scLawUses.nd rfl (.inr rfl) (pe_op op_cat (pv 3) (pe_call GLawUsed (hr.mono (by omega)) (by rfl) Z.DLawUsed.g Z.DLawUsed.F.kp Z.DLawUsed.b .nil pass0 (pa_cons (pe_ix ix_tup (pv 0) pe_int (fun _ _ => rfl)) (pa_cons (pe_callTy call_list_of (by rfl) Z.list HL.boot_list (pa_cons (pe_ix ix_tup (pv 0) pe_int (fun _ _ => rfl)) pa_nil)) (pa_cons (pv 1) pa_nil)))))))) pss_nil)
        (pss_one (ps_ret (pe_lc (own := [("k", 8)]) (g := (gName 8)) (by rfl) scLawUses.nd (pi_range1 (by rfl) Z.range (pa_cons (pe_callB (HX.call_len_seqK (K := K) rfl) (by rfl) Z.len PySem.boot_len (pa_cons (pv 3) pa_nil)) pa_nil)) (blkOk_by (own := [("k", 8)]) (N := ["definition", "makers", "form", "found", "maker", "kinds_v", "cell", "e", "k"]) (sc := defScope sLawUses) (by decide +kernel)) (fun _ _ _ _ _ => (pg_name (i := 8) scLawUses.nd rfl (Or.inl rfl))) (fun _ _ _ _ _ => (pts_one (pt_cmpR (HL.op_notIn_seqK (K := K) rfl) (pe_ix (HL.ix_listK (K := K) rfl) (pv 3) (pv 8) (fun _ _ => rfl)) (pe_slice (HX.sl_listK (K := K) rfl) (pv 3) po_none (po_some (pv 8))) rfl))) (fun _ _ _ _ _ => (pe_ix (HL.ix_listK (K := K) rfl) (pv 3) (pv 8) (fun _ _ => rfl))))))))))))), ?_⟩
    have big : 100000 ≤ sizeLine := by decide
    obtain ⟨t, xs, rfl, ht⟩ := df_tag hd
    have ev : ∀ {b c : Str}, decide (b = c) = false → ¬ (decide (V.str b = V.str c) = true) := fun h e => by
      have := V.str.inj (of_decide_eq_true e)
      rw [decide_eq_true this] at h
      cases h
    have last : ∀ (σ : L2.St) (fl : Addr) (Hx : Hp), Same H Hx → Hx fl = some (.lst ((usesAll d mk).map V.str)) → ∀ i, i ≤ (usesAll d mk).length → True := fun _ _ _ _ _ _ _ => trivial
    refine ⟨_, rfl, t, _, 0, .str (dTag d), rfl, rfl, SqT.of ht, atI_nat (j := 0) rfl, Nat.zero_le _, fun X hX => ?_⟩
    have s1 := same_upd (o := .lst []) hX
    have gX : upd H X (.lst []) X = some (.lst ((([] : List Str)).map V.str)) := upd_same
    generalize upd H X (.lst []) = H1 at s1 gX ⊢
    cases d with
    | data x ms =>
      obtain ⟨_, t', q, us, e1, ht', hq, hl, hm⟩ := hd
      cases e1
      refine ⟨fun σ' H' => SU t a "data" H (usesAll (.data x ms) mk) σ' H', ?_, ?_⟩
      · refine ⟨_, rfl, rfl, _, rfl, iteYes (decide_eq_true rfl) ?_⟩
        refine ⟨_, rfl, t, _, 2, .ref q, rfl, rfl, SqT.of (s1 _ _ ht'), rfl, q, rfl, ⟨us, SqT.of (s1 _ _ hq)⟩, ?_⟩
        have hml := hm.len
        refine for_it walk_tup (fun i σ H' => ∃ (fl : Addr) (y4 y5 : Option V), σ = [some (.ref t), some (.ref a), some (.str "data"), some (.ref fl), y4, y5, none, none, none] ∧ Same H H' ∧ H' fl = some (.lst ((dataL (((ms.take i).map (·.2)).flatten)).map V.str)) ∧ (dataL (((ms.take i).map (·.2)).flatten)).length ≤ 2 * i) ⟨X, _, _, rfl, s1, gX, Nat.le_refl _⟩ (fun i σ H' _ ⟨_, _, _, _, s, _⟩ => SqT.of (s _ _ hq)) ?_ ?_
        · rintro i y σ H2z H2 hi ⟨fl, y4, y5, rfl, s2, hf, hfl⟩ ⟨rfl, hy⟩
          obtain ⟨m, hm', b, b', rfl, hb, hup, b2, ks, rfl, hb2, hkl, hks⟩ := hm.get hy
          refine ⟨b, _, rfl, SqT.of (s2 _ _ hb), rfl, _, _, rfl, _, _, rfl, rfl, ?_⟩
          refine ⟨_, rfl, _, rfl, b2, ks, m.2, rfl, .inr (s2 _ _ hb2), hks.mono fun _ _ r => r.keep (TupK.of s2), by rw [← hks.len]; omega, fun H3 l s3 hl3 => ?_⟩
          have hdl := dataL_len m.2
          rw [← hks.len] at hdl
          refine ⟨fl, l, _, _, rfl, rfl, s3 _ _ hf, hl3, by rw [List.length_map, List.length_map]; omega, fun p hp => ?_⟩
          have e2 : dataL (((ms.take (i + 1)).map (·.2)).flatten) = dataL (((ms.take i).map (·.2)).flatten) ++ dataL m.2 := by
            rw [take_snoc hm', List.map_append, List.flatten_append, dataL_app]
            simp
          refine ⟨p, _, _, rfl, Same.tr s2 (Same.tr s3 (same_upd hp)), by rw [upd_same, e2]; exact app_str _ _, by rw [e2, List.length_append]; omega⟩
        · rintro σ H2 ⟨fl, y4, y5, rfl, s2, hf, _⟩
          rw [hml, List.take_length] at hf
          refine ⟨fl, _, _, _, _, rfl, s2, ?_⟩
          have eu : usesAll (.data x ms) mk = dataL ((ms.map (·.2)).flatten) := by
            show dataL _ ++ [] ++ [] = _
            rw [List.append_nil, List.append_nil]
            rfl
          rw [eu]
          exact hf
      rintro σ' H1 ⟨X, y4, y5, y6, y7, rfl, s1, gX⟩
      refine ⟨fun σ' H' => SU t a "data" H (usesAll (.data x ms) mk) σ' H', ?_, ?_⟩
      · exact ⟨_, rfl, rfl, _, rfl, iteNo (ev (by decide +kernel)) ⟨X, _, _, _, _, rfl, s1, gX⟩⟩
      rintro σ' H1 ⟨X, y4, y5, y6, y7, rfl, s1, gX⟩
      refine ⟨fun σ' H' => SU t a "data" H (usesAll (.data x ms) mk) σ' H', ?_, ?_⟩
      · exact ⟨_, rfl, rfl, _, rfl, iteNo (ev (by decide +kernel)) ⟨X, _, _, _, _, rfl, s1, gX⟩⟩
      rintro σ' H1 ⟨X, y4, y5, y6, y7, rfl, s1, gX⟩
      refine ⟨fun σ' H' => SU t a "data" H (usesAll (.data x ms) mk) σ' H', ?_, ?_⟩
      · exact ⟨_, rfl, rfl, _, rfl, iteNo (ev (by decide +kernel)) ⟨X, _, _, _, _, rfl, s1, gX⟩⟩
      rintro σ' H1 ⟨X, y4, y5, y6, y7, rfl, s1, gX⟩
      refine ⟨fun σ' H' => SU t a "data" H (usesAll (.data x ms) mk) σ' H', ?_, ?_⟩
      · exact ⟨_, rfl, rfl, _, rfl, iteNo (ev (by decide +kernel)) ⟨X, _, _, _, _, rfl, s1, gX⟩⟩
      rintro σ' H2 ⟨fl, y4, y5, y6, y7, rfl, s2, hf⟩
      generalize usesAll (.data x ms) mk = L at hlen qq hf
      refine ⟨_, rfl, fl, _, rfl, .inl (SqL.of hf), _, rfl, by rw [List.length_map]; omega, by rw [List.length_map]; omega, fun D hD => ?_⟩
      rw [List.length_map]
      refine lc_range (lo := 0) (n := ((L.length : Int)).toNat) (fun i H' => Same H2 H' ∧ H' D = some (.lst ((once (L.take i)).map V.str))) ⟨same_upd hD, upd_same⟩ ?_ ?_
      · rintro i H3 hi ⟨s3, hD3⟩
        have hi2 : i < L.length := by omega
        have hf3 := s3 _ _ hf
        have hg := List.getElem?_eq_getElem hi2
        have hat : atI (L.map V.str) (0 + (i : Int)) = some (.str L[i]) := by rw [Int.zero_add]; exact atI_nat (by rw [List.getElem?_map, hg]; rfl)
        have ct : cutV (L.map V.str) none (some (0 + (i : Int))) = (L.take i).map V.str := by rw [Int.zero_add, cut_to, List.map_take]
        refine ⟨rfl, _, rfl, _, rfl, fl, _, _, .str L[i], rfl, rfl, SqL.of hf3, hat, _, rfl, _, rfl, (0 + (i : Int)), rfl, fl, _, rfl, SqL.of hf3, fun q hq => ?_⟩
        have s4 := same_upd (o := .lst (cutV (L.map V.str) none (some (0 + (i : Int))))) hq
        have g4 : upd H3 q (.lst (cutV (L.map V.str) none (some (0 + (i : Int))))) q = some (.lst ((L.take i).map V.str)) := by rw [upd_same, ct]
        generalize upd H3 q (.lst (cutV (L.map V.str) none (some (0 + (i : Int))))) = H4 at s4 g4 ⊢
        refine ⟨q, _, rfl, .inl (SqL.of g4), rfl, flat_strs _, _, rfl, ?_⟩
        rw [if_pos rfl, inV_str]
        have e2 := once_snoc' (L.take i) L[i]
        rw [← take_snoc hg] at e2
        have hol := once_len _ (L.take i) rfl
        rw [List.length_take] at hol
        by_cases hm : L[i] ∈ L.take i
        · rw [if_pos hm] at e2
          rw [decide_eq_true hm]
          exact iteF ⟨Same.tr s3 s4, by rw [e2]; exact s4 _ _ hD3⟩
        · rw [if_neg hm] at e2
          rw [decide_eq_false hm]
          refine iteT ⟨_, rfl, _, rfl, fl, _, _, .str L[i], rfl, rfl, SqL.of (s4 _ _ hf3), hat, _, s4 _ _ hD3, by rw [List.length_map]; omega, fun z o h => by rw [upd_ne (ne_of_none h hD)]; exact s4 _ _ (s3 _ _ h), ?_⟩
          rw [upd_same, e2]
          exact snoc_str _ _
      · rintro H3 ⟨s3, hD3⟩
        have e : ((L.length : Int)).toNat = L.length := by omega
        rw [e, List.take_length] at hD3
        exact qq H3 D (Same.tr s2 s3) hD3
    | fn x ns e =>
      obtain ⟨_, t', nv, u, e1, ht', ⟨nq, rfl, hnq, hnl, _⟩, he⟩ := hd
      cases e1
      refine ⟨fun σ' H' => SU t a "fun" H [] σ' H', ?_, ?_⟩
      · exact ⟨_, rfl, rfl, _, rfl, iteNo (ev (b := "fun") (by decide +kernel)) ⟨X, _, _, _, _, rfl, s1, gX⟩⟩
      rintro σ' H1 ⟨X, y4, y5, y6, y7, rfl, s1, gX⟩
      refine ⟨fun σ' H' => SU t a "fun" H (usesAll (.fn x ns e) mk) σ' H', ?_, ?_⟩
      · refine ⟨_, rfl, rfl, _, rfl, iteYes (decide_eq_true rfl) ?_⟩
        refine ⟨_, rfl, t, _, 3, u, rfl, rfl, SqT.of (s1 _ _ ht'), rfl, _, rfl, t, _, 2, .ref nq, rfl, rfl, SqT.of (s1 _ _ ht'), rfl, nq, _, rfl, .inr (SqT.of (s1 _ _ hnq)), fun Y hY => ?_⟩
        have sy := same_upd (o := .lst (ns.map V.str)) hY
        have gY : upd H1 Y (.lst (ns.map V.str)) Y = some (.lst (ns.map V.str)) := upd_same
        generalize upd H1 Y (.lst (ns.map V.str)) = HY at sy gY ⊢
        have cY := Same.tr s1 sy
        refine ⟨_, rfl, u, e, Y, a, ns, mk, rfl, he.keep (TupK.of cY), gY, by omega, ha.same cY, fun H3 l s3 hl3 => ⟨l, _, _, _, _, rfl, Same.tr cY s3, ?_⟩⟩
        have eu : usesAll (.fn x ns e) mk = lu mk (ment 4 e ns) := by
          show [] ++ ([] ++ [] ++ mm (.fn x ns e) mk e) ++ [] = _
          simp [mm_lu, dPs]
        rw [eu]
        exact hl3
      rintro σ' H1 ⟨X, y4, y5, y6, y7, rfl, s1, gX⟩
      refine ⟨fun σ' H' => SU t a "fun" H (usesAll (.fn x ns e) mk) σ' H', ?_, ?_⟩
      · exact ⟨_, rfl, rfl, _, rfl, iteNo (ev (by decide +kernel)) ⟨X, _, _, _, _, rfl, s1, gX⟩⟩
      rintro σ' H1 ⟨X, y4, y5, y6, y7, rfl, s1, gX⟩
      refine ⟨fun σ' H' => SU t a "fun" H (usesAll (.fn x ns e) mk) σ' H', ?_, ?_⟩
      · exact ⟨_, rfl, rfl, _, rfl, iteNo (ev (by decide +kernel)) ⟨X, _, _, _, _, rfl, s1, gX⟩⟩
      rintro σ' H1 ⟨X, y4, y5, y6, y7, rfl, s1, gX⟩
      refine ⟨fun σ' H' => SU t a "fun" H (usesAll (.fn x ns e) mk) σ' H', ?_, ?_⟩
      · exact ⟨_, rfl, rfl, _, rfl, iteNo (ev (by decide +kernel)) ⟨X, _, _, _, _, rfl, s1, gX⟩⟩
      rintro σ' H2 ⟨fl, y4, y5, y6, y7, rfl, s2, hf⟩
      generalize usesAll (.fn x ns e) mk = L at hlen qq hf
      refine ⟨_, rfl, fl, _, rfl, .inl (SqL.of hf), _, rfl, by rw [List.length_map]; omega, by rw [List.length_map]; omega, fun D hD => ?_⟩
      rw [List.length_map]
      refine lc_range (lo := 0) (n := ((L.length : Int)).toNat) (fun i H' => Same H2 H' ∧ H' D = some (.lst ((once (L.take i)).map V.str))) ⟨same_upd hD, upd_same⟩ ?_ ?_
      · rintro i H3 hi ⟨s3, hD3⟩
        have hi2 : i < L.length := by omega
        have hf3 := s3 _ _ hf
        have hg := List.getElem?_eq_getElem hi2
        have hat : atI (L.map V.str) (0 + (i : Int)) = some (.str L[i]) := by rw [Int.zero_add]; exact atI_nat (by rw [List.getElem?_map, hg]; rfl)
        have ct : cutV (L.map V.str) none (some (0 + (i : Int))) = (L.take i).map V.str := by rw [Int.zero_add, cut_to, List.map_take]
        refine ⟨rfl, _, rfl, _, rfl, fl, _, _, .str L[i], rfl, rfl, SqL.of hf3, hat, _, rfl, _, rfl, (0 + (i : Int)), rfl, fl, _, rfl, SqL.of hf3, fun q hq => ?_⟩
        have s4 := same_upd (o := .lst (cutV (L.map V.str) none (some (0 + (i : Int))))) hq
        have g4 : upd H3 q (.lst (cutV (L.map V.str) none (some (0 + (i : Int))))) q = some (.lst ((L.take i).map V.str)) := by rw [upd_same, ct]
        generalize upd H3 q (.lst (cutV (L.map V.str) none (some (0 + (i : Int))))) = H4 at s4 g4 ⊢
        refine ⟨q, _, rfl, .inl (SqL.of g4), rfl, flat_strs _, _, rfl, ?_⟩
        rw [if_pos rfl, inV_str]
        have e2 := once_snoc' (L.take i) L[i]
        rw [← take_snoc hg] at e2
        have hol := once_len _ (L.take i) rfl
        rw [List.length_take] at hol
        by_cases hm : L[i] ∈ L.take i
        · rw [if_pos hm] at e2
          rw [decide_eq_true hm]
          exact iteF ⟨Same.tr s3 s4, by rw [e2]; exact s4 _ _ hD3⟩
        · rw [if_neg hm] at e2
          rw [decide_eq_false hm]
          refine iteT ⟨_, rfl, _, rfl, fl, _, _, .str L[i], rfl, rfl, SqL.of (s4 _ _ hf3), hat, _, s4 _ _ hD3, by rw [List.length_map]; omega, fun z o h => by rw [upd_ne (ne_of_none h hD)]; exact s4 _ _ (s3 _ _ h), ?_⟩
          rw [upd_same, e2]
          exact snoc_str _ _
      · rintro H3 ⟨s3, hD3⟩
        have e : ((L.length : Int)).toNat = L.length := by omega
        rw [e, List.take_length] at hD3
        exact qq H3 D (Same.tr s2 s3) hD3
    | view x e =>
      obtain ⟨_, t', u, e1, ht', he⟩ := hd
      cases e1
      refine ⟨fun σ' H' => SU t a "view" H [] σ' H', ?_, ?_⟩
      · exact ⟨_, rfl, rfl, _, rfl, iteNo (ev (b := "view") (by decide +kernel)) ⟨X, _, _, _, _, rfl, s1, gX⟩⟩
      rintro σ' H1 ⟨X, y4, y5, y6, y7, rfl, s1, gX⟩
      refine ⟨fun σ' H' => SU t a "view" H [] σ' H', ?_, ?_⟩
      · exact ⟨_, rfl, rfl, _, rfl, iteNo (ev (by decide +kernel)) ⟨X, _, _, _, _, rfl, s1, gX⟩⟩
      rintro σ' H1 ⟨X, y4, y5, y6, y7, rfl, s1, gX⟩
      refine ⟨fun σ' H' => SU t a "view" H (usesAll (.view x e) mk) σ' H', ?_, ?_⟩
      · refine ⟨_, rfl, rfl, _, rfl, iteYes (decide_eq_true rfl) ?_⟩
        refine ⟨_, rfl, t, _, 2, u, rfl, rfl, SqT.of (s1 _ _ ht'), rfl, Nat.zero_le _, fun Y hY => ?_⟩
        have sy := same_upd (o := .lst []) hY
        have gY : upd H1 Y (.lst []) Y = some (.lst ((([] : List Str)).map V.str)) := upd_same
        generalize upd H1 Y (.lst []) = HY at sy gY ⊢
        have cY := Same.tr s1 sy
        refine ⟨_, rfl, u, e, Y, a, [], mk, rfl, he.keep (TupK.of cY), gY, by show 0 + _ ≤ _; omega, ha.same cY, fun H3 l s3 hl3 => ⟨l, _, _, _, _, rfl, Same.tr cY s3, ?_⟩⟩
        have eu : usesAll (.view x e) mk = lu mk (ment 4 e []) := by
          show [] ++ ([] ++ [] ++ mm (.view x e) mk e) ++ [] = _
          simp [mm_lu, dPs]
        rw [eu]
        exact hl3
      rintro σ' H1 ⟨X, y4, y5, y6, y7, rfl, s1, gX⟩
      refine ⟨fun σ' H' => SU t a "view" H (usesAll (.view x e) mk) σ' H', ?_, ?_⟩
      · exact ⟨_, rfl, rfl, _, rfl, iteNo (ev (by decide +kernel)) ⟨X, _, _, _, _, rfl, s1, gX⟩⟩
      rintro σ' H1 ⟨X, y4, y5, y6, y7, rfl, s1, gX⟩
      refine ⟨fun σ' H' => SU t a "view" H (usesAll (.view x e) mk) σ' H', ?_, ?_⟩
      · exact ⟨_, rfl, rfl, _, rfl, iteNo (ev (by decide +kernel)) ⟨X, _, _, _, _, rfl, s1, gX⟩⟩
      rintro σ' H2 ⟨fl, y4, y5, y6, y7, rfl, s2, hf⟩
      generalize usesAll (.view x e) mk = L at hlen qq hf
      refine ⟨_, rfl, fl, _, rfl, .inl (SqL.of hf), _, rfl, by rw [List.length_map]; omega, by rw [List.length_map]; omega, fun D hD => ?_⟩
      rw [List.length_map]
      refine lc_range (lo := 0) (n := ((L.length : Int)).toNat) (fun i H' => Same H2 H' ∧ H' D = some (.lst ((once (L.take i)).map V.str))) ⟨same_upd hD, upd_same⟩ ?_ ?_
      · rintro i H3 hi ⟨s3, hD3⟩
        have hi2 : i < L.length := by omega
        have hf3 := s3 _ _ hf
        have hg := List.getElem?_eq_getElem hi2
        have hat : atI (L.map V.str) (0 + (i : Int)) = some (.str L[i]) := by rw [Int.zero_add]; exact atI_nat (by rw [List.getElem?_map, hg]; rfl)
        have ct : cutV (L.map V.str) none (some (0 + (i : Int))) = (L.take i).map V.str := by rw [Int.zero_add, cut_to, List.map_take]
        refine ⟨rfl, _, rfl, _, rfl, fl, _, _, .str L[i], rfl, rfl, SqL.of hf3, hat, _, rfl, _, rfl, (0 + (i : Int)), rfl, fl, _, rfl, SqL.of hf3, fun q hq => ?_⟩
        have s4 := same_upd (o := .lst (cutV (L.map V.str) none (some (0 + (i : Int))))) hq
        have g4 : upd H3 q (.lst (cutV (L.map V.str) none (some (0 + (i : Int))))) q = some (.lst ((L.take i).map V.str)) := by rw [upd_same, ct]
        generalize upd H3 q (.lst (cutV (L.map V.str) none (some (0 + (i : Int))))) = H4 at s4 g4 ⊢
        refine ⟨q, _, rfl, .inl (SqL.of g4), rfl, flat_strs _, _, rfl, ?_⟩
        rw [if_pos rfl, inV_str]
        have e2 := once_snoc' (L.take i) L[i]
        rw [← take_snoc hg] at e2
        have hol := once_len _ (L.take i) rfl
        rw [List.length_take] at hol
        by_cases hm : L[i] ∈ L.take i
        · rw [if_pos hm] at e2
          rw [decide_eq_true hm]
          exact iteF ⟨Same.tr s3 s4, by rw [e2]; exact s4 _ _ hD3⟩
        · rw [if_neg hm] at e2
          rw [decide_eq_false hm]
          refine iteT ⟨_, rfl, _, rfl, fl, _, _, .str L[i], rfl, rfl, SqL.of (s4 _ _ hf3), hat, _, s4 _ _ hD3, by rw [List.length_map]; omega, fun z o h => by rw [upd_ne (ne_of_none h hD)]; exact s4 _ _ (s3 _ _ h), ?_⟩
          rw [upd_same, e2]
          exact snoc_str _ _
      · rintro H3 ⟨s3, hD3⟩
        have e : ((L.length : Int)).toNat = L.length := by omega
        rw [e, List.take_length] at hD3
        exact qq H3 D (Same.tr s2 s3) hD3
    | cell x kd e tv =>
      obtain ⟨_, _, t', kv, u, e1, ht', hk, he⟩ := hd
      cases e1
      refine ⟨fun σ' H' => SU t a "cell" H [] σ' H', ?_, ?_⟩
      · exact ⟨_, rfl, rfl, _, rfl, iteNo (ev (b := "cell") (by decide +kernel)) ⟨X, _, _, _, _, rfl, s1, gX⟩⟩
      rintro σ' H1 ⟨X, y4, y5, y6, y7, rfl, s1, gX⟩
      refine ⟨fun σ' H' => SU t a "cell" H [] σ' H', ?_, ?_⟩
      · exact ⟨_, rfl, rfl, _, rfl, iteNo (ev (by decide +kernel)) ⟨X, _, _, _, _, rfl, s1, gX⟩⟩
      rintro σ' H1 ⟨X, y4, y5, y6, y7, rfl, s1, gX⟩
      refine ⟨fun σ' H' => SU t a "cell" H [] σ' H', ?_, ?_⟩
      · exact ⟨_, rfl, rfl, _, rfl, iteNo (ev (by decide +kernel)) ⟨X, _, _, _, _, rfl, s1, gX⟩⟩
      rintro σ' H1 ⟨X, y4, y5, y6, y7, rfl, s1, gX⟩
      refine ⟨fun σ' H' => SU t a "cell" H (usesAll (.cell x kd e tv) mk) σ' H', ?_, ?_⟩
      · refine ⟨_, rfl, rfl, _, rfl, iteYes (decide_eq_true rfl) ?_⟩
        refine ⟨_, rfl, t, _, 2, kv, rfl, rfl, SqT.of (s1 _ _ ht'), rfl, by show 1 ≤ sizeLine; decide, fun Y hY => ?_⟩
        have sy := same_upd (o := .lst [kv]) hY
        have gY : upd H1 Y (.lst [kv]) Y = some (.lst [kv]) := upd_same
        generalize upd H1 Y (.lst [kv]) = HY at sy gY ⊢
        have cY := Same.tr s1 sy
        refine ⟨Y, [kv], [kd], rfl, .inl gY, .one (hk.keep (TupK.of cY)), by show 1 ≤ 4; decide, fun H3 l3 s3 hl3 => ?_⟩
        have c3 := Same.tr cY s3
        refine ⟨_, rfl, t, _, 3, u, rfl, rfl, SqT.of (c3 _ _ ht'), rfl, Nat.zero_le _, fun W hW => ?_⟩
        have sw := same_upd (o := .lst []) hW
        have gW : upd H3 W (.lst []) W = some (.lst ((([] : List Str)).map V.str)) := upd_same
        generalize upd H3 W (.lst []) = HW at sw gW ⊢
        have cW := Same.tr c3 sw
        refine ⟨_, rfl, u, e, W, a, [], mk, rfl, he.keep (TupK.of cW), gW, by show 0 + _ ≤ _; omega, ha.same cW, fun H4 l4 s4 hl4 => ?_⟩
        have hdl := dataL_len [kd]
        have hml := mm_len (d := .cell x kd e tv) (mk := mk) he
        have hml : (lu mk (ment 4 e [])).length ≤ 340 := hml
        have hdl : (dataL [kd]).length ≤ 1 := hdl
        refine ⟨l3, l4, _, _, rfl, rfl, s4 _ _ (sw _ _ hl3), hl4, by rw [List.length_map, List.length_map]; omega, fun p hp => ?_⟩
        have s5 := same_upd (o := .lst ((dataL [kd]).map V.str ++ (lu mk (ment 4 e [])).map V.str)) hp
        have g5 : upd H4 p (.lst ((dataL [kd]).map V.str ++ (lu mk (ment 4 e [])).map V.str)) p = some (.lst ((dataL [kd] ++ lu mk (ment 4 e [])).map V.str)) := by rw [upd_same]; exact app_str _ _
        generalize upd H4 p (.lst ((dataL [kd]).map V.str ++ (lu mk (ment 4 e [])).map V.str)) = H5 at s5 g5 ⊢
        have c5 := Same.tr cW (Same.tr s4 s5)
        have eu : usesAll (.cell x kd e tv) mk = dataL [kd] ++ lu mk (ment 4 e []) ++ turnL (.cell x kd e tv) := by
          show dataL [kd] ++ ([] ++ [] ++ mm (.cell x kd e tv) mk e) ++ _ = _
          simp [mm_lu, dPs]
        refine ⟨_, rfl, _, rfl, t, _, 4, tvV tv, rfl, rfl, SqT.of (c5 _ _ ht'), rfl, by show 1 ≤ sizeLine; decide, fun B hB => ?_⟩
        have s6 := same_upd (o := .lst [tvV tv]) hB
        have g6 : upd H5 B (.lst [tvV tv]) B = some (.lst [tvV tv]) := upd_same
        generalize upd H5 B (.lst [tvV tv]) = H6 at s6 g6 ⊢
        have c6 := Same.tr c5 s6
        refine ⟨_, rfl, t, _, 4, tvV tv, rfl, rfl, SqT.of (c6 _ _ ht'), rfl, ?_⟩
        have fin : ∀ (j : Int) (l : List Str), (List.replicate j.toNat [tvV tv]).flatten = l.map V.str → turnL (.cell x kd e tv) = l → l.length ≤ 1 → ∀ (p2 : Addr), H6 p2 = none → ∀ Q' : VK, (∀ (q3 : Addr), upd H6 p2 (.lst (List.replicate j.toNat [tvV tv]).flatten) q3 = none → Q' (.ref q3) (upd (upd H6 p2 (.lst (List.replicate j.toNat [tvV tv]).flatten)) q3 (.lst ((dataL [kd] ++ lu mk (ment 4 e [])).map V.str ++ l.map V.str)))) → rCat (.ref p) (.ref p2) (upd H6 p2 (.lst (List.replicate j.toNat [tvV tv]).flatten)) Q' := fun j l e1 e2 hl1 p2 hp2 Q' q' => by
          refine ⟨p, p2, _, _, rfl, rfl, same_upd hp2 _ _ (s6 _ _ g5), upd_same, ?_, fun q3 hq3 => ?_⟩
          · rw [e1]; simp only [List.length_map, List.length_append]; omega
          · have := q' q3 hq3
            rw [e1] at this ⊢
            exact this
        cases tv with
        | none =>
          refine .inr ⟨_, rfl, B, _, _, rfl, rfl, g6, by decide, by decide, by show 1 * _ ≤ _; decide, fun p2 hp2 => ?_⟩
          refine fin 0 [] rfl rfl (Nat.zero_le _) p2 hp2 _ fun q3 hq3 => ⟨q3, _, _, _, _, rfl, Same.tr c6 (Same.tr (same_upd hp2) (same_upd hq3)), ?_⟩
          rw [upd_same, eu]
          exact app_str _ _
        | some y =>
          refine .inr ⟨_, rfl, B, _, _, rfl, rfl, g6, by show (-(2 ^ 63) : Int) ≤ 1; decide, by show (1 : Int) < 2 ^ 63; decide, by show 1 * (1 : Int).toNat ≤ _; decide, fun p2 hp2 => ?_⟩
          refine fin 1 [y] rfl rfl (Nat.le_refl _) p2 hp2 _ fun q3 hq3 => ⟨q3, _, _, _, _, rfl, Same.tr c6 (Same.tr (same_upd hp2) (same_upd hq3)), ?_⟩
          rw [upd_same, eu]
          exact app_str _ _
      rintro σ' H1 ⟨X, y4, y5, y6, y7, rfl, s1, gX⟩
      refine ⟨fun σ' H' => SU t a "cell" H (usesAll (.cell x kd e tv) mk) σ' H', ?_, ?_⟩
      · exact ⟨_, rfl, rfl, _, rfl, iteNo (ev (by decide +kernel)) ⟨X, _, _, _, _, rfl, s1, gX⟩⟩
      rintro σ' H2 ⟨fl, y4, y5, y6, y7, rfl, s2, hf⟩
      generalize usesAll (.cell x kd e tv) mk = L at hlen qq hf
      refine ⟨_, rfl, fl, _, rfl, .inl (SqL.of hf), _, rfl, by rw [List.length_map]; omega, by rw [List.length_map]; omega, fun D hD => ?_⟩
      rw [List.length_map]
      refine lc_range (lo := 0) (n := ((L.length : Int)).toNat) (fun i H' => Same H2 H' ∧ H' D = some (.lst ((once (L.take i)).map V.str))) ⟨same_upd hD, upd_same⟩ ?_ ?_
      · rintro i H3 hi ⟨s3, hD3⟩
        have hi2 : i < L.length := by omega
        have hf3 := s3 _ _ hf
        have hg := List.getElem?_eq_getElem hi2
        have hat : atI (L.map V.str) (0 + (i : Int)) = some (.str L[i]) := by rw [Int.zero_add]; exact atI_nat (by rw [List.getElem?_map, hg]; rfl)
        have ct : cutV (L.map V.str) none (some (0 + (i : Int))) = (L.take i).map V.str := by rw [Int.zero_add, cut_to, List.map_take]
        refine ⟨rfl, _, rfl, _, rfl, fl, _, _, .str L[i], rfl, rfl, SqL.of hf3, hat, _, rfl, _, rfl, (0 + (i : Int)), rfl, fl, _, rfl, SqL.of hf3, fun q hq => ?_⟩
        have s4 := same_upd (o := .lst (cutV (L.map V.str) none (some (0 + (i : Int))))) hq
        have g4 : upd H3 q (.lst (cutV (L.map V.str) none (some (0 + (i : Int))))) q = some (.lst ((L.take i).map V.str)) := by rw [upd_same, ct]
        generalize upd H3 q (.lst (cutV (L.map V.str) none (some (0 + (i : Int))))) = H4 at s4 g4 ⊢
        refine ⟨q, _, rfl, .inl (SqL.of g4), rfl, flat_strs _, _, rfl, ?_⟩
        rw [if_pos rfl, inV_str]
        have e2 := once_snoc' (L.take i) L[i]
        rw [← take_snoc hg] at e2
        have hol := once_len _ (L.take i) rfl
        rw [List.length_take] at hol
        by_cases hm : L[i] ∈ L.take i
        · rw [if_pos hm] at e2
          rw [decide_eq_true hm]
          exact iteF ⟨Same.tr s3 s4, by rw [e2]; exact s4 _ _ hD3⟩
        · rw [if_neg hm] at e2
          rw [decide_eq_false hm]
          refine iteT ⟨_, rfl, _, rfl, fl, _, _, .str L[i], rfl, rfl, SqL.of (s4 _ _ hf3), hat, _, s4 _ _ hD3, by rw [List.length_map]; omega, fun z o h => by rw [upd_ne (ne_of_none h hD)]; exact s4 _ _ (s3 _ _ h), ?_⟩
          rw [upd_same, e2]
          exact snoc_str _ _
      · rintro H3 ⟨s3, hD3⟩
        have e : ((L.length : Int)).toNat = L.length := by omega
        rw [e, List.take_length] at hD3
        exact qq H3 D (Same.tr s2 s3) hD3
    | act x ns sets e =>
      obtain ⟨_, t', nv, q, us, u, e1, ht', ⟨nq, rfl, hnq, hnl, _⟩, hq, hl, hm, he⟩ := hd
      cases e1
      refine ⟨fun σ' H' => SU t a "act" H [] σ' H', ?_, ?_⟩
      · exact ⟨_, rfl, rfl, _, rfl, iteNo (ev (b := "act") (by decide +kernel)) ⟨X, _, _, _, _, rfl, s1, gX⟩⟩
      rintro σ' H1 ⟨X, y4, y5, y6, y7, rfl, s1, gX⟩
      refine ⟨fun σ' H' => SU t a "act" H [] σ' H', ?_, ?_⟩
      · exact ⟨_, rfl, rfl, _, rfl, iteNo (ev (by decide +kernel)) ⟨X, _, _, _, _, rfl, s1, gX⟩⟩
      rintro σ' H1 ⟨X, y4, y5, y6, y7, rfl, s1, gX⟩
      refine ⟨fun σ' H' => SU t a "act" H [] σ' H', ?_, ?_⟩
      · exact ⟨_, rfl, rfl, _, rfl, iteNo (ev (by decide +kernel)) ⟨X, _, _, _, _, rfl, s1, gX⟩⟩
      rintro σ' H1 ⟨X, y4, y5, y6, y7, rfl, s1, gX⟩
      refine ⟨fun σ' H' => SU t a "act" H [] σ' H', ?_, ?_⟩
      · exact ⟨_, rfl, rfl, _, rfl, iteNo (ev (by decide +kernel)) ⟨X, _, _, _, _, rfl, s1, gX⟩⟩
      rintro σ' H1 ⟨X, y4, y5, y6, y7, rfl, s1, gX⟩
      refine ⟨fun σ' H' => SU t a "act" H (usesAll (.act x ns sets e) mk) σ' H', ?_, ?_⟩
      · refine ⟨_, rfl, rfl, _, rfl, iteYes (decide_eq_true rfl) ?_⟩
        refine ⟨_, rfl, t, _, 3, .ref q, rfl, rfl, SqT.of (s1 _ _ ht'), rfl, q, rfl, ⟨us, SqT.of (s1 _ _ hq)⟩, ?_⟩
        have hml := hm.len
        let seg : Str × Ex → List Str := fun m => m.1 :: lu mk (ment 4 m.2 ns)
        refine for_it walk_tup (fun i σ H' => ∃ (fl : Addr) (y6 y7 : Option V), σ = [some (.ref t), some (.ref a), some (.str "act"), some (.ref fl), y4, y5, y6, y7, none] ∧ Same H H' ∧ H' fl = some (.lst ((((sets.take i).map seg).flatten).map V.str)) ∧ (((sets.take i).map seg).flatten).length ≤ 341 * i) ⟨X, _, _, rfl, s1, gX, Nat.le_refl _⟩ (fun i σ H' _ ⟨_, _, _, _, s, _⟩ => SqT.of (s _ _ hq)) ?_ ?_
        · rintro i y σ H2z H2 hi ⟨fl, y6, y7, rfl, s2, hf, hfl⟩ ⟨rfl, hy⟩
          obtain ⟨m, hm', b, b', rfl, hb, hlo, hee⟩ := hm.get hy
          have hi2 : i < 2 := by have : i < us.length := hi; omega
          have hml2 := mm_len (d := .act x ns sets e) (mk := mk) hee
          have hml2 : (lu mk (ment 4 m.2 ns)).length ≤ 340 := hml2
          refine ⟨b, _, rfl, SqT.of (s2 _ _ hb), rfl, _, _, rfl, _, _, rfl, rfl, ?_⟩
          refine ⟨_, rfl, _, rfl, by show 1 ≤ sizeLine; decide, fun C hC => ?_⟩
          have s3 := same_upd (o := .lst [.str m.1]) hC
          have g3 : upd H2 C (.lst [.str m.1]) C = some (.lst ((([m.1]) : List Str).map V.str)) := upd_same
          generalize upd H2 C (.lst [.str m.1]) = H3 at s3 g3 ⊢
          refine ⟨fl, C, _, _, rfl, rfl, s3 _ _ hf, g3, by simp only [List.length_map, List.length_cons, List.length_nil]; omega, fun D hD => ?_⟩
          have s4 := same_upd (o := .lst ((((sets.take i).map seg).flatten).map V.str ++ (([m.1]) : List Str).map V.str)) hD
          have g4 : upd H3 D (.lst ((((sets.take i).map seg).flatten).map V.str ++ (([m.1]) : List Str).map V.str)) D = some (.lst ((((sets.take i).map seg).flatten ++ [m.1]).map V.str)) := by rw [upd_same]; exact app_str _ _
          generalize upd H3 D (.lst ((((sets.take i).map seg).flatten).map V.str ++ (([m.1]) : List Str).map V.str)) = H4 at s4 g4 ⊢
          have c4 := Same.tr s2 (Same.tr s3 s4)
          refine ⟨_, rfl, _, rfl, t, _, 2, .ref nq, rfl, rfl, SqT.of (c4 _ _ ht'), rfl, nq, _, rfl, .inr (SqT.of (c4 _ _ hnq)), fun Y hY => ?_⟩
          have sy := same_upd (o := .lst (ns.map V.str)) hY
          have gY : upd H4 Y (.lst (ns.map V.str)) Y = some (.lst (ns.map V.str)) := upd_same
          generalize upd H4 Y (.lst (ns.map V.str)) = HY at sy gY ⊢
          have cY := Same.tr c4 sy
          refine ⟨_, rfl, b', m.2, Y, a, ns, mk, rfl, hee.keep (TupK.of cY), gY, by omega, ha.same cY, fun H5 l s5 hl5 => ?_⟩
          refine ⟨D, l, _, _, rfl, rfl, s5 _ _ (sy _ _ g4), hl5, by simp only [List.length_map, List.length_append, List.length_cons, List.length_nil]; omega, fun p hp => ?_⟩
          have e2 : ((sets.take (i + 1)).map seg).flatten = ((sets.take i).map seg).flatten ++ [m.1] ++ lu mk (ment 4 m.2 ns) := by
            rw [take_snoc hm', List.map_append, List.flatten_append, List.append_assoc]
            show _ ++ (seg m ++ []) = _
            rw [List.append_nil]
            rfl
          refine ⟨p, _, _, rfl, Same.tr cY (Same.tr s5 (same_upd hp)), by rw [upd_same, e2]; exact app_str _ _, by rw [e2]; simp only [List.length_append, List.length_cons, List.length_nil]; omega⟩
        · rintro σ H2 ⟨fl, y6, y7, rfl, s2, hf, hfl⟩
          rw [hml, List.take_length] at hf hfl
          have hml2 := mm_len (d := .act x ns sets e) (mk := mk) he
          have hml2 : (lu mk (ment 4 e ns)).length ≤ 340 := hml2
          have h2 : sets.length ≤ 2 := by omega
          refine ⟨_, rfl, _, rfl, t, _, 4, u, rfl, rfl, SqT.of (s2 _ _ ht'), rfl, _, rfl, t, _, 2, .ref nq, rfl, rfl, SqT.of (s2 _ _ ht'), rfl, nq, _, rfl, .inr (SqT.of (s2 _ _ hnq)), fun Y hY => ?_⟩
          have sy := same_upd (o := .lst (ns.map V.str)) hY
          have gY : upd H2 Y (.lst (ns.map V.str)) Y = some (.lst (ns.map V.str)) := upd_same
          generalize upd H2 Y (.lst (ns.map V.str)) = HY at sy gY ⊢
          have cY := Same.tr s2 sy
          refine ⟨_, rfl, u, e, Y, a, ns, mk, rfl, he.keep (TupK.of cY), gY, by omega, ha.same cY, fun H5 l s5 hl5 => ?_⟩
          refine ⟨fl, l, _, _, rfl, rfl, s5 _ _ (sy _ _ hf), hl5, by simp only [List.length_map]; omega, fun p hp => ?_⟩
          refine ⟨p, _, _, _, _, rfl, Same.tr cY (Same.tr s5 (same_upd hp)), ?_⟩
          rw [upd_same, act_all]
          exact app_str _ _
      rintro σ' H2 ⟨fl, y4, y5, y6, y7, rfl, s2, hf⟩
      generalize usesAll (.act x ns sets e) mk = L at hlen qq hf
      refine ⟨_, rfl, fl, _, rfl, .inl (SqL.of hf), _, rfl, by rw [List.length_map]; omega, by rw [List.length_map]; omega, fun D hD => ?_⟩
      rw [List.length_map]
      refine lc_range (lo := 0) (n := ((L.length : Int)).toNat) (fun i H' => Same H2 H' ∧ H' D = some (.lst ((once (L.take i)).map V.str))) ⟨same_upd hD, upd_same⟩ ?_ ?_
      · rintro i H3 hi ⟨s3, hD3⟩
        have hi2 : i < L.length := by omega
        have hf3 := s3 _ _ hf
        have hg := List.getElem?_eq_getElem hi2
        have hat : atI (L.map V.str) (0 + (i : Int)) = some (.str L[i]) := by rw [Int.zero_add]; exact atI_nat (by rw [List.getElem?_map, hg]; rfl)
        have ct : cutV (L.map V.str) none (some (0 + (i : Int))) = (L.take i).map V.str := by rw [Int.zero_add, cut_to, List.map_take]
        refine ⟨rfl, _, rfl, _, rfl, fl, _, _, .str L[i], rfl, rfl, SqL.of hf3, hat, _, rfl, _, rfl, (0 + (i : Int)), rfl, fl, _, rfl, SqL.of hf3, fun q hq => ?_⟩
        have s4 := same_upd (o := .lst (cutV (L.map V.str) none (some (0 + (i : Int))))) hq
        have g4 : upd H3 q (.lst (cutV (L.map V.str) none (some (0 + (i : Int))))) q = some (.lst ((L.take i).map V.str)) := by rw [upd_same, ct]
        generalize upd H3 q (.lst (cutV (L.map V.str) none (some (0 + (i : Int))))) = H4 at s4 g4 ⊢
        refine ⟨q, _, rfl, .inl (SqL.of g4), rfl, flat_strs _, _, rfl, ?_⟩
        rw [if_pos rfl, inV_str]
        have e2 := once_snoc' (L.take i) L[i]
        rw [← take_snoc hg] at e2
        have hol := once_len _ (L.take i) rfl
        rw [List.length_take] at hol
        by_cases hm : L[i] ∈ L.take i
        · rw [if_pos hm] at e2
          rw [decide_eq_true hm]
          exact iteF ⟨Same.tr s3 s4, by rw [e2]; exact s4 _ _ hD3⟩
        · rw [if_neg hm] at e2
          rw [decide_eq_false hm]
          refine iteT ⟨_, rfl, _, rfl, fl, _, _, .str L[i], rfl, rfl, SqL.of (s4 _ _ hf3), hat, _, s4 _ _ hD3, by rw [List.length_map]; omega, fun z o h => by rw [upd_ne (ne_of_none h hD)]; exact s4 _ _ (s3 _ _ h), ?_⟩
          rw [upd_same, e2]
          exact snoc_str _ _
      · rintro H3 ⟨s3, hD3⟩
        have e : ((L.length : Int)).toNat = L.length := by omega
        rw [e, List.take_length] at hD3
        exact qq H3 D (Same.tr s2 s3) hD3
end
end Q11
namespace Q11
open PySem PySem.Spec PyProof.Rows L2 SX HL
/-! ### what is drawn -/
/-- all but p stays, new objects may come -/
def Bt (H H' : Hp) (p : Addr) : Prop := ∀ z o, H z = some o → z ≠ p → H' z = some o
theorem Bt.of {H H' : Hp} {p : Addr} (b : But H H' p) : Bt H H' p := fun z o h n => (b z n).trans h
theorem Bt.refl {H : Hp} {p : Addr} : Bt H H p := fun _ _ h _ => h
theorem Bt.tr {H H1 H2 : Hp} {p : Addr} (a : Bt H H1 p) (b : Bt H1 H2 p) : Bt H H2 p := fun z o h n => b z o (a z o h n) n
theorem Bt.same {H H' : Hp} {p : Addr} (s : Same H H') : Bt H H' p := fun z o h _ => s z o h
theorem StN.tk {H H' : Hp} {p q : Addr} {ds : List Int} (S : StN H p q ds) (b : Bt H H' p) : TupK H H' := fun a us h => b _ _ h fun e => by
  obtain ⟨_, _, i, _, h2⟩ := S
  rw [e, h2] at h
  cases h
theorem Bt.tk {H H' : Hp} {p q : Addr} {ds : List Int} (b : Bt H H' p) (S : StN H p q ds) : TupK H H' := S.tk b
theorem StN.sm {H H' : Hp} {p q : Addr} {ds : List Int} (S : StN H p q ds) (s : Same H H') : StN H' p q ds := by
  obtain ⟨h1, h3, i, h0, h2⟩ := S
  exact ⟨s _ _ h1, h3, i, h0, s _ _ h2⟩
theorem StN.nn {H : Hp} {p q a : Addr} {ds : List Int} (S : StN H p q ds) (h : H a = none) : a ≠ p := fun e => by
  obtain ⟨_, _, i, _, h2⟩ := S
  rw [e, h2] at h
  cases h
/-- another list changes -/
theorem StN.lst {H : Hp} {p q A : Addr} {ds : List Int} {o : HO} (S : StN H p q ds) (n1 : A ≠ p) (n2 : A ≠ q) : StN (L2.upd H A o) p q ds := by
  obtain ⟨h1, h3, i, h0, h2⟩ := S
  exact ⟨by rw [upd_ne (fun e => n2 e.symm)]; exact h1, h3, i, h0, by rw [upd_ne (fun e => n1 e.symm)]; exact h2⟩
theorem pick_str {ls : List Str} {v : Int} (h0 : 0 ≤ v) (h1 : v < (ls.length : Int)) : ∃ l, l ∈ ls ∧ atI (ls.map V.str) v = some (.str l) := by
  obtain ⟨i, rfl⟩ := Int.eq_ofNat_of_zero_le h0
  have hi : i < ls.length := by omega
  exact ⟨ls[i], List.getElem_mem hi, atI_nat (by rw [List.getElem?_map, List.getElem?_eq_getElem hi]; rfl)⟩
def KdP (H : Hp) (v : V) : Prop := ∃ k, KdAt H v k
theorem KdP.keep {H H' : Hp} {v : V} (h : KdP H v) (k : TupK H H') : KdP H' v := by
  obtain ⟨d, h⟩ := h
  exact ⟨d, h.keep k⟩
def KdsP (H : Hp) (v : V) : Prop := ∃ ks, KdsAt H v ks
theorem KdsP.keep {H H' : Hp} {v : V} (h : KdsP H v) (k : TupK H H') : KdsP H' v := by
  obtain ⟨d, h⟩ := h
  exact ⟨d, h.keep k⟩
def MkP (H : Hp) (v : V) : Prop := ∃ m, MkAt H v m
theorem MkP.keep {H H' : Hp} {v : V} (h : MkP H v) (k : TupK H H') : MkP H' v := by
  obtain ⟨d, h⟩ := h
  exact ⟨d, h.keep k⟩
theorem KdP.mk {H : Hp} {t : Addr} {l : Nat} {b : Str} (h : H t = some (.tup [vi l, .str b])) (hb : b ∈ BASES) : KdP H (.ref t) := ⟨(l, b), hb, t, rfl, h⟩
theorem KdP.get {H : Hp} {v : V} (h : KdP H v) : ∃ t l b, v = .ref t ∧ H t = some (.tup [vi l, .str b]) ∧ b ∈ BASES := by
  obtain ⟨⟨l, b⟩, hb, t, e, ht⟩ := h
  exact ⟨t, l, b, e, ht, hb⟩
section
variable {P : Program} {w : World} {K : PySem.W.Frag} {mg : Str → Option Value} {base : Heap}
def spLKinds : Sp := fun vs H Q _ => vs = [] ∧ ∀ H' l us, Same H H' → H l = none → H' l = some (.lst us) → us.length = 9 → (∀ u ∈ us, KdP H' u) → Q (.ref l) H'
theorem ok_lkinds {k : Nat} (Z : Defs K mg) : FnOk P w K mg base CX0 (k + 1) Z.fLawKinds Z.fdLawKinds [] spLKinds := by
  refine Z.DLawKinds.F.ok scLawKinds (fun vs H Q E h => ?_) (fun cdv A outer s H vs Q E hr h => ?_)
  · obtain ⟨rfl, _⟩ := h
    rfl
  · obtain ⟨rfl, qq⟩ := h
    refine ⟨_, (pss_one (ps_ret (pe_lst (pa_cons (pe_tup (pa_cons pe_int (pa_cons pe_str pa_nil))) (pa_cons (pe_tup (pa_cons pe_int (pa_cons pe_str pa_nil))) (pa_cons (pe_tup (pa_cons pe_int (pa_cons pe_str pa_nil))) (pa_cons (pe_tup (pa_cons pe_int (pa_cons pe_str pa_nil))) (pa_cons (pe_tup (pa_cons pe_int (pa_cons pe_str pa_nil))) (pa_cons (pe_tup (pa_cons pe_int (pa_cons pe_str pa_nil))) (pa_cons (pe_tup (pa_cons pe_int (pa_cons pe_str pa_nil))) (pa_cons (pe_tup (pa_cons pe_int (pa_cons pe_str pa_nil))) (pa_cons (pe_tup (pa_cons pe_int (pa_cons pe_str pa_nil))) pa_nil)))))))))))), ?_⟩
    refine ⟨by show 2 ≤ sizeLine; decide, fun X0 hX0 => ?_⟩
    have s0 := same_upd (o := (.tup [.int 0, .str "num"])) hX0
    have gX0 : upd H X0 (.tup [.int 0, .str "num"]) X0 = some (.tup [vi 0, .str "num"]) := upd_same
    generalize upd H X0 (.tup [.int 0, .str "num"]) = A0 at s0 gX0 ⊢
    refine ⟨by show 2 ≤ sizeLine; decide, fun X1 hX1 => ?_⟩
    have s1 := same_upd (o := (.tup [.int 0, .str "text"])) hX1
    have gX1 : upd A0 X1 (.tup [.int 0, .str "text"]) X1 = some (.tup [vi 0, .str "text"]) := upd_same
    generalize upd A0 X1 (.tup [.int 0, .str "text"]) = A1 at s1 gX1 ⊢
    refine ⟨by show 2 ≤ sizeLine; decide, fun X2 hX2 => ?_⟩
    have s2 := same_upd (o := (.tup [.int 0, .str "bool"])) hX2
    have gX2 : upd A1 X2 (.tup [.int 0, .str "bool"]) X2 = some (.tup [vi 0, .str "bool"]) := upd_same
    generalize upd A1 X2 (.tup [.int 0, .str "bool"]) = A2 at s2 gX2 ⊢
    refine ⟨by show 2 ≤ sizeLine; decide, fun X3 hX3 => ?_⟩
    have s3 := same_upd (o := (.tup [.int 1, .str "num"])) hX3
    have gX3 : upd A2 X3 (.tup [.int 1, .str "num"]) X3 = some (.tup [vi 1, .str "num"]) := upd_same
    generalize upd A2 X3 (.tup [.int 1, .str "num"]) = A3 at s3 gX3 ⊢
    refine ⟨by show 2 ≤ sizeLine; decide, fun X4 hX4 => ?_⟩
    have s4 := same_upd (o := (.tup [.int 1, .str "text"])) hX4
    have gX4 : upd A3 X4 (.tup [.int 1, .str "text"]) X4 = some (.tup [vi 1, .str "text"]) := upd_same
    generalize upd A3 X4 (.tup [.int 1, .str "text"]) = A4 at s4 gX4 ⊢
    refine ⟨by show 2 ≤ sizeLine; decide, fun X5 hX5 => ?_⟩
    have s5 := same_upd (o := (.tup [.int 0, .str "d"])) hX5
    have gX5 : upd A4 X5 (.tup [.int 0, .str "d"]) X5 = some (.tup [vi 0, .str "d"]) := upd_same
    generalize upd A4 X5 (.tup [.int 0, .str "d"]) = A5 at s5 gX5 ⊢
    refine ⟨by show 2 ≤ sizeLine; decide, fun X6 hX6 => ?_⟩
    have s6 := same_upd (o := (.tup [.int 1, .str "d"])) hX6
    have gX6 : upd A5 X6 (.tup [.int 1, .str "d"]) X6 = some (.tup [vi 1, .str "d"]) := upd_same
    generalize upd A5 X6 (.tup [.int 1, .str "d"]) = A6 at s6 gX6 ⊢
    refine ⟨by show 2 ≤ sizeLine; decide, fun X7 hX7 => ?_⟩
    have s7 := same_upd (o := (.tup [.int 0, .str "e"])) hX7
    have gX7 : upd A6 X7 (.tup [.int 0, .str "e"]) X7 = some (.tup [vi 0, .str "e"]) := upd_same
    generalize upd A6 X7 (.tup [.int 0, .str "e"]) = A7 at s7 gX7 ⊢
    refine ⟨by show 2 ≤ sizeLine; decide, fun X8 hX8 => ?_⟩
    have s8 := same_upd (o := (.tup [.int 2, .str "num"])) hX8
    have gX8 : upd A7 X8 (.tup [.int 2, .str "num"]) X8 = some (.tup [vi 2, .str "num"]) := upd_same
    generalize upd A7 X8 (.tup [.int 2, .str "num"]) = A8 at s8 gX8 ⊢
    refine ⟨by show 9 ≤ sizeLine; decide, fun L hL => ?_⟩
    have s9 := same_upd (o := .lst [.ref X0, .ref X1, .ref X2, .ref X3, .ref X4, .ref X5, .ref X6, .ref X7, .ref X8]) hL
    refine qq _ L _ (Same.tr s0 (Same.tr s1 (Same.tr s2 (Same.tr s3 (Same.tr s4 (Same.tr s5 (Same.tr s6 (Same.tr s7 (Same.tr s8 s9))))))))) (Same.none (Same.tr s0 (Same.tr s1 (Same.tr s2 (Same.tr s3 (Same.tr s4 (Same.tr s5 (Same.tr s6 (Same.tr s7 s8)))))))) hL) upd_same rfl fun u hu => ?_
    rcases List.mem_cons.mp hu with rfl | hu
    · exact KdP.mk ((Same.tr s1 (Same.tr s2 (Same.tr s3 (Same.tr s4 (Same.tr s5 (Same.tr s6 (Same.tr s7 (Same.tr s8 s9)))))))) _ _ gX0) (by decide +kernel)
    rcases List.mem_cons.mp hu with rfl | hu
    · exact KdP.mk ((Same.tr s2 (Same.tr s3 (Same.tr s4 (Same.tr s5 (Same.tr s6 (Same.tr s7 (Same.tr s8 s9))))))) _ _ gX1) (by decide +kernel)
    rcases List.mem_cons.mp hu with rfl | hu
    · exact KdP.mk ((Same.tr s3 (Same.tr s4 (Same.tr s5 (Same.tr s6 (Same.tr s7 (Same.tr s8 s9)))))) _ _ gX2) (by decide +kernel)
    rcases List.mem_cons.mp hu with rfl | hu
    · exact KdP.mk ((Same.tr s4 (Same.tr s5 (Same.tr s6 (Same.tr s7 (Same.tr s8 s9))))) _ _ gX3) (by decide +kernel)
    rcases List.mem_cons.mp hu with rfl | hu
    · exact KdP.mk ((Same.tr s5 (Same.tr s6 (Same.tr s7 (Same.tr s8 s9)))) _ _ gX4) (by decide +kernel)
    rcases List.mem_cons.mp hu with rfl | hu
    · exact KdP.mk ((Same.tr s6 (Same.tr s7 (Same.tr s8 s9))) _ _ gX5) (by decide +kernel)
    rcases List.mem_cons.mp hu with rfl | hu
    · exact KdP.mk ((Same.tr s7 (Same.tr s8 s9)) _ _ gX6) (by decide +kernel)
    rcases List.mem_cons.mp hu with rfl | hu
    · exact KdP.mk ((Same.tr s8 s9) _ _ gX7) (by decide +kernel)
    rcases List.mem_cons.mp hu with rfl | hu
    · exact KdP.mk (s9 _ _ gX8) (by decide +kernel)
    cases hu
def spDK : Sp := fun vs H Q _ => ∃ (p q : Addr) (ds : List Int), vs = [.ref p] ∧ StN H p q ds ∧ ∀ H' x, StN H' p q ds → Bt H H' p → KdP H' x → Q x H'
theorem ok_dk {k : Nat} (Z : Defs K mg) : FnOk P w K mg base CX0 (k + 4) Z.fLawDrawnKind Z.fdLawDrawnKind ["state"] spDK := by
  have GLawKinds : FnOk P w K mg base CX0 (k + 1) Z.fLawKinds Z.fdLawKinds [] spLKinds := ok_lkinds Z
  have GLawNext : FnOk P w K mg base CX0 (k + 3) Z.fLawNext Z.fdLawNext ["state", "limit"] spNext := ok_next Z
  refine Z.DLawDrawnKind.F.ok scLawDrawnKind (fun vs H Q E h => ?_) (fun cdv A outer s H vs Q E hr h => ?_)
  · obtain ⟨p, q, ds, rfl, _⟩ := h
    rfl
  · obtain ⟨p, q, ds, rfl, S0, qq⟩ := h
    refine ⟨_, (pss_one (ps_ret (pe_ix ix_list (pe_call0 GLawKinds (hr.mono (by omega)) (by rfl) Z.DLawKinds.g Z.DLawKinds.F.kp Z.DLawKinds.b .nil pass0) (pe_call GLawNext (hr.mono (by omega)) (by rfl) Z.DLawNext.g Z.DLawNext.F.kp Z.DLawNext.b .nil pass0 (pa_cons (pv 0) (pa_cons pe_int pa_nil))) (fun _ _ => rfl)))), ?_⟩
    refine ⟨rfl, fun H1 l us s1 hln hl hul hus => ?_⟩
    have S1 := S0.sm s1
    have nl := S0.nn hln
    refine ⟨_, rfl, p, q, ds, 9, rfl, S1, by decide, fun H2 v S2 bb2 lo hi => ?_⟩
    have b2 := Bt.of bb2
    obtain ⟨i, rfl⟩ := Int.eq_ofNat_of_zero_le lo
    have hi2 : i < us.length := by omega
    exact ⟨l, us, _, us[i], rfl, rfl, SqL.of (b2 _ _ hl nl), atI_nat (List.getElem?_eq_getElem hi2), qq H2 _ S2 (Bt.tr (Bt.same s1) b2) ((hus _ (List.getElem_mem hi2)).keep (b2.tk S1))⟩
def spPlain : Sp := fun vs H Q _ => ∃ (p q : Addr) (ds : List Int) (x : V), vs = [.ref p, x] ∧ StN H p q ds ∧ KdP H x ∧ ∀ H' y e, StN H' p q ds → Bt H H' p → ExAt H' 1 e y → Q y H'
theorem ok_plain {k : Nat} (Z : Defs K mg) : FnOk P w K mg base CX0 (k + 4) Z.fLawPlain Z.fdLawPlain ["state", "kind"] spPlain := by
  have GLawNext : FnOk P w K mg base CX0 (k + 3) Z.fLawNext Z.fdLawNext ["state", "limit"] spNext := ok_next Z
  refine Z.DLawPlain.F.ok scLawPlain (fun vs H Q E h => ?_) (fun cdv A outer s H vs Q E hr h => ?_)
  · obtain ⟨p, q, ds, x, rfl, _⟩ := h
    rfl
  · obtain ⟨p, q, ds, x, rfl, S0, hk, qq⟩ := h
    refine ⟨_, (pss_cons (ps_if (pt_cmpR op_gt (pe_ix ix_tup (pv 1) pe_int (fun _ _ => rfl)) pe_int (nomark _)) (pss_one (ps_ret (pe_tup (pa_cons pe_str (pa_cons (pe_tup pa_nil) pa_nil))))) pss_nil)
        (pss_cons (ps_if (pt_cmpR op_eq (pe_ix ix_tup (pv 1) pe_int (fun _ _ => rfl)) pe_str (nomark _)) (pss_one (ps_ret (pe_tup (pa_cons pe_str (pa_cons (pe_call GLawNext (hr.mono (by omega)) (by rfl) Z.DLawNext.g Z.DLawNext.F.kp Z.DLawNext.b .nil pass0 (pa_cons (pv 0) (pa_cons pe_int pa_nil))) pa_nil))))) pss_nil)
        (pss_cons (ps_if (pt_cmpR op_eq (pe_ix ix_tup (pv 1) pe_int (fun _ _ => rfl)) pe_str (nomark _)) (pss_one (ps_ret (pe_tup (pa_cons pe_str (pa_cons (pe_ix ix_list (pe_lst (pa_cons pe_str (pa_cons pe_str (pa_cons pe_str pa_nil)))) (pe_call GLawNext (hr.mono (by omega)) (by rfl) Z.DLawNext.g Z.DLawNext.F.kp Z.DLawNext.b .nil pass0 (pa_cons (pv 0) (pa_cons pe_int pa_nil))) (fun _ _ => rfl)) pa_nil))))) pss_nil)
        (pss_cons (ps_if (pt_cmpR op_eq (pe_ix ix_tup (pv 1) pe_int (fun _ _ => rfl)) pe_str (nomark _)) (pss_one (ps_ret (pe_tup (pa_cons pe_str (pa_cons (pe_cmpR op_eq (pe_call GLawNext (hr.mono (by omega)) (by rfl) Z.DLawNext.g Z.DLawNext.F.kp Z.DLawNext.b .nil pass0 (pa_cons (pv 0) (pa_cons pe_int pa_nil))) pe_int (nomark _)) pa_nil))))) pss_nil)
        (pss_one (ps_ret (pe_tup (pa_cons pe_str (pa_cons (pe_ix ix_list (pe_lst (pa_cons pe_str (pa_cons pe_str pa_nil))) (pe_callTy call_int1 (by rfl) Z.int HL.boot_int (pa_cons (pe_cmpR op_eq (pe_ix ix_tup (pv 1) pe_int (fun _ _ => rfl)) pe_str (nomark _)) pa_nil)) (fun _ _ => rfl)) (pa_cons (pe_tup pa_nil) pa_nil)))))))))), ?_⟩
    obtain ⟨t, l, b, rfl, ht, hb⟩ := hk.get
    refine ⟨_, rfl, t, _, 0, vi l, rfl, rfl, SqT.of ht, rfl, (l : Int), 0, rfl, rfl, _, rfl, ite2 (fun e => ?_) (fun e => ?_)⟩
    · -- a list
      refine ⟨Nat.zero_le _, fun X1 hX1 => ?_⟩
      have b1 : Bt H (upd H X1 (.tup [])) p := Bt.same (same_upd hX1)
      have S1 := S0.sm (same_upd (o := (.tup [])) hX1)
      have gX1 : upd H X1 (.tup []) X1 = some (.tup []) := upd_same
      have neX1 := S0.nn hX1
      generalize upd H X1 (.tup []) = H1 at b1 S1 gX1 ⊢
      refine ⟨by show 2 ≤ sizeLine; decide, fun X2 hX2 => ?_⟩
      have b2 : Bt H1 (upd H1 X2 (.tup [.str "list", .ref X1])) p := Bt.same (same_upd hX2)
      have S2 := S1.sm (same_upd (o := (.tup [.str "list", .ref X1])) hX2)
      have gX2 : upd H1 X2 (.tup [.str "list", .ref X1]) X2 = some (.tup [.str "list", .ref X1]) := upd_same
      have neX2 := S1.nn hX2
      generalize upd H1 X2 (.tup [.str "list", .ref X1]) = H2 at b2 S2 gX2 ⊢
      exact qq _ _ (.list []) S2 (Bt.tr b1 b2) ⟨X2, X1, [], rfl, gX2, ((Bt.tk b2 S1) _ _ gX1), by decide, .nil⟩
    · have hz : ∀ (c : Str) (h : decide (b = c) = true), b = c := fun c h => of_decide_eq_true h
      have cs : b = "num" ∨ b = "text" ∨ b = "bool" ∨ b = "d" ∨ b = "e" := by simpa [BASES] using hb
      rcases cs with rfl | rfl | rfl | rfl | rfl
      · refine ⟨_, rfl, t, _, 1, .str "num", rfl, rfl, SqT.of ht, rfl, rfl, _, rfl, iteYes (by decide +kernel) ?_⟩
        refine ⟨_, rfl, p, q, ds, 4, rfl, S0, by decide, fun H1 v1 S1 bb1 lov1 hiv1 => ?_⟩
        have b1 := Bt.of bb1
        refine ⟨by show 2 ≤ sizeLine; decide, fun X2 hX2 => ?_⟩
        have b2 : Bt H1 (upd H1 X2 (.tup [.str "number", .int v1])) p := Bt.same (same_upd hX2)
        have S2 := S1.sm (same_upd (o := (.tup [.str "number", .int v1])) hX2)
        have gX2 : upd H1 X2 (.tup [.str "number", .int v1]) X2 = some (.tup [.str "number", .int v1]) := upd_same
        have neX2 := S1.nn hX2
        generalize upd H1 X2 (.tup [.str "number", .int v1]) = H2 at b2 S2 gX2 ⊢
        exact qq _ _ (.lit "number" (.int v1)) S2 (Bt.tr b1 b2) ⟨.inl rfl, trivial, X2, rfl, gX2⟩
      · refine ⟨_, rfl, t, _, 1, .str "text", rfl, rfl, SqT.of ht, rfl, rfl, _, rfl, iteNo (by decide +kernel) ?_⟩
        refine ⟨_, rfl, t, _, 1, .str "text", rfl, rfl, SqT.of ht, rfl, rfl, _, rfl, iteYes (by decide +kernel) ?_⟩
        refine ⟨by show 3 ≤ sizeLine; decide, fun X3 hX3 => ?_⟩
        have b1 : Bt H (upd H X3 (.lst [.str "", .str "a", .str "it's"])) p := Bt.same (same_upd hX3)
        have S1 := S0.sm (same_upd (o := (.lst [.str "", .str "a", .str "it's"])) hX3)
        have gX3 : upd H X3 (.lst [.str "", .str "a", .str "it's"]) X3 = some (.lst [.str "", .str "a", .str "it's"]) := upd_same
        have neX3 := S0.nn hX3
        generalize upd H X3 (.lst [.str "", .str "a", .str "it's"]) = H1 at b1 S1 gX3 ⊢
        refine ⟨_, rfl, p, q, ds, 3, rfl, S1, by decide, fun H2 v4 S2 bb2 lov4 hiv4 => ?_⟩
        have b2 := Bt.of bb2
        obtain ⟨l4, ml4, al4⟩ := pick_str (ls := ["", "a", "it's"]) lov4 hiv4
        refine ⟨X3, _, _, .str l4, rfl, rfl, SqL.of (b2 _ _ gX3 neX3), al4, ?_⟩
        refine ⟨by show 2 ≤ sizeLine; decide, fun X5 hX5 => ?_⟩
        have b3 : Bt H2 (upd H2 X5 (.tup [.str "text", .str l4])) p := Bt.same (same_upd hX5)
        have S3 := S2.sm (same_upd (o := (.tup [.str "text", .str l4])) hX5)
        have gX5 : upd H2 X5 (.tup [.str "text", .str l4]) X5 = some (.tup [.str "text", .str l4]) := upd_same
        have neX5 := S2.nn hX5
        generalize upd H2 X5 (.tup [.str "text", .str l4]) = H3 at b3 S3 gX5 ⊢
        exact qq _ _ (.lit "text" (.str l4)) S3 (Bt.tr b1 (Bt.tr b2 b3)) ⟨.inr (.inl rfl), trivial, X5, rfl, gX5⟩
      · refine ⟨_, rfl, t, _, 1, .str "bool", rfl, rfl, SqT.of ht, rfl, rfl, _, rfl, iteNo (by decide +kernel) ?_⟩
        refine ⟨_, rfl, t, _, 1, .str "bool", rfl, rfl, SqT.of ht, rfl, rfl, _, rfl, iteNo (by decide +kernel) ?_⟩
        refine ⟨_, rfl, t, _, 1, .str "bool", rfl, rfl, SqT.of ht, rfl, rfl, _, rfl, iteYes (by decide +kernel) ?_⟩
        refine ⟨_, rfl, p, q, ds, 2, rfl, S0, by decide, fun H1 v6 S1 bb1 lov6 hiv6 => ?_⟩
        have b1 := Bt.of bb1
        refine ⟨rfl, ?_⟩
        refine ⟨by show 2 ≤ sizeLine; decide, fun X7 hX7 => ?_⟩
        have b2 : Bt H1 (upd H1 X7 (.tup [.str "bool", .bl (decide (V.int v6 = V.int 0))])) p := Bt.same (same_upd hX7)
        have S2 := S1.sm (same_upd (o := (.tup [.str "bool", .bl (decide (V.int v6 = V.int 0))])) hX7)
        have gX7 : upd H1 X7 (.tup [.str "bool", .bl (decide (V.int v6 = V.int 0))]) X7 = some (.tup [.str "bool", .bl (decide (V.int v6 = V.int 0))]) := upd_same
        have neX7 := S1.nn hX7
        generalize upd H1 X7 (.tup [.str "bool", .bl (decide (V.int v6 = V.int 0))]) = H2 at b2 S2 gX7 ⊢
        exact qq _ _ (.lit "bool" (.bl (decide (V.int v6 = V.int 0)))) S2 (Bt.tr b1 b2) ⟨.inr (.inr rfl), trivial, X7, rfl, gX7⟩
      · refine ⟨_, rfl, t, _, 1, .str "d", rfl, rfl, SqT.of ht, rfl, rfl, _, rfl, iteNo (by decide +kernel) ?_⟩
        refine ⟨_, rfl, t, _, 1, .str "d", rfl, rfl, SqT.of ht, rfl, rfl, _, rfl, iteNo (by decide +kernel) ?_⟩
        refine ⟨_, rfl, t, _, 1, .str "d", rfl, rfl, SqT.of ht, rfl, rfl, _, rfl, iteNo (by decide +kernel) ?_⟩
        refine ⟨by show 2 ≤ sizeLine; decide, fun X8 hX8 => ?_⟩
        have b1 : Bt H (upd H X8 (.lst [.str "Leaf", .str "Two"])) p := Bt.same (same_upd hX8)
        have S1 := S0.sm (same_upd (o := (.lst [.str "Leaf", .str "Two"])) hX8)
        have gX8 : upd H X8 (.lst [.str "Leaf", .str "Two"]) X8 = some (.lst [.str "Leaf", .str "Two"]) := upd_same
        have neX8 := S0.nn hX8
        generalize upd H X8 (.lst [.str "Leaf", .str "Two"]) = H1 at b1 S1 gX8 ⊢
        refine ⟨_, rfl, t, _, 1, .str "d", rfl, rfl, SqT.of ((Bt.tk b1 S0) _ _ ht), rfl, rfl, .inr ⟨_, rfl, X8, _, _, .str "Leaf", rfl, rfl, SqL.of gX8, rfl, ?_⟩⟩
        refine ⟨Nat.zero_le _, fun X9 hX9 => ?_⟩
        have b2 : Bt H1 (upd H1 X9 (.tup [])) p := Bt.same (same_upd hX9)
        have S2 := S1.sm (same_upd (o := (.tup [])) hX9)
        have gX9 : upd H1 X9 (.tup []) X9 = some (.tup []) := upd_same
        have neX9 := S1.nn hX9
        generalize upd H1 X9 (.tup []) = H2 at b2 S2 gX9 ⊢
        refine ⟨by show 3 ≤ sizeLine; decide, fun X10 hX10 => ?_⟩
        have b3 : Bt H2 (upd H2 X10 (.tup [.str "make", .str "Leaf", .ref X9])) p := Bt.same (same_upd hX10)
        have S3 := S2.sm (same_upd (o := (.tup [.str "make", .str "Leaf", .ref X9])) hX10)
        have gX10 : upd H2 X10 (.tup [.str "make", .str "Leaf", .ref X9]) X10 = some (.tup [.str "make", .str "Leaf", .ref X9]) := upd_same
        have neX10 := S2.nn hX10
        generalize upd H2 X10 (.tup [.str "make", .str "Leaf", .ref X9]) = H3 at b3 S3 gX10 ⊢
        exact qq _ _ (.make "Leaf" []) S3 (Bt.tr b1 (Bt.tr b2 b3)) ⟨by decide +kernel, X10, X9, [], rfl, gX10, ((Bt.tk b3 S2) _ _ gX9), by decide, .nil⟩
      · refine ⟨_, rfl, t, _, 1, .str "e", rfl, rfl, SqT.of ht, rfl, rfl, _, rfl, iteNo (by decide +kernel) ?_⟩
        refine ⟨_, rfl, t, _, 1, .str "e", rfl, rfl, SqT.of ht, rfl, rfl, _, rfl, iteNo (by decide +kernel) ?_⟩
        refine ⟨_, rfl, t, _, 1, .str "e", rfl, rfl, SqT.of ht, rfl, rfl, _, rfl, iteNo (by decide +kernel) ?_⟩
        refine ⟨by show 2 ≤ sizeLine; decide, fun X11 hX11 => ?_⟩
        have b1 : Bt H (upd H X11 (.lst [.str "Leaf", .str "Two"])) p := Bt.same (same_upd hX11)
        have S1 := S0.sm (same_upd (o := (.lst [.str "Leaf", .str "Two"])) hX11)
        have gX11 : upd H X11 (.lst [.str "Leaf", .str "Two"]) X11 = some (.lst [.str "Leaf", .str "Two"]) := upd_same
        have neX11 := S0.nn hX11
        generalize upd H X11 (.lst [.str "Leaf", .str "Two"]) = H1 at b1 S1 gX11 ⊢
        refine ⟨_, rfl, t, _, 1, .str "e", rfl, rfl, SqT.of ((Bt.tk b1 S0) _ _ ht), rfl, rfl, .inr ⟨_, rfl, X11, _, _, .str "Two", rfl, rfl, SqL.of gX11, rfl, ?_⟩⟩
        refine ⟨Nat.zero_le _, fun X12 hX12 => ?_⟩
        have b2 : Bt H1 (upd H1 X12 (.tup [])) p := Bt.same (same_upd hX12)
        have S2 := S1.sm (same_upd (o := (.tup [])) hX12)
        have gX12 : upd H1 X12 (.tup []) X12 = some (.tup []) := upd_same
        have neX12 := S1.nn hX12
        generalize upd H1 X12 (.tup []) = H2 at b2 S2 gX12 ⊢
        refine ⟨by show 3 ≤ sizeLine; decide, fun X13 hX13 => ?_⟩
        have b3 : Bt H2 (upd H2 X13 (.tup [.str "make", .str "Two", .ref X12])) p := Bt.same (same_upd hX13)
        have S3 := S2.sm (same_upd (o := (.tup [.str "make", .str "Two", .ref X12])) hX13)
        have gX13 : upd H2 X13 (.tup [.str "make", .str "Two", .ref X12]) X13 = some (.tup [.str "make", .str "Two", .ref X12]) := upd_same
        have neX13 := S2.nn hX13
        generalize upd H2 X13 (.tup [.str "make", .str "Two", .ref X12]) = H3 at b3 S3 gX13 ⊢
        exact qq _ _ (.make "Two" []) S3 (Bt.tr b1 (Bt.tr b2 b3)) ⟨by decide +kernel, X13, X12, [], rfl, gX13, ((Bt.tk b3 S2) _ _ gX12), by decide, .nil⟩
end
end Q11
namespace Q11
open PySem PySem.Spec PyProof.Rows L2 SX HL
section
variable {P : Program} {w : World} {K : PySem.W.Frag} {mg : Str → Option Value} {base : Heap}
/-! ### _law_names, _law_locals -/
theorem ixN_nat {n j : Nat} (h : j < n) : ixN n (j : Int) = some j := by
  unfold ixN
  rw [if_pos (by omega), if_pos (by omega)]
  rfl
def spNames : Sp := fun vs H Q _ => ∃ (p q : Addr) (ds : List Int) (c : Nat), vs = [.ref p, vi c] ∧ StN H p q ds ∧ c ≤ 2 ∧ ∀ H' y ns, StN H' p q ds → Bt H H' p → NmsAt H' y ns → ns.length = c → Q y H'
theorem ok_names {k : Nat} (Z : Defs K mg) : FnOk P w K mg base CX0 (k + 4) Z.fLawNames Z.fdLawNames ["state", "count"] spNames := by
  have GLawNext : FnOk P w K mg base CX0 (k + 3) Z.fLawNext Z.fdLawNext ["state", "limit"] spNext := ok_next Z
  refine Z.DLawNames.F.ok scLawNames (fun vs H Q E h => ?_) (fun cdv A outer s H vs Q E hr h => ?_)
  · obtain ⟨p, q, ds, c, rfl, _⟩ := h
    rfl
  · obtain ⟨p, q, ds, c, rfl, S0, hc, qq⟩ := h
    refine ⟨_, (pss_cons (ps_set (i := 2) scLawNames.nd rfl (.inr rfl) (pe_lst (pa_cons pe_str (pa_cons pe_str (pa_cons pe_str (pa_cons pe_str (pa_cons pe_str pa_nil)))))))
        (pss_cons (ps_set (i := 3) scLawNames.nd rfl (.inr rfl) (pe_call GLawNext (hr.mono (by omega)) (by rfl) Z.DLawNext.g Z.DLawNext.F.kp Z.DLawNext.b .nil pass0 (pa_cons (pv 0) (pa_cons pe_int pa_nil))))
        (pss_cons (ps_setLc (i := 4) (own := [("k", 5)]) (g := (gName 5)) (by rfl) scLawNames.nd rfl rfl (sw_true rfl rfl rfl (by decide +kernel)) (pi_range1 (by rfl) Z.range (pa_cons (pv 1) pa_nil)) (blkOk_by (own := [("k", 5)]) (N := ["state", "count", "names", "start", "found", "k"]) (sc := defScope sLawNames) (by decide +kernel)) (fun _ _ _ _ _ => (pg_name (i := 5) scLawNames.nd rfl (Or.inl rfl))) (fun _ _ _ _ _ => pts_nil) (fun _ _ _ _ _ => (pe_ix (HL.ix_listK (K := K) rfl) (pv 2) (pe_op op_mod (pe_op op_add (pv 3) (pv 5)) pe_int) (fun _ _ => rfl))))
        (C8.pss_cut (ps_if (PW.pt (pw_and (pt_cmpR op_gt (pv 1) pe_int (nomark _)) (pw_and1 (pt_cmpR op_eq (pe_call GLawNext (hr.mono (by omega)) (by rfl) Z.DLawNext.g Z.DLawNext.F.kp Z.DLawNext.b .nil pass0 (pa_cons (pv 0) (pa_cons pe_int pa_nil))) pe_int (nomark _))))) (pss_one (ps_asg (pe_ix ix_list (pv 4) pe_int (fun _ _ => rfl)) (pg_sub (pv 4) pe_int set_list))) pss_nil)
        (pss_one (ps_ret (pe_callTy call_tuple_of (by rfl) Z.tuple HL.boot_tuple (pa_cons (pv 4) pa_nil)))))))), ?_⟩
    have big : 1000 ≤ sizeLine := by decide
    refine ⟨by show 5 ≤ sizeLine; decide, fun X hX => ?_⟩
    have s1 := same_upd (o := .lst [.str "x", .str "y", .str "z", .str "f", .str "c"]) hX
    have gX : upd H X (.lst [.str "x", .str "y", .str "z", .str "f", .str "c"]) X = some (.lst ((["x", "y", "z", "f", "c"] : List Str).map V.str)) := upd_same
    generalize upd H X (.lst [.str "x", .str "y", .str "z", .str "f", .str "c"]) = H1 at s1 gX ⊢
    have S1 := S0.sm s1
    have nX := S0.nn hX
    refine ⟨_, rfl, p, q, ds, 5, rfl, S1, by decide, fun H2 v S2 bb2 v0 v1 => ?_⟩
    have b2 : Bt H H2 p := Bt.tr (Bt.same s1) (Bt.of bb2)
    have gX2 := Bt.of bb2 _ _ gX nX
    refine ⟨_, rfl, (c : Int), rfl, by omega, by omega, fun D hD => ?_⟩
    have nD := S2.nn hD
    have hDH : H D = none := by
      cases e : H D with
      | none => rfl
      | some o => rw [b2 _ _ e nD] at hD; cases hD
    refine lc_range (lo := 0) (n := (c : Int).toNat) (fun i H' => Same H2 H' ∧ ∃ ns : List Str, H' D = some (.lst (ns.map V.str)) ∧ ns.length = i ∧ ∀ x ∈ ns, x ∈ LOW) ⟨same_upd hD, [], upd_same, rfl, fun x h => by cases h⟩ ?_ ?_
    · rintro i H3 hi ⟨s3, ns, hD3, hnl, hns⟩
      obtain ⟨l, hl, al⟩ := pick_str (ls := ["x", "y", "z", "f", "c"]) (v := (v + (0 + (i : Int))) % 5) (Int.emod_nonneg _ (by decide)) (by have := Int.emod_lt_of_pos (v + (0 + (i : Int))) (show (0 : Int) < 5 by decide); exact this)
      refine ⟨rfl, lc_yes ⟨_, rfl, _, rfl, _, rfl, _, _, rfl, rfl, _, 5, rfl, rfl, (by show (0 : Int) < 5; decide), X, _, _, .str l, rfl, rfl, SqL.of (s3 _ _ gX2), al, _, hD3, by rw [List.length_map]; omega, fun z o h => by rw [upd_ne (ne_of_none h hD)]; exact s3 _ _ h, ns ++ [l], by rw [upd_same]; exact snoc_str _ _, by rw [List.length_append, hnl]; rfl, fun x hx => ?_⟩⟩
      rcases List.mem_append.mp hx with hx | hx
      · exact hns x hx
      · rw [List.mem_singleton.mp hx]
        have : ∀ y ∈ (["x", "y", "z", "f", "c"] : List Str), y ∈ LOW := by decide +kernel
        exact this l hl
    · rintro H3 ⟨s3, ns, hD3, hnl, hns⟩
      have hnl : ns.length = c := by omega
      have S3 := S2.sm s3
      have nq : D ≠ q := fun e => by
        obtain ⟨h1, _⟩ := S2
        rw [← e, hD] at h1
        cases h1
      have b3 : Bt H H3 p := Bt.tr b2 (Bt.same s3)
      refine ⟨fun σ' H' => ∃ (y2 y3 y5 : Option V) (ms : List Str), σ' = [some (.ref p), some (vi c), y2, y3, some (.ref D), y5] ∧ StN H' p q ds ∧ Bt H H' p ∧ H' D = some (.lst (ms.map V.str)) ∧ ms.length = c ∧ ∀ x ∈ ms, x ∈ LOW, ?_, ?_⟩
      · have hcc : c ≤ 1 ∨ c = 2 := by omega
        rcases hcc with hcc | rfl
        · refine ⟨_, rfl, (c : Int), 1, rfl, rfl, _, rfl, iteNo (by simp; omega) (iteF ⟨_, _, _, ns, rfl, S3, b3, hD3, hnl, hns⟩)⟩
        · refine ⟨_, rfl, ((2 : Nat) : Int), 1, rfl, rfl, _, rfl, iteYes (by decide) ?_⟩
          refine ⟨_, rfl, p, q, ds, 25, rfl, S3, by decide, fun H4 u S4 bb4 u0 u1 => ?_⟩
          have b4 : Bt H H4 p := Bt.tr b3 (Bt.of bb4)
          have hD4 := Bt.of bb4 _ _ hD3 nD
          refine ⟨rfl, _, rfl, ite2 (fun e => ?_) (fun e => ?_)⟩
          · obtain ⟨n0, n1, rfl⟩ : ∃ n0 n1, ns = [n0, n1] := by
              match ns, hnl with
              | [a, b], _ => exact ⟨a, b, rfl⟩
            refine ⟨_, rfl, D, _, 0, .str n0, rfl, rfl, SqL.of hD4, rfl, _, rfl, D, _, _, 1, rfl, rfl, hD4, by rfl, ?_⟩
            refine ⟨_, _, _, [n0, n0], rfl, S4.lst nD nq, fun z o h n => ?_, by rw [upd_same]; rfl, rfl, fun x hx => ?_⟩
            · rw [upd_ne (fun e => by rw [e, hDH] at h; cases h)]
              exact b4 _ _ h n
            · have : x = n0 := by simpa using hx
              rw [this]
              exact hns n0 (List.mem_cons_self ..)
          · exact ⟨_, _, _, ns, rfl, S4, b4, hD4, hnl, hns⟩
      · rintro σ' H4 ⟨y2, y3, y5, ms, rfl, S4, b4, hD4, hml, hms⟩
        refine ⟨_, rfl, D, _, rfl, .inl ⟨SqL.of hD4, fun T hT => ?_⟩⟩
        exact qq _ (.ref T) ms (S4.sm (same_upd hT)) (Bt.tr b4 (Bt.same (same_upd hT))) ⟨T, rfl, upd_same, by omega, hms⟩ hml
/-- a name and its kind -/
def LocP (H : Hp) (v : V) : Prop := ∃ t x kd, v = .ref t ∧ H t = some (.tup [.str x, kd]) ∧ x ∈ LOW ∧ KdP H kd
theorem LocP.keep {H H' : Hp} {v : V} (h : LocP H v) (k : TupK H H') : LocP H' v := by
  obtain ⟨t, x, kd, e, h1, h2, h3⟩ := h
  exact ⟨t, x, kd, e, k _ _ h1, h2, h3.keep k⟩
/-- the names that are known -/
def KnK (H : Hp) (kvs : List (Key × V)) : Prop := kvs.length ≤ 30 ∧ ∀ kv ∈ kvs, ∃ x ∈ LOW, kv.1 = .inr x ∧ KdP H kv.2
theorem KnK.keep {H H' : Hp} {kvs : List (Key × V)} (h : KnK H kvs) (k : TupK H H') : KnK H' kvs :=
  ⟨h.1, fun kv hkv => by obtain ⟨x, hx, e, h1⟩ := h.2 kv hkv; exact ⟨x, hx, e, h1.keep k⟩⟩
theorem mem_putK {kvs : List (Key × V)} {k : Key} {v : V} {kv : Key × V} (h : kv ∈ putK kvs k v) : kv ∈ kvs ∨ kv = (k, v) := by
  unfold putK at h
  split at h
  · obtain ⟨z, hz, e⟩ := List.mem_map.mp h
    split at e
    · rename_i hk
      exact .inr (by rw [← e, hk])
    · exact .inl (by rw [← e]; exact hz)
  · rcases List.mem_append.mp h with h | h
    · exact .inl h
    · exact .inr (List.mem_singleton.mp h)
def spLocals : Sp := fun vs H Q _ => ∃ (a : Addr) (us : List V), vs = [.ref a] ∧ H a = some (.lst us) ∧ us.length ≤ 30 ∧ (∀ u ∈ us, LocP H u) ∧
  ∀ H' d kvs, Same H H' → H d = none → H' d = some (.dK kvs) → KnK H' kvs → Q (.ref d) H'
theorem ok_locals {k : Nat} (Z : Defs K mg) : FnOk P w K mg base CX0 (k + 1) Z.fLawLocals Z.fdLawLocals ["local"] spLocals := by
  refine Z.DLawLocals.F.ok scLawLocals (fun vs H Q E h => ?_) (fun cdv A outer s H vs Q E hr h => ?_)
  · obtain ⟨a, us, rfl, _⟩ := h
    rfl
  · obtain ⟨a, us, rfl, ha, hul, hus, qq⟩ := h
    refine ⟨_, (pss_cons (ps_set (i := 1) scLawLocals.nd rfl (.inl rfl) pe_dnewK)
        (pss_cons (ps_for PassesOwn.never rfl (pi_list (pv 0)) (pg_tup rfl (pgs_cons (pg_name (i := 2) scLawLocals.nd rfl (.inl rfl)) (pgs_cons (pg_name (i := 3) scLawLocals.nd rfl (.inl rfl)) pgs_nil))) (pss_one (ps_dput (hu_of hr) (pv 1) (pv 2) (pv 3) rfl)))
        (pss_one (ps_ret (pv 1))))), ?_⟩
    refine fun D hD => ?_
    have s0 := same_upd (o := .dK []) hD
    refine ⟨_, rfl, a, rfl, ⟨us, SqL.of (s0 _ _ ha)⟩, ?_⟩
    refine for_it walk_list (fun i σ H' => ∃ (y2 y3 : Option V) (kvs : List (Key × V)), σ = [some (.ref a), some (.ref D), y2, y3] ∧ Same H H' ∧ H' D = some (.dK kvs) ∧ kvs.length ≤ i ∧ KnK H' kvs) ⟨none, none, [], rfl, s0, upd_same, Nat.le_refl _, ⟨Nat.zero_le _, fun kv h => by cases h⟩⟩ (fun i σ H' _ ⟨_, _, _, _, s, _⟩ => SqL.of (s _ _ ha)) ?_ ?_
    · rintro i y σ H1z H1 hi ⟨y2, y3, kvs, rfl, s1, hD1, hkl, hkn⟩ ⟨rfl, hy⟩
      obtain ⟨t, x, kd, rfl, ht, hx, hkd⟩ := hus y (List.mem_of_getElem? hy)
      have big : 1000 ≤ sizeLine := by decide
      have hi2 : i < us.length := hi
      have kU : TupK H1 (upd H1 D (.dK (putK kvs (.inr x) kd))) := tk_upd fun xs e => by rw [hD1] at e; cases e
      refine ⟨t, _, rfl, SqT.of (s1 _ _ ht), rfl, _, _, rfl, _, _, rfl, rfl, ?_⟩
      refine ⟨_, rfl, _, rfl, _, rfl, D, _, rfl, DPut.k (k := .inr x) hD1 (by omega), ?_⟩
      refine ⟨_, _, _, rfl, fun z o h => by rw [upd_ne (ne_of_none h hD)]; exact s1 _ _ h, upd_same, by have := length_putK kvs (.inr x) kd; omega, ⟨by have := length_putK kvs (.inr x) kd; omega, fun kv hkv => ?_⟩⟩
      rcases mem_putK hkv with h | rfl
      · obtain ⟨x', hx', e, h1⟩ := hkn.2 kv h
        exact ⟨x', hx', e, h1.keep kU⟩
      · exact ⟨x, hx, rfl, (hkd.keep (TupK.of s1)).keep kU⟩
    · rintro σ H1 ⟨y2, y3, kvs, rfl, s1, hD1, hkl, hkn⟩
      exact ⟨_, rfl, qq H1 D kvs s1 hD hD1 hkn⟩
end
end Q11
namespace Q11
open PySem PySem.Spec PyProof.Rows L2 SX HL
/-! ### the plan -/
def DatAt (H : Hp) (v : V) : Prop := ∃ t q m1 m2, v = .ref t ∧ H t = some (.tup [.str "data", .ref q]) ∧ H q = some (.tup [m1, m2]) ∧ MkP H m1 ∧ MkP H m2
def OthAt (H : Hp) (f : Str) (v : V) : Prop := ∃ t ks kd, v = .ref t ∧ H t = some (.tup [.str f, ks, kd]) ∧ KdsP H ks ∧ KdP H kd
theorem DatAt.keep {H H' : Hp} {v : V} (h : DatAt H v) (k : TupK H H') : DatAt H' v := by
  obtain ⟨t, q, m1, m2, e, h1, h2, h3, h4⟩ := h
  exact ⟨t, q, m1, m2, e, k _ _ h1, k _ _ h2, h3.keep k, h4.keep k⟩
theorem OthAt.keep {H H' : Hp} {f : Str} {v : V} (h : OthAt H f v) (k : TupK H H') : OthAt H' f v := by
  obtain ⟨t, ks, kd, e, h1, h2, h3⟩ := h
  exact ⟨t, ks, kd, e, k _ _ h1, h2.keep k, h3.keep k⟩
/-- the entry of a form: data, or another -/
def EntAt (H : Hp) (f : Str) (v : V) : Prop := (f = "data" ∧ DatAt H v) ∨ (f ≠ "data" ∧ OthAt H f v)
theorem EntAt.keep {H H' : Hp} {f : Str} {v : V} (h : EntAt H f v) (k : TupK H H') : EntAt H' f v := h.imp (fun h => ⟨h.1, h.2.keep k⟩) fun h => ⟨h.1, h.2.keep k⟩
/-- the entries that a dict has -/
def Has (H : Hp) (kvs : List (Key × V)) (L : List (Str × Str)) : Prop := ∀ e ∈ L, ∃ v, valV kvs (.inr e.1) = some v ∧ EntAt H e.2 v
theorem Has.keep {H H' : Hp} {kvs : List (Key × V)} {L : List (Str × Str)} (h : Has H kvs L) (k : TupK H H') : Has H' kvs L := fun e he => by
  obtain ⟨v, h1, h2⟩ := h e he
  exact ⟨v, h1, h2.keep k⟩
theorem Has.put {H : Hp} {kvs : List (Key × V)} {L : List (Str × Str)} (h : Has H kvs L) {x f : Str} {v : V} (hv : EntAt H f v) (hc : ∀ e ∈ L, e.1 = x → e.2 = f) : Has H (putK kvs (.inr x) v) (L ++ [(x, f)]) := fun e he => by
  rw [valV_put]
  by_cases q : e.1 = x
  · rw [if_pos (by rw [q])]
    rcases List.mem_append.mp he with he | he
    · exact ⟨v, rfl, by rw [hc e he q]; exact hv⟩
    · rw [List.mem_singleton.mp he]; exact ⟨v, rfl, hv⟩
  · rw [if_neg (fun z => q (Sum.inr.inj z))]
    rcases List.mem_append.mp he with he | he
    · exact h e he
    · rw [List.mem_singleton.mp he] at q; exact absurd rfl q
def PLAN : List (Str × Str) := [("d", "data"), ("e", "data"), ("f", "fun"), ("g", "fun"), ("h", "fun"), ("k", "fun"), ("c", "cell"), ("m", "cell"), ("v", "view"), ("w", "view"), ("a", "act"), ("b", "act")]
def PlanAt (H : Hp) (pl : Addr) : Prop := ∃ kvs, H pl = some (.dK kvs) ∧ Has H kvs PLAN
theorem PlanAt.keep {H H' : Hp} {p pl : Addr} (h : PlanAt H pl) (b : Bt H H' p) (n : pl ≠ p) (k : TupK H H') : PlanAt H' pl := by
  obtain ⟨kvs, h1, h2⟩ := h
  exact ⟨kvs, b _ _ h1 n, h2.keep k⟩
theorem PlanAt.dat {H : Hp} {pl : Addr} (h : PlanAt H pl) {x : Str} (hx : (x, ("data" : Str)) ∈ PLAN) : ∃ kvs v, H pl = some (.dK kvs) ∧ valV kvs (.inr x) = some v ∧ DatAt H v := by
  obtain ⟨kvs, h1, h2⟩ := h
  obtain ⟨v, e, hv⟩ := h2 _ hx
  refine ⟨kvs, v, h1, e, ?_⟩
  rcases hv with ⟨_, hv⟩ | ⟨hn, _⟩
  · exact hv
  · exact absurd rfl hn
theorem PlanAt.oth {H : Hp} {pl : Addr} (h : PlanAt H pl) {x f : Str} (hx : (x, f) ∈ PLAN) (hf : f ≠ "data") : ∃ kvs v, H pl = some (.dK kvs) ∧ valV kvs (.inr x) = some v ∧ OthAt H f v := by
  obtain ⟨kvs, h1, h2⟩ := h
  obtain ⟨v, e, hv⟩ := h2 _ hx
  refine ⟨kvs, v, h1, e, ?_⟩
  rcases hv with ⟨hn, _⟩ | ⟨_, hv⟩
  · exact absurd hn hf
  · exact hv
/-- all but p and a stays, new objects may come -/
def Bq (H H' : Hp) (p a : Addr) : Prop := ∀ z o, H z = some o → z ≠ p → z ≠ a → H' z = some o
theorem Bt.q {H H' : Hp} {p a : Addr} (b : Bt H H' p) : Bq H H' p a := fun z o h n _ => b z o h n
theorem Bq.tr {H H1 H2 : Hp} {p a : Addr} (b : Bq H H1 p a) (c : Bq H1 H2 p a) : Bq H H2 p a := fun z o h n m => c z o (b z o h n m) n m
theorem all2_ex {H : Hp} : ∀ us : List V, (∀ u ∈ us, KdP H u) → ∃ ks, All2 (KdAt H) us ks
  | [], _ => ⟨[], .nil⟩
  | u :: us, h => by
    obtain ⟨k, hk⟩ := h u (List.mem_cons_self ..)
    obtain ⟨ks, hks⟩ := all2_ex us fun x hx => h x (List.mem_cons_of_mem _ hx)
    exact ⟨k :: ks, .cons hk hks⟩
section
variable {P : Program} {w : World} {K : PySem.W.Frag} {mg : Str → Option Value} {base : Heap}
def spPlan : Sp := fun vs H Q _ => ∃ (p q : Addr) (ds : List Int), vs = [.ref p] ∧ StN H p q ds ∧ ∀ H' pl, StN H' p q ds → Bt H H' p → H pl = none → PlanAt H' pl → Q (.ref pl) H'
theorem ok_plan {k : Nat} (Z : Defs K mg) : FnOk P w K mg base CX0 (k + 5) Z.fLawPlan Z.fdLawPlan ["state"] spPlan := by
  have GLawDrawnKind : FnOk P w K mg base CX0 (k + 4) Z.fLawDrawnKind Z.fdLawDrawnKind ["state"] spDK := ok_dk Z
  have GLawNext : FnOk P w K mg base CX0 (k + 3) Z.fLawNext Z.fdLawNext ["state", "limit"] spNext := ok_next Z
  refine Z.DLawPlan.F.ok scLawPlan (fun vs H Q E h => ?_) (fun cdv A outer s H vs Q E hr h => ?_)
  · obtain ⟨p, q, ds, rfl, _⟩ := h
    rfl
  · obtain ⟨p, q, ds, rfl, S, qq⟩ := h
    refine ⟨_, (pss_cons (ps_set (i := 1) scLawPlan.nd rfl (.inl rfl) pe_dnewK)
        (pss_cons (ps_dput (hu_of hr) (pv 1) pe_str (pe_tup (pa_cons pe_str (pa_cons (pe_tup (pa_cons (pe_tup (pa_cons pe_str (pa_cons (pe_tup pa_nil) pa_nil))) (pa_cons (pe_tup (pa_cons pe_str (pa_cons (pe_tup (pa_cons (pe_call GLawDrawnKind (hr.mono (by omega)) (by rfl) Z.DLawDrawnKind.g Z.DLawDrawnKind.F.kp Z.DLawDrawnKind.b .nil pass0 (pa_cons (pv 0) pa_nil)) (pa_cons (pe_call GLawDrawnKind (hr.mono (by omega)) (by rfl) Z.DLawDrawnKind.g Z.DLawDrawnKind.F.kp Z.DLawDrawnKind.b .nil pass0 (pa_cons (pv 0) pa_nil)) pa_nil))) pa_nil))) pa_nil))) pa_nil))) rfl)
        (pss_cons (ps_dput (hu_of hr) (pv 1) pe_str (pe_tup (pa_cons pe_str (pa_cons (pe_tup (pa_cons (pe_tup (pa_cons pe_str (pa_cons (pe_tup (pa_cons (pe_call GLawDrawnKind (hr.mono (by omega)) (by rfl) Z.DLawDrawnKind.g Z.DLawDrawnKind.F.kp Z.DLawDrawnKind.b .nil pass0 (pa_cons (pv 0) pa_nil)) pa_nil)) pa_nil))) (pa_cons (pe_tup (pa_cons pe_str (pa_cons (pe_tup pa_nil) pa_nil))) pa_nil))) pa_nil))) rfl)
        (C8.pss_cut (ps_if (pt_cmpR op_eq (pe_call GLawNext (hr.mono (by omega)) (by rfl) Z.DLawNext.g Z.DLawNext.F.kp Z.DLawNext.b .nil pass0 (pa_cons (pv 0) (pa_cons pe_int pa_nil))) pe_int (nomark _)) (pss_one (ps_dput (hu_of hr) (pv 1) pe_str (pe_tup (pa_cons pe_str (pa_cons (pe_tup (pa_cons (pe_tup (pa_cons pe_str (pa_cons (pe_tup (pa_cons (pe_tup (pa_cons pe_int (pa_cons pe_str pa_nil))) pa_nil)) pa_nil))) (pa_cons (pe_tup (pa_cons (pe_ix ix_list (pe_lst (pa_cons pe_str (pa_cons pe_str pa_nil))) (pe_call GLawNext (hr.mono (by omega)) (by rfl) Z.DLawNext.g Z.DLawNext.F.kp Z.DLawNext.b .nil pass0 (pa_cons (pv 0) (pa_cons pe_int pa_nil))) (fun _ _ => rfl)) (pa_cons (pe_tup pa_nil) pa_nil))) pa_nil))) pa_nil))) rfl)) pss_nil)
        (pss_cons (ps_for PassesOwn.never rfl (pi_list (pe_lst (pa_cons pe_str (pa_cons pe_str (pa_cons pe_str (pa_cons pe_str pa_nil)))))) (pg_name (i := 2) scLawPlan.nd rfl (.inl rfl)) (pss_cons (ps_set (i := 3) scLawPlan.nd rfl (.inl rfl) (pe_callTy call_tuple_of (by rfl) Z.tuple HL.boot_tuple (pa_cons (pe_lc (own := [("k", 4)]) (g := (gName 4)) (by rfl) scLawPlan.nd (pi_range1 (by rfl) Z.range (pa_cons (pe_call GLawNext (hr.mono (by omega)) (by rfl) Z.DLawNext.g Z.DLawNext.F.kp Z.DLawNext.b .nil pass0 (pa_cons (pv 0) (pa_cons pe_int pa_nil))) pa_nil)) (blkOk_by (own := [("k", 4)]) (N := ["state", "plan", "name", "kinds_v", "k"]) (sc := defScope sLawPlan) (by decide +kernel)) (fun _ _ _ _ _ => (pg_name (i := 4) scLawPlan.nd rfl (Or.inl rfl))) (fun _ _ _ _ _ => pts_nil) (fun _ _ _ _ _ => (pe_call GLawDrawnKind (hr.mono (by omega)) (by rfl) Z.DLawDrawnKind.g Z.DLawDrawnKind.F.kp Z.DLawDrawnKind.b .nil pass0 (pa_cons (pv 0) pa_nil)))) pa_nil)))
        (pss_one (ps_dput (hu_of hr) (pv 1) (pv 2) (pe_tup (pa_cons pe_str (pa_cons (pv 3) (pa_cons (pe_call GLawDrawnKind (hr.mono (by omega)) (by rfl) Z.DLawDrawnKind.g Z.DLawDrawnKind.F.kp Z.DLawDrawnKind.b .nil pass0 (pa_cons (pv 0) pa_nil)) pa_nil)))) rfl))))
        (pss_cons (ps_for PassesOwn.never rfl (pi_list (pe_lst (pa_cons pe_str (pa_cons pe_str pa_nil)))) (pg_name (i := 2) scLawPlan.nd rfl (.inl rfl)) (pss_one (ps_dput (hu_of hr) (pv 1) (pv 2) (pe_tup (pa_cons pe_str (pa_cons (pe_tup pa_nil) (pa_cons (pe_call GLawDrawnKind (hr.mono (by omega)) (by rfl) Z.DLawDrawnKind.g Z.DLawDrawnKind.F.kp Z.DLawDrawnKind.b .nil pass0 (pa_cons (pv 0) pa_nil)) pa_nil)))) rfl)))
        (pss_cons (ps_for PassesOwn.never rfl (pi_list (pe_lst (pa_cons pe_str (pa_cons pe_str pa_nil)))) (pg_name (i := 2) scLawPlan.nd rfl (.inl rfl)) (pss_one (ps_dput (hu_of hr) (pv 1) (pv 2) (pe_tup (pa_cons pe_str (pa_cons (pe_tup pa_nil) (pa_cons (pe_call GLawDrawnKind (hr.mono (by omega)) (by rfl) Z.DLawDrawnKind.g Z.DLawDrawnKind.F.kp Z.DLawDrawnKind.b .nil pass0 (pa_cons (pv 0) pa_nil)) pa_nil)))) rfl)))
        (pss_cons (ps_for PassesOwn.never rfl (pi_list (pe_lst (pa_cons pe_str (pa_cons pe_str pa_nil)))) (pg_name (i := 2) scLawPlan.nd rfl (.inl rfl)) (pss_one (ps_dput (hu_of hr) (pv 1) (pv 2) (pe_tup (pa_cons pe_str (pa_cons (pe_tup (pa_cons (pe_call GLawDrawnKind (hr.mono (by omega)) (by rfl) Z.DLawDrawnKind.g Z.DLawDrawnKind.F.kp Z.DLawDrawnKind.b .nil pass0 (pa_cons (pv 0) pa_nil)) pa_nil)) (pa_cons (pe_call GLawDrawnKind (hr.mono (by omega)) (by rfl) Z.DLawDrawnKind.g Z.DLawDrawnKind.F.kp Z.DLawDrawnKind.b .nil pass0 (pa_cons (pv 0) pa_nil)) pa_nil)))) rfl)))
        (pss_one (ps_ret (pv 1))))))))))), ?_⟩
    have big : 1000 ≤ sizeLine := by decide
    refine fun pl hpl => ?_
    have npl := S.nn hpl
    have nplq : pl ≠ q := fun e => by
      obtain ⟨h1, _⟩ := S
      rw [← e, hpl] at h1
      cases h1
    have S0 := S.sm (same_upd (o := .dK []) hpl)
    have gpl : upd H pl (.dK []) pl = some (.dK []) := upd_same
    have bs : Bq H (upd H pl (.dK [])) p pl := (Bt.same (same_upd hpl)).q
    generalize upd H pl (.dK []) = H0 at S0 gpl bs ⊢
    have hs0 : Has H0 [] [] := fun e he => by cases he
    have fin : ∀ (H' : Hp) (kvs : List (Key × V)), StN H' p q ds → Bq H0 H' p pl → H' pl = some (.dK kvs) → Has H' kvs PLAN → Q (.ref pl) H' := fun H' kvs S' b' g' h' => qq H' pl S' (fun z o h n => Bq.tr bs b' z o h n fun e => by rw [e, hpl] at h; cases h) hpl ⟨kvs, g', h'⟩
    have hl0 : ([] : List (Key × V)).length ≤ 0 := Nat.le_refl _
    refine ⟨Nat.zero_le _, fun X1 hX1 => ?_⟩
    have c1 : Bt H0 (upd H0 X1 (.tup [])) p := Bt.same (same_upd hX1)
    have S1 := S0.sm (same_upd (o := (.tup [])) hX1)
    have gX1 : upd H0 X1 (.tup []) X1 = some (.tup []) := upd_same
    have nX1 := S0.nn hX1
    generalize upd H0 X1 (.tup []) = H1 at c1 S1 gX1 ⊢
    have b1 : Bq H0 H1 p pl := c1.q
    have t1 : TupK H0 H1 := c1.tk S0
    refine ⟨by show 2 ≤ sizeLine; decide, fun X2 hX2 => ?_⟩
    have c2 : Bt H1 (upd H1 X2 (.tup [.str "Leaf", .ref X1])) p := Bt.same (same_upd hX2)
    have S2 := S1.sm (same_upd (o := (.tup [.str "Leaf", .ref X1])) hX2)
    have gX2 : upd H1 X2 (.tup [.str "Leaf", .ref X1]) X2 = some (.tup [.str "Leaf", .ref X1]) := upd_same
    have nX2 := S1.nn hX2
    generalize upd H1 X2 (.tup [.str "Leaf", .ref X1]) = H2 at c2 S2 gX2 ⊢
    have b2 : Bq H1 H2 p pl := c2.q
    have t2 : TupK H1 H2 := c2.tk S1
    refine ⟨_, rfl, p, q, ds, rfl, S2, fun H3 r3 S3 c3 kr3 => ?_⟩
    have b3 : Bq H2 H3 p pl := c3.q
    have t3 : TupK H2 H3 := c3.tk S2
    refine ⟨_, rfl, p, q, ds, rfl, S3, fun H4 r4 S4 c4 kr4 => ?_⟩
    have b4 : Bq H3 H4 p pl := c4.q
    have t4 : TupK H3 H4 := c4.tk S3
    refine ⟨by show 2 ≤ sizeLine; decide, fun X5 hX5 => ?_⟩
    have c5 : Bt H4 (upd H4 X5 (.tup [r3, r4])) p := Bt.same (same_upd hX5)
    have S5 := S4.sm (same_upd (o := (.tup [r3, r4])) hX5)
    have gX5 : upd H4 X5 (.tup [r3, r4]) X5 = some (.tup [r3, r4]) := upd_same
    have nX5 := S4.nn hX5
    generalize upd H4 X5 (.tup [r3, r4]) = H5 at c5 S5 gX5 ⊢
    have b5 : Bq H4 H5 p pl := c5.q
    have t5 : TupK H4 H5 := c5.tk S4
    refine ⟨by show 2 ≤ sizeLine; decide, fun X6 hX6 => ?_⟩
    have c6 : Bt H5 (upd H5 X6 (.tup [.str "Node", .ref X5])) p := Bt.same (same_upd hX6)
    have S6 := S5.sm (same_upd (o := (.tup [.str "Node", .ref X5])) hX6)
    have gX6 : upd H5 X6 (.tup [.str "Node", .ref X5]) X6 = some (.tup [.str "Node", .ref X5]) := upd_same
    have nX6 := S5.nn hX6
    generalize upd H5 X6 (.tup [.str "Node", .ref X5]) = H6 at c6 S6 gX6 ⊢
    have b6 : Bq H5 H6 p pl := c6.q
    have t6 : TupK H5 H6 := c6.tk S5
    refine ⟨by show 2 ≤ sizeLine; decide, fun X7 hX7 => ?_⟩
    have c7 : Bt H6 (upd H6 X7 (.tup [.ref X2, .ref X6])) p := Bt.same (same_upd hX7)
    have S7 := S6.sm (same_upd (o := (.tup [.ref X2, .ref X6])) hX7)
    have gX7 : upd H6 X7 (.tup [.ref X2, .ref X6]) X7 = some (.tup [.ref X2, .ref X6]) := upd_same
    have nX7 := S6.nn hX7
    generalize upd H6 X7 (.tup [.ref X2, .ref X6]) = H7 at c7 S7 gX7 ⊢
    have b7 : Bq H6 H7 p pl := c7.q
    have t7 : TupK H6 H7 := c7.tk S6
    refine ⟨by show 2 ≤ sizeLine; decide, fun X8 hX8 => ?_⟩
    have c8 : Bt H7 (upd H7 X8 (.tup [.str "data", .ref X7])) p := Bt.same (same_upd hX8)
    have S8 := S7.sm (same_upd (o := (.tup [.str "data", .ref X7])) hX8)
    have gX8 : upd H7 X8 (.tup [.str "data", .ref X7]) X8 = some (.tup [.str "data", .ref X7]) := upd_same
    have nX8 := S7.nn hX8
    generalize upd H7 X8 (.tup [.str "data", .ref X7]) = H8 at c8 S8 gX8 ⊢
    have b8 : Bq H7 H8 p pl := c8.q
    have t8 : TupK H7 H8 := c8.tk S7
    obtain ⟨kd1, hk1⟩ := (kr3.keep (TupK.tr t4 (TupK.tr t5 (TupK.tr t6 (TupK.tr t7 t8)))))
    obtain ⟨kd2, hk2⟩ := (kr4.keep (TupK.tr t5 (TupK.tr t6 (TupK.tr t7 t8))))
    have hs9 : Has H8 (putK [] (Sum.inr "d" : Key) (.ref X8)) ([] ++ [(("d" : Str), ("data" : Str))]) := Has.put ((hs0.keep (TupK.tr t1 (TupK.tr t2 (TupK.tr t3 (TupK.tr t4 (TupK.tr t5 (TupK.tr t6 (TupK.tr t7 t8))))))))) (x := "d") (f := "data") (.inl ⟨rfl, X8, X7, _, _, rfl, gX8, (t8 _ _ gX7), ⟨("Leaf", []), X2, .ref X1, rfl, ((TupK.tr t3 (TupK.tr t4 (TupK.tr t5 (TupK.tr t6 (TupK.tr t7 t8))))) _ _ gX2), (show ("Leaf" : Str) ∈ UPP by decide +kernel), X1, [], rfl, ((TupK.tr t2 (TupK.tr t3 (TupK.tr t4 (TupK.tr t5 (TupK.tr t6 (TupK.tr t7 t8)))))) _ _ gX1), by decide, .nil⟩, ⟨("Node", [kd1, kd2]), X6, .ref X5, rfl, ((TupK.tr t7 t8) _ _ gX6), (show ("Node" : Str) ∈ UPP by decide +kernel), X5, _, rfl, ((TupK.tr t6 (TupK.tr t7 t8)) _ _ gX5), by show 2 ≤ 2; decide, .cons hk1 (.one hk2)⟩⟩) (by decide +kernel)
    have gd9 := ((Bt.tr c1 (Bt.tr c2 (Bt.tr c3 (Bt.tr c4 (Bt.tr c5 (Bt.tr c6 (Bt.tr c7 c8))))))) _ _ gpl npl)
    have hl9 : ((putK [] (Sum.inr "d" : Key) (.ref X8))).length ≤ 1 := by have := length_putK [] (Sum.inr "d" : Key) (.ref X8); omega
    refine ⟨_, rfl, pl, _, rfl, DPut.k (k := .inr "d") gd9 (by omega), ?_⟩
    have b9 : Bq H8 (upd H8 pl (.dK (putK [] (Sum.inr "d" : Key) (.ref X8)))) p pl := fun z o h n m => by rw [upd_ne m]; exact h
    have t9 : TupK H8 (upd H8 pl (.dK (putK [] (Sum.inr "d" : Key) (.ref X8)))) := tk_upd fun xs e => by rw [gd9] at e; cases e
    have S9 := S8.lst (o := .dK (putK [] (Sum.inr "d" : Key) (.ref X8))) npl nplq
    have gp9 : (upd H8 pl (.dK (putK [] (Sum.inr "d" : Key) (.ref X8)))) pl = some (.dK (putK [] (Sum.inr "d" : Key) (.ref X8))) := upd_same
    have hs9 := hs9.keep t9
    generalize upd H8 pl (.dK (putK [] (Sum.inr "d" : Key) (.ref X8))) = H9 at b9 t9 S9 gp9 hs9 ⊢
    generalize (putK [] (Sum.inr "d" : Key) (.ref X8)) = kv9 at gp9 hs9 hl9
    refine ⟨_, rfl, p, q, ds, rfl, S9, fun H10 r9 S10 c10 kr9 => ?_⟩
    have b10 : Bq H9 H10 p pl := c10.q
    have t10 : TupK H9 H10 := c10.tk S9
    refine ⟨by show 1 ≤ sizeLine; decide, fun X10 hX10 => ?_⟩
    have c11 : Bt H10 (upd H10 X10 (.tup [r9])) p := Bt.same (same_upd hX10)
    have S11 := S10.sm (same_upd (o := (.tup [r9])) hX10)
    have gX10 : upd H10 X10 (.tup [r9]) X10 = some (.tup [r9]) := upd_same
    have nX10 := S10.nn hX10
    generalize upd H10 X10 (.tup [r9]) = H11 at c11 S11 gX10 ⊢
    have b11 : Bq H10 H11 p pl := c11.q
    have t11 : TupK H10 H11 := c11.tk S10
    refine ⟨by show 2 ≤ sizeLine; decide, fun X11 hX11 => ?_⟩
    have c12 : Bt H11 (upd H11 X11 (.tup [.str "One", .ref X10])) p := Bt.same (same_upd hX11)
    have S12 := S11.sm (same_upd (o := (.tup [.str "One", .ref X10])) hX11)
    have gX11 : upd H11 X11 (.tup [.str "One", .ref X10]) X11 = some (.tup [.str "One", .ref X10]) := upd_same
    have nX11 := S11.nn hX11
    generalize upd H11 X11 (.tup [.str "One", .ref X10]) = H12 at c12 S12 gX11 ⊢
    have b12 : Bq H11 H12 p pl := c12.q
    have t12 : TupK H11 H12 := c12.tk S11
    refine ⟨Nat.zero_le _, fun X12 hX12 => ?_⟩
    have c13 : Bt H12 (upd H12 X12 (.tup [])) p := Bt.same (same_upd hX12)
    have S13 := S12.sm (same_upd (o := (.tup [])) hX12)
    have gX12 : upd H12 X12 (.tup []) X12 = some (.tup []) := upd_same
    have nX12 := S12.nn hX12
    generalize upd H12 X12 (.tup []) = H13 at c13 S13 gX12 ⊢
    have b13 : Bq H12 H13 p pl := c13.q
    have t13 : TupK H12 H13 := c13.tk S12
    refine ⟨by show 2 ≤ sizeLine; decide, fun X13 hX13 => ?_⟩
    have c14 : Bt H13 (upd H13 X13 (.tup [.str "Two", .ref X12])) p := Bt.same (same_upd hX13)
    have S14 := S13.sm (same_upd (o := (.tup [.str "Two", .ref X12])) hX13)
    have gX13 : upd H13 X13 (.tup [.str "Two", .ref X12]) X13 = some (.tup [.str "Two", .ref X12]) := upd_same
    have nX13 := S13.nn hX13
    generalize upd H13 X13 (.tup [.str "Two", .ref X12]) = H14 at c14 S14 gX13 ⊢
    have b14 : Bq H13 H14 p pl := c14.q
    have t14 : TupK H13 H14 := c14.tk S13
    refine ⟨by show 2 ≤ sizeLine; decide, fun X14 hX14 => ?_⟩
    have c15 : Bt H14 (upd H14 X14 (.tup [.ref X11, .ref X13])) p := Bt.same (same_upd hX14)
    have S15 := S14.sm (same_upd (o := (.tup [.ref X11, .ref X13])) hX14)
    have gX14 : upd H14 X14 (.tup [.ref X11, .ref X13]) X14 = some (.tup [.ref X11, .ref X13]) := upd_same
    have nX14 := S14.nn hX14
    generalize upd H14 X14 (.tup [.ref X11, .ref X13]) = H15 at c15 S15 gX14 ⊢
    have b15 : Bq H14 H15 p pl := c15.q
    have t15 : TupK H14 H15 := c15.tk S14
    refine ⟨by show 2 ≤ sizeLine; decide, fun X15 hX15 => ?_⟩
    have c16 : Bt H15 (upd H15 X15 (.tup [.str "data", .ref X14])) p := Bt.same (same_upd hX15)
    have S16 := S15.sm (same_upd (o := (.tup [.str "data", .ref X14])) hX15)
    have gX15 : upd H15 X15 (.tup [.str "data", .ref X14]) X15 = some (.tup [.str "data", .ref X14]) := upd_same
    have nX15 := S15.nn hX15
    generalize upd H15 X15 (.tup [.str "data", .ref X14]) = H16 at c16 S16 gX15 ⊢
    have b16 : Bq H15 H16 p pl := c16.q
    have t16 : TupK H15 H16 := c16.tk S15
    obtain ⟨kd3, hk3⟩ := (kr9.keep (TupK.tr t11 (TupK.tr t12 (TupK.tr t13 (TupK.tr t14 (TupK.tr t15 t16))))))
    have hs17 : Has H16 (putK kv9 (Sum.inr "e" : Key) (.ref X15)) (([] ++ [(("d" : Str), ("data" : Str))]) ++ [(("e" : Str), ("data" : Str))]) := Has.put ((hs9.keep (TupK.tr t10 (TupK.tr t11 (TupK.tr t12 (TupK.tr t13 (TupK.tr t14 (TupK.tr t15 t16)))))))) (x := "e") (f := "data") (.inl ⟨rfl, X15, X14, _, _, rfl, gX15, (t16 _ _ gX14), ⟨("One", [kd3]), X11, .ref X10, rfl, ((TupK.tr t13 (TupK.tr t14 (TupK.tr t15 t16))) _ _ gX11), (show ("One" : Str) ∈ UPP by decide +kernel), X10, _, rfl, ((TupK.tr t12 (TupK.tr t13 (TupK.tr t14 (TupK.tr t15 t16)))) _ _ gX10), by show 1 ≤ 2; decide, .one hk3⟩, ⟨("Two", []), X13, .ref X12, rfl, ((TupK.tr t15 t16) _ _ gX13), (show ("Two" : Str) ∈ UPP by decide +kernel), X12, [], rfl, ((TupK.tr t14 (TupK.tr t15 t16)) _ _ gX12), by decide, .nil⟩⟩) (by decide +kernel)
    have gd17 := ((Bt.tr c10 (Bt.tr c11 (Bt.tr c12 (Bt.tr c13 (Bt.tr c14 (Bt.tr c15 c16)))))) _ _ gp9 npl)
    have hl17 : ((putK kv9 (Sum.inr "e" : Key) (.ref X15))).length ≤ 2 := by have := length_putK kv9 (Sum.inr "e" : Key) (.ref X15); omega
    refine ⟨_, rfl, pl, _, rfl, DPut.k (k := .inr "e") gd17 (by omega), ?_⟩
    have b17 : Bq H16 (upd H16 pl (.dK (putK kv9 (Sum.inr "e" : Key) (.ref X15)))) p pl := fun z o h n m => by rw [upd_ne m]; exact h
    have t17 : TupK H16 (upd H16 pl (.dK (putK kv9 (Sum.inr "e" : Key) (.ref X15)))) := tk_upd fun xs e => by rw [gd17] at e; cases e
    have S17 := S16.lst (o := .dK (putK kv9 (Sum.inr "e" : Key) (.ref X15))) npl nplq
    have gp17 : (upd H16 pl (.dK (putK kv9 (Sum.inr "e" : Key) (.ref X15)))) pl = some (.dK (putK kv9 (Sum.inr "e" : Key) (.ref X15))) := upd_same
    have hs17 := hs17.keep t17
    generalize upd H16 pl (.dK (putK kv9 (Sum.inr "e" : Key) (.ref X15))) = H17 at b17 t17 S17 gp17 hs17 ⊢
    generalize (putK kv9 (Sum.inr "e" : Key) (.ref X15)) = kv17 at gp17 hs17 hl17
    refine ⟨fun σ' H' => ∃ kvs, σ' = [some (.ref p), some (.ref pl), none, none, none] ∧ StN H' p q ds ∧ Bq H0 H' p pl ∧ H' pl = some (.dK kvs) ∧ Has H' kvs [(("d" : Str), ("data" : Str)), (("e" : Str), ("data" : Str))] ∧ kvs.length ≤ 3, ?_, ?_⟩
    · refine ⟨_, rfl, p, q, ds, 9, rfl, S17, by decide, fun H18 v16 S18 e18 lov16 hiv16 => ?_⟩
      have c18 := Bt.of e18
      have b18 : Bq H17 H18 p pl := c18.q
      have t18 : TupK H17 H18 := c18.tk S17
      refine ⟨rfl, _, rfl, ite2 (fun e => ?_) (fun e => ?_)⟩
      · refine ⟨by show 2 ≤ sizeLine; decide, fun X17 hX17 => ?_⟩
        have c19 : Bt H18 (upd H18 X17 (.tup [.int 0, .str "num"])) p := Bt.same (same_upd hX17)
        have S19 := S18.sm (same_upd (o := (.tup [.int 0, .str "num"])) hX17)
        have gX17 : upd H18 X17 (.tup [.int 0, .str "num"]) X17 = some (.tup [vi 0, .str "num"]) := upd_same
        have nX17 := S18.nn hX17
        generalize upd H18 X17 (.tup [.int 0, .str "num"]) = H19 at c19 S19 gX17 ⊢
        have b19 : Bq H18 H19 p pl := c19.q
        have t19 : TupK H18 H19 := c19.tk S18
        refine ⟨by show 1 ≤ sizeLine; decide, fun X18 hX18 => ?_⟩
        have c20 : Bt H19 (upd H19 X18 (.tup [.ref X17])) p := Bt.same (same_upd hX18)
        have S20 := S19.sm (same_upd (o := (.tup [.ref X17])) hX18)
        have gX18 : upd H19 X18 (.tup [.ref X17]) X18 = some (.tup [.ref X17]) := upd_same
        have nX18 := S19.nn hX18
        generalize upd H19 X18 (.tup [.ref X17]) = H20 at c20 S20 gX18 ⊢
        have b20 : Bq H19 H20 p pl := c20.q
        have t20 : TupK H19 H20 := c20.tk S19
        refine ⟨by show 2 ≤ sizeLine; decide, fun X19 hX19 => ?_⟩
        have c21 : Bt H20 (upd H20 X19 (.tup [.str "One", .ref X18])) p := Bt.same (same_upd hX19)
        have S21 := S20.sm (same_upd (o := (.tup [.str "One", .ref X18])) hX19)
        have gX19 : upd H20 X19 (.tup [.str "One", .ref X18]) X19 = some (.tup [.str "One", .ref X18]) := upd_same
        have nX19 := S20.nn hX19
        generalize upd H20 X19 (.tup [.str "One", .ref X18]) = H21 at c21 S21 gX19 ⊢
        have b21 : Bq H20 H21 p pl := c21.q
        have t21 : TupK H20 H21 := c21.tk S20
        refine ⟨by show 2 ≤ sizeLine; decide, fun X20 hX20 => ?_⟩
        have c22 : Bt H21 (upd H21 X20 (.lst [.str "Leaf", .str "One"])) p := Bt.same (same_upd hX20)
        have S22 := S21.sm (same_upd (o := (.lst [.str "Leaf", .str "One"])) hX20)
        have gX20 : upd H21 X20 (.lst [.str "Leaf", .str "One"]) X20 = some (.lst [.str "Leaf", .str "One"]) := upd_same
        have nX20 := S21.nn hX20
        generalize upd H21 X20 (.lst [.str "Leaf", .str "One"]) = H22 at c22 S22 gX20 ⊢
        have b22 : Bq H21 H22 p pl := c22.q
        have t22 : TupK H21 H22 := c22.tk S21
        refine ⟨_, rfl, p, q, ds, 2, rfl, S22, by decide, fun H23 v21 S23 e23 lov21 hiv21 => ?_⟩
        have c23 := Bt.of e23
        have b23 : Bq H22 H23 p pl := c23.q
        have t23 : TupK H22 H23 := c23.tk S22
        obtain ⟨mn, hmn, amn⟩ := pick_str (ls := ["Leaf", "One"]) lov21 hiv21
        have hmu : mn ∈ UPP := (show ∀ y ∈ (["Leaf", "One"] : List Str), y ∈ UPP by decide +kernel) mn hmn
        refine ⟨X20, _, _, .str mn, rfl, rfl, SqL.of (c23 _ _ gX20 nX20), amn, ?_⟩
        refine ⟨Nat.zero_le _, fun X22 hX22 => ?_⟩
        have c24 : Bt H23 (upd H23 X22 (.tup [])) p := Bt.same (same_upd hX22)
        have S24 := S23.sm (same_upd (o := (.tup [])) hX22)
        have gX22 : upd H23 X22 (.tup []) X22 = some (.tup []) := upd_same
        have nX22 := S23.nn hX22
        generalize upd H23 X22 (.tup []) = H24 at c24 S24 gX22 ⊢
        have b24 : Bq H23 H24 p pl := c24.q
        have t24 : TupK H23 H24 := c24.tk S23
        refine ⟨by show 2 ≤ sizeLine; decide, fun X23 hX23 => ?_⟩
        have c25 : Bt H24 (upd H24 X23 (.tup [.str mn, .ref X22])) p := Bt.same (same_upd hX23)
        have S25 := S24.sm (same_upd (o := (.tup [.str mn, .ref X22])) hX23)
        have gX23 : upd H24 X23 (.tup [.str mn, .ref X22]) X23 = some (.tup [.str mn, .ref X22]) := upd_same
        have nX23 := S24.nn hX23
        generalize upd H24 X23 (.tup [.str mn, .ref X22]) = H25 at c25 S25 gX23 ⊢
        have b25 : Bq H24 H25 p pl := c25.q
        have t25 : TupK H24 H25 := c25.tk S24
        refine ⟨by show 2 ≤ sizeLine; decide, fun X24 hX24 => ?_⟩
        have c26 : Bt H25 (upd H25 X24 (.tup [.ref X19, .ref X23])) p := Bt.same (same_upd hX24)
        have S26 := S25.sm (same_upd (o := (.tup [.ref X19, .ref X23])) hX24)
        have gX24 : upd H25 X24 (.tup [.ref X19, .ref X23]) X24 = some (.tup [.ref X19, .ref X23]) := upd_same
        have nX24 := S25.nn hX24
        generalize upd H25 X24 (.tup [.ref X19, .ref X23]) = H26 at c26 S26 gX24 ⊢
        have b26 : Bq H25 H26 p pl := c26.q
        have t26 : TupK H25 H26 := c26.tk S25
        refine ⟨by show 2 ≤ sizeLine; decide, fun X25 hX25 => ?_⟩
        have c27 : Bt H26 (upd H26 X25 (.tup [.str "data", .ref X24])) p := Bt.same (same_upd hX25)
        have S27 := S26.sm (same_upd (o := (.tup [.str "data", .ref X24])) hX25)
        have gX25 : upd H26 X25 (.tup [.str "data", .ref X24]) X25 = some (.tup [.str "data", .ref X24]) := upd_same
        have nX25 := S26.nn hX25
        generalize upd H26 X25 (.tup [.str "data", .ref X24]) = H27 at c27 S27 gX25 ⊢
        have b27 : Bq H26 H27 p pl := c27.q
        have t27 : TupK H26 H27 := c27.tk S26
        have hs28 : Has H27 (putK kv17 (Sum.inr "e" : Key) (.ref X25)) ((([] ++ [(("d" : Str), ("data" : Str))]) ++ [(("e" : Str), ("data" : Str))]) ++ [(("e" : Str), ("data" : Str))]) := Has.put ((hs17.keep (TupK.tr t18 (TupK.tr t19 (TupK.tr t20 (TupK.tr t21 (TupK.tr t22 (TupK.tr t23 (TupK.tr t24 (TupK.tr t25 (TupK.tr t26 t27))))))))))) (x := "e") (f := "data") (.inl ⟨rfl, X25, X24, _, _, rfl, gX25, (t27 _ _ gX24), ⟨("One", [(0, "num")]), X19, .ref X18, rfl, ((TupK.tr t22 (TupK.tr t23 (TupK.tr t24 (TupK.tr t25 (TupK.tr t26 t27))))) _ _ gX19), (show ("One" : Str) ∈ UPP by decide +kernel), X18, _, rfl, ((TupK.tr t21 (TupK.tr t22 (TupK.tr t23 (TupK.tr t24 (TupK.tr t25 (TupK.tr t26 t27)))))) _ _ gX18), by show 1 ≤ 2; decide, .one ⟨(show ("num" : Str) ∈ BASES by decide +kernel), X17, rfl, ((TupK.tr t20 (TupK.tr t21 (TupK.tr t22 (TupK.tr t23 (TupK.tr t24 (TupK.tr t25 (TupK.tr t26 t27))))))) _ _ gX17)⟩⟩, ⟨(mn, []), X23, .ref X22, rfl, ((TupK.tr t26 t27) _ _ gX23), hmu, X22, [], rfl, ((TupK.tr t25 (TupK.tr t26 t27)) _ _ gX22), by decide, .nil⟩⟩) (by decide +kernel)
        have gd28 := ((Bt.tr c18 (Bt.tr c19 (Bt.tr c20 (Bt.tr c21 (Bt.tr c22 (Bt.tr c23 (Bt.tr c24 (Bt.tr c25 (Bt.tr c26 c27))))))))) _ _ gp17 npl)
        have hl28 : ((putK kv17 (Sum.inr "e" : Key) (.ref X25))).length ≤ 3 := by have := length_putK kv17 (Sum.inr "e" : Key) (.ref X25); omega
        refine ⟨_, rfl, pl, _, rfl, DPut.k (k := .inr "e") gd28 (by omega), ?_⟩
        have b28 : Bq H27 (upd H27 pl (.dK (putK kv17 (Sum.inr "e" : Key) (.ref X25)))) p pl := fun z o h n m => by rw [upd_ne m]; exact h
        have t28 : TupK H27 (upd H27 pl (.dK (putK kv17 (Sum.inr "e" : Key) (.ref X25)))) := tk_upd fun xs e => by rw [gd28] at e; cases e
        have S28 := S27.lst (o := .dK (putK kv17 (Sum.inr "e" : Key) (.ref X25))) npl nplq
        have gp28 : (upd H27 pl (.dK (putK kv17 (Sum.inr "e" : Key) (.ref X25)))) pl = some (.dK (putK kv17 (Sum.inr "e" : Key) (.ref X25))) := upd_same
        have hs28 := hs28.keep t28
        generalize upd H27 pl (.dK (putK kv17 (Sum.inr "e" : Key) (.ref X25))) = H28 at b28 t28 S28 gp28 hs28 ⊢
        generalize (putK kv17 (Sum.inr "e" : Key) (.ref X25)) = kv28 at gp28 hs28 hl28
        exact ⟨_, rfl, S28, (Bq.tr b1 (Bq.tr b2 (Bq.tr b3 (Bq.tr b4 (Bq.tr b5 (Bq.tr b6 (Bq.tr b7 (Bq.tr b8 (Bq.tr b9 (Bq.tr b10 (Bq.tr b11 (Bq.tr b12 (Bq.tr b13 (Bq.tr b14 (Bq.tr b15 (Bq.tr b16 (Bq.tr b17 (Bq.tr b18 (Bq.tr b19 (Bq.tr b20 (Bq.tr b21 (Bq.tr b22 (Bq.tr b23 (Bq.tr b24 (Bq.tr b25 (Bq.tr b26 (Bq.tr b27 b28))))))))))))))))))))))))))), gp28, fun e he => hs28 e (List.mem_append_left _ he), by omega⟩
      · exact ⟨_, rfl, S18, (Bq.tr b1 (Bq.tr b2 (Bq.tr b3 (Bq.tr b4 (Bq.tr b5 (Bq.tr b6 (Bq.tr b7 (Bq.tr b8 (Bq.tr b9 (Bq.tr b10 (Bq.tr b11 (Bq.tr b12 (Bq.tr b13 (Bq.tr b14 (Bq.tr b15 (Bq.tr b16 (Bq.tr b17 b18))))))))))))))))), (c18 _ _ gp17 npl), fun e he => (hs17.keep t18) e he, by omega⟩
    · rintro σ' H1 ⟨kv1, rfl, S1, b1, g1, hs1, hl1⟩
      -- fun
      refine ⟨by show 4 ≤ sizeLine; decide, fun N hN => ?_⟩
      have c2 : Bt H1 (upd H1 N (.lst [.str "f", .str "g", .str "h", .str "k"])) p := Bt.same (same_upd hN)
      have S2 := S1.sm (same_upd (o := (.lst [.str "f", .str "g", .str "h", .str "k"])) hN)
      have gN : upd H1 N (.lst [.str "f", .str "g", .str "h", .str "k"]) N = some (.lst ((["f", "g", "h", "k"] : List Str).map V.str)) := upd_same
      have nN := S1.nn hN
      have nNp : N ≠ pl := fun e => by rw [e, g1] at hN; cases hN
      have g2 := c2 _ _ g1 npl
      have hs2 := hs1.keep (c2.tk S1)
      have b2 := Bq.tr b1 c2.q
      generalize upd H1 N (.lst [.str "f", .str "g", .str "h", .str "k"]) = H2 at c2 S2 gN g2 hs2 b2 ⊢
      refine ⟨N, rfl, ⟨_, SqL.of gN⟩, ?_⟩
      refine for_it walk_list (fun j σ H' => ∃ (y2 y3 : Option V) (kvs : List (Key × V)), σ = [some (.ref p), some (.ref pl), y2, y3, none] ∧ StN H' p q ds ∧ Bq H2 H' p pl ∧ H' pl = some (.dK kvs) ∧ Has H' kvs ([(("d" : Str), ("data" : Str)), (("e" : Str), ("data" : Str))] ++ ((["f", "g", "h", "k"] : List Str).take j).map (fun x : Str => (x, ("fun" : Str)))) ∧ kvs.length ≤ 3 + j) ⟨_, _, kv1, rfl, S2, fun _ _ h _ _ => h, g2, by simpa using hs2, hl1⟩ (fun j σ H' _ ⟨_, _, _, _, _, f, _⟩ => SqL.of (f _ _ gN nN nNp)) ?_ ?_
      · rintro j y σ G0z G0 hj ⟨y2, y3, kv0, rfl, S0, bb, g0, hs0, hl0⟩ ⟨rfl, hy⟩
        rw [List.getElem?_map] at hy
        obtain ⟨x, hx, rfl⟩ : ∃ x, (["f", "g", "h", "k"] : List Str)[j]? = some x ∧ y = .str x := by
          cases e : (["f", "g", "h", "k"] : List Str)[j]? with
          | none => rw [e] at hy; cases hy
          | some x => rw [e] at hy; cases hy; exact ⟨x, rfl, rfl⟩
        have hj2 : j < 4 := hj
        have hgood : ∀ e ∈ [(("d" : Str), ("data" : Str)), (("e" : Str), ("data" : Str))] ++ ((["f", "g", "h", "k"] : List Str).take j).map (fun x : Str => (x, ("fun" : Str))), e.1 = x → e.2 = "fun" := fun e he hex => by
          rcases List.mem_append.mp he with he | he
          · exact absurd hex ((show ∀ e ∈ [(("d" : Str), ("data" : Str)), (("e" : Str), ("data" : Str))], ∀ x ∈ (["f", "g", "h", "k"] : List Str), ¬ e.1 = x by decide +kernel) e he x (List.mem_of_getElem? hx))
          · obtain ⟨z, _, rfl⟩ := List.mem_map.mp he; rfl
        have eL : [(("d" : Str), ("data" : Str)), (("e" : Str), ("data" : Str))] ++ ((["f", "g", "h", "k"] : List Str).take (j + 1)).map (fun x : Str => (x, ("fun" : Str))) = ([(("d" : Str), ("data" : Str)), (("e" : Str), ("data" : Str))] ++ ((["f", "g", "h", "k"] : List Str).take j).map (fun x : Str => (x, ("fun" : Str)))) ++ [(x, ("fun" : Str))] := by rw [take_snoc hx, List.map_append, List.append_assoc]; rfl
        refine ⟨_, rfl, p, q, ds, 3, rfl, S0, by decide, fun G1 v1 S1 e1 lov1 hiv1 => ?_⟩
        have c1 := Bt.of e1
        have b1 : Bq G0 G1 p pl := c1.q
        have t1 : TupK G0 G1 := c1.tk S0
        refine ⟨v1, rfl, by omega, by omega, fun D hD => ?_⟩
        have nD := S1.nn hD
        have gpl1 := c1 _ _ g0 npl
        have nDpl : D ≠ pl := fun e => by rw [e, gpl1] at hD; cases hD
        have nDq : D ≠ q := fun e => by
          obtain ⟨h1, _⟩ := S1
          rw [← e, hD] at h1
          cases h1
        refine lc_range (lo := 0) (n := (v1).toNat) (fun i H' => StN H' p q ds ∧ Bt G1 H' p ∧ ∃ us, H' D = some (.lst us) ∧ us.length = i ∧ ∀ u ∈ us, KdP H' u) ⟨S1.sm (same_upd hD), Bt.same (same_upd hD), [], upd_same, rfl, fun u h => by cases h⟩ ?_ ?_
        · rintro i K1 hi ⟨S1, d1, us, hD1, hul, hus⟩
          refine ⟨rfl, lc_yes ⟨_, rfl, p, q, ds, rfl, S1, fun K2 r S2 d2 kr => ?_⟩⟩
          have hD2 := d2 _ _ hD1 nD
          have kU : TupK K2 (upd K2 D (.lst (us ++ [r]))) := tk_lst hD2
          refine ⟨us, hD2, by omega, S2.lst nD nDq, fun z o h n => by rw [upd_ne (ne_of_none h hD)]; exact d2 _ _ (d1 _ _ h n) n, us ++ [r], upd_same, by rw [List.length_append, hul]; rfl, fun u hu => ?_⟩
          rcases List.mem_append.mp hu with hu | hu
          · exact ((hus u hu).keep (d2.tk S1)).keep kU
          · rw [List.mem_singleton.mp hu]; exact kr.keep kU
        rintro K1 ⟨SK, dK, us, hDK, hul, hus⟩
        refine ⟨D, us, rfl, .inl ⟨SqL.of hDK, fun T hT => ?_⟩⟩
        have nT := SK.nn hT
        have hul2 : us.length ≤ 2 := by omega
        have ST := SK.sm (same_upd (o := .tup us) hT)
        have dT : Bt G1 (upd K1 T (.tup us)) p := Bt.tr dK (Bt.same (same_upd hT))
        have gT : upd K1 T (.tup us) T = some (.tup us) := upd_same
        have hus2 : ∀ u ∈ us, KdP (upd K1 T (.tup us)) u := fun u hu => (hus u hu).keep (TupK.of (same_upd hT))
        generalize upd K1 T (.tup us) = G2 at ST dT gT hus2 ⊢
        have S2 := ST
        have c2 := dT
        have b2 : Bq G1 G2 p pl := c2.q
        have t2 : TupK G1 G2 := c2.tk S1
        have ksT : KdsP G2 (.ref T) := by
          obtain ⟨ks, hks⟩ : ∃ ks, All2 (KdAt G2) us ks := all2_ex us hus2
          exact ⟨ks, T, us, rfl, gT, hul2, hks⟩
        refine ⟨_, rfl, _, rfl, p, q, ds, rfl, S2, fun G3 r2 S3 c3 kr2 => ?_⟩
        have b3 : Bq G2 G3 p pl := c3.q
        have t3 : TupK G2 G3 := c3.tk S2
        refine ⟨by show 3 ≤ sizeLine; decide, fun X3 hX3 => ?_⟩
        have c4 : Bt G3 (upd G3 X3 (.tup [.str "fun", .ref T, r2])) p := Bt.same (same_upd hX3)
        have S4 := S3.sm (same_upd (o := (.tup [.str "fun", .ref T, r2])) hX3)
        have gX3 : upd G3 X3 (.tup [.str "fun", .ref T, r2]) X3 = some (.tup [.str "fun", .ref T, r2]) := upd_same
        have nX3 := S3.nn hX3
        generalize upd G3 X3 (.tup [.str "fun", .ref T, r2]) = G4 at c4 S4 gX3 ⊢
        have b4 : Bq G3 G4 p pl := c4.q
        have t4 : TupK G3 G4 := c4.tk S3
        have hsN : Has G4 (putK kv0 (Sum.inr x : Key) (.ref X3)) (([(("d" : Str), ("data" : Str)), (("e" : Str), ("data" : Str))] ++ ((["f", "g", "h", "k"] : List Str).take j).map (fun x : Str => (x, ("fun" : Str)))) ++ [(x, ("fun" : Str))]) := Has.put ((hs0.keep (TupK.tr t1 (TupK.tr t2 (TupK.tr t3 t4))))) (x := x) (f := "fun") (.inr ⟨by decide +kernel, X3, _, _, rfl, gX3, (ksT.keep (TupK.tr t3 t4)), (kr2.keep t4)⟩) hgood
        have gd := (Bt.tr c1 (Bt.tr c2 (Bt.tr c3 c4))) _ _ g0 npl
        have hlen := length_putK kv0 (Sum.inr x : Key) (.ref X3)
        refine ⟨_, rfl, _, rfl, pl, _, rfl, DPut.k (k := .inr x) gd (by omega), ?_⟩
        have tN : TupK G4 (upd G4 pl (.dK (putK kv0 (Sum.inr x : Key) (.ref X3)))) := tk_upd fun xs e => by rw [gd] at e; cases e
        refine ⟨_, _, (putK kv0 (Sum.inr x : Key) (.ref X3)), rfl, S4.lst npl nplq, fun z o h n m => by rw [upd_ne m]; exact Bq.tr bb (Bq.tr b1 (Bq.tr b2 (Bq.tr b3 b4))) z o h n m, upd_same, by rw [eL]; exact hsN.keep tN, by omega⟩
      rintro σ H1 ⟨y2, y3, kv1, rfl, S1, b1, g1, hs1, hl1⟩
      have hs1 : Has H1 kv1 [(("d" : Str), ("data" : Str)), (("e" : Str), ("data" : Str)), (("f" : Str), ("fun" : Str)), (("g" : Str), ("fun" : Str)), (("h" : Str), ("fun" : Str)), (("k" : Str), ("fun" : Str))] := hs1
      have b1 := Bq.tr b2 b1
      have hl1 : kv1.length ≤ 7 := hl1
      -- cell
      refine ⟨by show 2 ≤ sizeLine; decide, fun N hN => ?_⟩
      have c2 : Bt H1 (upd H1 N (.lst [.str "c", .str "m"])) p := Bt.same (same_upd hN)
      have S2 := S1.sm (same_upd (o := (.lst [.str "c", .str "m"])) hN)
      have gN : upd H1 N (.lst [.str "c", .str "m"]) N = some (.lst ((["c", "m"] : List Str).map V.str)) := upd_same
      have nN := S1.nn hN
      have nNp : N ≠ pl := fun e => by rw [e, g1] at hN; cases hN
      have g2 := c2 _ _ g1 npl
      have hs2 := hs1.keep (c2.tk S1)
      have b2 := Bq.tr b1 c2.q
      generalize upd H1 N (.lst [.str "c", .str "m"]) = H2 at c2 S2 gN g2 hs2 b2 ⊢
      refine ⟨N, rfl, ⟨_, SqL.of gN⟩, ?_⟩
      refine for_it walk_list (fun j σ H' => ∃ (y2 y3 : Option V) (kvs : List (Key × V)), σ = [some (.ref p), some (.ref pl), y2, y3, none] ∧ StN H' p q ds ∧ Bq H2 H' p pl ∧ H' pl = some (.dK kvs) ∧ Has H' kvs ([(("d" : Str), ("data" : Str)), (("e" : Str), ("data" : Str)), (("f" : Str), ("fun" : Str)), (("g" : Str), ("fun" : Str)), (("h" : Str), ("fun" : Str)), (("k" : Str), ("fun" : Str))] ++ ((["c", "m"] : List Str).take j).map (fun x : Str => (x, ("cell" : Str)))) ∧ kvs.length ≤ 7 + j) ⟨_, _, kv1, rfl, S2, fun _ _ h _ _ => h, g2, by simpa using hs2, hl1⟩ (fun j σ H' _ ⟨_, _, _, _, _, f, _⟩ => SqL.of (f _ _ gN nN nNp)) ?_ ?_
      · rintro j y σ G0z G0 hj ⟨y2, y3, kv0, rfl, S0, bb, g0, hs0, hl0⟩ ⟨rfl, hy⟩
        rw [List.getElem?_map] at hy
        obtain ⟨x, hx, rfl⟩ : ∃ x, (["c", "m"] : List Str)[j]? = some x ∧ y = .str x := by
          cases e : (["c", "m"] : List Str)[j]? with
          | none => rw [e] at hy; cases hy
          | some x => rw [e] at hy; cases hy; exact ⟨x, rfl, rfl⟩
        have hj2 : j < 2 := hj
        have hgood : ∀ e ∈ [(("d" : Str), ("data" : Str)), (("e" : Str), ("data" : Str)), (("f" : Str), ("fun" : Str)), (("g" : Str), ("fun" : Str)), (("h" : Str), ("fun" : Str)), (("k" : Str), ("fun" : Str))] ++ ((["c", "m"] : List Str).take j).map (fun x : Str => (x, ("cell" : Str))), e.1 = x → e.2 = "cell" := fun e he hex => by
          rcases List.mem_append.mp he with he | he
          · exact absurd hex ((show ∀ e ∈ [(("d" : Str), ("data" : Str)), (("e" : Str), ("data" : Str)), (("f" : Str), ("fun" : Str)), (("g" : Str), ("fun" : Str)), (("h" : Str), ("fun" : Str)), (("k" : Str), ("fun" : Str))], ∀ x ∈ (["c", "m"] : List Str), ¬ e.1 = x by decide +kernel) e he x (List.mem_of_getElem? hx))
          · obtain ⟨z, _, rfl⟩ := List.mem_map.mp he; rfl
        have eL : [(("d" : Str), ("data" : Str)), (("e" : Str), ("data" : Str)), (("f" : Str), ("fun" : Str)), (("g" : Str), ("fun" : Str)), (("h" : Str), ("fun" : Str)), (("k" : Str), ("fun" : Str))] ++ ((["c", "m"] : List Str).take (j + 1)).map (fun x : Str => (x, ("cell" : Str))) = ([(("d" : Str), ("data" : Str)), (("e" : Str), ("data" : Str)), (("f" : Str), ("fun" : Str)), (("g" : Str), ("fun" : Str)), (("h" : Str), ("fun" : Str)), (("k" : Str), ("fun" : Str))] ++ ((["c", "m"] : List Str).take j).map (fun x : Str => (x, ("cell" : Str)))) ++ [(x, ("cell" : Str))] := by rw [take_snoc hx, List.map_append, List.append_assoc]; rfl
        refine ⟨Nat.zero_le _, fun X1 hX1 => ?_⟩
        have c1 : Bt G0 (upd G0 X1 (.tup [])) p := Bt.same (same_upd hX1)
        have S1 := S0.sm (same_upd (o := (.tup [])) hX1)
        have gX1 : upd G0 X1 (.tup []) X1 = some (.tup []) := upd_same
        have nX1 := S0.nn hX1
        generalize upd G0 X1 (.tup []) = G1 at c1 S1 gX1 ⊢
        have b1 : Bq G0 G1 p pl := c1.q
        have t1 : TupK G0 G1 := c1.tk S0
        refine ⟨_, rfl, p, q, ds, rfl, S1, fun G2 r2 S2 c2 kr2 => ?_⟩
        have b2 : Bq G1 G2 p pl := c2.q
        have t2 : TupK G1 G2 := c2.tk S1
        refine ⟨by show 3 ≤ sizeLine; decide, fun X3 hX3 => ?_⟩
        have c3 : Bt G2 (upd G2 X3 (.tup [.str "cell", .ref X1, r2])) p := Bt.same (same_upd hX3)
        have S3 := S2.sm (same_upd (o := (.tup [.str "cell", .ref X1, r2])) hX3)
        have gX3 : upd G2 X3 (.tup [.str "cell", .ref X1, r2]) X3 = some (.tup [.str "cell", .ref X1, r2]) := upd_same
        have nX3 := S2.nn hX3
        generalize upd G2 X3 (.tup [.str "cell", .ref X1, r2]) = G3 at c3 S3 gX3 ⊢
        have b3 : Bq G2 G3 p pl := c3.q
        have t3 : TupK G2 G3 := c3.tk S2
        have hsN : Has G3 (putK kv0 (Sum.inr x : Key) (.ref X3)) (([(("d" : Str), ("data" : Str)), (("e" : Str), ("data" : Str)), (("f" : Str), ("fun" : Str)), (("g" : Str), ("fun" : Str)), (("h" : Str), ("fun" : Str)), (("k" : Str), ("fun" : Str))] ++ ((["c", "m"] : List Str).take j).map (fun x : Str => (x, ("cell" : Str)))) ++ [(x, ("cell" : Str))]) := Has.put ((hs0.keep (TupK.tr t1 (TupK.tr t2 t3)))) (x := x) (f := "cell") (.inr ⟨by decide +kernel, X3, _, _, rfl, gX3, ⟨[], X1, [], rfl, ((TupK.tr t2 t3) _ _ gX1), by decide, .nil⟩, (kr2.keep t3)⟩) hgood
        have gd := (Bt.tr c1 (Bt.tr c2 c3)) _ _ g0 npl
        have hlen := length_putK kv0 (Sum.inr x : Key) (.ref X3)
        refine ⟨_, rfl, _, rfl, pl, _, rfl, DPut.k (k := .inr x) gd (by omega), ?_⟩
        have tN : TupK G3 (upd G3 pl (.dK (putK kv0 (Sum.inr x : Key) (.ref X3)))) := tk_upd fun xs e => by rw [gd] at e; cases e
        refine ⟨_, _, (putK kv0 (Sum.inr x : Key) (.ref X3)), rfl, S3.lst npl nplq, fun z o h n m => by rw [upd_ne m]; exact Bq.tr bb (Bq.tr b1 (Bq.tr b2 b3)) z o h n m, upd_same, by rw [eL]; exact hsN.keep tN, by omega⟩
      rintro σ H1 ⟨y2, y3, kv1, rfl, S1, b1, g1, hs1, hl1⟩
      have hs1 : Has H1 kv1 [(("d" : Str), ("data" : Str)), (("e" : Str), ("data" : Str)), (("f" : Str), ("fun" : Str)), (("g" : Str), ("fun" : Str)), (("h" : Str), ("fun" : Str)), (("k" : Str), ("fun" : Str)), (("c" : Str), ("cell" : Str)), (("m" : Str), ("cell" : Str))] := hs1
      have b1 := Bq.tr b2 b1
      have hl1 : kv1.length ≤ 9 := hl1
      -- view
      refine ⟨by show 2 ≤ sizeLine; decide, fun N hN => ?_⟩
      have c2 : Bt H1 (upd H1 N (.lst [.str "v", .str "w"])) p := Bt.same (same_upd hN)
      have S2 := S1.sm (same_upd (o := (.lst [.str "v", .str "w"])) hN)
      have gN : upd H1 N (.lst [.str "v", .str "w"]) N = some (.lst ((["v", "w"] : List Str).map V.str)) := upd_same
      have nN := S1.nn hN
      have nNp : N ≠ pl := fun e => by rw [e, g1] at hN; cases hN
      have g2 := c2 _ _ g1 npl
      have hs2 := hs1.keep (c2.tk S1)
      have b2 := Bq.tr b1 c2.q
      generalize upd H1 N (.lst [.str "v", .str "w"]) = H2 at c2 S2 gN g2 hs2 b2 ⊢
      refine ⟨N, rfl, ⟨_, SqL.of gN⟩, ?_⟩
      refine for_it walk_list (fun j σ H' => ∃ (y2 y3 : Option V) (kvs : List (Key × V)), σ = [some (.ref p), some (.ref pl), y2, y3, none] ∧ StN H' p q ds ∧ Bq H2 H' p pl ∧ H' pl = some (.dK kvs) ∧ Has H' kvs ([(("d" : Str), ("data" : Str)), (("e" : Str), ("data" : Str)), (("f" : Str), ("fun" : Str)), (("g" : Str), ("fun" : Str)), (("h" : Str), ("fun" : Str)), (("k" : Str), ("fun" : Str)), (("c" : Str), ("cell" : Str)), (("m" : Str), ("cell" : Str))] ++ ((["v", "w"] : List Str).take j).map (fun x : Str => (x, ("view" : Str)))) ∧ kvs.length ≤ 9 + j) ⟨_, _, kv1, rfl, S2, fun _ _ h _ _ => h, g2, by simpa using hs2, hl1⟩ (fun j σ H' _ ⟨_, _, _, _, _, f, _⟩ => SqL.of (f _ _ gN nN nNp)) ?_ ?_
      · rintro j y σ G0z G0 hj ⟨y2, y3, kv0, rfl, S0, bb, g0, hs0, hl0⟩ ⟨rfl, hy⟩
        rw [List.getElem?_map] at hy
        obtain ⟨x, hx, rfl⟩ : ∃ x, (["v", "w"] : List Str)[j]? = some x ∧ y = .str x := by
          cases e : (["v", "w"] : List Str)[j]? with
          | none => rw [e] at hy; cases hy
          | some x => rw [e] at hy; cases hy; exact ⟨x, rfl, rfl⟩
        have hj2 : j < 2 := hj
        have hgood : ∀ e ∈ [(("d" : Str), ("data" : Str)), (("e" : Str), ("data" : Str)), (("f" : Str), ("fun" : Str)), (("g" : Str), ("fun" : Str)), (("h" : Str), ("fun" : Str)), (("k" : Str), ("fun" : Str)), (("c" : Str), ("cell" : Str)), (("m" : Str), ("cell" : Str))] ++ ((["v", "w"] : List Str).take j).map (fun x : Str => (x, ("view" : Str))), e.1 = x → e.2 = "view" := fun e he hex => by
          rcases List.mem_append.mp he with he | he
          · exact absurd hex ((show ∀ e ∈ [(("d" : Str), ("data" : Str)), (("e" : Str), ("data" : Str)), (("f" : Str), ("fun" : Str)), (("g" : Str), ("fun" : Str)), (("h" : Str), ("fun" : Str)), (("k" : Str), ("fun" : Str)), (("c" : Str), ("cell" : Str)), (("m" : Str), ("cell" : Str))], ∀ x ∈ (["v", "w"] : List Str), ¬ e.1 = x by decide +kernel) e he x (List.mem_of_getElem? hx))
          · obtain ⟨z, _, rfl⟩ := List.mem_map.mp he; rfl
        have eL : [(("d" : Str), ("data" : Str)), (("e" : Str), ("data" : Str)), (("f" : Str), ("fun" : Str)), (("g" : Str), ("fun" : Str)), (("h" : Str), ("fun" : Str)), (("k" : Str), ("fun" : Str)), (("c" : Str), ("cell" : Str)), (("m" : Str), ("cell" : Str))] ++ ((["v", "w"] : List Str).take (j + 1)).map (fun x : Str => (x, ("view" : Str))) = ([(("d" : Str), ("data" : Str)), (("e" : Str), ("data" : Str)), (("f" : Str), ("fun" : Str)), (("g" : Str), ("fun" : Str)), (("h" : Str), ("fun" : Str)), (("k" : Str), ("fun" : Str)), (("c" : Str), ("cell" : Str)), (("m" : Str), ("cell" : Str))] ++ ((["v", "w"] : List Str).take j).map (fun x : Str => (x, ("view" : Str)))) ++ [(x, ("view" : Str))] := by rw [take_snoc hx, List.map_append, List.append_assoc]; rfl
        refine ⟨Nat.zero_le _, fun X1 hX1 => ?_⟩
        have c1 : Bt G0 (upd G0 X1 (.tup [])) p := Bt.same (same_upd hX1)
        have S1 := S0.sm (same_upd (o := (.tup [])) hX1)
        have gX1 : upd G0 X1 (.tup []) X1 = some (.tup []) := upd_same
        have nX1 := S0.nn hX1
        generalize upd G0 X1 (.tup []) = G1 at c1 S1 gX1 ⊢
        have b1 : Bq G0 G1 p pl := c1.q
        have t1 : TupK G0 G1 := c1.tk S0
        refine ⟨_, rfl, p, q, ds, rfl, S1, fun G2 r2 S2 c2 kr2 => ?_⟩
        have b2 : Bq G1 G2 p pl := c2.q
        have t2 : TupK G1 G2 := c2.tk S1
        refine ⟨by show 3 ≤ sizeLine; decide, fun X3 hX3 => ?_⟩
        have c3 : Bt G2 (upd G2 X3 (.tup [.str "view", .ref X1, r2])) p := Bt.same (same_upd hX3)
        have S3 := S2.sm (same_upd (o := (.tup [.str "view", .ref X1, r2])) hX3)
        have gX3 : upd G2 X3 (.tup [.str "view", .ref X1, r2]) X3 = some (.tup [.str "view", .ref X1, r2]) := upd_same
        have nX3 := S2.nn hX3
        generalize upd G2 X3 (.tup [.str "view", .ref X1, r2]) = G3 at c3 S3 gX3 ⊢
        have b3 : Bq G2 G3 p pl := c3.q
        have t3 : TupK G2 G3 := c3.tk S2
        have hsN : Has G3 (putK kv0 (Sum.inr x : Key) (.ref X3)) (([(("d" : Str), ("data" : Str)), (("e" : Str), ("data" : Str)), (("f" : Str), ("fun" : Str)), (("g" : Str), ("fun" : Str)), (("h" : Str), ("fun" : Str)), (("k" : Str), ("fun" : Str)), (("c" : Str), ("cell" : Str)), (("m" : Str), ("cell" : Str))] ++ ((["v", "w"] : List Str).take j).map (fun x : Str => (x, ("view" : Str)))) ++ [(x, ("view" : Str))]) := Has.put ((hs0.keep (TupK.tr t1 (TupK.tr t2 t3)))) (x := x) (f := "view") (.inr ⟨by decide +kernel, X3, _, _, rfl, gX3, ⟨[], X1, [], rfl, ((TupK.tr t2 t3) _ _ gX1), by decide, .nil⟩, (kr2.keep t3)⟩) hgood
        have gd := (Bt.tr c1 (Bt.tr c2 c3)) _ _ g0 npl
        have hlen := length_putK kv0 (Sum.inr x : Key) (.ref X3)
        refine ⟨_, rfl, _, rfl, pl, _, rfl, DPut.k (k := .inr x) gd (by omega), ?_⟩
        have tN : TupK G3 (upd G3 pl (.dK (putK kv0 (Sum.inr x : Key) (.ref X3)))) := tk_upd fun xs e => by rw [gd] at e; cases e
        refine ⟨_, _, (putK kv0 (Sum.inr x : Key) (.ref X3)), rfl, S3.lst npl nplq, fun z o h n m => by rw [upd_ne m]; exact Bq.tr bb (Bq.tr b1 (Bq.tr b2 b3)) z o h n m, upd_same, by rw [eL]; exact hsN.keep tN, by omega⟩
      rintro σ H1 ⟨y2, y3, kv1, rfl, S1, b1, g1, hs1, hl1⟩
      have hs1 : Has H1 kv1 [(("d" : Str), ("data" : Str)), (("e" : Str), ("data" : Str)), (("f" : Str), ("fun" : Str)), (("g" : Str), ("fun" : Str)), (("h" : Str), ("fun" : Str)), (("k" : Str), ("fun" : Str)), (("c" : Str), ("cell" : Str)), (("m" : Str), ("cell" : Str)), (("v" : Str), ("view" : Str)), (("w" : Str), ("view" : Str))] := hs1
      have b1 := Bq.tr b2 b1
      have hl1 : kv1.length ≤ 11 := hl1
      -- act
      refine ⟨by show 2 ≤ sizeLine; decide, fun N hN => ?_⟩
      have c2 : Bt H1 (upd H1 N (.lst [.str "a", .str "b"])) p := Bt.same (same_upd hN)
      have S2 := S1.sm (same_upd (o := (.lst [.str "a", .str "b"])) hN)
      have gN : upd H1 N (.lst [.str "a", .str "b"]) N = some (.lst ((["a", "b"] : List Str).map V.str)) := upd_same
      have nN := S1.nn hN
      have nNp : N ≠ pl := fun e => by rw [e, g1] at hN; cases hN
      have g2 := c2 _ _ g1 npl
      have hs2 := hs1.keep (c2.tk S1)
      have b2 := Bq.tr b1 c2.q
      generalize upd H1 N (.lst [.str "a", .str "b"]) = H2 at c2 S2 gN g2 hs2 b2 ⊢
      refine ⟨N, rfl, ⟨_, SqL.of gN⟩, ?_⟩
      refine for_it walk_list (fun j σ H' => ∃ (y2 y3 : Option V) (kvs : List (Key × V)), σ = [some (.ref p), some (.ref pl), y2, y3, none] ∧ StN H' p q ds ∧ Bq H2 H' p pl ∧ H' pl = some (.dK kvs) ∧ Has H' kvs ([(("d" : Str), ("data" : Str)), (("e" : Str), ("data" : Str)), (("f" : Str), ("fun" : Str)), (("g" : Str), ("fun" : Str)), (("h" : Str), ("fun" : Str)), (("k" : Str), ("fun" : Str)), (("c" : Str), ("cell" : Str)), (("m" : Str), ("cell" : Str)), (("v" : Str), ("view" : Str)), (("w" : Str), ("view" : Str))] ++ ((["a", "b"] : List Str).take j).map (fun x : Str => (x, ("act" : Str)))) ∧ kvs.length ≤ 11 + j) ⟨_, _, kv1, rfl, S2, fun _ _ h _ _ => h, g2, by simpa using hs2, hl1⟩ (fun j σ H' _ ⟨_, _, _, _, _, f, _⟩ => SqL.of (f _ _ gN nN nNp)) ?_ ?_
      · rintro j y σ G0z G0 hj ⟨y2, y3, kv0, rfl, S0, bb, g0, hs0, hl0⟩ ⟨rfl, hy⟩
        rw [List.getElem?_map] at hy
        obtain ⟨x, hx, rfl⟩ : ∃ x, (["a", "b"] : List Str)[j]? = some x ∧ y = .str x := by
          cases e : (["a", "b"] : List Str)[j]? with
          | none => rw [e] at hy; cases hy
          | some x => rw [e] at hy; cases hy; exact ⟨x, rfl, rfl⟩
        have hj2 : j < 2 := hj
        have hgood : ∀ e ∈ [(("d" : Str), ("data" : Str)), (("e" : Str), ("data" : Str)), (("f" : Str), ("fun" : Str)), (("g" : Str), ("fun" : Str)), (("h" : Str), ("fun" : Str)), (("k" : Str), ("fun" : Str)), (("c" : Str), ("cell" : Str)), (("m" : Str), ("cell" : Str)), (("v" : Str), ("view" : Str)), (("w" : Str), ("view" : Str))] ++ ((["a", "b"] : List Str).take j).map (fun x : Str => (x, ("act" : Str))), e.1 = x → e.2 = "act" := fun e he hex => by
          rcases List.mem_append.mp he with he | he
          · exact absurd hex ((show ∀ e ∈ [(("d" : Str), ("data" : Str)), (("e" : Str), ("data" : Str)), (("f" : Str), ("fun" : Str)), (("g" : Str), ("fun" : Str)), (("h" : Str), ("fun" : Str)), (("k" : Str), ("fun" : Str)), (("c" : Str), ("cell" : Str)), (("m" : Str), ("cell" : Str)), (("v" : Str), ("view" : Str)), (("w" : Str), ("view" : Str))], ∀ x ∈ (["a", "b"] : List Str), ¬ e.1 = x by decide +kernel) e he x (List.mem_of_getElem? hx))
          · obtain ⟨z, _, rfl⟩ := List.mem_map.mp he; rfl
        have eL : [(("d" : Str), ("data" : Str)), (("e" : Str), ("data" : Str)), (("f" : Str), ("fun" : Str)), (("g" : Str), ("fun" : Str)), (("h" : Str), ("fun" : Str)), (("k" : Str), ("fun" : Str)), (("c" : Str), ("cell" : Str)), (("m" : Str), ("cell" : Str)), (("v" : Str), ("view" : Str)), (("w" : Str), ("view" : Str))] ++ ((["a", "b"] : List Str).take (j + 1)).map (fun x : Str => (x, ("act" : Str))) = ([(("d" : Str), ("data" : Str)), (("e" : Str), ("data" : Str)), (("f" : Str), ("fun" : Str)), (("g" : Str), ("fun" : Str)), (("h" : Str), ("fun" : Str)), (("k" : Str), ("fun" : Str)), (("c" : Str), ("cell" : Str)), (("m" : Str), ("cell" : Str)), (("v" : Str), ("view" : Str)), (("w" : Str), ("view" : Str))] ++ ((["a", "b"] : List Str).take j).map (fun x : Str => (x, ("act" : Str)))) ++ [(x, ("act" : Str))] := by rw [take_snoc hx, List.map_append, List.append_assoc]; rfl
        refine ⟨_, rfl, p, q, ds, rfl, S0, fun G1 r1 S1 c1 kr1 => ?_⟩
        have b1 : Bq G0 G1 p pl := c1.q
        have t1 : TupK G0 G1 := c1.tk S0
        refine ⟨by show 1 ≤ sizeLine; decide, fun X2 hX2 => ?_⟩
        have c2 : Bt G1 (upd G1 X2 (.tup [r1])) p := Bt.same (same_upd hX2)
        have S2 := S1.sm (same_upd (o := (.tup [r1])) hX2)
        have gX2 : upd G1 X2 (.tup [r1]) X2 = some (.tup [r1]) := upd_same
        have nX2 := S1.nn hX2
        generalize upd G1 X2 (.tup [r1]) = G2 at c2 S2 gX2 ⊢
        have b2 : Bq G1 G2 p pl := c2.q
        have t2 : TupK G1 G2 := c2.tk S1
        refine ⟨_, rfl, p, q, ds, rfl, S2, fun G3 r3 S3 c3 kr3 => ?_⟩
        have b3 : Bq G2 G3 p pl := c3.q
        have t3 : TupK G2 G3 := c3.tk S2
        refine ⟨by show 3 ≤ sizeLine; decide, fun X4 hX4 => ?_⟩
        have c4 : Bt G3 (upd G3 X4 (.tup [.str "act", .ref X2, r3])) p := Bt.same (same_upd hX4)
        have S4 := S3.sm (same_upd (o := (.tup [.str "act", .ref X2, r3])) hX4)
        have gX4 : upd G3 X4 (.tup [.str "act", .ref X2, r3]) X4 = some (.tup [.str "act", .ref X2, r3]) := upd_same
        have nX4 := S3.nn hX4
        generalize upd G3 X4 (.tup [.str "act", .ref X2, r3]) = G4 at c4 S4 gX4 ⊢
        have b4 : Bq G3 G4 p pl := c4.q
        have t4 : TupK G3 G4 := c4.tk S3
        obtain ⟨kd1, hk1⟩ := (kr1.keep (TupK.tr t2 (TupK.tr t3 t4)))
        have hsN : Has G4 (putK kv0 (Sum.inr x : Key) (.ref X4)) (([(("d" : Str), ("data" : Str)), (("e" : Str), ("data" : Str)), (("f" : Str), ("fun" : Str)), (("g" : Str), ("fun" : Str)), (("h" : Str), ("fun" : Str)), (("k" : Str), ("fun" : Str)), (("c" : Str), ("cell" : Str)), (("m" : Str), ("cell" : Str)), (("v" : Str), ("view" : Str)), (("w" : Str), ("view" : Str))] ++ ((["a", "b"] : List Str).take j).map (fun x : Str => (x, ("act" : Str)))) ++ [(x, ("act" : Str))]) := Has.put ((hs0.keep (TupK.tr t1 (TupK.tr t2 (TupK.tr t3 t4))))) (x := x) (f := "act") (.inr ⟨by decide +kernel, X4, _, _, rfl, gX4, ⟨[kd1], X2, _, rfl, ((TupK.tr t3 t4) _ _ gX2), by show 1 ≤ 2; decide, .one hk1⟩, (kr3.keep t4)⟩) hgood
        have gd := (Bt.tr c1 (Bt.tr c2 (Bt.tr c3 c4))) _ _ g0 npl
        have hlen := length_putK kv0 (Sum.inr x : Key) (.ref X4)
        refine ⟨_, rfl, _, rfl, pl, _, rfl, DPut.k (k := .inr x) gd (by omega), ?_⟩
        have tN : TupK G4 (upd G4 pl (.dK (putK kv0 (Sum.inr x : Key) (.ref X4)))) := tk_upd fun xs e => by rw [gd] at e; cases e
        refine ⟨_, _, (putK kv0 (Sum.inr x : Key) (.ref X4)), rfl, S4.lst npl nplq, fun z o h n m => by rw [upd_ne m]; exact Bq.tr bb (Bq.tr b1 (Bq.tr b2 (Bq.tr b3 b4))) z o h n m, upd_same, by rw [eL]; exact hsN.keep tN, by omega⟩
      rintro σ H1 ⟨y2, y3, kv1, rfl, S1, b1, g1, hs1, hl1⟩
      have hs1 : Has H1 kv1 [(("d" : Str), ("data" : Str)), (("e" : Str), ("data" : Str)), (("f" : Str), ("fun" : Str)), (("g" : Str), ("fun" : Str)), (("h" : Str), ("fun" : Str)), (("k" : Str), ("fun" : Str)), (("c" : Str), ("cell" : Str)), (("m" : Str), ("cell" : Str)), (("v" : Str), ("view" : Str)), (("w" : Str), ("view" : Str)), (("a" : Str), ("act" : Str)), (("b" : Str), ("act" : Str))] := hs1
      have b1 := Bq.tr b2 b1
      have hl1 : kv1.length ≤ 13 := hl1
      exact ⟨_, rfl, fin H1 kv1 S1 b1 g1 hs1⟩
end
end Q11
namespace Q11
open PySem PySem.Spec PyProof.Rows L2 SX HL
/-- what stands while a term is drawn: the draws, the plan, the local names -/
structure G (H : Hp) (p q : Addr) (ds : List Int) (pl lo : Addr) (us : List V) : Prop where
  S : StN H p q ds
  P : PlanAt H pl
  np : pl ≠ p
  l : H lo = some (.lst us)
  nl : lo ≠ p
  lc : ∀ u ∈ us, LocP H u
theorem G.grow {H H' : Hp} {p q pl lo : Addr} {ds : List Int} {us : List V} (g : G H p q ds pl lo us) (b : Bt H H' p) (S' : StN H' p q ds) : G H' p q ds pl lo us :=
  ⟨S', g.P.keep b g.np (b.tk g.S), g.np, b _ _ g.l g.nl, g.nl, fun u hu => (g.lc u hu).keep (b.tk g.S)⟩
theorem kd_dp {K : PySem.W.Frag} {H : Hp} {v : V} (h : KdP H v) : ∃ d, Dp K H v d ∧ SeqAt.shaped d = true := by
  obtain ⟨t, l, b, rfl, ht, hb⟩ := h.get
  have hs : SeqAt.shaped (.tuple [.int (l : Int), .str b]) = true := by
    have cs : b = "num" ∨ b = "text" ∨ b = "bool" ∨ b = "d" ∨ b = "e" := by simpa [BASES] using hb
    rcases cs with rfl | rfl | rfl | rfl | rfl <;> (simp [SeqAt.shaped, PyData.canLay0, PyData.canLayAll0, PyData.depth, PyData.depthAll] <;> decide +kernel)
  exact ⟨.tuple [.int (l : Int), .str b], .tup (SqT.of ht) (.cons (.int _) (.cons (.str _) .nil)), hs⟩
theorem valV_mem {kvs : List (Key × V)} {k : Key} (h : ∃ kv ∈ kvs, kv.1 = k) : ∃ kv ∈ kvs, kv.1 = k ∧ valV kvs k = some kv.2 := by
  induction kvs with
  | nil => obtain ⟨kv, h, _⟩ := h; cases h
  | cons a r ih =>
    by_cases e : a.1 = k
    · exact ⟨a, List.mem_cons_self .., e, valV_pos e⟩
    · obtain ⟨kv, hkv, ek⟩ := h
      rcases List.mem_cons.mp hkv with rfl | hkv
      · exact absurd ek e
      · obtain ⟨kv', h1, h2, h3⟩ := ih ⟨kv, hkv, ek⟩
        exact ⟨kv', List.mem_cons_of_mem _ h1, h2, by rw [valV_neg e]; exact h3⟩
theorem kn_val {H : Hp} {kvs : List (Key × V)} (h : KnK H kvs) {y : Str} (hy : ∃ kv ∈ kvs, kv.1 = .inr y) : ∃ v, valV kvs (.inr y) = some v ∧ KdP H v := by
  obtain ⟨kv, h1, h2, h3⟩ := valV_mem hy
  obtain ⟨_, _, _, h4⟩ := h.2 kv h1
  exact ⟨kv.2, h3, h4⟩
def spTerm (d : Nat) : Sp := fun vs H Q _ => ∃ (p q : Addr) (ds : List Int) (pl lo : Addr) (us : List V) (kv : V) (st : Bool), vs = [.ref p, .ref pl, .ref lo, kv, .int (d : Int), .bl st] ∧ G H p q ds pl lo us ∧ us.length + 2 * d ≤ 12 ∧ KdP H kv ∧
  ∀ H' y e, StN H' p q ds → Bt H H' p → ExAt H' (d + 1) e y → Q y H'
/-- one step below a term: what choice and made give -/
def spBelow (d : Nat) : Sp := fun vs H Q _ => ∃ (p q : Addr) (ds : List Int) (pl lo : Addr) (us : List V) (kv : V) (st : Bool), vs = [.ref p, .ref pl, .ref lo, kv, .int (d : Int), .bl st] ∧ G H p q ds pl lo us ∧ us.length + 2 * d ≤ 10 ∧ KdP H kv ∧
  ∀ H' y e, StN H' p q ds → Bt H H' p → ExAt H' (d + 2) e y → Q y H'
section
variable {P : Program} {w : World} {K : PySem.W.Frag} {mg : Str → Option Value} {base : Heap}
theorem term_zero {k : Nat} (Z : Defs K mg) : FnOk P w K mg base CX0 (k + 6) Z.fLawTerm Z.fdLawTerm ["state", "plan", "local", "kind", "depth", "steady"] (spTerm 0) := by
  have GLawNext : FnOk P w K mg base CX0 (k + 3) Z.fLawNext Z.fdLawNext ["state", "limit"] spNext := ok_next Z
  have GLawDrawnKind : FnOk P w K mg base CX0 (k + 4) Z.fLawDrawnKind Z.fdLawDrawnKind ["state"] spDK := ok_dk Z
  have GLawLocals : FnOk P w K mg base CX0 (k + 1) Z.fLawLocals Z.fdLawLocals ["local"] spLocals := ok_locals Z
  have GLawPlain : FnOk P w K mg base CX0 (k + 4) Z.fLawPlain Z.fdLawPlain ["state", "kind"] spPlain := ok_plain Z
  refine Z.DLawTerm.F.ok scLawTerm (fun vs H Q E h => ?_) (fun cdv A outer s H vs Q E hr h => ?_)
  · obtain ⟨p, q, ds, pl, lo, us, kv, st, rfl, _⟩ := h
    rfl
  · obtain ⟨p, q, ds, pl, lo, us, kv, st, rfl, g, hus, hkv, qq⟩ := h
    refine ⟨_, (C8.pss_cut (ps_if (pt_cmpR op_eq (pe_call GLawNext (hr.mono (by omega)) (by rfl) Z.DLawNext.g Z.DLawNext.F.kp Z.DLawNext.b .nil pass0 (pa_cons (pv 0) (pa_cons pe_int pa_nil))) pe_int (nomark _)) (pss_one (ps_set (i := 3) scLawTerm.nd rfl (.inr rfl) (pe_call GLawDrawnKind (hr.mono (by omega)) (by rfl) Z.DLawDrawnKind.g Z.DLawDrawnKind.F.kp Z.DLawDrawnKind.b .nil pass0 (pa_cons (pv 0) pa_nil)))) pss_nil)
        (pss_cons (ps_if (pt_cmpR op_eq (pe_call GLawNext (hr.mono (by omega)) (by rfl) Z.DLawNext.g Z.DLawNext.F.kp Z.DLawNext.b .nil pass0 (pa_cons (pv 0) (pa_cons pe_int pa_nil))) pe_int (nomark _)) (pss_one (ps_ret (pe_tup (pa_cons pe_str (pa_cons (pe_ix ix_list (pe_lst (pa_cons pe_str (pa_cons pe_str (pa_cons pe_str (pa_cons pe_str pa_nil))))) (pe_call GLawNext (hr.mono (by omega)) (by rfl) Z.DLawNext.g Z.DLawNext.F.kp Z.DLawNext.b .nil pass0 (pa_cons (pv 0) (pa_cons pe_int pa_nil))) (fun _ _ => rfl)) pa_nil))))) pss_nil)
        (pss_cons (ps_set (i := 6) scLawTerm.nd rfl (.inr rfl) (pe_call GLawLocals (hr.mono (by omega)) (by rfl) Z.DLawLocals.g Z.DLawLocals.F.kp Z.DLawLocals.b .nil pass0 (pa_cons (pv 2) pa_nil)))
        (pss_cons (ps_lock (ps_setLc (i := 7) (own := [("name", 9)]) (g := (gName 9)) (by rfl) scLawTerm.nd rfl rfl (sw_true rfl rfl rfl (by decide +kernel)) (pi_keys (pv 6)) (blkOk_by (own := [("name", 9)]) (N := ["state", "plan", "local", "kind", "depth", "steady", "known", "names", "pick", "name"]) (sc := defScope sLawTerm) (by decide +kernel)) (fun _ _ _ _ _ => (pg_name (i := 9) scLawTerm.nd rfl (Or.inl rfl))) (fun _ _ _ _ _ => (pts_one (pt_cmpR (HX.op_eqDK (K := K) rfl hr.units) (pe_dget (hu_of hr) (pv 6) (pv 9) (fun _ _ => rfl)) (pv 3) (nomark _)))) (fun _ _ _ _ _ => (pv 9))))
        (C8.pss_cut (ps_if (pt_not (pt_val (pv 5))) (pss_one (ps_set (i := 7) scLawTerm.nd rfl (.inl rfl) (pe_op op_cat (pv 7) (pe_lc (own := [("name", 9)]) (g := (gName 9)) (by rfl) scLawTerm.nd (ET.pi_listK (K := K) rfl (pe_lst (pa_cons pe_str (pa_cons pe_str (pa_cons pe_str (pa_cons pe_str pa_nil)))))) (blkOk_by (own := [("name", 9)]) (N := ["state", "plan", "local", "kind", "depth", "steady", "known", "names", "pick", "name"]) (sc := defScope sLawTerm) (by decide +kernel)) (fun _ _ _ _ _ => (pg_name (i := 9) scLawTerm.nd rfl (Or.inl rfl))) (fun _ _ _ _ _ => (pts_one (PW.pt (pw_and (pt_cmp (pc_dnotin (hu_of hr) (pv 9) (pv 6))) (pw_and1 (pt_cmpR (HX.op_eqDK (K := K) rfl hr.units) (pe_ix (HL.ix_tupK (K := K) rfl) (pe_dget (hu_of hr) (pv 1) (pv 9) (fun _ _ => rfl)) pe_int (fun _ _ => rfl)) (pv 3) (nomark _))))))) (fun _ _ _ _ _ => (pv 9)))))) pss_nil)
        (pss_cons (ps_set (i := 8) scLawTerm.nd rfl (.inl rfl) (pe_call GLawNext (hr.mono (by omega)) (by rfl) Z.DLawNext.g Z.DLawNext.F.kp Z.DLawNext.b .nil pass0 (pa_cons (pv 0) (pa_cons pe_int pa_nil))))
        (pss_cons (ps_if (PW.pt (pw_and (pt_cmpR op_gt (pe_callB call_len_seq (by rfl) Z.len PySem.boot_len (pa_cons (pv 7) pa_nil)) pe_int (nomark _)) (pw_and1 (PW.pt (pw_or (pt_cmpR op_lt (pv 8) pe_int (nomark _)) (pw_or1 (pt_cmpR op_eq (pv 4) pe_int (nomark _)))))))) (pss_one (ps_ret (pe_tup (pa_cons pe_str (pa_cons (pe_ix ix_list (pv 7) (pe_call GLawNext (hr.mono (by omega)) (by rfl) Z.DLawNext.g Z.DLawNext.F.kp Z.DLawNext.b .nil pass0 (pa_cons (pv 0) (pa_cons (pe_callB call_len_seq (by rfl) Z.len PySem.boot_len (pa_cons (pv 7) pa_nil)) pa_nil))) (fun _ _ => rfl)) pa_nil))))) pss_nil)
        (pss_cons (ps_if (pt_cmpR op_eq (pv 4) pe_int (nomark _)) (pss_one (ps_ret (pe_call GLawPlain (hr.mono (by omega)) (by rfl) Z.DLawPlain.g Z.DLawPlain.F.kp Z.DLawPlain.b .nil pass0 (pa_cons (pv 0) (pa_cons (pv 3) pa_nil))))) pss_nil) pss_never)))))))), ?_⟩
    have big : 1000 ≤ sizeLine := by decide
    have S0 := g.S
    refine ⟨fun σ' H' => ∃ kv', σ' = [some (.ref p), some (.ref pl), some (.ref lo), some kv', some (.int ((0 : Nat) : Int)), some (.bl st), none, none, none, none] ∧ StN H' p q ds ∧ Bt H H' p ∧ KdP H' kv', ?_, ?_⟩
    · refine ⟨_, rfl, p, q, ds, 40, rfl, S0, by decide, fun H1 v S1 bb1 lo1 hi1 => ⟨rfl, _, rfl, ite2 (fun e => ?_) (fun e => ?_)⟩⟩
      · exact ⟨_, rfl, p, q, ds, rfl, S1, fun H2 x S2 b2 k2 => ⟨x, rfl, S2, Bt.tr (Bt.of bb1) b2, k2⟩⟩
      · exact ⟨kv, rfl, S1, Bt.of bb1, hkv.keep ((Bt.of bb1).tk S0)⟩
    clear hkv
    rintro σ' H1 ⟨kv, rfl, S1, b1, hkv⟩
    have g1 := g.grow b1 S1
    refine ⟨_, rfl, p, q, ds, 150, rfl, S1, by decide, fun H2 v S2 bb2 lo2 hi2 => ⟨rfl, _, rfl, ite2 (fun e => ?_) (fun e => ?_)⟩⟩
    · have b2 := Bt.of bb2
      refine ⟨by show 4 ≤ sizeLine; decide, fun X hX => ?_⟩
      have s3 := same_upd (o := .lst [.str "zz", .str "f", .str "a", .str "d"]) hX
      have S3 := S2.sm s3
      have nX := S2.nn hX
      have gX : upd H2 X (.lst [.str "zz", .str "f", .str "a", .str "d"]) X = some (.lst ((["zz", "f", "a", "d"] : List Str).map V.str)) := upd_same
      generalize upd H2 X (.lst [.str "zz", .str "f", .str "a", .str "d"]) = H3 at s3 S3 gX ⊢
      refine ⟨_, rfl, p, q, ds, 4, rfl, S3, by decide, fun H4 u S4 bb4 lo4 hi4 => ?_⟩
      obtain ⟨l, ml, al⟩ := pick_str (ls := ["zz", "f", "a", "d"]) lo4 hi4
      refine ⟨X, _, _, .str l, rfl, rfl, SqL.of (Bt.of bb4 _ _ gX nX), al, by show 2 ≤ sizeLine; decide, fun T hT => ?_⟩
      exact qq _ (.ref T) (.name l) (S4.sm (same_upd hT)) (Bt.tr b1 (Bt.tr b2 (Bt.tr (Bt.same s3) (Bt.tr (Bt.of bb4) (Bt.same (same_upd hT)))))) ⟨(show ∀ y ∈ (["zz", "f", "a", "d"] : List Str), y ∈ LOW by decide +kernel) l ml, T, rfl, upd_same⟩
    have b2 := Bt.of bb2
    have g2 := g1.grow b2 S2
    have hkv2 := hkv.keep (b2.tk S1)
    refine ⟨_, rfl, lo, us, rfl, g2.l, by omega, g2.lc, fun H3 d' kvs s3 hdn hd kn => ?_⟩
    have S3 := S2.sm s3
    have nd := S2.nn hdn
    have g3 := g2.grow (Bt.same s3) S3
    have hkv3 := hkv2.keep (TupK.of s3)
    have b03 : Bt H H3 p := Bt.tr b1 (Bt.tr b2 (Bt.same s3))
    refine ⟨d', _, hd, True.intro, fun od => ⟨_, rfl, d', od, rfl, .inl ⟨kvs, upd_same, fun R hR => ?_⟩⟩⟩
    have nRd : R ≠ d' := fun e => by rw [e, upd_same] at hR; cases hR
    have hR0 : H3 R = none := by rw [upd_ne nRd] at hR; exact hR
    refine lc_it walk_keys (fun i H' => (∀ b o, b ≠ d' → H3 b = some o → H' b = some o) ∧ H' d' = some (.frz od (.dK kvs)) ∧ ∃ ns : List Str, H' R = some (.lst (ns.map V.str)) ∧ ns.length ≤ i ∧ ∀ x ∈ ns, x ∈ LOW)
      ⟨fun b o nb hb => by rw [upd_ne (ne_of_none hb hR0), upd_ne nb]; exact hb, by rw [upd_ne (Ne.symm nRd), upd_same], [], upd_same, Nat.le_refl _, fun x h => by cases h⟩ (fun i H' _ p => p.2.1) ?_ ?_
    · rintro i x H4z H4 hi ⟨f4, hd4, ns, hR4, hnl, hns⟩ ⟨rfl, hx⟩
      have k4 : TupK H3 H4 := fun z o h => f4 z _ (fun e => by rw [e, hd] at h; cases h) h
      obtain ⟨kx, vx, hkx, rfl⟩ := hx
      have hm := List.mem_of_getElem? hkx
      obtain ⟨y, hyl, ey, _⟩ := kn.2 (kx, vx) hm
      have ey : kx = .inr y := ey
      obtain ⟨v', hv', hk'⟩ := kn_val kn ⟨(kx, vx), hm, ey⟩
      obtain ⟨d1, hd1, sd1⟩ := kd_dp (K := K) (hk'.keep k4)
      obtain ⟨d2, hd2, sd2⟩ := kd_dp (K := K) (hkv3.keep k4)
      have hk30 := kn.1
      rw [ey]
      refine ⟨rfl, _, rfl, _, rfl, d', v', rfl, .inl ⟨kvs, .inr y, .inr ⟨od, hd4⟩, rfl, hv'.symm⟩, _, rfl, d1, d2, hd1, hd2, sd1, sd2, _, rfl, ?_⟩
      cases PyData.eqv d1 d2 with
      | false => exact iteF ⟨f4, hd4, ns, hR4, by omega, hns⟩
      | true =>
        refine iteT ⟨_, rfl, _, hR4, by rw [List.length_map]; omega, fun b o nb hb => by rw [upd_ne (ne_of_none hb hR0)]; exact f4 b o nb hb, by rw [upd_ne (Ne.symm nRd)]; exact hd4, ns ++ [y], by rw [upd_same]; exact snoc_str _ _, by rw [List.length_append]; show _ + 1 ≤ _; omega, fun x hx => ?_⟩
        rcases List.mem_append.mp hx with hx | hx
        · exact hns x hx
        · rw [List.mem_singleton.mp hx]; exact hyl
    rintro H4 ⟨f4, hd4, ns, hR4, hnl, hns⟩
    refine ⟨hd4, ?_⟩
    have s5 : Same H3 (upd H4 d' (.dK kvs)) := fun z o h => by
      by_cases e : z = d'
      · rw [e, upd_same, ← hd, ← e]; exact h
      · rw [upd_ne e]; exact f4 _ _ e h
    have hR5 : upd H4 d' (.dK kvs) R = some (.lst (ns.map V.str)) := by rw [upd_ne nRd]; exact hR4
    have hd5 := s5 _ _ hd
    generalize upd H4 d' (.dK kvs) = H5 at s5 hR5 hd5 ⊢
    have S5 := S3.sm s5
    have nR := S3.nn hR0
    have g5 := g3.grow (Bt.same s5) S5
    have hkv5 := hkv3.keep (TupK.of s5)
    have kn5 := kn.keep (TupK.of s5)
    have b05 := Bt.tr b03 (Bt.same s5)
    have hnl30 : ns.length ≤ 30 := Nat.le_trans hnl kn.1
    refine ⟨fun σ' H' => ∃ (R' : Addr) (ms : List Str), σ' = [some (.ref p), some (.ref pl), some (.ref lo), some kv, some (.int ((0 : Nat) : Int)), some (.bl st), some (.ref d'), some (.ref R'), none, none] ∧ Same H5 H' ∧ H' R' = some (.lst (ms.map V.str)) ∧ R' ≠ p ∧ ms.length ≤ 40 ∧ ∀ x ∈ ms, x ∈ LOW, ?_, ?_⟩
    · refine ⟨_, rfl, st, rfl, ?_⟩
      cases st with
      | true => exact iteF ⟨R, ns, rfl, Same.refl _, hR5, nR, by omega, hns⟩
      | false =>
        refine iteT ⟨_, rfl, by show 4 ≤ sizeLine; decide, fun N hN => ?_⟩
        have s6 := same_upd (o := .lst [.str "c", .str "m", .str "v", .str "w"]) hN
        have gN : upd H5 N (.lst [.str "c", .str "m", .str "v", .str "w"]) N = some (.lst ((["c", "m", "v", "w"] : List Str).map V.str)) := upd_same
        generalize upd H5 N (.lst [.str "c", .str "m", .str "v", .str "w"]) = H6 at s6 gN ⊢
        refine ⟨N, rfl, ⟨_, SqL.of gN⟩, fun E hE => ?_⟩
        refine lc_it walk_list (fun i H' => Same H6 H' ∧ ∃ ms : List Str, H' E = some (.lst (ms.map V.str)) ∧ ms.length ≤ i ∧ ∀ x ∈ ms, x ∈ LOW) ⟨same_upd hE, [], upd_same, Nat.le_refl _, fun x h => by cases h⟩ (fun i H' _ p => SqL.of (p.1 _ _ gN)) ?_ ?_
        · rintro i x H7z H7 hi ⟨s7, ms, hE7, hml, hms⟩ ⟨rfl, hx⟩
          rw [List.getElem?_map] at hx
          obtain ⟨y, hy, rfl⟩ : ∃ y, (["c", "m", "v", "w"] : List Str)[i]? = some y ∧ x = .str y := by
            cases e : (["c", "m", "v", "w"] : List Str)[i]? with
            | none => rw [e] at hx; cases hx
            | some y => rw [e] at hx; cases hx; exact ⟨y, rfl, rfl⟩
          have hi4 : i < 4 := hi
          have s57 := Same.tr s6 s7
          have S7 := S5.sm s57
          have g7 := g5.grow (Bt.same s57) S7
          obtain ⟨f, hyf, hfn⟩ : ∃ f : Str, (y, f) ∈ PLAN ∧ f ≠ "data" := (show ∀ y ∈ (["c", "m", "v", "w"] : List Str), ∃ f : Str, (y, f) ∈ PLAN ∧ f ≠ "data" from fun y hy => by
            have cs : y = "c" ∨ y = "m" ∨ y = "v" ∨ y = "w" := by simpa using hy
            rcases cs with rfl | rfl | rfl | rfl
            · exact ⟨"cell", by decide +kernel, by decide +kernel⟩
            · exact ⟨"cell", by decide +kernel, by decide +kernel⟩
            · exact ⟨"view", by decide +kernel, by decide +kernel⟩
            · exact ⟨"view", by decide +kernel, by decide +kernel⟩) y (List.mem_of_getElem? hy)
          have hyl : y ∈ LOW := (show ∀ y ∈ (["c", "m", "v", "w"] : List Str), y ∈ LOW by decide +kernel) y (List.mem_of_getElem? hy)
          obtain ⟨pk, v', hpk, hv', t', ks, kd', rfl, ht', hks, hkd'⟩ := g7.P.oth hyf hfn
          obtain ⟨d1, hd1, sd1⟩ := kd_dp (K := K) hkd'
          obtain ⟨d2, hd2, sd2⟩ := kd_dp (K := K) (hkv5.keep (TupK.of s57))
          refine ⟨rfl, _, rfl, _, rfl, d', _, rfl, .inl ⟨kvs, .inr y, .inl (s57 _ _ hd5), rfl, rfl⟩, ?_⟩
          have yes : (∃ acc, H7 E = some (.lst acc) ∧ acc.length < sizeLine ∧ Same H6 (upd H7 E (.lst (acc ++ [.str y]))) ∧ ∃ ms : List Str, upd H7 E (.lst (acc ++ [.str y])) E = some (.lst (ms.map V.str)) ∧ ms.length ≤ i + 1 ∧ ∀ x ∈ ms, x ∈ LOW) := by
            refine ⟨_, hE7, by rw [List.length_map]; omega, fun z o h => by rw [upd_ne (ne_of_none h hE)]; exact s7 _ _ h, ms ++ [y], by rw [upd_same]; exact snoc_str _ _, by rw [List.length_append]; show _ + 1 ≤ _; omega, fun x hx => ?_⟩
            rcases List.mem_append.mp hx with hx | hx
            · exact hms x hx
            · rw [List.mem_singleton.mp hx]; exact hyl
          have no : Same H6 H7 ∧ ∃ ms : List Str, H7 E = some (.lst (ms.map V.str)) ∧ ms.length ≤ i + 1 ∧ ∀ x ∈ ms, x ∈ LOW := ⟨s7, ms, hE7, by omega, hms⟩
          cases hin : (valV kvs (.inr y)).isSome with
          | true =>
            refine ⟨false, rfl, ?_⟩
            exact iteF no
          | false =>
            refine ⟨true, rfl, iteT ⟨_, rfl, _, rfl, pl, _, rfl, .inl ⟨pk, .inr y, .inl hpk, rfl, hv'.symm⟩, t', _, 2, kd', rfl, rfl, SqT.of ht', rfl, _, rfl, d1, d2, hd1, hd2, sd1, sd2, _, rfl, ?_⟩⟩
            cases PyData.eqv d1 d2 with
            | false => exact iteF no
            | true => exact iteT ⟨_, rfl, yes⟩
        · rintro H7 ⟨s7, ms, hE7, hml, hms⟩
          have hml4 : ms.length ≤ 4 := hml
          refine ⟨R, E, _, _, rfl, rfl, Same.tr s6 s7 _ _ hR5, hE7, by rw [List.length_map, List.length_map]; omega, fun T hT => ?_⟩
          refine ⟨T, ns ++ ms, rfl, Same.tr s6 (Same.tr s7 (same_upd hT)), by rw [upd_same]; exact app_str _ _, (S5.sm (Same.tr s6 s7)).nn hT, by rw [List.length_append]; omega, fun x hx => (List.mem_append.mp hx).elim (hns x) (hms x)⟩
    clear hR5 nR hnl30 hns hnl hR4
    rintro σ' H6 ⟨R, ns, rfl, s6, hR6, nR, hnl, hns⟩
    have S6 := S5.sm s6
    have g6 := g5.grow (Bt.same s6) S6
    have hkv6 := hkv5.keep (TupK.of s6)
    have b06 := Bt.tr b05 (Bt.same s6)
    refine ⟨_, rfl, p, q, ds, 14, rfl, S6, by decide, fun H7 pk S7 bb7 lo7 hi7 => ?_⟩
    have b7 := Bt.of bb7
    have hR7 := b7 _ _ hR6 nR
    have g7 := g6.grow b7 S7
    have hkv7 := hkv6.keep (b7.tk S6)
    have b07 := Bt.tr b06 b7
    have given : 0 < ns.length → ∀ σ' : L2.St, σ'[0]? = some (some (.ref p)) → σ'[7]? = some (some (.ref R)) → True := fun _ _ _ _ => trivial
    refine ⟨_, rfl, R, _, rfl, .inl (SqL.of hR7), _, 0, rfl, rfl, _, rfl, ?_⟩
    by_cases h0 : 0 < ns.length
    · refine iteYes (by rw [List.length_map]; simpa using h0) ?_
      refine ⟨_, rfl, pk, 5, rfl, rfl, _, rfl, ite2 (fun e => ?_) (fun e => ⟨_, rfl, rfl, _, rfl, iteYes (by decide) ?_⟩)⟩
      · refine iteT ?_
        refine ⟨_, rfl, _, rfl, _, rfl, R, _, rfl, .inl (SqL.of hR7), p, q, ds, _, rfl, S7, by rw [List.length_map]; omega, fun H8 u S8 bb8 lo8 hi8 => ?_⟩
        rw [List.length_map] at hi8
        obtain ⟨l, ml, al⟩ := pick_str lo8 hi8
        refine ⟨R, _, _, .str l, rfl, rfl, SqL.of (Bt.of bb8 _ _ hR7 nR), al, by show 2 ≤ sizeLine; decide, fun T hT => ?_⟩
        exact qq _ (.ref T) (.name l) (S8.sm (same_upd hT)) (Bt.tr b07 (Bt.tr (Bt.of bb8) (Bt.same (same_upd hT)))) ⟨hns l ml, T, rfl, upd_same⟩
      · skip
        refine ⟨_, rfl, _, rfl, _, rfl, R, _, rfl, .inl (SqL.of hR7), p, q, ds, _, rfl, S7, by rw [List.length_map]; omega, fun H8 u S8 bb8 lo8 hi8 => ?_⟩
        rw [List.length_map] at hi8
        obtain ⟨l, ml, al⟩ := pick_str lo8 hi8
        refine ⟨R, _, _, .str l, rfl, rfl, SqL.of (Bt.of bb8 _ _ hR7 nR), al, by show 2 ≤ sizeLine; decide, fun T hT => ?_⟩
        exact qq _ (.ref T) (.name l) (S8.sm (same_upd hT)) (Bt.tr b07 (Bt.tr (Bt.of bb8) (Bt.same (same_upd hT)))) ⟨hns l ml, T, rfl, upd_same⟩
    · refine iteNo (by rw [List.length_map]; simpa using h0) (iteF ?_)
      refine ⟨_, rfl, rfl, _, rfl, iteYes (by decide) ?_⟩
      exact ⟨_, rfl, _, rfl, p, q, ds, kv, rfl, S7, hkv7, fun H8 y e S8 b8 he => qq H8 y e S8 (Bt.tr b07 b8) he⟩
theorem term_step {k d : Nat} (Z : Defs K mg) (GLawChoice : FnOk P w K mg base CX0 (k + 6) Z.fLawChoice Z.fdLawChoice ["state", "plan", "local", "kind", "depth", "steady"] (spBelow d)) (GLawMade : FnOk P w K mg base CX0 (k + 6) Z.fLawMade Z.fdLawMade ["state", "plan", "local", "kind", "depth", "steady"] (spBelow d)) : FnOk P w K mg base CX0 (k + 7) Z.fLawTerm Z.fdLawTerm ["state", "plan", "local", "kind", "depth", "steady"] (spTerm (d + 1)) := by
  have GLawNext : FnOk P w K mg base CX0 (k + 3) Z.fLawNext Z.fdLawNext ["state", "limit"] spNext := ok_next Z
  have GLawDrawnKind : FnOk P w K mg base CX0 (k + 4) Z.fLawDrawnKind Z.fdLawDrawnKind ["state"] spDK := ok_dk Z
  have GLawLocals : FnOk P w K mg base CX0 (k + 1) Z.fLawLocals Z.fdLawLocals ["local"] spLocals := ok_locals Z
  have GLawPlain : FnOk P w K mg base CX0 (k + 4) Z.fLawPlain Z.fdLawPlain ["state", "kind"] spPlain := ok_plain Z
  refine Z.DLawTerm.F.ok scLawTerm (fun vs H Q E h => ?_) (fun cdv A outer s H vs Q E hr h => ?_)
  · obtain ⟨p, q, ds, pl, lo, us, kv, st, rfl, _⟩ := h
    rfl
  · obtain ⟨p, q, ds, pl, lo, us, kv, st, rfl, g, hus, hkv, qq⟩ := h
    refine ⟨_, (C8.pss_cut (ps_if (pt_cmpR op_eq (pe_call GLawNext (hr.mono (by omega)) (by rfl) Z.DLawNext.g Z.DLawNext.F.kp Z.DLawNext.b .nil pass0 (pa_cons (pv 0) (pa_cons pe_int pa_nil))) pe_int (nomark _)) (pss_one (ps_set (i := 3) scLawTerm.nd rfl (.inr rfl) (pe_call GLawDrawnKind (hr.mono (by omega)) (by rfl) Z.DLawDrawnKind.g Z.DLawDrawnKind.F.kp Z.DLawDrawnKind.b .nil pass0 (pa_cons (pv 0) pa_nil)))) pss_nil)
        (pss_cons (ps_if (pt_cmpR op_eq (pe_call GLawNext (hr.mono (by omega)) (by rfl) Z.DLawNext.g Z.DLawNext.F.kp Z.DLawNext.b .nil pass0 (pa_cons (pv 0) (pa_cons pe_int pa_nil))) pe_int (nomark _)) (pss_one (ps_ret (pe_tup (pa_cons pe_str (pa_cons (pe_ix ix_list (pe_lst (pa_cons pe_str (pa_cons pe_str (pa_cons pe_str (pa_cons pe_str pa_nil))))) (pe_call GLawNext (hr.mono (by omega)) (by rfl) Z.DLawNext.g Z.DLawNext.F.kp Z.DLawNext.b .nil pass0 (pa_cons (pv 0) (pa_cons pe_int pa_nil))) (fun _ _ => rfl)) pa_nil))))) pss_nil)
        (pss_cons (ps_set (i := 6) scLawTerm.nd rfl (.inr rfl) (pe_call GLawLocals (hr.mono (by omega)) (by rfl) Z.DLawLocals.g Z.DLawLocals.F.kp Z.DLawLocals.b .nil pass0 (pa_cons (pv 2) pa_nil)))
        (pss_cons (ps_lock (ps_setLc (i := 7) (own := [("name", 9)]) (g := (gName 9)) (by rfl) scLawTerm.nd rfl rfl (sw_true rfl rfl rfl (by decide +kernel)) (pi_keys (pv 6)) (blkOk_by (own := [("name", 9)]) (N := ["state", "plan", "local", "kind", "depth", "steady", "known", "names", "pick", "name"]) (sc := defScope sLawTerm) (by decide +kernel)) (fun _ _ _ _ _ => (pg_name (i := 9) scLawTerm.nd rfl (Or.inl rfl))) (fun _ _ _ _ _ => (pts_one (pt_cmpR (HX.op_eqDK (K := K) rfl hr.units) (pe_dget (hu_of hr) (pv 6) (pv 9) (fun _ _ => rfl)) (pv 3) (nomark _)))) (fun _ _ _ _ _ => (pv 9))))
        (C8.pss_cut (ps_if (pt_not (pt_val (pv 5))) (pss_one (ps_set (i := 7) scLawTerm.nd rfl (.inl rfl) (pe_op op_cat (pv 7) (pe_lc (own := [("name", 9)]) (g := (gName 9)) (by rfl) scLawTerm.nd (ET.pi_listK (K := K) rfl (pe_lst (pa_cons pe_str (pa_cons pe_str (pa_cons pe_str (pa_cons pe_str pa_nil)))))) (blkOk_by (own := [("name", 9)]) (N := ["state", "plan", "local", "kind", "depth", "steady", "known", "names", "pick", "name"]) (sc := defScope sLawTerm) (by decide +kernel)) (fun _ _ _ _ _ => (pg_name (i := 9) scLawTerm.nd rfl (Or.inl rfl))) (fun _ _ _ _ _ => (pts_one (PW.pt (pw_and (pt_cmp (pc_dnotin (hu_of hr) (pv 9) (pv 6))) (pw_and1 (pt_cmpR (HX.op_eqDK (K := K) rfl hr.units) (pe_ix (HL.ix_tupK (K := K) rfl) (pe_dget (hu_of hr) (pv 1) (pv 9) (fun _ _ => rfl)) pe_int (fun _ _ => rfl)) (pv 3) (nomark _))))))) (fun _ _ _ _ _ => (pv 9)))))) pss_nil)
        (pss_cons (ps_set (i := 8) scLawTerm.nd rfl (.inl rfl) (pe_call GLawNext (hr.mono (by omega)) (by rfl) Z.DLawNext.g Z.DLawNext.F.kp Z.DLawNext.b .nil pass0 (pa_cons (pv 0) (pa_cons pe_int pa_nil))))
        (pss_cons (ps_if (PW.pt (pw_and (pt_cmpR op_gt (pe_callB call_len_seq (by rfl) Z.len PySem.boot_len (pa_cons (pv 7) pa_nil)) pe_int (nomark _)) (pw_and1 (PW.pt (pw_or (pt_cmpR op_lt (pv 8) pe_int (nomark _)) (pw_or1 (pt_cmpR op_eq (pv 4) pe_int (nomark _)))))))) (pss_one (ps_ret (pe_tup (pa_cons pe_str (pa_cons (pe_ix ix_list (pv 7) (pe_call GLawNext (hr.mono (by omega)) (by rfl) Z.DLawNext.g Z.DLawNext.F.kp Z.DLawNext.b .nil pass0 (pa_cons (pv 0) (pa_cons (pe_callB call_len_seq (by rfl) Z.len PySem.boot_len (pa_cons (pv 7) pa_nil)) pa_nil))) (fun _ _ => rfl)) pa_nil))))) pss_nil)
        (pss_cons (ps_if (pt_cmpR op_eq (pv 4) pe_int (nomark _)) (pss_one (ps_ret (pe_call GLawPlain (hr.mono (by omega)) (by rfl) Z.DLawPlain.g Z.DLawPlain.F.kp Z.DLawPlain.b .nil pass0 (pa_cons (pv 0) (pa_cons (pv 3) pa_nil))))) pss_nil)
        (pss_cons (ps_if (pt_cmpR op_lt (pv 8) pe_int (nomark _)) (pss_one (ps_ret (pe_call GLawChoice (hr.mono (by omega)) (by rfl) Z.DLawChoice.g Z.DLawChoice.F.kp Z.DLawChoice.b .nil pass0 (pa_cons (pv 0) (pa_cons (pv 1) (pa_cons (pv 2) (pa_cons (pv 3) (pa_cons (pe_op op_sub (pv 4) pe_int) (pa_cons (pv 5) pa_nil))))))))) pss_nil)
        (pss_one (ps_ret (pe_call GLawMade (hr.mono (by omega)) (by rfl) Z.DLawMade.g Z.DLawMade.F.kp Z.DLawMade.b .nil pass0 (pa_cons (pv 0) (pa_cons (pv 1) (pa_cons (pv 2) (pa_cons (pv 3) (pa_cons (pe_op op_sub (pv 4) pe_int) (pa_cons (pv 5) pa_nil)))))))))))))))))), ?_⟩
    have big : 1000 ≤ sizeLine := by decide
    have S0 := g.S
    refine ⟨fun σ' H' => ∃ kv', σ' = [some (.ref p), some (.ref pl), some (.ref lo), some kv', some (.int ((d + 1 : Nat) : Int)), some (.bl st), none, none, none, none] ∧ StN H' p q ds ∧ Bt H H' p ∧ KdP H' kv', ?_, ?_⟩
    · refine ⟨_, rfl, p, q, ds, 40, rfl, S0, by decide, fun H1 v S1 bb1 lo1 hi1 => ⟨rfl, _, rfl, ite2 (fun e => ?_) (fun e => ?_)⟩⟩
      · exact ⟨_, rfl, p, q, ds, rfl, S1, fun H2 x S2 b2 k2 => ⟨x, rfl, S2, Bt.tr (Bt.of bb1) b2, k2⟩⟩
      · exact ⟨kv, rfl, S1, Bt.of bb1, hkv.keep ((Bt.of bb1).tk S0)⟩
    clear hkv
    rintro σ' H1 ⟨kv, rfl, S1, b1, hkv⟩
    have g1 := g.grow b1 S1
    refine ⟨_, rfl, p, q, ds, 150, rfl, S1, by decide, fun H2 v S2 bb2 lo2 hi2 => ⟨rfl, _, rfl, ite2 (fun e => ?_) (fun e => ?_)⟩⟩
    · have b2 := Bt.of bb2
      refine ⟨by show 4 ≤ sizeLine; decide, fun X hX => ?_⟩
      have s3 := same_upd (o := .lst [.str "zz", .str "f", .str "a", .str "d"]) hX
      have S3 := S2.sm s3
      have nX := S2.nn hX
      have gX : upd H2 X (.lst [.str "zz", .str "f", .str "a", .str "d"]) X = some (.lst ((["zz", "f", "a", "d"] : List Str).map V.str)) := upd_same
      generalize upd H2 X (.lst [.str "zz", .str "f", .str "a", .str "d"]) = H3 at s3 S3 gX ⊢
      refine ⟨_, rfl, p, q, ds, 4, rfl, S3, by decide, fun H4 u S4 bb4 lo4 hi4 => ?_⟩
      obtain ⟨l, ml, al⟩ := pick_str (ls := ["zz", "f", "a", "d"]) lo4 hi4
      refine ⟨X, _, _, .str l, rfl, rfl, SqL.of (Bt.of bb4 _ _ gX nX), al, by show 2 ≤ sizeLine; decide, fun T hT => ?_⟩
      exact qq _ (.ref T) (.name l) (S4.sm (same_upd hT)) (Bt.tr b1 (Bt.tr b2 (Bt.tr (Bt.same s3) (Bt.tr (Bt.of bb4) (Bt.same (same_upd hT)))))) ⟨(show ∀ y ∈ (["zz", "f", "a", "d"] : List Str), y ∈ LOW by decide +kernel) l ml, T, rfl, upd_same⟩
    have b2 := Bt.of bb2
    have g2 := g1.grow b2 S2
    have hkv2 := hkv.keep (b2.tk S1)
    refine ⟨_, rfl, lo, us, rfl, g2.l, by omega, g2.lc, fun H3 d' kvs s3 hdn hd kn => ?_⟩
    have S3 := S2.sm s3
    have nd := S2.nn hdn
    have g3 := g2.grow (Bt.same s3) S3
    have hkv3 := hkv2.keep (TupK.of s3)
    have b03 : Bt H H3 p := Bt.tr b1 (Bt.tr b2 (Bt.same s3))
    refine ⟨d', _, hd, True.intro, fun od => ⟨_, rfl, d', od, rfl, .inl ⟨kvs, upd_same, fun R hR => ?_⟩⟩⟩
    have nRd : R ≠ d' := fun e => by rw [e, upd_same] at hR; cases hR
    have hR0 : H3 R = none := by rw [upd_ne nRd] at hR; exact hR
    refine lc_it walk_keys (fun i H' => (∀ b o, b ≠ d' → H3 b = some o → H' b = some o) ∧ H' d' = some (.frz od (.dK kvs)) ∧ ∃ ns : List Str, H' R = some (.lst (ns.map V.str)) ∧ ns.length ≤ i ∧ ∀ x ∈ ns, x ∈ LOW)
      ⟨fun b o nb hb => by rw [upd_ne (ne_of_none hb hR0), upd_ne nb]; exact hb, by rw [upd_ne (Ne.symm nRd), upd_same], [], upd_same, Nat.le_refl _, fun x h => by cases h⟩ (fun i H' _ p => p.2.1) ?_ ?_
    · rintro i x H4z H4 hi ⟨f4, hd4, ns, hR4, hnl, hns⟩ ⟨rfl, hx⟩
      have k4 : TupK H3 H4 := fun z o h => f4 z _ (fun e => by rw [e, hd] at h; cases h) h
      obtain ⟨kx, vx, hkx, rfl⟩ := hx
      have hm := List.mem_of_getElem? hkx
      obtain ⟨y, hyl, ey, _⟩ := kn.2 (kx, vx) hm
      have ey : kx = .inr y := ey
      obtain ⟨v', hv', hk'⟩ := kn_val kn ⟨(kx, vx), hm, ey⟩
      obtain ⟨d1, hd1, sd1⟩ := kd_dp (K := K) (hk'.keep k4)
      obtain ⟨d2, hd2, sd2⟩ := kd_dp (K := K) (hkv3.keep k4)
      have hk30 := kn.1
      rw [ey]
      refine ⟨rfl, _, rfl, _, rfl, d', v', rfl, .inl ⟨kvs, .inr y, .inr ⟨od, hd4⟩, rfl, hv'.symm⟩, _, rfl, d1, d2, hd1, hd2, sd1, sd2, _, rfl, ?_⟩
      cases PyData.eqv d1 d2 with
      | false => exact iteF ⟨f4, hd4, ns, hR4, by omega, hns⟩
      | true =>
        refine iteT ⟨_, rfl, _, hR4, by rw [List.length_map]; omega, fun b o nb hb => by rw [upd_ne (ne_of_none hb hR0)]; exact f4 b o nb hb, by rw [upd_ne (Ne.symm nRd)]; exact hd4, ns ++ [y], by rw [upd_same]; exact snoc_str _ _, by rw [List.length_append]; show _ + 1 ≤ _; omega, fun x hx => ?_⟩
        rcases List.mem_append.mp hx with hx | hx
        · exact hns x hx
        · rw [List.mem_singleton.mp hx]; exact hyl
    rintro H4 ⟨f4, hd4, ns, hR4, hnl, hns⟩
    refine ⟨hd4, ?_⟩
    have s5 : Same H3 (upd H4 d' (.dK kvs)) := fun z o h => by
      by_cases e : z = d'
      · rw [e, upd_same, ← hd, ← e]; exact h
      · rw [upd_ne e]; exact f4 _ _ e h
    have hR5 : upd H4 d' (.dK kvs) R = some (.lst (ns.map V.str)) := by rw [upd_ne nRd]; exact hR4
    have hd5 := s5 _ _ hd
    generalize upd H4 d' (.dK kvs) = H5 at s5 hR5 hd5 ⊢
    have S5 := S3.sm s5
    have nR := S3.nn hR0
    have g5 := g3.grow (Bt.same s5) S5
    have hkv5 := hkv3.keep (TupK.of s5)
    have kn5 := kn.keep (TupK.of s5)
    have b05 := Bt.tr b03 (Bt.same s5)
    have hnl30 : ns.length ≤ 30 := Nat.le_trans hnl kn.1
    refine ⟨fun σ' H' => ∃ (R' : Addr) (ms : List Str), σ' = [some (.ref p), some (.ref pl), some (.ref lo), some kv, some (.int ((d + 1 : Nat) : Int)), some (.bl st), some (.ref d'), some (.ref R'), none, none] ∧ Same H5 H' ∧ H' R' = some (.lst (ms.map V.str)) ∧ R' ≠ p ∧ ms.length ≤ 40 ∧ ∀ x ∈ ms, x ∈ LOW, ?_, ?_⟩
    · refine ⟨_, rfl, st, rfl, ?_⟩
      cases st with
      | true => exact iteF ⟨R, ns, rfl, Same.refl _, hR5, nR, by omega, hns⟩
      | false =>
        refine iteT ⟨_, rfl, by show 4 ≤ sizeLine; decide, fun N hN => ?_⟩
        have s6 := same_upd (o := .lst [.str "c", .str "m", .str "v", .str "w"]) hN
        have gN : upd H5 N (.lst [.str "c", .str "m", .str "v", .str "w"]) N = some (.lst ((["c", "m", "v", "w"] : List Str).map V.str)) := upd_same
        generalize upd H5 N (.lst [.str "c", .str "m", .str "v", .str "w"]) = H6 at s6 gN ⊢
        refine ⟨N, rfl, ⟨_, SqL.of gN⟩, fun E hE => ?_⟩
        refine lc_it walk_list (fun i H' => Same H6 H' ∧ ∃ ms : List Str, H' E = some (.lst (ms.map V.str)) ∧ ms.length ≤ i ∧ ∀ x ∈ ms, x ∈ LOW) ⟨same_upd hE, [], upd_same, Nat.le_refl _, fun x h => by cases h⟩ (fun i H' _ p => SqL.of (p.1 _ _ gN)) ?_ ?_
        · rintro i x H7z H7 hi ⟨s7, ms, hE7, hml, hms⟩ ⟨rfl, hx⟩
          rw [List.getElem?_map] at hx
          obtain ⟨y, hy, rfl⟩ : ∃ y, (["c", "m", "v", "w"] : List Str)[i]? = some y ∧ x = .str y := by
            cases e : (["c", "m", "v", "w"] : List Str)[i]? with
            | none => rw [e] at hx; cases hx
            | some y => rw [e] at hx; cases hx; exact ⟨y, rfl, rfl⟩
          have hi4 : i < 4 := hi
          have s57 := Same.tr s6 s7
          have S7 := S5.sm s57
          have g7 := g5.grow (Bt.same s57) S7
          obtain ⟨f, hyf, hfn⟩ : ∃ f : Str, (y, f) ∈ PLAN ∧ f ≠ "data" := (show ∀ y ∈ (["c", "m", "v", "w"] : List Str), ∃ f : Str, (y, f) ∈ PLAN ∧ f ≠ "data" from fun y hy => by
            have cs : y = "c" ∨ y = "m" ∨ y = "v" ∨ y = "w" := by simpa using hy
            rcases cs with rfl | rfl | rfl | rfl
            · exact ⟨"cell", by decide +kernel, by decide +kernel⟩
            · exact ⟨"cell", by decide +kernel, by decide +kernel⟩
            · exact ⟨"view", by decide +kernel, by decide +kernel⟩
            · exact ⟨"view", by decide +kernel, by decide +kernel⟩) y (List.mem_of_getElem? hy)
          have hyl : y ∈ LOW := (show ∀ y ∈ (["c", "m", "v", "w"] : List Str), y ∈ LOW by decide +kernel) y (List.mem_of_getElem? hy)
          obtain ⟨pk, v', hpk, hv', t', ks, kd', rfl, ht', hks, hkd'⟩ := g7.P.oth hyf hfn
          obtain ⟨d1, hd1, sd1⟩ := kd_dp (K := K) hkd'
          obtain ⟨d2, hd2, sd2⟩ := kd_dp (K := K) (hkv5.keep (TupK.of s57))
          refine ⟨rfl, _, rfl, _, rfl, d', _, rfl, .inl ⟨kvs, .inr y, .inl (s57 _ _ hd5), rfl, rfl⟩, ?_⟩
          have yes : (∃ acc, H7 E = some (.lst acc) ∧ acc.length < sizeLine ∧ Same H6 (upd H7 E (.lst (acc ++ [.str y]))) ∧ ∃ ms : List Str, upd H7 E (.lst (acc ++ [.str y])) E = some (.lst (ms.map V.str)) ∧ ms.length ≤ i + 1 ∧ ∀ x ∈ ms, x ∈ LOW) := by
            refine ⟨_, hE7, by rw [List.length_map]; omega, fun z o h => by rw [upd_ne (ne_of_none h hE)]; exact s7 _ _ h, ms ++ [y], by rw [upd_same]; exact snoc_str _ _, by rw [List.length_append]; show _ + 1 ≤ _; omega, fun x hx => ?_⟩
            rcases List.mem_append.mp hx with hx | hx
            · exact hms x hx
            · rw [List.mem_singleton.mp hx]; exact hyl
          have no : Same H6 H7 ∧ ∃ ms : List Str, H7 E = some (.lst (ms.map V.str)) ∧ ms.length ≤ i + 1 ∧ ∀ x ∈ ms, x ∈ LOW := ⟨s7, ms, hE7, by omega, hms⟩
          cases hin : (valV kvs (.inr y)).isSome with
          | true =>
            refine ⟨false, rfl, ?_⟩
            exact iteF no
          | false =>
            refine ⟨true, rfl, iteT ⟨_, rfl, _, rfl, pl, _, rfl, .inl ⟨pk, .inr y, .inl hpk, rfl, hv'.symm⟩, t', _, 2, kd', rfl, rfl, SqT.of ht', rfl, _, rfl, d1, d2, hd1, hd2, sd1, sd2, _, rfl, ?_⟩⟩
            cases PyData.eqv d1 d2 with
            | false => exact iteF no
            | true => exact iteT ⟨_, rfl, yes⟩
        · rintro H7 ⟨s7, ms, hE7, hml, hms⟩
          have hml4 : ms.length ≤ 4 := hml
          refine ⟨R, E, _, _, rfl, rfl, Same.tr s6 s7 _ _ hR5, hE7, by rw [List.length_map, List.length_map]; omega, fun T hT => ?_⟩
          refine ⟨T, ns ++ ms, rfl, Same.tr s6 (Same.tr s7 (same_upd hT)), by rw [upd_same]; exact app_str _ _, (S5.sm (Same.tr s6 s7)).nn hT, by rw [List.length_append]; omega, fun x hx => (List.mem_append.mp hx).elim (hns x) (hms x)⟩
    clear hR5 nR hnl30 hns hnl hR4
    rintro σ' H6 ⟨R, ns, rfl, s6, hR6, nR, hnl, hns⟩
    have S6 := S5.sm s6
    have g6 := g5.grow (Bt.same s6) S6
    have hkv6 := hkv5.keep (TupK.of s6)
    have b06 := Bt.tr b05 (Bt.same s6)
    refine ⟨_, rfl, p, q, ds, 14, rfl, S6, by decide, fun H7 pk S7 bb7 lo7 hi7 => ?_⟩
    have b7 := Bt.of bb7
    have hR7 := b7 _ _ hR6 nR
    have g7 := g6.grow b7 S7
    have hkv7 := hkv6.keep (b7.tk S6)
    have b07 := Bt.tr b06 b7
    have given : 0 < ns.length → ∀ σ' : L2.St, σ'[0]? = some (some (.ref p)) → σ'[7]? = some (some (.ref R)) → True := fun _ _ _ _ => trivial
    refine ⟨_, rfl, R, _, rfl, .inl (SqL.of hR7), _, 0, rfl, rfl, _, rfl, ?_⟩
    have ed : ((d + 1 : Nat) : Int) - 1 = (d : Int) := by omega
    by_cases h0 : 0 < ns.length
    · refine iteYes (by rw [List.length_map]; simpa using h0) ?_
      refine ⟨_, rfl, pk, 5, rfl, rfl, _, rfl, ite2 (fun e => ?_) (fun e => ⟨_, rfl, rfl, _, rfl, iteNo (by simp; omega) ?_⟩)⟩
      · refine iteT ?_
        refine ⟨_, rfl, _, rfl, _, rfl, R, _, rfl, .inl (SqL.of hR7), p, q, ds, _, rfl, S7, by rw [List.length_map]; omega, fun H8 u S8 bb8 lo8 hi8 => ?_⟩
        rw [List.length_map] at hi8
        obtain ⟨l, ml, al⟩ := pick_str lo8 hi8
        refine ⟨R, _, _, .str l, rfl, rfl, SqL.of (Bt.of bb8 _ _ hR7 nR), al, by show 2 ≤ sizeLine; decide, fun T hT => ?_⟩
        exact qq _ (.ref T) (.name l) (S8.sm (same_upd hT)) (Bt.tr b07 (Bt.tr (Bt.of bb8) (Bt.same (same_upd hT)))) ⟨hns l ml, T, rfl, upd_same⟩
      · skip
        refine ⟨_, rfl, rfl, _, rfl, iteNo (by simp; omega) ?_⟩
        refine ⟨_, rfl, pk, 9, rfl, rfl, _, rfl, ite2 (fun e => ?_) (fun e => ?_)⟩
        · exact ⟨_, rfl, _, rfl, _, rfl, _, rfl, _, rfl, _, _, rfl, rfl, _, rfl, p, q, ds, pl, lo, us, kv, st, by show [V.ref p, V.ref pl, V.ref lo, kv, V.int (((d + 1 : Nat) : Int) - 1), V.bl st] = _; rw [ed], g7, by omega, hkv7, fun H8 y e S8 b8 he => qq H8 y e S8 (Bt.tr b07 b8) he⟩
        · exact ⟨_, rfl, _, rfl, _, rfl, _, rfl, _, rfl, _, _, rfl, rfl, _, rfl, p, q, ds, pl, lo, us, kv, st, by show [V.ref p, V.ref pl, V.ref lo, kv, V.int (((d + 1 : Nat) : Int) - 1), V.bl st] = _; rw [ed], g7, by omega, hkv7, fun H8 y e S8 b8 he => qq H8 y e S8 (Bt.tr b07 b8) he⟩
    · refine iteNo (by rw [List.length_map]; simpa using h0) (iteF ?_)
      refine ⟨_, rfl, rfl, _, rfl, iteNo (by simp; omega) ?_⟩
      refine ⟨_, rfl, pk, 9, rfl, rfl, _, rfl, ite2 (fun e => ?_) (fun e => ?_)⟩
      · exact ⟨_, rfl, _, rfl, _, rfl, _, rfl, _, rfl, _, _, rfl, rfl, _, rfl, p, q, ds, pl, lo, us, kv, st, by show [V.ref p, V.ref pl, V.ref lo, kv, V.int (((d + 1 : Nat) : Int) - 1), V.bl st] = _; rw [ed], g7, by omega, hkv7, fun H8 y e S8 b8 he => qq H8 y e S8 (Bt.tr b07 b8) he⟩
      · exact ⟨_, rfl, _, rfl, _, rfl, _, rfl, _, rfl, _, _, rfl, rfl, _, rfl, p, q, ds, pl, lo, us, kv, st, by show [V.ref p, V.ref pl, V.ref lo, kv, V.int (((d + 1 : Nat) : Int) - 1), V.bl st] = _; rw [ed], g7, by omega, hkv7, fun H8 y e S8 b8 he => qq H8 y e S8 (Bt.tr b07 b8) he⟩
end
end Q11
namespace Q11
open PySem PySem.Spec PyProof.Rows L2 SX HL
section
variable {P : Program} {w : World} {K : PySem.W.Frag} {mg : Str → Option Value} {base : Heap}
/-! ### _law_choice -/
theorem LocP.mk {H : Hp} {t : Addr} {x : Str} {kd : V} (h : H t = some (.tup [.str x, kd])) (hx : x ∈ LOW) (hk : KdP H kd) : LocP H (.ref t) := ⟨t, x, kd, rfl, h, hx, hk⟩
theorem all2_drop {α β : Type} {R : α → β → Prop} {xs : List α} {ys : List β} (h : All2 R xs ys) : All2 R xs.dropLast ys.dropLast := by
  rw [List.dropLast_eq_take, List.dropLast_eq_take, h.len]
  exact h.take _
theorem ex_up {H : Hp} {n m : Nat} {e : Ex} {x : V} (h : ExAt H n e x) (hm : n ≤ m) : ExAt H m e x := by
  induction m with
  | zero =>
    have : n = 0 := by omega
    subst this
    exact h
  | succ m ih =>
    by_cases e : n = m + 1
    · subst e; exact h
    · exact (ih (by omega)).up
theorem ok_choice {k d : Nat} (Z : Defs K mg) (GLawTerm : FnOk P w K mg base CX0 (k + 5) Z.fLawTerm Z.fdLawTerm ["state", "plan", "local", "kind", "depth", "steady"] (spTerm d)) : FnOk P w K mg base CX0 (k + 6) Z.fLawChoice Z.fdLawChoice ["state", "plan", "local", "kind", "depth", "steady"] (spBelow d) := by
  have GLawNext : FnOk P w K mg base CX0 (k + 3) Z.fLawNext Z.fdLawNext ["state", "limit"] spNext := ok_next Z
  have GLawDrawnKind : FnOk P w K mg base CX0 (k + 4) Z.fLawDrawnKind Z.fdLawDrawnKind ["state"] spDK := ok_dk Z
  have GLawNames : FnOk P w K mg base CX0 (k + 4) Z.fLawNames Z.fdLawNames ["state", "count"] spNames := ok_names Z
  have GLawPlain : FnOk P w K mg base CX0 (k + 4) Z.fLawPlain Z.fdLawPlain ["state", "kind"] spPlain := ok_plain Z
  refine Z.DLawChoice.F.ok scLawChoice (fun vs H Q E h => ?_) (fun cdv A outer s H vs Q E hr h => ?_)
  · obtain ⟨p, q, ds, pl, lo, us, kv, st, rfl, _⟩ := h
    rfl
  · obtain ⟨p, q, ds, pl, lo, us, kv, st, rfl, g, hus, hkv, qq⟩ := h
    refine ⟨_, (pss_cons (ps_set (i := 6) scLawChoice.nd rfl (.inl rfl) (pe_call GLawNext (hr.mono (by omega)) (by rfl) Z.DLawNext.g Z.DLawNext.F.kp Z.DLawNext.b .nil pass0 (pa_cons (pv 0) (pa_cons pe_int pa_nil))))
        (pss_cons (ps_set (i := 7) scLawChoice.nd rfl (.inl rfl) (pe_call GLawDrawnKind (hr.mono (by omega)) (by rfl) Z.DLawDrawnKind.g Z.DLawDrawnKind.F.kp Z.DLawDrawnKind.b .nil pass0 (pa_cons (pv 0) pa_nil)))
        (pss_cons (ps_if (pt_cmpR op_eq (pv 6) pe_int (nomark _)) (pss_cons (ps_set (i := 8) scLawChoice.nd rfl (.inl rfl) (pe_call GLawTerm (hr.mono (by omega)) (by rfl) Z.DLawTerm.g Z.DLawTerm.F.kp Z.DLawTerm.b .nil pass0 (pa_cons (pv 0) (pa_cons (pv 1) (pa_cons (pv 2) (pa_cons (pe_tup (pa_cons pe_int (pa_cons pe_str pa_nil))) (pa_cons (pv 4) (pa_cons (pv 5) pa_nil))))))))
        (pss_cons (ps_set (i := 9) scLawChoice.nd rfl (.inl rfl) (pe_call GLawTerm (hr.mono (by omega)) (by rfl) Z.DLawTerm.g Z.DLawTerm.F.kp Z.DLawTerm.b .nil pass0 (pa_cons (pv 0) (pa_cons (pv 1) (pa_cons (pv 2) (pa_cons (pv 3) (pa_cons (pv 4) (pa_cons (pv 5) pa_nil))))))))
        (pss_one (ps_ret (pe_tup (pa_cons pe_str (pa_cons (pv 8) (pa_cons (pv 9) (pa_cons (pe_call GLawTerm (hr.mono (by omega)) (by rfl) Z.DLawTerm.g Z.DLawTerm.F.kp Z.DLawTerm.b .nil pass0 (pa_cons (pv 0) (pa_cons (pv 1) (pa_cons (pv 2) (pa_cons (pv 3) (pa_cons (pv 4) (pa_cons (pv 5) pa_nil))))))) pa_nil))))))))) pss_nil)
        (pss_cons (ps_if (pt_cmpR op_eq (pv 6) pe_int (nomark _)) (pss_cons (ps_set (i := 10) scLawChoice.nd rfl (.inl rfl) (pe_ix ix_tup (pe_call GLawNames (hr.mono (by omega)) (by rfl) Z.DLawNames.g Z.DLawNames.F.kp Z.DLawNames.b .nil pass0 (pa_cons (pv 0) (pa_cons pe_int pa_nil))) pe_int (fun _ _ => rfl)))
        (pss_cons (ps_set (i := 8) scLawChoice.nd rfl (.inl rfl) (pe_call GLawTerm (hr.mono (by omega)) (by rfl) Z.DLawTerm.g Z.DLawTerm.F.kp Z.DLawTerm.b .nil pass0 (pa_cons (pv 0) (pa_cons (pv 1) (pa_cons (pv 2) (pa_cons (pv 7) (pa_cons (pv 4) (pa_cons (pv 5) pa_nil))))))))
        (pss_one (ps_ret (pe_tup (pa_cons pe_str (pa_cons (pv 10) (pa_cons (pv 8) (pa_cons (pe_call GLawTerm (hr.mono (by omega)) (by rfl) Z.DLawTerm.g Z.DLawTerm.F.kp Z.DLawTerm.b .nil pass0 (pa_cons (pv 0) (pa_cons (pv 1) (pa_cons (pe_op op_cat (pv 2) (pe_lst (pa_cons (pe_tup (pa_cons (pv 10) (pa_cons (pv 7) pa_nil))) pa_nil))) (pa_cons (pv 3) (pa_cons (pv 4) (pa_cons (pv 5) pa_nil))))))) pa_nil))))))))) pss_nil)
        (pss_cons (ps_if (pt_cmpR op_eq (pv 6) pe_int (nomark _)) (pss_cons (ps_asg (pe_call GLawNames (hr.mono (by omega)) (by rfl) Z.DLawNames.g Z.DLawNames.F.kp Z.DLawNames.b .nil pass0 (pa_cons (pv 0) (pa_cons pe_int pa_nil))) (pg_tup rfl (pgs_cons (pg_name (i := 11) scLawChoice.nd rfl (.inl rfl)) (pgs_cons (pg_name (i := 12) scLawChoice.nd rfl (.inl rfl)) pgs_nil))))
        (pss_cons (ps_set (i := 13) scLawChoice.nd rfl (.inl rfl) (pe_tup (pa_cons (pe_op op_add (pe_ix ix_tup (pv 7) pe_int (fun _ _ => rfl)) pe_int) (pa_cons (pe_ix ix_tup (pv 7) pe_int (fun _ _ => rfl)) pa_nil))))
        (pss_cons (ps_set (i := 8) scLawChoice.nd rfl (.inl rfl) (pe_call GLawTerm (hr.mono (by omega)) (by rfl) Z.DLawTerm.g Z.DLawTerm.F.kp Z.DLawTerm.b .nil pass0 (pa_cons (pv 0) (pa_cons (pv 1) (pa_cons (pv 2) (pa_cons (pv 13) (pa_cons (pv 4) (pa_cons (pv 5) pa_nil))))))))
        (pss_cons (ps_set (i := 9) scLawChoice.nd rfl (.inl rfl) (pe_call GLawTerm (hr.mono (by omega)) (by rfl) Z.DLawTerm.g Z.DLawTerm.F.kp Z.DLawTerm.b .nil pass0 (pa_cons (pv 0) (pa_cons (pv 1) (pa_cons (pv 2) (pa_cons (pv 3) (pa_cons (pv 4) (pa_cons (pv 5) pa_nil))))))))
        (pss_cons (ps_set (i := 14) scLawChoice.nd rfl (.inl rfl) (pe_op op_cat (pv 2) (pe_lst (pa_cons (pe_tup (pa_cons (pv 11) (pa_cons (pv 7) pa_nil))) (pa_cons (pe_tup (pa_cons (pv 12) (pa_cons (pv 13) pa_nil))) pa_nil)))))
        (pss_one (ps_ret (pe_tup (pa_cons pe_str (pa_cons (pv 8) (pa_cons (pv 9) (pa_cons (pv 11) (pa_cons (pv 12) (pa_cons (pe_call GLawTerm (hr.mono (by omega)) (by rfl) Z.DLawTerm.g Z.DLawTerm.F.kp Z.DLawTerm.b .nil pass0 (pa_cons (pv 0) (pa_cons (pv 1) (pa_cons (pv 14) (pa_cons (pv 3) (pa_cons (pv 4) (pa_cons (pv 5) pa_nil))))))) pa_nil)))))))))))))) pss_nil)
        (pss_cons (ps_if (pt_cmpR op_eq (pv 6) pe_int (nomark _)) (pss_cons (ps_set (i := 15) scLawChoice.nd rfl (.inl rfl) (pe_ix ix_list (pe_lst (pa_cons pe_str (pa_cons pe_str pa_nil))) (pe_call GLawNext (hr.mono (by omega)) (by rfl) Z.DLawNext.g Z.DLawNext.F.kp Z.DLawNext.b .nil pass0 (pa_cons (pv 0) (pa_cons pe_int pa_nil))) (fun _ _ => rfl)))
        (pss_cons (ps_set (i := 8) scLawChoice.nd rfl (.inl rfl) (pe_call GLawTerm (hr.mono (by omega)) (by rfl) Z.DLawTerm.g Z.DLawTerm.F.kp Z.DLawTerm.b .nil pass0 (pa_cons (pv 0) (pa_cons (pv 1) (pa_cons (pv 2) (pa_cons (pe_tup (pa_cons pe_int (pa_cons (pv 15) pa_nil))) (pa_cons (pv 4) (pa_cons (pv 5) pa_nil))))))))
        (pss_cons (ps_set (i := 16) scLawChoice.nd rfl (.inl rfl) (pe_lst pa_nil))
        (pss_cons (ps_for PassesOwn.never rfl (pi_tup (pe_ix ix_tup (pe_dget (hu_of hr) (pv 1) (pv 15) (fun _ _ => rfl)) pe_int (fun _ _ => rfl))) (pg_tup rfl (pgs_cons (pg_name (i := 17) scLawChoice.nd rfl (.inl rfl)) (pgs_cons (pg_name (i := 18) scLawChoice.nd rfl (.inr rfl)) pgs_nil))) (pss_cons (ps_set (i := 19) scLawChoice.nd rfl (.inr rfl) (pe_call GLawNames (hr.mono (by omega)) (by rfl) Z.DLawNames.g Z.DLawNames.F.kp Z.DLawNames.b .nil pass0 (pa_cons (pv 0) (pa_cons (pe_callB call_len_seq (by rfl) Z.len PySem.boot_len (pa_cons (pv 18) pa_nil)) pa_nil))))
        (pss_cons (ps_set (i := 14) scLawChoice.nd rfl (.inl rfl) (pe_op op_cat (pv 2) (pe_lc (own := [("k", 22)]) (g := (gName 22)) (by rfl) scLawChoice.nd (pi_range1 (by rfl) Z.range (pa_cons (pe_callB (HX.call_len_seqK (K := K) rfl) (by rfl) Z.len PySem.boot_len (pa_cons (pv 18) pa_nil)) pa_nil)) (blkOk_by (own := [("k", 22)]) (N := ["state", "plan", "local", "kind", "depth", "steady", "pick", "other", "first", "second", "name", "head", "tail", "item", "more", "data", "arms", "maker", "kinds_v", "names", "calls", "parts_v", "k", "each"]) (sc := defScope sLawChoice) (by decide +kernel)) (fun _ _ _ _ _ => (pg_name (i := 22) scLawChoice.nd rfl (Or.inl rfl))) (fun _ _ _ _ _ => pts_nil) (fun _ _ _ _ _ => (pe_tup (pa_cons (pe_ix (HL.ix_tupK (K := K) rfl) (pv 19) (pv 22) (fun _ _ => rfl)) (pa_cons (pe_ix (HL.ix_tupK (K := K) rfl) (pv 18) (pv 22) (fun _ _ => rfl)) pa_nil)))))))
        (pss_one (ps_expr (pe_bm PySem.F.plainAttrs_list PySem.F.slot_list_insert PySem.F.type_list_insert mt_insert (pv 16) (pa_cons (pe_call GLawNext (hr.mono (by omega)) (by rfl) Z.DLawNext.g Z.DLawNext.F.kp Z.DLawNext.b .nil pass0 (pa_cons (pv 0) (pa_cons (pe_op op_add (pe_callB call_len_seq (by rfl) Z.len PySem.boot_len (pa_cons (pv 16) pa_nil)) pe_int) pa_nil))) (pa_cons (pe_tup (pa_cons (pv 17) (pa_cons (pv 19) (pa_cons (pe_call GLawTerm (hr.mono (by omega)) (by rfl) Z.DLawTerm.g Z.DLawTerm.F.kp Z.DLawTerm.b .nil pass0 (pa_cons (pv 0) (pa_cons (pv 1) (pa_cons (pv 14) (pa_cons (pv 3) (pa_cons (pv 4) (pa_cons (pv 5) pa_nil))))))) pa_nil)))) pa_nil))))))))
        (C8.pss_cut (ps_if (pt_cmpR op_eq (pe_call GLawNext (hr.mono (by omega)) (by rfl) Z.DLawNext.g Z.DLawNext.F.kp Z.DLawNext.b .nil pass0 (pa_cons (pv 0) (pa_cons pe_int pa_nil))) pe_int (nomark _)) (pss_one (ps_expr (pe_bm0 PySem.F.plainAttrs_list PySem.F.slot_list_pop PySem.F.type_list_pop mt_pop (pv 16)))) pss_nil)
        (pss_one (ps_ret (pe_tup (pa_cons pe_str (pa_cons (pv 8) (pa_cons (pe_callTy call_tuple_of (by rfl) Z.tuple HL.boot_tuple (pa_cons (pe_op op_cat (pv 16) (pe_op op_rep (pe_lst (pa_cons (pe_tup (pa_cons pe_str (pa_cons (pe_tup pa_nil) (pa_cons (pe_tup (pa_cons pe_str (pa_cons pe_int pa_nil))) pa_nil)))) pa_nil)) (pe_callTy call_int1 (by rfl) Z.int HL.boot_int (pa_cons (pe_cmpR op_eq (pe_callB call_len_seq (by rfl) Z.len PySem.boot_len (pa_cons (pv 16) pa_nil)) pe_int (nomark _)) pa_nil)))) pa_nil)) pa_nil))))))))))) pss_nil)
        (pss_cons (ps_setLc (i := 20) (own := [("name", 10)]) (g := (gName 10)) (by rfl) scLawChoice.nd rfl rfl (sw_true rfl rfl rfl (by decide +kernel)) (ET.pi_listK (K := K) rfl (pe_lst (pa_cons pe_str (pa_cons pe_str (pa_cons pe_str (pa_cons pe_str pa_nil)))))) (blkOk_by (own := [("name", 10)]) (N := ["state", "plan", "local", "kind", "depth", "steady", "pick", "other", "first", "second", "name", "head", "tail", "item", "more", "data", "arms", "maker", "kinds_v", "names", "calls", "parts_v", "k", "each"]) (sc := defScope sLawChoice) (by decide +kernel)) (fun _ _ _ _ _ => (pg_name (i := 10) scLawChoice.nd rfl (Or.inl rfl))) (fun _ _ _ _ _ => (pts_one (pt_cmpR (HX.op_eqDK (K := K) rfl hr.units) (pe_ix (HL.ix_tupK (K := K) rfl) (pe_dget (hu_of hr) (pv 1) (pv 10) (fun _ _ => rfl)) pe_int (fun _ _ => rfl)) (pv 3) (nomark _)))) (fun _ _ _ _ _ => (pv 10)))
        (pss_cons (ps_if (pt_cmpR op_eq (pe_callB call_len_seq (by rfl) Z.len PySem.boot_len (pa_cons (pv 20) pa_nil)) pe_int (nomark _)) (pss_one (ps_ret (pe_call GLawPlain (hr.mono (by omega)) (by rfl) Z.DLawPlain.g Z.DLawPlain.F.kp Z.DLawPlain.b .nil pass0 (pa_cons (pv 0) (pa_cons (pv 3) pa_nil))))) pss_nil)
        (pss_cons (ps_set (i := 10) scLawChoice.nd rfl (.inl rfl) (pe_ix ix_list (pv 20) (pe_call GLawNext (hr.mono (by omega)) (by rfl) Z.DLawNext.g Z.DLawNext.F.kp Z.DLawNext.b .nil pass0 (pa_cons (pv 0) (pa_cons (pe_callB call_len_seq (by rfl) Z.len PySem.boot_len (pa_cons (pv 20) pa_nil)) pa_nil))) (fun _ _ => rfl)))
        (pss_cons (ps_setLc (i := 21) (own := [("each", 23)]) (g := (gName 23)) (by rfl) scLawChoice.nd rfl rfl (sw_true rfl rfl rfl (by decide +kernel)) (HK.pi_tupK (K := K) rfl (pe_ix (HL.ix_tupK (K := K) rfl) (pe_dget (hu_of hr) (pv 1) (pv 10) (fun _ _ => rfl)) pe_int (fun _ _ => rfl))) (blkOk_by (own := [("each", 23)]) (N := ["state", "plan", "local", "kind", "depth", "steady", "pick", "other", "first", "second", "name", "head", "tail", "item", "more", "data", "arms", "maker", "kinds_v", "names", "calls", "parts_v", "k", "each"]) (sc := defScope sLawChoice) (by decide +kernel)) (fun _ _ _ _ _ => (pg_name (i := 23) scLawChoice.nd rfl (Or.inl rfl))) (fun _ _ _ _ _ => pts_nil) (fun _ _ _ _ _ => (pe_call GLawTerm (hr.mono (by omega)) (by rfl) Z.DLawTerm.g Z.DLawTerm.F.kp Z.DLawTerm.b .nil pass0 (pa_cons (pv 0) (pa_cons (pv 1) (pa_cons (pv 2) (pa_cons (pv 23) (pa_cons (pv 4) (pa_cons (pv 5) pa_nil)))))))))
        (pss_one (ps_ret (pe_tup (pa_cons pe_str (pa_cons (pv 10) (pa_cons (pe_callTy call_tuple_of (by rfl) Z.tuple HL.boot_tuple (pa_cons (pe_op op_cat (pv 21) (pe_op op_rep (pe_lst (pa_cons (pe_tup (pa_cons pe_str (pa_cons pe_int pa_nil))) pa_nil)) (pe_callTy call_int1 (by rfl) Z.int HL.boot_int (pa_cons (pe_cmpR op_eq (pe_call GLawNext (hr.mono (by omega)) (by rfl) Z.DLawNext.g Z.DLawNext.F.kp Z.DLawNext.b .nil pass0 (pa_cons (pv 0) (pa_cons pe_int pa_nil))) pe_int (nomark _)) pa_nil)))) pa_nil)) pa_nil)))))))))))))))), ?_⟩
    have big : 1000 ≤ sizeLine := by decide
    have S0 := g.S
    refine ⟨_, rfl, p, q, ds, 5, rfl, S0, by decide, fun H1 v1 S1 bb1 lov1 hiv1 => ?_⟩
    have b1 := Bt.of bb1
    refine ⟨_, rfl, p, q, ds, rfl, S1, fun H2 r2 S2 b2 kr2 => ?_⟩
    obtain ⟨to, ol, ob, rfl, hto, hob⟩ := kr2.get
    refine ⟨_, rfl, rfl, _, rfl, ite2 (fun _ => ?_) (fun _ => ?_)⟩
    · refine ⟨_, rfl, _, rfl, _, rfl, by show 2 ≤ sizeLine; decide, fun X3 hX3 => ?_⟩
      have b3 : Bt H2 (upd H2 X3 (.tup [.int 0, .str "bool"])) p := Bt.same (same_upd hX3)
      have S3 := S2.sm (same_upd (o := (.tup [.int 0, .str "bool"])) hX3)
      have gX3 : upd H2 X3 (.tup [.int 0, .str "bool"]) X3 = some (.tup [vi 0, .str "bool"]) := upd_same
      have neX3 := S2.nn hX3
      generalize upd H2 X3 (.tup [.int 0, .str "bool"]) = H3 at b3 S3 gX3 ⊢
      refine ⟨_, rfl, _, rfl, p, q, ds, pl, lo, us, (.ref X3), st, rfl, (g.grow (Bt.tr b1 (Bt.tr b2 b3)) S3), by omega, (KdP.mk gX3 (by decide +kernel)), fun H4 y4 ey4 S4 b4 hy4 => ?_⟩
      refine ⟨_, rfl, _, rfl, _, rfl, _, rfl, _, rfl, _, rfl, p, q, ds, pl, lo, us, kv, st, rfl, (g.grow (Bt.tr b1 (Bt.tr b2 (Bt.tr b3 b4))) S4), by omega, (hkv.keep (Bt.tk (Bt.tr b1 (Bt.tr b2 (Bt.tr b3 b4))) S0)), fun H5 y5 ey5 S5 b5 hy5 => ?_⟩
      refine ⟨_, rfl, _, rfl, _, rfl, _, rfl, _, rfl, _, rfl, _, rfl, _, rfl, p, q, ds, pl, lo, us, kv, st, rfl, (g.grow (Bt.tr b1 (Bt.tr b2 (Bt.tr b3 (Bt.tr b4 b5)))) S5), by omega, (hkv.keep (Bt.tk (Bt.tr b1 (Bt.tr b2 (Bt.tr b3 (Bt.tr b4 b5)))) S0)), fun H6 y6 ey6 S6 b6 hy6 => ?_⟩
      refine ⟨by show 4 ≤ sizeLine; decide, fun X7 hX7 => ?_⟩
      have b7 : Bt H6 (upd H6 X7 (.tup [.str "if", y4, y5, y6])) p := Bt.same (same_upd hX7)
      have S7 := S6.sm (same_upd (o := (.tup [.str "if", y4, y5, y6])) hX7)
      have gX7 : upd H6 X7 (.tup [.str "if", y4, y5, y6]) X7 = some (.tup [.str "if", y4, y5, y6]) := upd_same
      have neX7 := S6.nn hX7
      generalize upd H6 X7 (.tup [.str "if", y4, y5, y6]) = H7 at b7 S7 gX7 ⊢
      exact qq H7 (.ref X7) (.ife ey4 ey5 ey6) S7 (Bt.tr b1 (Bt.tr b2 (Bt.tr b3 (Bt.tr b4 (Bt.tr b5 (Bt.tr b6 b7)))))) ⟨X7, y4, y5, y6, rfl, gX7, (hy4.keep (Bt.tk (Bt.tr b5 (Bt.tr b6 b7)) S4)), (hy5.keep (Bt.tk (Bt.tr b6 b7) S5)), (hy6.keep (Bt.tk b7 S6))⟩
    refine ⟨_, rfl, rfl, _, rfl, ite2 (fun _ => ?_) (fun _ => ?_)⟩
    · refine ⟨_, rfl, p, q, ds, 1, rfl, S2, by decide, fun H3 m3 nm3 S3 b3 am3 lm3 => ?_⟩
      obtain ⟨qm3, rfl, tm3, _, wm3⟩ := am3
      obtain ⟨z, rfl⟩ : ∃ z, nm3 = [z] := by
        match nm3, lm3 with
        | [z], _ => exact ⟨z, rfl⟩
      have hz := wm3 z (List.mem_cons_self ..)
      refine ⟨qm3, _, 0, .str z, rfl, rfl, SqT.of tm3, rfl, ?_⟩
      refine ⟨_, rfl, _, rfl, _, rfl, _, rfl, _, rfl, _, rfl, p, q, ds, pl, lo, us, (.ref to), st, rfl, (g.grow (Bt.tr b1 (Bt.tr b2 b3)) S3), by omega, (kr2.keep (Bt.tk b3 S2)), fun H4 y4 ey4 S4 b4 hy4 => ?_⟩
      refine ⟨_, rfl, _, rfl, _, rfl, _, rfl, _, rfl, _, rfl, _, rfl, by show 2 ≤ sizeLine; decide, fun X5 hX5 => ?_⟩
      have b5 : Bt H4 (upd H4 X5 (.tup [.str z, (.ref to)])) p := Bt.same (same_upd hX5)
      have S5 := S4.sm (same_upd (o := (.tup [.str z, (.ref to)])) hX5)
      have gX5 : upd H4 X5 (.tup [.str z, (.ref to)]) X5 = some (.tup [.str z, (.ref to)]) := upd_same
      have neX5 := S4.nn hX5
      generalize upd H4 X5 (.tup [.str z, (.ref to)]) = H5 at b5 S5 gX5 ⊢
      refine ⟨by show 1 ≤ sizeLine; decide, fun X6 hX6 => ?_⟩
      have b6 : Bt H5 (upd H5 X6 (.lst [.ref X5])) p := Bt.same (same_upd hX6)
      have S6 := S5.sm (same_upd (o := (.lst [.ref X5])) hX6)
      have gX6 : upd H5 X6 (.lst [.ref X5]) X6 = some (.lst [.ref X5]) := upd_same
      have neX6 := S5.nn hX6
      generalize upd H5 X6 (.lst [.ref X5]) = H6 at b6 S6 gX6 ⊢
      refine ⟨lo, X6, _, _, rfl, rfl, ((Bt.tr b1 (Bt.tr b2 (Bt.tr b3 (Bt.tr b4 (Bt.tr b5 b6))))) _ _ g.l g.nl), gX6, by show us.length + 1 ≤ _; omega, fun N7 hN7 => ?_⟩
      have b7 : Bt H6 (upd H6 N7 (.lst (us ++ [.ref X5]))) p := Bt.same (same_upd hN7)
      have S7 := S6.sm (same_upd (o := (.lst (us ++ [.ref X5]))) hN7)
      have gN7 : upd H6 N7 (.lst (us ++ [.ref X5])) N7 = some (.lst (us ++ [.ref X5])) := upd_same
      have neN7 := S6.nn hN7
      generalize upd H6 N7 (.lst (us ++ [.ref X5])) = H7 at b7 S7 gN7 ⊢
      have GN7 : G H7 p q ds pl N7 (us ++ [.ref X5]) := by
        have g0 := (g.grow (Bt.tr b1 (Bt.tr b2 (Bt.tr b3 (Bt.tr b4 (Bt.tr b5 (Bt.tr b6 b7)))))) S7)
        refine ⟨g0.S, g0.P, g0.np, gN7, neN7, fun u hu => ?_⟩
        rcases List.mem_append.mp hu with hu | hu
        · exact g0.lc u hu
        have hu : u ∈ [V.ref X5] := hu
        rcases List.mem_cons.mp hu with rfl | hu
        · exact LocP.mk ((Bt.tk (Bt.tr b6 b7) S5) _ _ gX5) hz (kr2.keep (Bt.tk (Bt.tr b3 (Bt.tr b4 (Bt.tr b5 (Bt.tr b6 b7)))) S2))
        cases hu
      refine ⟨_, rfl, _, rfl, _, rfl, p, q, ds, pl, N7, (us ++ [.ref X5]), kv, st, rfl, GN7, by (rw [List.length_append]; show _ + 1 + _ ≤ _; omega), (hkv.keep (Bt.tk (Bt.tr b1 (Bt.tr b2 (Bt.tr b3 (Bt.tr b4 (Bt.tr b5 (Bt.tr b6 b7)))))) S0)), fun H8 y8 ey8 S8 b8 hy8 => ?_⟩
      refine ⟨by show 4 ≤ sizeLine; decide, fun X9 hX9 => ?_⟩
      have b9 : Bt H8 (upd H8 X9 (.tup [.str "let", .str z, y4, y8])) p := Bt.same (same_upd hX9)
      have S9 := S8.sm (same_upd (o := (.tup [.str "let", .str z, y4, y8])) hX9)
      have gX9 : upd H8 X9 (.tup [.str "let", .str z, y4, y8]) X9 = some (.tup [.str "let", .str z, y4, y8]) := upd_same
      have neX9 := S8.nn hX9
      generalize upd H8 X9 (.tup [.str "let", .str z, y4, y8]) = H9 at b9 S9 gX9 ⊢
      exact qq H9 (.ref X9) (.lt z ey4 ey8) S9 (Bt.tr b1 (Bt.tr b2 (Bt.tr b3 (Bt.tr b4 (Bt.tr b5 (Bt.tr b6 (Bt.tr b7 (Bt.tr b8 b9)))))))) ⟨hz, X9, y4, y8, rfl, gX9, (hy4.keep (Bt.tk (Bt.tr b5 (Bt.tr b6 (Bt.tr b7 (Bt.tr b8 b9)))) S4)), (hy8.keep (Bt.tk b9 S8))⟩
    refine ⟨_, rfl, rfl, _, rfl, ite2 (fun _ => ?_) (fun _ => ?_)⟩
    · refine ⟨_, rfl, p, q, ds, 2, rfl, S2, by decide, fun H3 m3 nm3 S3 b3 am3 lm3 => ?_⟩
      obtain ⟨qm3, rfl, tm3, _, wm3⟩ := am3
      obtain ⟨z, y, rfl⟩ : ∃ z y, nm3 = [z, y] := by
        match nm3, lm3 with
        | [z, y], _ => exact ⟨z, y, rfl⟩
      have hz := wm3 z (List.mem_cons_self ..)
      have hy := wm3 y (List.mem_cons_of_mem _ (List.mem_cons_self ..))
      refine ⟨qm3, _, rfl, SqT.of tm3, rfl, _, _, rfl, _, _, rfl, rfl, ?_⟩
      refine ⟨_, rfl, to, _, 0, vi ol, rfl, rfl, SqT.of ((Bt.tk b3 S2) _ _ hto), rfl, _, _, rfl, rfl, _, rfl, to, _, 1, .str ob, rfl, rfl, SqT.of ((Bt.tk b3 S2) _ _ hto), rfl, by show 2 ≤ sizeLine; decide, fun X4 hX4 => ?_⟩
      have b4 : Bt H3 (upd H3 X4 (.tup [.int ((ol : Int) + 1), .str ob])) p := Bt.same (same_upd hX4)
      have S4 := S3.sm (same_upd (o := (.tup [.int ((ol : Int) + 1), .str ob])) hX4)
      have gX4 : upd H3 X4 (.tup [.int ((ol : Int) + 1), .str ob]) X4 = some (.tup [vi (ol + 1), .str ob]) := upd_same
      have neX4 := S3.nn hX4
      generalize upd H3 X4 (.tup [.int ((ol : Int) + 1), .str ob]) = H4 at b4 S4 gX4 ⊢
      have ki := KdP.mk gX4 hob
      refine ⟨_, rfl, _, rfl, _, rfl, _, rfl, _, rfl, _, rfl, p, q, ds, pl, lo, us, (.ref X4), st, rfl, (g.grow (Bt.tr b1 (Bt.tr b2 (Bt.tr b3 b4))) S4), by omega, ki, fun H5 y5 ey5 S5 b5 hy5 => ?_⟩
      refine ⟨_, rfl, _, rfl, _, rfl, _, rfl, _, rfl, _, rfl, p, q, ds, pl, lo, us, kv, st, rfl, (g.grow (Bt.tr b1 (Bt.tr b2 (Bt.tr b3 (Bt.tr b4 b5)))) S5), by omega, (hkv.keep (Bt.tk (Bt.tr b1 (Bt.tr b2 (Bt.tr b3 (Bt.tr b4 b5)))) S0)), fun H6 y6 ey6 S6 b6 hy6 => ?_⟩
      refine ⟨_, rfl, _, rfl, _, rfl, by show 2 ≤ sizeLine; decide, fun X7 hX7 => ?_⟩
      have b7 : Bt H6 (upd H6 X7 (.tup [.str z, (.ref to)])) p := Bt.same (same_upd hX7)
      have S7 := S6.sm (same_upd (o := (.tup [.str z, (.ref to)])) hX7)
      have gX7 : upd H6 X7 (.tup [.str z, (.ref to)]) X7 = some (.tup [.str z, (.ref to)]) := upd_same
      have neX7 := S6.nn hX7
      generalize upd H6 X7 (.tup [.str z, (.ref to)]) = H7 at b7 S7 gX7 ⊢
      refine ⟨_, rfl, _, rfl, by show 2 ≤ sizeLine; decide, fun X8 hX8 => ?_⟩
      have b8 : Bt H7 (upd H7 X8 (.tup [.str y, (.ref X4)])) p := Bt.same (same_upd hX8)
      have S8 := S7.sm (same_upd (o := (.tup [.str y, (.ref X4)])) hX8)
      have gX8 : upd H7 X8 (.tup [.str y, (.ref X4)]) X8 = some (.tup [.str y, (.ref X4)]) := upd_same
      have neX8 := S7.nn hX8
      generalize upd H7 X8 (.tup [.str y, (.ref X4)]) = H8 at b8 S8 gX8 ⊢
      refine ⟨by show 2 ≤ sizeLine; decide, fun X9 hX9 => ?_⟩
      have b9 : Bt H8 (upd H8 X9 (.lst [.ref X7, .ref X8])) p := Bt.same (same_upd hX9)
      have S9 := S8.sm (same_upd (o := (.lst [.ref X7, .ref X8])) hX9)
      have gX9 : upd H8 X9 (.lst [.ref X7, .ref X8]) X9 = some (.lst [.ref X7, .ref X8]) := upd_same
      have neX9 := S8.nn hX9
      generalize upd H8 X9 (.lst [.ref X7, .ref X8]) = H9 at b9 S9 gX9 ⊢
      refine ⟨lo, X9, _, _, rfl, rfl, ((Bt.tr b1 (Bt.tr b2 (Bt.tr b3 (Bt.tr b4 (Bt.tr b5 (Bt.tr b6 (Bt.tr b7 (Bt.tr b8 b9)))))))) _ _ g.l g.nl), gX9, by show us.length + 2 ≤ _; omega, fun N10 hN10 => ?_⟩
      have b10 : Bt H9 (upd H9 N10 (.lst (us ++ [.ref X7, .ref X8]))) p := Bt.same (same_upd hN10)
      have S10 := S9.sm (same_upd (o := (.lst (us ++ [.ref X7, .ref X8]))) hN10)
      have gN10 : upd H9 N10 (.lst (us ++ [.ref X7, .ref X8])) N10 = some (.lst (us ++ [.ref X7, .ref X8])) := upd_same
      have neN10 := S9.nn hN10
      generalize upd H9 N10 (.lst (us ++ [.ref X7, .ref X8])) = H10 at b10 S10 gN10 ⊢
      have GN10 : G H10 p q ds pl N10 (us ++ [.ref X7, .ref X8]) := by
        have g0 := (g.grow (Bt.tr b1 (Bt.tr b2 (Bt.tr b3 (Bt.tr b4 (Bt.tr b5 (Bt.tr b6 (Bt.tr b7 (Bt.tr b8 (Bt.tr b9 b10))))))))) S10)
        refine ⟨g0.S, g0.P, g0.np, gN10, neN10, fun u hu => ?_⟩
        rcases List.mem_append.mp hu with hu | hu
        · exact g0.lc u hu
        have hu : u ∈ [V.ref X7, V.ref X8] := hu
        rcases List.mem_cons.mp hu with rfl | hu
        · exact LocP.mk ((Bt.tk (Bt.tr b8 (Bt.tr b9 b10)) S7) _ _ gX7) hz (kr2.keep (Bt.tk (Bt.tr b3 (Bt.tr b4 (Bt.tr b5 (Bt.tr b6 (Bt.tr b7 (Bt.tr b8 (Bt.tr b9 b10))))))) S2))
        rcases List.mem_cons.mp hu with rfl | hu
        · exact LocP.mk ((Bt.tk (Bt.tr b9 b10) S8) _ _ gX8) hy (ki.keep (Bt.tk (Bt.tr b5 (Bt.tr b6 (Bt.tr b7 (Bt.tr b8 (Bt.tr b9 b10))))) S4))
        cases hu
      refine ⟨_, rfl, _, rfl, _, rfl, _, rfl, _, rfl, _, rfl, _, rfl, _, rfl, _, rfl, _, rfl, p, q, ds, pl, N10, (us ++ [.ref X7, .ref X8]), kv, st, rfl, GN10, by (rw [List.length_append]; show _ + 2 + _ ≤ _; omega), (hkv.keep (Bt.tk (Bt.tr b1 (Bt.tr b2 (Bt.tr b3 (Bt.tr b4 (Bt.tr b5 (Bt.tr b6 (Bt.tr b7 (Bt.tr b8 (Bt.tr b9 b10))))))))) S0)), fun H11 y11 ey11 S11 b11 hy11 => ?_⟩
      refine ⟨by show 6 ≤ sizeLine; decide, fun X12 hX12 => ?_⟩
      have b12 : Bt H11 (upd H11 X12 (.tup [.str "split", y5, y6, .str z, .str y, y11])) p := Bt.same (same_upd hX12)
      have S12 := S11.sm (same_upd (o := (.tup [.str "split", y5, y6, .str z, .str y, y11])) hX12)
      have gX12 : upd H11 X12 (.tup [.str "split", y5, y6, .str z, .str y, y11]) X12 = some (.tup [.str "split", y5, y6, .str z, .str y, y11]) := upd_same
      have neX12 := S11.nn hX12
      generalize upd H11 X12 (.tup [.str "split", y5, y6, .str z, .str y, y11]) = H12 at b12 S12 gX12 ⊢
      exact qq H12 (.ref X12) (.split ey5 ey6 z y ey11) S12 (Bt.tr b1 (Bt.tr b2 (Bt.tr b3 (Bt.tr b4 (Bt.tr b5 (Bt.tr b6 (Bt.tr b7 (Bt.tr b8 (Bt.tr b9 (Bt.tr b10 (Bt.tr b11 b12))))))))))) ⟨hz, hy, X12, y5, y6, y11, rfl, gX12, (hy5.keep (Bt.tk (Bt.tr b6 (Bt.tr b7 (Bt.tr b8 (Bt.tr b9 (Bt.tr b10 (Bt.tr b11 b12)))))) S5)), (hy6.keep (Bt.tk (Bt.tr b7 (Bt.tr b8 (Bt.tr b9 (Bt.tr b10 (Bt.tr b11 b12))))) S6)), (hy11.keep (Bt.tk b12 S11))⟩
    refine ⟨_, rfl, rfl, _, rfl, ite2 (fun _ => ?_) (fun _ => ?_)⟩
    · refine ⟨by show 2 ≤ sizeLine; decide, fun X3 hX3 => ?_⟩
      have b3 : Bt H2 (upd H2 X3 (.lst [.str "d", .str "e"])) p := Bt.same (same_upd hX3)
      have S3 := S2.sm (same_upd (o := (.lst [.str "d", .str "e"])) hX3)
      have gX3 : upd H2 X3 (.lst [.str "d", .str "e"]) X3 = some (.lst [.str "d", .str "e"]) := upd_same
      have neX3 := S2.nn hX3
      generalize upd H2 X3 (.lst [.str "d", .str "e"]) = H3 at b3 S3 gX3 ⊢
      refine ⟨_, rfl, p, q, ds, 2, rfl, S3, by decide, fun H4 v4 S4 bb4 lov4 hiv4 => ?_⟩
      have b4 := Bt.of bb4
      obtain ⟨l4, ml4, al4⟩ := pick_str (ls := ["d", "e"]) lov4 hiv4
      refine ⟨X3, _, _, .str l4, rfl, rfl, SqL.of (b4 _ _ gX3 neX3), al4, ?_⟩
      refine ⟨_, rfl, _, rfl, _, rfl, _, rfl, by show 2 ≤ sizeLine; decide, fun X5 hX5 => ?_⟩
      have b5 : Bt H4 (upd H4 X5 (.tup [.int 0, .str l4])) p := Bt.same (same_upd hX5)
      have S5 := S4.sm (same_upd (o := (.tup [.int 0, .str l4])) hX5)
      have gX5 : upd H4 X5 (.tup [.int 0, .str l4]) X5 = some (.tup [vi 0, .str l4]) := upd_same
      have neX5 := S4.nn hX5
      generalize upd H4 X5 (.tup [.int 0, .str l4]) = H5 at b5 S5 gX5 ⊢
      have hdl : (l4, ("data" : Str)) ∈ PLAN := (show ∀ y ∈ (["d", "e"] : List Str), (y, ("data" : Str)) ∈ PLAN by decide +kernel) l4 ml4
      have hbl : l4 ∈ BASES := (show ∀ y ∈ (["d", "e"] : List Str), y ∈ BASES by decide +kernel) l4 ml4
      refine ⟨_, rfl, _, rfl, p, q, ds, pl, lo, us, (.ref X5), st, rfl, (g.grow (Bt.tr b1 (Bt.tr b2 (Bt.tr b3 (Bt.tr b4 b5)))) S5), by omega, (KdP.mk gX5 hbl), fun H6 y6 ey6 S6 b6 hy6 => ?_⟩
      have BASE := S6
      have gK := g.grow (Bt.tr b1 (Bt.tr b2 (Bt.tr b3 (Bt.tr b4 (Bt.tr b5 b6))))) S6
      have hkvK := hkv.keep (Bt.tk (Bt.tr b1 (Bt.tr b2 (Bt.tr b3 (Bt.tr b4 (Bt.tr b5 b6))))) S0)
      have bK : Bt H H6 p := (Bt.tr b1 (Bt.tr b2 (Bt.tr b3 (Bt.tr b4 (Bt.tr b5 b6)))))
      refine ⟨Nat.zero_le _, fun A hA => ?_⟩
      have nA := S6.nn hA
      have nAq : A ≠ q := fun e => by
        obtain ⟨h1, _⟩ := S6
        rw [← e, hA] at h1
        cases h1
      have sA := same_upd (o := .lst []) hA
      have gA : upd H6 A (.lst []) A = some (.lst []) := upd_same
      generalize upd H6 A (.lst []) = HA at sA gA ⊢
      have SA := S6.sm sA
      obtain ⟨pk, v', hpk, hv', td, qd, m1, m2, rfl, htd, hqd, hm1, hm2⟩ := gK.P.dat hdl
      refine ⟨_, rfl, _, rfl, pl, _, rfl, .inl ⟨pk, .inr l4, .inl (sA _ _ hpk), rfl, hv'.symm⟩, td, _, 1, .ref qd, rfl, rfl, SqT.of (sA _ _ htd), rfl, qd, rfl, ⟨_, SqT.of (sA _ _ hqd)⟩, ?_⟩
      refine for_it walk_tup (fun i σ H' => ∃ (y14 y17 y18 y19 : Option V) (acc : List V) (arms : List (Str × List Str × Ex)), σ = [some (.ref p), some (.ref pl), some (.ref lo), some kv, some (.int (d : Int)), some (.bl st), some (.int v1), some (.ref to), some y6, none, none, none, none, none, y14, some (.str l4), some (.ref A), y17, y18, y19, none, none, none, none] ∧ StN H' p q ds ∧ Bt H6 H' p ∧ H' A = some (.lst acc) ∧ acc.length = i ∧ All2 (ArmAt H' (d + 1)) acc arms)
        ⟨_, _, _, _, [], [], rfl, SA, Bt.same sA, gA, rfl, .nil⟩ (fun i σ H' _ ⟨_, _, _, _, _, _, _, _, b, _⟩ => SqT.of (b.tk S6 _ _ hqd)) ?_ ?_
      · rintro i x σ G1z G1 hi ⟨y14, y17, y18, y19, acc, arms, rfl, T1, c1, gA1, hal, harms⟩ ⟨rfl, hx⟩
        have hi2 : i < 2 := hi
        have hmx : MkP H6 x := by
          match i, hx with
          | 0, hx => cases hx; exact hm1
          | 1, hx => cases hx; exact hm2
        obtain ⟨⟨mk, ks⟩, am, bm, rfl, ham, hup, bk, uks, rfl, hbk, hkl, hks⟩ := hmx
        have tk1 := c1.tk S6
        refine ⟨am, _, rfl, SqT.of (tk1 _ _ ham), rfl, _, _, rfl, _, _, rfl, rfl, ?_⟩
        refine ⟨_, rfl, _, rfl, bk, _, rfl, .inr (SqT.of (tk1 _ _ hbk)), p, q, ds, uks.length, rfl, T1, hkl, fun G2 yn ns T2 c2 hns hnl => ?_⟩
        have gA2 := c2 _ _ gA1 nA
        obtain ⟨tn, rfl, htn, _, hlow⟩ := hns
        have b2 := Bt.tr c1 c2
        have tk2 := b2.tk S6
        have g2 := gK.grow b2 T2
        refine ⟨_, rfl, _, rfl, bk, _, rfl, .inr (SqT.of (tk2 _ _ hbk)), (uks.length : Int), rfl, by omega, by omega, fun D hD => ?_⟩
        refine lc_range (lo := 0) (n := (uks.length : Int).toNat) (fun j H' => Same G2 H' ∧ ∃ es : List V, H' D = some (.lst es) ∧ es.length = j ∧ ∀ u ∈ es, LocP H' u) ⟨same_upd hD, [], upd_same, rfl, fun u h => by cases h⟩ ?_ ?_
        · rintro j G3 hj ⟨s3, es, hD3, hel, hes⟩
          have hj2 : j < uks.length := by omega
          have tk3 := tk2.tr (TupK.of s3)
          obtain ⟨kd, hkd, hkd2⟩ := hks.get (List.getElem?_eq_getElem hj2)
          have hnj : ns[j]? = some ns[j] := List.getElem?_eq_getElem (by omega)
          have at1 : atI (ns.map V.str) (0 + (j : Int)) = some (.str ns[j]) := by rw [Int.zero_add]; exact atI_nat (by rw [List.getElem?_map, hnj]; rfl)
          have at2 : atI uks (0 + (j : Int)) = some uks[j] := by rw [Int.zero_add]; exact atI_nat (List.getElem?_eq_getElem hj2)
          refine ⟨rfl, lc_yes ⟨_, rfl, _, rfl, tn, _, _, .str ns[j], rfl, rfl, SqT.of (s3 _ _ htn), at1, _, rfl, _, rfl, bk, _, _, uks[j], rfl, rfl, SqT.of (tk3 _ _ hbk), at2, by show 2 ≤ sizeLine; decide, fun T hT => ?_⟩⟩
          have s4 := same_upd (o := .tup [.str ns[j], uks[j]]) hT
          have gT : upd G3 T (.tup [.str ns[j], uks[j]]) T = some (.tup [.str ns[j], uks[j]]) := upd_same
          generalize upd G3 T (.tup [.str ns[j], uks[j]]) = G4 at s4 gT ⊢
          have hD4 := s4 _ _ hD3
          have k5 : TupK G4 (upd G4 D (.lst (es ++ [.ref T]))) := tk_lst hD4
          refine ⟨es, hD4, by omega, fun z o h => by rw [upd_ne (ne_of_none h hD)]; exact s4 _ _ (s3 _ _ h), es ++ [.ref T], upd_same, by rw [List.length_append, hel]; rfl, fun u hu => ?_⟩
          rcases List.mem_append.mp hu with hu | hu
          · exact ((hes u hu).keep (TupK.of s4)).keep k5
          · rw [List.mem_singleton.mp hu]
            exact LocP.mk (k5 _ _ gT) (hlow _ (List.getElem_mem _)) (KdP.keep ⟨kd, hkd2⟩ (((tk3.tr (TupK.of s4))).tr k5))
        · rintro G3 ⟨s3, es, hD3, hel, hes⟩
          have hel2 : es.length ≤ 2 := by omega
          have T3 := T2.sm s3
          have b3 := Bt.tr b2 (Bt.same s3)
          have g3 := gK.grow b3 T3
          refine ⟨lo, D, _, _, rfl, rfl, g3.l, hD3, by omega, fun N hN => ?_⟩
          have s4 := same_upd (o := .lst (us ++ es)) hN
          have gN : upd G3 N (.lst (us ++ es)) N = some (.lst (us ++ es)) := upd_same
          have nN := T3.nn hN
          generalize upd G3 N (.lst (us ++ es)) = G4 at s4 gN ⊢
          have T4 := T3.sm s4
          have b4 := Bt.tr b3 (Bt.same s4)
          have g4 := gK.grow b4 T4
          have gA4 := s4 _ _ (s3 _ _ gA2)
          refine ⟨_, rfl, .inl ⟨rfl, _, SqL.of gA4⟩, _, rfl, _, rfl, A, _, rfl, .inl (SqL.of gA4), _, _, rfl, rfl, p, q, ds, _, rfl, T4, by omega, fun G5 v T5 bb5 v0 v5 => ?_⟩
          have c5 := Bt.of bb5
          have gA5 := c5 _ _ gA4 nA
          have b5 := Bt.tr b4 c5
          have tk45 := c5.tk T4
          have g5 := gK.grow b5 T5
          have hkv5 := hkvK.keep (b5.tk S6)
          have gN5 := c5 _ _ gN nN
          have GN : G G5 p q ds pl N (us ++ es) := ⟨T5, g5.P, g5.np, gN5, nN, fun u hu => (List.mem_append.mp hu).elim (g5.lc u) fun h => ((hes u h).keep (TupK.of s4)).keep tk45⟩
          refine ⟨_, rfl, _, rfl, _, rfl, _, rfl, _, rfl, _, rfl, _, rfl, _, rfl, p, q, ds, pl, N, us ++ es, kv, st, rfl, GN, by rw [List.length_append]; omega, hkv5, fun G6 y e T6 c6 he => ?_⟩
          have gA6 := c6 _ _ gA5 nA
          have b6 := Bt.tr b5 c6
          refine ⟨by show 3 ≤ sizeLine; decide, fun W hW => ?_⟩
          have s7 := same_upd (o := .tup [.str mk, .ref tn, y]) hW
          have gW : upd G6 W (.tup [.str mk, .ref tn, y]) W = some (.tup [.str mk, .ref tn, y]) := upd_same
          generalize upd G6 W (.tup [.str mk, .ref tn, y]) = G7 at s7 gW ⊢
          have T7 := T6.sm s7
          have b7 := Bt.tr b6 (Bt.same s7)
          have gA7 := s7 _ _ gA6
          obtain ⟨n, rfl⟩ := Int.eq_ofNat_of_zero_le v0
          refine ⟨A, acc, (n : Int), .ref W, rfl, rfl, gA7, by omega, by omega, by omega, ?_⟩
          rw [Int.toNat_natCast]
          have k8 : TupK G7 (upd G7 A (.lst (acc.take n ++ [.ref W] ++ acc.drop n))) := tk_lst gA7
          have tk17 : TupK G1 G7 := (c2.tk T1).tr ((TupK.of (Same.tr s3 s4)).tr (tk45.tr ((c6.tk T5).tr (TupK.of s7))))
          have harm : ArmAt (upd G7 A (.lst (acc.take n ++ [.ref W] ++ acc.drop n))) (d + 1) (.ref W) (mk, ns, e) := ⟨W, .ref tn, y, rfl, k8 _ _ gW, hup, ⟨tn, rfl, k8 _ _ (((TupK.of (Same.tr s3 s4)).tr (tk45.tr ((c6.tk T5).tr (TupK.of s7)))) _ _ htn), by omega, hlow⟩, he.keep ((TupK.of s7).tr k8)⟩
          have hold : All2 (ArmAt (upd G7 A (.lst (acc.take n ++ [.ref W] ++ acc.drop n))) (d + 1)) acc arms := harms.mono fun u m ⟨ta, tn', w', e1, h1, h2, h3, h4⟩ => ⟨ta, tn', w', e1, (tk17.tr k8) _ _ h1, h2, h3.keep (tk17.tr k8), h4.keep (tk17.tr k8)⟩
          refine ⟨_, _, _, _, acc.take n ++ [.ref W] ++ acc.drop n, arms.take n ++ [(mk, ns, e)] ++ arms.drop n, rfl, T7.lst nA nAq, fun z o h m => ?_, upd_same, ?_, ((hold.take n).app (.one harm)).app (hold.drop n)⟩
          · rw [upd_ne (fun e => by rw [e, hA] at h; cases h)]
            exact b7 z o h m
          · rw [List.length_append, List.length_append, List.length_take, List.length_drop]
            show min n acc.length + 1 + (acc.length - n) = i + 1
            omega
      · rintro σ G1 ⟨y14, y17, y18, y19, acc, arms, rfl, T1, c1, gA1, hal, harms⟩
        have hal : acc.length = 2 := hal
        refine ⟨fun σ' H' => ∃ (acc : List V) (arms : List (Str × List Str × Ex)), σ' = [some (.ref p), some (.ref pl), some (.ref lo), some kv, some (.int (d : Int)), some (.bl st), some (.int v1), some (.ref to), some y6, none, none, none, none, none, y14, some (.str l4), some (.ref A), y17, y18, y19, none, none, none, none] ∧ StN H' p q ds ∧ Bt H6 H' p ∧ H' A = some (.lst acc) ∧ acc.length ≤ 2 ∧ All2 (ArmAt H' (d + 1)) acc arms, ?_, ?_⟩
        · refine ⟨_, rfl, p, q, ds, 20, rfl, T1, by decide, fun G2 v T2 bb2 v0 v2 => ⟨rfl, _, rfl, ite2 (fun _ => ?_) (fun _ => ?_)⟩⟩
          · have c2 := Bt.of bb2
            have gA2 := c2 _ _ gA1 nA
            have k3 : TupK G2 (upd G2 A (.lst acc.dropLast)) := tk_lst gA2
            refine ⟨_, rfl, .inl ⟨rfl, _, SqL.of gA2⟩, A, acc, _, rfl, rfl, gA2, List.getElem?_eq_getElem (by omega), ?_⟩
            refine ⟨acc.dropLast, arms.dropLast, rfl, T2.lst nA nAq, fun z o h m => ?_, upd_same, by rw [List.length_dropLast]; omega, ?_⟩
            · rw [upd_ne (fun e => by rw [e, hA] at h; cases h)]
              exact Bt.tr c1 c2 z o h m
            · have tk2 := (c2.tk T1).tr k3
              have hold : All2 (ArmAt (upd G2 A (.lst acc.dropLast)) (d + 1)) acc arms := harms.mono fun u m ⟨ta, tn', w', e1, h1, h2, h3, h4⟩ => ⟨ta, tn', w', e1, tk2 _ _ h1, h2, h3.keep tk2, h4.keep tk2⟩
              exact all2_drop hold
          · have c2 := Bt.of bb2
            have tk2 := c2.tk T1
            exact ⟨acc, arms, rfl, T2, Bt.tr c1 c2, c2 _ _ gA1 nA, by omega, harms.mono fun u m ⟨ta, tn', w', e1, h1, h2, h3, h4⟩ => ⟨ta, tn', w', e1, tk2 _ _ h1, h2, h3.keep tk2, h4.keep tk2⟩⟩
        · clear harms hal gA1 c1 T1
          rintro σ' G1 ⟨acc, arms, rfl, T1, c1, gA1, hal, harms⟩
          refine ⟨_, rfl, _, rfl, Nat.zero_le _, fun X1 hX1 => ?_⟩
          have s2 := same_upd (o := .tup []) hX1
          have gX1 : upd G1 X1 (.tup []) X1 = some (.tup []) := upd_same
          generalize upd G1 X1 (.tup []) = G2 at s2 gX1 ⊢
          refine ⟨by show 2 ≤ sizeLine; decide, fun X2 hX2 => ?_⟩
          have s3 := same_upd (o := .tup [.str "number", .int 1]) hX2
          have gX2 : upd G2 X2 (.tup [.str "number", .int 1]) X2 = some (.tup [.str "number", .int 1]) := upd_same
          generalize upd G2 X2 (.tup [.str "number", .int 1]) = G3 at s3 gX2 ⊢
          refine ⟨by show 3 ≤ sizeLine; decide, fun X3 hX3 => ?_⟩
          have s4 := same_upd (o := .tup [.str "Leaf", .ref X1, .ref X2]) hX3
          have gX3 : upd G3 X3 (.tup [.str "Leaf", .ref X1, .ref X2]) X3 = some (.tup [.str "Leaf", .ref X1, .ref X2]) := upd_same
          generalize upd G3 X3 (.tup [.str "Leaf", .ref X1, .ref X2]) = G4 at s4 gX3 ⊢
          refine ⟨by show 1 ≤ sizeLine; decide, fun X4 hX4 => ?_⟩
          have s5 := same_upd (o := .lst [.ref X3]) hX4
          have gX4 : upd G4 X4 (.lst [.ref X3]) X4 = some (.lst [.ref X3]) := upd_same
          generalize upd G4 X4 (.lst [.ref X3]) = G5 at s5 gX4 ⊢
          have s15 : Same G1 G5 := Same.tr s2 (Same.tr s3 (Same.tr s4 s5))
          have T5 := T1.sm s15
          have b5 : Bt H G5 p := Bt.tr bK (Bt.tr c1 (Bt.same s15))
          have gA5 := s15 _ _ gA1
          have hf5 : ExAt G5 (d + 1) ey6 y6 := (hy6.keep (c1.tk S6)).keep (TupK.of s15)
          have leaf : ArmAt G5 (d + 1) (.ref X3) ("Leaf", [], .lit "number" (.int 1)) := ⟨X3, .ref X1, .ref X2, rfl, s5 _ _ gX3, (show ("Leaf" : Str) ∈ UPP by decide +kernel), ⟨X1, rfl, s5 _ _ (s4 _ _ (s3 _ _ gX1)), by decide, fun x h => by cases h⟩, ⟨.inl rfl, trivial, X2, rfl, s5 _ _ (s4 _ _ gX2)⟩⟩
          have harms5 : All2 (ArmAt G5 (d + 1)) acc arms := harms.mono fun u m ⟨ta, tn', w', e1, h1, h2, h3, h4⟩ => ⟨ta, tn', w', e1, s15 _ _ h1, h2, h3.keep (TupK.of s15), h4.keep (TupK.of s15)⟩
          have fin : ∀ (G6 : Hp) (l : List V) (as : List (Str × List Str × Ex)), Same G5 G6 → l.length ≤ 3 → All2 (ArmAt G5 (d + 1)) l as → ∀ T, G6 T = none → ∀ W, upd G6 T (.tup l) W = none → Q (.ref W) (upd (upd G6 T (.tup l)) W (.tup [.str "match", y6, .ref T])) := fun G6 l as s6 hl ha T hT W hW => by
            have s7 := same_upd (o := .tup l) hT
            have s8 := same_upd (o := .tup [.str "match", y6, .ref T]) hW
            have s58 := Same.tr s6 (Same.tr s7 s8)
            refine qq _ (.ref W) (.mat ey6 as) (T5.sm s58) (Bt.tr b5 (Bt.same s58)) ⟨W, y6, T, l, rfl, upd_same, s8 _ _ upd_same, hl, hf5.keep (TupK.of s58), ha.mono fun u m ⟨ta, tn', w', e1, h1, h2, h3, h4⟩ => ⟨ta, tn', w', e1, s58 _ _ h1, h2, h3.keep (TupK.of s58), h4.keep (TupK.of s58)⟩⟩
          refine ⟨_, rfl, A, _, rfl, .inl (SqL.of gA5), rfl, .inr ⟨_, rfl, ?_⟩⟩
          by_cases h0 : acc.length = 0
          · have e0 : decide (V.int (acc.length : Int) = V.int 0) = true := decide_eq_true (by rw [h0]; rfl)
            rw [e0]
            have ea : acc = [] := List.eq_nil_of_length_eq_zero h0
            subst ea
            refine ⟨X4, _, _, rfl, rfl, gX4, by show (-(2 ^ 63) : Int) ≤ 1; decide, by show (1 : Int) < 2 ^ 63; decide, by show 1 * (1 : Int).toNat ≤ _; decide, fun p2 hp2 => ?_⟩
            have s6 := same_upd (o := .lst (List.replicate (1 : Int).toNat [V.ref X3]).flatten) hp2
            have g6 : upd G5 p2 (.lst (List.replicate (1 : Int).toNat [V.ref X3]).flatten) p2 = some (.lst [V.ref X3]) := upd_same
            refine ⟨A, p2, _, _, rfl, rfl, s6 _ _ gA5, g6, by show 0 + 1 ≤ _; decide, fun p3 hp3 => ?_⟩
            have s7 := same_upd (o := .lst ([] ++ [V.ref X3])) hp3
            refine ⟨p3, _, rfl, .inl ⟨SqL.of upd_same, fun T hT => ⟨by show 3 ≤ sizeLine; decide, fun W hW => ?_⟩⟩⟩
            exact fin _ [V.ref X3] [("Leaf", [], .lit "number" (.int 1))] (Same.tr s6 s7) (by show 1 ≤ 3; decide) (.one leaf) T hT W hW
          · have e0 : decide (V.int (acc.length : Int) = V.int 0) = false := decide_eq_false fun z => h0 (by have := V.int.inj z; omega)
            rw [e0]
            refine ⟨X4, _, _, rfl, rfl, gX4, by show (-(2 ^ 63) : Int) ≤ 0; decide, by show (0 : Int) < 2 ^ 63; decide, by show 1 * (0 : Int).toNat ≤ _; decide, fun p2 hp2 => ?_⟩
            have s6 := same_upd (o := .lst (List.replicate (0 : Int).toNat [V.ref X3]).flatten) hp2
            have g6 : upd G5 p2 (.lst (List.replicate (0 : Int).toNat [V.ref X3]).flatten) p2 = some (.lst []) := upd_same
            refine ⟨A, p2, _, _, rfl, rfl, s6 _ _ gA5, g6, by show _ + 0 ≤ _; omega, fun p3 hp3 => ?_⟩
            have s7 := same_upd (o := .lst (acc ++ [])) hp3
            have g7 : upd (upd G5 p2 (.lst (List.replicate (0 : Int).toNat [V.ref X3]).flatten)) p3 (.lst (acc ++ [])) p3 = some (.lst acc) := by rw [upd_same, List.append_nil]
            refine ⟨p3, acc, rfl, .inl ⟨SqL.of g7, fun T hT => ⟨by show 3 ≤ sizeLine; decide, fun W hW => ?_⟩⟩⟩
            exact fin _ acc arms (Same.tr s6 s7) (by omega) harms5 T hT W hW
    refine ⟨by show 4 ≤ sizeLine; decide, fun N hN => ?_⟩
    have sN := same_upd (o := .lst [.str "f", .str "g", .str "h", .str "k"]) hN
    have gN : upd H2 N (.lst [.str "f", .str "g", .str "h", .str "k"]) N = some (.lst ((["f", "g", "h", "k"] : List Str).map V.str)) := upd_same
    generalize upd H2 N (.lst [.str "f", .str "g", .str "h", .str "k"]) = G1 at sN gN ⊢
    have bK : Bt H H2 p := (Bt.tr b1 b2)
    have T1 := S2.sm sN
    have b1 := Bt.tr bK (Bt.same sN)
    have g1 := g.grow b1 T1
    have hkv1 := hkv.keep (b1.tk S0)
    refine ⟨N, rfl, ⟨_, SqL.of gN⟩, fun E hE => ?_⟩
    have nE := T1.nn hE
    refine lc_it walk_list (fun i H' => Same G1 H' ∧ ∃ ms : List Str, H' E = some (.lst (ms.map V.str)) ∧ ms.length ≤ i ∧ ∀ x ∈ ms, x ∈ (["f", "g", "h", "k"] : List Str)) ⟨same_upd hE, [], upd_same, Nat.le_refl _, fun x h => by cases h⟩ (fun i H' _ p => SqL.of (p.1 _ _ gN)) ?_ ?_
    · rintro i x G2z G2 hi ⟨s2, ms, hE2, hml, hms⟩ ⟨rfl, hx⟩
      rw [List.getElem?_map] at hx
      obtain ⟨y, hy, rfl⟩ : ∃ y, (["f", "g", "h", "k"] : List Str)[i]? = some y ∧ x = .str y := by
        cases e : (["f", "g", "h", "k"] : List Str)[i]? with
        | none => rw [e] at hx; cases hx
        | some y => rw [e] at hx; cases hx; exact ⟨y, rfl, rfl⟩
      have hi4 : i < 4 := hi
      have hym := List.mem_of_getElem? hy
      have hyf : (y, ("fun" : Str)) ∈ PLAN := (show ∀ y ∈ (["f", "g", "h", "k"] : List Str), (y, ("fun" : Str)) ∈ PLAN by decide +kernel) y hym
      have T2 := T1.sm s2
      have g2 := g1.grow (Bt.same s2) T2
      obtain ⟨pk, v', hpk, hv', t', ks, kd', rfl, ht', hks, hkd'⟩ := g2.P.oth hyf (by decide +kernel)
      obtain ⟨d1, hd1, sd1⟩ := kd_dp (K := K) hkd'
      obtain ⟨d2, hd2, sd2⟩ := kd_dp (K := K) (hkv1.keep (TupK.of s2))
      refine ⟨rfl, _, rfl, _, rfl, pl, _, rfl, .inl ⟨pk, .inr y, .inl hpk, rfl, hv'.symm⟩, t', _, 2, kd', rfl, rfl, SqT.of ht', rfl, _, rfl, d1, d2, hd1, hd2, sd1, sd2, _, rfl, ?_⟩
      cases PyData.eqv d1 d2 with
      | false => exact iteF ⟨s2, ms, hE2, by omega, hms⟩
      | true =>
        refine iteT ⟨_, rfl, _, hE2, by rw [List.length_map]; omega, fun z o h => by rw [upd_ne (ne_of_none h hE)]; exact s2 _ _ h, ms ++ [y], by rw [upd_same]; exact snoc_str _ _, by rw [List.length_append]; show _ + 1 ≤ _; omega, fun x hx => ?_⟩
        rcases List.mem_append.mp hx with hx | hx
        · exact hms x hx
        · rw [List.mem_singleton.mp hx]; exact hym
    rintro G2 ⟨s2, ms, hE2, hml, hms⟩
    have hml : ms.length ≤ 4 := hml
    have T2 := T1.sm s2
    have b2 := Bt.tr b1 (Bt.same s2)
    have g2 := g.grow b2 T2
    have hkv2 := hkv.keep (b2.tk S0)
    refine ⟨_, rfl, E, _, rfl, .inl (SqL.of hE2), rfl, _, rfl, ?_⟩
    by_cases h0 : ms.length = 0
    · refine iteYes (decide_eq_true (by rw [List.length_map, h0]; rfl)) ?_
      exact ⟨_, rfl, _, rfl, p, q, ds, kv, rfl, T2, hkv2, fun G3 y e T3 b3 he => qq G3 y e T3 (Bt.tr b2 b3) (ex_up he (by omega))⟩
    refine iteNo (fun h => h0 (by have := V.int.inj (of_decide_eq_true h); rw [List.length_map] at this; omega)) ?_
    refine ⟨_, rfl, _, rfl, _, rfl, E, _, rfl, .inl (SqL.of hE2), p, q, ds, _, rfl, T2, by rw [List.length_map]; omega, fun G3 v T3 bb3 lo3 hi3 => ?_⟩
    have c3 := Bt.of bb3
    rw [List.length_map] at hi3
    obtain ⟨l, ml, al⟩ := pick_str lo3 hi3
    refine ⟨E, _, _, .str l, rfl, rfl, SqL.of (c3 _ _ hE2 nE), al, ?_⟩
    have hlf := hms l ml
    have hyf : (l, ("fun" : Str)) ∈ PLAN := (show ∀ y ∈ (["f", "g", "h", "k"] : List Str), (y, ("fun" : Str)) ∈ PLAN by decide +kernel) l hlf
    have hlow : l ∈ LOW := (show ∀ y ∈ (["f", "g", "h", "k"] : List Str), y ∈ LOW by decide +kernel) l hlf
    have b3 := Bt.tr b2 c3
    have g3 := g.grow b3 T3
    obtain ⟨pk, v', hpk, hv', t', ks, kd', rfl, ht', ⟨ksl, bk, uks, rfl, hbk, hkl, hks⟩, hkd'⟩ := g3.P.oth hyf (by decide +kernel)
    refine ⟨_, rfl, _, rfl, pl, _, rfl, .inl ⟨pk, .inr l, .inl hpk, rfl, hv'.symm⟩, t', _, 1, .ref bk, rfl, rfl, SqT.of ht', rfl, bk, rfl, ⟨uks, SqT.of hbk⟩, fun D hD => ?_⟩
    have nD := T3.nn hD
    have nDq : D ≠ q := fun e => by
      obtain ⟨h1, _⟩ := T3
      rw [← e, hD] at h1
      cases h1
    refine lc_it walk_tup (fun i H' => StN H' p q ds ∧ Bt G3 H' p ∧ ∃ (acc : List V) (es : List Ex), H' D = some (.lst acc) ∧ acc.length = i ∧ All2 (fun u e => ExAt H' (d + 1) e u) acc es) ⟨T3.sm (same_upd hD), Bt.same (same_upd hD), [], [], upd_same, rfl, .nil⟩ (fun i H' _ p => SqT.of (p.2.1.tk T3 _ _ hbk)) ?_ ?_
    · rintro i x G4z G4 hi ⟨T4, c4, acc, es, hD4, hal, hes⟩ ⟨rfl, hx⟩
      obtain ⟨kd, hkd, hkd2⟩ := hks.get hx
      have hi2 : i < uks.length := hi
      have b4 := Bt.tr b3 c4
      have g4 := g.grow b4 T4
      refine ⟨rfl, lc_yes ⟨_, rfl, _, rfl, _, rfl, _, rfl, _, rfl, _, rfl, p, q, ds, pl, lo, us, x, st, rfl, g4, by omega, KdP.keep ⟨kd, hkd2⟩ (c4.tk T3), fun G5 y e T5 c5 he => ?_⟩⟩
      have hD5 := c5 _ _ hD4 nD
      have k6 : TupK G5 (upd G5 D (.lst (acc ++ [y]))) := tk_lst hD5
      exact ⟨acc, hD5, by omega, T5.lst nD nDq, fun z o h m => by rw [upd_ne (ne_of_none h hD)]; exact Bt.tr c4 c5 z o h m, acc ++ [y], es ++ [e], upd_same, by rw [List.length_append, hal]; rfl, (hes.mono fun _ _ r => (r.keep (c5.tk T4)).keep k6).app (.one (he.keep k6))⟩
    rintro G4 ⟨T4, c4, acc, es, hD4, hal, hes⟩
    have hal : acc.length ≤ 2 := by omega
    have b4 := Bt.tr b3 c4
    refine ⟨_, rfl, _, rfl, ?_⟩
    refine ⟨by show 2 ≤ sizeLine; decide, fun X2 hX2 => ?_⟩
    have s5 := same_upd (o := .tup [.str "number", .int 3]) hX2
    have gX2 : upd G4 X2 (.tup [.str "number", .int 3]) X2 = some (.tup [.str "number", .int 3]) := upd_same
    generalize upd G4 X2 (.tup [.str "number", .int 3]) = G5 at s5 gX2 ⊢
    refine ⟨by show 1 ≤ sizeLine; decide, fun X4 hX4 => ?_⟩
    have s6 := same_upd (o := .lst [.ref X2]) hX4
    have gX4 : upd G5 X4 (.lst [.ref X2]) X4 = some (.lst [.ref X2]) := upd_same
    have nX4 := (T4.sm s5).nn hX4
    generalize upd G5 X4 (.lst [.ref X2]) = G6 at s6 gX4 ⊢
    have s46 := Same.tr s5 s6
    have T6 := T4.sm s46
    have b6 := Bt.tr b4 (Bt.same s46)
    refine ⟨_, rfl, p, q, ds, 30, rfl, T6, by decide, fun G7 v T7 bb7 lo7 hi7 => ⟨rfl, .inr ⟨_, rfl, ?_⟩⟩⟩
    have c7 := Bt.of bb7
    have b7 := Bt.tr b6 c7
    have gX47 := c7 _ _ gX4 nX4
    have hD7 := c7 _ _ (s46 _ _ hD4) nD
    have gX27 := (c7.tk T6) _ _ (s6 _ _ gX2)
    have hes7 : All2 (fun u e => ExAt G7 (d + 1) e u) acc es := hes.mono fun _ _ r => (r.keep (TupK.of s46)).keep (c7.tk T6)
    have three : ExAt G7 (d + 1) (.lit "number" (.int 3)) (.ref X2) := ⟨.inl rfl, trivial, X2, rfl, gX27⟩
    have fin : ∀ (G8 : Hp) (as : List V) (es : List Ex), Same G7 G8 → as.length ≤ 3 → All2 (fun u e => ExAt G7 (d + 1) e u) as es → ∀ T, G8 T = none → ∀ W, upd G8 T (.tup as) W = none → Q (.ref W) (upd (upd G8 T (.tup as)) W (.tup [.str "call", .str l, .ref T])) := fun G8 as es s8 hl ha T hT W hW => by
      have s9 := same_upd (o := .tup as) hT
      have s10 := same_upd (o := .tup [.str "call", .str l, .ref T]) hW
      have s710 := Same.tr s8 (Same.tr s9 s10)
      exact qq _ (.ref W) (.call l es) (T7.sm s710) (Bt.tr b7 (Bt.same s710)) ⟨hlow, W, T, as, rfl, upd_same, s10 _ _ upd_same, hl, ha.mono fun _ _ r => r.keep (TupK.of s710)⟩
    by_cases h1 : v = 0
    · have e0 : decide (V.int v = V.int 0) = true := decide_eq_true (by rw [h1])
      rw [e0]
      refine ⟨X4, _, _, rfl, rfl, gX47, by show (-(2 ^ 63) : Int) ≤ 1; decide, by show (1 : Int) < 2 ^ 63; decide, by show 1 * (1 : Int).toNat ≤ _; decide, fun p2 hp2 => ?_⟩
      have s8 := same_upd (o := .lst (List.replicate (1 : Int).toNat [V.ref X2]).flatten) hp2
      have g8 : upd G7 p2 (.lst (List.replicate (1 : Int).toNat [V.ref X2]).flatten) p2 = some (.lst [V.ref X2]) := upd_same
      refine ⟨D, p2, _, _, rfl, rfl, s8 _ _ hD7, g8, by show _ + 1 ≤ _; omega, fun p3 hp3 => ?_⟩
      have s9 := same_upd (o := .lst (acc ++ [V.ref X2])) hp3
      refine ⟨p3, _, rfl, .inl ⟨SqL.of upd_same, fun T hT => ⟨by show 3 ≤ sizeLine; decide, fun W hW => ?_⟩⟩⟩
      exact fin _ (acc ++ [V.ref X2]) (es ++ [.lit "number" (.int 3)]) (Same.tr s8 s9) (by rw [List.length_append]; show _ + 1 ≤ _; omega) (hes7.app (.one three)) T hT W hW
    · have e0 : decide (V.int v = V.int 0) = false := decide_eq_false fun z => h1 (V.int.inj z)
      rw [e0]
      refine ⟨X4, _, _, rfl, rfl, gX47, by show (-(2 ^ 63) : Int) ≤ 0; decide, by show (0 : Int) < 2 ^ 63; decide, by show 1 * (0 : Int).toNat ≤ _; decide, fun p2 hp2 => ?_⟩
      have s8 := same_upd (o := .lst (List.replicate (0 : Int).toNat [V.ref X2]).flatten) hp2
      have g8 : upd G7 p2 (.lst (List.replicate (0 : Int).toNat [V.ref X2]).flatten) p2 = some (.lst []) := upd_same
      refine ⟨D, p2, _, _, rfl, rfl, s8 _ _ hD7, g8, by show _ + 0 ≤ _; omega, fun p3 hp3 => ?_⟩
      have s9 := same_upd (o := .lst (acc ++ [])) hp3
      have g9 : upd (upd G7 p2 (.lst (List.replicate (0 : Int).toNat [V.ref X2]).flatten)) p3 (.lst (acc ++ [])) p3 = some (.lst acc) := by rw [upd_same, List.append_nil]
      refine ⟨p3, acc, rfl, .inl ⟨SqL.of g9, fun T hT => ⟨by show 3 ≤ sizeLine; decide, fun W hW => ?_⟩⟩⟩
      exact fin _ acc es (Same.tr s8 s9) (by omega) hes7 T hT W hW
end
end Q11
namespace Q11
open PySem PySem.Spec PyProof.Rows L2 SX HL
section
variable {P : Program} {w : World} {K : PySem.W.Frag} {mg : Str → Option Value} {base : Heap}
/-! ### _law_made -/
theorem ok_made {k d : Nat} (Z : Defs K mg) (GLawTerm : FnOk P w K mg base CX0 (k + 5) Z.fLawTerm Z.fdLawTerm ["state", "plan", "local", "kind", "depth", "steady"] (spTerm d)) : FnOk P w K mg base CX0 (k + 6) Z.fLawMade Z.fdLawMade ["state", "plan", "local", "kind", "depth", "steady"] (spBelow d) := by
  have GLawNext : FnOk P w K mg base CX0 (k + 3) Z.fLawNext Z.fdLawNext ["state", "limit"] spNext := ok_next Z
  have GLawDrawnKind : FnOk P w K mg base CX0 (k + 4) Z.fLawDrawnKind Z.fdLawDrawnKind ["state"] spDK := ok_dk Z
  refine Z.DLawMade.F.ok scLawMade (fun vs H Q E h => ?_) (fun cdv A outer s H vs Q E hr h => ?_)
  · obtain ⟨p, q, ds, pl, lo, us, kv, st, rfl, _⟩ := h
    rfl
  · obtain ⟨p, q, ds, pl, lo, us, kv, st, rfl, g, hus, hkv, qq⟩ := h
    refine ⟨_, (pss_cons (ps_if (pt_cmpR op_gt (pe_ix ix_tup (pv 3) pe_int (fun _ _ => rfl)) pe_int (nomark _)) (pss_cons (ps_set (i := 6) scLawMade.nd rfl (.inr rfl) (pe_tup (pa_cons (pe_op op_sub (pe_ix ix_tup (pv 3) pe_int (fun _ _ => rfl)) pe_int) (pa_cons (pe_ix ix_tup (pv 3) pe_int (fun _ _ => rfl)) pa_nil))))
        (pss_cons (ps_if (pt_cmpR op_eq (pe_call GLawNext (hr.mono (by omega)) (by rfl) Z.DLawNext.g Z.DLawNext.F.kp Z.DLawNext.b .nil pass0 (pa_cons (pv 0) (pa_cons pe_int pa_nil))) pe_int (nomark _)) (pss_cons (ps_set (i := 7) scLawMade.nd rfl (.inl rfl) (pe_call GLawTerm (hr.mono (by omega)) (by rfl) Z.DLawTerm.g Z.DLawTerm.F.kp Z.DLawTerm.b .nil pass0 (pa_cons (pv 0) (pa_cons (pv 1) (pa_cons (pv 2) (pa_cons (pv 6) (pa_cons (pv 4) (pa_cons (pv 5) pa_nil))))))))
        (pss_one (ps_ret (pe_tup (pa_cons pe_str (pa_cons (pv 7) (pa_cons (pe_call GLawTerm (hr.mono (by omega)) (by rfl) Z.DLawTerm.g Z.DLawTerm.F.kp Z.DLawTerm.b .nil pass0 (pa_cons (pv 0) (pa_cons (pv 1) (pa_cons (pv 2) (pa_cons (pv 3) (pa_cons (pv 4) (pa_cons (pv 5) pa_nil))))))) pa_nil))))))) pss_nil)
        (pss_cons (ps_set (i := 8) scLawMade.nd rfl (.inl rfl) (pe_call GLawNext (hr.mono (by omega)) (by rfl) Z.DLawNext.g Z.DLawNext.F.kp Z.DLawNext.b .nil pass0 (pa_cons (pv 0) (pa_cons pe_int pa_nil))))
        (pss_one (ps_ret (pe_tup (pa_cons pe_str (pa_cons (pe_callTy call_tuple_of (by rfl) Z.tuple HL.boot_tuple (pa_cons (pe_lc (own := [("k", 13)]) (g := (gName 13)) (by rfl) scLawMade.nd (pi_range1 (by rfl) Z.range (pa_cons (pv 8) pa_nil)) (blkOk_by (own := [("k", 13)]) (N := ["state", "plan", "local", "kind", "depth", "steady", "item", "first", "count", "maker", "kinds_v", "operator", "side", "k", "each"]) (sc := defScope sLawMade) (by decide +kernel)) (fun _ _ _ _ _ => (pg_name (i := 13) scLawMade.nd rfl (Or.inl rfl))) (fun _ _ _ _ _ => pts_nil) (fun _ _ _ _ _ => (pe_call GLawTerm (hr.mono (by omega)) (by rfl) Z.DLawTerm.g Z.DLawTerm.F.kp Z.DLawTerm.b .nil pass0 (pa_cons (pv 0) (pa_cons (pv 1) (pa_cons (pv 2) (pa_cons (pv 6) (pa_cons (pv 4) (pa_cons (pv 5) pa_nil))))))))) pa_nil)) pa_nil)))))))) pss_nil)
        (pss_cons (ps_if (pt_cmpR op_in_seq (pe_ix ix_tup (pv 3) pe_int (fun _ _ => rfl)) (pe_lst (pa_cons pe_str (pa_cons pe_str pa_nil))) rfl) (pss_cons (ps_asg (pe_ix ix_tup (pe_ix ix_tup (pe_dget (hu_of hr) (pv 1) (pe_ix ix_tup (pv 3) pe_int (fun _ _ => rfl)) (fun _ _ => rfl)) pe_int (fun _ _ => rfl)) (pe_call GLawNext (hr.mono (by omega)) (by rfl) Z.DLawNext.g Z.DLawNext.F.kp Z.DLawNext.b .nil pass0 (pa_cons (pv 0) (pa_cons pe_int pa_nil))) (fun _ _ => rfl)) (pg_tup rfl (pgs_cons (pg_name (i := 9) scLawMade.nd rfl (.inl rfl)) (pgs_cons (pg_name (i := 10) scLawMade.nd rfl (.inl rfl)) pgs_nil))))
        (pss_one (ps_ret (pe_tup (pa_cons pe_str (pa_cons (pv 9) (pa_cons (pe_callTy call_tuple_of (by rfl) Z.tuple HL.boot_tuple (pa_cons (pe_lc (own := [("each", 14)]) (g := (gName 14)) (by rfl) scLawMade.nd (HK.pi_tupK (K := K) rfl (pv 10)) (blkOk_by (own := [("each", 14)]) (N := ["state", "plan", "local", "kind", "depth", "steady", "item", "first", "count", "maker", "kinds_v", "operator", "side", "k", "each"]) (sc := defScope sLawMade) (by decide +kernel)) (fun _ _ _ _ _ => (pg_name (i := 14) scLawMade.nd rfl (Or.inl rfl))) (fun _ _ _ _ _ => pts_nil) (fun _ _ _ _ _ => (pe_call GLawTerm (hr.mono (by omega)) (by rfl) Z.DLawTerm.g Z.DLawTerm.F.kp Z.DLawTerm.b .nil pass0 (pa_cons (pv 0) (pa_cons (pv 1) (pa_cons (pv 2) (pa_cons (pv 14) (pa_cons (pv 4) (pa_cons (pv 5) pa_nil))))))))) pa_nil)) pa_nil))))))) pss_nil)
        (pss_cons (ps_set (i := 11) scLawMade.nd rfl (.inl rfl) (pe_dget (hu_of hr) (pe_disp (pps_cons pe_str (pe_lst (pa_cons pe_str (pa_cons pe_str (pa_cons pe_str (pa_cons pe_str (pa_cons pe_str pa_nil)))))) (pps_cons pe_str (pe_lst (pa_cons pe_str pa_nil)) (pps_cons pe_str (pe_lst (pa_cons pe_str (pa_cons pe_str (pa_cons pe_str (pa_cons pe_str (pa_cons pe_str pa_nil)))))) pps_nil))) (by rfl) (by rfl) (fun z => by cases z) (by decide)) (pe_ix ix_tup (pv 3) pe_int (fun _ _ => rfl)) (fun _ _ => rfl)))
        (pss_cons (ps_set (i := 11) scLawMade.nd rfl (.inl rfl) (pe_ix ix_seq (pv 11) (pe_call GLawNext (hr.mono (by omega)) (by rfl) Z.DLawNext.g Z.DLawNext.F.kp Z.DLawNext.b .nil pass0 (pa_cons (pv 0) (pa_cons (pe_callB call_len_seq (by rfl) Z.len PySem.boot_len (pa_cons (pv 11) pa_nil)) pa_nil))) (fun _ _ => rfl)))
        (pss_cons (ps_set (i := 12) scLawMade.nd rfl (.inl rfl) (pv 3))
        (C8.pss_cut (ps_if (pt_cmpR op_eq (pv 11) pe_str (nomark _)) (pss_one (ps_set (i := 12) scLawMade.nd rfl (.inl rfl) (pe_call GLawDrawnKind (hr.mono (by omega)) (by rfl) Z.DLawDrawnKind.g Z.DLawDrawnKind.F.kp Z.DLawDrawnKind.b .nil pass0 (pa_cons (pv 0) pa_nil)))) pss_nil)
        (C8.pss_cut (ps_if (pt_cmpR op_eq (pv 11) pe_str (nomark _)) (pss_one (ps_set (i := 12) scLawMade.nd rfl (.inl rfl) (pe_tup (pa_cons pe_int (pa_cons pe_str pa_nil))))) pss_nil)
        (pss_cons (ps_set (i := 7) scLawMade.nd rfl (.inl rfl) (pe_call GLawTerm (hr.mono (by omega)) (by rfl) Z.DLawTerm.g Z.DLawTerm.F.kp Z.DLawTerm.b .nil pass0 (pa_cons (pv 0) (pa_cons (pv 1) (pa_cons (pv 2) (pa_cons (pv 12) (pa_cons (pv 4) (pa_cons (pv 5) pa_nil))))))))
        (pss_cons (ps_if (pt_cmpR op_eq (pv 11) pe_str (nomark _)) (pss_one (ps_ret (pe_tup (pa_cons pe_str (pa_cons (pv 7) pa_nil))))) pss_nil)
        (pss_one (ps_ret (pe_tup (pa_cons pe_str (pa_cons (pv 11) (pa_cons (pv 7) (pa_cons (pe_call GLawTerm (hr.mono (by omega)) (by rfl) Z.DLawTerm.g Z.DLawTerm.F.kp Z.DLawTerm.b .nil pass0 (pa_cons (pv 0) (pa_cons (pv 1) (pa_cons (pv 2) (pa_cons (pv 12) (pa_cons (pv 4) (pa_cons (pv 5) pa_nil))))))) pa_nil)))))))))))))))), ?_⟩
    have big : 1000 ≤ sizeLine := by decide
    have S0 := g.S
    obtain ⟨t, l, b, rfl, ht, hb⟩ := hkv.get
    refine ⟨_, rfl, t, _, 0, vi l, rfl, rfl, SqT.of ht, rfl, (l : Int), 0, rfl, rfl, _, rfl, ite2 (fun e => ?_) (fun e => ?_)⟩
    · obtain ⟨l, rfl⟩ : ∃ m, l = m + 1 := ⟨l - 1, by have := of_decide_eq_true e; omega⟩
      refine ⟨_, rfl, t, _, 0, vi (l + 1), rfl, rfl, SqT.of ht, rfl, _, _, rfl, rfl, _, rfl, t, _, 1, .str b, rfl, rfl, SqT.of ht, rfl, by show 2 ≤ sizeLine; decide, fun X1 hX1 => ?_⟩
      have b1 : Bt H (upd H X1 (.tup [.int (((l + 1 : Nat) : Int) - 1), .str b])) p := Bt.same (same_upd hX1)
      have S1 := S0.sm (same_upd (o := (.tup [.int (((l + 1 : Nat) : Int) - 1), .str b])) hX1)
      have gX1 : upd H X1 (.tup [.int (((l + 1 : Nat) : Int) - 1), .str b]) X1 = some (.tup [vi l, .str b]) := (by rw [upd_same, show (((l + 1 : Nat) : Int) - 1) = (l : Int) by omega]; rfl)
      have neX1 := S0.nn hX1
      generalize upd H X1 (.tup [.int (((l + 1 : Nat) : Int) - 1), .str b]) = H1 at b1 S1 gX1 ⊢
      have ki := KdP.mk gX1 hb
      refine ⟨_, rfl, p, q, ds, 2, rfl, S1, by decide, fun H2 v2 S2 bb2 lov2 hiv2 => ⟨rfl, _, rfl, ite2 (fun ev2 => ?_) (fun ev2 => ?_)⟩⟩
      · have b2 := Bt.of bb2
        refine ⟨_, rfl, _, rfl, _, rfl, _, rfl, _, rfl, _, rfl, p, q, ds, pl, lo, us, (.ref X1), st, rfl, (g.grow (Bt.tr b1 b2) S2), by omega, (ki.keep (Bt.tk b2 S1)), fun H3 y3 ey3 S3 b3 hy3 => ?_⟩
        refine ⟨_, rfl, _, rfl, _, rfl, _, rfl, _, rfl, _, rfl, _, rfl, p, q, ds, pl, lo, us, (.ref t), st, rfl, (g.grow (Bt.tr b1 (Bt.tr b2 b3)) S3), by omega, (hkv.keep (Bt.tk (Bt.tr b1 (Bt.tr b2 b3)) S0)), fun H4 y4 ey4 S4 b4 hy4 => ?_⟩
        refine ⟨by show 3 ≤ sizeLine; decide, fun X5 hX5 => ?_⟩
        have b5 : Bt H4 (upd H4 X5 (.tup [.str "cons", y3, y4])) p := Bt.same (same_upd hX5)
        have S5 := S4.sm (same_upd (o := (.tup [.str "cons", y3, y4])) hX5)
        have gX5 : upd H4 X5 (.tup [.str "cons", y3, y4]) X5 = some (.tup [.str "cons", y3, y4]) := upd_same
        have neX5 := S4.nn hX5
        generalize upd H4 X5 (.tup [.str "cons", y3, y4]) = H5 at b5 S5 gX5 ⊢
        exact qq H5 (.ref X5) (.cons ey3 ey4) S5 (Bt.tr b1 (Bt.tr b2 (Bt.tr b3 (Bt.tr b4 b5)))) ⟨X5, y3, y4, rfl, gX5, (hy3.keep (Bt.tk (Bt.tr b4 b5) S3)), (hy4.keep (Bt.tk b5 S4))⟩
      · have b2 := Bt.of bb2
        refine ⟨_, rfl, p, q, ds, 3, rfl, S2, by decide, fun H3 v6 S3 bb3 lov6 hiv6 => ?_⟩
        have b3 := Bt.of bb3
        refine ⟨_, rfl, v6, rfl, by omega, by omega, fun D hD => ?_⟩
        have nD := S3.nn hD
        have nDq : D ≠ q := fun e => by
          obtain ⟨h1, _⟩ := S3
          rw [← e, hD] at h1
          cases h1
        refine lc_range (lo := 0) (n := v6.toNat) (fun j H' => StN H' p q ds ∧ Bt H3 H' p ∧ ∃ (acc : List V) (es : List Ex), H' D = some (.lst acc) ∧ acc.length = j ∧ All2 (fun u e => ExAt H' (d + 1) e u) acc es) ⟨S3.sm (same_upd hD), Bt.same (same_upd hD), [], [], upd_same, rfl, .nil⟩ ?_ ?_
        · rintro j G4 hj ⟨T4, c4, acc, es, hD4, hal, hes⟩
          have b4 := Bt.tr (Bt.tr b1 (Bt.tr b2 b3)) c4
          have g4 := g.grow b4 T4
          refine ⟨rfl, lc_yes ⟨_, rfl, _, rfl, _, rfl, _, rfl, _, rfl, _, rfl, p, q, ds, pl, lo, us, (.ref X1), st, rfl, g4, by omega, ((ki.keep (Bt.tk (Bt.tr b2 b3) S1))).keep (c4.tk S3), fun G5 y e T5 c5 he => ?_⟩⟩
          have hD5 := c5 _ _ hD4 nD
          have k6 : TupK G5 (upd G5 D (.lst (acc ++ [y]))) := tk_lst hD5
          exact ⟨acc, hD5, by omega, T5.lst nD nDq, fun z o h m => by rw [upd_ne (ne_of_none h hD)]; exact Bt.tr c4 c5 z o h m, acc ++ [y], es ++ [e], upd_same, by rw [List.length_append, hal]; rfl, (hes.mono fun _ _ r => (r.keep (c5.tk T4)).keep k6).app (.one (he.keep k6))⟩
        rintro G4 ⟨T4, c4, acc, es, hD4, hal, hes⟩
        have hal : acc.length ≤ 3 := by omega
        have b4 := Bt.tr (Bt.tr b1 (Bt.tr b2 b3)) c4
        refine ⟨D, acc, rfl, .inl ⟨SqL.of hD4, fun T hT => ⟨by show 2 ≤ sizeLine; decide, fun W hW => ?_⟩⟩⟩
        have s5 := same_upd (o := .tup acc) hT
        have s6 := same_upd (o := .tup [.str "list", .ref T]) hW
        have s56 := Same.tr s5 s6
        exact qq _ (.ref W) (.list es) (T4.sm s56) (Bt.tr b4 (Bt.same s56)) ⟨W, T, acc, rfl, upd_same, s6 _ _ upd_same, hal, hes.mono fun _ _ r => ex_up (r.keep (TupK.of s56)) (by omega)⟩
    · have l0 : l = 0 := Nat.eq_zero_of_not_pos fun z => e (decide_eq_true (by omega))
      subst l0
      refine ⟨_, rfl, t, _, 1, .str b, rfl, rfl, SqT.of ht, rfl, by show 2 ≤ sizeLine; decide, fun X7 hX7 => ?_⟩
      have b1 : Bt H (upd H X7 (.lst [.str "d", .str "e"])) p := Bt.same (same_upd hX7)
      have S1 := S0.sm (same_upd (o := (.lst [.str "d", .str "e"])) hX7)
      have gX7 : upd H X7 (.lst [.str "d", .str "e"]) X7 = some (.lst [.str "d", .str "e"]) := upd_same
      have neX7 := S0.nn hX7
      generalize upd H X7 (.lst [.str "d", .str "e"]) = H1 at b1 S1 gX7 ⊢
      refine ⟨X7, _, rfl, .inl (SqL.of gX7), rfl, rfl, _, rfl, ?_⟩
      by_cases hd : b = "d" ∨ b = "e"
      · have hin : inV (.str b) [.str "d", .str "e"] = true := by rcases hd with rfl | rfl <;> decide +kernel
        have hdp : (b, ("data" : Str)) ∈ PLAN := by rcases hd with rfl | rfl <;> decide +kernel
        have g1 := (g.grow b1 S1)
        obtain ⟨pk, v', hpk, hv', td, qd, m1, m2, rfl, htd, hqd, hm1, hm2⟩ := g1.P.dat hdp
        refine iteYes hin ?_
        refine ⟨_, rfl, _, rfl, t, _, 1, .str b, rfl, rfl, SqT.of ((Bt.tk b1 S0) _ _ ht), rfl, pl, _, rfl, .inl ⟨pk, .inr b, .inl hpk, rfl, hv'.symm⟩, td, _, 1, .ref qd, rfl, rfl, SqT.of htd, rfl, _, rfl, p, q, ds, 2, rfl, S1, by decide, fun H2 v8 S2 bb2 lov8 hiv8 => ?_⟩
        have b2 := Bt.of bb2
        have hmx : ∃ m, atI [m1, m2] v8 = some m ∧ MkP H1 m := by
          obtain ⟨c, rfl⟩ := Int.eq_ofNat_of_zero_le lov8
          have hc : c = 0 ∨ c = 1 := by omega
          rcases hc with rfl | rfl
          · exact ⟨m1, rfl, hm1⟩
          · exact ⟨m2, rfl, hm2⟩
        obtain ⟨m, am, hm⟩ := hmx
        obtain ⟨⟨mk, ks⟩, ta, bm, rfl, hta, hup, bk, uks, rfl, hbk, hkl, hks⟩ := hm.keep (Bt.tk b2 S1)
        refine ⟨qd, _, _, .ref ta, rfl, rfl, SqT.of ((Bt.tk b2 S1) _ _ hqd), am, ?_⟩
        refine ⟨ta, _, rfl, SqT.of hta, rfl, _, _, rfl, _, _, rfl, rfl, ?_⟩
        refine ⟨_, rfl, _, rfl, bk, rfl, ⟨uks, SqT.of hbk⟩, fun D hD => ?_⟩
        have nD := S2.nn hD
        have nDq : D ≠ q := fun e => by
          obtain ⟨h1, _⟩ := S2
          rw [← e, hD] at h1
          cases h1
        refine lc_it walk_tup (fun j H' => StN H' p q ds ∧ Bt H2 H' p ∧ ∃ (acc : List V) (es : List Ex), H' D = some (.lst acc) ∧ acc.length = j ∧ All2 (fun u e => ExAt H' (d + 1) e u) acc es) ⟨S2.sm (same_upd hD), Bt.same (same_upd hD), [], [], upd_same, rfl, .nil⟩ (fun i H' _ p => SqT.of (p.2.1.tk S2 _ _ hbk)) ?_ ?_
        · rintro i x G4z G4 hi ⟨T4, c4, acc, es, hD4, hal, hes⟩ ⟨rfl, hx⟩
          have b4 := Bt.tr (Bt.tr b1 b2) c4
          have g4 := g.grow b4 T4
          obtain ⟨kd, hkd, hkd2⟩ := hks.get hx
          have hi2 : i < uks.length := hi
          refine ⟨rfl, lc_yes ⟨_, rfl, _, rfl, _, rfl, _, rfl, _, rfl, _, rfl, p, q, ds, pl, lo, us, x, st, rfl, g4, by omega, KdP.keep ⟨kd, hkd2⟩ (c4.tk S2), fun G5 y e T5 c5 he => ?_⟩⟩
          have hD5 := c5 _ _ hD4 nD
          have k6 : TupK G5 (upd G5 D (.lst (acc ++ [y]))) := tk_lst hD5
          exact ⟨acc, hD5, by omega, T5.lst nD nDq, fun z o h m => by rw [upd_ne (ne_of_none h hD)]; exact Bt.tr c4 c5 z o h m, acc ++ [y], es ++ [e], upd_same, by rw [List.length_append, hal]; rfl, (hes.mono fun _ _ r => (r.keep (c5.tk T4)).keep k6).app (.one (he.keep k6))⟩
        rintro G4 ⟨T4, c4, acc, es, hD4, hal, hes⟩
        have hal : acc.length ≤ 3 := by omega
        have b4 := Bt.tr (Bt.tr b1 b2) c4
        refine ⟨D, acc, rfl, .inl ⟨SqL.of hD4, fun T hT => ⟨by show 3 ≤ sizeLine; decide, fun W hW => ?_⟩⟩⟩
        have s5 := same_upd (o := .tup acc) hT
        have s6 := same_upd (o := .tup [.str "make", .str mk, .ref T]) hW
        have s56 := Same.tr s5 s6
        exact qq _ (.ref W) (.make mk es) (T4.sm s56) (Bt.tr b4 (Bt.same s56)) ⟨hup, W, T, acc, rfl, upd_same, s6 _ _ upd_same, hal, hes.mono fun _ _ r => ex_up (r.keep (TupK.of s56)) (by omega)⟩
      have cs : b = "num" ∨ b = "text" ∨ b = "bool" ∨ b = "d" ∨ b = "e" := by simpa [BASES] using hb
      have cs : b = "num" ∨ b = "text" ∨ b = "bool" := by rcases cs with h | h | h | h | h; exact .inl h; exact .inr (.inl h); exact .inr (.inr h); exact absurd (.inl h) hd; exact absurd (.inr h) hd
      refine iteNo (by rcases cs with rfl | rfl | rfl <;> decide +kernel) ?_
      have b1 : Bt H H1 p := b1
      refine fun D hD => ?_
      have s1 := same_upd (o := .dK []) hD
      have gD : upd H1 D (.dK []) D = some (.dK []) := upd_same
      generalize upd H1 D (.dK []) = HD at s1 gD ⊢
      refine ⟨by show 5 ≤ sizeLine; decide, fun L1 hL1 => ?_⟩
      have s2 := same_upd (o := .lst [.str "+", .str "-", .str "*", .str "/", .str "mod"]) hL1
      have g1 : upd HD L1 (.lst [.str "+", .str "-", .str "*", .str "/", .str "mod"]) L1 = some (.lst [.str "+", .str "-", .str "*", .str "/", .str "mod"]) := upd_same
      have n1 : L1 ≠ D := fun e => by rw [e, gD] at hL1; cases hL1
      generalize upd HD L1 (.lst [.str "+", .str "-", .str "*", .str "/", .str "mod"]) = HA at s2 g1 ⊢
      refine ⟨by show 1 ≤ sizeLine; decide, fun L2 hL2 => ?_⟩
      have s3 := same_upd (o := .lst [.str "++"]) hL2
      have g2 : upd HA L2 (.lst [.str "++"]) L2 = some (.lst [.str "++"]) := upd_same
      have n2 : L2 ≠ D := fun e => by rw [e, s2 _ _ gD] at hL2; cases hL2
      generalize upd HA L2 (.lst [.str "++"]) = HB at s3 g2 ⊢
      refine ⟨by show 5 ≤ sizeLine; decide, fun L3 hL3 => ?_⟩
      have s4 := same_upd (o := .lst [.str "=", .str "<", .str "and", .str "or", .str "not"]) hL3
      have g3 : upd HB L3 (.lst [.str "=", .str "<", .str "and", .str "or", .str "not"]) L3 = some (.lst [.str "=", .str "<", .str "and", .str "or", .str "not"]) := upd_same
      have n3 : L3 ≠ D := fun e => by rw [e, s3 _ _ (s2 _ _ gD)] at hL3; cases hL3
      generalize upd HB L3 (.lst [.str "=", .str "<", .str "and", .str "or", .str "not"]) = HC at s4 g3 ⊢
      refine ⟨s4 _ _ (s3 _ _ (s2 _ _ gD)), [(.inr "num", .ref L1), (.inr "text", .ref L2), (.inr "bool", .ref L3)], rfl, by show 3 ≤ 15; decide, ?_⟩
      have kvs0 : mergeK [] [((.inr "num" : Key), V.ref L1), (.inr "text", .ref L2), (.inr "bool", .ref L3)] = [(.inr "num", .ref L1), (.inr "text", .ref L2), (.inr "bool", .ref L3)] := rfl
      rw [kvs0]
      have sF : Same H1 (upd HC D (.dK [(.inr "num", .ref L1), (.inr "text", .ref L2), (.inr "bool", .ref L3)])) := fun z o h => by
        rw [upd_ne (ne_of_none h hD)]
        exact Same.tr s1 (Same.tr s2 (Same.tr s3 s4)) z o h
      have k1 : upd HC D (.dK [(.inr "num", .ref L1), (.inr "text", .ref L2), (.inr "bool", .ref L3)]) L1 = some (.lst ((["+", "-", "*", "/", "mod"] : List Str).map V.str)) := by rw [upd_ne n1]; exact s4 _ _ (s3 _ _ g1)
      have k2 : upd HC D (.dK [(.inr "num", .ref L1), (.inr "text", .ref L2), (.inr "bool", .ref L3)]) L2 = some (.lst ((["++"] : List Str).map V.str)) := by rw [upd_ne n2]; exact s4 _ _ g2
      have k3 : upd HC D (.dK [(.inr "num", .ref L1), (.inr "text", .ref L2), (.inr "bool", .ref L3)]) L3 = some (.lst ((["=", "<", "and", "or", "not"] : List Str).map V.str)) := by rw [upd_ne n3]; exact g3
      have gF : upd HC D (.dK [(.inr "num", .ref L1), (.inr "text", .ref L2), (.inr "bool", .ref L3)]) D = some (.dK [(.inr "num", .ref L1), (.inr "text", .ref L2), (.inr "bool", .ref L3)]) := upd_same
      generalize upd HC D (.dK [(.inr "num", .ref L1), (.inr "text", .ref L2), (.inr "bool", .ref L3)]) = HF at sF k1 k2 k3 gF ⊢
      obtain ⟨L, ops, hLv, hL, hne, nL⟩ : ∃ (L : Addr) (ops : List Str), some (V.ref L) = valV [((.inr "num" : Key), V.ref L1), (.inr "text", .ref L2), (.inr "bool", .ref L3)] (.inr b) ∧ HF L = some (.lst (ops.map V.str)) ∧ 0 < ops.length ∧ L ≠ p := by
        rcases cs with rfl | rfl | rfl
        · exact ⟨L1, _, rfl, k1, by decide, (S1.sm s1).nn hL1⟩
        · exact ⟨L2, _, rfl, k2, by decide, (S1.sm (Same.tr s1 s2)).nn hL2⟩
        · exact ⟨L3, _, rfl, k3, by decide, (S1.sm (Same.tr s1 (Same.tr s2 s3))).nn hL3⟩
      have SF := S1.sm sF
      have bF := Bt.tr b1 (Bt.same sF)
      refine ⟨_, rfl, t, _, 1, .str b, rfl, rfl, SqT.of (bF.tk S0 _ _ ht), rfl, D, .ref L, rfl, .inl ⟨_, .inr b, .inl gF, rfl, hLv⟩, ?_⟩
      refine ⟨_, rfl, _, rfl, _, rfl, L, _, rfl, .inl (SqL.of hL), p, q, ds, _, rfl, SF, by rw [List.length_map]; omega, fun G3 v T3 bb3 lo3 hi3 => ?_⟩
      have c3 := Bt.of bb3
      rw [List.length_map] at hi3
      obtain ⟨op, mop, aop⟩ := pick_str lo3 hi3
      refine .inl ⟨L, _, _, .str op, rfl, rfl, SqL.of (c3 _ _ hL nL), aop, _, rfl, ?_⟩
      have b3 := Bt.tr bF c3
      refine ⟨fun σ' H' => ∃ sd, σ' = [some (.ref p), some (.ref pl), some (.ref lo), some (.ref t), some (.int (d : Int)), some (.bl st), none, none, none, none, none, some (.str op), some sd, none, none] ∧ StN H' p q ds ∧ Bt H H' p ∧ KdP H' sd, ?_, ?_⟩
      · refine ⟨_, rfl, rfl, _, rfl, ite2 (fun _ => ?_) (fun _ => ?_)⟩
        · exact ⟨_, rfl, p, q, ds, rfl, T3, fun H4 x S4 b4 k4 => ⟨x, rfl, S4, Bt.tr b3 b4, k4⟩⟩
        · exact ⟨.ref t, rfl, T3, b3, hkv.keep (b3.tk S0)⟩
      clear hkv
      rintro σ' G4 ⟨sd, rfl, T4, b4, hkv⟩
      refine ⟨fun σ' H' => ∃ sd, σ' = [some (.ref p), some (.ref pl), some (.ref lo), some (.ref t), some (.int (d : Int)), some (.bl st), none, none, none, none, none, some (.str op), some sd, none, none] ∧ StN H' p q ds ∧ Bt H H' p ∧ KdP H' sd, ?_, ?_⟩
      · refine ⟨_, rfl, rfl, _, rfl, ite2 (fun _ => ?_) (fun _ => ?_)⟩
        · refine ⟨by show 2 ≤ sizeLine; decide, fun X hX => ?_⟩
          exact ⟨.ref X, rfl, T4.sm (same_upd hX), Bt.tr b4 (Bt.same (same_upd hX)), KdP.mk (l := 0) (b := "num") upd_same (by decide +kernel)⟩
        · exact ⟨sd, rfl, T4, b4, hkv⟩
      clear hkv b4 T4
      rintro σ' G4 ⟨sd, rfl, T4, b4, hkv⟩
      have g4 := g.grow b4 T4
      refine ⟨_, rfl, _, rfl, _, rfl, _, rfl, _, rfl, _, rfl, p, q, ds, pl, lo, us, sd, st, rfl, g4, by omega, hkv, fun G5 y1 e1 T5 c5 he1 => ?_⟩
      refine ⟨_, rfl, rfl, _, rfl, ite2 (fun _ => ?_) (fun _ => ?_)⟩
      · refine ⟨_, rfl, by show 2 ≤ sizeLine; decide, fun W hW => ?_⟩
        have s6 := same_upd (o := .tup [.str "not", y1]) hW
        exact qq _ (.ref W) (.neg e1) (T5.sm s6) (Bt.tr b4 (Bt.tr c5 (Bt.same s6))) ⟨W, y1, rfl, upd_same, he1.keep (TupK.of s6)⟩
      · have b5 := Bt.tr b4 c5
        have g5 := g.grow b5 T5
        refine ⟨_, rfl, _, rfl, _, rfl, _, rfl, _, rfl, _, rfl, _, rfl, _, rfl, p, q, ds, pl, lo, us, sd, st, rfl, g5, by omega, hkv.keep (c5.tk T4), fun G6 y2 e2 T6 c6 he2 => ?_⟩
        refine ⟨by show 4 ≤ sizeLine; decide, fun W hW => ?_⟩
        have s7 := same_upd (o := .tup [.str "binary", .str op, y1, y2]) hW
        exact qq _ (.ref W) (.bin op e1 e2) (T6.sm s7) (Bt.tr b5 (Bt.tr c6 (Bt.same s7))) ⟨W, y1, y2, rfl, upd_same, (he1.keep (c6.tk T5)).keep (TupK.of s7), he2.keep (TupK.of s7)⟩
end
end Q11
namespace Q11
open PySem PySem.Spec PyProof.Rows L2 SX HL
section
variable {P : Program} {w : World} {K : PySem.W.Frag} {mg : Str → Option Value} {base : Heap}
theorem ok_term {k : Nat} (Z : Defs K mg) : (d : Nat) → FnOk P w K mg base CX0 (k + 6 + 2 * d) Z.fLawTerm Z.fdLawTerm ["state", "plan", "local", "kind", "depth", "steady"] (spTerm d)
  | 0 => term_zero Z
  | d + 1 => by
    have h := ok_term (k := k) Z d
    rw [show k + 6 + 2 * d = (k + 2 * d + 1) + 5 by omega] at h
    have r := term_step Z (ok_choice Z h) (ok_made Z h)
    rw [show k + 2 * d + 1 + 7 = k + 6 + 2 * (d + 1) by omega] at r
    exact r
/-! ### _law_definition -/
/-- a term of depth 2 or 3 -/
def spT4 : Sp := fun vs H Q _ => ∃ (p q : Addr) (ds : List Int) (pl lo : Addr) (us : List V) (kv : V) (d : Nat) (st : Bool), (d = 2 ∨ d = 3) ∧ vs = [.ref p, .ref pl, .ref lo, kv, .int (d : Int), .bl st] ∧ G H p q ds pl lo us ∧ us.length ≤ 2 ∧ KdP H kv ∧
  ∀ H' y e, StN H' p q ds → Bt H H' p → ExAt H' 4 e y → Q y H'
theorem t4_or {vs : List V} {H : Hp} {Q : VK} {E : XK} (h : spT4 vs H Q E) : spTerm 2 vs H Q E ∨ spTerm 3 vs H Q E := by
  obtain ⟨p, q, ds, pl, lo, us, kv, d, st, hd, rfl, g, hl, hk, qq⟩ := h
  rcases hd with rfl | rfl
  · exact .inl ⟨p, q, ds, pl, lo, us, kv, st, rfl, g, by omega, hk, fun H' y e S b he => qq H' y e S b (ex_up he (by decide))⟩
  · exact .inr ⟨p, q, ds, pl, lo, us, kv, st, rfl, g, by omega, hk, fun H' y e S b he => qq H' y e S b he⟩
theorem ok_t4 {k : Nat} {f : Addr} {fd : FuncData} (T2 : FnOk P w K mg base CX0 k f fd ["state", "plan", "local", "kind", "depth", "steady"] (spTerm 2)) (T3 : FnOk P w K mg base CX0 k f fd ["state", "plan", "local", "kind", "depth", "steady"] (spTerm 3)) : FnOk P w K mg base CX0 k f fd ["state", "plan", "local", "kind", "depth", "steady"] spT4 :=
  ⟨fun vs H Q E h => (t4_or h).elim (T2.len vs H Q E) (T3.len vs H Q E), fun A outer s H args us vs Q E hr he hb hv hs => (t4_or hs).elim (T2.run A outer s H args us vs Q E hr he hb hv) (T3.run A outer s H args us vs Q E hr he hb hv)⟩
theorem G.sm {H H' : Hp} {p q pl lo : Addr} {ds : List Int} {us : List V} (g : G H p q ds pl lo us) (s : Same H H') : G H' p q ds pl lo us := g.grow (Bt.same s) (g.S.sm s)
def spDef : Sp := fun vs H Q _ => ∃ (p q : Addr) (ds : List Int) (pl : Addr) (x f : Str), vs = [.ref p, .ref pl, .str x] ∧ StN H p q ds ∧ PlanAt H pl ∧ pl ≠ p ∧ (x, f) ∈ PLAN ∧
  ∀ H' y e, StN H' p q ds → Bt H H' p → DfAt H' e y → Q y H'
theorem plan_low {x f : Str} (h : (x, f) ∈ PLAN) : x ∈ LOW := (show ∀ e ∈ PLAN, e.1 ∈ LOW by decide +kernel) _ h
theorem plan_form {x f : Str} (h : (x, f) ∈ PLAN) : f = "data" ∨ f = "view" ∨ f = "cell" ∨ f = "fun" ∨ f = "act" := (show ∀ e ∈ PLAN, e.2 = "data" ∨ e.2 = "view" ∨ e.2 = "cell" ∨ e.2 = "fun" ∨ e.2 = "act" by decide +kernel) _ h
theorem ok_def {k : Nat} (Z : Defs K mg) : FnOk P w K mg base CX0 (k + 13) Z.fLawDefinition Z.fdLawDefinition ["state", "plan", "name"] spDef := by
  have GLawNext : FnOk P w K mg base CX0 (k + 3) Z.fLawNext Z.fdLawNext ["state", "limit"] spNext := ok_next Z
  have GLawNames : FnOk P w K mg base CX0 (k + 4) Z.fLawNames Z.fdLawNames ["state", "count"] spNames := ok_names Z
  have T2 : FnOk P w K mg base CX0 (k + 12) Z.fLawTerm Z.fdLawTerm ["state", "plan", "local", "kind", "depth", "steady"] (spTerm 2) := ok_term (k := k + 2) Z 2
  have T3 : FnOk P w K mg base CX0 (k + 12) Z.fLawTerm Z.fdLawTerm ["state", "plan", "local", "kind", "depth", "steady"] (spTerm 3) := ok_term (k := k) Z 3
  have GLawTerm : FnOk P w K mg base CX0 (k + 12) Z.fLawTerm Z.fdLawTerm ["state", "plan", "local", "kind", "depth", "steady"] spT4 := ok_t4 T2 T3
  refine Z.DLawDefinition.F.ok scLawDefinition (fun vs H Q E h => ?_) (fun cdv A outer s H vs Q E hr h => ?_)
  · obtain ⟨p, q, ds, pl, x, f, rfl, _⟩ := h
    rfl
  · obtain ⟨p, q, ds, pl, x, f, rfl, S0, P0, np, hx, qq⟩ := h
    refine ⟨_, (pss_cons (ps_set (i := 3) scLawDefinition.nd rfl (.inl rfl) (pe_ix ix_tup (pe_dget (hu_of hr) (pv 1) (pv 2) (fun _ _ => rfl)) pe_int (fun _ _ => rfl)))
        (pss_cons (ps_if (pt_cmpR op_eq (pv 3) pe_str (nomark _)) (pss_one (ps_ret (pe_tup (pa_cons pe_str (pa_cons (pv 2) (pa_cons (pe_ix ix_tup (pe_dget (hu_of hr) (pv 1) (pv 2) (fun _ _ => rfl)) pe_int (fun _ _ => rfl)) pa_nil)))))) pss_nil)
        (pss_cons (ps_if (pt_cmpR op_eq (pv 3) pe_str (nomark _)) (pss_one (ps_ret (pe_tup (pa_cons pe_str (pa_cons (pv 2) (pa_cons (pe_call GLawTerm (hr.mono (by omega)) (by rfl) Z.DLawTerm.g Z.DLawTerm.F.kp Z.DLawTerm.b .nil pass0 (pa_cons (pv 0) (pa_cons (pv 1) (pa_cons (pe_lst pa_nil) (pa_cons (pe_ix ix_tup (pe_dget (hu_of hr) (pv 1) (pv 2) (fun _ _ => rfl)) pe_int (fun _ _ => rfl)) (pa_cons pe_int (pa_cons pe_bl pa_nil))))))) pa_nil)))))) pss_nil)
        (pss_cons (ps_if (pt_cmpR op_eq (pv 3) pe_str (nomark _)) (pss_cons (ps_set (i := 4) scLawDefinition.nd rfl (.inl rfl) (pe_ix ix_list (pe_lst (pa_cons pe_non (pa_cons pe_non (pa_cons pe_str (pa_cons pe_str (pa_cons pe_str pa_nil)))))) (pe_call GLawNext (hr.mono (by omega)) (by rfl) Z.DLawNext.g Z.DLawNext.F.kp Z.DLawNext.b .nil pass0 (pa_cons (pv 0) (pa_cons pe_int pa_nil))) (fun _ _ => rfl)))
        (pss_cons (ps_set (i := 5) scLawDefinition.nd rfl (.inl rfl) (pe_cmpR op_gt (pe_call GLawNext (hr.mono (by omega)) (by rfl) Z.DLawNext.g Z.DLawNext.F.kp Z.DLawNext.b .nil pass0 (pa_cons (pv 0) (pa_cons pe_int pa_nil))) pe_int (nomark _)))
        (pss_one (ps_ret (pe_tup (pa_cons pe_str (pa_cons (pv 2) (pa_cons (pe_ix ix_tup (pe_dget (hu_of hr) (pv 1) (pv 2) (fun _ _ => rfl)) pe_int (fun _ _ => rfl)) (pa_cons (pe_call GLawTerm (hr.mono (by omega)) (by rfl) Z.DLawTerm.g Z.DLawTerm.F.kp Z.DLawTerm.b .nil pass0 (pa_cons (pv 0) (pa_cons (pv 1) (pa_cons (pe_lst pa_nil) (pa_cons (pe_ix ix_tup (pe_dget (hu_of hr) (pv 1) (pv 2) (fun _ _ => rfl)) pe_int (fun _ _ => rfl)) (pa_cons pe_int (pa_cons (pv 5) pa_nil))))))) (pa_cons (pv 4) pa_nil)))))))))) pss_nil)
        (pss_cons (ps_set (i := 6) scLawDefinition.nd rfl (.inr rfl) (pe_call GLawNames (hr.mono (by omega)) (by rfl) Z.DLawNames.g Z.DLawNames.F.kp Z.DLawNames.b .nil pass0 (pa_cons (pv 0) (pa_cons (pe_callB call_len_seq (by rfl) Z.len PySem.boot_len (pa_cons (pe_ix ix_tup (pe_dget (hu_of hr) (pv 1) (pv 2) (fun _ _ => rfl)) pe_int (fun _ _ => rfl)) pa_nil)) pa_nil))))
        (pss_cons (ps_setLc (i := 7) (own := [("k", 10)]) (g := (gName 10)) (by rfl) scLawDefinition.nd rfl rfl (sw_true rfl rfl rfl (by decide +kernel)) (pi_range1 (by rfl) Z.range (pa_cons (pe_callB (HX.call_len_seqK (K := K) rfl) (by rfl) Z.len PySem.boot_len (pa_cons (pv 6) pa_nil)) pa_nil)) (blkOk_by (own := [("k", 10)]) (N := ["state", "plan", "name", "form", "turn", "steady", "names", "local", "settings", "cell", "k"]) (sc := defScope sLawDefinition) (by decide +kernel)) (fun _ _ _ _ _ => (pg_name (i := 10) scLawDefinition.nd rfl (Or.inl rfl))) (fun _ _ _ _ _ => pts_nil) (fun _ _ _ _ _ => (pe_tup (pa_cons (pe_ix (HL.ix_tupK (K := K) rfl) (pv 6) (pv 10) (fun _ _ => rfl)) (pa_cons (pe_ix (HL.ix_tupK (K := K) rfl) (pe_ix (HL.ix_tupK (K := K) rfl) (pe_dget (hu_of hr) (pv 1) (pv 2) (fun _ _ => rfl)) pe_int (fun _ _ => rfl)) (pv 10) (fun _ _ => rfl)) pa_nil)))))
        (pss_cons (ps_if (pt_cmpR op_eq (pv 3) pe_str (nomark _)) (pss_one (ps_ret (pe_tup (pa_cons pe_str (pa_cons (pv 2) (pa_cons (pv 6) (pa_cons (pe_call GLawTerm (hr.mono (by omega)) (by rfl) Z.DLawTerm.g Z.DLawTerm.F.kp Z.DLawTerm.b .nil pass0 (pa_cons (pv 0) (pa_cons (pv 1) (pa_cons (pv 7) (pa_cons (pe_ix ix_tup (pe_dget (hu_of hr) (pv 1) (pv 2) (fun _ _ => rfl)) pe_int (fun _ _ => rfl)) (pa_cons pe_int (pa_cons (pe_cmpR op_gt (pe_call GLawNext (hr.mono (by omega)) (by rfl) Z.DLawNext.g Z.DLawNext.F.kp Z.DLawNext.b .nil pass0 (pa_cons (pv 0) (pa_cons pe_int pa_nil))) pe_int (nomark _)) pa_nil))))))) pa_nil))))))) pss_nil)
        (pss_cons (ps_set (i := 8) scLawDefinition.nd rfl (.inl rfl) (pe_lst pa_nil))
        (pss_cons (ps_for PassesOwn.never rfl (pi_list (pe_ix ix_list (pe_lst (pa_cons (pe_lst (pa_cons pe_str pa_nil)) (pa_cons (pe_lst (pa_cons pe_str pa_nil)) (pa_cons (pe_lst (pa_cons pe_str (pa_cons pe_str pa_nil))) (pa_cons (pe_lst (pa_cons pe_str (pa_cons pe_str pa_nil))) (pa_cons (pe_lst (pa_cons pe_str pa_nil)) (pa_cons (pe_lst pa_nil) pa_nil))))))) (pe_op op_fdiv (pe_op op_mul (pe_call GLawNext (hr.mono (by omega)) (by rfl) Z.DLawNext.g Z.DLawNext.F.kp Z.DLawNext.b .nil pass0 (pa_cons (pv 0) (pa_cons pe_int pa_nil))) pe_int) pe_int) (fun _ _ => rfl))) (pg_name (i := 9) scLawDefinition.nd rfl (.inl rfl)) (pss_one (ps_expr (pe_bm PySem.F.plainAttrs_list PySem.F.slot_list_append PySem.F.type_list_append mt_append (pv 8) (pa_cons (pe_tup (pa_cons (pv 9) (pa_cons (pe_call GLawTerm (hr.mono (by omega)) (by rfl) Z.DLawTerm.g Z.DLawTerm.F.kp Z.DLawTerm.b .nil pass0 (pa_cons (pv 0) (pa_cons (pv 1) (pa_cons (pv 7) (pa_cons (pe_ix ix_tup (pe_dget (hu_of hr) (pv 1) (pv 9) (fun _ _ => rfl)) pe_int (fun _ _ => rfl)) (pa_cons pe_int (pa_cons pe_bl pa_nil))))))) pa_nil))) pa_nil)))))
        (pss_one (ps_ret (pe_tup (pa_cons pe_str (pa_cons (pv 2) (pa_cons (pv 6) (pa_cons (pe_callTy call_tuple_of (by rfl) Z.tuple HL.boot_tuple (pa_cons (pv 8) pa_nil)) (pa_cons (pe_call GLawTerm (hr.mono (by omega)) (by rfl) Z.DLawTerm.g Z.DLawTerm.F.kp Z.DLawTerm.b .nil pass0 (pa_cons (pv 0) (pa_cons (pv 1) (pa_cons (pv 7) (pa_cons (pe_ix ix_tup (pe_dget (hu_of hr) (pv 1) (pv 2) (fun _ _ => rfl)) pe_int (fun _ _ => rfl)) (pa_cons pe_int (pa_cons pe_bl pa_nil))))))) pa_nil))))))))))))))))), ?_⟩
    have hlow := plan_low hx
    by_cases hf : f = "data"
    · subst hf
      obtain ⟨pk, v', hpk, hv', t', qd, m1, m2, rfl, ht', hqd, hm1, hm2⟩ := P0.dat hx
      refine ⟨_, rfl, _, rfl, pl, _, rfl, .inl ⟨pk, .inr x, .inl hpk, rfl, hv'.symm⟩, t', _, 0, .str "data", rfl, rfl, SqT.of ht', rfl, _, rfl, rfl, _, rfl, iteYes (by decide +kernel) ?_⟩
      obtain ⟨d1, hm1⟩ := hm1
      obtain ⟨d2, hm2⟩ := hm2
      refine ⟨_, rfl, _, rfl, _, rfl, pl, _, rfl, .inl ⟨pk, .inr x, .inl hpk, rfl, hv'.symm⟩, t', _, 1, .ref qd, rfl, rfl, SqT.of ht', rfl, by show 3 ≤ sizeLine; decide, fun W hW => ?_⟩
      have s1 := same_upd (o := .tup [.str "data", .str x, .ref qd]) hW
      exact qq _ (.ref W) (.data x [d1, d2]) (S0.sm s1) (Bt.same s1) ⟨hlow, W, qd, [m1, m2], rfl, upd_same, s1 _ _ hqd, Nat.le_refl _, .cons (hm1.keep (TupK.of s1)) (.cons (hm2.keep (TupK.of s1)) .nil)⟩
    obtain ⟨pk, v', hpk, hv', t', ks, kd, rfl, ht', hks, hkd⟩ := P0.oth hx hf
    refine ⟨_, rfl, _, rfl, pl, _, rfl, .inl ⟨pk, .inr x, .inl hpk, rfl, hv'.symm⟩, t', _, 0, .str f, rfl, rfl, SqT.of ht', rfl, _, rfl, rfl, _, rfl, iteNo (fun h => hf (V.str.inj (of_decide_eq_true h))) ?_⟩
    have cs := plan_form hx
    by_cases hv : f = "view"
    · subst hv
      refine ⟨_, rfl, rfl, _, rfl, iteYes (by decide +kernel) ?_⟩
      refine ⟨_, rfl, _, rfl, _, rfl, by show 0 ≤ sizeLine; decide, fun X1 hX1 => ?_⟩
      have b1 : Bt H (upd H X1 (.lst [])) p := Bt.same (same_upd hX1)
      have S1 := S0.sm (same_upd (o := (.lst [])) hX1)
      have gX1 : upd H X1 (.lst []) X1 = some (.lst []) := upd_same
      have neX1 := S0.nn hX1
      generalize upd H X1 (.lst []) = H1 at b1 S1 gX1 ⊢
      refine ⟨_, rfl, _, rfl, pl, _, rfl, .inl ⟨pk, .inr x, .inl (b1 _ _ hpk np), rfl, hv'.symm⟩, t', _, 2, kd, rfl, rfl, SqT.of ((Bt.tk b1 S0) _ _ ht'), rfl, p, q, ds, pl, X1, [], kd, 3, false, .inr rfl, rfl, ⟨S1, P0.keep b1 np (Bt.tk b1 S0), np, gX1, neX1, fun u hu => by cases hu⟩, by decide, (hkd.keep (Bt.tk b1 S0)), fun H2 y2 ey2 S2 b2 hy2 => ?_⟩
      refine ⟨by show 3 ≤ sizeLine; decide, fun X3 hX3 => ?_⟩
      have b3 : Bt H2 (upd H2 X3 (.tup [.str "view", .str x, y2])) p := Bt.same (same_upd hX3)
      have S3 := S2.sm (same_upd (o := (.tup [.str "view", .str x, y2])) hX3)
      have gX3 : upd H2 X3 (.tup [.str "view", .str x, y2]) X3 = some (.tup [.str "view", .str x, y2]) := upd_same
      have neX3 := S2.nn hX3
      generalize upd H2 X3 (.tup [.str "view", .str x, y2]) = H3 at b3 S3 gX3 ⊢
      exact qq H3 (.ref X3) (.view x ey2) S3 (Bt.tr b1 (Bt.tr b2 b3)) ⟨hlow, X3, y2, rfl, gX3, (hy2.keep (Bt.tk b3 S2))⟩
    refine ⟨_, rfl, rfl, _, rfl, iteNo (fun h => hv (V.str.inj (of_decide_eq_true h))) ?_⟩
    by_cases hc : f = "cell"
    · subst hc
      refine ⟨_, rfl, rfl, _, rfl, iteYes (by decide +kernel) ?_⟩
      refine ⟨by show 5 ≤ sizeLine; decide, fun X1 hX1 => ?_⟩
      have b1 : Bt H (upd H X1 (.lst [.non, .non, .str "f", .str "g", .str "v"])) p := Bt.same (same_upd hX1)
      have S1 := S0.sm (same_upd (o := (.lst [.non, .non, .str "f", .str "g", .str "v"])) hX1)
      have gX1 : upd H X1 (.lst [.non, .non, .str "f", .str "g", .str "v"]) X1 = some (.lst [.non, .non, .str "f", .str "g", .str "v"]) := upd_same
      have neX1 := S0.nn hX1
      generalize upd H X1 (.lst [.non, .non, .str "f", .str "g", .str "v"]) = H1 at b1 S1 gX1 ⊢
      refine ⟨_, rfl, p, q, ds, 5, rfl, S1, by decide, fun H2 v2 S2 bb2 lov2 hiv2 => ?_⟩
      have b2 := Bt.of bb2
      obtain ⟨tv, atv, htv⟩ : ∃ tv : Option Str, atI [.non, .non, .str "f", .str "g", .str "v"] v2 = some (tvV tv) ∧ ∀ y, tv = some y → y ∈ LOW := by
        obtain ⟨c, rfl⟩ := Int.eq_ofNat_of_zero_le lov2
        have hc : c = 0 ∨ c = 1 ∨ c = 2 ∨ c = 3 ∨ c = 4 := by omega
        rcases hc with rfl | rfl | rfl | rfl | rfl
        · exact ⟨none, rfl, fun y h => by cases h⟩
        · exact ⟨none, rfl, fun y h => by cases h⟩
        · exact ⟨some "f", rfl, fun y h => by cases h; decide +kernel⟩
        · exact ⟨some "g", rfl, fun y h => by cases h; decide +kernel⟩
        · exact ⟨some "v", rfl, fun y h => by cases h; decide +kernel⟩
      refine ⟨X1, _, _, tvV tv, rfl, rfl, SqL.of (b2 _ _ gX1 neX1), atv, ?_⟩
      refine ⟨_, rfl, p, q, ds, 4, rfl, S2, by decide, fun H3 v3 S3 bb3 lov3 hiv3 => ?_⟩
      have b3 := Bt.of bb3
      refine ⟨_, _, rfl, rfl, ?_⟩
      refine ⟨_, rfl, _, rfl, _, rfl, pl, _, rfl, .inl ⟨pk, .inr x, .inl ((Bt.tr b1 (Bt.tr b2 b3)) _ _ hpk np), rfl, hv'.symm⟩, t', _, 2, kd, rfl, rfl, SqT.of ((Bt.tk (Bt.tr b1 (Bt.tr b2 b3)) S0) _ _ ht'), rfl, _, rfl, _, rfl, by show 0 ≤ sizeLine; decide, fun X4 hX4 => ?_⟩
      have b4 : Bt H3 (upd H3 X4 (.lst [])) p := Bt.same (same_upd hX4)
      have S4 := S3.sm (same_upd (o := (.lst [])) hX4)
      have gX4 : upd H3 X4 (.lst []) X4 = some (.lst []) := upd_same
      have neX4 := S3.nn hX4
      generalize upd H3 X4 (.lst []) = H4 at b4 S4 gX4 ⊢
      refine ⟨_, rfl, _, rfl, pl, _, rfl, .inl ⟨pk, .inr x, .inl ((Bt.tr b1 (Bt.tr b2 (Bt.tr b3 b4))) _ _ hpk np), rfl, hv'.symm⟩, t', _, 2, kd, rfl, rfl, SqT.of ((Bt.tk (Bt.tr b1 (Bt.tr b2 (Bt.tr b3 b4))) S0) _ _ ht'), rfl, _, rfl, p, q, ds, pl, X4, [], kd, 2, _, .inl rfl, rfl, ⟨S4, P0.keep (Bt.tr b1 (Bt.tr b2 (Bt.tr b3 b4))) np (Bt.tk (Bt.tr b1 (Bt.tr b2 (Bt.tr b3 b4))) S0), np, gX4, neX4, fun u hu => by cases hu⟩, by decide, (hkd.keep (Bt.tk (Bt.tr b1 (Bt.tr b2 (Bt.tr b3 b4))) S0)), fun H5 y5 ey5 S5 b5 hy5 => ?_⟩
      obtain ⟨kk, hkk⟩ := hkd
      refine ⟨_, rfl, by show 5 ≤ sizeLine; decide, fun X6 hX6 => ?_⟩
      have b6 : Bt H5 (upd H5 X6 (.tup [.str "cell", .str x, kd, y5, tvV tv])) p := Bt.same (same_upd hX6)
      have S6 := S5.sm (same_upd (o := (.tup [.str "cell", .str x, kd, y5, tvV tv])) hX6)
      have gX6 : upd H5 X6 (.tup [.str "cell", .str x, kd, y5, tvV tv]) X6 = some (.tup [.str "cell", .str x, kd, y5, tvV tv]) := upd_same
      have neX6 := S5.nn hX6
      generalize upd H5 X6 (.tup [.str "cell", .str x, kd, y5, tvV tv]) = H6 at b6 S6 gX6 ⊢
      exact qq H6 (.ref X6) (.cell x kk ey5 tv) S6 (Bt.tr b1 (Bt.tr b2 (Bt.tr b3 (Bt.tr b4 (Bt.tr b5 b6))))) ⟨hlow, htv, X6, kd, y5, rfl, gX6, hkk.keep (Bt.tk (Bt.tr b1 (Bt.tr b2 (Bt.tr b3 (Bt.tr b4 (Bt.tr b5 b6))))) S0), (hy5.keep (Bt.tk b6 S5))⟩
    refine ⟨_, rfl, rfl, _, rfl, iteNo (fun h => hc (V.str.inj (of_decide_eq_true h))) ?_⟩
    obtain ⟨ksl, bk, uks, rfl, hbk, hkl, hks⟩ := hks
    refine ⟨_, rfl, _, rfl, _, rfl, pl, _, rfl, .inl ⟨pk, .inr x, .inl hpk, rfl, hv'.symm⟩, t', _, 1, .ref bk, rfl, rfl, SqT.of ht', rfl, bk, _, rfl, .inr (SqT.of hbk), p, q, ds, uks.length, rfl, S0, hkl, fun H1 yn ns S1 b1 hns hnl => ?_⟩
    obtain ⟨tn, rfl, htn, _, hnlow⟩ := hns
    refine ⟨_, rfl, tn, _, rfl, .inr (SqT.of htn), (ns.length : Int), (by rw [List.length_map]), by omega, by omega, fun D hD => ?_⟩
    have nD := S1.nn hD
    have tk1 := b1.tk S0
    refine lc_range (lo := 0) (n := (ns.length : Int).toNat) (fun j H' => Same H1 H' ∧ ∃ es : List V, H' D = some (.lst es) ∧ es.length = j ∧ ∀ u ∈ es, LocP H' u) ⟨same_upd hD, [], upd_same, rfl, fun u h => by cases h⟩ ?_ ?_
    · rintro j G3 hj ⟨s3, es, hD3, hel, hes⟩
      have hj2 : j < uks.length := by omega
      have tk3 := tk1.tr (TupK.of s3)
      obtain ⟨kd', hkd', hkd2⟩ := hks.get (List.getElem?_eq_getElem hj2)
      have hnj : ns[j]? = some ns[j] := List.getElem?_eq_getElem (by omega)
      have at1 : atI (ns.map V.str) (0 + (j : Int)) = some (.str ns[j]) := by rw [Int.zero_add]; exact atI_nat (by rw [List.getElem?_map, hnj]; rfl)
      have at2 : atI uks (0 + (j : Int)) = some uks[j] := by rw [Int.zero_add]; exact atI_nat (List.getElem?_eq_getElem hj2)
      refine ⟨rfl, lc_yes ⟨_, rfl, _, rfl, tn, _, _, .str ns[j], rfl, rfl, SqT.of (s3 _ _ htn), at1, _, rfl, _, rfl, pl, _, rfl, .inl ⟨pk, .inr x, .inl (s3 _ _ (b1 _ _ hpk np)), rfl, hv'.symm⟩, t', _, 1, .ref bk, rfl, rfl, SqT.of (tk3 _ _ ht'), rfl, _, rfl, bk, _, _, uks[j], rfl, rfl, SqT.of (tk3 _ _ hbk), at2, by show 2 ≤ sizeLine; decide, fun T hT => ?_⟩⟩
      have s4 := same_upd (o := .tup [.str ns[j], uks[j]]) hT
      have gT : upd G3 T (.tup [.str ns[j], uks[j]]) T = some (.tup [.str ns[j], uks[j]]) := upd_same
      generalize upd G3 T (.tup [.str ns[j], uks[j]]) = G4 at s4 gT ⊢
      have hD4 := s4 _ _ hD3
      have k5 : TupK G4 (upd G4 D (.lst (es ++ [.ref T]))) := tk_lst hD4
      have big : 1000 ≤ sizeLine := by decide
      refine ⟨es, hD4, by omega, fun z o h => by rw [upd_ne (ne_of_none h hD)]; exact s4 _ _ (s3 _ _ h), es ++ [.ref T], upd_same, by rw [List.length_append, hel]; rfl, fun u hu => ?_⟩
      rcases List.mem_append.mp hu with hu | hu
      · exact ((hes u hu).keep (TupK.of s4)).keep k5
      · rw [List.mem_singleton.mp hu]
        exact LocP.mk (k5 _ _ gT) (hnlow _ (List.getElem_mem _)) (KdP.keep ⟨kd', hkd2⟩ (((tk3.tr (TupK.of s4))).tr k5))
    rintro H2 ⟨s3, es, gD, hel, hes⟩
    have hel2 : es.length ≤ 2 := by omega
    have S2 := S1.sm s3
    have b2 : Bt H1 H2 p := Bt.same s3
    have htn2 := s3 _ _ htn
    by_cases hn : f = "fun"
    · subst hn
      refine ⟨_, rfl, rfl, _, rfl, iteYes (by decide +kernel) ?_⟩
      refine ⟨_, rfl, _, rfl, _, rfl, _, rfl, _, rfl, _, rfl, _, rfl, pl, _, rfl, .inl ⟨pk, .inr x, .inl ((Bt.tr b1 b2) _ _ hpk np), rfl, hv'.symm⟩, t', _, 2, kd, rfl, rfl, SqT.of ((Bt.tk (Bt.tr b1 b2) S0) _ _ ht'), rfl, _, rfl, p, q, ds, 3, rfl, S2, by decide, fun H3 v1 S3 bb3 lov1 hiv1 => ?_⟩
      have b3 := Bt.of bb3
      refine ⟨_, _, rfl, rfl, ?_⟩
      refine ⟨p, q, ds, pl, D, es, kd, 3, _, .inr rfl, rfl, ⟨S3, P0.keep (Bt.tr b1 (Bt.tr b2 b3)) np (Bt.tk (Bt.tr b1 (Bt.tr b2 b3)) S0), np, (b3 _ _ gD nD), nD, fun u hu => ((hes u hu).keep (Bt.tk b3 S2))⟩, hel2, (hkd.keep (Bt.tk (Bt.tr b1 (Bt.tr b2 b3)) S0)), fun H4 y2 ey2 S4 b4 hy2 => ?_⟩
      refine ⟨by show 4 ≤ sizeLine; decide, fun X3 hX3 => ?_⟩
      have b5 : Bt H4 (upd H4 X3 (.tup [.str "fun", .str x, .ref tn, y2])) p := Bt.same (same_upd hX3)
      have S5 := S4.sm (same_upd (o := (.tup [.str "fun", .str x, .ref tn, y2])) hX3)
      have gX3 : upd H4 X3 (.tup [.str "fun", .str x, .ref tn, y2]) X3 = some (.tup [.str "fun", .str x, .ref tn, y2]) := upd_same
      have neX3 := S4.nn hX3
      generalize upd H4 X3 (.tup [.str "fun", .str x, .ref tn, y2]) = H5 at b5 S5 gX3 ⊢
      exact qq H5 (.ref X3) (.fn x ns ey2) S5 (Bt.tr b1 (Bt.tr b2 (Bt.tr b3 (Bt.tr b4 b5)))) ⟨hlow, X3, .ref tn, y2, rfl, gX3, ⟨tn, rfl, ((Bt.tk (Bt.tr b3 (Bt.tr b4 b5)) S2) _ _ htn2), by omega, hnlow⟩, (hy2.keep (Bt.tk b5 S4))⟩
    refine ⟨_, rfl, rfl, _, rfl, iteNo (fun h => hn (V.str.inj (of_decide_eq_true h))) ?_⟩
    have ha : f = "act" := by rcases cs with h | h | h | h | h; exact absurd h hf; exact absurd h hv; exact absurd h hc; exact absurd h hn; exact h
    subst ha
    refine ⟨by show 0 ≤ sizeLine; decide, fun X1 hX1 => ?_⟩
    have b3 : Bt H2 (upd H2 X1 (.lst [])) p := Bt.same (same_upd hX1)
    have S3 := S2.sm (same_upd (o := (.lst [])) hX1)
    have gX1 : upd H2 X1 (.lst []) X1 = some (.lst []) := upd_same
    have neX1 := S2.nn hX1
    generalize upd H2 X1 (.lst []) = H3 at b3 S3 gX1 ⊢
    refine ⟨by show 1 ≤ sizeLine; decide, fun X2 hX2 => ?_⟩
    have b4 : Bt H3 (upd H3 X2 (.lst [.str "c"])) p := Bt.same (same_upd hX2)
    have S4 := S3.sm (same_upd (o := (.lst [.str "c"])) hX2)
    have gX2 : upd H3 X2 (.lst [.str "c"]) X2 = some (.lst ((["c"] : List Str).map V.str)) := upd_same
    have neX2 := S3.nn hX2
    generalize upd H3 X2 (.lst [.str "c"]) = H4 at b4 S4 gX2 ⊢
    refine ⟨by show 1 ≤ sizeLine; decide, fun X3 hX3 => ?_⟩
    have b5 : Bt H4 (upd H4 X3 (.lst [.str "m"])) p := Bt.same (same_upd hX3)
    have S5 := S4.sm (same_upd (o := (.lst [.str "m"])) hX3)
    have gX3 : upd H4 X3 (.lst [.str "m"]) X3 = some (.lst ((["m"] : List Str).map V.str)) := upd_same
    have neX3 := S4.nn hX3
    generalize upd H4 X3 (.lst [.str "m"]) = H5 at b5 S5 gX3 ⊢
    refine ⟨by show 2 ≤ sizeLine; decide, fun X4 hX4 => ?_⟩
    have b6 : Bt H5 (upd H5 X4 (.lst [.str "c", .str "m"])) p := Bt.same (same_upd hX4)
    have S6 := S5.sm (same_upd (o := (.lst [.str "c", .str "m"])) hX4)
    have gX4 : upd H5 X4 (.lst [.str "c", .str "m"]) X4 = some (.lst ((["c", "m"] : List Str).map V.str)) := upd_same
    have neX4 := S5.nn hX4
    generalize upd H5 X4 (.lst [.str "c", .str "m"]) = H6 at b6 S6 gX4 ⊢
    refine ⟨by show 2 ≤ sizeLine; decide, fun X5 hX5 => ?_⟩
    have b7 : Bt H6 (upd H6 X5 (.lst [.str "m", .str "m"])) p := Bt.same (same_upd hX5)
    have S7 := S6.sm (same_upd (o := (.lst [.str "m", .str "m"])) hX5)
    have gX5 : upd H6 X5 (.lst [.str "m", .str "m"]) X5 = some (.lst ((["m", "m"] : List Str).map V.str)) := upd_same
    have neX5 := S6.nn hX5
    generalize upd H6 X5 (.lst [.str "m", .str "m"]) = H7 at b7 S7 gX5 ⊢
    refine ⟨by show 1 ≤ sizeLine; decide, fun X6 hX6 => ?_⟩
    have b8 : Bt H7 (upd H7 X6 (.lst [.str "v"])) p := Bt.same (same_upd hX6)
    have S8 := S7.sm (same_upd (o := (.lst [.str "v"])) hX6)
    have gX6 : upd H7 X6 (.lst [.str "v"]) X6 = some (.lst ((["v"] : List Str).map V.str)) := upd_same
    have neX6 := S7.nn hX6
    generalize upd H7 X6 (.lst [.str "v"]) = H8 at b8 S8 gX6 ⊢
    refine ⟨by show 0 ≤ sizeLine; decide, fun X7 hX7 => ?_⟩
    have b9 : Bt H8 (upd H8 X7 (.lst [])) p := Bt.same (same_upd hX7)
    have S9 := S8.sm (same_upd (o := (.lst [])) hX7)
    have gX7 : upd H8 X7 (.lst []) X7 = some (.lst (([] : List Str).map V.str)) := upd_same
    have neX7 := S8.nn hX7
    generalize upd H8 X7 (.lst []) = H9 at b9 S9 gX7 ⊢
    refine ⟨by show 6 ≤ sizeLine; decide, fun X8 hX8 => ?_⟩
    have b10 : Bt H9 (upd H9 X8 (.lst [.ref X2, .ref X3, .ref X4, .ref X5, .ref X6, .ref X7])) p := Bt.same (same_upd hX8)
    have S10 := S9.sm (same_upd (o := (.lst [.ref X2, .ref X3, .ref X4, .ref X5, .ref X6, .ref X7])) hX8)
    have gX8 : upd H9 X8 (.lst [.ref X2, .ref X3, .ref X4, .ref X5, .ref X6, .ref X7]) X8 = some (.lst [.ref X2, .ref X3, .ref X4, .ref X5, .ref X6, .ref X7]) := upd_same
    have neX8 := S9.nn hX8
    generalize upd H9 X8 (.lst [.ref X2, .ref X3, .ref X4, .ref X5, .ref X6, .ref X7]) = H10 at b10 S10 gX8 ⊢
    refine ⟨_, rfl, p, q, ds, 8, rfl, S10, by decide, fun H11 v9 S11 bb11 lov9 hiv9 => ?_⟩
    have b11 := Bt.of bb11
    refine ⟨v9, 2, rfl, rfl, .inr ⟨by decide, by decide⟩, v9 * 2, 3, rfl, rfl, ⟨by decide, by decide⟩, ?_⟩
    obtain ⟨a, ss, ata, ha, hsl, hss, nap, naX⟩ : ∃ (a : Addr) (ss : List Str), atI ([.ref X2, .ref X3, .ref X4, .ref X5, .ref X6, .ref X7] : List V) (v9 * 2 / 3) = some (V.ref a) ∧ H11 a = some (.lst (ss.map V.str)) ∧ ss.length ≤ 2 ∧ (∀ y ∈ ss, y ∈ (["c", "m", "v"] : List Str)) ∧ a ≠ p ∧ a ≠ X1 := by
      obtain ⟨c, rfl⟩ := Int.eq_ofNat_of_zero_le lov9
      have hc : c = 0 ∨ c = 1 ∨ c = 2 ∨ c = 3 ∨ c = 4 ∨ c = 5 ∨ c = 6 ∨ c = 7 := by omega
      rcases hc with rfl | rfl | rfl | rfl | rfl | rfl | rfl | rfl
      · exact ⟨X2, ["c"], rfl, ((Bt.tr b5 (Bt.tr b6 (Bt.tr b7 (Bt.tr b8 (Bt.tr b9 (Bt.tr b10 b11)))))) _ _ gX2 neX2), by decide, by decide +kernel, neX2, fun e => ne_of_none gX1 hX2 e.symm⟩
      · exact ⟨X2, ["c"], rfl, ((Bt.tr b5 (Bt.tr b6 (Bt.tr b7 (Bt.tr b8 (Bt.tr b9 (Bt.tr b10 b11)))))) _ _ gX2 neX2), by decide, by decide +kernel, neX2, fun e => ne_of_none gX1 hX2 e.symm⟩
      · exact ⟨X3, ["m"], rfl, ((Bt.tr b6 (Bt.tr b7 (Bt.tr b8 (Bt.tr b9 (Bt.tr b10 b11))))) _ _ gX3 neX3), by decide, by decide +kernel, neX3, fun e => ne_of_none (b4 _ _ gX1 neX1) hX3 e.symm⟩
      · exact ⟨X4, ["c", "m"], rfl, ((Bt.tr b7 (Bt.tr b8 (Bt.tr b9 (Bt.tr b10 b11)))) _ _ gX4 neX4), by decide, by decide +kernel, neX4, fun e => ne_of_none ((Bt.tr b4 b5) _ _ gX1 neX1) hX4 e.symm⟩
      · exact ⟨X4, ["c", "m"], rfl, ((Bt.tr b7 (Bt.tr b8 (Bt.tr b9 (Bt.tr b10 b11)))) _ _ gX4 neX4), by decide, by decide +kernel, neX4, fun e => ne_of_none ((Bt.tr b4 b5) _ _ gX1 neX1) hX4 e.symm⟩
      · exact ⟨X5, ["m", "m"], rfl, ((Bt.tr b8 (Bt.tr b9 (Bt.tr b10 b11))) _ _ gX5 neX5), by decide, by decide +kernel, neX5, fun e => ne_of_none ((Bt.tr b4 (Bt.tr b5 b6)) _ _ gX1 neX1) hX5 e.symm⟩
      · exact ⟨X6, ["v"], rfl, ((Bt.tr b9 (Bt.tr b10 b11)) _ _ gX6 neX6), by decide, by decide +kernel, neX6, fun e => ne_of_none ((Bt.tr b4 (Bt.tr b5 (Bt.tr b6 b7))) _ _ gX1 neX1) hX6 e.symm⟩
      · exact ⟨X6, ["v"], rfl, ((Bt.tr b9 (Bt.tr b10 b11)) _ _ gX6 neX6), by decide, by decide +kernel, neX6, fun e => ne_of_none ((Bt.tr b4 (Bt.tr b5 (Bt.tr b6 b7))) _ _ gX1 neX1) hX6 e.symm⟩
    refine ⟨X8, _, _, .ref a, rfl, rfl, SqL.of (b11 _ _ gX8 neX8), ata, a, rfl, ⟨_, SqL.of ha⟩, ?_⟩
    have b2K : Bt H2 H11 p := (Bt.tr b3 (Bt.tr b4 (Bt.tr b5 (Bt.tr b6 (Bt.tr b7 (Bt.tr b8 (Bt.tr b9 (Bt.tr b10 b11))))))))
    have nLq : X1 ≠ q := fun e => by
      obtain ⟨h1, _⟩ := S2
      rw [← e, hX1] at h1
      cases h1
    have n2 : ∀ {o}, H2 X1 = some o → False := fun h => by rw [hX1] at h; cases h
    have gL := ((Bt.tr b4 (Bt.tr b5 (Bt.tr b6 (Bt.tr b7 (Bt.tr b8 (Bt.tr b9 (Bt.tr b10 b11))))))) _ _ gX1 neX1)
    refine for_it walk_list (fun i σ H' => ∃ (y9 : Option V) (acc : List V) (sets : List (Str × Ex)), σ = [some (.ref p), some (.ref pl), some (.str x), some (.str "act"), none, none, some (.ref tn), some (.ref D), some (.ref X1), y9, none] ∧ StN H' p q ds ∧ Bt H2 H' p ∧ H' a = some (.lst (ss.map V.str)) ∧ H' X1 = some (.lst acc) ∧ acc.length = i ∧ All2 (SetAt H') acc sets)
      ⟨none, [], [], rfl, S11, b2K, ha, gL, rfl, .nil⟩ (fun i σ H' _ ⟨_, _, _, _, _, _, h, _⟩ => SqL.of h) ?_ ?_
    · rintro i u σ G3z G3 hi ⟨y9, acc, sets, rfl, T3, c3, ga3, gL3, hal, hsets⟩ ⟨rfl, hu⟩
      rw [List.getElem?_map] at hu
      obtain ⟨y, hy, rfl⟩ : ∃ y, ss[i]? = some y ∧ u = .str y := by
        cases e : ss[i]? with
        | none => rw [e] at hu; cases hu
        | some y => rw [e] at hu; cases hu; exact ⟨y, rfl, rfl⟩
      have hi2 : i < ss.length := by
        rcases Nat.lt_or_ge i ss.length with h | h
        · exact h
        · rw [List.getElem?_eq_none h] at hy; cases hy
      have hym := hss y (List.mem_of_getElem? hy)
      have cy : y = "c" ∨ y = "m" ∨ y = "v" := by simpa using hym
      obtain ⟨f2, hyf, hfn⟩ : ∃ f : Str, (y, f) ∈ PLAN ∧ f ≠ "data" := by
        rcases cy with rfl | rfl | rfl
        · exact ⟨"cell", by decide +kernel, by decide +kernel⟩
        · exact ⟨"cell", by decide +kernel, by decide +kernel⟩
        · exact ⟨"view", by decide +kernel, by decide +kernel⟩
      have c03 : Bt H G3 p := Bt.tr (Bt.tr b1 b2) c3
      have g3 : G G3 p q ds pl D es := ⟨T3, P0.keep c03 np (c03.tk S0), np, c3 _ _ gD nD, nD, fun u hu => (hes u hu).keep (c3.tk S2)⟩
      obtain ⟨pk2, v2, hpk2, hv2, t2, ks2, kd2, rfl, ht2, hks2, hkd2⟩ := g3.P.oth hyf hfn
      refine ⟨_, rfl, .inl ⟨rfl, _, SqL.of gL3⟩, _, rfl, _, rfl, _, rfl, _, rfl, _, rfl, _, rfl, pl, _, rfl, .inl ⟨pk2, .inr y, .inl hpk2, rfl, hv2.symm⟩, t2, _, 2, kd2, rfl, rfl, SqT.of ht2, rfl, p, q, ds, pl, D, es, kd2, 2, false, .inl rfl, rfl, g3, hel2, hkd2, fun G4 w e T4 c4 he => ?_⟩
      refine ⟨by show 2 ≤ sizeLine; decide, fun W hW => ?_⟩
      have s5 := same_upd (o := .tup [.str y, w]) hW
      have gW : upd G4 W (.tup [.str y, w]) W = some (.tup [.str y, w]) := upd_same
      generalize upd G4 W (.tup [.str y, w]) = G5 at s5 gW ⊢
      have gL5 := s5 _ _ (c4 _ _ gL3 neX1)
      have k6 : TupK G5 (upd G5 X1 (.lst (acc ++ [.ref W]))) := tk_lst gL5
      have big : 1000 ≤ sizeLine := by decide
      have tk35 := (c4.tk T3).tr (TupK.of s5)
      refine ⟨X1, _, _, rfl, rfl, gL5, by omega, ?_⟩
      refine ⟨_, acc ++ [.ref W], sets ++ [(y, e)], rfl, (T4.sm s5).lst neX1 nLq, fun z o h m => by rw [upd_ne (fun e => by rw [e] at h; exact n2 h)]; exact s5 _ _ (c4 _ _ (c3 _ _ h m) m), by rw [upd_ne naX]; exact s5 _ _ (c4 _ _ ga3 nap), upd_same, by rw [List.length_append, hal]; rfl, (hsets.mono fun _ _ r => (r.keep tk35).keep k6).app (.one ⟨W, w, rfl, k6 _ _ gW, plan_low hyf, (he.keep (TupK.of s5)).keep k6⟩)⟩
    rintro σ H3 ⟨y9, acc, sets, rfl, S3, b3, _, gL3, hal, hsets⟩
    have hal : acc.length ≤ 2 := by rw [List.length_map] at hal; omega
    refine ⟨_, rfl, _, rfl, _, rfl, X1, acc, rfl, .inl ⟨SqL.of gL3, fun T hT => ?_⟩⟩
    have b4 : Bt H3 (upd H3 T (.tup acc)) p := Bt.same (same_upd hT)
    have S4 := S3.sm (same_upd (o := (.tup acc)) hT)
    have gT : upd H3 T (.tup acc) T = some (.tup acc) := upd_same
    have neT := S3.nn hT
    generalize upd H3 T (.tup acc) = H4 at b4 S4 gT ⊢
    refine ⟨_, rfl, _, rfl, _, rfl, _, rfl, _, rfl, pl, _, rfl, .inl ⟨pk, .inr x, .inl ((Bt.tr b1 (Bt.tr b2 (Bt.tr b3 b4))) _ _ hpk np), rfl, hv'.symm⟩, t', _, 2, kd, rfl, rfl, SqT.of ((Bt.tk (Bt.tr b1 (Bt.tr b2 (Bt.tr b3 b4))) S0) _ _ ht'), rfl, p, q, ds, pl, D, es, kd, 2, false, .inl rfl, rfl, ⟨S4, P0.keep (Bt.tr b1 (Bt.tr b2 (Bt.tr b3 b4))) np (Bt.tk (Bt.tr b1 (Bt.tr b2 (Bt.tr b3 b4))) S0), np, ((Bt.tr b3 b4) _ _ gD nD), nD, fun u hu => ((hes u hu).keep (Bt.tk (Bt.tr b3 b4) S2))⟩, hel2, (hkd.keep (Bt.tk (Bt.tr b1 (Bt.tr b2 (Bt.tr b3 b4))) S0)), fun H5 y10 ey10 S5 b5 hy10 => ?_⟩
    refine ⟨by show 5 ≤ sizeLine; decide, fun X11 hX11 => ?_⟩
    have b6 : Bt H5 (upd H5 X11 (.tup [.str "act", .str x, .ref tn, .ref T, y10])) p := Bt.same (same_upd hX11)
    have S6 := S5.sm (same_upd (o := (.tup [.str "act", .str x, .ref tn, .ref T, y10])) hX11)
    have gX11 : upd H5 X11 (.tup [.str "act", .str x, .ref tn, .ref T, y10]) X11 = some (.tup [.str "act", .str x, .ref tn, .ref T, y10]) := upd_same
    have neX11 := S5.nn hX11
    generalize upd H5 X11 (.tup [.str "act", .str x, .ref tn, .ref T, y10]) = H6 at b6 S6 gX11 ⊢
    exact qq H6 (.ref X11) (.act x ns sets ey10) S6 (Bt.tr b1 (Bt.tr b2 (Bt.tr b3 (Bt.tr b4 (Bt.tr b5 b6))))) ⟨hlow, X11, .ref tn, T, acc, y10, rfl, gX11, ⟨tn, rfl, ((Bt.tk (Bt.tr b3 (Bt.tr b4 (Bt.tr b5 b6))) S2) _ _ htn2), by omega, hnlow⟩, ((Bt.tk (Bt.tr b5 b6) S4) _ _ gT), hal, hsets.mono fun _ _ r => r.keep (Bt.tk (Bt.tr b4 (Bt.tr b5 b6)) S3), (hy10.keep (Bt.tk b6 S5))⟩
end
end Q11
namespace Q11
open PySem PySem.Spec PyProof.Rows L2 SX HL
section
variable {P : Program} {w : World} {K : PySem.W.Frag} {mg : Str → Option Value} {base : Heap}
/-! ### _law_definitions -/
def DEFN : List Str := ["d", "e", "f", "g", "h", "k", "c", "m", "v", "w", "a", "b"]
theorem all2_ins {α β : Type} {R : α → β → Prop} {xs : List α} {ys : List β} {x : α} {y : β} (h : All2 R xs ys) (r : R x y) (n : Nat) : All2 R (xs.take n ++ [x] ++ xs.drop n) (ys.take n ++ [y] ++ ys.drop n) :=
  ((h.take n).app (.one r)).app (h.drop n)
def spDefs : Sp := fun vs H Q _ => ∃ (p q : Addr) (ds : List Int), vs = [.ref p] ∧ StN H p q ds ∧
  ∀ H' l us dfs, StN H' p q ds → Bt H H' p → H l = none → H' l = some (.lst us) → us.length ≤ 24 → All2 (fun u d => DfAt H' d u) us dfs → Q (.ref l) H'
theorem ok_defs {k : Nat} (Z : Defs K mg) : FnOk P w K mg base CX0 (k + 14) Z.fLawDefinitions Z.fdLawDefinitions ["state"] spDefs := by
  have GLawNext : FnOk P w K mg base CX0 (k + 3) Z.fLawNext Z.fdLawNext ["state", "limit"] spNext := ok_next Z
  have GLawPlan : FnOk P w K mg base CX0 (k + 5) Z.fLawPlan Z.fdLawPlan ["state"] spPlan := ok_plan Z
  have GLawDefinition : FnOk P w K mg base CX0 (k + 13) Z.fLawDefinition Z.fdLawDefinition ["state", "plan", "name"] spDef := ok_def Z
  refine Z.DLawDefinitions.F.ok scLawDefinitions (fun vs H Q E h => ?_) (fun cdv A outer s H vs Q E hr h => ?_)
  · obtain ⟨p, q, ds, rfl, _⟩ := h
    rfl
  · obtain ⟨p, q, ds, rfl, S0, qq⟩ := h
    refine ⟨_, (pss_cons (ps_set (i := 1) scLawDefinitions.nd rfl (.inl rfl) (pe_call GLawPlan (hr.mono (by omega)) (by rfl) Z.DLawPlan.g Z.DLawPlan.F.kp Z.DLawPlan.b .nil pass0 (pa_cons (pv 0) pa_nil)))
        (pss_cons (ps_set (i := 2) scLawDefinitions.nd rfl (.inl rfl) (pe_lst pa_nil))
        (pss_cons (ps_for PassesOwn.never rfl (pi_list (pe_lst (pa_cons pe_str (pa_cons pe_str (pa_cons pe_str (pa_cons pe_str (pa_cons pe_str (pa_cons pe_str (pa_cons pe_str (pa_cons pe_str (pa_cons pe_str (pa_cons pe_str (pa_cons pe_str (pa_cons pe_str pa_nil)))))))))))))) (pg_name (i := 3) scLawDefinitions.nd rfl (.inl rfl)) (C8.pss_cut (ps_if (pt_cmpR op_gt (pe_call GLawNext (hr.mono (by omega)) (by rfl) Z.DLawNext.g Z.DLawNext.F.kp Z.DLawNext.b .nil pass0 (pa_cons (pv 0) (pa_cons pe_int pa_nil))) pe_int (nomark _)) (pss_one (ps_expr (pe_bm PySem.F.plainAttrs_list PySem.F.slot_list_insert PySem.F.type_list_insert mt_insert (pv 2) (pa_cons (pe_call GLawNext (hr.mono (by omega)) (by rfl) Z.DLawNext.g Z.DLawNext.F.kp Z.DLawNext.b .nil pass0 (pa_cons (pv 0) (pa_cons (pe_op op_add (pe_callB call_len_seq (by rfl) Z.len PySem.boot_len (pa_cons (pv 2) pa_nil)) pe_int) pa_nil))) (pa_cons (pe_call GLawDefinition (hr.mono (by omega)) (by rfl) Z.DLawDefinition.g Z.DLawDefinition.F.kp Z.DLawDefinition.b .nil pass0 (pa_cons (pv 0) (pa_cons (pv 1) (pa_cons (pv 3) pa_nil)))) pa_nil))))) pss_nil)
        (pss_one (ps_if (pt_cmpR op_eq (pe_call GLawNext (hr.mono (by omega)) (by rfl) Z.DLawNext.g Z.DLawNext.F.kp Z.DLawNext.b .nil pass0 (pa_cons (pv 0) (pa_cons pe_int pa_nil))) pe_int (nomark _)) (pss_one (ps_expr (pe_bm PySem.F.plainAttrs_list PySem.F.slot_list_append PySem.F.type_list_append mt_append (pv 2) (pa_cons (pe_call GLawDefinition (hr.mono (by omega)) (by rfl) Z.DLawDefinition.g Z.DLawDefinition.F.kp Z.DLawDefinition.b .nil pass0 (pa_cons (pv 0) (pa_cons (pv 1) (pa_cons (pv 3) pa_nil)))) pa_nil)))) pss_nil))))
        (pss_one (ps_ret (pv 2)))))), ?_⟩
    have big : 1000 ≤ sizeLine := by decide
    refine ⟨_, rfl, p, q, ds, rfl, S0, fun H1 pl S1 b1 hpl P1 => ?_⟩
    have np := S0.nn hpl
    refine ⟨Nat.zero_le _, fun L hL => ?_⟩
    have nL := S1.nn hL
    have nLq : L ≠ q := fun e => by
      obtain ⟨h1, _⟩ := S1
      rw [← e, hL] at h1
      cases h1
    have hL0 : H L = none := by
      cases e : H L with
      | none => rfl
      | some o => rw [b1 _ _ e nL] at hL; cases hL
    have s2 := same_upd (o := .lst []) hL
    have gL : upd H1 L (.lst []) L = some (.lst []) := upd_same
    generalize upd H1 L (.lst []) = H2 at s2 gL ⊢
    refine ⟨by show 12 ≤ sizeLine; decide, fun N hN => ?_⟩
    have s3 := same_upd (o := .lst [.str "d", .str "e", .str "f", .str "g", .str "h", .str "k", .str "c", .str "m", .str "v", .str "w", .str "a", .str "b"]) hN
    have gN : upd H2 N (.lst [.str "d", .str "e", .str "f", .str "g", .str "h", .str "k", .str "c", .str "m", .str "v", .str "w", .str "a", .str "b"]) N = some (.lst (DEFN.map V.str)) := upd_same
    have nN := (S1.sm s2).nn hN
    have nNL : N ≠ L := fun e => by rw [e, gL] at hN; cases hN
    generalize upd H2 N (.lst [.str "d", .str "e", .str "f", .str "g", .str "h", .str "k", .str "c", .str "m", .str "v", .str "w", .str "a", .str "b"]) = H3 at s3 gN ⊢
    have S3 := (S1.sm s2).sm s3
    have b3 : Bt H1 H3 p := Bt.same (Same.tr s2 s3)
    have n2 : ∀ {o}, H1 L = some o → False := fun h => by rw [hL] at h; cases h
    refine ⟨N, rfl, ⟨_, SqL.of gN⟩, ?_⟩
    refine for_it walk_list (fun i σ H' => ∃ (y3 : Option V) (us : List V) (dfs : List Df), σ = [some (.ref p), some (.ref pl), some (.ref L), y3] ∧ StN H' p q ds ∧ Bt H1 H' p ∧ H' N = some (.lst (DEFN.map V.str)) ∧ H' L = some (.lst us) ∧ us.length ≤ 2 * i ∧ All2 (fun u d => DfAt H' d u) us dfs)
      ⟨none, [], [], rfl, S3, b3, gN, s3 _ _ gL, Nat.le_refl _, .nil⟩ (fun i σ H' _ ⟨_, _, _, _, _, _, h, _⟩ => SqL.of h) ?_ ?_
    · rintro i u σ G3z G3 hi ⟨y3, us, dfs, rfl, T3, c3, gN3, gL3, hl, hus⟩ ⟨rfl, hu⟩
      rw [List.getElem?_map] at hu
      obtain ⟨y, hy, rfl⟩ : ∃ y, DEFN[i]? = some y ∧ u = .str y := by
        cases e : DEFN[i]? with
        | none => rw [e] at hu; cases hu
        | some y => rw [e] at hu; cases hu; exact ⟨y, rfl, rfl⟩
      have hi2 : i < 12 := hi
      obtain ⟨f, hyf⟩ : ∃ f, (y, f) ∈ PLAN := by
        have := (show ∀ y ∈ DEFN, ∃ e ∈ PLAN, e.1 = y by decide +kernel) y (List.mem_of_getElem? hy)
        obtain ⟨⟨a, f⟩, h, rfl⟩ := this
        exact ⟨f, h⟩
      refine ⟨fun σ' H' => ∃ (us : List V) (dfs : List Df), σ' = [some (.ref p), some (.ref pl), some (.ref L), some (.str y)] ∧ StN H' p q ds ∧ Bt H1 H' p ∧ H' N = some (.lst (DEFN.map V.str)) ∧ H' L = some (.lst us) ∧ us.length ≤ 2 * i + 1 ∧ All2 (fun u d => DfAt H' d u) us dfs, ?_, ?_⟩
      · refine ⟨_, rfl, p, q, ds, 7, rfl, T3, by decide, fun G4 v T4 bb4 lo4 hi4 => ⟨_, _, rfl, rfl, _, rfl, ite2 (fun _ => ?_) (fun _ => ?_)⟩⟩
        · have c4 := Bt.of bb4
          have gL4 := c4 _ _ gL3 nL
          refine ⟨_, rfl, .inl ⟨rfl, _, SqL.of gL4⟩, _, rfl, _, rfl, L, _, rfl, .inl (SqL.of gL4), _, _, rfl, rfl, p, q, ds, _, rfl, T4, by omega, fun G5 v5 T5 bb5 lo5 hi5 => ?_⟩
          have c5 := Bt.of bb5
          have c35 := Bt.tr c4 c5
          have c15 := Bt.tr c3 c35
          refine ⟨_, rfl, _, rfl, _, rfl, p, q, ds, pl, y, f, rfl, T5, P1.keep c15 np (c15.tk S1), np, hyf, fun G6 x d T6 c6 hd => ?_⟩
          have gL6 := c6 _ _ (c5 _ _ gL4 nL) nL
          have tk36 := (Bt.tr c35 c6).tk T3
          obtain ⟨n, rfl⟩ := Int.eq_ofNat_of_zero_le lo5
          refine ⟨L, us, (n : Int), x, rfl, rfl, gL6, by omega, by omega, by omega, ?_⟩
          rw [Int.toNat_natCast]
          have k7 : TupK G6 (upd G6 L (.lst (us.take n ++ [x] ++ us.drop n))) := tk_lst gL6
          refine ⟨_, dfs.take n ++ [d] ++ dfs.drop n, rfl, T6.lst nL nLq, fun z o h m => by rw [upd_ne (fun e => by rw [e] at h; exact n2 h)]; exact Bt.tr c15 c6 z o h m, ?_, upd_same, ?_, all2_ins (hus.mono fun _ _ r => (r.keep tk36).keep k7) (hd.keep k7) n⟩
          · rw [upd_ne nNL]; exact c6 _ _ (c35 _ _ gN3 nN) nN
          · rw [List.length_append, List.length_append, List.length_take, List.length_drop]
            show min n us.length + 1 + (us.length - n) ≤ _
            omega
        · have c4 := Bt.of bb4
          exact ⟨us, dfs, rfl, T4, Bt.tr c3 c4, c4 _ _ gN3 nN, c4 _ _ gL3 nL, by omega, hus.mono fun _ _ r => r.keep (c4.tk T3)⟩
      · clear hus hl gL3 gN3 c3 T3
        rintro σ' G3 ⟨us, dfs, rfl, T3, c3, gN3, gL3, hl, hus⟩
        refine ⟨_, rfl, p, q, ds, 25, rfl, T3, by decide, fun G4 v T4 bb4 lo4 hi4 => ⟨rfl, _, rfl, ite2 (fun _ => ?_) (fun _ => ?_)⟩⟩
        · have c4 := Bt.of bb4
          have gL4 := c4 _ _ gL3 nL
          have c14 := Bt.tr c3 c4
          refine ⟨_, rfl, .inl ⟨rfl, _, SqL.of gL4⟩, _, rfl, _, rfl, _, rfl, p, q, ds, pl, y, f, rfl, T4, P1.keep c14 np (c14.tk S1), np, hyf, fun G6 x d T6 c6 hd => ?_⟩
          have gL6 := c6 _ _ gL4 nL
          have tk36 := (Bt.tr c4 c6).tk T3
          have k7 : TupK G6 (upd G6 L (.lst (us ++ [x]))) := tk_lst gL6
          refine ⟨L, _, _, rfl, rfl, gL6, by omega, ?_⟩
          refine ⟨_, us ++ [x], dfs ++ [d], rfl, T6.lst nL nLq, fun z o h m => by rw [upd_ne (fun e => by rw [e] at h; exact n2 h)]; exact Bt.tr c14 c6 z o h m, ?_, upd_same, ?_, (hus.mono fun _ _ r => (r.keep tk36).keep k7).app (.one (hd.keep k7))⟩
          · rw [upd_ne nNL]; exact c6 _ _ (c4 _ _ gN3 nN) nN
          · rw [List.length_append]; show _ + 1 ≤ _; omega
        · have c4 := Bt.of bb4
          exact ⟨_, us, dfs, rfl, T4, Bt.tr c3 c4, c4 _ _ gN3 nN, c4 _ _ gL3 nL, by omega, hus.mono fun _ _ r => r.keep (c4.tk T3)⟩
    · rintro σ G3 ⟨y3, us, dfs, rfl, T3, c3, _, gL3, hl, hus⟩
      exact ⟨_, rfl, qq G3 L us dfs T3 (Bt.tr b1 c3) hL0 gL3 hl hus⟩
end
end Q11
namespace Q11
open PySem PySem.Spec PyProof.Rows L2 SX HL
section
variable {P : Program} {w : World} {K : PySem.W.Frag} {mg : Str → Option Value} {base : Heap}
/-! ### _law_is_dict -/
def StrK (kvs : List (Key × V)) : Prop := ∀ kv ∈ kvs, ∃ y s, kv = (.inr y, .str s)
theorem StrK.val {kvs : List (Key × V)} (h : StrK kvs) {k : Key} {v : V} (hm : (k, v) ∈ kvs) : ∃ y s, k = .inr y ∧ valV kvs (.inr y) = some (.str s) := by
  obtain ⟨y, s, e⟩ := h _ hm
  cases e
  obtain ⟨kv', h1, h2, h3⟩ := valV_mem ⟨_, hm, rfl⟩
  obtain ⟨y', s', e'⟩ := h _ h1
  subst e'
  cases h2
  exact ⟨y, s', rfl, h3⟩
def spIsDict : Sp := fun vs H Q _ => ∃ (a b : Addr) (kvs : List (Key × V)), vs = [.ref a, .ref b] ∧ a ≠ b ∧ H a = some (.dK kvs) ∧ H b = some (.dK kvs) ∧ StrK kvs ∧ ∀ H', Q (.bl true) H'
theorem ok_isdict {k : Nat} (Z : Defs K mg) : FnOk P w K mg base CX0 (k + 3) Z.fLawIsDict Z.fdLawIsDict ["actual", "expected"] spIsDict := by
  have GLawSame : FnOk P w K mg base CX0 (k + 2) Z.fLawSame Z.fdLawSame ["actual", "expected"] (spSameG K 0) := (ok_same Z 0).mono (by omega)
  refine Z.DLawIsDict.F.ok scLawIsDict (fun vs H Q E h => ?_) (fun cdv A outer s H vs Q E hr h => ?_)
  · obtain ⟨a, b, kvs, rfl, _⟩ := h
    rfl
  · obtain ⟨a, b, kvs, rfl, hab, ha, hb, hK, qq⟩ := h
    refine ⟨_, (pss_cons (ps_if (PW.pt (pw_or (pt_not (pt_val (pe_callB call_isB (by rfl) Z.isinstance HL.boot_isinstance (pa_cons (pv 0) (pa_cons (pe_bltn (v := .ty "dict") (by rfl) Z.dict HL.boot_dict rfl) pa_nil))))) (pw_or1 (pt_cmpR op_ne (pe_callB call_lenD (by rfl) Z.len PySem.boot_len (pa_cons (pv 0) pa_nil)) (pe_callB call_lenD (by rfl) Z.len PySem.boot_len (pa_cons (pv 1) pa_nil)) (nomark _))))) (pss_one (ps_ret pe_bl)) pss_nil)
        (pss_cons (ps_lock (ps_for PassesOwn.never rfl (pi_keys (pv 1)) (pg_name (i := 2) scLawIsDict.nd rfl (.inl rfl)) (pss_one (ps_if (PW.pt (pw_or (pt_cmp (pc_dnotin (hu_of hr) (pv 2) (pv 0))) (pw_or1 (pt_not (pt_val (pe_call GLawSame (hr.mono (by omega)) (by rfl) Z.DLawSame.g Z.DLawSame.F.kp Z.DLawSame.b .nil pass0 (pa_cons (pe_dget (hu_of hr) (pv 0) (pv 2) (fun _ _ => rfl)) (pa_cons (pe_dget (hu_of hr) (pv 1) (pv 2) (fun _ _ => rfl)) pa_nil)))))))) (pss_one (ps_ret pe_bl)) pss_nil))))
        (pss_one (ps_ret pe_bl)))), ?_⟩
    refine ⟨_, rfl, _, "dict", "dict", true, rfl, .base (.dK ha), by decide +kernel, true, rfl, iteNo (by decide) ⟨_, rfl, a, kvs, rfl, ha, _, rfl, b, kvs, rfl, hb, rfl, _, rfl, iteNo (by simp) ?_⟩⟩
    refine ⟨b, _, hb, True.intro, fun od => ⟨_, rfl, b, od, rfl, .inl ⟨kvs, upd_same, ?_⟩⟩⟩
    have e1 : upd H b (.frz od (.dK kvs)) a = some (.dK kvs) := by rw [upd_ne hab]; exact ha
    refine for_it walk_keys (fun i σ H' => Same (upd H b (.frz od (.dK kvs))) H' ∧ ∃ y, σ = [some (.ref a), some (.ref b), y]) ⟨fun _ _ z => z, none, rfl⟩ (fun i σ H' _ p => p.1 _ _ upd_same) ?_ ?_
    · rintro i x σ H' H2 hi ⟨sm, y, rfl⟩ ⟨rfl, k, v, hk, rfl⟩
      obtain ⟨z, s, rfl, hv⟩ := hK.val (List.mem_of_getElem? hk)
      have g1 := sm _ _ e1
      have g2 := sm _ _ upd_same
      refine ⟨_, rfl, _, rfl, a, some (.str s), rfl, by rw [← hv]; exact DGet.k g1, _, rfl, iteF ?_⟩
      refine ⟨_, rfl, _, rfl, a, .str s, rfl, by rw [← hv]; exact DGet.k g1, _, rfl, _, rfl, b, .str s, rfl, by rw [← hv]; exact .inl ⟨kvs, .inr z, .inr ⟨od, g2⟩, rfl, rfl⟩, .str s, .str s, rfl, .leaf True.intro, fun H3 s3 => ⟨true, rfl, iteF ⟨sm.trans s3, _, rfl⟩⟩⟩
    · rintro σ H' ⟨sm, y, rfl⟩
      exact ⟨sm _ _ upd_same, qq _⟩
end
end Q11
namespace Q11
open PySem PySem.Spec PyProof.Rows L2 SX HL
section
variable {P : Program} {w : World} {K : PySem.W.Frag} {mg : Str → Option Value} {base : Heap}
/-! ### law -/
theorem same_strs {H : Hp} {n : Nat} {a b : Addr} {l l' : List Str} (h1 : H a = some (.lst (l.map V.str))) (h2 : H b = some (.lst (l'.map V.str))) (e : l = l') (hl : l'.length ≤ 1000000) : SameD K H (n + 1) (.ref a) (.ref b) := by
  subst e
  refine .seq (IsSeq.lst h1) (IsSeq.lst h2) rfl (by rw [List.length_map]; exact hl) (fun i u v hu hv => ?_)
  rw [hu] at hv
  cases hv
  rw [List.getElem?_map] at hu
  cases e : l[i]? with
  | none => rw [e] at hu; cases hu
  | some y => rw [e] at hu; cases hu; exact .leaf True.intro
def LUP : List Str := LOW ++ UPP
theorem first_up {z : Str} (h : z ∈ LOW ∨ z ∈ UPP) : ∃ c, atI z.cps.toList 0 = some c ∧ decide (c ∈ ("LNOT" : Str).cps.toList) = isUp z ∧ z.length ≤ sizeLine := by
  have : ∀ z ∈ LUP, atI z.cps.toList 0 = some (z.cps.toList.getD 0 0) ∧ decide (z.cps.toList.getD 0 0 ∈ ("LNOT" : Str).cps.toList) = isUp z ∧ z.length ≤ sizeLine := by decide +kernel
  exact ⟨_, this z (List.mem_append.mpr h)⟩
theorem bodyN_le (d : Df) (m1 m2 : Str → Str) : ∀ n, (bodyN d m1 n).length = (bodyN d m2 n).length
  | 0 => rfl
  | n + 1 => by
    rw [bodyN, bodyN, List.length_append, List.length_append, List.length_append, List.length_append, bodyN_le d m1 m2 n]
    cases (dEs d)[n]? with
    | none => rfl
    | some e => show _ + (mm d m1 e).length = _ + (mm d m2 e).length; unfold mm; rw [List.length_map, List.length_map]
theorem usesAll_le (d : Df) (m1 m2 : Str → Str) : (usesAll d m1).length = (usesAll d m2).length := by
  unfold usesAll
  rw [List.length_append, List.length_append, List.length_append, List.length_append, bodyN_le d m1 m2]
theorem StrK.put {kvs : List (Key × V)} (h : StrK kvs) (y s : Str) : StrK (putK kvs (.inr y) (.str s)) := fun kv hk => by
  rcases mem_putK hk with hk | rfl
  · exact h kv hk
  · exact ⟨y, s, rfl⟩
theorem valV_get {kvs : List (Key × V)} {k : Key} {v : V} (h : valV kvs k = some v) : (k, v) ∈ kvs := by
  induction kvs with
  | nil => cases h
  | cons a r ih =>
    by_cases e : a.1 = k
    · rw [valV_pos e] at h
      cases h
      rw [← e]
      exact List.mem_cons_self ..
    · rw [valV_neg e] at h
      exact List.mem_cons_of_mem _ (ih h)
def mkOf (kvs : List (Key × V)) (z : Str) : Str := match valV kvs (.inr z) with | some (.str s) => s | _ => z
theorem mk_of {H : Hp} {M : Addr} {kvs : List (Key × V)} (hM : H M = some (.dK kvs)) (h : StrK kvs) : MapAt H M (mkOf kvs) := by
  refine ⟨kvs, hM, fun z => ?_⟩
  unfold mkOf
  cases e : valV kvs (.inr z) with
  | none => rfl
  | some v =>
    obtain ⟨y, s, e'⟩ := h _ (valV_get e)
    cases e'
    rfl
theorem put_len {kvs : List (Key × V)} {k : Key} {v : V} : (putK kvs k v).length ≤ kvs.length + 1 := by
  unfold putK
  split
  · rw [List.length_map]; omega
  · rw [List.length_append]; exact Nat.le_refl _
def spLaw (K : PySem.W.Frag) : Sp := fun vs H Q _ => ∃ (a : Addr) (ns : List Int), vs = [.ref a] ∧ SqL K H a (ns.map V.int) ∧ ns.length ≤ 63 ∧ ∀ H', Q (.bl true) H'
theorem ok_law (Z : Defs K mg) : FnOk P w K mg base CX0 15 Z.fLaw Z.fdLaw ["script"] (spLaw K) := by
  have GLawDraws : FnOk P w K mg base CX0 2 Z.fLawDraws Z.fdLawDraws ["script"] (spDraws K) := ok_draws Z
  have GLawDefinitions : FnOk P w K mg base CX0 14 Z.fLawDefinitions Z.fdLawDefinitions ["state"] spDefs := ok_defs (k := 0) Z
  have GLawNext : FnOk P w K mg base CX0 3 Z.fLawNext Z.fdLawNext ["state", "limit"] spNext := ok_next Z
  have GMakes : FnOk P w K mg base CX0 1 Z.fMakes Z.fdMakes ["definition"] spMakes := ok_makes Z
  have GLawMakes : FnOk P w K mg base CX0 1 Z.fLawMakes Z.fdLawMakes ["definition"] spMakes := ok_lmakes Z
  have GUses : FnOk P w K mg base CX0 11 Z.fUses Z.fdUses ["definition", "makers"] spUses := ok_uses (k := 0) Z
  have GLawUses : FnOk P w K mg base CX0 6 Z.fLawUses Z.fdLawUses ["definition", "makers"] spLUses := ok_luses (k := 0) Z
  have GMakersUsed : FnOk P w K mg base CX0 11 Z.fMakersUsed Z.fdMakersUsed ["definition"] spMkUsed := ok_makersUsed (k := 0) Z
  have GLawSame : FnOk P w K mg base CX0 3 Z.fLawSame Z.fdLawSame ["actual", "expected"] (spSameG K 1) := ok_same Z 1
  have GLawIsDict : FnOk P w K mg base CX0 3 Z.fLawIsDict Z.fdLawIsDict ["actual", "expected"] spIsDict := ok_isdict (k := 0) Z
  refine Z.DLaw.F.ok scLaw (fun vs H Q E h => ?_) (fun cdv A outer s H vs Q E hr h => ?_)
  · obtain ⟨a, ns, rfl, _⟩ := h
    rfl
  · obtain ⟨a, ns, rfl, hS, hl, qq⟩ := h
    refine ⟨_, (pss_cons (ps_set (i := 1) scLaw.nd rfl (.inl rfl) (pe_lst (pa_cons (pe_call GLawDraws (hr.mono (by omega)) (by rfl) Z.DLawDraws.g Z.DLawDraws.F.kp Z.DLawDraws.b .nil pass0 (pa_cons (pv 0) pa_nil)) (pa_cons pe_int pa_nil))))
        (pss_cons (ps_set (i := 2) scLaw.nd rfl (.inl rfl) (pe_call GLawDefinitions (hr.mono (by omega)) (by rfl) Z.DLawDefinitions.g Z.DLawDefinitions.F.kp Z.DLawDefinitions.b .nil pass0 (pa_cons (pv 1) pa_nil)))
        (pss_cons (ps_set (i := 3) scLaw.nd rfl (.inl rfl) pe_dnewK)
        (pss_cons (ps_for PassesOwn.never rfl (pi_list (pe_lst (pa_cons pe_str (pa_cons pe_str (pa_cons pe_str (pa_cons pe_str pa_nil)))))) (pg_name (i := 4) scLaw.nd rfl (.inl rfl)) (pss_one (ps_if (pt_cmpR op_gt (pe_call GLawNext (hr.mono (by omega)) (by rfl) Z.DLawNext.g Z.DLawNext.F.kp Z.DLawNext.b .nil pass0 (pa_cons (pv 1) (pa_cons pe_int pa_nil))) pe_int (nomark _)) (pss_one (ps_dput (hu_of hr) (pv 3) (pv 4) (pe_ix ix_list (pe_lst (pa_cons pe_str (pa_cons pe_str (pa_cons pe_str pa_nil)))) (pe_call GLawNext (hr.mono (by omega)) (by rfl) Z.DLawNext.g Z.DLawNext.F.kp Z.DLawNext.b .nil pass0 (pa_cons (pv 1) (pa_cons pe_int pa_nil))) (fun _ _ => rfl)) rfl)) pss_nil)))
        (pss_cons (ps_set (i := 5) scLaw.nd rfl (.inl rfl) (pe_callTy call_dictD (by rfl) Z.dict (by decide +kernel) (pa_cons (pv 3) pa_nil)))
        (pss_cons (ps_for PassesOwn.never rfl (pi_list (pv 2)) (pg_name (i := 6) scLaw.nd rfl (.inl rfl)) (pss_cons (ps_if (pt_not (pt_val (pe_call GLawSame (hr.mono (by omega)) (by rfl) Z.DLawSame.g Z.DLawSame.F.kp Z.DLawSame.b .nil pass0 (pa_cons (pe_call GMakes (hr.mono (by omega)) (by rfl) Z.DMakes.g Z.DMakes.F.kp Z.DMakes.b .nil pass0 (pa_cons (pv 6) pa_nil)) (pa_cons (pe_call GLawMakes (hr.mono (by omega)) (by rfl) Z.DLawMakes.g Z.DLawMakes.F.kp Z.DLawMakes.b .nil pass0 (pa_cons (pv 6) pa_nil)) pa_nil))))) (pss_one (ps_ret pe_bl)) pss_nil)
        (pss_cons (ps_set (i := 7) scLaw.nd rfl (.inl rfl) (pe_call GUses (hr.mono (by omega)) (by rfl) Z.DUses.g Z.DUses.F.kp Z.DUses.b .nil pass0 (pa_cons (pv 6) (pa_cons (pv 5) pa_nil))))
        (pss_cons (ps_if (pt_not (pt_val (pe_call GLawSame (hr.mono (by omega)) (by rfl) Z.DLawSame.g Z.DLawSame.F.kp Z.DLawSame.b .nil pass0 (pa_cons (pv 7) (pa_cons (pe_call GLawUses (hr.mono (by omega)) (by rfl) Z.DLawUses.g Z.DLawUses.F.kp Z.DLawUses.b .nil pass0 (pa_cons (pv 6) (pa_cons (pv 3) pa_nil))) pa_nil))))) (pss_one (ps_ret pe_bl)) pss_nil)
        (pss_cons (ps_if (pt_not (pt_val (pe_call GLawSame (hr.mono (by omega)) (by rfl) Z.DLawSame.g Z.DLawSame.F.kp Z.DLawSame.b .nil pass0 (pa_cons (pe_call GMakersUsed (hr.mono (by omega)) (by rfl) Z.DMakersUsed.g Z.DMakersUsed.F.kp Z.DMakersUsed.b .nil pass0 (pa_cons (pv 6) pa_nil)) (pa_cons (pe_lc (own := [("name", 8)]) (g := (gName 8)) (by rfl) scLaw.nd (ET.pi_listK (K := K) rfl (pe_call GLawUses (hr.mono (by omega)) (by rfl) Z.DLawUses.g Z.DLawUses.F.kp Z.DLawUses.b .nil pass0 (pa_cons (pv 6) (pa_cons pe_dnewK pa_nil)))) (blkOk_by (own := [("name", 8)]) (N := ["script", "state", "definitions", "makers", "maker", "passed", "definition", "told", "name"]) (sc := defScope sLaw) (by decide +kernel)) (fun _ _ _ _ _ => (pg_name (i := 8) scLaw.nd rfl (Or.inl rfl))) (fun _ _ _ _ _ => (pts_one (pt_cmpR op_in_sign (pe_ix ix_str (pv 8) pe_int (fun _ _ => rfl)) pe_str rfl))) (fun _ _ _ _ _ => (pv 8))) pa_nil))))) (pss_one (ps_ret pe_bl)) pss_nil)
        (pss_cons (ps_expr (pe_bm PySem.F.plainAttrs_list PySem.F.slot_list_append PySem.F.type_list_append mt_append (pv 7) (pa_cons pe_str pa_nil)))
        (pss_cons (ps_expr (pe_bm PySem.F.plainAttrs_list PySem.F.slot_list_append PySem.F.type_list_append mt_append (pe_call GMakes (hr.mono (by omega)) (by rfl) Z.DMakes.g Z.DMakes.F.kp Z.DMakes.b .nil pass0 (pa_cons (pv 6) pa_nil)) (pa_cons pe_str pa_nil)))
        (pss_cons (ps_if (pt_not (pt_val (pe_call GLawSame (hr.mono (by omega)) (by rfl) Z.DLawSame.g Z.DLawSame.F.kp Z.DLawSame.b .nil pass0 (pa_cons (pe_call GUses (hr.mono (by omega)) (by rfl) Z.DUses.g Z.DUses.F.kp Z.DUses.b .nil pass0 (pa_cons (pv 6) (pa_cons (pv 5) pa_nil))) (pa_cons (pe_call GLawUses (hr.mono (by omega)) (by rfl) Z.DLawUses.g Z.DLawUses.F.kp Z.DLawUses.b .nil pass0 (pa_cons (pv 6) (pa_cons (pv 3) pa_nil))) pa_nil))))) (pss_one (ps_ret pe_bl)) pss_nil)
        (pss_one (ps_if (pt_not (pt_val (pe_call GLawSame (hr.mono (by omega)) (by rfl) Z.DLawSame.g Z.DLawSame.F.kp Z.DLawSame.b .nil pass0 (pa_cons (pe_call GMakes (hr.mono (by omega)) (by rfl) Z.DMakes.g Z.DMakes.F.kp Z.DMakes.b .nil pass0 (pa_cons (pv 6) pa_nil)) (pa_cons (pe_call GLawMakes (hr.mono (by omega)) (by rfl) Z.DLawMakes.g Z.DLawMakes.F.kp Z.DLawMakes.b .nil pass0 (pa_cons (pv 6) pa_nil)) pa_nil))))) (pss_one (ps_ret pe_bl)) pss_nil))))))))))
        (pss_one (ps_ret (pe_call GLawIsDict (hr.mono (by omega)) (by rfl) Z.DLawIsDict.g Z.DLawIsDict.F.kp Z.DLawIsDict.b .nil pass0 (pa_cons (pv 5) (pa_cons (pv 3) pa_nil))))))))))), ?_⟩
    have big : 16777216 ≤ sizeLine := by decide +kernel
    refine ⟨_, rfl, a, ns, rfl, hS, hl, fun d H1 ds hd0 s1 hd hdl hD => ?_⟩
    refine ⟨by show 2 ≤ sizeLine; decide, fun p hp => ?_⟩
    have S2 : StN (upd H1 p (.lst [.ref d, .int 20])) p d ds := ⟨by rw [upd_ne (ne_of_none hd hp)]; exact hd, hD, 20, by decide, upd_same⟩
    generalize upd H1 p (.lst [.ref d, .int 20]) = H2 at S2 ⊢
    refine ⟨_, rfl, p, d, ds, rfl, S2, fun H3 l us dfs S3 b3 hl0 hl hul hus => ?_⟩
    refine fun M hM => ?_
    have nM := S3.nn hM
    have nMd : M ≠ d := fun e => by
      obtain ⟨h1, _⟩ := S3
      rw [← e, hM] at h1
      cases h1
    have s4 := same_upd (o := .dK []) hM
    have gM : upd H3 M (.dK []) M = some (.dK []) := upd_same
    generalize upd H3 M (.dK []) = H4 at s4 gM ⊢
    refine ⟨by show 4 ≤ sizeLine; decide, fun N hN => ?_⟩
    have s5 := same_upd (o := .lst [.str "Leaf", .str "Node", .str "One", .str "Two"]) hN
    have gN : upd H4 N (.lst [.str "Leaf", .str "Node", .str "One", .str "Two"]) N = some (.lst (UPP.map V.str)) := upd_same
    have nN := (S3.sm s4).nn hN
    have nNM : N ≠ M := fun e => by rw [e, gM] at hN; cases hN
    generalize upd H4 N (.lst [.str "Leaf", .str "Node", .str "One", .str "Two"]) = H5 at s5 gN ⊢
    have S5 := (S3.sm s4).sm s5
    have n3 : ∀ {o}, H3 M = some o → False := fun h => by rw [hM] at h; cases h
    refine ⟨N, rfl, ⟨_, SqL.of gN⟩, ?_⟩
    refine for_it walk_list (fun i σ H' => ∃ (y4 : Option V) (kvs : List (Key × V)), σ = [some (.ref a), some (.ref p), some (.ref l), some (.ref M), y4, none, none, none, none] ∧ StN H' p d ds ∧ Bt H3 H' p ∧ H' N = some (.lst (UPP.map V.str)) ∧ H' M = some (.dK kvs) ∧ kvs.length ≤ i ∧ StrK kvs)
      ⟨none, [], rfl, S5, Bt.same (Same.tr s4 s5), gN, s5 _ _ gM, Nat.le_refl _, fun kv h => by cases h⟩ (fun i σ H' _ ⟨_, _, _, _, _, h, _⟩ => SqL.of h) ?_ ?_
    · rintro i u σ G3z G3 hi ⟨y4, kvs, rfl, T3, c3, gN3, gM3, hkl, hK⟩ ⟨rfl, hu⟩
      rw [List.getElem?_map] at hu
      obtain ⟨y, hy, rfl⟩ : ∃ y, UPP[i]? = some y ∧ u = .str y := by
        cases e : UPP[i]? with
        | none => rw [e] at hu; cases hu
        | some y => rw [e] at hu; cases hu; exact ⟨y, rfl, rfl⟩
      have hi2 : i < 4 := hi
      refine ⟨_, rfl, p, d, ds, 3, rfl, T3, by decide, fun G4 v T4 bb4 lo4 hi4 => ⟨_, _, rfl, rfl, _, rfl, ite2 (fun _ => ?_) (fun _ => ?_)⟩⟩
      · have c4 := Bt.of bb4
        refine ⟨by show 3 ≤ sizeLine; decide, fun X hX => ?_⟩
        have s5 := same_upd (o := .lst [.str "d", .str "e", .str "data"]) hX
        have gX : upd G4 X (.lst [.str "d", .str "e", .str "data"]) X = some (.lst ((["d", "e", "data"] : List Str).map V.str)) := upd_same
        have nX := T4.nn hX
        generalize upd G4 X (.lst [.str "d", .str "e", .str "data"]) = G5 at s5 gX ⊢
        have T5 := T4.sm s5
        refine ⟨_, rfl, p, d, ds, 3, rfl, T5, by decide, fun G6 v6 T6 bb6 lo6 hi6 => ?_⟩
        have c6 := Bt.of bb6
        obtain ⟨z, mz, az⟩ := pick_str (ls := ["d", "e", "data"]) lo6 hi6
        have c36 : Bt G3 G6 p := Bt.tr c4 (Bt.tr (Bt.same s5) c6)
        have gM6 := c36 _ _ gM3 nM
        refine ⟨X, _, _, .str z, rfl, rfl, SqL.of (c6 _ _ gX nX), az, _, rfl, _, rfl, M, _, rfl, DPut.k (k := .inr y) gM6 (by omega), ?_⟩
        refine ⟨_, _, rfl, T6.lst nM nMd, fun q o h m => by rw [upd_ne (fun e => by rw [e] at h; exact n3 h)]; exact Bt.tr c3 c36 q o h m, by rw [upd_ne nNM]; exact c36 _ _ gN3 nN, upd_same, Nat.le_trans put_len (by omega), hK.put y z⟩
      · have c4 := Bt.of bb4
        exact ⟨_, kvs, rfl, T4, Bt.tr c3 c4, c4 _ _ gN3 nN, c4 _ _ gM3 nM, by omega, hK⟩
    rintro σ G ⟨y4, kvs, rfl, T, c3, _, gM, hkl, hK⟩
    refine ⟨_, rfl, M, kvs, rfl, Rd.of gM, fun Pd hP => ?_⟩
    have s1 := same_upd (o := .dK kvs) hP
    have gP : upd G Pd (.dK kvs) Pd = some (.dK kvs) := upd_same
    have nPM : Pd ≠ M := fun e => by rw [e, gM] at hP; cases hP
    have hl5 := s1 _ _ (c3 _ _ hl (S2.nn hl0))
    have hus5 : All2 (fun u dd => DfAt (upd G Pd (.dK kvs)) dd u) us dfs := hus.mono fun _ _ r => (r.keep (c3.tk S3)).keep (TupK.of s1)
    have gM5 := s1 _ _ gM
    generalize upd G Pd (.dK kvs) = G5 at gP hl5 hus5 gM5 ⊢
    refine ⟨_, rfl, l, rfl, ⟨_, SqL.of hl5⟩, ?_⟩
    refine for_it walk_list (fun i σ H' => ∃ (y6 y7 : Option V), σ = [some (.ref a), some (.ref p), some (.ref l), some (.ref M), y4, some (.ref Pd), y6, y7, none] ∧ Same G5 H')
      ⟨none, none, rfl, Same.refl _⟩ (fun i σ H' _ ⟨_, _, _, s⟩ => SqL.of (s _ _ hl5)) ?_ ?_
    · rintro i x σ F0z F0 hi ⟨y6, y7, rfl, r0⟩ ⟨rfl, hx⟩
      obtain ⟨dd, _, hd0⟩ := hus5.get hx
      have hd0 := hd0.keep (TupK.of r0)
      -- makes
      refine ⟨_, rfl, x, dd, rfl, hd0, fun F1 l1 t1 hn1 hl1 len1 => ?_⟩
      have hd1 := hd0.keep (TupK.of t1)
      refine ⟨_, rfl, x, dd, rfl, hd1, fun F2 l2 t2 hn2 hl2 len2 => ?_⟩
      refine ⟨.ref l1, .ref l2, rfl, same_strs (t2 _ _ hl1) hl2 rfl (by omega), fun F3 t3 => ⟨true, rfl, iteF ?_⟩⟩
      have r3 := Same.tr r0 (Same.tr t1 (Same.tr t2 t3))
      have hd3 := hd1.keep (TupK.of (Same.tr t2 t3))
      -- uses
      refine ⟨_, rfl, _, rfl, x, dd, Pd, mkOf kvs, rfl, hd3, mk_of (r3 _ _ gP) hK, fun F4 t t4 hnt ht hlen => ?_⟩
      have r4 := Same.tr r3 t4
      have hd4 := hd3.keep (TupK.of t4)
      refine ⟨_, rfl, _, rfl, _, rfl, x, dd, M, mkOf kvs, rfl, hd4, mk_of (r4 _ _ gM5) hK, hlen, fun F5 l3 t5 hl3 => ?_⟩
      have hon : (once (usesAll dd (mkOf kvs))).length ≤ 2000 := Nat.le_trans (once_len _ _ rfl) hlen
      refine ⟨.ref t, .ref l3, rfl, same_strs (t5 _ _ ht) hl3 rfl (by omega), fun F6 t6 => ⟨true, rfl, iteF ?_⟩⟩
      have t46 := Same.tr t5 t6
      have r6 := Same.tr r4 t46
      have hd6 := hd4.keep (TupK.of t46)
      -- makers_used
      refine ⟨_, rfl, x, dd, rfl, hd6, fun F7 m t7 hnm hm => ?_⟩
      have hd7 := hd6.keep (TupK.of t7)
      refine ⟨_, rfl, fun E hE => ?_⟩
      have t8 := same_upd (o := .dK []) hE
      have hlen0 : (usesAll dd id).length ≤ 2000 := by rw [usesAll_le dd id (mkOf kvs)]; exact hlen
      have hon0 : (once (usesAll dd id)).length ≤ 2000 := Nat.le_trans (once_len _ _ rfl) hlen0
      refine ⟨x, dd, E, id, rfl, hd7.keep (TupK.of t8), ⟨[], upd_same, fun z => rfl⟩, hlen0, fun F9 l4 t9 hl4 => ?_⟩
      refine ⟨l4, rfl, ⟨_, SqL.of hl4⟩, fun D hD => ?_⟩
      refine lc_it walk_list (fun i H' => Same F9 H' ∧ H' D = some (.lst ((((once (usesAll dd id)).take i).filter isUp).map V.str))) ⟨same_upd hD, upd_same⟩ (fun i H' _ p => SqL.of (p.1 _ _ hl4)) ?_ ?_
      · rintro j u G1z G1 hj ⟨u1, hD1⟩ ⟨rfl, hu⟩
        rw [List.getElem?_map] at hu
        obtain ⟨y, hy, rfl⟩ : ∃ y, (once (usesAll dd id))[j]? = some y ∧ u = .str y := by
          cases e : (once (usesAll dd id))[j]? with
          | none => rw [e] at hu; cases hu
          | some y => rw [e] at hu; cases hu; exact ⟨y, rfl, rfl⟩
        have hym : y ∈ usesAll dd id := once_mem.mp (List.mem_of_getElem? hy)
        obtain ⟨c, hc, hcu, hcl⟩ := first_up ((makers_of hd0).2 y hym)
        have etake : (once (usesAll dd id)).take (j + 1) = (once (usesAll dd id)).take j ++ [y] := by rw [List.take_succ, hy]; rfl
        refine ⟨rfl, _, rfl, y, 0, c, rfl, rfl, hcl, hc, c, "LNOT", rfl, rfl, _, rfl, ?_⟩
        rw [hcu, etake, List.filter_append]
        cases hup : isUp y with
        | true =>
          have ef : ([y] : List Str).filter isUp = [y] := by rw [List.filter_cons_of_pos hup]; rfl
          rw [ef]
          have hle : (((once (usesAll dd id)).take j).filter isUp).length ≤ 2000 := Nat.le_trans (List.length_filter_le ..) (by rw [List.length_take]; omega)
          refine iteT ⟨_, rfl, _, hD1, by rw [List.length_map]; omega, fun z o h => by rw [upd_ne (ne_of_none h hD)]; exact u1 _ _ h, by rw [upd_same]; exact snoc_str _ _⟩
        | false =>
          have ef : ([y] : List Str).filter isUp = [] := by rw [List.filter_cons_of_neg (by rw [hup]; decide)]; rfl
          rw [ef, List.append_nil]
          exact iteF ⟨u1, hD1⟩
      rintro G1 ⟨u1, hD1⟩
      have efull : (once (usesAll dd id)).take ((once (usesAll dd id)).map V.str).length = once (usesAll dd id) := by rw [List.length_map]; exact List.take_length
      rw [efull] at hD1
      have t79 := Same.tr t8 (Same.tr t9 u1)
      refine ⟨.ref m, .ref D, rfl, same_strs (t79 _ _ hm) hD1 (once_makers hd0) (Nat.le_trans (List.length_filter_le ..) (by omega)), fun F10 t10 => ⟨true, rfl, iteF ?_⟩⟩
      have t610 := Same.tr t7 (Same.tr t79 t10)
      have r10 := Same.tr r6 t610
      have hd10 := hd6.keep (TupK.of t610)
      have ht10 := t610 _ _ (t46 _ _ ht)
      have hPt : G5 t = none := by
        cases e : G5 t with
        | none => rfl
        | some o => rw [r3 _ _ e] at hnt; cases hnt
      -- told.append
      refine ⟨_, rfl, .inl ⟨rfl, _, SqL.of ht10⟩, t, _, _, rfl, rfl, ht10, by rw [List.length_map]; omega, ?_⟩
      have r11 : Same G5 (upd F10 t (.lst ((once (usesAll dd (mkOf kvs))).map V.str ++ [V.str "z"]))) := fun z o h => by rw [upd_ne (ne_of_none h hPt)]; exact r10 _ _ h
      have hd11 : DfAt (upd F10 t (.lst ((once (usesAll dd (mkOf kvs))).map V.str ++ [V.str "z"]))) dd x := hd10.keep (tk_lst ht10)
      generalize upd F10 t (.lst ((once (usesAll dd (mkOf kvs))).map V.str ++ [V.str "z"])) = F11 at r11 hd11 ⊢
      refine ⟨_, rfl, x, dd, rfl, hd11, fun F12 l5 t12 hn5 hl5' len5 => ⟨.inl ⟨rfl, _, SqL.of hl5'⟩, l5, _, _, rfl, rfl, hl5', by rw [List.length_map]; omega, ?_⟩⟩
      have r13 : Same F11 (upd F12 l5 (.lst ((dMakes dd).map V.str ++ [V.str "z"]))) := fun z o h => by rw [upd_ne (ne_of_none h hn5)]; exact t12 _ _ h
      have hd13 := hd11.keep (TupK.of r13)
      generalize upd F12 l5 (.lst ((dMakes dd).map V.str ++ [V.str "z"])) = F13 at r13 hd13 ⊢
      have r13 := Same.tr r11 r13
      -- uses again
      refine ⟨_, rfl, _, rfl, x, dd, Pd, mkOf kvs, rfl, hd13, mk_of (r13 _ _ gP) hK, fun F14 t' t14 hnt' ht' _ => ?_⟩
      have r14 := Same.tr r13 t14
      have hd14 := hd13.keep (TupK.of t14)
      refine ⟨_, rfl, _, rfl, x, dd, M, mkOf kvs, rfl, hd14, mk_of (r14 _ _ gM5) hK, hlen, fun F15 l6 t15 hl6 => ?_⟩
      refine ⟨.ref t', .ref l6, rfl, same_strs (t15 _ _ ht') hl6 rfl (by omega), fun F16 t16 => ⟨true, rfl, iteF ?_⟩⟩
      have t1416 := Same.tr t15 t16
      have hd16 := hd14.keep (TupK.of t1416)
      -- makes again
      refine ⟨_, rfl, x, dd, rfl, hd16, fun F17 l7 t17 hn7 hl7 len7 => ?_⟩
      refine ⟨_, rfl, x, dd, rfl, hd16.keep (TupK.of t17), fun F18 l8 t18 hn8 hl8 len8 => ?_⟩
      refine ⟨.ref l7, .ref l8, rfl, same_strs (t18 _ _ hl7) hl8 rfl (by omega), fun F19 t19 => ⟨true, rfl, iteF ?_⟩⟩
      exact ⟨_, _, rfl, Same.tr r14 (Same.tr t1416 (Same.tr t17 (Same.tr t18 t19)))⟩
    · rintro σ G6 ⟨y6, y7, rfl, s6⟩
      exact ⟨_, rfl, _, rfl, Pd, M, kvs, rfl, nPM, s6 _ _ gP, s6 _ _ gM5, hK, qq⟩
end
end Q11
namespace Q11
open PySem PySem.Spec PyProof.Rows L2 SX HL
theorem all_mk {l : PySem.W.OpenLaw} {w : World} {K : PySem.W.Frag} {h : Heap} {mg : Str → Option Value} {fa f1 f2 f3 f4 f5 f6 f7 f8 f9 f10 f11 f12 f13 f14 f15 f16 f17 f18 f19 f20 f21 f22 f23 f24 f25 f26 f27 f28 f29 f30 f31 f32 f33 f34 f35 : Addr} (X : K.In h) (G : h.Ns mainGlobals mg) (hfa : mg "law" = some (.ref fa))
    {od1 an1 od2 an2 od3 an3 od4 an4 od5 an5 od6 an6 od7 an7 od8 an8 od9 an9 od10 an10 od11 an11 od12 an12 od13 an13 od14 an14 od15 an15 od16 an16 od17 an17 od18 an18 od19 an19 od20 an20 od21 an21 od22 an22 od23 an23 od24 an24 od25 an25 od26 an26 od27 an27 od28 an28 od29 an29 od30 an30 od31 an31 od32 an32 od33 an33 od34 an34 od35 an35 : Option Addr} {sl1 sl2 sl3 sl4 sl5 sl6 sl7 sl8 sl9 sl10 sl11 sl12 sl13 sl14 sl15 sl16 sl17 sl18 sl19 sl20 sl21 sl22 sl23 sl24 sl25 sl26 sl27 sl28 sl29 sl30 sl31 sl32 sl33 sl34 sl35 : Array (Option Value)} {oc1 kV1 dc1 pm1 cd1 ct1 oc2 kV2 dc2 pm2 cd2 ct2 oc3 kV3 dc3 pm3 cd3 ct3 oc4 kV4 dc4 pm4 cd4 ct4 oc5 kV5 dc5 pm5 cd5 ct5 oc6 kV6 dc6 pm6 cd6 ct6 oc7 kV7 dc7 pm7 cd7 ct7 oc8 kV8 dc8 pm8 cd8 ct8 oc9 kV9 dc9 pm9 cd9 ct9 oc10 kV10 dc10 pm10 cd10 ct10 oc11 kV11 dc11 pm11 cd11 ct11 oc12 kV12 dc12 pm12 cd12 ct12 oc13 kV13 dc13 pm13 cd13 ct13 oc14 kV14 dc14 pm14 cd14 ct14 oc15 kV15 dc15 pm15 cd15 ct15 oc16 kV16 dc16 pm16 cd16 ct16 oc17 kV17 dc17 pm17 cd17 ct17 oc18 kV18 dc18 pm18 cd18 ct18 oc19 kV19 dc19 pm19 cd19 ct19 oc20 kV20 dc20 pm20 cd20 ct20 oc21 kV21 dc21 pm21 cd21 ct21 oc22 kV22 dc22 pm22 cd22 ct22 oc23 kV23 dc23 pm23 cd23 ct23 oc24 kV24 dc24 pm24 cd24 ct24 oc25 kV25 dc25 pm25 cd25 ct25 oc26 kV26 dc26 pm26 cd26 ct26 oc27 kV27 dc27 pm27 cd27 ct27 oc28 kV28 dc28 pm28 cd28 ct28 oc29 kV29 dc29 pm29 cd29 ct29 oc30 kV30 dc30 pm30 cd30 ct30 oc31 kV31 dc31 pm31 cd31 ct31 oc32 kV32 dc32 pm32 cd32 ct32 oc33 kV33 dc33 pm33 cd33 ct33 oc34 kV34 dc34 pm34 cd34 ct34 oc35 kV35 dc35 pm35 cd35 ct35 : Value}
    {aPLAINBASES : Addr} {odPLAINBASES : Option Addr} {nPLAINBASES : Nat} {slPLAINBASES : Array (Option Value)} {tkPLAINBASES0 tkPLAINBASES1 tkPLAINBASES2 : Tok}
    (a1 : PySem.W.nsIn K mainGlobals "parts" = some (some (.ref f1)))
    (l1 : K.lookup f1 = some ⟨oc1, od1, .func (PySem.W.fnOf "parts" "parts" (defArgs sParts) (defBody sParts) (defScope sParts) .none kV1 dc1 pm1 an1 cd1 ct1), sl1⟩)
    (c1 : PySem.W.codeIn K cd1 "parts" = true)
    (k1 : PySem.W.keepIn K (.ref f1) = true)
    (a2 : PySem.W.nsIn K mainGlobals "expressions" = some (some (.ref f2)))
    (l2 : K.lookup f2 = some ⟨oc2, od2, .func (PySem.W.fnOf "expressions" "expressions" (defArgs sExpressions) (defBody sExpressions) (defScope sExpressions) .none kV2 dc2 pm2 an2 cd2 ct2), sl2⟩)
    (c2 : PySem.W.codeIn K cd2 "expressions" = true)
    (k2 : PySem.W.keepIn K (.ref f2) = true)
    (a3 : PySem.W.nsIn K mainGlobals "kinds" = some (some (.ref f3)))
    (l3 : K.lookup f3 = some ⟨oc3, od3, .func (PySem.W.fnOf "kinds" "kinds" (defArgs sKinds) (defBody sKinds) (defScope sKinds) .none kV3 dc3 pm3 an3 cd3 ct3), sl3⟩)
    (c3 : PySem.W.codeIn K cd3 "kinds" = true)
    (k3 : PySem.W.keepIn K (.ref f3) = true)
    (a4 : PySem.W.nsIn K mainGlobals "bound" = some (some (.ref f4)))
    (l4 : K.lookup f4 = some ⟨oc4, od4, .func (PySem.W.fnOf "bound" "bound" (defArgs sBound) (defBody sBound) (defScope sBound) .none kV4 dc4 pm4 an4 cd4 ct4), sl4⟩)
    (c4 : PySem.W.codeIn K cd4 "bound" = true)
    (k4 : PySem.W.keepIn K (.ref f4) = true)
    (a5 : PySem.W.nsIn K mainGlobals "parameters" = some (some (.ref f5)))
    (l5 : K.lookup f5 = some ⟨oc5, od5, .func (PySem.W.fnOf "parameters" "parameters" (defArgs sParameters) (defBody sParameters) (defScope sParameters) .none kV5 dc5 pm5 an5 cd5 ct5), sl5⟩)
    (c5 : PySem.W.codeIn K cd5 "parameters" = true)
    (k5 : PySem.W.keepIn K (.ref f5) = true)
    (a6 : PySem.W.nsIn K mainGlobals "makes" = some (some (.ref f6)))
    (l6 : K.lookup f6 = some ⟨oc6, od6, .func (PySem.W.fnOf "makes" "makes" (defArgs sMakes) (defBody sMakes) (defScope sMakes) .none kV6 dc6 pm6 an6 cd6 ct6), sl6⟩)
    (c6 : PySem.W.codeIn K cd6 "makes" = true)
    (k6 : PySem.W.keepIn K (.ref f6) = true)
    (a7 : PySem.W.nsIn K mainGlobals "makers_used" = some (some (.ref f7)))
    (l7 : K.lookup f7 = some ⟨oc7, od7, .func (PySem.W.fnOf "makers_used" "makers_used" (defArgs sMakersUsed) (defBody sMakersUsed) (defScope sMakersUsed) .none kV7 dc7 pm7 an7 cd7 ct7), sl7⟩)
    (c7 : PySem.W.codeIn K cd7 "makers_used" = true)
    (k7 : PySem.W.keepIn K (.ref f7) = true)
    (a8 : PySem.W.nsIn K mainGlobals "uses" = some (some (.ref f8)))
    (l8 : K.lookup f8 = some ⟨oc8, od8, .func (PySem.W.fnOf "uses" "uses" (defArgs sUses) (defBody sUses) (defScope sUses) .none kV8 dc8 pm8 an8 cd8 ct8), sl8⟩)
    (c8 : PySem.W.codeIn K cd8 "uses" = true)
    (k8 : PySem.W.keepIn K (.ref f8) = true)
    (a9 : PySem.W.nsIn K mainGlobals "each_once" = some (some (.ref f9)))
    (l9 : K.lookup f9 = some ⟨oc9, od9, .func (PySem.W.fnOf "each_once" "each_once" (defArgs sEachOnce) (defBody sEachOnce) (defScope sEachOnce) .none kV9 dc9 pm9 an9 cd9 ct9), sl9⟩)
    (c9 : PySem.W.codeIn K cd9 "each_once" = true)
    (k9 : PySem.W.keepIn K (.ref f9) = true)
    (a10 : PySem.W.nsIn K mainGlobals "mentioned" = some (some (.ref f10)))
    (l10 : K.lookup f10 = some ⟨oc10, od10, .func (PySem.W.fnOf "mentioned" "mentioned" (defArgs sMentioned) (defBody sMentioned) (defScope sMentioned) .none kV10 dc10 pm10 an10 cd10 ct10), sl10⟩)
    (c10 : PySem.W.codeIn K cd10 "mentioned" = true)
    (k10 : PySem.W.keepIn K (.ref f10) = true)
    (a11 : PySem.W.nsIn K mainGlobals "mentioned_at_start" = some (some (.ref f11)))
    (l11 : K.lookup f11 = some ⟨oc11, od11, .func (PySem.W.fnOf "mentioned_at_start" "mentioned_at_start" (defArgs sMentionedAtStart) (defBody sMentionedAtStart) (defScope sMentionedAtStart) .none kV11 dc11 pm11 an11 cd11 ct11), sl11⟩)
    (c11 : PySem.W.codeIn K cd11 "mentioned_at_start" = true)
    (k11 : PySem.W.keepIn K (.ref f11) = true)
    (a12 : PySem.W.nsIn K mainGlobals "mentioned_in_match" = some (some (.ref f12)))
    (l12 : K.lookup f12 = some ⟨oc12, od12, .func (PySem.W.fnOf "mentioned_in_match" "mentioned_in_match" (defArgs sMentionedInMatch) (defBody sMentionedInMatch) (defScope sMentionedInMatch) .none kV12 dc12 pm12 an12 cd12 ct12), sl12⟩)
    (c12 : PySem.W.codeIn K cd12 "mentioned_in_match" = true)
    (k12 : PySem.W.keepIn K (.ref f12) = true)
    (a13 : PySem.W.nsIn K mainGlobals "_law_mix" = some (some (.ref f13)))
    (l13 : K.lookup f13 = some ⟨oc13, od13, .func (PySem.W.fnOf "_law_mix" "_law_mix" (defArgs sLawMix) (defBody sLawMix) (defScope sLawMix) .none kV13 dc13 pm13 an13 cd13 ct13), sl13⟩)
    (c13 : PySem.W.codeIn K cd13 "_law_mix" = true)
    (k13 : PySem.W.keepIn K (.ref f13) = true)
    (a14 : PySem.W.nsIn K mainGlobals "_law_draws" = some (some (.ref f14)))
    (l14 : K.lookup f14 = some ⟨oc14, od14, .func (PySem.W.fnOf "_law_draws" "_law_draws" (defArgs sLawDraws) (defBody sLawDraws) (defScope sLawDraws) .none kV14 dc14 pm14 an14 cd14 ct14), sl14⟩)
    (c14 : PySem.W.codeIn K cd14 "_law_draws" = true)
    (k14 : PySem.W.keepIn K (.ref f14) = true)
    (a15 : PySem.W.nsIn K mainGlobals "_law_at" = some (some (.ref f15)))
    (l15 : K.lookup f15 = some ⟨oc15, od15, .func (PySem.W.fnOf "_law_at" "_law_at" (defArgs sLawAt) (defBody sLawAt) (defScope sLawAt) .none kV15 dc15 pm15 an15 cd15 ct15), sl15⟩)
    (c15 : PySem.W.codeIn K cd15 "_law_at" = true)
    (k15 : PySem.W.keepIn K (.ref f15) = true)
    (a16 : PySem.W.nsIn K mainGlobals "_law_is_integer" = some (some (.ref f16)))
    (l16 : K.lookup f16 = some ⟨oc16, od16, .func (PySem.W.fnOf "_law_is_integer" "_law_is_integer" (defArgs sLawIsInteger) (defBody sLawIsInteger) (defScope sLawIsInteger) .none kV16 dc16 pm16 an16 cd16 ct16), sl16⟩)
    (c16 : PySem.W.codeIn K cd16 "_law_is_integer" = true)
    (k16 : PySem.W.keepIn K (.ref f16) = true)
    (a17 : PySem.W.nsIn K mainGlobals "_law_same" = some (some (.ref f17)))
    (l17 : K.lookup f17 = some ⟨oc17, od17, .func (PySem.W.fnOf "_law_same" "_law_same" (defArgs sLawSame) (defBody sLawSame) (defScope sLawSame) .none kV17 dc17 pm17 an17 cd17 ct17), sl17⟩)
    (c17 : PySem.W.codeIn K cd17 "_law_same" = true)
    (k17 : PySem.W.keepIn K (.ref f17) = true)
    (a18 : PySem.W.nsIn K mainGlobals "_law_is_dict" = some (some (.ref f18)))
    (l18 : K.lookup f18 = some ⟨oc18, od18, .func (PySem.W.fnOf "_law_is_dict" "_law_is_dict" (defArgs sLawIsDict) (defBody sLawIsDict) (defScope sLawIsDict) .none kV18 dc18 pm18 an18 cd18 ct18), sl18⟩)
    (c18 : PySem.W.codeIn K cd18 "_law_is_dict" = true)
    (k18 : PySem.W.keepIn K (.ref f18) = true)
    (a19 : PySem.W.nsIn K mainGlobals "_law_next" = some (some (.ref f19)))
    (l19 : K.lookup f19 = some ⟨oc19, od19, .func (PySem.W.fnOf "_law_next" "_law_next" (defArgs sLawNext) (defBody sLawNext) (defScope sLawNext) .none kV19 dc19 pm19 an19 cd19 ct19), sl19⟩)
    (c19 : PySem.W.codeIn K cd19 "_law_next" = true)
    (k19 : PySem.W.keepIn K (.ref f19) = true)
    (a20 : PySem.W.nsIn K mainGlobals "_law_locals" = some (some (.ref f20)))
    (l20 : K.lookup f20 = some ⟨oc20, od20, .func (PySem.W.fnOf "_law_locals" "_law_locals" (defArgs sLawLocals) (defBody sLawLocals) (defScope sLawLocals) .none kV20 dc20 pm20 an20 cd20 ct20), sl20⟩)
    (c20 : PySem.W.codeIn K cd20 "_law_locals" = true)
    (k20 : PySem.W.keepIn K (.ref f20) = true)
    (a21 : PySem.W.nsIn K mainGlobals "_law_kinds" = some (some (.ref f21)))
    (l21 : K.lookup f21 = some ⟨oc21, od21, .func (PySem.W.fnOf "_law_kinds" "_law_kinds" (defArgs sLawKinds) (defBody sLawKinds) (defScope sLawKinds) .none kV21 dc21 pm21 an21 cd21 ct21), sl21⟩)
    (c21 : PySem.W.codeIn K cd21 "_law_kinds" = true)
    (k21 : PySem.W.keepIn K (.ref f21) = true)
    (a22 : PySem.W.nsIn K mainGlobals "_law_drawn_kind" = some (some (.ref f22)))
    (l22 : K.lookup f22 = some ⟨oc22, od22, .func (PySem.W.fnOf "_law_drawn_kind" "_law_drawn_kind" (defArgs sLawDrawnKind) (defBody sLawDrawnKind) (defScope sLawDrawnKind) .none kV22 dc22 pm22 an22 cd22 ct22), sl22⟩)
    (c22 : PySem.W.codeIn K cd22 "_law_drawn_kind" = true)
    (k22 : PySem.W.keepIn K (.ref f22) = true)
    (a23 : PySem.W.nsIn K mainGlobals "_law_plan" = some (some (.ref f23)))
    (l23 : K.lookup f23 = some ⟨oc23, od23, .func (PySem.W.fnOf "_law_plan" "_law_plan" (defArgs sLawPlan) (defBody sLawPlan) (defScope sLawPlan) .none kV23 dc23 pm23 an23 cd23 ct23), sl23⟩)
    (c23 : PySem.W.codeIn K cd23 "_law_plan" = true)
    (k23 : PySem.W.keepIn K (.ref f23) = true)
    (a24 : PySem.W.nsIn K mainGlobals "_law_plain" = some (some (.ref f24)))
    (l24 : K.lookup f24 = some ⟨oc24, od24, .func (PySem.W.fnOf "_law_plain" "_law_plain" (defArgs sLawPlain) (defBody sLawPlain) (defScope sLawPlain) .none kV24 dc24 pm24 an24 cd24 ct24), sl24⟩)
    (c24 : PySem.W.codeIn K cd24 "_law_plain" = true)
    (k24 : PySem.W.keepIn K (.ref f24) = true)
    (a25 : PySem.W.nsIn K mainGlobals "_law_term" = some (some (.ref f25)))
    (l25 : K.lookup f25 = some ⟨oc25, od25, .func (PySem.W.fnOf "_law_term" "_law_term" (defArgs sLawTerm) (defBody sLawTerm) (defScope sLawTerm) .none kV25 dc25 pm25 an25 cd25 ct25), sl25⟩)
    (c25 : PySem.W.codeIn K cd25 "_law_term" = true)
    (k25 : PySem.W.keepIn K (.ref f25) = true)
    (a26 : PySem.W.nsIn K mainGlobals "_law_names" = some (some (.ref f26)))
    (l26 : K.lookup f26 = some ⟨oc26, od26, .func (PySem.W.fnOf "_law_names" "_law_names" (defArgs sLawNames) (defBody sLawNames) (defScope sLawNames) .none kV26 dc26 pm26 an26 cd26 ct26), sl26⟩)
    (c26 : PySem.W.codeIn K cd26 "_law_names" = true)
    (k26 : PySem.W.keepIn K (.ref f26) = true)
    (a27 : PySem.W.nsIn K mainGlobals "_law_choice" = some (some (.ref f27)))
    (l27 : K.lookup f27 = some ⟨oc27, od27, .func (PySem.W.fnOf "_law_choice" "_law_choice" (defArgs sLawChoice) (defBody sLawChoice) (defScope sLawChoice) .none kV27 dc27 pm27 an27 cd27 ct27), sl27⟩)
    (c27 : PySem.W.codeIn K cd27 "_law_choice" = true)
    (k27 : PySem.W.keepIn K (.ref f27) = true)
    (a28 : PySem.W.nsIn K mainGlobals "_law_made" = some (some (.ref f28)))
    (l28 : K.lookup f28 = some ⟨oc28, od28, .func (PySem.W.fnOf "_law_made" "_law_made" (defArgs sLawMade) (defBody sLawMade) (defScope sLawMade) .none kV28 dc28 pm28 an28 cd28 ct28), sl28⟩)
    (c28 : PySem.W.codeIn K cd28 "_law_made" = true)
    (k28 : PySem.W.keepIn K (.ref f28) = true)
    (a29 : PySem.W.nsIn K mainGlobals "_law_definition" = some (some (.ref f29)))
    (l29 : K.lookup f29 = some ⟨oc29, od29, .func (PySem.W.fnOf "_law_definition" "_law_definition" (defArgs sLawDefinition) (defBody sLawDefinition) (defScope sLawDefinition) .none kV29 dc29 pm29 an29 cd29 ct29), sl29⟩)
    (c29 : PySem.W.codeIn K cd29 "_law_definition" = true)
    (k29 : PySem.W.keepIn K (.ref f29) = true)
    (a30 : PySem.W.nsIn K mainGlobals "_law_definitions" = some (some (.ref f30)))
    (l30 : K.lookup f30 = some ⟨oc30, od30, .func (PySem.W.fnOf "_law_definitions" "_law_definitions" (defArgs sLawDefinitions) (defBody sLawDefinitions) (defScope sLawDefinitions) .none kV30 dc30 pm30 an30 cd30 ct30), sl30⟩)
    (c30 : PySem.W.codeIn K cd30 "_law_definitions" = true)
    (k30 : PySem.W.keepIn K (.ref f30) = true)
    (a31 : PySem.W.nsIn K mainGlobals "_law_makes" = some (some (.ref f31)))
    (l31 : K.lookup f31 = some ⟨oc31, od31, .func (PySem.W.fnOf "_law_makes" "_law_makes" (defArgs sLawMakes) (defBody sLawMakes) (defScope sLawMakes) .none kV31 dc31 pm31 an31 cd31 ct31), sl31⟩)
    (c31 : PySem.W.codeIn K cd31 "_law_makes" = true)
    (k31 : PySem.W.keepIn K (.ref f31) = true)
    (a32 : PySem.W.nsIn K mainGlobals "_law_used_data" = some (some (.ref f32)))
    (l32 : K.lookup f32 = some ⟨oc32, od32, .func (PySem.W.fnOf "_law_used_data" "_law_used_data" (defArgs sLawUsedData) (defBody sLawUsedData) (defScope sLawUsedData) .none kV32 dc32 pm32 an32 cd32 ct32), sl32⟩)
    (c32 : PySem.W.codeIn K cd32 "_law_used_data" = true)
    (k32 : PySem.W.keepIn K (.ref f32) = true)
    (a33 : PySem.W.nsIn K mainGlobals "_law_used" = some (some (.ref f33)))
    (l33 : K.lookup f33 = some ⟨oc33, od33, .func (PySem.W.fnOf "_law_used" "_law_used" (defArgs sLawUsed) (defBody sLawUsed) (defScope sLawUsed) .none kV33 dc33 pm33 an33 cd33 ct33), sl33⟩)
    (c33 : PySem.W.codeIn K cd33 "_law_used" = true)
    (k33 : PySem.W.keepIn K (.ref f33) = true)
    (a34 : PySem.W.nsIn K mainGlobals "_law_uses" = some (some (.ref f34)))
    (l34 : K.lookup f34 = some ⟨oc34, od34, .func (PySem.W.fnOf "_law_uses" "_law_uses" (defArgs sLawUses) (defBody sLawUses) (defScope sLawUses) .none kV34 dc34 pm34 an34 cd34 ct34), sl34⟩)
    (c34 : PySem.W.codeIn K cd34 "_law_uses" = true)
    (k34 : PySem.W.keepIn K (.ref f34) = true)
    (a35 : PySem.W.nsIn K mainGlobals "law" = some (some (.ref f35)))
    (l35 : K.lookup f35 = some ⟨oc35, od35, .func (PySem.W.fnOf "law" "law" (defArgs sLaw) (defBody sLaw) (defScope sLaw) .none kV35 dc35 pm35 an35 cd35 ct35), sl35⟩)
    (c35 : PySem.W.codeIn K cd35 "law" = true)
    (k35 : PySem.W.keepIn K (.ref f35) = true)
    (z_bool : PySem.W.nsIn K mainGlobals "bool" = some none)
    (z_dict : PySem.W.nsIn K mainGlobals "dict" = some none)
    (z_enumerate : PySem.W.nsIn K mainGlobals "enumerate" = some none)
    (z_int : PySem.W.nsIn K mainGlobals "int" = some none)
    (z_isinstance : PySem.W.nsIn K mainGlobals "isinstance" = some none)
    (z_len : PySem.W.nsIn K mainGlobals "len" = some none)
    (z_list : PySem.W.nsIn K mainGlobals "list" = some none)
    (z_min : PySem.W.nsIn K mainGlobals "min" = some none)
    (z_range : PySem.W.nsIn K mainGlobals "range" = some none)
    (z_str : PySem.W.nsIn K mainGlobals "str" = some none)
    (z_tuple : PySem.W.nsIn K mainGlobals "tuple" = some none)
    (z_zip : PySem.W.nsIn K mainGlobals "zip" = some none)
    (p_gPLAINBASES : PySem.W.nsIn K mainGlobals "PLAIN_BASES" = some (some (.ref aPLAINBASES)))
    (x_PLAINBASES : K.lookup aPLAINBASES = some ⟨.type "tuple", odPLAINBASES, .seq (List.toArray [.str "num" tkPLAINBASES0, .str "text" tkPLAINBASES1, .str "bool" tkPLAINBASES2]) nPLAINBASES, slPLAINBASES⟩)
    : ∃ fd : FuncData, (∀ (s : Shared) (v : Value), BindsTo s fd ⟨[v], []⟩ [("script", v)]) ∧ ∀ base : Heap, K.In base → base.Ns mainGlobals mg → FnOk l.prog w K mg base CX0 15 fa fd ["script"] (spLaw K) := by
  have e := hfa.symm.trans (PySem.W.mg_of X G a35)
  cases e
  have F1 := fun_mk (st := sParts) l1 c1 k1
  have b1 := F1.binds (ps := ["e"]) fun _ _ _ _ _ _ us hl => match us, hl with | [_], _ => rfl
  have F2 := fun_mk (st := sExpressions) l2 c2 k2
  have b2 := F2.binds (ps := ["definition"]) fun _ _ _ _ _ _ us hl => match us, hl with | [_], _ => rfl
  have F3 := fun_mk (st := sKinds) l3 c3 k3
  have b3 := F3.binds (ps := ["definition"]) fun _ _ _ _ _ _ us hl => match us, hl with | [_], _ => rfl
  have F4 := fun_mk (st := sBound) l4 c4 k4
  have b4 := F4.binds (ps := ["e"]) fun _ _ _ _ _ _ us hl => match us, hl with | [_], _ => rfl
  have F5 := fun_mk (st := sParameters) l5 c5 k5
  have b5 := F5.binds (ps := ["definition"]) fun _ _ _ _ _ _ us hl => match us, hl with | [_], _ => rfl
  have F6 := fun_mk (st := sMakes) l6 c6 k6
  have b6 := F6.binds (ps := ["definition"]) fun _ _ _ _ _ _ us hl => match us, hl with | [_], _ => rfl
  have F7 := fun_mk (st := sMakersUsed) l7 c7 k7
  have b7 := F7.binds (ps := ["definition"]) fun _ _ _ _ _ _ us hl => match us, hl with | [_], _ => rfl
  have F8 := fun_mk (st := sUses) l8 c8 k8
  have b8 := F8.binds (ps := ["definition", "makers"]) fun _ _ _ _ _ _ us hl => match us, hl with | [_, _], _ => rfl
  have F9 := fun_mk (st := sEachOnce) l9 c9 k9
  have b9 := F9.binds (ps := ["words"]) fun _ _ _ _ _ _ us hl => match us, hl with | [_], _ => rfl
  have F10 := fun_mk (st := sMentioned) l10 c10 k10
  have b10 := F10.binds (ps := ["e", "local"]) fun _ _ _ _ _ _ us hl => match us, hl with | [_, _], _ => rfl
  have F11 := fun_mk (st := sMentionedAtStart) l11 c11 k11
  have b11 := F11.binds (ps := ["e", "local"]) fun _ _ _ _ _ _ us hl => match us, hl with | [_, _], _ => rfl
  have F12 := fun_mk (st := sMentionedInMatch) l12 c12 k12
  have b12 := F12.binds (ps := ["e", "local"]) fun _ _ _ _ _ _ us hl => match us, hl with | [_, _], _ => rfl
  have F13 := fun_mk (st := sLawMix) l13 c13 k13
  have b13 := F13.binds (ps := ["cell", "k"]) fun _ _ _ _ _ _ us hl => match us, hl with | [_, _], _ => rfl
  have F14 := fun_mk (st := sLawDraws) l14 c14 k14
  have b14 := F14.binds (ps := ["script"]) fun _ _ _ _ _ _ us hl => match us, hl with | [_], _ => rfl
  have F15 := fun_mk (st := sLawAt) l15 c15 k15
  have b15 := F15.binds (ps := ["draws", "index"]) fun _ _ _ _ _ _ us hl => match us, hl with | [_, _], _ => rfl
  have F16 := fun_mk (st := sLawIsInteger) l16 c16 k16
  have b16 := F16.binds (ps := ["actual"]) fun _ _ _ _ _ _ us hl => match us, hl with | [_], _ => rfl
  have F17 := fun_mk (st := sLawSame) l17 c17 k17
  have b17 := F17.binds (ps := ["actual", "expected"]) fun _ _ _ _ _ _ us hl => match us, hl with | [_, _], _ => rfl
  have F18 := fun_mk (st := sLawIsDict) l18 c18 k18
  have b18 := F18.binds (ps := ["actual", "expected"]) fun _ _ _ _ _ _ us hl => match us, hl with | [_, _], _ => rfl
  have F19 := fun_mk (st := sLawNext) l19 c19 k19
  have b19 := F19.binds (ps := ["state", "limit"]) fun _ _ _ _ _ _ us hl => match us, hl with | [_, _], _ => rfl
  have F20 := fun_mk (st := sLawLocals) l20 c20 k20
  have b20 := F20.binds (ps := ["local"]) fun _ _ _ _ _ _ us hl => match us, hl with | [_], _ => rfl
  have F21 := fun_mk (st := sLawKinds) l21 c21 k21
  have b21 := F21.binds (ps := []) fun _ _ _ _ _ _ us hl => match us, hl with | [], _ => rfl
  have F22 := fun_mk (st := sLawDrawnKind) l22 c22 k22
  have b22 := F22.binds (ps := ["state"]) fun _ _ _ _ _ _ us hl => match us, hl with | [_], _ => rfl
  have F23 := fun_mk (st := sLawPlan) l23 c23 k23
  have b23 := F23.binds (ps := ["state"]) fun _ _ _ _ _ _ us hl => match us, hl with | [_], _ => rfl
  have F24 := fun_mk (st := sLawPlain) l24 c24 k24
  have b24 := F24.binds (ps := ["state", "kind"]) fun _ _ _ _ _ _ us hl => match us, hl with | [_, _], _ => rfl
  have F25 := fun_mk (st := sLawTerm) l25 c25 k25
  have b25 := F25.binds (ps := ["state", "plan", "local", "kind", "depth", "steady"]) fun _ _ _ _ _ _ us hl => match us, hl with | [_, _, _, _, _, _], _ => rfl
  have F26 := fun_mk (st := sLawNames) l26 c26 k26
  have b26 := F26.binds (ps := ["state", "count"]) fun _ _ _ _ _ _ us hl => match us, hl with | [_, _], _ => rfl
  have F27 := fun_mk (st := sLawChoice) l27 c27 k27
  have b27 := F27.binds (ps := ["state", "plan", "local", "kind", "depth", "steady"]) fun _ _ _ _ _ _ us hl => match us, hl with | [_, _, _, _, _, _], _ => rfl
  have F28 := fun_mk (st := sLawMade) l28 c28 k28
  have b28 := F28.binds (ps := ["state", "plan", "local", "kind", "depth", "steady"]) fun _ _ _ _ _ _ us hl => match us, hl with | [_, _, _, _, _, _], _ => rfl
  have F29 := fun_mk (st := sLawDefinition) l29 c29 k29
  have b29 := F29.binds (ps := ["state", "plan", "name"]) fun _ _ _ _ _ _ us hl => match us, hl with | [_, _, _], _ => rfl
  have F30 := fun_mk (st := sLawDefinitions) l30 c30 k30
  have b30 := F30.binds (ps := ["state"]) fun _ _ _ _ _ _ us hl => match us, hl with | [_], _ => rfl
  have F31 := fun_mk (st := sLawMakes) l31 c31 k31
  have b31 := F31.binds (ps := ["definition"]) fun _ _ _ _ _ _ us hl => match us, hl with | [_], _ => rfl
  have F32 := fun_mk (st := sLawUsedData) l32 c32 k32
  have b32 := F32.binds (ps := ["kinds_v"]) fun _ _ _ _ _ _ us hl => match us, hl with | [_], _ => rfl
  have F33 := fun_mk (st := sLawUsed) l33 c33 k33
  have b33 := F33.binds (ps := ["e", "local", "makers"]) fun _ _ _ _ _ _ us hl => match us, hl with | [_, _, _], _ => rfl
  have F34 := fun_mk (st := sLawUses) l34 c34 k34
  have b34 := F34.binds (ps := ["definition", "makers"]) fun _ _ _ _ _ _ us hl => match us, hl with | [_, _], _ => rfl
  have F35 := fun_mk (st := sLaw) l35 c35 k35
  have b35 := F35.binds (ps := ["script"]) fun _ _ _ _ _ _ us hl => match us, hl with | [_], _ => rfl
  let Z : Defs K mg :=
    { bool := PySem.W.mg_none_of X G z_bool,
      dict := PySem.W.mg_none_of X G z_dict,
      enumerate := PySem.W.mg_none_of X G z_enumerate,
      int := PySem.W.mg_none_of X G z_int,
      isinstance := PySem.W.mg_none_of X G z_isinstance,
      len := PySem.W.mg_none_of X G z_len,
      list := PySem.W.mg_none_of X G z_list,
      min := PySem.W.mg_none_of X G z_min,
      range := PySem.W.mg_none_of X G z_range,
      str := PySem.W.mg_none_of X G z_str,
      tuple := PySem.W.mg_none_of X G z_tuple,
      zip := PySem.W.mg_none_of X G z_zip,
      fParts := f1,
      fdParts := _,
      DParts := ⟨F1, b1, PySem.W.mg_of X G a1⟩,
      fExpressions := f2,
      fdExpressions := _,
      DExpressions := ⟨F2, b2, PySem.W.mg_of X G a2⟩,
      fKinds := f3,
      fdKinds := _,
      DKinds := ⟨F3, b3, PySem.W.mg_of X G a3⟩,
      fBound := f4,
      fdBound := _,
      DBound := ⟨F4, b4, PySem.W.mg_of X G a4⟩,
      fParameters := f5,
      fdParameters := _,
      DParameters := ⟨F5, b5, PySem.W.mg_of X G a5⟩,
      fMakes := f6,
      fdMakes := _,
      DMakes := ⟨F6, b6, PySem.W.mg_of X G a6⟩,
      fMakersUsed := f7,
      fdMakersUsed := _,
      DMakersUsed := ⟨F7, b7, PySem.W.mg_of X G a7⟩,
      fUses := f8,
      fdUses := _,
      DUses := ⟨F8, b8, PySem.W.mg_of X G a8⟩,
      fEachOnce := f9,
      fdEachOnce := _,
      DEachOnce := ⟨F9, b9, PySem.W.mg_of X G a9⟩,
      fMentioned := f10,
      fdMentioned := _,
      DMentioned := ⟨F10, b10, PySem.W.mg_of X G a10⟩,
      fMentionedAtStart := f11,
      fdMentionedAtStart := _,
      DMentionedAtStart := ⟨F11, b11, PySem.W.mg_of X G a11⟩,
      fMentionedInMatch := f12,
      fdMentionedInMatch := _,
      DMentionedInMatch := ⟨F12, b12, PySem.W.mg_of X G a12⟩,
      fLawMix := f13,
      fdLawMix := _,
      DLawMix := ⟨F13, b13, PySem.W.mg_of X G a13⟩,
      fLawDraws := f14,
      fdLawDraws := _,
      DLawDraws := ⟨F14, b14, PySem.W.mg_of X G a14⟩,
      fLawAt := f15,
      fdLawAt := _,
      DLawAt := ⟨F15, b15, PySem.W.mg_of X G a15⟩,
      fLawIsInteger := f16,
      fdLawIsInteger := _,
      DLawIsInteger := ⟨F16, b16, PySem.W.mg_of X G a16⟩,
      fLawSame := f17,
      fdLawSame := _,
      DLawSame := ⟨F17, b17, PySem.W.mg_of X G a17⟩,
      fLawIsDict := f18,
      fdLawIsDict := _,
      DLawIsDict := ⟨F18, b18, PySem.W.mg_of X G a18⟩,
      fLawNext := f19,
      fdLawNext := _,
      DLawNext := ⟨F19, b19, PySem.W.mg_of X G a19⟩,
      fLawLocals := f20,
      fdLawLocals := _,
      DLawLocals := ⟨F20, b20, PySem.W.mg_of X G a20⟩,
      fLawKinds := f21,
      fdLawKinds := _,
      DLawKinds := ⟨F21, b21, PySem.W.mg_of X G a21⟩,
      fLawDrawnKind := f22,
      fdLawDrawnKind := _,
      DLawDrawnKind := ⟨F22, b22, PySem.W.mg_of X G a22⟩,
      fLawPlan := f23,
      fdLawPlan := _,
      DLawPlan := ⟨F23, b23, PySem.W.mg_of X G a23⟩,
      fLawPlain := f24,
      fdLawPlain := _,
      DLawPlain := ⟨F24, b24, PySem.W.mg_of X G a24⟩,
      fLawTerm := f25,
      fdLawTerm := _,
      DLawTerm := ⟨F25, b25, PySem.W.mg_of X G a25⟩,
      fLawNames := f26,
      fdLawNames := _,
      DLawNames := ⟨F26, b26, PySem.W.mg_of X G a26⟩,
      fLawChoice := f27,
      fdLawChoice := _,
      DLawChoice := ⟨F27, b27, PySem.W.mg_of X G a27⟩,
      fLawMade := f28,
      fdLawMade := _,
      DLawMade := ⟨F28, b28, PySem.W.mg_of X G a28⟩,
      fLawDefinition := f29,
      fdLawDefinition := _,
      DLawDefinition := ⟨F29, b29, PySem.W.mg_of X G a29⟩,
      fLawDefinitions := f30,
      fdLawDefinitions := _,
      DLawDefinitions := ⟨F30, b30, PySem.W.mg_of X G a30⟩,
      fLawMakes := f31,
      fdLawMakes := _,
      DLawMakes := ⟨F31, b31, PySem.W.mg_of X G a31⟩,
      fLawUsedData := f32,
      fdLawUsedData := _,
      DLawUsedData := ⟨F32, b32, PySem.W.mg_of X G a32⟩,
      fLawUsed := f33,
      fdLawUsed := _,
      DLawUsed := ⟨F33, b33, PySem.W.mg_of X G a33⟩,
      fLawUses := f34,
      fdLawUses := _,
      DLawUses := ⟨F34, b34, PySem.W.mg_of X G a34⟩,
      fLaw := fa,
      fdLaw := _,
      DLaw := ⟨F35, b35, PySem.W.mg_of X G a35⟩,
      aPLAINBASES := aPLAINBASES,
      gPLAINBASES := PySem.W.mg_of X G p_gPLAINBASES,
      sPLAINBASES := fun H => TG.sqt_tup x_PLAINBASES (by show 3 ≤ sizeLine; decide) (by repeat (first | exact .nil | refine .cons ⟨_, rfl⟩ ?_)) H }
  exact ⟨PySem.W.fnOf "law" "law" (defArgs sLaw) (defBody sLaw) (defScope sLaw) .none kV35 dc35 pm35 an35 cd35 ct35, fun s v => .of_eq rfl, fun base _ _ => ok_law Z⟩
end Q11
open PySem PySem.W PyProof.Rows
set_option maxHeartbeats 0 in
theorem PySem.Challenge.cw_quillrun_k11_names_made_and_used_holds : PySem.Challenge.rw_quillrun_k11_names_made_and_used.Holds := by
  w_on; o_law; k_head; (case hw => w_witness2)
  k_fill
  refine L2.walk_of (l := PySem.Challenge.rw_quillrun_k11_names_made_and_used) (n := 63) (k := 15) (x := "script") (CX := fun _ => L2.CX0) (sp := fun w => Q11.spLaw _) rfl (by decide) rfl ⟨rfl, by decide, by decide⟩ (fun w h Y => PySem.W.kIn_of Y) ?F (fun _ _ a ns hl _ hS => ⟨a, ns, rfl, hS, hl, fun _ => rfl⟩) (fun _ _ _ _ _ h => h)
  case F =>
    intro w mg fa h KX G hmg
    refine' Q11.all_mk KX G hmg ?a1 ?l1 ?c1 ?k1 ?a2 ?l2 ?c2 ?k2 ?a3 ?l3 ?c3 ?k3 ?a4 ?l4 ?c4 ?k4 ?a5 ?l5 ?c5 ?k5 ?a6 ?l6 ?c6 ?k6 ?a7 ?l7 ?c7 ?k7 ?a8 ?l8 ?c8 ?k8 ?a9 ?l9 ?c9 ?k9 ?a10 ?l10 ?c10 ?k10 ?a11 ?l11 ?c11 ?k11 ?a12 ?l12 ?c12 ?k12 ?a13 ?l13 ?c13 ?k13 ?a14 ?l14 ?c14 ?k14 ?a15 ?l15 ?c15 ?k15 ?a16 ?l16 ?c16 ?k16 ?a17 ?l17 ?c17 ?k17 ?a18 ?l18 ?c18 ?k18 ?a19 ?l19 ?c19 ?k19 ?a20 ?l20 ?c20 ?k20 ?a21 ?l21 ?c21 ?k21 ?a22 ?l22 ?c22 ?k22 ?a23 ?l23 ?c23 ?k23 ?a24 ?l24 ?c24 ?k24 ?a25 ?l25 ?c25 ?k25 ?a26 ?l26 ?c26 ?k26 ?a27 ?l27 ?c27 ?k27 ?a28 ?l28 ?c28 ?k28 ?a29 ?l29 ?c29 ?k29 ?a30 ?l30 ?c30 ?k30 ?a31 ?l31 ?c31 ?k31 ?a32 ?l32 ?c32 ?k32 ?a33 ?l33 ?c33 ?k33 ?a34 ?l34 ?c34 ?k34 ?a35 ?l35 ?c35 ?k35 ?z_bool ?z_dict ?z_enumerate ?z_int ?z_isinstance ?z_len ?z_list ?z_min ?z_range ?z_str ?z_tuple ?z_zip ?p_gPLAINBASES ?x_PLAINBASES
    (case a1 => k_is)
    (case l1 => k_is)
    (case c1 => k_is)
    (case k1 => k_is)
    (case a2 => k_is)
    (case l2 => k_is)
    (case c2 => k_is)
    (case k2 => k_is)
    (case a3 => k_is)
    (case l3 => k_is)
    (case c3 => k_is)
    (case k3 => k_is)
    (case a4 => k_is)
    (case l4 => k_is)
    (case c4 => k_is)
    (case k4 => k_is)
    (case a5 => k_is)
    (case l5 => k_is)
    (case c5 => k_is)
    (case k5 => k_is)
    (case a6 => k_is)
    (case l6 => k_is)
    (case c6 => k_is)
    (case k6 => k_is)
    (case a7 => k_is)
    (case l7 => k_is)
    (case c7 => k_is)
    (case k7 => k_is)
    (case a8 => k_is)
    (case l8 => k_is)
    (case c8 => k_is)
    (case k8 => k_is)
    (case a9 => k_is)
    (case l9 => k_is)
    (case c9 => k_is)
    (case k9 => k_is)
    (case a10 => k_is)
    (case l10 => k_is)
    (case c10 => k_is)
    (case k10 => k_is)
    (case a11 => k_is)
    (case l11 => k_is)
    (case c11 => k_is)
    (case k11 => k_is)
    (case a12 => k_is)
    (case l12 => k_is)
    (case c12 => k_is)
    (case k12 => k_is)
    (case a13 => k_is)
    (case l13 => k_is)
    (case c13 => k_is)
    (case k13 => k_is)
    (case a14 => k_is)
    (case l14 => k_is)
    (case c14 => k_is)
    (case k14 => k_is)
    (case a15 => k_is)
    (case l15 => k_is)
    (case c15 => k_is)
    (case k15 => k_is)
    (case a16 => k_is)
    (case l16 => k_is)
    (case c16 => k_is)
    (case k16 => k_is)
    (case a17 => k_is)
    (case l17 => k_is)
    (case c17 => k_is)
    (case k17 => k_is)
    (case a18 => k_is)
    (case l18 => k_is)
    (case c18 => k_is)
    (case k18 => k_is)
    (case a19 => k_is)
    (case l19 => k_is)
    (case c19 => k_is)
    (case k19 => k_is)
    (case a20 => k_is)
    (case l20 => k_is)
    (case c20 => k_is)
    (case k20 => k_is)
    (case a21 => k_is)
    (case l21 => k_is)
    (case c21 => k_is)
    (case k21 => k_is)
    (case a22 => k_is)
    (case l22 => k_is)
    (case c22 => k_is)
    (case k22 => k_is)
    (case a23 => k_is)
    (case l23 => k_is)
    (case c23 => k_is)
    (case k23 => k_is)
    (case a24 => k_is)
    (case l24 => k_is)
    (case c24 => k_is)
    (case k24 => k_is)
    (case a25 => k_is)
    (case l25 => k_is)
    (case c25 => k_is)
    (case k25 => k_is)
    (case a26 => k_is)
    (case l26 => k_is)
    (case c26 => k_is)
    (case k26 => k_is)
    (case a27 => k_is)
    (case l27 => k_is)
    (case c27 => k_is)
    (case k27 => k_is)
    (case a28 => k_is)
    (case l28 => k_is)
    (case c28 => k_is)
    (case k28 => k_is)
    (case a29 => k_is)
    (case l29 => k_is)
    (case c29 => k_is)
    (case k29 => k_is)
    (case a30 => k_is)
    (case l30 => k_is)
    (case c30 => k_is)
    (case k30 => k_is)
    (case a31 => k_is)
    (case l31 => k_is)
    (case c31 => k_is)
    (case k31 => k_is)
    (case a32 => k_is)
    (case l32 => k_is)
    (case c32 => k_is)
    (case k32 => k_is)
    (case a33 => k_is)
    (case l33 => k_is)
    (case c33 => k_is)
    (case k33 => k_is)
    (case a34 => k_is)
    (case l34 => k_is)
    (case c34 => k_is)
    (case k34 => k_is)
    (case a35 => k_is)
    (case l35 => k_is)
    (case c35 => k_is)
    (case k35 => k_is)
    (case z_bool => k_is)
    (case z_dict => k_is)
    (case z_enumerate => k_is)
    (case z_int => k_is)
    (case z_isinstance => k_is)
    (case z_len => k_is)
    (case z_list => k_is)
    (case z_min => k_is)
    (case z_range => k_is)
    (case z_str => k_is)
    (case z_tuple => k_is)
    (case z_zip => k_is)
    (case p_gPLAINBASES => k_is)
    (case x_PLAINBASES => k_is)
#print axioms PySem.Challenge.cw_quillrun_k11_names_made_and_used_holds
