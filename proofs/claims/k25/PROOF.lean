import PyProof.Rows.All
import Wide.All
import OpenK.AllK
import Wide.FinOn
import PyProof.Rows.All
import HandS.ForMost
import HandS.ForExc
import HandS.IsInst
import HandS.Codes
import HandS.Walk
import HandS.Star
import HandS.TryOnly
import HandS.ExcOwn
import HandS.Defaults
import HandS.Deep
import HandS.Comp
import HandS.DictComp
import PyProof.Draws
import PyProof.RulesMatchSeq
import PyProof.Rows.MatchSeqLen
import HandS.Zip
import PyProof.AutoSeq1
import KE.GoesZip
import KE.GoesMore
import KE.KDictZip
import KE.KDictItemsList
import HandS.FStr
import HandS.StrMore
import HandS.NoneIn
import HandS.SetKeys
import HandS.More
import HandS.RaiseMore
import HandS.OwnEq
import HandS.TupAny
import HandS.TupMul
import HandS.Wide
import HandS.Replace
import HandS.StrSplit
import HandS.ReplaceLit
import PyProof.StrCalls6
import PyProof.StrLawsReplace
import KE.RegKIsAll
import PySem.Challenge.RW_quillrun_k25_values
set_option Elab.async false
set_option linter.all false
set_option maxRecDepth 100000
set_option maxHeartbeats 4000000
namespace HL
open PySem PySem.Spec PyProof.Rows L2 SX
/-! ## short words of my own, over the hand layer -/
theorem boot_isinstance : bootBuiltins "isinstance" = some (.builtin "isinstance") := by decide +kernel
theorem boot_bool : bootBuiltins "bool" = some (.type "bool") := by decide +kernel
theorem boot_int : bootBuiltins "int" = some (.type "int") := by decide +kernel
theorem boot_str : bootBuiltins "str" = some (.type "str") := by decide +kernel
theorem boot_tuple : bootBuiltins "tuple" = some (.type "tuple") := by decide +kernel
theorem boot_list : bootBuiltins "list" = some (.type "list") := by decide +kernel
theorem boot_dict : bootBuiltins "dict" = some (.type "dict") := by decide +kernel
/-- a def of the module: its body, its arguments, its name -/
structure DefN (K : PySem.W.Frag) (mg : Str → Option Value) (x : Str) (st : Stmt) (ps : List Str) (f : Addr) (fd : FuncData) : Prop where
  F : Fun K x x st f fd
  b : Binds K fd ps []
  g : mg x = some (.ref f)
theorem small (n : Nat) (h : n ≤ 1000000) : n ≤ sizeLine := Nat.le_trans h (by decide)
theorem same_upd {H : Hp} {p : Addr} {o : HO} (h : H p = none) : Same H (upd H p o) := fun b x e => by
  rw [upd_ne (ne_of_none e h)]
  exact e
theorem S_app (a b : List Nat) : (S a ++ S b : Str) = S (a ++ b) := S_cat a b
theorem sign_at {t : List Nat} {k : Nat} (h : k < t.length) : atI (S t).cps.toList (k : Int) = some (t.getD k 0) := by
  show atI t.toArray.toList (k : Int) = _
  refine atI_nat ?_
  simp [List.getD_eq_getElem?_getD, h]
theorem cutS_nat (t : List Nat) (a b : Nat) (h : a ≤ b) (h2 : b ≤ t.length) : cutS (S t) (some (a : Int)) (some (b : Int)) = S ((t.drop a).take (b - a)) := by
  unfold cutS
  rw [S_len, HT.sIx_nat, HT.sIx_nat]
  have e1 : min a t.length = a := by omega
  have e2 : min b t.length = b := by omega
  rw [e1, e2]
/-- ends beyond the end -/
theorem cutS_any (t : List Nat) (a b : Nat) : cutS (S t) (some (a : Int)) (some (b : Int)) = S ((t.drop a).take (b - a)) := by
  unfold cutS
  rw [S_len, HT.sIx_nat, HT.sIx_nat]
  congr 2
  show List.take _ (List.drop _ t) = _
  by_cases ha : a ≤ t.length
  · have e1 : min a t.length = a := by omega
    rw [e1]
    by_cases hb : b ≤ t.length
    · have e2 : min b t.length = b := by omega
      rw [e2]
    · have e2 : min b t.length = t.length := by omega
      rw [e2, List.take_of_length_le (by rw [List.length_drop]; omega), List.take_of_length_le (by rw [List.length_drop]; omega)]
  · have e1 : min a t.length = t.length := by omega
    rw [e1, List.drop_of_length_le (Nat.le_refl _), List.drop_of_length_le (show t.length ≤ a by omega)]
    simp
theorem joinL_nil : ∀ C : List (List Nat), TL.joinL [] C = C.flatten
  | [] => rfl
  | [c] => by simp [TL.joinL]
  | c :: d :: r => by
    show c ++ ([] ++ TL.joinL [] (d :: r)) = _
    rw [joinL_nil (d :: r)]
    simp
/-- a test whose answer is known -/
theorem iteNo {c A B : Prop} [Decidable c] (h : ¬ c) (hb : B) : if c then A else B := by
  rw [if_neg h]
  exact hb
theorem iteYes {c A B : Prop} [Decidable c] (h : c) (ha : A) : if c then A else B := by
  rw [if_pos h]
  exact ha
/-- a comprehension without a test -/
theorem lc_yes {te : TE} {σ : L2.St} {H : Hp} {R : VK} {B : Hp → Prop} (h : te σ H R) : tYes σ H (fun b H3 => if b = true then te σ H3 R else B H3) := by
  show (if true = true then te σ H R else B H)
  rw [if_pos rfl]
  exact h
/-- all but p is as it was -/
def But (H H' : Hp) (p : Addr) : Prop := ∀ b, b ≠ p → H' b = H b
theorem but_upd {H : Hp} {p : Addr} {o : HO} : But H (upd H p o) p := fun _ h => upd_ne h
theorem But.refl {H : Hp} {p : Addr} : But H H p := fun _ _ => rfl
theorem But.trans {H H1 H2 : Hp} {p : Addr} (a : But H H1 p) (b : But H1 H2 p) : But H H2 p := fun c h => (b c h).trans (a c h)
/-- all but p, and what is new, is as it was -/
def Kept (H H' : Hp) (p : Addr) : Prop := ∀ b o, b ≠ p → H b = some o → H' b = some o
theorem Kept.refl {H : Hp} {p : Addr} : Kept H H p := fun _ _ _ h => h
theorem Kept.trans {H H1 H2 : Hp} {p : Addr} (a : Kept H H1 p) (b : Kept H1 H2 p) : Kept H H2 p := fun c o n h => b c o n (a c o n h)
theorem But.kept {H H' : Hp} {p : Addr} (b : But H H' p) : Kept H H' p := fun c o n h => (b c n).trans h
theorem _root_.L2.Same.kept {H H' : Hp} (s : Same H H') (p : Addr) : Kept H H' p := fun c o _ h => s c o h
section
variable {X : Cx}
/-- a constant of the module: a text, a number -/
theorem pe_gstr {x z : Str} {pos : Pos} (hg : Gl X x) (hm : ∃ t, X.mg x = some (.str z t)) (hd : (x == ("__debug__" : Str)) = false := by decide) : PE X (.Name x pos) (tC (.str z)) := by
  obtain ⟨t, h⟩ := hm
  exact pe_glob hg h ⟨t, rfl⟩ hd
theorem pe_gint {x : Str} {i : Int} {pos : Pos} (hg : Gl X x) (hm : ∃ t, X.mg x = some (.int i t)) (hd : (x == ("__debug__" : Str)) = false := by decide) : PE X (.Name x pos) (tC (.int i)) := by
  obtain ⟨t, h⟩ := hm
  exact pe_glob hg h ⟨t, rfl⟩ hd
/-- within a comprehension -/
theorem ix_listK {K : PySem.W.Frag} (h : X.K = K) : IxR X (rIxL K) := by
  subst h
  exact ix_list
theorem ix_tupK {K : PySem.W.Frag} (h : X.K = K) : IxR X (rIxT K) := by
  subst h
  exact ix_tup
/-- o[i] of a list, for o[i] op= e -/
def rGetL (K : PySem.W.Frag) : V → V → Hp → VK → Prop := fun x y H Q => ∃ p xs i v, x = .ref p ∧ y = .int i ∧ SqL K H p xs ∧ 0 ≤ i ∧ atI xs i = some v ∧ Q v H
theorem pget_list : PGet X (rGetL X.K) := by
  intro pins s σ H x y v u Q I rx ry h
  obtain ⟨p, xs, i, z, rfl, rfl, hq, h0, he, q⟩ := h
  cases rx
  obtain ⟨t, rfl⟩ := ry
  obtain ⟨its, r, pl, hz⟩ := I.list hq
  obtain ⟨j, h1, h2, h3, h4, h5⟩ := atI_get he
  obtain ⟨w, ew, rw'⟩ := r.get h2
  have hl := r.length
  have hn := line63
  have hj : i.toNat = j := by
    rw [seqIndex_of h0 h5] at h1
    exact Option.some.inj h1
  exact wpAny_getItem_list pl.isList h0 (by omega) (by rw [hj]; simpa using ew) ⟨z, H, I, rw', q⟩
/-- isinstance(x, T), T a built-in class -/
def rIsB (K : PySem.W.Frag) : List V → Hp → VK → Prop := fun xs H Q => ∃ (x : V) (T n : String) (b : Bool), xs = [x, .ty n] ∧ TyX K H x (.type T) ∧ kitB T n = some b ∧ Q (.bl b) H
theorem call_isB : CallR X (.builtin "isinstance") (rIsB X.K) := by
  intro pins s σ H xs us Q I r h
  obtain ⟨x, T, n, b, rfl, ty, e, q⟩ := h
  exact call_isi pins s σ H _ us Q I r ⟨x, .ty n, .type T, .type n, b, rfl, .ty n, ty, kit_ty e, q⟩
/-- a text, n times -/
theorem rep_fold (z : Str) : ∀ n : Nat, ((List.replicate n z.cps).foldl (· ++ ·) (#[] : Array Nat)).toList = (List.replicate n z.cps.toList).flatten := by
  have h : ∀ (l : List (Array Nat)) (a : Array Nat), (l.foldl (· ++ ·) a).toList = a.toList ++ (l.map (·.toList)).flatten := by
    intro l
    induction l with
    | nil => intro a; simp
    | cons x l ih => intro a; rw [List.foldl_cons, ih]; simp
  intro n
  rw [h]
  simp
theorem op_mul_strR : OpR X (binaryOp .Mult) (fun x y H Q => ∃ (l : List Nat) (n : Nat), x = .str (S l) ∧ y = .int (n : Int) ∧ 2 ≤ n ∧ n ≤ 1000 ∧ 1 ≤ l.length ∧ l.length ≤ 1000 ∧ Q (.str (S (List.replicate n l).flatten)) H) := by
  intro pins s σ H x y v u Q I rx ry h
  obtain ⟨l, n, rfl, rfl, h2, h3, h4, h5, q⟩ := h
  obtain ⟨t, rfl⟩ := rx
  obtain ⟨t', rfl⟩ := ry
  have hl : (S l).length = l.length := S_len l
  have e1 : ((n : Int) == 1 || (S l).length == 0) = false := by
    rw [hl]
    have a1 : ((n : Int) == 1) = false := by simp; omega
    have a2 : (l.length == 0) = false := by simp; intro z; rw [z] at h4; simp at h4
    rw [a1, a2]; rfl
  have hsz : l.length * n ≤ 1000000 := Nat.le_trans (Nat.mul_le_mul h5 h3) (by decide)
  refine PySem.P.mul_str ?_ (fun _ _ => ?_) (fun _ _ => ?_) ?_
  · have b1 : decide ((n : Int) < -(2 ^ 63 : Int)) = false := decide_eq_false (by omega)
    have b2 : decide ((n : Int) ≥ 2 ^ 63) = false := decide_eq_false (by omega)
    rw [b1, b2]; rfl
  · rw [hl]
    have hp : (l.length : Int) * (n : Int) ≤ 1000000 := by
      have := Int.ofNat_le.mpr hsz
      rw [Int.natCast_mul] at this
      exact this
    have := Int.le_ediv_of_mul_le (show (0 : Int) < (n : Int) by omega) (show (l.length : Int) * (n : Int) ≤ 2 ^ 63 - 1 from Int.le_trans hp (by decide))
    omega
  · rw [hl]
    exact decide_eq_false (by rw [sizeLine_eq, Int.toNat_natCast]; omega)
  · rw [if_neg (by omega), if_neg (by rw [e1]; simp)]
    have ef : (⟨(List.replicate (n : Int).toNat (S l).cps).foldl (· ++ ·) #[]⟩ : Str) = S (List.replicate n l).flatten := by
      have : ((List.replicate (n : Int).toNat (S l).cps).foldl (· ++ ·) (#[] : Array Nat)) = ((List.replicate n l).flatten).toArray := by
        apply Array.ext'
        rw [rep_fold]
        simp
      rw [this]
    rw [ef]
    refine ⟨?_, .str _, H, I.tok _, ⟨_, rfl⟩, q⟩
    rw [S_len, sizeLine_eq]
    simp
    rw [Nat.mul_comm]
    omega
end
/-! ### data that are told the same: _law_same -/
/-- the type of a list or a tuple that is read -/
def IsSeq (K : PySem.W.Frag) (H : Hp) (t : String) (a : Addr) (xs : List V) : Prop := (t = "tuple" ∧ SqT K H a xs ∧ TyX K H (.ref a) (.type "tuple")) ∨ (t = "list" ∧ SqL K H a xs ∧ TyX K H (.ref a) (.type "list"))
theorem IsSeq.tup {K : PySem.W.Frag} {H : Hp} {a : Addr} {xs : List V} (h : H a = some (.tup xs)) : IsSeq K H "tuple" a xs := .inl ⟨rfl, SqT.of h, .base (.tup h)⟩
theorem IsSeq.lst {K : PySem.W.Frag} {H : Hp} {a : Addr} {xs : List V} (h : H a = some (.lst xs)) : IsSeq K H "list" a xs := .inr ⟨rfl, SqL.of h, .base (.lst h)⟩
/-- a number, a text, a truth, None -/
def Leaf : V → Prop
  | .int _ => True
  | .str _ => True
  | .bl _ => True
  | .non => True
  | _ => False
def SameD (K : PySem.W.Frag) (H : Hp) : Nat → V → V → Prop
  | 0, x, y => Leaf x ∧ x = y
  | n + 1, x, y => (Leaf x ∧ x = y) ∨ ∃ (t : String) (a b : Addr) (xs ys : List V), x = .ref a ∧ y = .ref b ∧ IsSeq K H t a xs ∧ IsSeq K H t b ys ∧ xs.length = ys.length ∧ ys.length ≤ 1000000 ∧
      ∀ (i : Nat) (u v : V), xs[i]? = some u → ys[i]? = some v → SameD K H n u v
theorem SameD.leaf {K : PySem.W.Frag} {H : Hp} {n : Nat} {x : V} (h : Leaf x) : SameD K H n x x := by
  cases n with
  | zero => exact ⟨h, rfl⟩
  | succ n => exact .inl ⟨h, rfl⟩
theorem SameD.seq {K : PySem.W.Frag} {H : Hp} {n : Nat} {t : String} {a b : Addr} {xs ys : List V} (h1 : IsSeq K H t a xs) (h2 : IsSeq K H t b ys) (hl : xs.length = ys.length) (hz : ys.length ≤ 1000000)
    (h : ∀ (i : Nat) (u v : V), xs[i]? = some u → ys[i]? = some v → SameD K H n u v) : SameD K H (n + 1) (.ref a) (.ref b) := .inr ⟨t, a, b, xs, ys, rfl, rfl, h1, h2, hl, hz, h⟩
/-- rows of leaves -/
theorem SameD.row {K : PySem.W.Frag} {H : Hp} {n : Nat} {a b : Addr} {xs : List V} (h1 : H a = some (.tup xs)) (h2 : H b = some (.tup xs)) (hz : xs.length ≤ 1000000) (h : ∀ x ∈ xs, Leaf x) : SameD K H (n + 1) (.ref a) (.ref b) :=
  .seq (.tup h1) (.tup h2) rfl hz fun i u v hu hv => by
    rw [hu] at hv
    cases hv
    exact .leaf (h u (List.mem_of_getElem? hu))
def spSame (K : PySem.W.Frag) (n : Nat) : Sp := fun vs H Q _ => ∃ x y : V, vs = [x, y] ∧ SameD K H n x y ∧ Q (.bl true) H
end HL
namespace HL
open PySem PySem.Spec PyProof.Rows L2 SX
/-- isinstance of two built-in classes -/
theorem kit_two {K : PySem.W.Frag} {T a b : String} {x y : Bool} (h1 : kitB T a = some x) (h2 : kitB T b = some y) : PySem.W.kitAny K (.type T) [.type a, .type b] = some (x || y) := by
  have e1 := kit_ty (K := K) h1
  have e2 := kit_ty (K := K) h2
  simp only [PySem.W.kitAny, e1, e2]
  cases x <;> cases y <;> rfl
theorem tyx_same {K : PySem.W.Frag} {H H' : Hp} {x : V} {t : Value} (s : Same H H') (h : TyX K H x t) : TyX K H' x t := by
  cases h with
  | base b =>
    cases b with
    | non => exact .base .non
    | bl y => exact .base (.bl y)
    | int i => exact .base (.int i)
    | str y => exact .base (.str y)
    | flt y => exact .base (.flt y)
    | lst e => exact .base (.lst (s _ _ e))
    | frz e => exact .base (.frz (s _ _ e))
    | tup e => exact .base (.tup (s _ _ e))
    | dK e => exact .base (.dK (s _ _ e))
    | dT e => exact .base (.dT (s _ _ e))
    | ins e h1 h2 h3 h4 h5 => exact .base (.ins (s _ _ e) h1 h2 h3 h4 h5)
  | byt y => exact .byt y
  | set e => exact .set (s _ _ e)
  | kList e c => exact .kList e c
  | kTuple e c => exact .kTuple e c
  | kDict e c => exact .kDict e c
  | fTuple e => exact .fTuple (s _ _ e)
  | fDict e => exact .fDict (s _ _ e)
theorem seqT_same {K : PySem.W.Frag} {H H' : Hp} {a : Addr} {xs : List V} (e : Same H H') (h : SqT K H a xs) : SqT K H' a xs := by
  rcases h with (h | ⟨o, h⟩) | h
  · exact .inl (.inl (e _ _ h))
  · exact .inl (.inr ⟨o, e _ _ h⟩)
  · exact .inr h
theorem isSeq_same {K : PySem.W.Frag} {H H' : Hp} {t : String} {a : Addr} {xs : List V} (s : Same H H') (h : IsSeq K H t a xs) : IsSeq K H' t a xs := by
  rcases h with ⟨e, h1, h2⟩ | ⟨e, h1, h2⟩
  · exact .inl ⟨e, seqT_same s h1, tyx_same s h2⟩
  · exact .inr ⟨e, s.seq h1, tyx_same s h2⟩
theorem sameD_same {K : PySem.W.Frag} {H H' : Hp} (s : Same H H') : ∀ {n : Nat} {x y : V}, SameD K H n x y → SameD K H' n x y
  | 0, x, y, h => h
  | n + 1, x, y, h => by
    rcases h with h | ⟨t, a, b, xs, ys, e1, e2, h1, h2, el, hz, hh⟩
    · exact .inl h
    · exact .inr ⟨t, a, b, xs, ys, e1, e2, isSeq_same s h1, isSeq_same s h2, el, hz, fun i u v hu hv => sameD_same s (hh i u v hu hv)⟩
/-- told the same; the heap may grow -/
def spSameG (K : PySem.W.Frag) (n : Nat) : Sp := fun vs H Q _ => ∃ x y : V, vs = [x, y] ∧ SameD K H n x y ∧ ∀ H', Same H H' → Q (.bl true) H'
end HL
namespace HL
open PySem PySem.Spec PyProof.Rows L2 SX
/-- a list or a tuple, also a locked one -/
def Seqo : HO → Prop
  | .lst _ => True
  | .tup _ => True
  | .frz _ (.lst _) => True
  | .frz _ (.tup _) => True
  | _ => False
def SeqKept (H H' : Hp) : Prop := ∀ a o, H a = some o → Seqo o → H' a = some o
theorem _root_.L2.Same.seqKept {H H' : Hp} (s : Same H H') : SeqKept H H' := fun a o h _ => s a o h
theorem SeqKept.seqT {K : PySem.W.Frag} {H H' : Hp} {a : Addr} {xs : List V} (e : SeqKept H H') (h : SqT K H a xs) : SqT K H' a xs := by
  rcases h with (h | ⟨o, h⟩) | h
  · exact .inl (.inl (e _ _ h True.intro))
  · exact .inl (.inr ⟨o, e _ _ h True.intro⟩)
  · exact .inr h
theorem SeqKept.seq {K : PySem.W.Frag} {H H' : Hp} {a : Addr} {xs : List V} (e : SeqKept H H') (h : SqL K H a xs) : SqL K H' a xs := by
  rcases h with (h | ⟨o, h⟩) | h
  · exact .inl (.inl (e _ _ h True.intro))
  · exact .inl (.inr ⟨o, e _ _ h True.intro⟩)
  · exact .inr h
theorem tyx_tup {K : PySem.W.Frag} {H H' : Hp} {x : V} {t : Value} (s : SeqKept H H') (ht : t = .type "tuple" ∨ t = .type "list") (h : TyX K H x t) : TyX K H' x t := by
  cases h with
  | base b =>
    cases b with
    | non => exact .base .non
    | bl y => exact .base (.bl y)
    | int i => exact .base (.int i)
    | str y => exact .base (.str y)
    | flt y => exact .base (.flt y)
    | lst e => exact .base (.lst (s _ _ e True.intro))
    | frz e => exact .base (.frz (s _ _ e True.intro))
    | tup e => exact .base (.tup (s _ _ e True.intro))
    | dK e => rcases ht with z | z <;> exact absurd (Value.type.inj z) (by decide)
    | dT e => rcases ht with z | z <;> exact absurd (Value.type.inj z) (by decide)
    | ins e h1 h2 h3 h4 h5 => rcases ht with z | z <;> cases z
  | byt y => exact .byt y
  | set e => rcases ht with z | z <;> exact absurd (Value.type.inj z) (by decide)
  | kList e c => exact .kList e c
  | kTuple e c => exact .kTuple e c
  | kDict e c => exact .kDict e c
  | fTuple e => exact .fTuple (s _ _ e True.intro)
  | fDict e => rcases ht with z | z <;> exact absurd (Value.type.inj z) (by decide)
theorem isSeq_kept {K : PySem.W.Frag} {H H' : Hp} {t : String} {a : Addr} {xs : List V} (s : SeqKept H H') (h : IsSeq K H t a xs) : IsSeq K H' t a xs := by
  rcases h with ⟨e, h1, h2⟩ | ⟨e, h1, h2⟩
  · exact .inl ⟨e, s.seqT h1, tyx_tup s (.inl rfl) h2⟩
  · exact .inr ⟨e, s.seq h1, tyx_tup s (.inr rfl) h2⟩
theorem sameD_kept {K : PySem.W.Frag} {H H' : Hp} (s : SeqKept H H') : ∀ {n : Nat} {x y : V}, SameD K H n x y → SameD K H' n x y
  | 0, x, y, h => h
  | n + 1, x, y, h => by
    rcases h with h | ⟨t, a, b, xs, ys, e1, e2, h1, h2, el, hz, hh⟩
    · exact .inl h
    · exact .inr ⟨t, a, b, xs, ys, e1, e2, isSeq_kept s h1, isSeq_kept s h2, el, hz, fun i u v hu hv => sameD_kept s (hh i u v hu hv)⟩
/-- a dict locked, and the way back -/
theorem seqKept_lock {H : Hp} {d : Addr} {kvs : List (Key × V)} {o : HO} (h : H d = some (.dK kvs)) : SeqKept H (upd H d o) := fun a x hx hs => by
  have ne : a ≠ d := fun e => by
    rw [e, h] at hx
    cases hx
    exact hs
  rw [upd_ne ne]
  exact hx
theorem unlock {H H' : Hp} {d : Addr} {u o : HO} (h : H d = some u) (s : Same (upd H d o) H') : Same H (upd H' d u) := fun a x hx => by
  by_cases e : a = d
  · subst e
    rw [upd_same, ← h, hx]
  · rw [upd_ne e]
    exact s a x (by rw [upd_ne e]; exact hx)
end HL
namespace HL
open PySem PySem.Spec PyProof.Rows L2 SX
/-! ### methods, classes -/
/-- a method of the class at C -/
structure DefM (K : PySem.W.Frag) (C : Addr) (x q : Str) (st : Stmt) (ps : List Str) (f : Addr) (fd : FuncData) : Prop where
  F : Fun K x q st f fd
  b : Binds K fd ps []
  m : Meth K C x f
/-- its __init__ -/
structure DefI (K : PySem.W.Frag) (q : Str) (st : Stmt) (ps : List Str) (f : Addr) (fd : FuncData) : Prop where
  F : Fun K "__init__" q st f fd
  b : Binds K fd ps []
structure ClsN (K : PySem.W.Frag) (mg : Str → Option Value) (x : Str) (C fI : Addr) : Prop where
  g : mg x = some (.ref C)
  cl : Cls K C
  make : Mk K C fI
/-- an own exception without an __init__, under ValueError -/
structure ExcN (K : PySem.W.Frag) (mg : Str → Option Value) (x : Str) (C : Addr) : Prop where
  g : mg x = some (.ref C)
  ex : PySem.W.excIn K C [.type "ValueError", .type "Exception", .type "BaseException", .type "object"] "ValueError.__new__" = true
  kp : PySem.W.keepIn K (.ref C) = true
  sub : PySem.W.subIn K (.ref C) (.type "BaseException") = some true
  ty : PySem.W.typeIn K (.ref C) = some (.type "type")
  te : PySem.W.exmOne K (.ref C) (.ref C) = some true
/-- its class is caught by its name -/
theorem exm_of {K : PySem.W.Frag} {S : Addr} (h1 : PySem.W.subIn K (.ref S) (.type "BaseException") = some true) (h2 : PySem.W.isClsIn K S = true) (h3 : PySem.W.typeIn K (.ref S) = some (.type "type")) (h4 : PySem.W.subIn K (.ref S) (.ref S) = some true) :
    PySem.W.exmOne K (.ref S) (.ref S) = some true := by
  have e1 : (PySem.W.subIn K (.ref S) (.type "BaseException") == some true) = true := by rw [h1] <;> rfl
  have e2 : ((PySem.W.clsIn K S).isSome && PySem.W.typeIn K (.ref S) == some (.type "type")) = true := by
    have h2' : (PySem.W.clsIn K S).isSome = true := h2
    rw [h2', h3] <;> rfl
  show (if (PySem.W.subIn K (.ref S) (.type "BaseException") == some true) = true then (if ((PySem.W.clsIn K S).isSome && PySem.W.typeIn K (.ref S) == some (.type "type")) = true then PySem.W.subIn K (.ref S) (.ref S) else none) else none) = some true
  rw [if_pos e1, if_pos e2]
  exact h4
/-! ### fields -/
theorem putF_nil (f : Str) (v : V) : putF f v [] = [(f, v)] := rfl
theorem putF_eq (f : Str) (v x : V) (r : List (Str × V)) : putF f v ((f, x) :: r) = (f, v) :: r := if_pos rfl
theorem putF_ne {f g : Str} (h : ¬ g = f) (v x : V) (r : List (Str × V)) : putF f v ((g, x) :: r) = (g, x) :: putF f v r := if_neg h
theorem lkF_eq (f : Str) (v : V) (r : List (Str × V)) : List.lookup f ((f, v) :: r) = some v := by
  have h : (f == f) = true := beq_iff_eq.mpr rfl
  simp only [List.lookup, h]
theorem lkF_ne {f g : Str} (h : ¬ g = f) (v : V) (r : List (Str × V)) : List.lookup g ((f, v) :: r) = List.lookup g r := by
  have h' : (g == f) = false := beq_eq_false_iff_ne.mpr h
  simp only [List.lookup, h']
/-! ### two lists, item by item -/
inductive All2 {α β : Type _} (R : α → β → Prop) : List α → List β → Prop
  | nil : All2 R [] []
  | cons {x : α} {y : β} {xs : List α} {ys : List β} : R x y → All2 R xs ys → All2 R (x :: xs) (y :: ys)
namespace All2
variable {α β γ : Type _} {R S : α → β → Prop}
theorem len {xs : List α} {ys : List β} (h : All2 R xs ys) : xs.length = ys.length := by
  induction h with
  | nil => rfl
  | cons _ _ ih => simp [ih]
theorem mono {xs : List α} {ys : List β} (h : All2 R xs ys) (f : ∀ x y, R x y → S x y) : All2 S xs ys := by
  induction h with
  | nil => exact .nil
  | cons a _ ih => exact .cons (f _ _ a) ih
theorem app {xs xs' : List α} {ys ys' : List β} (h : All2 R xs ys) (h' : All2 R xs' ys') : All2 R (xs ++ xs') (ys ++ ys') := by
  induction h with
  | nil => exact h'
  | cons a _ ih => exact .cons a ih
theorem one {x : α} {y : β} (h : R x y) : All2 R [x] [y] := .cons h .nil
theorem snoc {xs : List α} {ys : List β} {x : α} {y : β} (h : All2 R xs ys) (a : R x y) : All2 R (xs ++ [x]) (ys ++ [y]) := h.app (one a)
theorem take {xs : List α} {ys : List β} (h : All2 R xs ys) (n : Nat) : All2 R (xs.take n) (ys.take n) := by
  induction h generalizing n with
  | nil => simp; exact .nil
  | cons a _ ih =>
    cases n with
    | zero => exact .nil
    | succ n => exact .cons a (ih n)
theorem drop {xs : List α} {ys : List β} (h : All2 R xs ys) (n : Nat) : All2 R (xs.drop n) (ys.drop n) := by
  induction h generalizing n with
  | nil => simp; exact .nil
  | cons a hb ih =>
    cases n with
    | zero => exact .cons a hb
    | succ n => exact ih n
theorem get {xs : List α} {ys : List β} (h : All2 R xs ys) {i : Nat} {x : α} (e : xs[i]? = some x) : ∃ y, ys[i]? = some y ∧ R x y := by
  induction h generalizing i with
  | nil => simp at e
  | cons a _ ih =>
    cases i with
    | zero =>
      simp at e
      subst e
      exact ⟨_, rfl, a⟩
    | succ i => exact ih (by simpa using e)
theorem getR {xs : List α} {ys : List β} (h : All2 R xs ys) {i : Nat} {y : β} (e : ys[i]? = some y) : ∃ x, xs[i]? = some x ∧ R x y := by
  induction h generalizing i with
  | nil => simp at e
  | cons a _ ih =>
    cases i with
    | zero =>
      simp at e
      subst e
      exact ⟨_, rfl, a⟩
    | succ i => exact ih (by simpa using e)
theorem of_at {xs : List α} {ys : List β} (hl : xs.length = ys.length) (h : ∀ (i : Nat) (x : α) (y : β), xs[i]? = some x → ys[i]? = some y → R x y) : All2 R xs ys := by
  induction xs generalizing ys with
  | nil =>
    cases ys with
    | nil => exact .nil
    | cons _ _ => simp at hl
  | cons x xs ih =>
    cases ys with
    | nil => simp at hl
    | cons y ys => exact .cons (h 0 x y rfl rfl) (ih (by simpa using hl) fun i a b ha hb => h (i + 1) a b (by simpa using ha) (by simpa using hb))
end All2
/-- a row: at v stands a tuple of what f tells -/
def IsRow {α : Type _} (f : α → List V) (H : Hp) (v : V) (x : α) : Prop := ∃ t, v = .ref t ∧ H t = some (.tup (f x))
theorem IsRow.same {α : Type _} {f : α → List V} {H H' : Hp} {v : V} {x : α} (h : IsRow f H v x) (s : ∀ t o, H t = some (.tup o) → H' t = some (.tup o)) : IsRow f H' v x := by
  obtain ⟨t, e, ht⟩ := h
  exact ⟨t, e, s _ _ ht⟩
/-- slices with an end -/
theorem cut_to (xs : List V) (n : Nat) : cutV xs none (some (n : Int)) = xs.take n := by
  unfold cutV
  rw [HT.sIx_none, HT.sIx_nat, Nat.sub_zero, List.drop_zero]
  by_cases h : n ≤ xs.length
  · rw [Nat.min_eq_left h]
  · have h' : xs.length ≤ n := by omega
    rw [Nat.min_eq_right h', List.take_of_length_le (Nat.le_refl _), List.take_of_length_le h']
theorem cut_from (xs : List V) (n : Nat) : cutV xs (some (n : Int)) none = xs.drop n := by
  unfold cutV
  rw [HT.sIx_none, HT.sIx_nat]
  by_cases h : n ≤ xs.length
  · rw [Nat.min_eq_left h, List.take_of_length_le]
    rw [List.length_drop]
    exact Nat.le_refl _
  · have h' : xs.length ≤ n := by omega
    rw [Nat.min_eq_right h', Nat.sub_self, List.take_zero, List.drop_of_length_le h']
theorem cut_mid (xs : List V) (a b : Nat) : cutV xs (some (a : Int)) (some (b : Int)) = (xs.drop a).take (b - a) := by
  unfold cutV
  rw [HT.sIx_nat, HT.sIx_nat]
  by_cases ha : a ≤ xs.length
  · rw [Nat.min_eq_left ha]
    by_cases hb : b ≤ xs.length
    · rw [Nat.min_eq_left hb]
    · have hb' : xs.length ≤ b := by omega
      rw [Nat.min_eq_right hb', List.take_of_length_le (by rw [List.length_drop]; omega), List.take_of_length_le (by rw [List.length_drop]; omega)]
  · have ha' : xs.length ≤ a := by omega
    rw [Nat.min_eq_right ha', List.drop_of_length_le (Nat.le_refl _), List.drop_of_length_le ha']
    simp
/-- a natural number -/
def vi (n : Nat) : V := .int (n : Int)
theorem vi_inj {a b : Nat} (h : vi a = vi b) : a = b := by
  have := V.int.inj h
  omega
theorem map_vi (l : List Nat) : l.map vi = (l.map fun n : Nat => (n : Int)).map V.int := by
  rw [List.map_map]
  rfl
theorem get_vi {l : List Nat} {i : Nat} {x : V} (h : (l.map vi)[i]? = some x) : ∃ n, l[i]? = some n ∧ x = vi n := by
  rw [List.getElem?_map] at h
  cases e : l[i]? with
  | none => rw [e] at h; cases h
  | some n => rw [e] at h; exact ⟨n, rfl, (Option.some.inj h).symm⟩
theorem take_snoc {α : Type _} {l : List α} {i : Nat} {x : α} (h : l[i]? = some x) : l.take (i + 1) = l.take i ++ [x] := by
  rw [List.take_add_one, h]
  rfl
theorem same_list {K : PySem.W.Frag} {H : Hp} {n : Nat} {a b : Addr} {xs : List Nat} (h1 : H a = some (.lst (xs.map vi))) (h2 : H b = some (.lst (xs.map vi))) (hl : xs.length ≤ 1000000) : SameD K H (n + 1) (.ref a) (.ref b) :=
  .seq (.lst h1) (.lst h2) rfl (by rw [List.length_map]; omega) fun i u v hu hv => by
    rw [hu] at hv
    cases hv
    obtain ⟨k, _, rfl⟩ := get_vi hu
    exact .leaf True.intro
theorem Same.none {H H' : Hp} (s : Same H H') {b : Addr} (h : H' b = none) : H b = none := by
  cases e : H b with
  | none => rfl
  | some o => rw [s _ _ e] at h; cases h
theorem Same.tr {H H1 H2 : Hp} (a : Same H H1) (b : Same H1 H2) : Same H H2 := fun c o h => b c o (a c o h)
/-- lists of natural numbers as data -/
def di (n : Nat) : PyData := .int (n : Int)
theorem dp_vis {K : PySem.W.Frag} {H : Hp} : ∀ xs : List Nat, DpAll K H (xs.map vi) (xs.map di)
  | [] => .nil
  | n :: xs => .cons (.int (n : Int)) (dp_vis xs)
theorem dis_can : ∀ xs : List Nat, PyData.canLayAll0 (xs.map di) = true
  | [] => rfl
  | n :: xs => by
    show (true && PyData.canLayAll0 (xs.map di)) = true
    rw [dis_can xs]
    rfl
theorem dis_depth : ∀ xs : List Nat, PyData.depthAll (xs.map di) ≤ 1
  | [] => Nat.zero_le _
  | n :: xs => by
    have := dis_depth xs
    simp only [List.map_cons, PyData.depthAll, di, PyData.depth] at this ⊢
    omega
theorem shaped_ints (xs : List Nat) : SeqAt.shaped (.list (xs.map di)) = true := by
  have h1 := dis_can xs
  have h2 := dis_depth xs
  simp only [SeqAt.shaped, PyData.canLay0, PyData.depth, Bool.and_eq_true, decide_eq_true_eq]
  exact ⟨h1, decide_eq_true (by omega)⟩
theorem eqv_ints (xs ys : List Nat) : PyData.eqv (.list (xs.map di)) (.list (ys.map di)) = decide (xs = ys) := by
  have h : ∀ xs ys : List Nat, PyData.eqvAll (xs.map di) (ys.map di) = decide (xs = ys) := by
    intro xs
    induction xs with
    | nil =>
      intro ys
      cases ys with
      | nil => rfl
      | cons y ys => simp [PyData.eqvAll]
    | cons x xs ih =>
      intro ys
      cases ys with
      | nil => simp [PyData.eqvAll]
      | cons y ys =>
        show (PyData.eqv (di x) (di y) && PyData.eqvAll (xs.map di) (ys.map di)) = _
        rw [ih ys]
        by_cases e : x = y
        · subst e
          simp [PyData.eqv, di]
        · have h' : ¬ (x : Int) = (y : Int) := by omega
          simp [PyData.eqv, di, e, h']
  show PyData.eqvAll (xs.map di) (ys.map di) = _
  exact h xs ys
theorem dp_list {K : PySem.W.Frag} {H : Hp} {a : Addr} {xs : List Nat} (h : H a = some (.lst (xs.map vi))) : Dp K H (.ref a) (.list (xs.map di)) := .lst (SqL.of h) (dp_vis xs)
end HL
namespace HX
open PySem PySem.Spec PyProof.Rows L2 SX HL
section
variable {Y : Cx} {cx : CXT} {n : Nat} {g cl : Addr} {gd : FuncData} {qs : List Str} {pr : Sp} {Ex : L2.St → XK} {nm : Str} {p0 q0 r0 : Pos} {a0 o0 : Expr} {as : List Expr} {to_ : TE} {ar : TA}
/-- a method called where what it lets out is wanted by the slots -/
def tMethS (cl : Addr) (nm : Str) (pr : Sp) (Ex : L2.St → XK) (to_ : TE) (ar : TA) : TE := fun σ H Q => to_ σ H fun x H1 => ∃ a dx fs, x = .ref a ∧ H1 a = some (.ins cl dx fs) ∧ fs.lookup nm = none ∧
  ar σ H1 fun vs H2 => pr (x :: vs) H2 Q (Ex σ)
theorem pe_methS1 {pl : Sem Bool} (ho : PE Y o0 to_) (cc : Cls Y.K cl) (mm : Meth Y.K cl nm g) (G : FnOk Y.prog Y.w Y.K Y.mg Y.base cx n g gd qs pr) (room : Room n Y.A) (bb : Binds Y.K gd qs []) (hx : ∀ σ, PassesAt cx Y σ (Ex σ)) (ha : PA Y (a0 :: as) ar)
    (hst : starEach (a0 :: as) Y.env = (false, eval a0 Y.env) :: starEach as Y.env := by rfl) (hpl : (backTo p0 (starEach as Y.env)).any (·.1) = false := by rfl)
    (ht : eval (.Call (.Attribute o0 nm r0) (a0 :: as) [] p0) Y.env = (do
      let ob ← eval o0 Y.env
      standAt r0.atName
      let (fn, fst) ← holding [ob] (getMethod ob nm pl)
      callWith p0 fn fst (backTo p0 (starEach (a0 :: as) Y.env)) (backToKw p0 (keywordEach [] Y.env))) := by rfl) :
    PE Y (.Call (.Attribute o0 nm r0) (a0 :: as) [] p0) (tMethS cl nm pr Ex to_ ar) := by
  refine ⟨fun pins s σ H Q I0 h0 => PySem.W.methodCall_KW (pl := pl) (thn (ho.run pins s σ H _ I0 h0) fun u s1 ⟨x, H1, I1, rx, a, dx, fs, ex, ea, l, q⟩ => ?_) ht⟩
  subst ex
  obtain rfl : u = Value.ref a := rx
  refine getmeth_ok I1 ea cc mm l (PySem.W.callWith_K (first := [.ref a]) (h₀ := Y.base) I1.ok.mod.kin mm.kp (thn (ha.run p0 pins s1 σ H1 _ I1 q) fun us s2 ⟨vs, H2, I2, r, q2⟩ => ⟨I2.kIn, ?_⟩) hst hpl)
  exact run_fnS (us := .ref a :: us) (vs := .ref a :: vs) G room bb (hx σ) I2 (.cons rfl r) q2
theorem pe_methS0 {pl : Sem Bool} (ho : PE Y o0 to_) (cc : Cls Y.K cl) (mm : Meth Y.K cl nm g) (G : FnOk Y.prog Y.w Y.K Y.mg Y.base cx n g gd qs pr) (room : Room n Y.A) (bb : Binds Y.K gd qs []) (hx : ∀ σ, PassesAt cx Y σ (Ex σ))
    (ht : eval (.Call (.Attribute o0 nm r0) [] [] p0) Y.env = (do
      let ob ← eval o0 Y.env
      standAt r0.atName
      let (fn, fst) ← holding [ob] (getMethod ob nm pl)
      callWith p0 fn fst (backTo p0 (starEach [] Y.env)) (backToKw p0 (keywordEach [] Y.env))) := by rfl) :
    PE Y (.Call (.Attribute o0 nm r0) [] [] p0) (tMethS cl nm pr Ex to_ tNil) := by
  refine ⟨fun pins s σ H Q I0 h0 => PySem.W.methodCall_KW (pl := pl) (thn (ho.run pins s σ H _ I0 h0) fun u s1 ⟨x, H1, I1, rx, a, dx, fs, ex, ea, l, q⟩ => ?_) ht⟩
  subst ex
  obtain rfl : u = Value.ref a := rx
  exact getmeth_ok I1 ea cc mm l (PySem.W.callWith_K0 (first := [.ref a]) I1.kIn mm.kp (run_fnS (us := [.ref a]) (vs := [.ref a]) G room bb (hx σ) I1 (.cons rfl .nil) q))
theorem pe_callS0 (G : FnOk Y.prog Y.w Y.K Y.mg Y.base cx n g gd qs pr) (room : Room n Y.A) (hg : Gl Y nm) (hm : Y.mg nm = some (.ref g)) (hk : PySem.W.keepIn Y.K (.ref g) = true) (bb : Binds Y.K gd qs []) (hx : ∀ σ, PassesAt cx Y σ (Ex σ))
    (hdb : (nm == ("__debug__" : Str)) = false := by decide) : PE Y (.Call (.Name nm q0) [] [] p0) (tCallS pr Ex tNil) := by
  refine ⟨fun pins s σ H Q I0 h0 => wpAny_Call_Name_kw (ld_glob I0 hg hm ?_ hdb)⟩
  exact PySem.W.callWith_K0 I0.kIn hk (run_fnS (us := []) G room bb (hx σ) I0 .nil h0)
end
end HX
namespace HX
open PySem PySem.Spec PyProof.Rows L2 SX HL
theorem bd_full {K : PySem.W.Frag} {fd : FuncData} {ps : List Str} (h : ∃ ds, Vals [] ds ∧ Binds K fd ps ds) : Binds K fd ps [] := by
  obtain ⟨ds, v, b⟩ := h
  cases v
  exact b
/-- a method whose last parameters have defaults -/
structure DefMD (K : PySem.W.Frag) (C : Addr) (x q : Str) (st : Stmt) (ps : List Str) (dvs : List V) (f : Addr) (fd : FuncData) : Prop where
  F : FunD K x q (defArgs st) (defBody st) (defScope st) dvs [] f fd
  m : Meth K C x f
  bd : ∃ ds, Vals dvs ds ∧ Binds K fd ps ds
  b : Binds K fd ps []
end HX
namespace HX
open PySem PySem.Spec PyProof.Rows L2 SX HL
/-! ### rules within comprehensions: K is told -/
section
variable {X : Cx} {K : PySem.W.Frag}
theorem call_len_seqK (h : X.K = K) : CallR X (.builtin "len") (fun xs H Q => ∃ p ys, xs = [.ref p] ∧ (SqL K H p ys ∨ SqT K H p ys) ∧ Q (.int ys.length) H) := by
  subst h
  exact call_len_seq
theorem op_eqDK (h : X.K = K) (hu : X.A.units + 64 < cLine) : OpR X (compareOp .Eq) (rEqD K) := by
  subst h
  exact op_eqD hu
theorem op_neDK (h : X.K = K) (hu : X.A.units + 64 < cLine) : OpR X (compareOp .NotEq) (rNeD K) := by
  subst h
  exact op_neD hu
theorem sl_listK (h : X.K = K) : SlR X (rSlL K) := by
  subst h
  exact sl_list
theorem ix_seqK (h : X.K = K) : IxR X (rIx K) := by
  subst h
  exact ix_seq
theorem op_inDK (h : X.K = K) (hu : X.A.units + 65 < cLine) : OpR X (compareOp .In) (rInD K) := by
  subst h
  exact op_inD hu
theorem op_notInDK (h : X.K = K) (hu : X.A.units + 65 < cLine) : OpR X (compareOp .NotIn) (rNotInD K) := by
  subst h
  exact op_notInD hu
theorem call_list_ofK (h : X.K = K) : CallR X (.type "list") (fun xs H Q => ∃ p ys, xs = [.ref p] ∧ (SqL K H p ys ∨ SqT K H p ys) ∧ ∀ l, H l = none → Q (.ref l) (upd H l (.lst ys))) := by
  subst h
  exact call_list_of
theorem call_isBK (h : X.K = K) : CallR X (.builtin "isinstance") (rIsB K) := by
  subst h
  exact call_isB
end
end HX
namespace HE
open PySem PySem.Spec PyProof.Rows L2 SX HL
/-! ## enumerate of a text, of a dict's keys -/
section
variable {prog : Program} {w : World} {A : Around} {E : Value → Shared → Prop} {s : Shared}
theorem keys_item {it d : Addr} {i n ep : Nat} {od : Obj} {es : Array DictEntry} {en : DictEntry} {Q : Value → Shared → Prop} (hit : s.heap.IsKeyIter it d i n ep) (hod : s.heap.get? d = some od) (hdd : od.data = .dict es ep) (hn : es.size = n) (hx : es[i]? = some en)
    (q : ∀ h', h'.IsKeyIter it d (i + 1) n ep → Heap.SameBut it s.heap h' → Q en.key { s with heap := h' }) : wpAny (model prog w) A (Builtin.SmallTypes.nextOf (.ref it)) Q E s := by
  obtain ⟨o, ho, oc, hd⟩ := id hit
  unfold Builtin.SmallTypes.nextOf
  refine wpAny_bind (wpAny_callSpecial?_slot (name := Str.ofString "__next__") hit.typeIs F.slot_dict_keyiterator_next (wpAny_call_entry F.slot_dict_keyiterator_next hit.typeIs F.entry_dict_keyiterator_next ?_ (F.args_dict_keyiterator_next_1 _)))
  refine wpAny_bind (wpAny_pure (wpAny_bind (wpAny_bind ?_)))
  first | refine wpAny_bind (wpAny_typeNameOfWhole_keyiter hit.typeIs (wpAny_pure (wpAny_bind (wpAny_fieldsOf ho hd ?_)))) | refine wpAny_bind (wpAny_typeNameOf_keyiter hit.typeIs (wpAny_pure (wpAny_bind (wpAny_fieldsOf ho hd ?_))))
  have own : Builtin.Dict_items.ownsTuple "dict_keyiterator" = false := by decide
  simp only [own, Bool.false_eq_true, if_false]
  show wpAny _ A.in1 (if (Value.ref d == Value.none) = true then _ else _) _ _ s
  rw [if_neg (show ¬ (Value.ref d == Value.none) = true from Bool.false_ne_true)]; refine wpAny_bind (wpAny_pure (wpAny_bind (wpAny_dictEntries hod hdd ?_)))
  rw [if_neg (by rw [hn]; simp)]; refine wpAny_bind (wpAny_pure (wpAny_bind (wpAny_dictEpoch hod hdd ?_)))
  rw [if_neg (by simp)]; refine wpAny_pure ?_
  obtain ⟨lt, he⟩ := Array.getElem?_eq_some_iff.mp hx
  simp only [show ¬ ((i : Int) < 0) from by omega, if_false, Int.toNat_natCast, Array.getElem?_eq_getElem lt]; refine wpAny_bind ?_
  first | refine wpAny_bind (wpAny_typeNameOfWhole_keyiter hit.typeIs (wpAny_pure (wpAny_bind (wpAny_isOneOf_keyiter hit.typeIs ?_)))) | refine wpAny_bind (wpAny_typeNameOf_keyiter hit.typeIs (wpAny_pure (wpAny_bind (wpAny_isOneOf_keyiter hit.typeIs ?_))))
  show wpAny _ _ (setField (.ref it) 1 (rawInt ((i : Int) + 1)) >>= _) _ _ s
  refine wpAny_bind (wpAny_setField ho hd (by simp) ?_)
  have it2 : (s.heap.update it (Obj.mapFields (·.setIfInBounds 1 (rawInt ((i : Int) + 1))))).IsKeyIter it d (i + 1) n ep := ⟨_, Heap.get?_update_self _ ho (Obj.isFreed_of_fields (Obj.data_mapFields hd _)), (Obj.cls_mapFields ..).trans oc, by rw [Obj.data_mapFields hd]; simp [rawInt]⟩
  refine wpAny_bind (wpAny_holding (wpAny_bind (wpAny_isOneOf_keyiter (s := { s with heap := s.heap.update it (Obj.mapFields (·.setIfInBounds 1 (rawInt ((i : Int) + 1)))) }) it2.typeIs ?_)))
  show wpAny _ A.in1 (pure es[i].key) _ _ _
  rw [he]; exact wpAny_pure (wpAny_pure ⟨_, rfl, wpAny_pure (q _ it2 (Heap.SameBut.update ..))⟩)
theorem keys_end {it d : Addr} {i n ep : Nat} {od : Obj} {es : Array DictEntry} {Q : Value → Shared → Prop} (hh : A.handled = none) (hit : s.heap.IsKeyIter it d i n ep) (hod : s.heap.get? d = some od) (hdd : od.data = .dict es ep) (hn : es.size = n) (hge : n ≤ i)
    (q : ∀ h' x, Heap.ExtBut it s.heap h' → (∃ o, h'.get? x = some o ∧ o.cls = .type "StopIteration") → E (.ref x) { s with heap := h' }) : wpAny (model prog w) A (Builtin.SmallTypes.nextOf (.ref it)) Q E s := by
  obtain ⟨o, ho, oc, hd⟩ := id hit
  unfold Builtin.SmallTypes.nextOf
  refine wpAny_bind (wpAny_callSpecial?_slot (name := Str.ofString "__next__") hit.typeIs F.slot_dict_keyiterator_next (wpAny_call_entry F.slot_dict_keyiterator_next hit.typeIs F.entry_dict_keyiterator_next ?_ (F.args_dict_keyiterator_next_1 _)))
  refine wpAny_bind (wpAny_pure (wpAny_bind (wpAny_bind ?_)))
  first | refine wpAny_bind (wpAny_typeNameOfWhole_keyiter hit.typeIs (wpAny_pure (wpAny_bind (wpAny_fieldsOf ho hd ?_)))) | refine wpAny_bind (wpAny_typeNameOf_keyiter hit.typeIs (wpAny_pure (wpAny_bind (wpAny_fieldsOf ho hd ?_))))
  have own : Builtin.Dict_items.ownsTuple "dict_keyiterator" = false := by decide
  simp only [own, Bool.false_eq_true, if_false]
  show wpAny _ A.in1 (if (Value.ref d == Value.none) = true then _ else _) _ _ s
  rw [if_neg (show ¬ (Value.ref d == Value.none) = true from Bool.false_ne_true)]; refine wpAny_bind (wpAny_pure (wpAny_bind (wpAny_dictEntries hod hdd ?_)))
  rw [if_neg (by rw [hn]; simp)]; refine wpAny_bind (wpAny_pure (wpAny_bind (wpAny_dictEpoch hod hdd ?_)))
  rw [if_neg (by simp)]; refine wpAny_pure ?_
  have ge : es.size ≤ i := by rw [hn]; exact hge
  simp only [show ¬ ((i : Int) < 0) from by omega, if_false, Int.toNat_natCast, Array.getElem?_eq_none ge]; refine wpAny_bind ?_
  first | refine wpAny_bind (wpAny_typeNameOfWhole_keyiter hit.typeIs (wpAny_pure ?_)) | refine wpAny_bind (wpAny_typeNameOf_keyiter hit.typeIs (wpAny_pure ?_))
  show wpAny _ A.in1 (setField (.ref it) 0 .none >>= _) _ _ s
  refine wpAny_bind (wpAny_setField ho hd (by simp) ?_)
  show wpAny _ A.in1 (newExc (.type "StopIteration") [] >>= _) _ _ _
  refine wpAny_bind ?_
  simp only [newExc, newTuple]; refine wpAny_bind (wpAny_newObj_type ?_ (by size_fits))
  refine wpAny_bind (m := firstArgMember _ _) (wpAny_of_eq (a := Value.none) (by first | rfl | (simp only [firstArgMember]; rfl)) (wpAny_newObj_type ?_ (by size_fits)))
  simp only [raiseNew]; refine wpAny_bind (wpAny_handled ?_)
  first | rw [show A.in1.handled = none from hh] | rw [hh]
  refine wpAny_bind (wpAny_pure (wpAny_throw ?_))
  exact q _ _ (((Heap.SameBut.update ..).extBut.push _).push _) ⟨_, Heap.get?_push_size _ rfl, rfl⟩
theorem draws_keys (hh : A.handled = none) (it d : Addr) (hne : d ≠ it) {od : Obj} {es : Array DictEntry} {ep : Nat} (hdd : od.data = .dict es ep) :
    Draws prog w A it [it, d] es.size (fun i v => ∃ en, es[i]? = some en ∧ v = en.key) (fun i h => h.IsKeyIter it d i es.size ep ∧ h.get? d = some od) where
  live := fun _ _ st => let ⟨o, ho, _⟩ := st.1; ⟨o, ho⟩
  frame := fun _ _ _ st k => ⟨st.1.at fun o e => k it (by simp) o e, k d (by simp) _ st.2⟩
  item := fun i s Q E hi st q => by
    refine keys_item st.1 st.2 hdd rfl (en := es[i]) (Array.getElem?_eq_getElem hi) fun h' it' sb => ?_
    exact q _ h' s.toks ⟨_, Array.getElem?_eq_getElem hi, rfl⟩ ⟨it', (sb.2 d hne).trans st.2⟩ sb
  done := fun s Q E st q => keys_end hh st.1 st.2 hdd rfl (Nat.le_refl _) q
end
open AutoSeq1 (wpAny_loadPart')
theorem meets_keys (d : Addr) (o : Obj) (es : Array DictEntry) (ep : Nat) (hd : (d == sysModules) = false) (hc : o.ExactDict) (hdat : o.data = .dict es ep) :
    Meets (Builtin.«enumerate.__new__» ⟨[.type "enumerate", .ref d], []⟩) (fun _ R s => s.heap.get? d = some o ∧
      R (.ok (.ret (.ref (s.heap.push { cls := .type "dict_keyiterator", data := .fields #[.ref d, .int 0 0, .int es.size 0, .int ep 0] }).objs.size)))
        { s with heap := (s.heap.push { cls := .type "dict_keyiterator", data := .fields #[.ref d, .int 0 0, .int es.size 0, .int ep 0] }).push { cls := .type "enumerate", data := .fields #[.none, .bool false, .ref s.heap.objs.size, rawInt 0, .none, .none] } }) :=
  .of_wp fun prog w A R s h => by
    obtain ⟨hp, g, dr, tk, os⟩ := s
    obtain ⟨ho, h⟩ := h
    have hsub := sub_enumerate
    have ik : ∀ {A : Around} {E : Value → Shared → Prop} {Q : Value → Shared → Prop}, Q (.ref hp.objs.size) ⟨hp.push { cls := .type "dict_keyiterator", data := .fields #[.ref d, .int 0 0, .int es.size 0, .int ep 0] }, g, dr, tk, os⟩ → wpAny (model prog w) A (pyIter (.ref d)) Q E ⟨hp, g, dr, tk, os⟩ := fun q => iter_keys (s := ⟨hp, g, dr, tk, os⟩) hd ho hc hdat q
    wp_walk using wpAny_loadPart' ho
    refine wpAny_stack_any fun st => wpAny_pure ?_
    split
    · rename_i c _ _ _ _ _
      cases (c == Value.type "enumerate") <;> (wp_walk using wpAny_loadPart' ho, ik; exact ⟨_, rfl, h⟩)
    · wp_walk using wpAny_loadPart' ho, ik
      exact ⟨_, rfl, h⟩
theorem call_enum_keys {prog : Program} {w : World} {A : Around} {E : Value → Shared → Prop} {s : Shared} {d : Addr} {o : Obj} {es : Array DictEntry} {ep : Nat} {Q : Value → Shared → Prop} (hd : (d == sysModules) = false) (ho : s.heap.get? d = some o) (hc : o.ExactDict) (hdat : o.data = .dict es ep)
    (q : ∀ h', IsEnum h' (s.heap.objs.size + 1) s.heap.objs.size 0 .none → h'.IsKeyIter s.heap.objs.size d 0 es.size ep → (∀ b x, s.heap.get? b = some x → h'.get? b = some x) → Q (.ref (s.heap.objs.size + 1)) { s with heap := h' }) :
    wpAny (model prog w) A (call (.type "enumerate") [.ref d]) Q E s := by
  refine callType_new F.called_enumerate (by decide) (F.typeCall_enumerate_1 _) (F.newCall_enumerate_1 _) (fun obj => F.args_object_init_2 obj _) F.entry_enumerate_new (meets_keys d o es ep hd hc hdat) ⟨ho, ?_⟩
  have hz : (s.heap.push { cls := .type "dict_keyiterator", data := .fields #[.ref d, .int 0 0, .int es.size 0, .int ep 0] }).objs.size = s.heap.objs.size + 1 := Heap.size_push ..
  show _ ∧ _
  rw [hz]
  have he : IsEnum ((s.heap.push { cls := .type "dict_keyiterator", data := .fields #[.ref d, .int 0 0, .int es.size 0, .int ep 0] }).push { cls := .type "enumerate", data := .fields #[.none, .bool false, .ref s.heap.objs.size, rawInt 0, .none, .none] }) (s.heap.objs.size + 1) s.heap.objs.size 0 .none := by
    have := Heap.get?_push_size (s.heap.push { cls := .type "dict_keyiterator", data := .fields #[.ref d, .int 0 0, .int es.size 0, .int ep 0] }) (o := { cls := .type "enumerate", data := .fields #[.none, .bool false, .ref s.heap.objs.size, rawInt 0, .none, .none] }) rfl
    rwa [hz] at this
  exact ⟨⟨_, he, rfl⟩, q _ he ⟨_, Heap.get?_push_of_some _ (Heap.get?_push_size _ rfl), rfl, rfl⟩ fun b x e => Heap.get?_push_of_some _ (Heap.get?_push_of_some _ e)⟩
/-- (0, key), (1, key), ..: the locked dict at d -/
def Itek (d : Addr) (o : Obj) (kvs : List (Key × V)) : It :=
  ⟨fun i H => H d = some (.frz o (.dK kvs)) ∧ i < kvs.length, fun i H v H' => ∃ T k x, kvs[i]? = some (k, x) ∧ v = .ref T ∧ H T = none ∧ H' = upd H T (.tup [.int (i : Nat), kV k]), fun i H => H d = some (.frz o (.dK kvs)) ∧ kvs.length ≤ i⟩
theorem turn_enumK {P : Program} {w : World} {K : PySem.W.Frag} {elts : List Expr} {kk : Nat} {tpos : Pos} {d : Addr} {o : Obj} {kvs : List (Key × V)} {es : Array DictEntry} {ep : Nat} (e it : Addr) (hod : o.data = .dict es ep) :
    Turn P w K (.Tuple elts kk tpos) (Itek d o kvs) [e, it] e (fun i h => (∃ old, IsEnum h e it ((i : Nat) : Int) old) ∧ h.IsKeyIter it d i kvs.length ep ∧ e ≠ it ∧ i ≤ kvs.length) where
  mem := by simp
  obj := fun i h st b hb => by
    obtain ⟨⟨old, he⟩, ⟨o', ho, hc, hd⟩, _⟩ := st
    rcases (show b = e ∨ b = it by simpa using hb) with z | z
    · rw [z]; exact ⟨_, he, fun v q => nomatch q⟩
    · rw [z]; exact ⟨o', ho, fun v q => by rw [hd] at q; cases q⟩
  keep := fun i h h' st k => let ⟨⟨old, he⟩, hi, hne, hle⟩ := st; ⟨⟨old, k e (by simp) _ he⟩, hi.at fun o q => k it (by simp) o q, hne, hle⟩
  item := by
    intro X hP hw hK hc i pins s σ H E I hf st hg
    subst hP hw hK
    obtain ⟨⟨old, he⟩, hit, hne, hle⟩ := st
    obtain ⟨hd, hi⟩ := hg
    obtain ⟨hs, hgd, hx, es', ep', vs, hdt, hsz, kv, hm⟩ := I.frzK hd
    obtain ⟨rfl, rfl⟩ := dict_ep hod hdt
    have hel : e < s.heap.objs.size := Heap.lt_size he
    have hil : it < s.heap.objs.size := by obtain ⟨_, q, _⟩ := hit; exact Heap.lt_size q
    have nd : ∀ b, FpOk X pins H b → d ≠ b := fun b hb z => by rw [← z] at hb; have := hb.1; rw [hd] at this; cases this
    have ndi := nd it (hf it (by simp))
    have nde := nd e (hf e (by simp))
    obtain ⟨⟨k, v⟩, hkv⟩ : ∃ p, kvs[i]? = some p := ⟨kvs[i], List.getElem?_eq_getElem hi⟩
    have D := draws_keys (prog := X.prog) (w := X.w) (A := X.A.in1) (I.ok.hd hc) it d ndi hdt
    rw [← hsz] at hit hi
    refine wpAny_pyNext_enum_itemD D he ⟨hit, hgd⟩ hi hne (by simp [hne, nde.symm]) fun x h' tk hP ho st' hT hsz' hk => ?_
    obtain ⟨en, hen, rfl⟩ := hP
    refine ⟨_, rfl, wpAny_letOwnedTupleGo_enum (s := { s with heap := h', toks := tk + 1 }) ho fun h'' he' sb => ?_⟩
    have hT2 : h''.get? s.heap.objs.size = some { cls := .type "tuple", data := .seq #[.int i tk, en.key] } := (sb.2 _ (Nat.ne_of_gt hel)).trans hT
    have rk : RelV (kV k) en.key := by
      obtain ⟨u, hu, _⟩ := kv_get kv hkv
      obtain ⟨od, es2, hod2, hcd, hdd, hks, hp, hnn⟩ := id hm
      rw [hgd] at hod2
      cases hod2
      rw [hdt] at hdd
      cases hdd
      exact relV_key (hp.get? (by simpa using hen) hu).1
    have new : ObjOk X.prog X.w (upd H s.heap.objs.size (.tup [.int (i : Nat), kV k])) h'' s.heap.objs.size (.tup [.int (i : Nat), kV k]) :=
      ⟨by show 2 ≤ sizeLine; decide, [.int i tk, en.key], .cons ⟨_, rfl⟩ (.cons rk .nil), ⟨_, hT2, rfl, _, rfl⟩⟩
    have I1 : Inv X pins σ (upd H s.heap.objs.size (.tup [.int (i : Nat), kV k])) { s with heap := h'', toks := tk + 1 } :=
      I.turnedNew (ch := [e, it]) (fun b ob hb q => (sb.2 b (fun z => hb (by simp [z]))).trans (hk b ob (fun z => hb (by simp [z])) (fun z => hb (by simp [z])) q)) hf (Nat.le_refl _) new
    refine ⟨.ref s.heap.objs.size, _, I1, rfl, ⟨_, k, v, hkv, rfl, I.hok.fresh (Nat.le_refl _), rfl⟩, ⟨⟨en.key, ?_⟩, ?_, hne, by omega⟩, fun b hb => ?_⟩
    · have e1 : ((i + 1 : Nat) : Int) = (i : Int) + 1 := by omega
      rw [e1]; exact he'
    · rw [← hsz]
      exact st'.1.at fun o q => (sb.2 it (Ne.symm hne)).trans q
    · have hb' : b < s.heap.objs.size := by
        rcases (show b = e ∨ b = it by simpa using hb) with z | z
        · rw [z]; exact hel
        · rw [z]; exact hil
      rw [upd_ne (Nat.ne_of_lt hb')]
      exact (hf b hb).1
  done := by
    intro X hP hw hK hc i pins s σ H E I hf st hg
    subst hP hw hK
    obtain ⟨⟨old, he⟩, hit, hne, hle⟩ := st
    obtain ⟨hd, hi⟩ := hg
    obtain ⟨hs, hgd, hx, es', ep', vs, hdt, hsz, kv, hm⟩ := I.frzK hd
    obtain ⟨rfl, rfl⟩ := dict_ep hod hdt
    obtain ⟨f0, f1, f2, f3, f4, f5⟩ := hf it (by simp)
    have nd : d ≠ it := fun z => by rw [← z, hd] at f0; cases f0
    have nde : d ≠ e := fun z => by have := (hf e (by simp)).1; rw [← z, hd] at this; cases this
    have ei : i = es'.size := by omega
    have D := draws_keys (prog := X.prog) (w := X.w) (A := X.A.in1) (I.ok.hd hc) it d nd hdt
    rw [← hsz, ei] at hit
    rw [ei] at he
    exact wpAny_pyNext_enum_endD D he ⟨hit, hgd⟩ fun h' eb => ⟨rfl, I.turned (t' := s.toks) (fun b o hb q => eb b o hb q) f0 f1 f3 f4 f5⟩
  self := fun A i s Q E st h => let ⟨⟨_, he⟩, _⟩ := st; wpAny_pyIter_enum he h
def iEnumK (ta : TA) : TI := fun σ H R => ta σ H fun vs H1 => ∃ d o kvs, vs = [.ref d] ∧ H1 d = some (.frz o (.dK kvs)) ∧ R (Itek d o kvs) H1
/-- for i, k in enumerate(d), d locked -/
theorem pi_enumK {X : Cx} {e : Expr} {ta : TA} {p pos tpos : Pos} {elts : List Expr} {kk : Nat} (hg : Gl X "enumerate") (hm : X.mg "enumerate" = none) (ha : PA X [e] ta) (hs : starEach [e] X.env = [(false, eval e X.env)] := by rfl) :
    PI X (.Tuple elts kk tpos) (.Call (.Name "enumerate" p) [e] [] pos) (iEnumK ta) := by
  refine ⟨fun pins s σ H R I h => Call_ (ld_blt I hg hm boot_enumerate (PyProof.Rows.callWith_type1 (thn (ha.run pos pins s σ H _ I h) fun us s1 ⟨vs, H1, I1, r1, q1⟩ => ?_) hs rfl))⟩
  obtain ⟨d, o, kvs, ex, hd, q⟩ := q1
  subst ex
  cases r1 with
  | cons r rr =>
    cases rr
    cases r
    obtain ⟨hsm, hgd, hx, es, ep, vs, hdt, hsz, kv, hmm⟩ := I1.frzK hd
    refine call_enum_keys hsm hgd hx hdt fun h' he hit hk => wpAny_pyIter_enum he ?_
    have I2 : Inv X pins σ H1 { s1 with heap := h' } := I1.kept (t' := s1.toks) hk
    rw [hsz] at hit
    refine ⟨s1.heap.objs.size + 1, [s1.heap.objs.size + 1, s1.heap.objs.size], _, _, H1, rfl, I2, turn_enumK (s1.heap.objs.size + 1) s1.heap.objs.size hdt, ⟨⟨.none, he⟩, hit, Nat.succ_ne_self _, Nat.zero_le _⟩, fun b hb => ?_, q⟩
    have hle : s1.heap.objs.size ≤ b := by
      rcases (show b = s1.heap.objs.size + 1 ∨ b = s1.heap.objs.size by simpa using hb) with z | z
      · rw [z]; exact Nat.le_add_right _ _
      · rw [z]; exact Nat.le_refl _
    exact I1.fpOk hle (I1.hok.fresh hle)
/-- (0, sign), (1, sign), ..: a text -/
def Ites (z : Str) : It :=
  ⟨fun i _ => i < z.cps.size, fun i H v H' => ∃ T c, z.cps[i]? = some c ∧ v = .ref T ∧ H T = none ∧ H' = upd H T (.tup [.int (i : Nat), .str ⟨#[c]⟩]), fun i _ => z.cps.size ≤ i⟩
theorem draws_str {prog : Program} {w : World} {A : Around} (hh : A.handled = none) (it : Addr) (x : Str) (t : Tok) : Draws prog w A it [it] x.cps.size (fun i v => ∃ c u, x.cps[i]? = some c ∧ v = .str ⟨#[c]⟩ u) (fun i h => h.IsStrIter it (strIterType x) x t i) := by
  unfold strIterType
  split
  · exact Draws.strAscii hh it x t
  · exact Draws.strWide hh it x t
theorem turn_enumS {P : Program} {w : World} {K : PySem.W.Frag} {elts : List Expr} {kk : Nat} {tpos : Pos} {z : Str} {t : Tok} (e it : Addr) :
    Turn P w K (.Tuple elts kk tpos) (Ites z) [e, it] e (fun i h => (∃ old, IsEnum h e it ((i : Nat) : Int) old) ∧ h.IsStrIter it (strIterType z) z t i ∧ e ≠ it ∧ i ≤ z.cps.size) where
  mem := by simp
  obj := fun i h st b hb => by
    obtain ⟨⟨old, he⟩, ⟨o', ho, hc, hd⟩, _⟩ := st
    rcases (show b = e ∨ b = it by simpa using hb) with y | y
    · rw [y]; exact ⟨_, he, fun v q => nomatch q⟩
    · rw [y]; exact ⟨o', ho, fun v q => by rw [hd] at q; cases q⟩
  keep := fun i h h' st k => let ⟨⟨old, he⟩, ⟨o, ho, r⟩, hne, hle⟩ := st; ⟨⟨old, k e (by simp) _ he⟩, ⟨o, k it (by simp) o ho, r⟩, hne, hle⟩
  item := by
    intro X hP hw hK hc i pins s σ H E I hf st hi
    subst hP hw hK
    obtain ⟨⟨old, he⟩, hit, hne, hle⟩ := st
    have hel : e < s.heap.objs.size := Heap.lt_size he
    have hil : it < s.heap.objs.size := by obtain ⟨_, q, _⟩ := hit; exact Heap.lt_size q
    have D := draws_str (prog := X.prog) (w := X.w) (A := X.A.in1) (I.ok.hd hc) it z t
    refine wpAny_pyNext_enum_itemD D he hit hi hne (by simp [hne]) fun x h' tk hP ho st' hT hsz' hk => ?_
    obtain ⟨c, u, hcu, rfl⟩ := hP
    refine ⟨_, rfl, wpAny_letOwnedTupleGo_enum (s := { s with heap := h', toks := tk + 1 }) ho fun h'' he' sb => ?_⟩
    have hT2 : h''.get? s.heap.objs.size = some { cls := .type "tuple", data := .seq #[.int i tk, .str ⟨#[c]⟩ u] } := (sb.2 _ (Nat.ne_of_gt hel)).trans hT
    have new : ObjOk X.prog X.w (upd H s.heap.objs.size (.tup [.int (i : Nat), .str ⟨#[c]⟩])) h'' s.heap.objs.size (.tup [.int (i : Nat), .str ⟨#[c]⟩]) :=
      ⟨by show 2 ≤ sizeLine; decide, [.int i tk, .str ⟨#[c]⟩ u], .cons ⟨_, rfl⟩ (.cons ⟨_, rfl⟩ .nil), ⟨_, hT2, rfl, _, rfl⟩⟩
    have I1 : Inv X pins σ (upd H s.heap.objs.size (.tup [.int (i : Nat), .str ⟨#[c]⟩])) { s with heap := h'', toks := tk + 1 } :=
      I.turnedNew (ch := [e, it]) (fun b ob hb q => (sb.2 b (fun z => hb (by simp [z]))).trans (hk b ob (fun z => hb (by simp [z])) (fun z => hb (by simp [z])) q)) hf (Nat.le_refl _) new
    have hi' : i < z.cps.size := hi
    refine ⟨.ref s.heap.objs.size, _, I1, rfl, ⟨_, c, hcu, rfl, I.hok.fresh (Nat.le_refl _), rfl⟩, ⟨⟨.str ⟨#[c]⟩ u, ?_⟩, ?_, hne, by omega⟩, fun b hb => ?_⟩
    · have e1 : ((i + 1 : Nat) : Int) = (i : Int) + 1 := by omega
      rw [e1]; exact he'
    · obtain ⟨o, ho', r⟩ := st'
      exact ⟨o, (sb.2 it (Ne.symm hne)).trans ho', r⟩
    · have hb' : b < s.heap.objs.size := by
        rcases (show b = e ∨ b = it by simpa using hb) with y | y
        · rw [y]; exact hel
        · rw [y]; exact hil
      rw [upd_ne (Nat.ne_of_lt hb')]
      exact (hf b hb).1
  done := by
    intro X hP hw hK hc i pins s σ H E I hf st hi
    subst hP hw hK
    obtain ⟨⟨old, he⟩, hit, hne, hle⟩ := st
    obtain ⟨f0, f1, f2, f3, f4, f5⟩ := hf it (by simp)
    have hi' : z.cps.size ≤ i := hi
    have ei : i = z.cps.size := by omega
    have D := draws_str (prog := X.prog) (w := X.w) (A := X.A.in1) (I.ok.hd hc) it z t
    rw [ei] at hit he
    exact wpAny_pyNext_enum_endD D he hit fun h' eb => ⟨rfl, I.turned (t' := s.toks) (fun b o hb q => eb b o hb q) f0 f1 f3 f4 f5⟩
  self := fun A i s Q E st h => let ⟨⟨_, he⟩, _⟩ := st; wpAny_pyIter_enum he h
def iEnumS (ta : TA) : TI := fun σ H R => ta σ H fun vs H1 => ∃ z, vs = [.str z] ∧ R (Ites z) H1
/-- for i, c in enumerate(text) -/
theorem pi_enumS {X : Cx} {e : Expr} {ta : TA} {p pos tpos : Pos} {elts : List Expr} {kk : Nat} (hg : Gl X "enumerate") (hm : X.mg "enumerate" = none) (ha : PA X [e] ta) (hs : starEach [e] X.env = [(false, eval e X.env)] := by rfl) :
    PI X (.Tuple elts kk tpos) (.Call (.Name "enumerate" p) [e] [] pos) (iEnumS ta) := by
  refine ⟨fun pins s σ H R I h => Call_ (ld_blt I hg hm boot_enumerate (PyProof.Rows.callWith_type1 (thn (ha.run pos pins s σ H _ I h) fun us s1 ⟨vs, H1, I1, r1, q1⟩ => ?_) hs rfl))⟩
  obtain ⟨z, ex, q⟩ := q1
  subst ex
  cases r1 with
  | cons r rr =>
    cases rr
    obtain ⟨t, rfl⟩ := r
    refine call_enumerate_str fun h' he hit hsz hk => wpAny_pyIter_enum he ?_
    have I2 : Inv X pins σ H1 { s1 with heap := h' } := I1.kept (t' := s1.toks) hk
    refine ⟨s1.heap.objs.size + 1, [s1.heap.objs.size + 1, s1.heap.objs.size], _, _, H1, rfl, I2, turn_enumS (s1.heap.objs.size + 1) s1.heap.objs.size, ⟨⟨.none, he⟩, hit, Nat.succ_ne_self _, Nat.zero_le _⟩, fun b hb => ?_, q⟩
    have hle : s1.heap.objs.size ≤ b := by
      rcases (show b = s1.heap.objs.size + 1 ∨ b = s1.heap.objs.size by simpa using hb) with y | y
      · rw [y]; exact Nat.le_add_right _ _
      · rw [y]; exact Nat.le_refl _
    exact I1.fpOk hle (I1.hok.fresh hle)
/-! ## name = {k: v for ..} on one line, the name a local -/
section
variable {X : Cx}
theorem ps_setDc {i : Nat} {y : Str} {py : Pos} {kx vx tg iter : Expr} {ifs : List Expr} {scope : Scope} {own : List (Str × Nat)} {pos spos : Pos} {wi : TI} {g : TG} {tt : TT} {tk tv : TE} (hc : X.calm = true) (hN : X.N.Nodup) (hy : X.N[i]? = some y) (hyl : X.env.scope.names.lookup y = some .local)
    (hsw : swapsWith (.DictComp kx vx [⟨tg, iter, ifs, 0⟩] scope pos) (some (.Name y py)) spos.line X.env = pure true) (hi : PI X tg iter wi) (ok : BlkOk X.N X.env.scope scope own)
    (hg : ∀ (s : Shared) (H : Hp) (C : Addr) (cl : List (Str × Addr)) (fp : List Addr), PG (X.blk s H scope (compEnvC scope cl C X.env) fp) tg g) (ht : ∀ (s : Shared) (H : Hp) (C : Addr) (cl : List (Str × Addr)) (fp : List Addr), PTs (X.blk s H scope (compEnvC scope cl C X.env) fp) ifs tt)
    (hk : ∀ (s : Shared) (H : Hp) (C : Addr) (cl : List (Str × Addr)) (fp : List Addr), PE (X.blk s H scope (compEnvC scope cl C X.env) fp) kx tk)
    (he : ∀ (s : Shared) (H : Hp) (C : Addr) (cl : List (Str × Addr)) (fp : List Addr), PE (X.blk s H scope (compEnvC scope cl C X.env) fp) vx tv) (hs : ∀ x, foldedSetIterable iter X.env x = pure x := by intro _; rfl) :
    PS X (.Assign [.Name y py] (.DictComp kx vx [⟨tg, iter, ifs, 0⟩] scope pos) spos) (tAsg (tDc wi g tt tk tv (own.map (·.2))) (gName i)) := by
  refine ⟨fun pins s σ H D I h => ?_⟩
  rw [exec_Assign_Name_used _ _ _ _ hsw]
  refine wpAny_bind (wpAny_standAt (wpAny_bind ?_))
  show wpAny _ X.A (do let _ ← comprehension (.DictComp kx vx [⟨tg, iter, ifs, 0⟩] scope pos) scope X.env (firstIterPos [⟨tg, iter, ifs, 0⟩] pos) newDict false (eval iter X.env) (some (assign (.Name y py) X.env))) _ _ s
  have h : tDc wi g tt tk tv (own.map (·.2)) σ H (fun x H1 => gName i x σ H1 D.nx) := h
  refine wpAny_bind (thn (dc_core (Qf := fun _ s' => SP X pins D .next s') hc hN I hi ok hg ht hk he hs h fun L C s' m H' I' q hn f => ?_) fun _ s' hq => wpAny_pure (wpAny_pure hq))
  show wpAny _ _ (assign (.Name y py) X.env (.ref L)) _ _ _
  refine wpAny_assign_Name (store_ok2 (v := V.ref L) I' hN hy (.inl hyl) rfl (fun s2 I2 ⟨a, sb, ha⟩ => ?_) (.inr hyl))
  obtain ⟨f0, f1, f2, f3, f4, f5⟩ := f
  have haC : C ≠ a := by
    rcases ha with z | z
    · rw [z]; exact f1
    · exact fun e => f4 y a z e.symm
  refine ⟨m, hn.sameBut sb haC, fun h3 sb3 => ?_⟩
  exact ⟨_, H', I2.turned (t' := s2.toks) (fun b o hb e => (sb3.2 b hb).trans e) f0 f1 f3 f4 f5, q⟩
theorem swd_true {kx vx : Expr} {gs : List Comprehension} {scope : Scope} {pos py : Pos} {y : Str} {l : Nat} {env : Env} (hk : env.scope.kind = .function) (hy : env.scope.names.lookup y = some .local) (hl : (py.line == pos.line) = true)
    (ha : (scope.names.any fun (n, k) => n == y && (k == .local || k == .cell)) = false) : swapsWith (.DictComp kx vx gs scope pos) (some (.Name y py)) l env = pure true := by
  have ky : env.kindOf y = some .local := hy
  have hb : env.blockKind = .function := by unfold Env.blockKind; rw [hk]; rfl
  unfold swapsWith
  simp only [hb, ky, ha, Expr.pos, hl]
  rfl
end
section
theorem walk_enumK {d : Addr} {o : Obj} {kvs : List (Key × V)} : Walk (Itek d o kvs) kvs.length (fun H => H d = some (.frz o (.dK kvs))) (YPair (fun i => some (.int (i : Nat))) (fun i => kvs[i]?.map fun kv => kV kv.1)) := by
  refine ⟨fun _ _ hi q => ⟨q, hi⟩, fun _ q => ⟨q, Nat.le_refl _⟩, fun i H x H' _ _ y => ?_⟩
  obtain ⟨T, k, v, h1, h2, h3, h4⟩ := y
  exact ⟨T, .int (i : Nat), kV k, h2, h3, h4, rfl, by simp [h1]⟩
theorem walk_enumS {z : Str} : Walk (Ites z) z.cps.size (fun _ => True) (YPair (fun i => some (.int (i : Nat))) (fun i => z.cps[i]?.map fun c => V.str ⟨#[c]⟩)) := by
  refine ⟨fun _ _ hi _ => hi, fun _ _ => Nat.le_refl _, fun i H x H' _ _ y => ?_⟩
  obtain ⟨T, c, h1, h2, h3, h4⟩ := y
  exact ⟨T, .int (i : Nat), .str ⟨#[c]⟩, h2, h3, h4, rfl, by simp [h1]⟩
variable {J : It} {n : Nat} {G : Hp → Prop} {Y : Nat → Hp → V → Hp → Prop}
/-- a dict comprehension over it -/
theorem dc_it (w : Walk J n G Y) {g : TG} {tt : TT} {tk tv : TE} {vs : List Nat} {σ : L2.St} {H1 : Hp} {D : Addr} {Qd : Hp → Prop} (Pv : Nat → Hp → Prop) (h0 : Pv 0 (upd H1 D (.dK []))) (hG : ∀ i H, i ≤ n → Pv i H → G H)
    (hs : ∀ i x H H', i < n → Pv i H → Y i H x H' → g x (wipe σ vs) H' fun σ2 H2 => wipe σ2 vs = wipe σ vs ∧ tt σ2 H2 fun b H3 =>
      if b = true then tk σ2 H3 fun y H4 => tv σ2 H4 fun z H5 => ∃ kvs k, y = kV k ∧ H5 D = some (.dK kvs) ∧ kvs.length < sizeLine ∧ Pv (i + 1) (upd H5 D (.dK (putK kvs k z))) else Pv (i + 1) H3) (hd : ∀ H, Pv n H → Qd H) :
    ∃ W : Nat → Nat → Hp → Prop, (∃ m, W 0 m (upd H1 D (.dK []))) ∧ ∀ i m H, W i m H →
      (J.stop i H ∧ Qd H) ∨ (J.go i H ∧ ∃ Nx : Hp → Prop, (∀ H', Nx H' → ∃ m', m' < m ∧ W (i + 1) m' H') ∧ ∀ x H', J.yld i H x H' → g x (wipe σ vs) H' fun σ2 H2 => wipe σ2 vs = wipe σ vs ∧ tt σ2 H2 fun b H3 =>
        if b = true then tk σ2 H3 fun y H4 => tv σ2 H4 fun z H5 => ∃ kvs k, y = kV k ∧ H5 D = some (.dK kvs) ∧ kvs.length < sizeLine ∧ Nx (upd H5 D (.dK (putK kvs k z))) else Nx H3) := by
  refine ⟨fun i m H => m = n - i ∧ i ≤ n ∧ Pv i H, ⟨n, by simp, Nat.zero_le _, h0⟩, ?_⟩
  rintro i m H ⟨rfl, hi, p⟩
  have q := hG i H hi p
  by_cases hlt : i < n
  · exact .inr ⟨w.goes i H hlt q, Pv (i + 1), fun H' p' => ⟨n - (i + 1), by omega, rfl, hlt, p'⟩, fun x H' y => hs i x H H' hlt p (w.yields i H x H' hlt q y)⟩
  · have e : i = n := by omega
    subst e
    exact .inl ⟨w.stops H q, hd H p⟩
end
end HE
namespace HM
open PySem PySem.Spec PyProof.Rows L2 SX HL
/-! ## match: a value against constant texts; a tuple whose first item is a text against [text, names ..] -/
/-- what captures and wildcards bind, by slot -/
inductive Caps (X : Cx) : List Pattern → List (Option Nat) → Prop
  | nil : Caps X [] []
  | name {i : Nat} {x : Str} {pos : Pos} {ps : List Pattern} {cs : List (Option Nat)} : X.N[i]? = some x → Loc X.env.scope x → (X.fn x = true ∨ X.env.scope.names.lookup x = some .local) → Caps X ps cs → Caps X (.MatchAs none (some x) pos :: ps) (some i :: cs)
  | wild {pos : Pos} {ps : List Pattern} {cs : List (Option Nat)} : Caps X ps cs → Caps X (.MatchAs none none pos :: ps) (none :: cs)
def setCaps : L2.St → List (Option Nat) → List V → L2.St
  | σ, some i :: cs, v :: vs => setCaps (σ.set i (some v)) cs vs
  | σ, none :: cs, _ :: vs => setCaps σ cs vs
  | σ, _, _ => σ
def bsOf : List Pattern → List Value → List (Str × Value)
  | .MatchAs none (some n) _ :: ps, u :: us => (n, u) :: bsOf ps us
  | _ :: ps, _ :: us => bsOf ps us
  | _, _ => []
section
variable {X : Cx} {pins : List (Addr × Obj)}
theorem Caps.len {ps : List Pattern} {cs : List (Option Nat)} (h : Caps X ps cs) : ps.length = cs.length := by
  induction h with
  | nil => rfl
  | name _ _ _ _ ih => simp [ih]
  | wild _ ih => simp [ih]
theorem caps_each {M : Model} {A : Around} {E : Value → Shared → Prop} {env : Env} {ps : List Pattern} {cs : List (Option Nat)} (h : Caps X ps cs) : ∀ {us : List Value} {s : Shared} {Q : Option (List (Str × Value)) → Shared → Prop}, us.length = ps.length → Q (some (bsOf ps us)) s → wpAny M A (matchEach ps env us) Q E s := by
  induction h with
  | nil =>
    intro us s Q hl q
    cases us with
    | nil => exact wpAny_matchEach_nil q
    | cons u us => simp at hl
  | @name i x pos ps cs _ _ _ _ ih =>
    intro us s Q hl q
    cases us with
    | nil => simp at hl
    | cons u us =>
      refine wpAny_matchEach_cons (wpAny_matchPattern_Capture ?_)
      exact ih (by simpa using hl) q
  | @wild pos ps cs _ ih =>
    intro us s Q hl q
    cases us with
    | nil => simp at hl
    | cons u us =>
      refine wpAny_matchEach_cons (wpAny_matchPattern_Capture ?_)
      exact ih (by simpa using hl) q
theorem caps_assign {M : Model} {A : Around} {E : Value → Shared → Prop} {ps : List Pattern} {cs : List (Option Nat)} (hN : X.N.Nodup) (h : Caps X ps cs) : ∀ {us : List Value} {vs : List V} {σ : L2.St} {H : Hp} {s : Shared} {Q : Unit → Shared → Prop}, Vals vs us → us.length = ps.length →
    Inv X pins σ H s → (∀ s', Inv X pins (setCaps σ cs vs) H s' → Q () s') → wpAny M A (assignInOrder ((bsOf ps us).map fun p => bindName X.env p.1) ((bsOf ps us).map (·.2))) Q E s := by
  induction h with
  | nil =>
    intro us vs σ H s Q r hl I q
    cases r with
    | nil => exact assignInOrder_nil (q s I)
    | cons _ _ => simp at hl
  | @name i x pos ps cs h1 h2 h3 _ ih =>
    intro us vs σ H s Q r hl I q
    cases r with
    | nil => simp at hl
    | @cons v u vs us rv rr =>
      show wpAny M A (assignInOrder (bindName X.env x :: (bsOf ps us).map fun p => bindName X.env p.1) (u :: (bsOf ps us).map (·.2))) Q E s
      refine assignInOrder_cons (wpAny_bindName (store_ok I hN h1 h2 rv (fun s' I' => ?_) h3))
      exact ih rr (by simpa using hl) I' q
  | @wild pos ps cs _ ih =>
    intro us vs σ H s Q r hl I q
    cases r with
    | nil => simp at hl
    | @cons v u vs us rv rr =>
      show wpAny M A (assignInOrder ((bsOf ps us).map fun p => bindName X.env p.1) ((bsOf ps us).map (·.2))) Q E s
      exact ih rr (by simpa using hl) I q
/-- cases of a match: what is read of each -/
abbrev TMs := V → Ends → L2.St → Hp → Prop
structure PMs (X : Cx) (cases : List MatchCase) (t : TMs) : Prop where
  run : ∀ (first : Bool) (pins : List (Addr × Obj)) (s : Shared) (σ : L2.St) (H : Hp) (D : Ends) (v : V) (u : Value), Inv X pins σ H s → RelV v u → t v D σ H → wpAny (model X.prog X.w) X.A (matchCases cases X.env u first) (SP X pins D) X.xe s
theorem ps_match {subject : Expr} {cases : List MatchCase} {pos : Pos} {te : TE} {t : TMs} (he : PE X subject te) (hc : PMs X cases t) : PS X (.Match subject cases pos) (fun D σ H => te σ H fun v H1 => t v D σ H1) := by
  refine ⟨fun pins s σ H D I h => ?_⟩
  refine wpAny_Match (thn (he.run pins s σ H _ I h) fun u s1 ⟨v, H1, I1, r, q⟩ => ?_)
  exact hc.run true pins s1 σ H1 D v u I1 r q
/-- no case is left -/
theorem pm_nil : PMs X [] (fun _ D σ H => D.nx σ H) := ⟨fun first pins s σ H D v u I r h => wpAny_matchCases_nil ⟨σ, H, I, h⟩⟩
/-- case _: -/
theorem pm_wild {body : List Stmt} {rest : List MatchCase} {pos : Pos} {tb : TS} (hb : PSs X body tb) : PMs X (⟨.MatchAs none none pos, none, body⟩ :: rest) (fun _ D σ H => tb D σ H) := by
  refine ⟨fun first pins s σ H D v u I r h => ?_⟩
  refine wpAny_matchCases_cons (wpAny_matchPattern_Capture ?_)
  exact assignInOrder_nil (hb.run pins s σ H D I h)
/-- case 'text': -/
theorem pm_val {z : Str} {body : List Stmt} {rest : List MatchCase} {k pos : Pos} {j : Nat} {tb : TS} {t : TMs} (hb : PSs X body tb) (hr : PMs X rest t) :
    PMs X (⟨.MatchValue (.Constant (.str z) j k) pos, none, body⟩ :: rest) (fun v D σ H => ∃ y, v = .str y ∧ if y = z then tb D σ H else t v D σ H) := by
  refine ⟨fun first pins s σ H D v u I r h => ?_⟩
  obtain ⟨y, rfl, h⟩ := h
  refine wpAny_matchCases_cons (wpAny_matchPattern_Value ?_)
  refine thn ((pe_str (X := X) (x := z)).run pins s σ H (fun w H1 => w = .str z ∧ H1 = H) I ⟨rfl, rfl⟩) fun x s1 ⟨w, H1, I1, r1, e1, e2⟩ => ?_
  subst e1
  rw [e2] at I1
  refine thn (op_eq (X := X) pins s1 σ H (.str y) (.str z) u x (fun c H2 => c = .bl (decide (V.str y = V.str z)) ∧ H2 = H) I1 r r1 ⟨rfl, rfl, rfl⟩) fun c s2 ⟨w, H2, I2, r2, e3, e4⟩ => ?_
  subst e3
  rw [e4] at I2
  obtain rfl : c = .bool (decide (V.str y = V.str z)) := r2
  refine wpAny_truthy_bool ?_
  by_cases e : y = z
  · have ed : decide (V.str y = V.str z) = true := decide_eq_true (by rw [e])
    rw [if_pos e] at h
    rw [ed, if_pos rfl]
    exact assignInOrder_nil (hb.run pins s2 σ H D I2 h)
  · have ed : decide (V.str y = V.str z) = false := decide_eq_false (fun q => e (V.str.inj q))
    rw [if_neg e] at h
    rw [ed, if_neg (by simp)]
    exact hr.run false pins s2 σ H D _ u I2 r h
/-- case ['text', names ..]: -/
theorem pm_tag {z : Str} {ps : List Pattern} {cs : List (Option Nat)} {body : List Stmt} {rest : List MatchCase} {k pos pos' : Pos} {j : Nat} {tb : TS} {t : TMs} (hc : X.calm = true) (hN : X.N.Nodup) (hcap : Caps X ps cs) (hb : PSs X body tb) (hr : PMs X rest t)
    (hstar : (Pattern.MatchValue (.Constant (.str z) j k) pos :: ps).findIdx? (·.isStar) = none := by rfl) :
    PMs X (⟨.MatchSequence (.MatchValue (.Constant (.str z) j k) pos :: ps) pos', none, body⟩ :: rest) (fun v D σ H => ∃ a y xs, v = .ref a ∧ SqT X.K H a (.str y :: xs) ∧ if y = z ∧ xs.length = cs.length then tb D (setCaps σ cs xs) H else t v D σ H) := by
  refine ⟨fun first pins s σ H D v u I r h => ?_⟩
  obtain ⟨a, y, xs, rfl, hq, h⟩ := h
  obtain rfl : u = .ref a := r
  obtain ⟨its, rv, ht, hz⟩ := I.tuple hq
  cases rv with
  | @cons _ w _ us rw' rr =>
  have hlen : us.length = xs.length := rr.length.symm
  have hl : (w :: us).toArray.size = us.length + 1 := by simp
  have l63 := line63
  have hfit : (((w :: us).toArray.size : Nat) : Int) < 2 ^ 63 := by
    rw [hl, hlen]
    simp at hz
    have : (sizeLine : Int) < 2 ^ 63 := by exact_mod_cast l63
    omega
  refine wpAny_matchCases_cons ?_
  by_cases hn : us.length = ps.length
  · refine matchSeq_tuple_hit ht hfit (by rw [hl, hn]; rfl) ?_ hstar rfl
    have hsz : (Pattern.MatchValue (.Constant (.str z) j k) pos :: ps).length = (w :: us).toArray.size := by rw [hl, hn]; rfl
    rw [hsz]
    have I1 : Inv X pins σ H { s with toks := s.toks + 1 + 1 } := I.tok _
    refine unpackItems_tuple (I.ok.hd hc) ht fun h' hx => ?_
    have I2 : Inv X pins σ H { s with heap := h', toks := s.toks + 1 + 1 } := I.kept fun b o e => hx b o (Nat.ne_of_lt (Heap.lt_size e)) e
    refine wpAny_matchEach_cons (wpAny_matchPattern_Value ?_)
    refine thn ((pe_str (X := X) (x := z)).run pins _ σ H (fun w H1 => w = .str z ∧ H1 = H) I2 ⟨rfl, rfl⟩) fun x s1 ⟨w1, H1, I1, r1, e1, e2⟩ => ?_
    subst e1
    rw [e2] at I1
    refine thn (op_eq (X := X) pins s1 σ H (.str y) (.str z) w x (fun c H2 => c = .bl (decide (V.str y = V.str z)) ∧ H2 = H) I1 rw' r1 ⟨rfl, rfl, rfl⟩) fun c s2 ⟨w2, H2, I2, r2, e3, e4⟩ => ?_
    subst e3
    rw [e4] at I2
    obtain rfl : c = .bool (decide (V.str y = V.str z)) := r2
    refine wpAny_truthy_bool ?_
    by_cases e : y = z
    · have ed : decide (V.str y = V.str z) = true := decide_eq_true (by rw [e])
      rw [if_pos ⟨e, by rw [← hlen, hn, hcap.len]⟩] at h
      rw [ed, if_pos rfl]
      refine caps_each hcap hn ?_
      exact caps_assign hN hcap rr hn I2 fun s3 I3 => hb.run pins s3 _ H D I3 h
    · have ed : decide (V.str y = V.str z) = false := decide_eq_false (fun q => e (V.str.inj q))
      rw [if_neg (fun q => e q.1)] at h
      rw [ed, if_neg (by simp)]
      exact hr.run false pins s2 σ H D (.ref a) _ I2 rfl h
  · refine matchSeq_tuple_miss ht hfit (by rw [hl]; simpa using hn) ?_ hstar rfl
    rw [if_neg (fun q => hn (by rw [hlen, q.2, hcap.len]))] at h
    exact hr.run false pins _ σ H D (.ref a) _ (I.tok _) rfl h
end
end HM
namespace KX
open PySem PySem.Spec PyProof.Rows L2 SX HL
/-! ### more rules within comprehensions: K is told -/
section
variable {X : Cx} {K : PySem.W.Frag}
theorem pa_starK {e : Expr} {es : List Expr} {te : TE} {t : TA} {p : Pos} (h : X.K = K) (he : PE X e te) (hr : PA X es t) (hs : starEach (.Starred e p :: es) X.env = (true, eval e X.env) :: starEach es X.env := by rfl) : PA X (.Starred e p :: es) (StX.tStar K te t) := by
  subst h
  exact StX.pa_star he hr hs
theorem call_tuple_ofK (h : X.K = K) : CallR X (.type "tuple") (fun xs H Q => ∃ p ys, xs = [.ref p] ∧ ((SqL K H p ys ∧ ∀ l, H l = none → Q (.ref l) (upd H l (.tup ys))) ∨ (SqT K H p ys ∧ Q (.ref p) H))) := by
  subst h
  exact call_tuple_of
theorem pe_fldK {e : Expr} {ta : TE} {f : Str} {pos : Pos} (h : X.K = K) (he : PE X e ta) (hb : attributeBase e f X.env (eval e X.env) = eval e X.env) : PE X (.Attribute e f pos) (tFld K ta f) := by
  subst h
  exact pe_fld he hb
theorem op_catTK (h : X.K = K) : OpR X (binaryOp .Add) (rCatT K) := by
  subst h
  exact op_catT
end
end KX
namespace HC
open PySem PySem.Spec PyProof.Rows L2
section
variable {J : It} {n : Nat} {G : Hp → Prop} {Y : Nat → Hp → V → Hp → Prop}
/-- any walk, any body: for the two clauses of a comprehension -/
theorem wk_it (w : Walk J n G Y) {B : V → Hp → (Hp → Prop) → Prop} {H0 : Hp} {Qd : Hp → Prop} (Pv : Nat → Hp → Prop) (h0 : Pv 0 H0) (hG : ∀ i H, i ≤ n → Pv i H → G H)
    (hs : ∀ i x H H', i < n → Pv i H → Y i H x H' → B x H' (Pv (i + 1))) (hd : ∀ H, Pv n H → Qd H) :
    ∃ W : Nat → Nat → Hp → Prop, (∃ m, W 0 m H0) ∧ ∀ i m H, W i m H →
      (J.stop i H ∧ Qd H) ∨ (J.go i H ∧ ∃ Nx : Hp → Prop, (∀ H', Nx H' → ∃ m', m' < m ∧ W (i + 1) m' H') ∧ ∀ x H', J.yld i H x H' → B x H' Nx) := by
  refine ⟨fun i m H => m = n - i ∧ i ≤ n ∧ Pv i H, ⟨n, by simp, Nat.zero_le _, h0⟩, ?_⟩
  rintro i m H ⟨rfl, hi, p⟩
  have q := hG i H hi p
  by_cases hlt : i < n
  · exact .inr ⟨w.goes i H hlt q, Pv (i + 1), fun H' p' => ⟨n - (i + 1), by omega, rfl, hlt, p'⟩, fun x H' y => hs i x H H' hlt p (w.yields i H x H' hlt q y)⟩
  · obtain rfl : i = n := by omega
    exact .inl ⟨w.stops H q, hd H p⟩
end
theorem yes {f : Bool → Hp → Prop} {σ : L2.St} {H : Hp} (h : f true H) : tYes σ H f := h
theorem pi_zipK {K : PySem.W.Frag} {X : Cx} {e e2 : Expr} {ta : TA} {p pos tpos : Pos} {elts : List Expr} {kk : Nat} (hK : X.K = K) (hg : Gl X "zip") (hm : X.mg "zip" = none) (ha : PA X [e, e2] ta)
    (hs : starEach [e, e2] X.env = (false, eval e X.env) :: starEach [e2] X.env := by rfl) (hpl : (backTo pos (starEach [e2] X.env)).any (·.1) = false := by rfl) :
    PI X (.Tuple elts kk tpos) (.Call (.Name "zip" p) [e, e2] [] pos) (iZip K ta) := by
  subst hK
  exact pi_zip hg hm ha hs hpl
theorem pi_listK {K : PySem.W.Frag} {X : Cx} {e tg : Expr} {t : TE} (hK : X.K = K) (h : PI X tg e (iList X.K t)) : PI X tg e (iList K t) := by
  subst hK
  exact h
theorem op_ltTK {K : PySem.W.Frag} {X : Cx} (hK : X.K = K) (hu : X.A.units < cLine) : OpR X (compareOp .Lt) (rLtT K) := by
  subst hK
  exact op_ltT hu
end HC
/-! list.extend of a tuple -/
namespace HK
open PySem PySem.Spec PyProof.Rows L2 SX
open AutoSeq1
theorem ext_tup (l : Addr) (us : Array Value) (n : Nat) (b : Addr) (vs : Array Value) (m : Nat) (od : Option Addr) (sl : Array (Option Value)) (h0 : ¬ (!us.isEmpty && Builtin.List.listTooLong (us.size + vs.size)) = true) (h1 : us.size ≤ sizeLine) (h2 : us.size + vs.size ≤ sizeLine + 1) :
    Meets (Builtin.«list.extend» ⟨[.ref l, .ref b], []⟩) (fun _ R s => (s.heap.get? l = some { cls := .type "list", dict := none, data := .seq us n, slots := #[] } ∧ s.heap.get? b = some { cls := .type "tuple", dict := od, data := .seq vs m, slots := sl }) ∧
      R (.ok (.ret Value.none)) { s with heap := s.heap.update l (Obj.mapSeq fun x => x ++ vs), toks := s.toks }) :=
  .of_wp fun prog w A R s h => by
    obtain ⟨hp, g, d, tk, os⟩ := s
    obtain ⟨⟨hl, hb⟩, h⟩ := h
    have f1 := idx_int
    have f2 := AutoSeq1.sub_tuple_tuple
    have f3 := AutoSeq1.sub_list_list
    have f4 := AutoSeq1.sub_tuple_list
    have f5 := AutoSeq1.sub_list_tuple
    have hz' : (us ++ vs).size ≤ sizeLine + 1 := by
      rw [Array.size_append]
      exact h2
    wp_walk using (wpAny_updateSeq hl rfl (hz := h1) (_hz' := hz')), wpAny_loadPart' hl, wpAny_loadPart' hb
    exact ⟨_, rfl, h⟩
section
variable {X : Cx}
def rExtT (K : PySem.W.Frag) : V → List V → Hp → VK → Prop := fun x vs H Q => ∃ l b xs zs, x = .ref l ∧ vs = [.ref b] ∧ H l = some (.lst xs) ∧ SqT K H b zs ∧ xs.length + zs.length ≤ sizeLine ∧ Q .non (upd H l (.lst (xs ++ zs)))
theorem mt_extendT : MtM X "list.extend" (rExtT X.K) := by
  intro pins s σ H x vs v us Q I rx rv h
  obtain ⟨l, b, xs, zs, rfl, rfl, hH, hB, hz, q⟩ := h
  cases rx
  obtain ⟨u, rfl, ru⟩ := rv.one
  cases ru
  obtain ⟨z, its, n, r, hl, e⟩ := I.lstM hH
  obtain ⟨its2, r2, ⟨⟨oc, od, dt, sl⟩, hb, hc, m, hd⟩, z2⟩ := I.tuple hB
  cases hc
  cases hd
  have e1 := r.length
  have e2 := r2.length
  have hsz : its.toArray.size + its2.toArray.size ≤ sizeLine := by
    rw [List.size_toArray, List.size_toArray]
    omega
  have hlong : ¬ (!its.toArray.isEmpty && Builtin.List.listTooLong (its.toArray.size + its2.toArray.size)) = true := by
    rw [notLongL hsz, Bool.and_false]
    decide
  refine call_meets F.slot_list_extend ⟨_, e, rfl⟩ F.entry_list_extend (F.args_list_extend_2 _ _) (ext_tup l its.toArray n b its2.toArray m od sl hlong (by omega) (by omega)) ⟨⟨e, hb⟩, .non, _, I.lset (its' := its ++ its2) hH e (by simp) (r.append r2) (by rw [List.length_append]; omega), rfl, q⟩
theorem op_in_kdK {K : PySem.W.Frag} {w : World} {d : Addr} {es : Array DictEntry} {n : Nat} (hK : X.K = K) (hw : X.w = w) (D : KDict K w d es n) : OpR X (compareOp .In) (fun x y H Q => ∃ (z : Str) (r : Option Value), x = .str z ∧ y = .ref d ∧ PySem.W.nsIn K d z = some r ∧ Q (.bl r.isSome) H) := by
  subst hK
  subst hw
  exact op_in_kd D
theorem ix_kdictK {K : PySem.W.Frag} {w : World} (hK : X.K = K) (hw : X.w = w) : IxR X (rIxD K w) := by
  subst hK
  subst hw
  exact ix_kdict
theorem pi_tupK {K : PySem.W.Frag} {tg l : Expr} {tl : TE} (hK : X.K = K) (hl : PE X l tl) : PI X tg l (iTup K tl) := by
  subst hK
  exact pi_tup hl
end
end HK
/-! zip of a tuple and a list -/
namespace ZM
open PySem PySem.Spec PyProof.Rows L2 SX HL
def ItM (K : PySem.W.Frag) (a b : Addr) : It :=
  ⟨fun i H => ∃ xs ys : List V, SqT K H a xs ∧ SqL K H b ys ∧ i < xs.length ∧ i < ys.length,
   fun i H v H' => ∃ T x y, v = .ref T ∧ H T = none ∧ H' = upd H T (.tup [x, y]) ∧ (∀ l, SqT K H a l → l[i]? = some x) ∧ ∀ l, SqL K H b l → l[i]? = some y,
   fun i H => ∃ xs ys : List V, SqT K H a xs ∧ SqL K H b ys ∧ i ≤ xs.length ∧ i ≤ ys.length ∧ (i = xs.length ∨ i = ys.length)⟩
abbrev StM (a b z TI TO i1 i2 : Addr) (i : Nat) (h : Heap) : Prop := IsZip h z TI TO .none ∧ IsTupOf2 h TI (.ref i1) (.ref i2) ∧ (∃ x y, IsTupOf2 h TO x y) ∧ h.IsTupleIter i1 a i ∧ h.IsListIter i2 b i
theorem five {c z TI TO i1 i2 : Addr} (h : c ∈ [z, TI, TO, i1, i2]) : c = z ∨ c = TI ∨ c = TO ∨ c = i1 ∨ c = i2 := by simpa using h
theorem turn_m {P : Program} {w : World} {K : PySem.W.Frag} {elts : List Expr} {kk : Nat} {tpos : Pos} {a b z TI TO i1 i2 : Addr} (S : ZipSep2 z TI TO i1 i2 [i1, a] [i2, b]) (na : a ≠ i1) (nb : b ≠ i2) :
    Turn P w K (.Tuple elts kk tpos) (ItM K a b) [z, TI, TO, i1, i2] z (StM a b z TI TO i1 i2) where
  mem := by simp
  obj := fun i h ⟨hz, hTI, ⟨x, y, hTO⟩, ⟨o1, e1, _, d1⟩, ⟨o2, e2, _, d2⟩⟩ c hc => by
    rcases five hc with rfl | rfl | rfl | rfl | rfl
    · exact ⟨_, hz, fun v q => nomatch q⟩
    · exact ⟨_, hTI, fun v q => nomatch q⟩
    · exact ⟨_, hTO, fun v q => nomatch q⟩
    · exact ⟨o1, e1, fun v q => by rw [d1] at q; cases q⟩
    · exact ⟨o2, e2, fun v q => by rw [d2] at q; cases q⟩
  keep := fun i h h' ⟨hz, hTI, ⟨x, y, hTO⟩, h1, h2⟩ k => ⟨k z (by simp) _ hz, k TI (by simp) _ hTI, ⟨x, y, k TO (by simp) _ hTO⟩, h1.at fun o q => k i1 (by simp) o q, h2.at fun o q => k i2 (by simp) o q⟩
  item := by
    intro X hP hw hK hc i pins s σ H E I hf st hg
    subst hP hw hK
    obtain ⟨hz, hTI, ⟨x0, y0, hTO⟩, h1, h2⟩ := st
    obtain ⟨xs, ys, hqx, hqy, lx, ly⟩ := hg
    obtain ⟨its, rv, p, _⟩ := I.tuple hqx
    obtain ⟨its2, rv2, p2, _⟩ := I.list hqy
    have hcd := I.ok.hd hc
    have D1 := Draws.tuple (prog := X.prog) (w := X.w) (A := X.A.in1) hcd i1 a na its.toArray
    have D2 := Draws.list (prog := X.prog) (w := X.w) (A := X.A.in1) hcd i2 b nb its2.toArray
    have g1 : i < its.toArray.size := by rw [List.size_toArray, ← rv.length]; exact lx
    have g2 : i < its2.toArray.size := by rw [List.size_toArray, ← rv2.length]; exact ly
    have zlt : z < s.heap.objs.size := Heap.lt_size hz
    have clt : ∀ c ∈ [z, TI, TO, i1, i2], c < s.heap.objs.size := fun c hcm => by
      rcases five hcm with rfl | rfl | rfl | rfl | rfl
      · exact zlt
      · exact Heap.lt_size hTI
      · exact Heap.lt_size hTO
      · exact h1.elim fun _ q => Heap.lt_size q.1
      · exact h2.elim fun _ q => Heap.lt_size q.1
    refine wpAny_pyNext_zipD2_item S D1 D2 hz hTI hTO ⟨h1, p⟩ ⟨h2, p2.isList⟩ g1 g2 fun u u2 h' tk q1 q2 z' TO' n1 n2 hT hsz hk => ?_
    refine ⟨_, rfl, wpAny_letOwnedTupleGo_zip (s := { s with heap := h', toks := tk }) z' fun h'' z'' sb => ?_⟩
    have hT2 : h''.get? s.heap.objs.size = some { cls := .type "tuple", data := .seq #[u, u2] } := (sb.2 _ (Nat.ne_of_gt zlt)).trans hT
    have q1' : its[i]? = some u := by simpa using q1
    have q2' : its2[i]? = some u2 := by simpa using q2
    obtain ⟨x, hx, ru⟩ : ∃ x, xs[i]? = some x ∧ RelV x u := by
      obtain ⟨v, hv, r⟩ := rv.get (List.getElem?_eq_getElem lx)
      rw [q1'] at hv
      cases hv
      exact ⟨_, List.getElem?_eq_getElem lx, r⟩
    obtain ⟨y, hy, ru2⟩ : ∃ y, ys[i]? = some y ∧ RelV y u2 := by
      obtain ⟨v, hv, r⟩ := rv2.get (List.getElem?_eq_getElem ly)
      rw [q2'] at hv
      cases hv
      exact ⟨_, List.getElem?_eq_getElem ly, r⟩
    have new : ObjOk X.prog X.w (upd H s.heap.objs.size (.tup [x, y])) h'' s.heap.objs.size (.tup [x, y]) := ⟨by show 2 ≤ sizeLine; decide, [u, u2], .cons ru (.cons ru2 .nil), ⟨_, hT2, rfl, _, rfl⟩⟩
    have stay : ∀ c o, c ∉ [z, TI, TO, i1, i2] → s.heap.get? c = some o → h''.get? c = some o := fun c o hb q =>
      (sb.2 c (fun e => hb (by simp [e]))).trans (hk c o (fun e => hb (by simp [e])) (fun e => hb (by simp [e])) (fun e => hb (by simp [e])) (fun e => hb (by simp [e])) q)
    have I1 : Inv X pins σ (upd H s.heap.objs.size (.tup [x, y])) { s with heap := h'', toks := tk } := I.turnedNew (ch := [z, TI, TO, i1, i2]) stay hf (Nat.le_refl _) new
    have nz1 : i1 ≠ z := fun e => S.zf1 (by rw [e]; simp)
    have nz2 : i2 ≠ z := fun e => S.zf2 (by rw [e]; simp)
    refine ⟨.ref s.heap.objs.size, _, I1, rfl, ⟨_, x, y, rfl, I.hok.fresh (Nat.le_refl _), rfl, fun l hl => by rw [I.tuple_inj hl hqx]; exact hx, fun l hl => by rw [I.list_inj hl hqy]; exact hy⟩, ⟨z'', ?_, ⟨u, u2, ?_⟩, ?_, ?_⟩, fun c hcm => ?_⟩
    · exact (sb.2 _ S.TIz).trans (hk _ _ S.TIz S.TITO S.TIi1 S.TIi2 hTI)
    · exact (sb.2 _ S.TOz).trans TO'
    · exact n1.1.at fun o q => (sb.2 _ nz1).trans q
    · exact n2.1.at fun o q => (sb.2 _ nz2).trans q
    · rw [upd_ne (Nat.ne_of_lt (clt c hcm))]
      exact (hf c hcm).1
  done := by
    intro X hP hw hK hc i pins s σ H E I hf st hg
    subst hP hw hK
    obtain ⟨hz, hTI, ⟨x0, y0, hTO⟩, h1, h2⟩ := st
    obtain ⟨xs, ys, hqx, hqy, lx, ly, hend⟩ := hg
    obtain ⟨its, rv, p, _⟩ := I.tuple hqx
    obtain ⟨its2, rv2, p2, _⟩ := I.list hqy
    have hcd := I.ok.hd hc
    have D1 := Draws.tuple (prog := X.prog) (w := X.w) (A := X.A.in1) hcd i1 a na its.toArray
    have D2 := Draws.list (prog := X.prog) (w := X.w) (A := X.A.in1) hcd i2 b nb its2.toArray
    have l1 : its.toArray.size = xs.length := by rw [List.size_toArray, ← rv.length]
    have l2 : its2.toArray.size = ys.length := by rw [List.size_toArray, ← rv2.length]
    refine wpAny_pyNext_zipD2_end S D1 D2 hz hTI hTO ⟨h1, p⟩ ⟨h2, p2.isList⟩ (by omega) (by omega) (by omega) fun h' tk hk => ⟨rfl, I.turnedL (t' := tk) (ch := [z, TI, TO, i1, i2]) (fun c o hb q => ?_) hf⟩
    exact hk c o (fun e => hb (by simp [e])) (fun e => hb (by simp [e])) (fun e => hb (by simp [e])) (fun e => hb (by simp [e])) q
  self := fun A i s Q E st h => wpAny_pyIter_zip st.1 h
theorem nm2 {x p q : Nat} (h1 : x ≠ p) (h2 : x ≠ q) : x ∉ [p, q] := by simp [h1, h2]
theorem sep_of (n a b : Nat) (la : a < n) (lb : b < n) : ZipSep2 (n + 4) (n + 2) (n + 3) n (n + 1) [n, a] [n + 1, b] :=
  have h1 : n + 2 ≠ n + 4 := by omega
  have h2 : n + 3 ≠ n + 4 := by omega
  have h3 : n + 2 ≠ n + 3 := by omega
  have h4 : n + 2 ≠ n := by omega
  have h5 : n + 2 ≠ n + 1 := by omega
  ⟨h1, h2, h3, h4, List.mem_cons_self .., nm2 (by omega) (by omega), nm2 (by omega) (by omega), h5, List.mem_cons_self .., nm2 (by omega) (by omega), nm2 (by omega) (by omega), nm2 (by omega) (by omega), nm2 (by omega) (by omega)⟩
def iM (K : PySem.W.Frag) (ta : TA) : TI := fun σ H R => ta σ H fun vs H1 => ∃ a b xs ys, vs = [.ref a, .ref b] ∧ SqT K H1 a xs ∧ SqL K H1 b ys ∧ R (ItM K a b) H1
/-- for x, y in zip(tuple, list) -/
theorem pi_m {X : Cx} {e e2 : Expr} {ta : TA} {p pos tpos : Pos} {elts : List Expr} {kk : Nat} (hg : Gl X "zip") (hm : X.mg "zip" = none) (ha : PA X [e, e2] ta)
    (hs : starEach [e, e2] X.env = (false, eval e X.env) :: starEach [e2] X.env := by rfl) (hpl : (backTo pos (starEach [e2] X.env)).any (·.1) = false := by rfl) : PI X (.Tuple elts kk tpos) (.Call (.Name "zip" p) [e, e2] [] pos) (iM X.K ta) := by
  refine ⟨fun pins s σ H R I h => Call_ (ld_blt I hg hm PyProof.Rows.boot_zip (PyProof.Rows.callWith_type1 (thn (ha.run pos pins s σ H _ I h) fun us s1 ⟨vs, H1, I1, r1, q1⟩ => ?_) hs hpl))⟩
  obtain ⟨a, b, xs, ys, rfl, hqx, hqy, q⟩ := q1
  cases r1 with
  | cons r rr =>
  cases rr with
  | cons r' rr =>
  cases rr
  cases r
  cases r'
  obtain ⟨its, rv, p1, _⟩ := I1.tuple hqx
  obtain ⟨its2, rv2, p2, _⟩ := I1.list hqy
  have la : a < s1.heap.objs.size := p1.elim fun _ q => Heap.lt_size q.1
  have lb : b < s1.heap.objs.size := p2.isList.elim fun _ q => Heap.lt_size q.1
  have above : ∀ c, c ∈ [s1.heap.objs.size + 4, s1.heap.objs.size + 2, s1.heap.objs.size + 3, s1.heap.objs.size, s1.heap.objs.size + 1] → s1.heap.objs.size ≤ c := fun c hcm => by
    rcases five hcm with rfl | rfl | rfl | rfl | rfl <;> omega
  refine zip_begins2 (begins_tuple a its.toArray) (begins_list b its2.toArray) p1 p2.isList fun h' hz hTI hTO g1 g2 hsz hk => wpAny_pyIter_zip hz ?_
  have I2 : Inv X pins σ H1 { s1 with heap := h' } := I1.kept (t' := s1.toks) hk
  have S := sep_of s1.heap.objs.size a b la lb
  exact ⟨s1.heap.objs.size + 4, [s1.heap.objs.size + 4, s1.heap.objs.size + 2, s1.heap.objs.size + 3, s1.heap.objs.size, s1.heap.objs.size + 1], _, _, H1, rfl, I2, turn_m S (Nat.ne_of_lt la) (Nat.ne_of_lt (Nat.lt_succ_of_lt lb)), ⟨hz, hTI, ⟨_, _, hTO⟩, ⟨_, g1, rfl, rfl⟩, ⟨_, g2, rfl, rfl⟩⟩, fun c hcm => I1.fpOk (above c hcm) (I1.hok.fresh (above c hcm)), q⟩
theorem walk_m {K : PySem.W.Frag} {a b : Addr} {xs ys : List V} {n : Nat} (hn : n = xs.length) (hl : xs.length = ys.length) : Walk (ItM K a b) n (fun H => SqT K H a xs ∧ SqL K H b ys) (YPair (fun i => xs[i]?) (fun i => ys[i]?)) := by
  subst hn
  refine ⟨fun i H hi q => ⟨xs, ys, q.1, q.2, hi, hl ▸ hi⟩, fun H q => ⟨xs, ys, q.1, q.2, Nat.le_refl _, Nat.le_of_eq hl, .inl rfl⟩, fun i H v H' _ q y => ?_⟩
  obtain ⟨T, x, z, h1, h2, h3, h4, h5⟩ := y
  exact ⟨T, x, z, h1, h2, h3, h4 xs q.1, h5 ys q.2⟩
end ZM
/-! list(zip(t, u)) of two tuples of one length -/
namespace HZ
open PySem PySem.W PySem.Calls PyProof.Rows PySem.Spec
section
variable {prog : Program} {w : World} {A : Around} {E : Value → Shared → Prop} {s : Shared} {z TI TO T i1 i2 a b S : Addr} {f : Bool} {oT : Obj} {i : Nat} {xs ys : Array Value}
/-- the two iterators at turn i, apart from the zip z and from S -/
structure Its (h : Heap) (z TI i1 i2 a b : Addr) (i : Nat) (xs ys : Array Value) : Prop where
  t : IsTupOf2 h TI (.ref i1) (.ref i2)
  x : h.IsTupleIter i1 a i
  y : h.IsTupleIter i2 b i
  hx : h.IsTuple a xs
  hy : h.IsTuple b ys
structure Apart (z TI TO i1 i2 a b S : Addr) : Prop where
  sep : ZipSep2 z TI TO i1 i2 [i1, a] [i2, b]
  na : a ≠ i1
  nb : b ≠ i2
  sz : z ≠ S
  sTI : TI ≠ S
  sTO : TO ≠ S
  s1 : i1 ≠ S
  s2 : i2 ≠ S
  sa : a ≠ S
  sb : b ≠ S
theorem Its.keep {h h' : Heap} (D : Its h z TI i1 i2 a b i xs ys) (k : ∀ c o, c ∈ [TI, i1, i2, a, b] → h.get? c = some o → h'.get? c = some o) : Its h' z TI i1 i2 a b i xs ys :=
  ⟨k _ _ (by simp) D.t, D.x.at fun o e => k _ o (by simp) e, D.y.at fun o e => k _ o (by simp) e, let ⟨o, e, r⟩ := D.hx; ⟨o, k _ o (by simp) e, r⟩, let ⟨o, e, r⟩ := D.hy; ⟨o, k _ o (by simp) e, r⟩⟩
/-- an item, the tuple before it still out -/
theorem held_item {x y : Value} {Q : Option Value → Shared → Prop} (P : Apart z TI TO i1 i2 a b S) (hz : IsZipHeld s.heap z TI TO T f) (hT : s.heap.get? T = some oT) (D : Its s.heap z TI i1 i2 a b i xs ys) (hx : xs[i]? = some x) (hy : ys[i]? = some y)
    (q : ∀ h', IsZipHeld h' z TI TO T true → h'.IsTupleIter i1 a (i + 1) → h'.IsTupleIter i2 b (i + 1) → IsTupOf2 h' s.heap.objs.size x y → h'.objs.size = s.heap.objs.size + 1 → (∀ c o, c ≠ z → c ≠ i1 → c ≠ i2 → s.heap.get? c = some o → h'.get? c = some o) → Q (some (.ref s.heap.objs.size)) { s with heap := h' }) :
    wpAny (model prog w) A (pyNext (.ref z)) Q E s := by
  have hTy : s.TypeIs (.ref z) "zip" := ⟨_, hz, rfl⟩
  have zi1 : z ≠ i1 := P.sep.zi1
  have zi2 : z ≠ i2 := P.sep.zi2
  have az : a ≠ z := fun e => P.sep.zf1 (by simp [e])
  have bz : b ≠ z := fun e => P.sep.zf2 (by simp [e])
  have i12 : i1 ≠ i2 := fun e => P.sep.sep1_2 (by simp [e])
  have b1 : b ≠ i1 := fun e => P.sep.sep1_2 (by simp [e])
  unfold pyNext
  refine wpAny_bind (wpAny_attempt (wpAny_callSpecial?_slot (name := Str.ofString "__next__") hTy F.slot_zip_next (wpAny_call_entry F.slot_zip_next hTy F.entry_zip_next ?_ (F.args_zip_next_1 _))))
  refine wpAny_bind (m := field (.ref z) 2) (wpAny_field hz rfl (x := .bool false) rfl (wpAny_bind (m := field (.ref z) 3) (wpAny_field hz rfl (x := .ref TI) rfl (wpAny_bind (wpAny_seqItems D.t rfl (wpAny_bind (m := Builtin.SmallTypes.ownedTupleIsFree (.ref z)) (wpAny_tupleHeld_zip hz hT fun g1 z1 e1 => ?_)))))))
  simp only [Bool.false_eq_true, if_false]
  refine wpAny_bind ?_
  rw [← Array.forIn_toList]
  simp only [List.forIn_cons, List.forIn_nil]
  refine wpAny_bind (wpAny_bind (wpAny_holding (wpAny_bind (m := Builtin.SmallTypes.nextOf (.ref i1)) (RZ.nextOf_tuple_item (s := { s with heap := g1 }) (D.x.extBut e1.extBut zi1.symm) (D.hx.extBut e1.extBut az) hx fun g2 z2 e2 => wpAny_pure (wpAny_pure ?_)))))
  refine wpAny_bind (wpAny_bind (wpAny_holding (wpAny_bind (m := Builtin.SmallTypes.nextOf (.ref i2)) (RZ.nextOf_tuple_item (s := { s with heap := g2 }) ((D.y.extBut e1.extBut zi2.symm).extBut e2.extBut i12.symm) ((D.hy.extBut e1.extBut bz).extBut e2.extBut b1) hy fun g3 z3 e3 => wpAny_pure (wpAny_pure (wpAny_pure ?_))))))
  refine wpAny_bind (m := newTuple [x, y]) (wpAny_newTuple (wpAny_pure ⟨_, rfl, wpAny_pure ?_⟩))
  have hsz : g3.objs.size = s.heap.objs.size := by rw [e3.1, e2.1, e1.1]
  have up : ∀ c o, g3.get? c = some o → (g3.push { cls := .type "tuple", data := .seq #[x, y] }).get? c = some o := fun c o e => Heap.get?_push_of_some _ e
  have new : (g3.push { cls := .type "tuple", data := .seq #[x, y] }).get? g3.objs.size = some { cls := .type "tuple", data := .seq #[x, y] } := Heap.get?_push_size _ rfl
  have nsz : (g3.push { cls := .type "tuple", data := .seq #[x, y] }).objs.size = g3.objs.size + 1 := Heap.size_push ..
  have zz : IsZipHeld g3 z TI TO T true := e3.extBut _ _ zi2 (e2.extBut _ _ zi1 z1)
  have kk : ∀ c o, c ≠ z → c ≠ i1 → c ≠ i2 → s.heap.get? c = some o → g3.get? c = some o := fun c o c1 c2 c3 e => e3.extBut _ _ c3 (e2.extBut _ _ c2 (e1.extBut _ _ c1 e))
  show Q (some (.ref g3.objs.size)) _
  rw [hsz] at new nsz ⊢
  exact q _ (up _ _ zz) ((z2.extBut e3.extBut i12).at fun o e => up _ o e) (z3.at fun o e => up _ o e) new nsz fun c o c1 c2 c3 e => up _ _ (kk c o c1 c2 c3 e)
theorem held_end {Q : Option Value → Shared → Prop} (hh : A.handled = none) (P : Apart z TI TO i1 i2 a b S) (hz : IsZipHeld s.heap z TI TO T f) (hT : s.heap.get? T = some oT) (D : Its s.heap z TI i1 i2 a b i xs ys) (hx : xs[i]? = none)
    (q : ∀ h', (∀ c o, c ≠ z → c ≠ i1 → c ≠ i2 → s.heap.get? c = some o → h'.get? c = some o) → Q none { s with heap := h' }) :
    wpAny (model prog w) A (pyNext (.ref z)) Q E s := by
  have hTy : s.TypeIs (.ref z) "zip" := ⟨_, hz, rfl⟩
  have zi1 : z ≠ i1 := P.sep.zi1
  have az : a ≠ z := fun e => P.sep.zf1 (by simp [e])
  unfold pyNext
  refine wpAny_bind (wpAny_attempt (wpAny_callSpecial?_slot (name := Str.ofString "__next__") hTy F.slot_zip_next (wpAny_call_entry F.slot_zip_next hTy F.entry_zip_next ?_ (F.args_zip_next_1 _))))
  refine wpAny_bind (m := field (.ref z) 2) (wpAny_field hz rfl (x := .bool false) rfl (wpAny_bind (m := field (.ref z) 3) (wpAny_field hz rfl (x := .ref TI) rfl (wpAny_bind (wpAny_seqItems D.t rfl (wpAny_bind (m := Builtin.SmallTypes.ownedTupleIsFree (.ref z)) (wpAny_tupleHeld_zip hz hT fun g1 z1 e1 => ?_)))))))
  simp only [Bool.false_eq_true, if_false]
  refine wpAny_bind ?_
  rw [← Array.forIn_toList]
  simp only [List.forIn_cons, List.forIn_nil]
  refine wpAny_bind (wpAny_bind (wpAny_holding (wpAny_bind (m := Builtin.SmallTypes.nextOf (.ref i1)) (RZ.nextOf_tuple_end (s := { s with heap := g1 }) hh (D.x.extBut e1.extBut zi1.symm) (D.hx.extBut e1.extBut az) hx fun g2 e e2 he => ?_))))
  obtain ⟨o, ho, hc⟩ := he
  exact wpAny_bind (wpAny_isInstance (T := "StopIteration") (b := true) ⟨o, ho, hc⟩ isSubtype_stop (wpAny_pure (q _ fun c o c1 c2 _ x => e2 _ _ c2 (e1.extBut _ _ c1 x))))
end
/-- what the zip knows of the tuple that it gave last -/
def Last (h : Heap) (z TI TO i1 i2 S : Addr) : Prop := (IsZip h z TI TO .none ∧ ∃ u v, IsTupOf2 h TO u v) ∨ ∃ T f oT, IsZipHeld h z TI TO T f ∧ h.get? T = some oT ∧ T ≠ S ∧ T ≠ z ∧ T ≠ i1 ∧ T ≠ i2
/-- the pairs made so far -/
structure Made (h : Heap) (lo : Addr) (xs ys : Array Value) (as : List Addr) : Prop where
  rise : as.Pairwise (· < ·)
  above : ∀ c ∈ as, lo < c
  pair : ∀ (j : Nat) (c : Addr), as[j]? = some c → ∃ x y, xs[j]? = some x ∧ ys[j]? = some y ∧ h.get? c = some { cls := .type "tuple", data := .seq #[x, y] }
theorem Made.there {h : Heap} {lo : Addr} {xs ys : Array Value} {as : List Addr} (m : Made h lo xs ys as) {c : Addr} (hc : c ∈ as) : c < h.objs.size := by
  obtain ⟨j, hj⟩ := List.mem_iff_getElem?.mp hc
  obtain ⟨_, _, _, _, e⟩ := m.pair j c hj
  exact Heap.lt_size e
theorem Made.keep {h h' : Heap} {lo : Addr} {xs ys : Array Value} {as : List Addr} (m : Made h lo xs ys as) (k : ∀ c o, lo < c → h.get? c = some o → h'.get? c = some o) : Made h' lo xs ys as :=
  ⟨m.rise, m.above, fun j c hj => let ⟨x, y, e1, e2, e3⟩ := m.pair j c hj; ⟨x, y, e1, e2, k _ _ (m.above c (List.mem_of_getElem? hj)) e3⟩⟩
theorem Made.snoc {h : Heap} {lo c : Addr} {xs ys : Array Value} {as : List Addr} {x y : Value} (m : Made h lo xs ys as) (hc : lo < c) (up : ∀ d ∈ as, d < c) (hx : xs[as.length]? = some x) (hy : ys[as.length]? = some y) (e : h.get? c = some { cls := .type "tuple", data := .seq #[x, y] }) : Made h lo xs ys (as ++ [c]) := by
  refine ⟨List.pairwise_append.mpr ⟨m.rise, List.pairwise_singleton _ _, fun d hd d' hd' => ?_⟩, fun d hd => ?_, fun j d hj => ?_⟩
  · rw [List.mem_singleton.mp hd']
    exact up d hd
  · rcases List.mem_append.mp hd with hd | hd
    · exact m.above d hd
    · rw [List.mem_singleton.mp hd]; exact hc
  · by_cases h1 : j < as.length
    · rw [List.getElem?_append_left h1] at hj
      exact m.pair j d hj
    · by_cases h2 : j = as.length
      · subst h2
        obtain rfl : c = d := by simpa using hj
        exact ⟨x, y, hx, hy, e⟩
      · rw [List.getElem?_eq_none (by rw [List.length_append, List.length_singleton]; omega)] at hj
        cases hj
section
variable {prog : Program} {w : World} {A : Around} {s : Shared} {R : Result → Shared → Prop} {z TI TO i1 i2 a b S : Addr} {xs ys : Array Value}
abbrev LsO (acc : Array Value) (c : Nat) : Obj := { cls := .type "list", dict := none, data := .seq acc c, slots := #[] }
theorem zl_loop (hh : A.handled = none) {B : Addr} (P : Apart z TI TO i1 i2 a b S) (lo : ∀ c ∈ [S, z, TI, TO, i1, i2, a, b], c ≤ B) (hsz : xs.size = ys.size) (hn : xs.size ≤ sizeLine) (res : Value) {h0 : Heap}
    (hR : ∀ h' tk acc c as, (∀ d o, d ∉ [S, z, TO, i1, i2] → h0.get? d = some o → h'.get? d = some o) → h'.get? S = some (LsO acc c) → as.length = xs.size → Made h' B xs ys as → acc.toList = as.map Value.ref → R (.ok (.ret res)) { s with heap := h', toks := tk }) :
    ∀ (k i : Nat) (h : Heap) (tk c : Nat) (acc : Array Value) (as : List Addr), xs.size - i = k → i ≤ xs.size → Its h z TI i1 i2 a b i xs ys → Last h z TI TO i1 i2 S → (∀ d o, d ∉ [S, z, TO, i1, i2] → h0.get? d = some o → h.get? d = some o) →
      h.get? S = some (LsO acc c) → acc.toList = as.map Value.ref → as.length = i → Made h B xs ys as → B < h.objs.size → codeAny (model prog w) A (.builtin "list.extend.loop" ⟨[.ref S, .ref z, res], []⟩) R { s with heap := h, toks := tk } := by
  have hhd : A.in1.in1.handled = none := hh
  have nS : S ≠ z := P.sz.symm
  intro k
  induction k with
  | zero =>
    intro i h tk c acc as hk hi D L kp hS ha hal M hz
    have hin : i = xs.size := by omega
    refine codeAny_builtin PySem.F.entry_extend_loop ?_
    rw [Around.under_plainId PySem.F.plain_extend_loop _]
    have fin : ∀ h' tk', (∀ c o, c ≠ z → c ≠ TO → c ≠ i1 → c ≠ i2 → h.get? c = some o → h'.get? c = some o) → R (.ok (.ret res)) { s with heap := h', toks := tk' } := fun h' tk' e => by
      refine hR h' tk' acc c as (fun d o hd q => e d o (fun x => hd (by simp [x])) (fun x => hd (by simp [x])) (fun x => hd (by simp [x])) (fun x => hd (by simp [x])) (kp d o hd q)) (e S _ nS P.sTO.symm P.s1.symm P.s2.symm hS) (by omega) (M.keep fun d o hd q => ?_) ha
      have hne : ∀ x ∈ [S, z, TI, TO, i1, i2, a, b], d ≠ x := fun x hx y => Nat.lt_irrefl B (Nat.lt_of_lt_of_le hd (y ▸ lo x hx))
      exact e d o (hne _ (by simp)) (hne _ (by simp)) (hne _ (by simp)) (hne _ (by simp)) q
    rcases L with ⟨hzz, u, v, hTO⟩ | ⟨T, f, oT, hzz, hT, _⟩
    · refine wpAny_bind (m := pyNext (.ref z)) (wpAny_pyNext_zipD2_end (A := A.in1) (s := { s with heap := h, toks := tk }) P.sep (Draws.tuple hhd i1 a P.na xs) (Draws.tuple hhd i2 b P.nb ys) hzz D.t hTO (i := i) ⟨D.x, D.hx⟩ ⟨D.y, D.hy⟩ (by omega) (by omega) (by omega) fun h' tk' e => wpAny_pure (fin h' tk' e))
    · refine wpAny_bind (m := pyNext (.ref z)) (held_end (A := A.in1) (s := { s with heap := h, toks := tk }) hh P hzz hT D (by rw [hin]; simp) fun h' e => wpAny_pure (fin h' tk fun c o c1 _ c3 c4 q => e c o c1 c3 c4 q))
  | succ k ih =>
    intro i h tk c acc as hk hi D L kp hS ha hal M hz
    have hlt : i < xs.size := by omega
    have hlt2 : i < ys.size := by omega
    have hasz : acc.size = i := by rw [← Array.length_toList, ha, List.length_map, hal]
    have hx : xs[i]? = some xs[i] := Array.getElem?_eq_getElem hlt
    have hy : ys[i]? = some ys[i] := Array.getElem?_eq_getElem hlt2
    have hSl : S < h.objs.size := Heap.lt_size hS
    refine codeAny_builtin PySem.F.entry_extend_loop ?_
    rw [Around.under_plainId PySem.F.plain_extend_loop _]
    have turn : ∀ (h' : Heap) (tk' : Nat) (x y : Value), xs[i]? = some x → ys[i]? = some y → (∀ h'' : Heap, (∀ d o, d ≠ S → h'.get? d = some o → h''.get? d = some o) → Last h'' z TI TO i1 i2 S) → h'.IsTupleIter i1 a (i + 1) → h'.IsTupleIter i2 b (i + 1) → IsTupOf2 h' h.objs.size x y → h'.objs.size = h.objs.size + 1 →
        (∀ c o, c ≠ z → c ≠ TO → c ≠ i1 → c ≠ i2 → h.get? c = some o → h'.get? c = some o) →
        wpAny (model prog w) A.in1 (updateSeq S (·.push (Value.ref h.objs.size)) >>= fun _ => pure (Fin.again (.builtin "list.extend.loop" ⟨[.ref S, .ref z, res], []⟩)))
          (fun (fin : Fin) s' => match fin with | .done f => R (.ok f) s' | .again c' => c'.quiet = true ∧ codeAny (model prog w) A c' R s') (fun e s' => R (.error e) s') { s with heap := h', toks := tk' } := fun h' tk' x y ex ey hzz n1 n2 hT nsz e => by
      have hS' := e S _ nS P.sTO.symm P.s1.symm P.s2.symm hS
      have upS : ∀ d o, d ≠ S → h'.get? d = some o → (h'.update S (Obj.mapSeq (·.push (Value.ref h.objs.size)))).get? d = some o := fun d o hd q => (Heap.get?_update_other _ _ (Ne.symm hd)).trans q
      have nz : ∀ d ∈ [S, z, TI, TO, i1, i2, a, b], h.objs.size ≠ d := fun d hd q => Nat.lt_irrefl B (Nat.lt_of_lt_of_le hz (q ▸ lo d hd))
      have zTI : TI ≠ z := P.sep.TIz
      have az : a ≠ z := fun e => P.sep.zf1 (by simp [e])
      have bz : b ≠ z := fun e => P.sep.zf2 (by simp [e])
      have aT : a ≠ TO := fun e => P.sep.Tf1 (by simp [e])
      have bT : b ≠ TO := fun e => P.sep.Tf2 (by simp [e])
      have a2 : a ≠ i2 := fun e => P.sep.sep2_1 (by simp [e])
      have b1 : b ≠ i1 := fun e => P.sep.sep1_2 (by simp [e])
      refine wpAny_bind (wpAny_updateSeq hS' rfl (wpAny_pure ⟨plainId_quiet PySem.F.plain_extend_loop _, ih (i + 1) _ tk' _ (acc.push (Value.ref h.objs.size)) (as ++ [h.objs.size]) (by omega) hlt ⟨upS _ _ P.sTI (e _ _ zTI P.sep.TITO P.sep.TIi1 P.sep.TIi2 D.t), n1.at fun o q => upS _ o P.s1 q, n2.at fun o q => upS _ o P.s2 q, ?_, ?_⟩ (hzz _ upS)
        (fun d o hd q => upS d o (fun x => hd (by simp [x])) (e d o (fun x => hd (by simp [x])) (fun x => hd (by simp [x])) (fun x => hd (by simp [x])) (fun x => hd (by simp [x])) (kp d o hd q))) (Heap.get?_update_self _ hS' rfl) (by rw [Array.toList_push, ha, List.map_append]; rfl) (by rw [List.length_append, hal]; rfl) ?_ ?_⟩) (by rw [hasz]; omega) (by show (acc.push (Value.ref h.objs.size)).size ≤ sizeLine + 1; rw [Array.size_push, hasz]; omega))
      · obtain ⟨o, ho, r⟩ := D.hx
        exact ⟨o, upS _ _ P.sa (e _ _ az aT P.na a2 ho), r⟩
      · obtain ⟨o, ho, r⟩ := D.hy
        exact ⟨o, upS _ _ P.sb (e _ _ bz bT b1 P.nb ho), r⟩
      · have M' : Made (h'.update S (Obj.mapSeq (·.push (Value.ref h.objs.size)))) B xs ys as := M.keep fun d o hd q => by
          have hne : ∀ x ∈ [S, z, TI, TO, i1, i2, a, b], d ≠ x := fun x hx y => Nat.lt_irrefl B (Nat.lt_of_lt_of_le hd (y ▸ lo x hx))
          exact upS d o (hne _ (by simp)) (e d o (hne _ (by simp)) (hne _ (by simp)) (hne _ (by simp)) (hne _ (by simp)) q)
        exact M'.snoc hz (fun d hd => M.there hd) (by rw [hal]; exact ex) (by rw [hal]; exact ey) (upS _ _ (nz _ (by simp)) hT)
      · exact Nat.lt_trans hz (Heap.lt_size (upS _ _ (nz _ (by simp)) hT))
    rcases L with ⟨hzz, u, v, hTO⟩ | ⟨T, f, oT, hzz, hT, hTs⟩
    · refine wpAny_bind (m := pyNext (.ref z)) (wpAny_pyNext_zipD2_item (A := A.in1) (s := { s with heap := h, toks := tk }) P.sep (Draws.tuple hhd i1 a P.na xs) (Draws.tuple hhd i2 b P.nb ys) hzz D.t hTO (i := i) ⟨D.x, D.hx⟩ ⟨D.y, D.hy⟩ hlt hlt2 fun x y h' tk' ex ey z' _ n1 n2 hT nsz e => ?_)
      have nz : ∀ d ∈ [S, z, TI, TO, i1, i2, a, b], h.objs.size ≠ d := fun d hd q => Nat.lt_irrefl B (Nat.lt_of_lt_of_le hz (q ▸ lo d hd))
      exact turn h' tk' x y ex ey (fun h'' up => .inr ⟨h.objs.size, false, _, up _ _ P.sz z', up _ _ (nz _ (by simp)) hT, nz _ (by simp), nz _ (by simp), nz _ (by simp), nz _ (by simp)⟩) n1.1 n2.1 hT nsz e
    · obtain ⟨t1, t2, t3, t4⟩ := hTs
      refine wpAny_bind (m := pyNext (.ref z)) (held_item (A := A.in1) (s := { s with heap := h, toks := tk }) P hzz hT D hx hy fun h' z' n1 n2 hT' nsz e => ?_)
      exact turn h' tk _ _ hx hy (fun h'' up => .inr ⟨T, true, oT, up _ _ P.sz z', up _ _ t1 (e _ _ t2 t3 t4 hT), t1, t2, t3, t4⟩) n1 n2 hT' nsz fun c o c1 _ c3 c4 q => e c o c1 c3 c4 q
end
theorem zip_len : typeLookup (.type "zip") "__len__" = pure none := by rw [typeLookup_type, builtinLookup_eq_fast]; kernel_rfl
theorem zip_lhint : typeLookup (.type "zip") "__length_hint__" = pure none := by rw [typeLookup_type, builtinLookup_eq_fast]; kernel_rfl
section
variable {prog : Program} {w : World} {A : Around} {E : Value → Shared → Prop} {s : Shared} {z TI TO i1 i2 a b S : Addr} {xs ys : Array Value}
theorem zl_hint {Q : Bool → Shared → Prop} (hT : s.TypeIs (.ref z) "zip") (h : Q true s) : wpAny (model prog w) A (Builtin.List.listLengthHint (.ref z)) Q E s := by
  unfold Builtin.List.listLengthHint
  refine wpAny_bind (wpAny_specialOf hT zip_len ?_)
  refine wpAny_ite_split (fun q => absurd q (by decide)) (fun _ => ?_)
  simp only [Option.isSome_none, Bool.false_eq_true, if_false]
  exact wpAny_bind (wpAny_specialOf hT zip_lhint (wpAny_pure h))
abbrev Goal (prog : Program) (w : World) (A : Around) (R : Result → Shared → Prop) (m : Sem Fin) (s : Shared) : Prop :=
  wpAny (model prog w) A.in1 m (fun (fin : Fin) s' => match fin with | .done f => R (.ok f) s' | .again c' => c'.quiet = true ∧ codeAny (model prog w) A c' R s') (fun e s' => R (.error e) s') s
theorem zl_extend {R : Result → Shared → Prop} (hh : A.handled = none) {B : Addr} (P : Apart z TI TO i1 i2 a b S) (hsz : xs.size = ys.size) (hn : xs.size ≤ sizeLine) (res : Value) (c0 : Nat) (lo : ∀ c ∈ [S, z, TI, TO, i1, i2, a, b], c < s.heap.objs.size)
    (hz : IsZip s.heap z TI TO .none) (hTO : ∃ u v, IsTupOf2 s.heap TO u v) (D : Its s.heap z TI i1 i2 a b 0 xs ys) (hS : s.heap.get? S = some (LsO #[] c0)) (lz : ∀ c ∈ [S, z, TI, TO, i1, i2, a, b], c ≤ B) (hB : B < s.heap.objs.size)
    (hR : ∀ h' tk acc c as, (∀ d o, d ∉ [S, z, TO, i1, i2] → s.heap.get? d = some o → h'.get? d = some o) → h'.get? S = some (LsO acc c) → as.length = xs.size → Made h' B xs ys as → acc.toList = as.map Value.ref → R (.ok (.ret res)) { s with heap := h', toks := tk }) :
    Goal prog w A R (Builtin.List.listExtendWith (.ref S) (.ref z) res) s := by
  have hT : s.TypeIs (.ref z) "zip" := ⟨_, hz, rfl⟩
  have nS : S ≠ z := P.sz.symm
  have key : ∀ (h : Heap) (c1 tk : Nat), (∀ d o, d ≠ S → s.heap.get? d = some o → h.get? d = some o) → h.get? S = some (LsO #[] c1) → B < h.objs.size → codeAny (model prog w) A (.builtin "list.extend.loop" ⟨[.ref S, .ref z, res], []⟩) R { s with heap := h, toks := tk } := fun h c1 tk k hS1 hlz => by
    obtain ⟨u, v, hTO⟩ := hTO
    refine zl_loop (s := s) (h0 := s.heap) hh P lz hsz hn res hR xs.size 0 h tk c1 #[] [] (Nat.sub_zero _) (Nat.zero_le _) (D.keep fun c o hc q => k c o (fun e => ?_) q) (.inl ⟨k _ _ P.sz hz, u, v, k _ _ P.sTO hTO⟩) (fun d o hd q => k d o (fun e => hd (by simp [e])) q) hS1 rfl rfl ⟨List.Pairwise.nil, (fun _ q => nomatch q), fun j c q => by simp at q⟩ hlz
    have hc' : c = TI ∨ c = i1 ∨ c = i2 ∨ c = a ∨ c = b := by simpa using hc
    rcases hc' with rfl | rfl | rfl | rfl | rfl
    · exact P.sTI e
    · exact P.s1 e
    · exact P.s2 e
    · exact P.sa e
    · exact P.sb e
  unfold Goal Builtin.List.listExtendWith
  refine wpAny_bind (wpAny_typeOf (T := "zip") hT ?_)
  have h1 : Builtin.List.listSameRef (.ref S) (.ref z) = false := by simp [Builtin.List.listSameRef, nS]
  have h2 : (Value.type "zip" == Value.type "list") = false := by decide
  have h3 : (Value.type "zip" == Value.type "tuple") = false := by decide
  simp only [h1, h2, h3, Bool.or_false, Bool.false_eq_true, if_false]
  refine wpAny_bind (wpAny_pyIter_zip hz (wpAny_bind (wpAny_holding (zl_hint hT ?_))))
  refine wpAny_ite_split (fun _ => ?_) (fun q => absurd rfl q)
  refine wpAny_bind (wpAny_rule (wpAny_bind (m := updateSeq S (·.push .none) >>= fun _ => updateSeq S (·.pop)) (wpAny_bind (wpAny_updateSeq hS rfl ?_))))
  have hS2 := Heap.get?_update_self (Obj.mapSeq (·.push Value.none)) hS rfl
  refine wpAny_updateSeq (hz := by seq_fits) hS2 rfl ?_
  have hS3 := Heap.get?_update_self (Obj.mapSeq (·.pop)) hS2 rfl
  have kp : ∀ d o, d ≠ S → s.heap.get? d = some o → ((s.heap.update S (Obj.mapSeq (·.push Value.none))).update S (Obj.mapSeq (·.pop))).get? d = some o := fun d o hd q => (Heap.get?_update_other _ _ (Ne.symm hd)).trans ((Heap.get?_update_other _ _ (Ne.symm hd)).trans q)
  exact wpAny_pure ⟨plainId_quiet PySem.F.plain_extend_loop _, key _ _ _ kp hS3 (by rw [Heap.size_update, Heap.size_update]; exact hB)⟩
theorem zl_init {R : Result → Shared → Prop} (hh : A.handled = none) {B : Addr} (P : Apart z TI TO i1 i2 a b S) (hsz : xs.size = ys.size) (hn : xs.size ≤ sizeLine) (lo : ∀ c ∈ [S, z, TI, TO, i1, i2, a, b], c < s.heap.objs.size)
    (hz : IsZip s.heap z TI TO .none) (hTO : ∃ u v, IsTupOf2 s.heap TO u v) (D : Its s.heap z TI i1 i2 a b 0 xs ys) (hS : s.heap.get? S = some { cls := .type "list", data := .seq #[] }) (lz : ∀ c ∈ [S, z, TI, TO, i1, i2, a, b], c ≤ B) (hB : B < s.heap.objs.size)
    (hR : ∀ h' tk acc c as, (∀ d o, d ∉ [S, z, TO, i1, i2] → s.heap.get? d = some o → h'.get? d = some o) → h'.get? S = some (LsO acc c) → as.length = xs.size → Made h' B xs ys as → acc.toList = as.map Value.ref → R (.ok (.ret .none)) { s with heap := h', toks := tk }) :
    Goal prog w A R (Builtin.«list.__init__» ⟨[.ref S, .ref z], []⟩) s := by
  show Goal prog w A R (do let old ← Builtin.List.listItems (.ref S); Builtin.List.listUpdate (.ref S) (fun _ => #[]); letGo old.toList.reverse; Builtin.List.listExtendWith (.ref S) (.ref z) .none) s
  unfold Goal Builtin.List.listItems
  refine wpAny_bind (wpAny_bind (wpAny_seqItems hS rfl (wpAny_pure (wpAny_bind (m := updateSeq S (fun _ => #[])) (wpAny_updateSeq hS rfl (wpAny_bind (m := letGo (#[] : Array Value).toList.reverse) (wpAny_letGo ?_)))))))
  have hS2 := Heap.get?_update_self (Obj.mapSeq (fun _ => (#[] : Array Value))) hS rfl
  have oth : ∀ d o, d ≠ S → s.heap.get? d = some o → (s.heap.update S (Obj.mapSeq (fun _ => (#[] : Array Value)))).get? d = some o := fun d o hd q => (Heap.get?_update_other _ _ (Ne.symm hd)).trans q
  obtain ⟨u, v, hTO⟩ := hTO
  refine zl_extend hh P hsz hn .none _ (fun c hc => by rw [Heap.size_update]; exact lo c hc) (oth _ _ P.sz hz) ⟨u, v, oth _ _ P.sTO hTO⟩ (D.keep fun c o hc q => oth c o (fun e => ?_) q) hS2 lz (by rw [Heap.size_update]; exact hB) fun h' tk acc c as hk => hR h' tk acc c as fun d o hd q => hk d o hd (oth d o (fun e => hd (by simp [e])) q)
  have hc' : c = TI ∨ c = i1 ∨ c = i2 ∨ c = a ∨ c = b := by simpa using hc
  rcases hc' with rfl | rfl | rfl | rfl | rfl
  · exact P.sTI e
  · exact P.s1 e
  · exact P.s2 e
  · exact P.sa e
  · exact P.sb e
/-- list(z), z a zip just made -/
theorem zl_call {Q : Value → Shared → Prop} (hh : A.handled = none) (S0 : ZipSep2 z TI TO i1 i2 [i1, a] [i2, b]) (na : a ≠ i1) (nb : b ≠ i2) (hsz : xs.size = ys.size) (hn : xs.size ≤ sizeLine) (lo : ∀ c ∈ [z, TI, TO, i1, i2, a, b], c < s.heap.objs.size)
    (hz : IsZip s.heap z TI TO .none) (hTO : ∃ u v, IsTupOf2 s.heap TO u v) (D : Its s.heap z TI i1 i2 a b 0 xs ys)
    (hQ : ∀ h' tk acc c as, (∀ d o, d ∉ [z, TO, i1, i2] → s.heap.get? d = some o → h'.get? d = some o) → h'.get? s.heap.objs.size = some (LsO acc c) → as.length = xs.size → Made h' s.heap.objs.size xs ys as → acc.toList = as.map Value.ref → Q (.ref s.heap.objs.size) { s with heap := h', toks := tk }) :
    wpAny (model prog w) A (call (.type "list") [.ref z]) Q E s := by
  refine callType_codes (Q₁ := fun obj s1 => obj = .ref s.heap.objs.size ∧ s1 = { s with heap := s.heap.push { cls := .type "list", data := .seq #[] } }) PySem.F.called_list (PySem.F.typeCall_list_1 _) PySem.F.entry_list_init (code_list_new _ ⟨rfl, rfl⟩) fun obj s1 h1 => ?_
  obtain ⟨rfl, rfl⟩ := h1
  have hS : (s.heap.push { cls := .type "list", data := .seq #[] }).get? s.heap.objs.size = some { cls := .type "list", data := .seq #[] } := Heap.get?_push_size _ rfl
  have up : ∀ d o, s.heap.get? d = some o → (s.heap.push { cls := .type "list", data := .seq #[] }).get? d = some o := fun d o e => Heap.get?_push_of_some _ e
  have ns : ∀ c ∈ [z, TI, TO, i1, i2, a, b], c ≠ s.heap.objs.size := fun c hc => Nat.ne_of_lt (lo c hc)
  have P : Apart z TI TO i1 i2 a b s.heap.objs.size := ⟨S0, na, nb, ns _ (by simp), ns _ (by simp), ns _ (by simp), ns _ (by simp), ns _ (by simp), ns _ (by simp), ns _ (by simp)⟩
  have sz : (s.heap.push { cls := .type "list", data := .seq #[] }).objs.size = s.heap.objs.size + 1 := Heap.size_push ..
  obtain ⟨u, v, hTO⟩ := hTO
  refine ⟨⟨_, hS, rfl⟩, PySem.F.args_list_init_2 _ _, zl_init (A := A.in1) (B := s.heap.objs.size) hh P hsz hn (fun c hc => ?_) (up _ _ hz) ⟨u, v, up _ _ hTO⟩ (D.keep fun c o _ q => up c o q) hS (fun c hc => ?_) (by rw [sz]; exact Nat.lt_succ_self _) fun h' tk acc c as hk hS' hl hM ha => ?_⟩
  · show c < (s.heap.push _).objs.size
    rw [sz]
    rcases List.mem_cons.mp hc with e | hc
    · rw [e]; exact Nat.lt_succ_self _
    · exact Nat.lt_succ_of_lt (lo c hc)
  · rcases List.mem_cons.mp hc with e | hc
    · rw [e]; exact Nat.le_refl _
    · exact Nat.le_of_lt (lo c hc)
  · exact ⟨rfl, hQ h' tk acc c as (fun d o hd e => hk d o (fun q => by
      rcases List.mem_cons.mp q with q | q
      · rw [q] at e
        exact Nat.lt_irrefl _ (Heap.lt_size e)
      · exact hd q) (up d o e)) hS' hl hM ha⟩
end
end HZ
/-! list(zip(t, u)): the rule of the hand layer -/
namespace HZ
open PySem PySem.Spec PyProof.Rows L2
/-- new pairs, tracked -/
def trk (H : Hp) : List (Addr × V × V) → Hp
  | [] => H
  | p :: r => upd (trk H r) p.1 (.tup [p.2.1, p.2.2])
theorem trk_out {H : Hp} {c : Addr} : ∀ {r : List (Addr × V × V)}, (∀ p ∈ r, p.1 ≠ c) → trk H r c = H c
  | [], _ => rfl
  | p :: r, h => by
    show upd (trk H r) p.1 _ c = _
    rw [upd_ne (fun e => h p (List.mem_cons_self ..) e.symm), trk_out fun q hq => h q (List.mem_cons_of_mem _ hq)]
theorem trk_in {H : Hp} {p : Addr × V × V} : ∀ {r : List (Addr × V × V)}, (r.map (·.1)).Nodup → p ∈ r → trk H r p.1 = some (.tup [p.2.1, p.2.2])
  | [], _, h => by cases h
  | q :: r, n, h => by
    show upd (trk H r) q.1 _ p.1 = _
    have n2 := List.nodup_cons.mp n
    rcases List.mem_cons.mp h with rfl | h
    · rw [upd_same]
    · rw [upd_ne (fun e => n2.1 (by show q.1 ∈ _; rw [← e]; exact List.mem_map_of_mem h)), trk_in n2.2 h]
theorem hok_add {P : Program} {w : World} {H : Hp} {h : Heap} {c : Addr} {o : HO} (x : HOk P w H h) (hn : H c = none) (new : ObjOk P w (upd H c o) h c o) : HOk P w (upd H c o) h := fun b u e => by
  by_cases hb : b = c
  · subst hb
    rw [upd_same] at e
    cases e
    exact new
  · rw [upd_ne hb] at e
    exact (x b u e).stay (fun _ _ _ q => q) (fun d q => by rw [upd_ne (ne_of_none q hn)]; exact q) fun d xs q => by rw [upd_ne (ne_of_none q hn)]; exact q
/-- a pair stands at p -/
def PairAt (h : Heap) (p : Addr × V × V) : Prop := ∃ u v, RelV p.2.1 u ∧ RelV p.2.2 v ∧ h.get? p.1 = some { cls := .type "tuple", data := .seq #[u, v] }
theorem trk_hok {P : Program} {w : World} {H : Hp} {h : Heap} (x : HOk P w H h) : ∀ {r : List (Addr × V × V)}, (r.map (·.1)).Nodup → (∀ p ∈ r, H p.1 = none ∧ PairAt h p) → HOk P w (trk H r) h
  | [], _, _ => x
  | p :: r, n, hp => by
    have n2 := List.nodup_cons.mp n
    have ih := trk_hok x n2.2 fun q hq => hp q (List.mem_cons_of_mem _ hq)
    obtain ⟨h1, u, v, ru, rv, e⟩ := hp p (List.mem_cons_self ..)
    refine hok_add ih ?_ ⟨by show 2 ≤ sizeLine; decide, [u, v], .cons ru (.cons rv .nil), ⟨_, e, rfl, _, rfl⟩⟩
    rw [trk_out fun q hq e => n2.1 (by show p.1 ∈ _; rw [← e]; exact List.mem_map_of_mem hq)]
    exact h1
theorem trk_same {H : Hp} {r : List (Addr × V × V)} (h : ∀ p ∈ r, H p.1 = none) : Same H (trk H r) := fun c o e => by
  rw [trk_out fun p hp z => by rw [← z, h p hp] at e; cases e]
  exact e
theorem vals_refs : ∀ as : List Addr, Vals (as.map V.ref) (as.map Value.ref)
  | [] => .nil
  | _ :: as => .cons rfl (vals_refs as)
def tLz (K : PySem.W.Frag) (ta : TA) : TE := fun σ H Q => ta σ H fun vs H1 => ∃ (a b : Addr) (xs ys : List V), vs = [.ref a, .ref b] ∧ SqT K H1 a xs ∧ SqT K H1 b ys ∧ xs.length = ys.length ∧
  ∀ H2 L (ps : List Addr), Same H1 H2 → H1 L = none → H2 L = some (.lst (ps.map V.ref)) → ps.length = xs.length → (∀ (j : Nat) (p : Addr), ps[j]? = some p → ∃ x y, xs[j]? = some x ∧ ys[j]? = some y ∧ H1 p = none ∧ p ≠ L ∧ H2 p = some (.tup [x, y])) → Q (.ref L) H2
theorem pe_lz {X : Cx} {e e2 : Expr} {ta : TA} {p pos p2 pos2 : Pos} (hc : X.calm = true) (hg : Gl X "list") (hm : X.mg "list" = none) (hg2 : Gl X "zip") (hm2 : X.mg "zip" = none) (ha : PA X [e, e2] ta)
    (hs : starEach [e, e2] X.env = (false, eval e X.env) :: starEach [e2] X.env := by rfl) (hpl : (backTo pos2 (starEach [e2] X.env)).any (·.1) = false := by rfl)
    (hs2 : starEach [.Call (.Name "zip" p2) [e, e2] [] pos2] X.env = (false, eval (.Call (.Name "zip" p2) [e, e2] [] pos2) X.env) :: starEach [] X.env := by rfl) :
    PE X (.Call (.Name "list" p) [.Call (.Name "zip" p2) [e, e2] [] pos2] [] pos) (tLz X.K ta) := by
  refine ⟨fun pins s σ H Q I h => Call_ (ld_blt I hg hm HL.boot_list (PyProof.Rows.callWith_type1 (args_cons (Call_ (ld_blt I hg2 hm2 PyProof.Rows.boot_zip (PyProof.Rows.callWith_type1 (thn (ha.run pos2 pins s σ H _ I h) fun us s1 ⟨vs, H1, I1, r1, q1⟩ => ?_) hs hpl))) hs2) hs2 rfl))⟩
  obtain ⟨a, b, xs, ys, rfl, hqx, hqy, hlen, q⟩ := q1
  cases r1 with
  | cons r rr =>
  cases rr with
  | cons r' rr =>
  cases rr
  cases r
  cases r'
  obtain ⟨its, rv, p1, hz1⟩ := I1.tuple hqx
  obtain ⟨its2, rv2, p3, hz2⟩ := I1.tuple hqy
  have l1 := rv.length
  have l2 := rv2.length
  have la : a < s1.heap.objs.size := p1.elim fun _ q => Heap.lt_size q.1
  have lb : b < s1.heap.objs.size := p3.elim fun _ q => Heap.lt_size q.1
  refine zip_begins2 (begins_tuple a its.toArray) (begins_tuple b its2.toArray) p1 p3 fun hz hzz hTI hTO g1 g2 hsz hk => args_nil ?_
  have S := ZM.sep_of s1.heap.objs.size a b la lb
  have zsz : hz.objs.size = s1.heap.objs.size + 5 := hsz
  refine zl_call (s := { s1 with heap := hz }) (xs := its.toArray) (ys := its2.toArray) (I.ok.hd hc) S (Nat.ne_of_lt la) (Nat.ne_of_lt (Nat.lt_succ_of_lt lb)) (by simp only [List.size_toArray]; omega) (by simp only [List.size_toArray]; omega) (fun c hc => ?_) hzz ⟨_, _, hTO⟩ ⟨hTI, ⟨_, g1, rfl, rfl⟩, ⟨_, g2, rfl, rfl⟩, p1.keeps hk, p3.keeps hk⟩ fun h' tk acc c as hk' hL hal M hacc => ?_
  · have hlt : ∀ x : Nat, x ≤ s1.heap.objs.size + 4 → x < hz.objs.size := fun x hx => by rw [zsz]; omega
    have hc' : c = s1.heap.objs.size + 4 ∨ c = s1.heap.objs.size + 2 ∨ c = s1.heap.objs.size + 3 ∨ c = s1.heap.objs.size ∨ c = s1.heap.objs.size + 1 ∨ c = a ∨ c = b := by simpa using hc
    have la' : @LT.lt Nat _ a s1.heap.objs.size := la
    have lb' : @LT.lt Nat _ b s1.heap.objs.size := lb
    rcases hc' with rfl | rfl | rfl | rfl | rfl | rfl | rfl
    · exact hlt _ (Nat.le_refl _)
    · exact hlt _ (by omega)
    · exact hlt _ (by omega)
    · exact hlt _ (by omega)
    · exact hlt _ (by omega)
    · exact hlt c (Nat.le_trans (Nat.le_of_lt la') (by omega))
    · exact hlt c (Nat.le_trans (Nat.le_of_lt lb') (by omega))
  · have kk : ∀ d o, s1.heap.get? d = some o → h'.get? d = some o := fun d o e => hk' d o (fun z => by
      have hd : @LT.lt Nat _ d s1.heap.objs.size := Heap.lt_size e
      have hc' : d = s1.heap.objs.size + 4 ∨ d = s1.heap.objs.size + 3 ∨ d = s1.heap.objs.size ∨ d = s1.heap.objs.size + 1 := by simpa using z
      rcases hc' with z | z | z | z
      · rw [z] at hd; exact absurd hd (by omega)
      · rw [z] at hd; exact absurd hd (by omega)
      · rw [z] at hd; exact absurd hd (by omega)
      · rw [z] at hd; exact absurd hd (by omega)) (hk d o e)
    have ik := I1.kept (t' := tk) kk
    have abv : ∀ d : Addr, hz.objs.size ≤ d → H1 d = none := fun d hd => I1.hok.fresh (Nat.le_trans (by show @LE.le Nat _ s1.heap.objs.size hz.objs.size; rw [zsz]; omega) hd)
    have alen : as.length = xs.length := by rw [hal, List.size_toArray, l1]
    obtain ⟨r, hr⟩ : ∃ r, r = as.zip (xs.zip ys) := ⟨_, rfl⟩
    have hrf : r.map (·.1) = as := by rw [hr, List.map_fst_zip]; rw [List.length_zip]; omega
    have hrn : (r.map (·.1)).Nodup := by rw [hrf]; exact M.rise.imp fun h => Nat.ne_of_lt h
    have hrp : ∀ (j : Nat) (p : Addr), as[j]? = some p → ∃ x y, xs[j]? = some x ∧ ys[j]? = some y ∧ (p, x, y) ∈ r ∧ PairAt h' (p, x, y) := fun j p hj => by
      have hjl : j < as.length := (List.getElem?_eq_some_iff.mp hj).1
      obtain ⟨u, v, hu, hv, e⟩ := M.pair j p hj
      have hx : xs[j]? = some xs[j] := List.getElem?_eq_getElem (by omega)
      have hy : ys[j]? = some ys[j] := List.getElem?_eq_getElem (by omega)
      obtain ⟨u', hu', ru⟩ := rv.get hx
      obtain ⟨v', hv', rv'⟩ := rv2.get hy
      have e1 : its[j]? = some u := by simpa using hu
      have e2 : its2[j]? = some v := by simpa using hv
      rw [hu'] at e1
      rw [hv'] at e2
      cases e1
      cases e2
      refine ⟨_, _, hx, hy, ?_, _, _, ru, rv', e⟩
      rw [hr]
      refine List.mem_iff_getElem?.mpr ⟨j, ?_⟩
      rw [List.getElem?_zip_eq_some]
      exact ⟨hj, by rw [List.getElem?_zip_eq_some]; exact ⟨hx, hy⟩⟩
    have hrm : ∀ p ∈ r, H1 p.1 = none ∧ PairAt h' p := fun p hp => by
      obtain ⟨j, hj⟩ := List.mem_iff_getElem?.mp hp
      rw [hr, List.getElem?_zip_eq_some, List.getElem?_zip_eq_some] at hj
      obtain ⟨x, y, hx, hy, _, hpa⟩ := hrp j p.1 hj.1
      rw [hj.2.1] at hx
      rw [hj.2.2] at hy
      cases hx
      cases hy
      exact ⟨abv _ (Nat.le_of_lt (M.above _ (List.mem_of_getElem? hj.1))), hpa⟩
    have ok1 := trk_hok ik.hok hrn hrm
    have nL : ∀ p ∈ r, p.1 ≠ hz.objs.size := fun p hp => by
      have : p.1 ∈ as := by rw [← hrf]; exact List.mem_map_of_mem hp
      exact Nat.ne_of_gt (M.above _ this)
    have hL0 : H1 hz.objs.size = none := abv _ (Nat.le_refl _)
    have hLt : trk H1 r hz.objs.size = none := by rw [trk_out nL]; exact hL0
    have hz0 : as.length ≤ sizeLine := by rw [alen]; exact hz1
    have ok2 : HOk X.prog X.w (upd (trk H1 r) hz.objs.size (.lst (as.map V.ref))) h' := hok_add ok1 hLt ⟨by rw [List.length_map]; exact hz0, as.map Value.ref, c, vals_refs as, by rw [← hacc]; exact hL⟩
    have sm1 := trk_same (H := H1) (r := r) fun p hp => (hrm p hp).1
    have sm : Same H1 (upd (trk H1 r) hz.objs.size (.lst (as.map V.ref))) := fun d o e => by
      rw [upd_ne (ne_of_none (sm1 _ _ e) hLt)]
      exact sm1 _ _ e
    refine ⟨.ref hz.objs.size, _, I1.un (t' := tk) (h' := h') ?_ ok2, rfl, q _ hz.objs.size as sm hL0 upd_same alen fun j p hj => ?_⟩
    · refine ⟨fun d o e _ _ _ => kk d o e, fun d o e _ _ _ => ⟨o.slots, kk d o e⟩, fun d o e n _ => ?_, fun d o e _ => ⟨o, kk d o e⟩, fun d us e => sm _ _ e, fun d o u e => sm _ _ e, fun d ps e => ⟨#[], by rw [sm _ _ e]; simp⟩⟩
      have hd : @LT.lt Nat _ d s1.heap.objs.size := Heap.lt_size e
      have hd2 : d < hz.objs.size := by show @LT.lt Nat _ d hz.objs.size; rw [zsz]; omega
      rw [upd_ne (Nat.ne_of_lt hd2), trk_out fun p hp z => ?_]
      · exact n
      · have : p.1 ∈ as := by rw [← hrf]; exact List.mem_map_of_mem hp
        exact Nat.lt_irrefl _ (Nat.lt_trans (z ▸ M.above _ this) hd2)
    · obtain ⟨x, y, hx, hy, hm, _⟩ := hrp j p hj
      have nLp := nL _ hm
      exact ⟨x, y, hx, hy, (hrm _ hm).1, nLp, by rw [upd_ne nLp]; exact trk_in hrn hm⟩
end HZ
namespace Q25
open PySem PySem.Spec PyProof.Rows L2 SX HL
def topS (i : Nat) : Stmt := PySem.Challenge.pw_quillrun_k25_values.main.body.getD i (.Pass ⟨0, 0, 0, 0⟩)
abbrev sForm : Stmt := topS 4
theorem scForm : FnScope ["value"] ["value"] (defScope sForm) := ⟨rfl, rfl, rfl, by decide +kernel, rfl, by decide +kernel, by decide +kernel⟩
abbrev sInner : Stmt := topS 5
theorem scInner : FnScope ["value"] ["value"] (defScope sInner) := ⟨rfl, rfl, rfl, by decide +kernel, rfl, by decide +kernel, by decide +kernel⟩
abbrev sBare : Stmt := topS 6
theorem scBare : FnScope ["value"] ["value"] (defScope sBare) := ⟨rfl, rfl, rfl, by decide +kernel, rfl, by decide +kernel, by decide +kernel⟩
abbrev sSame : Stmt := topS 7
theorem scSame : FnScope ["first", "second", "waiting", "one", "other"] ["first", "second"] (defScope sSame) := ⟨rfl, rfl, rfl, by decide +kernel, rfl, by decide +kernel, by decide +kernel⟩
abbrev sSize : Stmt := topS 8
theorem scSize : FnScope ["value", "total", "waiting", "part"] ["value"] (defScope sSize) := ⟨rfl, rfl, rfl, by decide +kernel, rfl, by decide +kernel, by decide +kernel⟩
abbrev sDepth : Stmt := topS 9
theorem scDepth : FnScope ["value", "deepest", "level", "upper", "part"] ["value"] (defScope sDepth) := ⟨rfl, rfl, rfl, by decide +kernel, rfl, by decide +kernel, by decide +kernel⟩
abbrev sIsLarge : Stmt := topS 10
theorem scIsLarge : FnScope ["value"] ["value"] (defScope sIsLarge) := ⟨rfl, rfl, rfl, by decide +kernel, rfl, by decide +kernel, by decide +kernel⟩
abbrev sWriteValue : Stmt := topS 11
theorem scWriteValue : FnScope ["value"] ["value"] (defScope sWriteValue) := ⟨rfl, rfl, rfl, by decide +kernel, rfl, by decide +kernel, by decide +kernel⟩
abbrev sWriteParts : Stmt := topS 12
theorem scWriteParts : FnScope ["values", "value"] ["values"] (defScope sWriteParts) := ⟨rfl, rfl, rfl, by decide +kernel, rfl, by decide +kernel, by decide +kernel⟩
abbrev sLawNext : Stmt := topS 14
theorem scLawNext : FnScope ["state", "limit", "cell", "value"] ["state", "limit"] (defScope sLawNext) := ⟨rfl, rfl, rfl, by decide +kernel, rfl, by decide +kernel, by decide +kernel⟩
abbrev sLawSame : Stmt := topS 15
theorem scLawSame : FnScope ["actual", "expected", "k"] ["actual", "expected"] (defScope sLawSame) := ⟨rfl, rfl, rfl, by decide +kernel, rfl, by decide +kernel, by decide +kernel⟩
abbrev sLawChar : Stmt := topS 16
theorem scLawChar : FnScope ["index", "chars"] ["index"] (defScope sLawChar) := ⟨rfl, rfl, rfl, by decide +kernel, rfl, by decide +kernel, by decide +kernel⟩
abbrev sLawScalar : Stmt := topS 17
theorem scLawScalar : FnScope ["state", "pick", "k"] ["state"] (defScope sLawScalar) := ⟨rfl, rfl, rfl, by decide +kernel, rfl, by decide +kernel, by decide +kernel⟩
abbrev sLawValue : Stmt := topS 18
theorem scLawValue : FnScope ["state", "levels", "pick", "items", "k"] ["state", "levels"] (defScope sLawValue) := ⟨rfl, rfl, rfl, by decide +kernel, rfl, by decide +kernel, by decide +kernel⟩
abbrev sLawGreat : Stmt := topS 19
theorem scLawGreat : FnScope ["state", "pick", "value", "k"] ["state"] (defScope sLawGreat) := ⟨rfl, rfl, rfl, by decide +kernel, rfl, by decide +kernel, by decide +kernel⟩
abbrev sLawTurned : Stmt := topS 20
theorem scLawTurned : FnScope ["state", "value", "parts", "pick", "place"] ["state", "value"] (defScope sLawTurned) := ⟨rfl, rfl, rfl, by decide +kernel, rfl, by decide +kernel, by decide +kernel⟩
abbrev sLawParts : Stmt := topS 21
theorem scLawParts : FnScope ["value"] ["value"] (defScope sLawParts) := ⟨rfl, rfl, rfl, by decide +kernel, rfl, by decide +kernel, by decide +kernel⟩
abbrev sLawSize : Stmt := topS 22
theorem scLawSize : FnScope ["value", "total", "part"] ["value"] (defScope sLawSize) := ⟨rfl, rfl, rfl, by decide +kernel, rfl, by decide +kernel, by decide +kernel⟩
abbrev sLawDepth : Stmt := topS 23
theorem scLawDepth : FnScope ["value", "deepest", "part"] ["value"] (defScope sLawDepth) := ⟨rfl, rfl, rfl, by decide +kernel, rfl, by decide +kernel, by decide +kernel⟩
abbrev sLawWritten : Stmt := topS 24
theorem scLawWritten : FnScope ["value", "inner_v", "part"] ["value"] (defScope sLawWritten) := ⟨rfl, rfl, rfl, by decide +kernel, rfl, by decide +kernel, by decide +kernel⟩
abbrev sLawTold : Stmt := topS 25
theorem scLawTold : FnScope ["value", "large"] ["value"] (defScope sLawTold) := ⟨rfl, rfl, rfl, by decide +kernel, rfl, by decide +kernel, by decide +kernel⟩
abbrev sLaw : Stmt := topS 26
theorem scLaw : FnScope ["script", "state", "first", "second", "pick", "alike"] ["script"] (defScope sLaw) := ⟨rfl, rfl, rfl, by decide +kernel, rfl, by decide +kernel, by decide +kernel⟩
/-- what the top has written -/
structure Defs (K : PySem.W.Frag) (mg : Str → Option Value) where
  abs : mg "abs" = none
  bool : mg "bool" = none
  int : mg "int" = none
  isinstance : mg "isinstance" = none
  len : mg "len" = none
  list : mg "list" = none
  max : mg "max" = none
  range : mg "range" = none
  str : mg "str" = none
  tuple : mg "tuple" = none
  zip : mg "zip" = none
  kTOO_LARGE : ∃ t, mg "TOO_LARGE" = some (.int 1267650600228229401496703205376 t)
  kMOST_SIZE : ∃ t, mg "MOST_SIZE" = some (.int 1000 t)
  kMOST_DEPTH : ∃ t, mg "MOST_DEPTH" = some (.int 40 t)
  fForm : Addr
  fdForm : FuncData
  DForm : DefN K mg "form" sForm ["value"] fForm fdForm
  fInner : Addr
  fdInner : FuncData
  DInner : DefN K mg "inner" sInner ["value"] fInner fdInner
  fBare : Addr
  fdBare : FuncData
  DBare : DefN K mg "bare" sBare ["value"] fBare fdBare
  fSame : Addr
  fdSame : FuncData
  DSame : DefN K mg "same" sSame ["first", "second"] fSame fdSame
  fSize : Addr
  fdSize : FuncData
  DSize : DefN K mg "size" sSize ["value"] fSize fdSize
  fDepth : Addr
  fdDepth : FuncData
  DDepth : DefN K mg "depth" sDepth ["value"] fDepth fdDepth
  fIsLarge : Addr
  fdIsLarge : FuncData
  DIsLarge : DefN K mg "is_large" sIsLarge ["value"] fIsLarge fdIsLarge
  fWriteValue : Addr
  fdWriteValue : FuncData
  DWriteValue : DefN K mg "write_value" sWriteValue ["value"] fWriteValue fdWriteValue
  fWriteParts : Addr
  fdWriteParts : FuncData
  DWriteParts : DefN K mg "write_parts" sWriteParts ["values"] fWriteParts fdWriteParts
  fLawNext : Addr
  fdLawNext : FuncData
  DLawNext : DefN K mg "_law_next" sLawNext ["state", "limit"] fLawNext fdLawNext
  fLawSame : Addr
  fdLawSame : FuncData
  DLawSame : DefN K mg "_law_same" sLawSame ["actual", "expected"] fLawSame fdLawSame
  fLawChar : Addr
  fdLawChar : FuncData
  DLawChar : DefN K mg "_law_char" sLawChar ["index"] fLawChar fdLawChar
  fLawScalar : Addr
  fdLawScalar : FuncData
  DLawScalar : DefN K mg "_law_scalar" sLawScalar ["state"] fLawScalar fdLawScalar
  fLawValue : Addr
  fdLawValue : FuncData
  DLawValue : DefN K mg "_law_value" sLawValue ["state", "levels"] fLawValue fdLawValue
  fLawGreat : Addr
  fdLawGreat : FuncData
  DLawGreat : DefN K mg "_law_great" sLawGreat ["state"] fLawGreat fdLawGreat
  fLawTurned : Addr
  fdLawTurned : FuncData
  DLawTurned : DefN K mg "_law_turned" sLawTurned ["state", "value"] fLawTurned fdLawTurned
  fLawParts : Addr
  fdLawParts : FuncData
  DLawParts : DefN K mg "_law_parts" sLawParts ["value"] fLawParts fdLawParts
  fLawSize : Addr
  fdLawSize : FuncData
  DLawSize : DefN K mg "_law_size" sLawSize ["value"] fLawSize fdLawSize
  fLawDepth : Addr
  fdLawDepth : FuncData
  DLawDepth : DefN K mg "_law_depth" sLawDepth ["value"] fLawDepth fdLawDepth
  fLawWritten : Addr
  fdLawWritten : FuncData
  DLawWritten : DefN K mg "_law_written" sLawWritten ["value"] fLawWritten fdLawWritten
  fLawTold : Addr
  fdLawTold : FuncData
  DLawTold : DefN K mg "_law_told" sLawTold ["value"] fLawTold fdLawTold
  fLaw : Addr
  fdLaw : FuncData
  DLaw : DefN K mg "law" sLaw ["script"] fLaw fdLaw
end Q25
namespace RPL
open PySem PySem.Spec PyProof.Rows L2 SX HL
section
variable {X : Cx}
/-- c + z.replace(a, b), a and b not the same -/
theorem pe_cat_repl {e : Expr} {te : TE} {c a b : Str} {k0 k1 k2 : Nat} {p0 p1 p2 ap cp pos : Pos} (he : PE X e te) (hab : (a == b) = false)
    (hs : starEach [.Constant (.str a) k1 p1, .Constant (.str b) k2 p2] X.env = (false, eval (.Constant (.str a) k1 p1) X.env) :: (false, eval (.Constant (.str b) k2 p2) X.env) :: [] := by rfl)
    (hbase : attributeBase e "replace" X.env (eval e X.env) = eval e X.env := by rfl)
    (hfew : ((backTo cp (starEach [.Constant (.str a) k1 p1, .Constant (.str b) k2 p2] X.env)).all (fun x => !x.1) && (backToKw cp (keywordEach [] X.env)).all (fun x => x.1.isSome)
      && decide (([.Constant (.str a) k1 p1, .Constant (.str b) k2 p2] : List Expr).length + ([] : List Keyword).length + (if ([] : List Keyword).isEmpty then 0 else 1) < 30)) = true := by rfl)
    (hline : (ap.endLine == cp.line) = true := by rfl) :
    PE X (.BinOp (.Constant (.str c) k0 p0) .Add (.Call (.Attribute e "replace" ap) [.Constant (.str a) k1 p1, .Constant (.str b) k2 p2] [] cp) pos)
      (fun σ H Q => te σ H fun x H1 => ∃ z : Str, x = .str z ∧ z.length + (z.length + 1) * b.length ≤ 16777216 ∧ c.length + (PySem.Txt.replace z a b).length ≤ sizeLine ∧ Q (.str (c ++ PySem.Txt.replace z a b)) H1) := by
  refine ⟨fun pins s σ H Q I h => ?_⟩
  refine wpAny_BinOp (Calls.Constant_str ?_)
  have I0 : L2.Inv X pins σ H { s with toks := s.toks + 1 } := I.tok _
  refine wpAny_Call_method_late hbase hfew hline rfl (wpAny_mono (PySem.wpAny_toks (he.run pins _ σ H _ I0 h)) (fun v s1 hh => ?_) fun _ _ x => x.2)
  obtain ⟨ht, x, H1, I1, r1, z, rfl, hz, hz2, q⟩ := hh
  obtain ⟨t, rfl⟩ := _root_.id r1
  refine ⟨"str", _, F.plainAttrs_str, F.slot_str_replace, F.type_str_replace, typeIs_str _ _ _, (fun _ e => nomatch e), ?_⟩
  rw [hs]
  refine Calls.callWith_builtin rfl (Calls.evalArgs_plain (Calls.spliced_cons (Calls.Constant_str (k := k1) (pos := p1) (Calls.spliced_cons (Calls.Constant_str (k := k2) (pos := p2) (Calls.spliced_nil ?_))))))
  have h1 : 1 ≤ s1.toks := Nat.le_trans (Nat.le_add_left 1 s.toks) ht
  refine PySem.SC.replace (show ¬ s1.toks = (0 : Nat) from by omega) (show ¬ s1.toks + 1 = (0 : Nat) from by omega) (show ¬ s1.toks = s1.toks + 1 from by omega) hab hz fun t' k => ?_
  exact op_add_str pins _ σ H1 (.str c) (.str (PySem.Txt.replace z a b)) _ _ Q (I1.tok _) ⟨_, rfl⟩ ⟨_, rfl⟩ ⟨_, _, rfl, rfl, hz2, q⟩
/-- a text, n times, any n -/
theorem op_mul_strN : OpR X (binaryOp .Mult) (fun x y H Q => ∃ (l : List Nat) (n : Nat), x = .str (S l) ∧ y = .int (n : Int) ∧ n ≤ 2000 ∧ 1 ≤ l.length ∧ l.length ≤ 1000 ∧ Q (.str (S (List.replicate n l).flatten)) H) := by
  intro pins s σ H x y v u Q I rx ry h
  obtain ⟨l, n, rfl, rfl, h3, h4, h5, q⟩ := h
  obtain ⟨t, rfl⟩ := rx
  obtain ⟨t', rfl⟩ := ry
  have hl : (S l).length = l.length := S_len l
  have hsz : l.length * n ≤ 2000000 := Nat.le_trans (Nat.mul_le_mul h5 h3) (by decide)
  have b1 : decide ((n : Int) < -(2 ^ 63 : Int)) = false := decide_eq_false (by omega)
  have b2 : decide ((n : Int) ≥ 2 ^ 63) = false := decide_eq_false (by omega)
  refine PySem.P.mul_str (by rw [b1, b2]; rfl) (fun hn _ => ?_) (fun _ _ => by rw [hl]; exact decide_eq_false (by rw [sizeLine_eq, Int.toNat_natCast]; omega)) ?_
  · rw [hl]
    have hp : (l.length : Int) * (n : Int) ≤ 2000000 := by
      have := Int.ofNat_le.mpr hsz
      rw [Int.natCast_mul] at this
      exact this
    have := Int.le_ediv_of_mul_le (show (0 : Int) < (n : Int) by omega) (show (l.length : Int) * (n : Int) ≤ 2 ^ 63 - 1 from Int.le_trans hp (by decide))
    omega
  · by_cases h0 : (n : Int) < 1
    · rw [if_pos h0]
      have : n = 0 := by omega
      subst this
      exact ⟨by decide, .str Str.empty, H, I.tok _, ⟨_, rfl⟩, q⟩
    · rw [if_neg h0]
      by_cases h1 : n = 1
      · subst h1
        have e1 : (((1 : Nat) : Int) == 1 || (S l).length == 0) = true := rfl
        rw [if_pos e1]
        refine ⟨.str (S l), H, I, ⟨_, rfl⟩, ?_⟩
        have : (List.replicate 1 l).flatten = l := by simp
        rw [this] at q
        exact q
      · have e1 : ((n : Int) == 1 || (S l).length == 0) = false := by
          rw [hl]
          have a1 : ((n : Int) == 1) = false := by simp; omega
          have a2 : (l.length == 0) = false := by simp; intro z; rw [z] at h4; simp at h4
          rw [a1, a2]; rfl
        rw [if_neg (by rw [e1]; simp)]
        have ef : (⟨(List.replicate (n : Int).toNat (S l).cps).foldl (· ++ ·) #[]⟩ : Str) = S (List.replicate n l).flatten := by
          have : ((List.replicate (n : Int).toNat (S l).cps).foldl (· ++ ·) (#[] : Array Nat)) = ((List.replicate n l).flatten).toArray := by
            apply Array.ext'
            rw [rep_fold]
            simp
          rw [this]
        rw [ef]
        refine ⟨?_, .str _, H, I.tok _, ⟨_, rfl⟩, q⟩
        rw [S_len, sizeLine_eq]
        simp
        rw [Nat.mul_comm]
        omega
end
end RPL
namespace Q25
open PySem PySem.Spec PyProof.Rows L2 SX HL
/-! ### values -/
inductive Va
  | bl (b : Bool)
  | num (i : Int)
  | txt (z : Str)
  | lst (vs : List Va)
  | mk (m : Str) (vs : List Va)
mutual
def VaAt (H : Hp) : Va → V → Prop
  | .bl b, x => x = .bl b
  | .num i, x => x = .int i
  | .txt z, x => x = .str z
  | .lst vs, x => ∃ t q us, x = .ref t ∧ H t = some (.tup [.str "list", .ref q]) ∧ H q = some (.tup us) ∧ VasAt H vs us
  | .mk m vs, x => ∃ t q us, x = .ref t ∧ H t = some (.tup [.str "make", .str m, .ref q]) ∧ H q = some (.tup us) ∧ VasAt H vs us
def VasAt (H : Hp) : List Va → List V → Prop
  | [], us => us = []
  | v :: vs, us => ∃ u r, us = u :: r ∧ VaAt H v u ∧ VasAt H vs r
end
def TupK (H H' : Hp) : Prop := ∀ a xs, H a = some (.tup xs) → H' a = some (.tup xs)
theorem TupK.refl {H : Hp} : TupK H H := fun _ _ h => h
theorem TupK.tr {H H1 H2 : Hp} (a : TupK H H1) (b : TupK H1 H2) : TupK H H2 := fun z o h => b z o (a z o h)
theorem TupK.of {H H' : Hp} (s : Same H H') : TupK H H' := fun a xs h => s a _ h
theorem tk_lst {H : Hp} {D : Addr} {acc : List V} {o : HO} (h : H D = some (.lst acc)) : TupK H (upd H D o) := fun a xs e => by
  rw [upd_ne (fun z => by rw [z, h] at e; cases e)]
  exact e
mutual
theorem VaAt.keep {H H' : Hp} (k : TupK H H') : ∀ {v : Va} {x : V}, VaAt H v x → VaAt H' v x
  | .bl _, _, h => h
  | .num _, _, h => h
  | .txt _, _, h => h
  | .lst vs, _, ⟨t, q, us, e, h1, h2, h3⟩ => ⟨t, q, us, e, k _ _ h1, k _ _ h2, VasAt.keep k h3⟩
  | .mk m vs, _, ⟨t, q, us, e, h1, h2, h3⟩ => ⟨t, q, us, e, k _ _ h1, k _ _ h2, VasAt.keep k h3⟩
theorem VasAt.keep {H H' : Hp} (k : TupK H H') : ∀ {vs : List Va} {us : List V}, VasAt H vs us → VasAt H' vs us
  | [], _, h => h
  | v :: vs, _, ⟨u, r, e, h1, h2⟩ => ⟨u, r, e, VaAt.keep k h1, VasAt.keep k h2⟩
end
theorem VasAt.all {H : Hp} : ∀ {vs : List Va} {us : List V}, VasAt H vs us → All2 (fun u v => VaAt H v u) us vs
  | [], _, h => by rw [show _ = [] from h]; exact .nil
  | v :: vs, _, ⟨u, r, e, h1, h2⟩ => by rw [e]; exact .cons h1 h2.all
theorem VasAt.of {H : Hp} : ∀ {vs : List Va} {us : List V}, All2 (fun u v => VaAt H v u) us vs → VasAt H vs us
  | [], _, .nil => rfl
  | _ :: _, _, .cons a h => ⟨_, _, rfl, a, VasAt.of h⟩
mutual
/-- the size, the depth; how deep a comparison goes -/
def Va.siz : Va → Nat
  | .bl _ => 1
  | .num _ => 1
  | .txt z => 1 + z.length
  | .lst vs => 1 + sizs vs
  | .mk _ vs => 1 + sizs vs
def sizs : List Va → Nat
  | [] => 0
  | v :: vs => v.siz + sizs vs
end
mutual
def Va.dep : Va → Nat
  | .bl _ => 1
  | .num _ => 1
  | .txt _ => 1
  | .lst vs => 1 + deps vs
  | .mk _ vs => 1 + deps vs
def deps : List Va → Nat
  | [] => 0
  | v :: vs => max v.dep (deps vs)
end
mutual
/-- its numbers are not too large; its makers are short -/
def Va.ok (B : Nat) : Va → Prop
  | .bl _ => True
  | .num i => i.natAbs ≤ B
  | .txt z => PyData.strOk z = true
  | .lst vs => oks B vs
  | .mk m vs => m.length ≤ 10 ∧ PyData.strOk m = true ∧ oks B vs
def oks (B : Nat) : List Va → Prop
  | [] => True
  | v :: vs => v.ok B ∧ oks B vs
end
def Va.parts : Va → List Va
  | .lst vs => vs
  | .mk _ vs => vs
  | _ => []
def Va.form : Va → Str
  | .bl _ => "bool"
  | .num _ => "num"
  | .txt _ => "text"
  | .lst _ => "list"
  | .mk _ _ => "make"
theorem oks_all {B : Nat} : ∀ {vs : List Va}, oks B vs → ∀ v ∈ vs, v.ok B
  | v :: vs, h, x, hx => by
    rcases List.mem_cons.mp hx with rfl | hx
    · exact h.1
    · exact oks_all h.2 x hx
theorem oks_of {B : Nat} : ∀ {vs : List Va}, (∀ v ∈ vs, v.ok B) → oks B vs
  | [], _ => trivial
  | v :: vs, h => ⟨h v (List.mem_cons_self ..), oks_of fun x hx => h x (List.mem_cons_of_mem _ hx)⟩
theorem Va.parts_ok {B : Nat} {v : Va} (h : v.ok B) : ∀ p ∈ v.parts, p.ok B := by
  cases v with
  | lst vs => exact oks_all h
  | mk m vs => exact oks_all h.2.2
  | _ => intro p hp; cases hp
theorem siz_pos (v : Va) : 1 ≤ v.siz := by
  cases v <;> simp only [Va.siz] <;> omega
theorem dep_pos (v : Va) : 1 ≤ v.dep := by
  cases v <;> simp only [Va.dep] <;> omega
theorem sizs_len : ∀ vs : List Va, vs.length ≤ sizs vs
  | [] => Nat.le_refl _
  | v :: vs => by
    have := siz_pos v
    have := sizs_len vs
    rw [List.length_cons, sizs]
    omega
theorem sizs_app : ∀ a b : List Va, sizs (a ++ b) = sizs a + sizs b
  | [], b => by rw [List.nil_append, sizs]; omega
  | v :: a, b => by rw [List.cons_append, sizs, sizs, sizs_app a b]; omega
theorem deps_app : ∀ a b : List Va, deps (a ++ b) = max (deps a) (deps b)
  | [], b => by rw [List.nil_append, deps]; omega
  | v :: a, b => by rw [List.cons_append, deps, deps, deps_app a b]; omega
theorem siz_mem : ∀ {vs : List Va} {v : Va}, v ∈ vs → v.siz ≤ sizs vs
  | w :: vs, v, h => by
    rw [sizs]
    rcases List.mem_cons.mp h with rfl | h
    · omega
    · have := siz_mem h
      omega
theorem dep_mem : ∀ {vs : List Va} {v : Va}, v ∈ vs → v.dep ≤ deps vs
  | w :: vs, v, h => by
    rw [deps]
    rcases List.mem_cons.mp h with rfl | h
    · omega
    · have := dep_mem h
      omega
theorem parts_siz (v : Va) : 1 + sizs v.parts ≤ v.siz := by
  cases v <;> simp only [Va.siz, Va.parts, sizs] <;> omega
theorem parts_dep (v : Va) : 1 + deps v.parts = v.dep := by
  cases v <;> simp only [Va.dep, Va.parts, deps]
/-- what is held of every value -/
structure Fine (B : Nat) (v : Va) : Prop where
  ok : v.ok B
  siz : v.siz ≤ 8000
  dep : v.dep ≤ 50
theorem Fine.part {B : Nat} {v p : Va} (h : Fine B v) (hp : p ∈ v.parts) : Fine B p ∧ p.dep < v.dep := by
  have h1 := siz_mem hp
  have h2 := dep_mem hp
  have h3 := parts_siz v
  have h4 := parts_dep v
  have h5 := h.siz
  have h6 := h.dep
  exact ⟨⟨Va.parts_ok h.ok p hp, by omega, by omega⟩, by omega⟩
/-- the tuple of its parts -/
theorem VaAt.sub {H : Hp} {v : Va} {x : V} (h : VaAt H v x) : (v.parts = [] ∧ (∀ t, x ≠ .ref t)) ∨ ∃ t r q us, x = .ref t ∧ H t = some (.tup (r ++ [.ref q])) ∧ (r = [.str "list"] ∨ ∃ m, r = [.str "make", .str m]) ∧ H q = some (.tup us) ∧ All2 (fun u v => VaAt H v u) us v.parts := by
  cases v with
  | bl b => exact .inl ⟨rfl, fun t e => by rw [show x = _ from h] at e; cases e⟩
  | num b => exact .inl ⟨rfl, fun t e => by rw [show x = _ from h] at e; cases e⟩
  | txt b => exact .inl ⟨rfl, fun t e => by rw [show x = _ from h] at e; cases e⟩
  | lst vs => obtain ⟨t, q, us, e, h1, h2, h3⟩ := h; exact .inr ⟨t, [.str "list"], q, us, e, h1, .inl rfl, h2, h3.all⟩
  | mk m vs => obtain ⟨t, q, us, e, h1, h2, h3⟩ := h; exact .inr ⟨t, [.str "make", .str m], q, us, e, h1, .inr ⟨m, rfl⟩, h2, h3.all⟩
def Va.ty : Va → String
  | .bl _ => "bool"
  | .num _ => "int"
  | .txt _ => "str"
  | _ => "tuple"
theorem VaAt.tyx {K : PySem.W.Frag} {H : Hp} {v : Va} {x : V} (h : VaAt H v x) : TyX K H x (.type v.ty) := by
  cases v with
  | bl b => rw [show x = _ from h]; exact .base (.bl b)
  | num b => rw [show x = _ from h]; exact .base (.int b)
  | txt b => rw [show x = _ from h]; exact .base (.str b)
  | lst vs => obtain ⟨t, q, us, rfl, h1, _⟩ := h; exact .base (.tup h1)
  | mk m vs => obtain ⟨t, q, us, rfl, h1, _⟩ := h; exact .base (.tup h1)
end Q25
namespace Q25
open PySem PySem.Spec PyProof.Rows L2 SX HL
section
variable {P : Program} {w : World} {K : PySem.W.Frag} {mg : Str → Option Value} {base : Heap}
/-! ### _law_next -/
def StAt (H : Hp) (p q : Addr) (ns : List Int) : Prop := H q = some (.lst (ns.map V.int)) ∧ ns.length ≤ 63 ∧ ∃ (i c z : Int), H p = some (.lst [.ref q, .int i, .int c, .int z]) ∧ 0 ≤ i ∧ 0 ≤ c ∧ 0 ≤ z ∧ z < 2147483648
theorem StAt.upd {H : Hp} {p q : Addr} {ns : List Int} (h : StAt H p q ns) {i c z : Int} (hi : 0 ≤ i) (hc : 0 ≤ c) (hz : 0 ≤ z) (hz2 : z < 2147483648) : StAt (upd H p (.lst [.ref q, .int i, .int c, .int z])) p q ns := by
  obtain ⟨h1, hl, i0, c0, z0, h2, _⟩ := h
  have ne : q ≠ p := by
    intro e
    subst e
    rw [h1] at h2
    have e2 := HO.lst.inj (Option.some.inj h2)
    cases ns with
    | nil => cases e2
    | cons x r => cases e2
  exact ⟨by rw [upd_ne ne]; exact h1, hl, i, c, z, upd_same, hi, hc, hz, hz2⟩
def spNext : Sp := fun vs H Q _ => ∃ (p q : Addr) (ns : List Int) (lim : Int), vs = [.ref p, .int lim] ∧ StAt H p q ns ∧ 0 < lim ∧ lim ≤ 2535301200456458802993406410752 ∧
  ∀ H' v, StAt H' p q ns → But H H' p → 0 ≤ v → v < lim → Q (.int v) H'
theorem ok_next {k : Nat} (Z : Defs K mg) : FnOk P w K mg base CX0 (k + 1) Z.fLawNext Z.fdLawNext ["state", "limit"] spNext := by
  refine Z.DLawNext.F.ok scLawNext (fun vs H Q E h => ?_) (fun cdv A outer s H vs Q E hr h => ?_)
  · obtain ⟨p, q, ns, lim, rfl, _⟩ := h
    rfl
  · obtain ⟨p, q, ns, lim, rfl, hS, l0, l1, qq⟩ := h
    refine ⟨_, (C8.pss_cut (ps_if (PW.pt (pw_and (pt_cmpR op_eq (pe_ix ix_list (pv 0) pe_int (fun _ _ => rfl)) pe_int (nomark _)) (pw_and1 (pt_cmpR op_lt (pe_ix ix_list (pv 0) pe_int (fun _ _ => rfl)) (pe_callB call_len_seq (by rfl) Z.len PySem.boot_len (pa_cons (pe_ix ix_list (pv 0) pe_int (fun _ _ => rfl)) pa_nil)) (nomark _))))) (pss_cons (ps_set (i := 2) scLawNext.nd rfl (.inl rfl) (pe_ix ix_list (pe_ix ix_list (pv 0) pe_int (fun _ _ => rfl)) (pe_ix ix_list (pv 0) pe_int (fun _ _ => rfl)) (fun _ _ => rfl)))
        (pss_cons (ps_augS (pv 0) pe_int pget_list pe_int ip_add set_list)
        (pss_one (ps_if (pt_cmpR op_ge (pv 2) (pe_op op_pow pe_int pe_int) (nomark _)) (pss_one (ps_asg (pv 2) (pg_sub (pv 0) pe_int set_list))) (pss_one (ps_asg (pe_op op_mod (pe_callTy call_int1 (by rfl) Z.int HL.boot_int (pa_cons (pe_op op_add (pe_op op_add (pe_op op_mul (pe_ix ix_list (pv 0) pe_int (fun _ _ => rfl)) pe_int) (pe_op op_mod (pe_callTy call_int1 (by rfl) Z.int HL.boot_int (pa_cons (pv 2) pa_nil)) pe_int)) pe_int) pa_nil)) pe_int) (pg_sub (pv 0) pe_int set_list))))))) pss_nil)
        (pss_cons (ps_if (pt_cmpR op_gt (pe_ix ix_list (pv 0) pe_int (fun _ _ => rfl)) pe_int (nomark _)) (pss_cons (ps_set (i := 3) scLawNext.nd rfl (.inl rfl) (pe_op op_mod (pe_callTy call_int1 (by rfl) Z.int HL.boot_int (pa_cons (pe_ix ix_list (pv 0) pe_int (fun _ _ => rfl)) pa_nil)) (pv 1)))
        (pss_cons (ps_asg (pe_op op_fdivW (pe_ix ix_list (pv 0) pe_int (fun _ _ => rfl)) (pv 1)) (pg_sub (pv 0) pe_int set_list))
        (pss_one (ps_ret (pv 3))))) pss_nil)
        (pss_cons (ps_asg (pe_op op_mod (pe_callTy call_int1 (by rfl) Z.int HL.boot_int (pa_cons (pe_op op_add (pe_op op_mul (pe_ix ix_list (pv 0) pe_int (fun _ _ => rfl)) pe_int) pe_int) pa_nil)) pe_int) (pg_sub (pv 0) pe_int set_list))
        (pss_one (ps_ret (pe_op op_mod (pe_callTy call_int1 (by rfl) Z.int HL.boot_int (pa_cons (pe_op op_fdiv (pe_ix ix_list (pv 0) pe_int (fun _ _ => rfl)) pe_int) pa_nil)) (pv 1))))))), ?_⟩
    have hlw : lim.natAbs < 2 ^ 102 := by
      have e : (2 : Nat) ^ 102 = 5070602400912917605986812821504 := by decide +kernel
      omega
    obtain ⟨hq, hlen, i, c, z, hp, hi, hc, hz, hz2⟩ := id hS
    refine ⟨fun σ' H' => StAt H' p q ns ∧ But H H' p ∧ ∃ y, σ' = [some (.ref p), some (.int lim), y, none], ?_, ?_⟩
    · refine ⟨.ref p, rfl, p, _, 2, .int c, rfl, rfl, SqL.of hp, rfl, rfl, _, rfl, ite2 (fun e => ?_) (fun e => iteF ⟨hS, But.refl, _, rfl⟩)⟩
      refine ⟨.ref p, rfl, p, _, 1, .int i, rfl, rfl, SqL.of hp, rfl, .ref p, rfl, p, _, 0, .ref q, rfl, rfl, SqL.of hp, rfl, q, _, rfl, .inl (SqL.of hq), _, _, rfl, rfl, _, rfl, ite2 (fun e2 => ?_) (fun e2 => ⟨hS, But.refl, _, rfl⟩)⟩
      have h2 : i < (ns.map V.int).length := of_decide_eq_true e2
      rw [List.length_map] at h2
      have hg : (ns.map V.int)[i.toNat]? = some (.int (ns.getD i.toNat 0)) := by
        have : i.toNat < ns.length := by omega
        simp [this]
      have hat : atI (ns.map V.int) i = some (.int (ns.getD i.toNat 0)) := by
        have : i = (i.toNat : Int) := by omega
        rw [this]
        exact atI_nat hg
      generalize ns.getD i.toNat 0 = x at hat
      refine ⟨.ref p, rfl, p, _, 0, .ref q, rfl, rfl, SqL.of hp, rfl, .ref p, rfl, p, _, 1, .int i, rfl, rfl, SqL.of hp, rfl, q, _, i, _, rfl, rfl, SqL.of hq, hat, ?_⟩
      refine ⟨.ref p, rfl, p, _, 1, .int i, rfl, rfl, SqL.of hp, by decide, rfl, i, 1, rfl, rfl, p, _, 1, 1, rfl, rfl, hp, rfl, ?_⟩
      have s1 := hS.upd (i := i + 1) (c := c) (z := z) (by omega) hc hz hz2
      refine ⟨_, rfl, _, _, rfl, rfl, ⟨by decide, by decide, by decide⟩, _, _, rfl, rfl, _, rfl, ite2 (fun e3 => ?_) (fun e3 => ?_)⟩
      · have h3 : (10 : Int) ^ 18 ≤ x := of_decide_eq_true e3
        have h4 : (0 : Int) ≤ x := Int.le_trans (by decide) h3
        refine ⟨_, rfl, .ref p, rfl, p, _, 2, 2, rfl, rfl, upd_same, rfl, ?_⟩
        rw [upd_upd]
        exact ⟨hS.upd (by show (0 : Int) ≤ i + 1; omega) h4 hz hz2, but_upd, _, rfl⟩
      · refine ⟨.ref p, rfl, p, _, 3, .int z, rfl, rfl, SqL.of upd_same, rfl, z, 48271, rfl, rfl, .inl ⟨by omega, by omega⟩, _, rfl, .inl ⟨x, rfl, x, _, rfl, rfl, (by show (0 : Int) < 2147483647; decide), _, _, rfl, rfl, _, _, rfl, rfl, .inl ⟨_, rfl, _, _, rfl, rfl, (by show (0 : Int) < 2147483647; decide), .ref p, rfl, p, _, 3, 3, rfl, rfl, upd_same, rfl, ?_⟩⟩⟩
        rw [upd_upd]
        refine ⟨hS.upd (by show (0 : Int) ≤ i + 1; omega) hc ?_ ?_, but_upd, _, rfl⟩
        · exact Int.emod_nonneg _ (by decide)
        · have := Int.emod_lt_of_pos (z * 48271 + x % 2147483647 + 7) (b := 2147483647) (by decide)
          omega
    · rintro σ' H' ⟨hS', hB, y, rfl⟩
      obtain ⟨hq', hlen', i', c', z', hp', hi', hc', hz', hz2'⟩ := id hS'
      refine ⟨.ref p, rfl, p, _, 2, .int c', rfl, rfl, SqL.of hp', rfl, c', 0, rfl, rfl, _, rfl, ite2 (fun e => ?_) (fun e => ?_)⟩
      · refine ⟨.ref p, rfl, p, _, 2, .int c', rfl, rfl, SqL.of hp', rfl, .inl ⟨c', rfl, .int lim, rfl, c', lim, rfl, rfl, l0, ?_⟩⟩
        refine ⟨.ref p, rfl, p, _, 2, .int c', rfl, rfl, SqL.of hp', rfl, .int lim, rfl, c', lim, rfl, rfl, wide_div l0 hlw (by decide) (by decide), .ref p, rfl, p, _, 2, 2, rfl, rfl, hp', rfl, _, rfl, ?_⟩
        refine qq _ _ (hS'.upd hi' (Int.ediv_nonneg hc' (by omega)) hz' hz2') (hB.trans but_upd) (Int.emod_nonneg _ (by omega)) (Int.emod_lt_of_pos _ l0)
      · refine ⟨.ref p, rfl, p, _, 3, .int z', rfl, rfl, SqL.of hp', rfl, z', 69621, rfl, rfl, .inl ⟨by omega, by omega⟩, _, _, rfl, rfl, .inl ⟨_, rfl, _, _, rfl, rfl, (by show (0 : Int) < 2147483647; decide), .ref p, rfl, p, _, 3, 3, rfl, rfl, hp', rfl, ?_⟩⟩
        have b1 : 0 ≤ (z' * 69621 + 12345) % 2147483647 := Int.emod_nonneg _ (by decide)
        have b2 := Int.emod_lt_of_pos (z' * 69621 + 12345) (b := 2147483647) (by decide)
        refine ⟨.ref p, rfl, p, _, 3, .int ((z' * 69621 + 12345) % 2147483647), rfl, rfl, SqL.of upd_same, rfl, _, 7, rfl, rfl, ⟨by decide, by decide⟩, .inl ⟨_, rfl, .int lim, rfl, _, lim, rfl, rfl, l0, ?_⟩⟩
        exact qq _ _ (hS'.upd hi' hc' b1 (by omega)) (hB.trans but_upd) (Int.emod_nonneg _ (by omega)) (Int.emod_lt_of_pos _ l0)
end
end Q25
namespace Q25
open PySem PySem.Spec PyProof.Rows L2 SX HL
mutual
/-- how many calls deep a comparison goes -/
def Va.nd : Va → Nat
  | .bl _ => 0
  | .num _ => 0
  | .txt _ => 0
  | .lst vs => 2 + nds vs
  | .mk _ vs => 2 + nds vs
def nds : List Va → Nat
  | [] => 0
  | v :: vs => max v.nd (nds vs)
end
mutual
theorem nd_le : ∀ v : Va, v.nd ≤ 2 * v.dep
  | .bl _ => by simp only [Va.nd, Va.dep]; omega
  | .num _ => by simp only [Va.nd, Va.dep]; omega
  | .txt _ => by simp only [Va.nd, Va.dep]; omega
  | .lst vs => by have := nds_le vs; simp only [Va.nd, Va.dep]; omega
  | .mk _ vs => by have := nds_le vs; simp only [Va.nd, Va.dep]; omega
theorem nds_le : ∀ vs : List Va, nds vs ≤ 2 * deps vs
  | [] => Nat.le_refl _
  | v :: vs => by have := nd_le v; have := nds_le vs; simp only [nds, deps]; omega
end
theorem nd_mem : ∀ {vs : List Va} {v : Va}, v ∈ vs → v.nd ≤ nds vs
  | w :: vs, v, h => by
    rw [nds]
    rcases List.mem_cons.mp h with rfl | h
    · omega
    · have := nd_mem h
      omega
section
variable {P : Program} {w : World} {K : PySem.W.Frag} {mg : Str → Option Value} {base : Heap}
/-! ### _law_same -/
def spSame (n : Nat) : Sp := fun vs H Q _ => ∃ x y : V, vs = [x, y] ∧ ((∃ a b, VaAt H a x ∧ VaAt H b y ∧ b.nd ≤ n ∧ a.siz ≤ 9000 ∧ b.siz ≤ 9000 ∧ (∃ B, a.ok B ∧ b.ok B) ∧ ∀ r : Bool, (r = true ↔ a = b) → Q (.bl r) H) ∨
  (∃ (p q : Addr) (us ws : List V) (as bs : List Va), x = .ref p ∧ y = .ref q ∧ H p = some (.tup us) ∧ H q = some (.tup ws) ∧ All2 (fun u v => VaAt H v u) us as ∧ All2 (fun u v => VaAt H v u) ws bs ∧ nds bs + 1 ≤ n ∧ sizs as ≤ 9000 ∧ sizs bs ≤ 9000 ∧ (∃ B, oks B as ∧ oks B bs) ∧ ∀ r : Bool, (r = true ↔ as = bs) → Q (.bl r) H) ∨ ∃ z z' : Str, x = .str z ∧ y = .str z' ∧ ∀ r : Bool, (r = true ↔ z = z') → Q (.bl r) H)
theorem same_zero {k : Nat} (Z : Defs K mg) : FnOk P w K mg base CX0 (k + 1) Z.fLawSame Z.fdLawSame ["actual", "expected"] (spSame 0) := by
  refine Z.DLawSame.F.ok scLawSame (fun vs H Q E h => ?_) (fun cdv A outer s H vs Q E hr h => ?_)
  · obtain ⟨x, y, rfl, _⟩ := h
    rfl
  obtain ⟨x, y, rfl, ⟨a, b, ha, hb, hnd, ha0, hb0, ⟨B, hka, hkb⟩, qq⟩ | ⟨p, q, us, ws, as, bs, rfl, rfl, hp, hq, has, hbs, hnd, _⟩ | ⟨z1, z2, rfl, rfl, qq⟩⟩ := h
  · refine ⟨_, (pss_cons (ps_if (pt_cmp (pc_isN (pv 1))) (pss_one (ps_ret (pe_cmp (pc_isN (pv 0)) rfl))) pss_nil)
        (pss_cons (ps_if (pt_val (pe_callB call_isB (by rfl) Z.isinstance HL.boot_isinstance (pa_cons (pv 1) (pa_cons (pe_bltn (v := .ty "bool") (by rfl) Z.bool HL.boot_bool rfl) pa_nil)))) (pss_one (ps_ret (pe_and (pe_callB call_isB (by rfl) Z.isinstance HL.boot_isinstance (pa_cons (pv 0) (pa_cons (pe_bltn (v := .ty "bool") (by rfl) Z.bool HL.boot_bool rfl) pa_nil))) (pe_one (pe_cmpR op_eq (pv 0) (pv 1) (nomark _)))))) pss_nil)
        (pss_cons (ps_if (pt_val (pe_callB call_isB (by rfl) Z.isinstance HL.boot_isinstance (pa_cons (pv 1) (pa_cons (pe_bltn (v := .ty "int") (by rfl) Z.int HL.boot_int rfl) pa_nil)))) (pss_one (ps_ret (pe_and (pe_callB call_isB (by rfl) Z.isinstance HL.boot_isinstance (pa_cons (pv 0) (pa_cons (pe_bltn (v := .ty "int") (by rfl) Z.int HL.boot_int rfl) pa_nil))) (pe_and (pe_not (pe_callB call_isB (by rfl) Z.isinstance HL.boot_isinstance (pa_cons (pv 0) (pa_cons (pe_bltn (v := .ty "bool") (by rfl) Z.bool HL.boot_bool rfl) pa_nil)))) (pe_one (pe_cmpR op_eq (pv 0) (pv 1) (nomark _))))))) pss_nil)
        (pss_cons (ps_if (pt_val (pe_callB call_isB (by rfl) Z.isinstance HL.boot_isinstance (pa_cons (pv 1) (pa_cons (pe_bltn (v := .ty "str") (by rfl) Z.str HL.boot_str rfl) pa_nil)))) (pss_one (ps_ret (pe_and (pe_callB call_isB (by rfl) Z.isinstance HL.boot_isinstance (pa_cons (pv 0) (pa_cons (pe_bltn (v := .ty "str") (by rfl) Z.str HL.boot_str rfl) pa_nil))) (pe_one (pe_cmpR op_eq (pv 0) (pv 1) (nomark _)))))) pss_nil) pss_never)))), ?_⟩
    cases b with
    | bl b =>
      obtain rfl : y = _ := hb
      refine ⟨_, rfl, _, rfl, iteF ?_⟩
      refine ⟨_, rfl, _, "bool", "bool", true, rfl, .base (.bl b), by decide +kernel, true, rfl, iteT ?_⟩
      cases a with
      | bl b' =>
        obtain rfl : x = _ := ha
        exact ⟨_, rfl, _, "bool", "bool", true, rfl, .base (.bl b'), by decide +kernel, true, rfl, iteT ⟨_, rfl, _, rfl, rfl, qq _ (by simp)⟩⟩
      | num i' =>
        obtain rfl : x = _ := ha
        exact ⟨_, rfl, _, "int", "bool", false, rfl, .base (.int i'), by decide +kernel, false, rfl, iteF (qq false ⟨fun h => (by cases h), fun h => (by cases h)⟩)⟩
      | txt z' =>
        obtain rfl : x = _ := ha
        exact ⟨_, rfl, _, "str", "bool", false, rfl, .base (.str z'), by decide +kernel, false, rfl, iteF (qq false ⟨fun h => (by cases h), fun h => (by cases h)⟩)⟩
      | lst vs' =>
        exact ⟨_, rfl, _, "tuple", "bool", false, rfl, (VaAt.tyx (K := K) ha), by decide +kernel, false, rfl, iteF (qq false ⟨fun h => (by cases h), fun h => (by cases h)⟩)⟩
      | mk m' vs' =>
        exact ⟨_, rfl, _, "tuple", "bool", false, rfl, (VaAt.tyx (K := K) ha), by decide +kernel, false, rfl, iteF (qq false ⟨fun h => (by cases h), fun h => (by cases h)⟩)⟩
    | num i =>
      obtain rfl : y = _ := hb
      refine ⟨_, rfl, _, rfl, iteF ?_⟩
      refine ⟨_, rfl, _, "int", "bool", false, rfl, .base (.int i), by decide +kernel, false, rfl, iteF ?_⟩
      refine ⟨_, rfl, _, "int", "int", true, rfl, .base (.int i), by decide +kernel, true, rfl, iteT ?_⟩
      cases a with
      | bl b' =>
        obtain rfl : x = _ := ha
        exact ⟨_, rfl, _, "bool", "int", true, rfl, .base (.bl b'), by decide +kernel, true, rfl, iteT ⟨_, rfl, _, "bool", "bool", true, rfl, .base (.bl b'), by decide +kernel, true, rfl, false, rfl, iteF (qq false ⟨fun h => (by cases h), fun h => (by cases h)⟩)⟩⟩
      | num i' =>
        obtain rfl : x = _ := ha
        exact ⟨_, rfl, _, "int", "int", true, rfl, .base (.int i'), by decide +kernel, true, rfl, iteT ⟨_, rfl, _, "int", "bool", false, rfl, .base (.int i'), by decide +kernel, false, rfl, true, rfl, iteT ⟨_, rfl, _, rfl, rfl, qq _ (by simp)⟩⟩⟩
      | txt z' =>
        obtain rfl : x = _ := ha
        exact ⟨_, rfl, _, "str", "int", false, rfl, .base (.str z'), by decide +kernel, false, rfl, iteF (qq false ⟨fun h => (by cases h), fun h => (by cases h)⟩)⟩
      | lst vs' =>
        exact ⟨_, rfl, _, "tuple", "int", false, rfl, (VaAt.tyx (K := K) ha), by decide +kernel, false, rfl, iteF (qq false ⟨fun h => (by cases h), fun h => (by cases h)⟩)⟩
      | mk m' vs' =>
        exact ⟨_, rfl, _, "tuple", "int", false, rfl, (VaAt.tyx (K := K) ha), by decide +kernel, false, rfl, iteF (qq false ⟨fun h => (by cases h), fun h => (by cases h)⟩)⟩
    | txt z =>
      obtain rfl : y = _ := hb
      refine ⟨_, rfl, _, rfl, iteF ?_⟩
      refine ⟨_, rfl, _, "str", "bool", false, rfl, .base (.str z), by decide +kernel, false, rfl, iteF ?_⟩
      refine ⟨_, rfl, _, "str", "int", false, rfl, .base (.str z), by decide +kernel, false, rfl, iteF ?_⟩
      refine ⟨_, rfl, _, "str", "str", true, rfl, .base (.str z), by decide +kernel, true, rfl, iteT ?_⟩
      cases a with
      | bl b' =>
        obtain rfl : x = _ := ha
        exact ⟨_, rfl, _, "bool", "str", false, rfl, .base (.bl b'), by decide +kernel, false, rfl, iteF (qq false ⟨fun h => (by cases h), fun h => (by cases h)⟩)⟩
      | num i' =>
        obtain rfl : x = _ := ha
        exact ⟨_, rfl, _, "int", "str", false, rfl, .base (.int i'), by decide +kernel, false, rfl, iteF (qq false ⟨fun h => (by cases h), fun h => (by cases h)⟩)⟩
      | txt z' =>
        obtain rfl : x = _ := ha
        exact ⟨_, rfl, _, "str", "str", true, rfl, .base (.str z'), by decide +kernel, true, rfl, iteT ⟨_, rfl, _, rfl, rfl, qq _ (by simp)⟩⟩
      | lst vs' =>
        exact ⟨_, rfl, _, "tuple", "str", false, rfl, (VaAt.tyx (K := K) ha), by decide +kernel, false, rfl, iteF (qq false ⟨fun h => (by cases h), fun h => (by cases h)⟩)⟩
      | mk m' vs' =>
        exact ⟨_, rfl, _, "tuple", "str", false, rfl, (VaAt.tyx (K := K) ha), by decide +kernel, false, rfl, iteF (qq false ⟨fun h => (by cases h), fun h => (by cases h)⟩)⟩
    | lst bs => exact absurd hnd (by simp only [Va.nd]; omega)
    | mk m bs => exact absurd hnd (by simp only [Va.nd]; omega)
  · exact absurd hnd (by omega)
  · refine ⟨_, (pss_cons (ps_if (pt_cmp (pc_isN (pv 1))) (pss_one (ps_ret (pe_cmp (pc_isN (pv 0)) rfl))) pss_nil)
        (pss_cons (ps_if (pt_val (pe_callB call_isB (by rfl) Z.isinstance HL.boot_isinstance (pa_cons (pv 1) (pa_cons (pe_bltn (v := .ty "bool") (by rfl) Z.bool HL.boot_bool rfl) pa_nil)))) (pss_one (ps_ret (pe_and (pe_callB call_isB (by rfl) Z.isinstance HL.boot_isinstance (pa_cons (pv 0) (pa_cons (pe_bltn (v := .ty "bool") (by rfl) Z.bool HL.boot_bool rfl) pa_nil))) (pe_one (pe_cmpR op_eq (pv 0) (pv 1) (nomark _)))))) pss_nil)
        (pss_cons (ps_if (pt_val (pe_callB call_isB (by rfl) Z.isinstance HL.boot_isinstance (pa_cons (pv 1) (pa_cons (pe_bltn (v := .ty "int") (by rfl) Z.int HL.boot_int rfl) pa_nil)))) (pss_one (ps_ret (pe_and (pe_callB call_isB (by rfl) Z.isinstance HL.boot_isinstance (pa_cons (pv 0) (pa_cons (pe_bltn (v := .ty "int") (by rfl) Z.int HL.boot_int rfl) pa_nil))) (pe_and (pe_not (pe_callB call_isB (by rfl) Z.isinstance HL.boot_isinstance (pa_cons (pv 0) (pa_cons (pe_bltn (v := .ty "bool") (by rfl) Z.bool HL.boot_bool rfl) pa_nil)))) (pe_one (pe_cmpR op_eq (pv 0) (pv 1) (nomark _))))))) pss_nil)
        (pss_cons (ps_if (pt_val (pe_callB call_isB (by rfl) Z.isinstance HL.boot_isinstance (pa_cons (pv 1) (pa_cons (pe_bltn (v := .ty "str") (by rfl) Z.str HL.boot_str rfl) pa_nil)))) (pss_one (ps_ret (pe_and (pe_callB call_isB (by rfl) Z.isinstance HL.boot_isinstance (pa_cons (pv 0) (pa_cons (pe_bltn (v := .ty "str") (by rfl) Z.str HL.boot_str rfl) pa_nil))) (pe_one (pe_cmpR op_eq (pv 0) (pv 1) (nomark _)))))) pss_nil) pss_never)))), ?_⟩
    refine ⟨_, rfl, _, rfl, iteF ?_⟩
    refine ⟨_, rfl, _, "str", "bool", false, rfl, .base (.str z2), by decide +kernel, false, rfl, iteF ?_⟩
    refine ⟨_, rfl, _, "str", "int", false, rfl, .base (.str z2), by decide +kernel, false, rfl, iteF ?_⟩
    refine ⟨_, rfl, _, "str", "str", true, rfl, .base (.str z2), by decide +kernel, true, rfl, iteT ?_⟩
    exact ⟨_, rfl, _, "str", "str", true, rfl, .base (.str z1), by decide +kernel, true, rfl, iteT ⟨_, rfl, _, rfl, rfl, qq _ (by simp)⟩⟩
theorem all_txt {H : Hp} {z : Str} : VaAt H (.txt z) (.str z) := rfl
/-- where items of two lists differ -/
theorem take_ne {α : Type} {as bs : List α} (i : Nat) {a b : α} (ha : as[i]? = some a) (hb : bs[i]? = some b) (h : a ≠ b) : as ≠ bs := fun e => h (by rw [e, hb] at ha; exact (Option.some.inj ha).symm)
theorem same_step {k n : Nat} (Z : Defs K mg) (GLawSame : FnOk P w K mg base CX0 k Z.fLawSame Z.fdLawSame ["actual", "expected"] (spSame n)) : FnOk P w K mg base CX0 (k + 1) Z.fLawSame Z.fdLawSame ["actual", "expected"] (spSame (n + 1)) := by
  refine Z.DLawSame.F.ok scLawSame (fun vs H Q E h => ?_) (fun cdv A outer s H vs Q E hr h => ?_)
  · obtain ⟨x, y, rfl, _⟩ := h
    rfl
  have line := line63
  obtain ⟨x, y, rfl, ⟨a, b, ha, hb, hnd, ha0, hb0, ⟨B, hka, hkb⟩, qq⟩ | ⟨p, q, us, ws, as, bs, rfl, rfl, hp, hq, has, hbs, hnd, hlu, hlw, ⟨B, hka, hkb⟩, qq⟩ | ⟨z1, z2, rfl, rfl, qq⟩⟩ := h
  · refine ⟨_, (pss_cons (ps_if (pt_cmp (pc_isN (pv 1))) (pss_one (ps_ret (pe_cmp (pc_isN (pv 0)) rfl))) pss_nil)
        (pss_cons (ps_if (pt_val (pe_callB call_isB (by rfl) Z.isinstance HL.boot_isinstance (pa_cons (pv 1) (pa_cons (pe_bltn (v := .ty "bool") (by rfl) Z.bool HL.boot_bool rfl) pa_nil)))) (pss_one (ps_ret (pe_and (pe_callB call_isB (by rfl) Z.isinstance HL.boot_isinstance (pa_cons (pv 0) (pa_cons (pe_bltn (v := .ty "bool") (by rfl) Z.bool HL.boot_bool rfl) pa_nil))) (pe_one (pe_cmpR op_eq (pv 0) (pv 1) (nomark _)))))) pss_nil)
        (pss_cons (ps_if (pt_val (pe_callB call_isB (by rfl) Z.isinstance HL.boot_isinstance (pa_cons (pv 1) (pa_cons (pe_bltn (v := .ty "int") (by rfl) Z.int HL.boot_int rfl) pa_nil)))) (pss_one (ps_ret (pe_and (pe_callB call_isB (by rfl) Z.isinstance HL.boot_isinstance (pa_cons (pv 0) (pa_cons (pe_bltn (v := .ty "int") (by rfl) Z.int HL.boot_int rfl) pa_nil))) (pe_and (pe_not (pe_callB call_isB (by rfl) Z.isinstance HL.boot_isinstance (pa_cons (pv 0) (pa_cons (pe_bltn (v := .ty "bool") (by rfl) Z.bool HL.boot_bool rfl) pa_nil)))) (pe_one (pe_cmpR op_eq (pv 0) (pv 1) (nomark _))))))) pss_nil)
        (pss_cons (ps_if (pt_val (pe_callB call_isB (by rfl) Z.isinstance HL.boot_isinstance (pa_cons (pv 1) (pa_cons (pe_bltn (v := .ty "str") (by rfl) Z.str HL.boot_str rfl) pa_nil)))) (pss_one (ps_ret (pe_and (pe_callB call_isB (by rfl) Z.isinstance HL.boot_isinstance (pa_cons (pv 0) (pa_cons (pe_bltn (v := .ty "str") (by rfl) Z.str HL.boot_str rfl) pa_nil))) (pe_one (pe_cmpR op_eq (pv 0) (pv 1) (nomark _)))))) pss_nil)
        (pss_cons (ps_if (PW.pt (pw_and (pt_val (pe_callB call_isB (by rfl) Z.isinstance HL.boot_isinstance (pa_cons (pv 1) (pa_cons (pe_bltn (v := .ty "tuple") (by rfl) Z.tuple HL.boot_tuple rfl) pa_nil)))) (pw_and1 (pt_not (pt_val (pe_callB call_isB (by rfl) Z.isinstance HL.boot_isinstance (pa_cons (pv 0) (pa_cons (pe_bltn (v := .ty "tuple") (by rfl) Z.tuple HL.boot_tuple rfl) pa_nil)))))))) (pss_one (ps_ret pe_bl)) pss_nil)
        (pss_cons (ps_if (PW.pt (pw_and (pt_val (pe_callB call_isB (by rfl) Z.isinstance HL.boot_isinstance (pa_cons (pv 1) (pa_cons (pe_bltn (v := .ty "list") (by rfl) Z.list HL.boot_list rfl) pa_nil)))) (pw_and1 (pt_not (pt_val (pe_callB call_isB (by rfl) Z.isinstance HL.boot_isinstance (pa_cons (pv 0) (pa_cons (pe_bltn (v := .ty "list") (by rfl) Z.list HL.boot_list rfl) pa_nil)))))))) (pss_one (ps_ret pe_bl)) pss_nil)
        (pss_cons (ps_if (pt_cmpR op_ne (pe_callB call_len_seq (by rfl) Z.len PySem.boot_len (pa_cons (pv 0) pa_nil)) (pe_callB call_len_seq (by rfl) Z.len PySem.boot_len (pa_cons (pv 1) pa_nil)) (nomark _)) (pss_one (ps_ret pe_bl)) pss_nil)
        (pss_cons (ps_for PassesOwn.never rfl (pi_range1 (by rfl) Z.range (pa_cons (pe_callB call_len_seq (by rfl) Z.len PySem.boot_len (pa_cons (pv 1) pa_nil)) pa_nil)) (pg_name (i := 2) scLawSame.nd rfl (.inl rfl)) (pss_one (ps_if (pt_not (pt_val (pe_call GLawSame (hr.mono (by omega)) (by rfl) Z.DLawSame.g Z.DLawSame.F.kp Z.DLawSame.b .nil pass0 (pa_cons (pe_ix ix_seq (pv 0) (pv 2) (fun _ _ => rfl)) (pa_cons (pe_ix ix_seq (pv 1) (pv 2) (fun _ _ => rfl)) pa_nil))))) (pss_one (ps_ret pe_bl)) pss_nil)))
        (pss_one (ps_ret pe_bl)))))))))), ?_⟩
    cases b with
    | bl b =>
      obtain rfl : y = _ := hb
      refine ⟨_, rfl, _, rfl, iteF ?_⟩
      refine ⟨_, rfl, _, "bool", "bool", true, rfl, .base (.bl b), by decide +kernel, true, rfl, iteT ?_⟩
      cases a with
      | bl b' =>
        obtain rfl : x = _ := ha
        exact ⟨_, rfl, _, "bool", "bool", true, rfl, .base (.bl b'), by decide +kernel, true, rfl, iteT ⟨_, rfl, _, rfl, rfl, qq _ (by simp)⟩⟩
      | num i' =>
        obtain rfl : x = _ := ha
        exact ⟨_, rfl, _, "int", "bool", false, rfl, .base (.int i'), by decide +kernel, false, rfl, iteF (qq false ⟨fun h => (by cases h), fun h => (by cases h)⟩)⟩
      | txt z' =>
        obtain rfl : x = _ := ha
        exact ⟨_, rfl, _, "str", "bool", false, rfl, .base (.str z'), by decide +kernel, false, rfl, iteF (qq false ⟨fun h => (by cases h), fun h => (by cases h)⟩)⟩
      | lst vs' =>
        exact ⟨_, rfl, _, "tuple", "bool", false, rfl, (VaAt.tyx (K := K) ha), by decide +kernel, false, rfl, iteF (qq false ⟨fun h => (by cases h), fun h => (by cases h)⟩)⟩
      | mk m' vs' =>
        exact ⟨_, rfl, _, "tuple", "bool", false, rfl, (VaAt.tyx (K := K) ha), by decide +kernel, false, rfl, iteF (qq false ⟨fun h => (by cases h), fun h => (by cases h)⟩)⟩
    | num i =>
      obtain rfl : y = _ := hb
      refine ⟨_, rfl, _, rfl, iteF ?_⟩
      refine ⟨_, rfl, _, "int", "bool", false, rfl, .base (.int i), by decide +kernel, false, rfl, iteF ?_⟩
      refine ⟨_, rfl, _, "int", "int", true, rfl, .base (.int i), by decide +kernel, true, rfl, iteT ?_⟩
      cases a with
      | bl b' =>
        obtain rfl : x = _ := ha
        exact ⟨_, rfl, _, "bool", "int", true, rfl, .base (.bl b'), by decide +kernel, true, rfl, iteT ⟨_, rfl, _, "bool", "bool", true, rfl, .base (.bl b'), by decide +kernel, true, rfl, false, rfl, iteF (qq false ⟨fun h => (by cases h), fun h => (by cases h)⟩)⟩⟩
      | num i' =>
        obtain rfl : x = _ := ha
        exact ⟨_, rfl, _, "int", "int", true, rfl, .base (.int i'), by decide +kernel, true, rfl, iteT ⟨_, rfl, _, "int", "bool", false, rfl, .base (.int i'), by decide +kernel, false, rfl, true, rfl, iteT ⟨_, rfl, _, rfl, rfl, qq _ (by simp)⟩⟩⟩
      | txt z' =>
        obtain rfl : x = _ := ha
        exact ⟨_, rfl, _, "str", "int", false, rfl, .base (.str z'), by decide +kernel, false, rfl, iteF (qq false ⟨fun h => (by cases h), fun h => (by cases h)⟩)⟩
      | lst vs' =>
        exact ⟨_, rfl, _, "tuple", "int", false, rfl, (VaAt.tyx (K := K) ha), by decide +kernel, false, rfl, iteF (qq false ⟨fun h => (by cases h), fun h => (by cases h)⟩)⟩
      | mk m' vs' =>
        exact ⟨_, rfl, _, "tuple", "int", false, rfl, (VaAt.tyx (K := K) ha), by decide +kernel, false, rfl, iteF (qq false ⟨fun h => (by cases h), fun h => (by cases h)⟩)⟩
    | txt z =>
      obtain rfl : y = _ := hb
      refine ⟨_, rfl, _, rfl, iteF ?_⟩
      refine ⟨_, rfl, _, "str", "bool", false, rfl, .base (.str z), by decide +kernel, false, rfl, iteF ?_⟩
      refine ⟨_, rfl, _, "str", "int", false, rfl, .base (.str z), by decide +kernel, false, rfl, iteF ?_⟩
      refine ⟨_, rfl, _, "str", "str", true, rfl, .base (.str z), by decide +kernel, true, rfl, iteT ?_⟩
      cases a with
      | bl b' =>
        obtain rfl : x = _ := ha
        exact ⟨_, rfl, _, "bool", "str", false, rfl, .base (.bl b'), by decide +kernel, false, rfl, iteF (qq false ⟨fun h => (by cases h), fun h => (by cases h)⟩)⟩
      | num i' =>
        obtain rfl : x = _ := ha
        exact ⟨_, rfl, _, "int", "str", false, rfl, .base (.int i'), by decide +kernel, false, rfl, iteF (qq false ⟨fun h => (by cases h), fun h => (by cases h)⟩)⟩
      | txt z' =>
        obtain rfl : x = _ := ha
        exact ⟨_, rfl, _, "str", "str", true, rfl, .base (.str z'), by decide +kernel, true, rfl, iteT ⟨_, rfl, _, rfl, rfl, qq _ (by simp)⟩⟩
      | lst vs' =>
        exact ⟨_, rfl, _, "tuple", "str", false, rfl, (VaAt.tyx (K := K) ha), by decide +kernel, false, rfl, iteF (qq false ⟨fun h => (by cases h), fun h => (by cases h)⟩)⟩
      | mk m' vs' =>
        exact ⟨_, rfl, _, "tuple", "str", false, rfl, (VaAt.tyx (K := K) ha), by decide +kernel, false, rfl, iteF (qq false ⟨fun h => (by cases h), fun h => (by cases h)⟩)⟩
    | lst bs =>
      obtain ⟨q, qi, ws, rfl, hq, hqi, hws⟩ := hb
      have hws := hws.all
      refine ⟨_, rfl, _, rfl, iteF ?_⟩
      refine ⟨_, rfl, _, "tuple", "bool", false, rfl, .base (.tup hq), by decide +kernel, false, rfl, iteF ?_⟩
      refine ⟨_, rfl, _, "tuple", "int", false, rfl, .base (.tup hq), by decide +kernel, false, rfl, iteF ?_⟩
      refine ⟨_, rfl, _, "tuple", "str", false, rfl, .base (.tup hq), by decide +kernel, false, rfl, iteF ?_⟩
      refine ⟨_, rfl, _, "tuple", "tuple", true, rfl, .base (.tup hq), by decide +kernel, true, rfl, iteT ?_⟩
      cases a with
      | bl b' =>
        obtain rfl : x = _ := ha
        exact ⟨_, rfl, _, "bool", "tuple", false, rfl, .base (.bl b'), by decide +kernel, false, rfl, iteT (qq false ⟨fun h => (by cases h), fun h => (by cases h)⟩)⟩
      | num i' =>
        obtain rfl : x = _ := ha
        exact ⟨_, rfl, _, "int", "tuple", false, rfl, .base (.int i'), by decide +kernel, false, rfl, iteT (qq false ⟨fun h => (by cases h), fun h => (by cases h)⟩)⟩
      | txt z' =>
        obtain rfl : x = _ := ha
        exact ⟨_, rfl, _, "str", "tuple", false, rfl, .base (.str z'), by decide +kernel, false, rfl, iteT (qq false ⟨fun h => (by cases h), fun h => (by cases h)⟩)⟩
      | lst as =>
        obtain ⟨p, pi, us, rfl, hp, hpi, hus⟩ := ha
        have hus := hus.all
        refine ⟨_, rfl, _, "tuple", "tuple", true, rfl, .base (.tup hp), by decide +kernel, true, rfl, iteF ?_⟩
        refine ⟨_, rfl, _, "tuple", "list", false, rfl, .base (.tup hq), by decide +kernel, false, rfl, iteF (iteF ?_)⟩
        refine ⟨_, rfl, p, _, rfl, .inr (SqT.of hp), _, rfl, q, _, rfl, .inr (SqT.of hq), rfl, _, rfl, iteNo (by simp) ?_⟩
        have hc : ∀ r : Bool, (r = true ↔ as = bs) → Q (.bl r) H := fun r hr => qq r ⟨fun h => by rw [hr.mp h], fun h => hr.mpr (by cases h; rfl)⟩
        have hnd' : nds bs + 1 ≤ n := by simp only [Va.nd] at hnd; omega
        have good : ∀ i : Nat, i < 2 → ∃ u v : V, ([.str "list", .ref pi] : List V)[i]? = some u ∧ ([.str "list", .ref qi] : List V)[i]? = some v ∧ ((i = 0 ∧ u = .str "list" ∧ v = .str "list") ∨ (i = 1 ∧ u = .ref pi ∧ v = .ref qi)) := fun i hi => by
          have : i = 0 ∨ i = 1 := by omega
          rcases this with rfl | rfl
          · exact ⟨_, _, rfl, rfl, .inl ⟨rfl, rfl, rfl⟩⟩
          · exact ⟨_, _, rfl, rfl, .inr ⟨rfl, rfl, rfl⟩⟩
        refine ⟨_, rfl, q, _, rfl, .inr (SqT.of hq), _, rfl, by show (-2 ^ 62 : Int) ≤ 2; decide, by show (2 : Int) < 2 ^ 62; decide, ?_⟩
        refine for_range (lo := 0) (n := 2) (fun i σ H' => H' = H ∧ (∃ y, σ = [some (.ref p), some (.ref q), y]) ∧ (i = 2 → as = bs)) ⟨rfl, ⟨none, rfl⟩, fun h => (by cases h)⟩ ?_ ?_
        · rintro i σ H' hi ⟨rfl, ⟨y, rfl⟩, _⟩
          have ij : ∀ {xs : List V} {v : V}, xs[i]? = some v → atI xs (0 + (i : Int)) = some v := fun h => by rw [Int.zero_add]; exact atI_nat h
          obtain ⟨u, v, hu, hv, e⟩ := good i hi
          refine ⟨_, rfl, _, rfl, .inr (.inl ⟨p, _, _, u, rfl, rfl, SqT.of hp, ij hu, _, rfl, _, rfl, .inr (.inl ⟨q, _, _, v, rfl, rfl, SqT.of hq, ij hv, ?_⟩)⟩)⟩
          rcases e with ⟨rfl, rfl, rfl⟩ | ⟨rfl, rfl, rfl⟩
          · refine ⟨_, _, rfl, .inl ⟨.txt "list", .txt "list", rfl, rfl, Nat.zero_le _, by decide +kernel, by decide +kernel, ⟨0, by show PyData.strOk _ = true; decide +kernel, by show PyData.strOk _ = true; decide +kernel⟩, fun r hr => ⟨r, rfl, ?_⟩⟩⟩
            rw [hr.mpr rfl]
            exact iteF ⟨rfl, ⟨_, rfl⟩, fun h => (by cases h)⟩
          · refine ⟨_, _, rfl, .inr (.inl ⟨pi, qi, us, ws, as, bs, rfl, rfl, hpi, hqi, hus, hws, hnd', (by simp only [Va.siz] at ha0; omega), (by simp only [Va.siz] at hb0; omega), ⟨B, hka, hkb⟩, fun r hr => ⟨r, rfl, ?_⟩⟩)⟩
            cases r with
            | true => exact iteF ⟨rfl, ⟨_, rfl⟩, fun _ => hr.mp rfl⟩
            | false => exact iteT (hc false hr)
        · rintro σ H' ⟨rfl, ⟨y, rfl⟩, hd⟩
          exact hc true ⟨fun _ => hd rfl, fun _ => rfl⟩
      | mk m' as =>
        obtain ⟨p, pi, us, rfl, hp, hpi, hus⟩ := ha
        have hus := hus.all
        refine ⟨_, rfl, _, "tuple", "tuple", true, rfl, .base (.tup hp), by decide +kernel, true, rfl, iteF ?_⟩
        refine ⟨_, rfl, _, "tuple", "list", false, rfl, .base (.tup hq), by decide +kernel, false, rfl, iteF (iteF ?_)⟩
        exact ⟨_, rfl, p, _, rfl, .inr (SqT.of hp), _, rfl, q, _, rfl, .inr (SqT.of hq), rfl, _, rfl, iteYes (by simp) (qq false ⟨fun h => (by cases h), fun h => (by cases h)⟩)⟩
    | mk m bs =>
      obtain ⟨q, qi, ws, rfl, hq, hqi, hws⟩ := hb
      have hws := hws.all
      refine ⟨_, rfl, _, rfl, iteF ?_⟩
      refine ⟨_, rfl, _, "tuple", "bool", false, rfl, .base (.tup hq), by decide +kernel, false, rfl, iteF ?_⟩
      refine ⟨_, rfl, _, "tuple", "int", false, rfl, .base (.tup hq), by decide +kernel, false, rfl, iteF ?_⟩
      refine ⟨_, rfl, _, "tuple", "str", false, rfl, .base (.tup hq), by decide +kernel, false, rfl, iteF ?_⟩
      refine ⟨_, rfl, _, "tuple", "tuple", true, rfl, .base (.tup hq), by decide +kernel, true, rfl, iteT ?_⟩
      cases a with
      | bl b' =>
        obtain rfl : x = _ := ha
        exact ⟨_, rfl, _, "bool", "tuple", false, rfl, .base (.bl b'), by decide +kernel, false, rfl, iteT (qq false ⟨fun h => (by cases h), fun h => (by cases h)⟩)⟩
      | num i' =>
        obtain rfl : x = _ := ha
        exact ⟨_, rfl, _, "int", "tuple", false, rfl, .base (.int i'), by decide +kernel, false, rfl, iteT (qq false ⟨fun h => (by cases h), fun h => (by cases h)⟩)⟩
      | txt z' =>
        obtain rfl : x = _ := ha
        exact ⟨_, rfl, _, "str", "tuple", false, rfl, .base (.str z'), by decide +kernel, false, rfl, iteT (qq false ⟨fun h => (by cases h), fun h => (by cases h)⟩)⟩
      | lst as =>
        obtain ⟨p, pi, us, rfl, hp, hpi, hus⟩ := ha
        have hus := hus.all
        refine ⟨_, rfl, _, "tuple", "tuple", true, rfl, .base (.tup hp), by decide +kernel, true, rfl, iteF ?_⟩
        refine ⟨_, rfl, _, "tuple", "list", false, rfl, .base (.tup hq), by decide +kernel, false, rfl, iteF (iteF ?_)⟩
        exact ⟨_, rfl, p, _, rfl, .inr (SqT.of hp), _, rfl, q, _, rfl, .inr (SqT.of hq), rfl, _, rfl, iteYes (by simp) (qq false ⟨fun h => (by cases h), fun h => (by cases h)⟩)⟩
      | mk m' as =>
        obtain ⟨p, pi, us, rfl, hp, hpi, hus⟩ := ha
        have hus := hus.all
        refine ⟨_, rfl, _, "tuple", "tuple", true, rfl, .base (.tup hp), by decide +kernel, true, rfl, iteF ?_⟩
        refine ⟨_, rfl, _, "tuple", "list", false, rfl, .base (.tup hq), by decide +kernel, false, rfl, iteF (iteF ?_)⟩
        refine ⟨_, rfl, p, _, rfl, .inr (SqT.of hp), _, rfl, q, _, rfl, .inr (SqT.of hq), rfl, _, rfl, iteNo (by simp) ?_⟩
        have hc : ∀ r : Bool, (r = true ↔ (m' = m ∧ as = bs)) → Q (.bl r) H := fun r hr => qq r ⟨fun h => by rw [(hr.mp h).1, (hr.mp h).2], fun h => hr.mpr (by cases h; exact ⟨rfl, rfl⟩)⟩
        have hnd' : nds bs + 1 ≤ n := by simp only [Va.nd] at hnd; omega
        have good : ∀ i : Nat, i < 3 → ∃ u v : V, ([.str "make", .str m', .ref pi] : List V)[i]? = some u ∧ ([.str "make", .str m, .ref qi] : List V)[i]? = some v ∧ ((i = 0 ∧ u = .str "make" ∧ v = .str "make") ∨ (i = 1 ∧ u = .str m' ∧ v = .str m) ∨ (i = 2 ∧ u = .ref pi ∧ v = .ref qi)) := fun i hi => by
          have : i = 0 ∨ i = 1 ∨ i = 2 := by omega
          rcases this with rfl | rfl | rfl
          · exact ⟨_, _, rfl, rfl, .inl ⟨rfl, rfl, rfl⟩⟩
          · exact ⟨_, _, rfl, rfl, .inr (.inl ⟨rfl, rfl, rfl⟩)⟩
          · exact ⟨_, _, rfl, rfl, .inr (.inr ⟨rfl, rfl, rfl⟩)⟩
        refine ⟨_, rfl, q, _, rfl, .inr (SqT.of hq), _, rfl, by show (-2 ^ 62 : Int) ≤ 3; decide, by show (3 : Int) < 2 ^ 62; decide, ?_⟩
        refine for_range (lo := 0) (n := 3) (fun i σ H' => H' = H ∧ (∃ y, σ = [some (.ref p), some (.ref q), y]) ∧ (2 ≤ i → m' = m) ∧ (i = 3 → as = bs)) ⟨rfl, ⟨none, rfl⟩, fun h => (by cases h), fun h => (by cases h)⟩ ?_ ?_
        · rintro i σ H' hi ⟨rfl, ⟨y, rfl⟩, h2, _⟩
          have ij : ∀ {xs : List V} {v : V}, xs[i]? = some v → atI xs (0 + (i : Int)) = some v := fun h => by rw [Int.zero_add]; exact atI_nat h
          obtain ⟨u, v, hu, hv, e⟩ := good i hi
          refine ⟨_, rfl, _, rfl, .inr (.inl ⟨p, _, _, u, rfl, rfl, SqT.of hp, ij hu, _, rfl, _, rfl, .inr (.inl ⟨q, _, _, v, rfl, rfl, SqT.of hq, ij hv, ?_⟩)⟩)⟩
          rcases e with ⟨rfl, rfl, rfl⟩ | ⟨rfl, rfl, rfl⟩ | ⟨rfl, rfl, rfl⟩
          · refine ⟨_, _, rfl, .inl ⟨.txt "make", .txt "make", rfl, rfl, Nat.zero_le _, by decide +kernel, by decide +kernel, ⟨0, by show PyData.strOk _ = true; decide +kernel, by show PyData.strOk _ = true; decide +kernel⟩, fun r hr => ⟨r, rfl, ?_⟩⟩⟩
            rw [hr.mpr rfl]
            exact iteF ⟨rfl, ⟨_, rfl⟩, fun h => absurd h (by decide), fun h => (by cases h)⟩
          · refine ⟨_, _, rfl, .inl ⟨.txt m', .txt m, rfl, rfl, Nat.zero_le _, by have := hka.1; simp only [Va.siz]; omega, by have := hkb.1; simp only [Va.siz]; omega, ⟨0, hka.2.1, hkb.2.1⟩, fun r hr => ⟨r, rfl, ?_⟩⟩⟩
            cases r with
            | true =>
              have e := hr.mp rfl
              exact iteF ⟨rfl, ⟨_, rfl⟩, fun _ => by cases e; rfl, fun h => (by cases h)⟩
            | false => exact iteT (hc false ⟨fun h => (by cases h), fun h => hr.mpr (by rw [h.1])⟩)
          · have hm := h2 (Nat.le_refl _)
            refine ⟨_, _, rfl, .inr (.inl ⟨pi, qi, us, ws, as, bs, rfl, rfl, hpi, hqi, hus, hws, hnd', (by simp only [Va.siz] at ha0; omega), (by simp only [Va.siz] at hb0; omega), ⟨B, hka.2.2, hkb.2.2⟩, fun r hr => ⟨r, rfl, ?_⟩⟩)⟩
            cases r with
            | true => exact iteF ⟨rfl, ⟨_, rfl⟩, fun _ => hm, fun _ => hr.mp rfl⟩
            | false => exact iteT (hc false ⟨fun h => (by cases h), fun h => hr.mpr h.2⟩)
        · rintro σ H' ⟨rfl, ⟨y, rfl⟩, h2, hd⟩
          exact hc true ⟨fun _ => ⟨h2 (by decide), hd rfl⟩, fun _ => rfl⟩
  · refine ⟨_, (pss_cons (ps_if (pt_cmp (pc_isN (pv 1))) (pss_one (ps_ret (pe_cmp (pc_isN (pv 0)) rfl))) pss_nil)
        (pss_cons (ps_if (pt_val (pe_callB call_isB (by rfl) Z.isinstance HL.boot_isinstance (pa_cons (pv 1) (pa_cons (pe_bltn (v := .ty "bool") (by rfl) Z.bool HL.boot_bool rfl) pa_nil)))) (pss_one (ps_ret (pe_and (pe_callB call_isB (by rfl) Z.isinstance HL.boot_isinstance (pa_cons (pv 0) (pa_cons (pe_bltn (v := .ty "bool") (by rfl) Z.bool HL.boot_bool rfl) pa_nil))) (pe_one (pe_cmpR op_eq (pv 0) (pv 1) (nomark _)))))) pss_nil)
        (pss_cons (ps_if (pt_val (pe_callB call_isB (by rfl) Z.isinstance HL.boot_isinstance (pa_cons (pv 1) (pa_cons (pe_bltn (v := .ty "int") (by rfl) Z.int HL.boot_int rfl) pa_nil)))) (pss_one (ps_ret (pe_and (pe_callB call_isB (by rfl) Z.isinstance HL.boot_isinstance (pa_cons (pv 0) (pa_cons (pe_bltn (v := .ty "int") (by rfl) Z.int HL.boot_int rfl) pa_nil))) (pe_and (pe_not (pe_callB call_isB (by rfl) Z.isinstance HL.boot_isinstance (pa_cons (pv 0) (pa_cons (pe_bltn (v := .ty "bool") (by rfl) Z.bool HL.boot_bool rfl) pa_nil)))) (pe_one (pe_cmpR op_eq (pv 0) (pv 1) (nomark _))))))) pss_nil)
        (pss_cons (ps_if (pt_val (pe_callB call_isB (by rfl) Z.isinstance HL.boot_isinstance (pa_cons (pv 1) (pa_cons (pe_bltn (v := .ty "str") (by rfl) Z.str HL.boot_str rfl) pa_nil)))) (pss_one (ps_ret (pe_and (pe_callB call_isB (by rfl) Z.isinstance HL.boot_isinstance (pa_cons (pv 0) (pa_cons (pe_bltn (v := .ty "str") (by rfl) Z.str HL.boot_str rfl) pa_nil))) (pe_one (pe_cmpR op_eq (pv 0) (pv 1) (nomark _)))))) pss_nil)
        (pss_cons (ps_if (PW.pt (pw_and (pt_val (pe_callB call_isB (by rfl) Z.isinstance HL.boot_isinstance (pa_cons (pv 1) (pa_cons (pe_bltn (v := .ty "tuple") (by rfl) Z.tuple HL.boot_tuple rfl) pa_nil)))) (pw_and1 (pt_not (pt_val (pe_callB call_isB (by rfl) Z.isinstance HL.boot_isinstance (pa_cons (pv 0) (pa_cons (pe_bltn (v := .ty "tuple") (by rfl) Z.tuple HL.boot_tuple rfl) pa_nil)))))))) (pss_one (ps_ret pe_bl)) pss_nil)
        (pss_cons (ps_if (PW.pt (pw_and (pt_val (pe_callB call_isB (by rfl) Z.isinstance HL.boot_isinstance (pa_cons (pv 1) (pa_cons (pe_bltn (v := .ty "list") (by rfl) Z.list HL.boot_list rfl) pa_nil)))) (pw_and1 (pt_not (pt_val (pe_callB call_isB (by rfl) Z.isinstance HL.boot_isinstance (pa_cons (pv 0) (pa_cons (pe_bltn (v := .ty "list") (by rfl) Z.list HL.boot_list rfl) pa_nil)))))))) (pss_one (ps_ret pe_bl)) pss_nil)
        (pss_cons (ps_if (pt_cmpR op_ne (pe_callB call_len_seq (by rfl) Z.len PySem.boot_len (pa_cons (pv 0) pa_nil)) (pe_callB call_len_seq (by rfl) Z.len PySem.boot_len (pa_cons (pv 1) pa_nil)) (nomark _)) (pss_one (ps_ret pe_bl)) pss_nil)
        (pss_cons (ps_for PassesOwn.never rfl (pi_range1 (by rfl) Z.range (pa_cons (pe_callB call_len_seq (by rfl) Z.len PySem.boot_len (pa_cons (pv 1) pa_nil)) pa_nil)) (pg_name (i := 2) scLawSame.nd rfl (.inl rfl)) (pss_one (ps_if (pt_not (pt_val (pe_call GLawSame (hr.mono (by omega)) (by rfl) Z.DLawSame.g Z.DLawSame.F.kp Z.DLawSame.b .nil pass0 (pa_cons (pe_ix ix_seq (pv 0) (pv 2) (fun _ _ => rfl)) (pa_cons (pe_ix ix_seq (pv 1) (pv 2) (fun _ _ => rfl)) pa_nil))))) (pss_one (ps_ret pe_bl)) pss_nil)))
        (pss_one (ps_ret pe_bl)))))))))), ?_⟩
    refine ⟨_, rfl, _, rfl, iteF ?_⟩
    refine ⟨_, rfl, _, "tuple", "bool", false, rfl, .base (.tup hq), by decide +kernel, false, rfl, iteF ?_⟩
    refine ⟨_, rfl, _, "tuple", "int", false, rfl, .base (.tup hq), by decide +kernel, false, rfl, iteF ?_⟩
    refine ⟨_, rfl, _, "tuple", "str", false, rfl, .base (.tup hq), by decide +kernel, false, rfl, iteF ?_⟩
    refine ⟨_, rfl, _, "tuple", "tuple", true, rfl, .base (.tup hq), by decide +kernel, true, rfl, iteT ?_⟩
    refine ⟨_, rfl, _, "tuple", "tuple", true, rfl, .base (.tup hp), by decide +kernel, true, rfl, iteF ?_⟩
    refine ⟨_, rfl, _, "tuple", "list", false, rfl, .base (.tup hq), by decide +kernel, false, rfl, iteF (iteF ?_)⟩
    have hla := has.len
    have hlb := hbs.len
    have := sizs_len as
    have := sizs_len bs
    by_cases hl : us.length = ws.length
    · refine ⟨_, rfl, p, _, rfl, .inr (SqT.of hp), _, rfl, q, _, rfl, .inr (SqT.of hq), rfl, _, rfl, iteNo (by rw [hl]; simp) ?_⟩
      refine ⟨_, rfl, q, _, rfl, .inr (SqT.of hq), _, rfl, by omega, by omega, ?_⟩
      refine for_range (lo := 0) (n := (ws.length : Int).toNat) (fun i σ H' => H' = H ∧ (∃ y, σ = [some (.ref p), some (.ref q), y]) ∧ as.take i = bs.take i) ⟨rfl, ⟨none, rfl⟩, rfl⟩ ?_ ?_
      · rintro i σ H' hi ⟨rfl, ⟨y, rfl⟩, ht⟩
        have hi' : i < ws.length := by omega
        have ij : ∀ {xs : List V} {v : V}, xs[i]? = some v → atI xs (0 + (i : Int)) = some v := fun h => by rw [Int.zero_add]; exact atI_nat h
        obtain ⟨v, hv⟩ : ∃ v, ws[i]? = some v := ⟨_, List.getElem?_eq_getElem hi'⟩
        obtain ⟨u, hu⟩ : ∃ u, us[i]? = some u := ⟨_, List.getElem?_eq_getElem (by omega)⟩
        obtain ⟨a, ha, hua⟩ := has.get hu
        obtain ⟨b, hb, hvb⟩ := hbs.get hv
        refine ⟨_, rfl, _, rfl, .inr (.inl ⟨p, _, _, u, rfl, rfl, SqT.of hp, ij hu, _, rfl, _, rfl, .inr (.inl ⟨q, _, _, v, rfl, rfl, SqT.of hq, ij hv, ?_⟩)⟩)⟩
        have := nd_mem (List.mem_of_getElem? hb)
        refine ⟨u, v, rfl, .inl ⟨a, b, hua, hvb, by omega, Nat.le_trans (siz_mem (List.mem_of_getElem? ha)) hlu, Nat.le_trans (siz_mem (List.mem_of_getElem? hb)) hlw, ⟨B, oks_all hka _ (List.mem_of_getElem? ha), oks_all hkb _ (List.mem_of_getElem? hb)⟩, fun r hr => ⟨r, rfl, ?_⟩⟩⟩
        cases r with
        | true => exact iteF ⟨rfl, ⟨_, rfl⟩, by rw [List.take_add_one, List.take_add_one, ht, ha, hb, hr.mp rfl]⟩
        | false => exact iteT (qq false ⟨fun h => (by cases h), fun h => hr.mpr (by rw [h, hb] at ha; exact (Option.some.inj ha).symm)⟩)
      · rintro σ H' ⟨rfl, ⟨y, rfl⟩, ht⟩
        have e1 : (ws.length : Int).toNat = bs.length := by omega
        rw [e1, List.take_length, List.take_of_length_le (by omega)] at ht
        exact qq true ⟨fun _ => ht, fun _ => rfl⟩
    · refine ⟨_, rfl, p, _, rfl, .inr (SqT.of hp), _, rfl, q, _, rfl, .inr (SqT.of hq), rfl, _, rfl, iteYes ?_ ?_⟩
      · simp
        omega
      · exact qq false ⟨fun h => (by cases h), fun h => absurd (congrArg List.length h) (by omega)⟩
  · refine ⟨_, (pss_cons (ps_if (pt_cmp (pc_isN (pv 1))) (pss_one (ps_ret (pe_cmp (pc_isN (pv 0)) rfl))) pss_nil)
        (pss_cons (ps_if (pt_val (pe_callB call_isB (by rfl) Z.isinstance HL.boot_isinstance (pa_cons (pv 1) (pa_cons (pe_bltn (v := .ty "bool") (by rfl) Z.bool HL.boot_bool rfl) pa_nil)))) (pss_one (ps_ret (pe_and (pe_callB call_isB (by rfl) Z.isinstance HL.boot_isinstance (pa_cons (pv 0) (pa_cons (pe_bltn (v := .ty "bool") (by rfl) Z.bool HL.boot_bool rfl) pa_nil))) (pe_one (pe_cmpR op_eq (pv 0) (pv 1) (nomark _)))))) pss_nil)
        (pss_cons (ps_if (pt_val (pe_callB call_isB (by rfl) Z.isinstance HL.boot_isinstance (pa_cons (pv 1) (pa_cons (pe_bltn (v := .ty "int") (by rfl) Z.int HL.boot_int rfl) pa_nil)))) (pss_one (ps_ret (pe_and (pe_callB call_isB (by rfl) Z.isinstance HL.boot_isinstance (pa_cons (pv 0) (pa_cons (pe_bltn (v := .ty "int") (by rfl) Z.int HL.boot_int rfl) pa_nil))) (pe_and (pe_not (pe_callB call_isB (by rfl) Z.isinstance HL.boot_isinstance (pa_cons (pv 0) (pa_cons (pe_bltn (v := .ty "bool") (by rfl) Z.bool HL.boot_bool rfl) pa_nil)))) (pe_one (pe_cmpR op_eq (pv 0) (pv 1) (nomark _))))))) pss_nil)
        (pss_cons (ps_if (pt_val (pe_callB call_isB (by rfl) Z.isinstance HL.boot_isinstance (pa_cons (pv 1) (pa_cons (pe_bltn (v := .ty "str") (by rfl) Z.str HL.boot_str rfl) pa_nil)))) (pss_one (ps_ret (pe_and (pe_callB call_isB (by rfl) Z.isinstance HL.boot_isinstance (pa_cons (pv 0) (pa_cons (pe_bltn (v := .ty "str") (by rfl) Z.str HL.boot_str rfl) pa_nil))) (pe_one (pe_cmpR op_eq (pv 0) (pv 1) (nomark _)))))) pss_nil)
        (pss_cons (ps_if (PW.pt (pw_and (pt_val (pe_callB call_isB (by rfl) Z.isinstance HL.boot_isinstance (pa_cons (pv 1) (pa_cons (pe_bltn (v := .ty "tuple") (by rfl) Z.tuple HL.boot_tuple rfl) pa_nil)))) (pw_and1 (pt_not (pt_val (pe_callB call_isB (by rfl) Z.isinstance HL.boot_isinstance (pa_cons (pv 0) (pa_cons (pe_bltn (v := .ty "tuple") (by rfl) Z.tuple HL.boot_tuple rfl) pa_nil)))))))) (pss_one (ps_ret pe_bl)) pss_nil)
        (pss_cons (ps_if (PW.pt (pw_and (pt_val (pe_callB call_isB (by rfl) Z.isinstance HL.boot_isinstance (pa_cons (pv 1) (pa_cons (pe_bltn (v := .ty "list") (by rfl) Z.list HL.boot_list rfl) pa_nil)))) (pw_and1 (pt_not (pt_val (pe_callB call_isB (by rfl) Z.isinstance HL.boot_isinstance (pa_cons (pv 0) (pa_cons (pe_bltn (v := .ty "list") (by rfl) Z.list HL.boot_list rfl) pa_nil)))))))) (pss_one (ps_ret pe_bl)) pss_nil)
        (pss_cons (ps_if (pt_cmpR op_ne (pe_callB call_len_seq (by rfl) Z.len PySem.boot_len (pa_cons (pv 0) pa_nil)) (pe_callB call_len_seq (by rfl) Z.len PySem.boot_len (pa_cons (pv 1) pa_nil)) (nomark _)) (pss_one (ps_ret pe_bl)) pss_nil)
        (pss_cons (ps_for PassesOwn.never rfl (pi_range1 (by rfl) Z.range (pa_cons (pe_callB call_len_seq (by rfl) Z.len PySem.boot_len (pa_cons (pv 1) pa_nil)) pa_nil)) (pg_name (i := 2) scLawSame.nd rfl (.inl rfl)) (pss_one (ps_if (pt_not (pt_val (pe_call GLawSame (hr.mono (by omega)) (by rfl) Z.DLawSame.g Z.DLawSame.F.kp Z.DLawSame.b .nil pass0 (pa_cons (pe_ix ix_seq (pv 0) (pv 2) (fun _ _ => rfl)) (pa_cons (pe_ix ix_seq (pv 1) (pv 2) (fun _ _ => rfl)) pa_nil))))) (pss_one (ps_ret pe_bl)) pss_nil)))
        (pss_one (ps_ret pe_bl)))))))))), ?_⟩
    refine ⟨_, rfl, _, rfl, iteF ?_⟩
    refine ⟨_, rfl, _, "str", "bool", false, rfl, .base (.str z2), by decide +kernel, false, rfl, iteF ?_⟩
    refine ⟨_, rfl, _, "str", "int", false, rfl, .base (.str z2), by decide +kernel, false, rfl, iteF ?_⟩
    refine ⟨_, rfl, _, "str", "str", true, rfl, .base (.str z2), by decide +kernel, true, rfl, iteT ?_⟩
    exact ⟨_, rfl, _, "str", "str", true, rfl, .base (.str z1), by decide +kernel, true, rfl, iteT ⟨_, rfl, _, rfl, rfl, qq _ (by simp)⟩⟩
theorem ok_same {k : Nat} (Z : Defs K mg) : ∀ n, FnOk P w K mg base CX0 (k + n + 1) Z.fLawSame Z.fdLawSame ["actual", "expected"] (spSame n)
  | 0 => same_zero Z
  | n + 1 => same_step Z (ok_same Z n)
end
end Q25
namespace Q25
open PySem PySem.Spec PyProof.Rows L2 SX HL
section
variable {P : Program} {w : World} {K : PySem.W.Frag} {mg : Str → Option Value} {base : Heap}
/-! ### form, inner, bare -/
def spForm : Sp := fun vs H Q _ => ∃ (x : V) (v : Va), vs = [x] ∧ VaAt H v x ∧ Q (.str v.form) H
theorem ok_form {k : Nat} (Z : Defs K mg) : FnOk P w K mg base CX0 (k + 1) Z.fForm Z.fdForm ["value"] spForm := by
  refine Z.DForm.F.ok scForm (fun vs H Q E h => ?_) (fun cdv A outer s H vs Q E hr h => ?_)
  · obtain ⟨x, v, rfl, _⟩ := h
    rfl
  · obtain ⟨x, v, rfl, hx, qq⟩ := h
    refine ⟨_, (pss_cons (ps_if (pt_val (pe_callB call_isB (by rfl) Z.isinstance HL.boot_isinstance (pa_cons (pv 0) (pa_cons (pe_bltn (v := .ty "bool") (by rfl) Z.bool HL.boot_bool rfl) pa_nil)))) (pss_one (ps_ret pe_str)) pss_nil)
        (pss_cons (ps_if (pt_val (pe_callB call_isB (by rfl) Z.isinstance HL.boot_isinstance (pa_cons (pv 0) (pa_cons (pe_bltn (v := .ty "int") (by rfl) Z.int HL.boot_int rfl) pa_nil)))) (pss_one (ps_ret pe_str)) pss_nil)
        (pss_cons (ps_if (pt_val (pe_callB call_isB (by rfl) Z.isinstance HL.boot_isinstance (pa_cons (pv 0) (pa_cons (pe_bltn (v := .ty "str") (by rfl) Z.str HL.boot_str rfl) pa_nil)))) (pss_one (ps_ret pe_str)) pss_nil)
        (pss_one (ps_ret (pe_ix ix_tup (pv 0) pe_int (fun _ _ => rfl))))))), ?_⟩
    cases v with
    | bl b =>
      obtain rfl : x = _ := hx
      exact ⟨_, rfl, _, "bool", "bool", true, rfl, .base (.bl b), by decide +kernel, true, rfl, iteT qq⟩
    | num i =>
      obtain rfl : x = _ := hx
      exact ⟨_, rfl, _, "int", "bool", false, rfl, .base (.int i), by decide +kernel, false, rfl, iteF ⟨_, rfl, _, "int", "int", true, rfl, .base (.int i), by decide +kernel, true, rfl, iteT qq⟩⟩
    | txt z =>
      obtain rfl : x = _ := hx
      exact ⟨_, rfl, _, "str", "bool", false, rfl, .base (.str z), by decide +kernel, false, rfl, iteF ⟨_, rfl, _, "str", "int", false, rfl, .base (.str z), by decide +kernel, false, rfl, iteF ⟨_, rfl, _, "str", "str", true, rfl, .base (.str z), by decide +kernel, true, rfl, iteT qq⟩⟩⟩
    | lst vs =>
      obtain ⟨t, q, us, rfl, h1, h2, h3⟩ := hx
      refine ⟨_, rfl, _, "tuple", "bool", false, rfl, .base (.tup h1), by decide +kernel, false, rfl, iteF ⟨_, rfl, _, "tuple", "int", false, rfl, .base (.tup h1), by decide +kernel, false, rfl, iteF ⟨_, rfl, _, "tuple", "str", false, rfl, .base (.tup h1), by decide +kernel, false, rfl, iteF ?_⟩⟩⟩
      exact ⟨_, rfl, t, _, 0, .str "list", rfl, rfl, SqT.of h1, rfl, qq⟩
    | mk m vs =>
      obtain ⟨t, q, us, rfl, h1, h2, h3⟩ := hx
      refine ⟨_, rfl, _, "tuple", "bool", false, rfl, .base (.tup h1), by decide +kernel, false, rfl, iteF ⟨_, rfl, _, "tuple", "int", false, rfl, .base (.tup h1), by decide +kernel, false, rfl, iteF ⟨_, rfl, _, "tuple", "str", false, rfl, .base (.tup h1), by decide +kernel, false, rfl, iteF ?_⟩⟩⟩
      exact ⟨_, rfl, t, _, 0, .str "make", rfl, rfl, SqT.of h1, rfl, qq⟩
/-- the tuple of a value's parts, the value's own or a new one -/
def spInner : Sp := fun vs H Q _ => ∃ (x : V) (v : Va), vs = [x] ∧ VaAt H v x ∧ ∀ H' q us, Same H H' → H' q = some (.tup us) → VasAt H' v.parts us → Q (.ref q) H'
theorem ok_inner {k : Nat} (Z : Defs K mg) : FnOk P w K mg base CX0 (k + 1) Z.fInner Z.fdInner ["value"] spInner := by
  refine Z.DInner.F.ok scInner (fun vs H Q E h => ?_) (fun cdv A outer s H vs Q E hr h => ?_)
  · obtain ⟨x, v, rfl, _⟩ := h
    rfl
  · obtain ⟨x, v, rfl, hx, qq⟩ := h
    refine ⟨_, (pss_one (ps_ret (pe_ifExp (pt_val (pe_callB call_isB (by rfl) Z.isinstance HL.boot_isinstance (pa_cons (pv 0) (pa_cons (pe_bltn (v := .ty "tuple") (by rfl) Z.tuple HL.boot_tuple rfl) pa_nil)))) (pe_ix ix_tup (pv 0) (pe_un un_neg pe_int) (fun _ _ => rfl)) (pe_tup pa_nil)))), ?_⟩
    cases v with
    | bl b =>
      obtain rfl : x = _ := hx
      refine ⟨_, rfl, _, "bool", "tuple", false, rfl, .base (.bl b), by decide +kernel, false, rfl, iteF ?_⟩
      exact ⟨by decide, fun q hn => qq _ q [] (same_upd hn) upd_same rfl⟩
    | num i =>
      obtain rfl : x = _ := hx
      refine ⟨_, rfl, _, "int", "tuple", false, rfl, .base (.int i), by decide +kernel, false, rfl, iteF ?_⟩
      exact ⟨by decide, fun q hn => qq _ q [] (same_upd hn) upd_same rfl⟩
    | txt z =>
      obtain rfl : x = _ := hx
      refine ⟨_, rfl, _, "str", "tuple", false, rfl, .base (.str z), by decide +kernel, false, rfl, iteF ?_⟩
      exact ⟨by decide, fun q hn => qq _ q [] (same_upd hn) upd_same rfl⟩
    | lst vs =>
      obtain ⟨t, q, us, rfl, h1, h2, h3⟩ := hx
      refine ⟨_, rfl, _, "tuple", "tuple", true, rfl, .base (.tup h1), by decide +kernel, true, rfl, iteT ?_⟩
      exact ⟨_, rfl, 1, rfl, t, _, -1, .ref q, rfl, rfl, SqT.of h1, rfl, qq H q us (Same.refl H) h2 h3⟩
    | mk m vs =>
      obtain ⟨t, q, us, rfl, h1, h2, h3⟩ := hx
      refine ⟨_, rfl, _, "tuple", "tuple", true, rfl, .base (.tup h1), by decide +kernel, true, rfl, iteT ?_⟩
      exact ⟨_, rfl, 1, rfl, t, _, -1, .ref q, rfl, rfl, SqT.of h1, rfl, qq H q us (Same.refl H) h2 h3⟩
/-- a value without its parts -/
def BareAt (H : Hp) : Va → V → Prop
  | .lst _, r => ∃ t, r = .ref t ∧ H t = some (.tup [.str "list"])
  | .mk m _, r => ∃ t, r = .ref t ∧ H t = some (.tup [.str "make", .str m])
  | v, r => VaAt H v r
theorem BareAt.keep {H H' : Hp} (k : TupK H H') {v : Va} {r : V} (h : BareAt H v r) : BareAt H' v r := by
  cases v with
  | lst vs => obtain ⟨t, e, h1⟩ := h; exact ⟨t, e, k _ _ h1⟩
  | mk m vs => obtain ⟨t, e, h1⟩ := h; exact ⟨t, e, k _ _ h1⟩
  | _ => exact h
def spBare : Sp := fun vs H Q _ => ∃ (x : V) (v : Va), vs = [x] ∧ VaAt H v x ∧ ∀ H' r, Same H H' → BareAt H' v r → Q r H'
theorem ok_bare {k : Nat} (Z : Defs K mg) : FnOk P w K mg base CX0 (k + 1) Z.fBare Z.fdBare ["value"] spBare := by
  refine Z.DBare.F.ok scBare (fun vs H Q E h => ?_) (fun cdv A outer s H vs Q E hr h => ?_)
  · obtain ⟨x, v, rfl, _⟩ := h
    rfl
  · obtain ⟨x, v, rfl, hx, qq⟩ := h
    refine ⟨_, (pss_one (ps_ret (pe_ifExp (pt_val (pe_callB call_isB (by rfl) Z.isinstance HL.boot_isinstance (pa_cons (pv 0) (pa_cons (pe_bltn (v := .ty "tuple") (by rfl) Z.tuple HL.boot_tuple rfl) pa_nil)))) (pe_slice sl_tup (pv 0) po_none (po_some (pe_un un_neg pe_int))) (pv 0)))), ?_⟩
    cases v with
    | bl b =>
      obtain rfl : x = _ := hx
      exact ⟨_, rfl, _, "bool", "tuple", false, rfl, .base (.bl b), by decide +kernel, false, rfl, iteF (show tVar 0 _ _ _ from ⟨_, rfl, qq H _ (Same.refl H) rfl⟩)⟩
    | num i =>
      obtain rfl : x = _ := hx
      exact ⟨_, rfl, _, "int", "tuple", false, rfl, .base (.int i), by decide +kernel, false, rfl, iteF (show tVar 0 _ _ _ from ⟨_, rfl, qq H _ (Same.refl H) rfl⟩)⟩
    | txt z =>
      obtain rfl : x = _ := hx
      exact ⟨_, rfl, _, "str", "tuple", false, rfl, .base (.str z), by decide +kernel, false, rfl, iteF (show tVar 0 _ _ _ from ⟨_, rfl, qq H _ (Same.refl H) rfl⟩)⟩
    | lst vs =>
      obtain ⟨t, q, us, rfl, h1, h2, h3⟩ := hx
      refine ⟨_, rfl, _, "tuple", "tuple", true, rfl, .base (.tup h1), by decide +kernel, true, rfl, iteT ?_⟩
      exact ⟨_, rfl, 1, rfl, -1, rfl, t, _, rfl, SqT.of h1, by show ¬(HT.sIx 2 0 none = 0 ∧ HT.sIx 2 2 (some (-1)) = 2); decide, fun p hn => qq _ _ (same_upd hn) ⟨p, rfl, upd_same⟩⟩
    | mk m vs =>
      obtain ⟨t, q, us, rfl, h1, h2, h3⟩ := hx
      refine ⟨_, rfl, _, "tuple", "tuple", true, rfl, .base (.tup h1), by decide +kernel, true, rfl, iteT ?_⟩
      exact ⟨_, rfl, 1, rfl, -1, rfl, t, _, rfl, SqT.of h1, by show ¬(HT.sIx 3 0 none = 0 ∧ HT.sIx 3 3 (some (-1)) = 3); decide, fun p hn => qq _ _ (same_upd hn) ⟨p, rfl, upd_same⟩⟩
def Va.bare : Va → Va
  | .lst _ => .lst []
  | .mk m _ => .mk m []
  | v => v
theorem dp_list {H : Hp} {t : Addr} (h : H t = some (.tup [.str "list"])) : Dp K H (.ref t) (.tuple [.str "list"]) := .tup (SqT.of h) (.cons (.str _) .nil)
theorem dp_make {H : Hp} {t : Addr} {m : Str} (h : H t = some (.tup [.str "make", .str m])) : Dp K H (.ref t) (.tuple [.str "make", .str m]) := .tup (SqT.of h) (.cons (.str _) (.cons (.str _) .nil))
theorem sh_str {z : Str} (h : PyData.strOk z = true) : SeqAt.shaped (.str z) = true := by
  show (PyData.canLay0 (.str z) && decide ((PyData.str z).depth ≤ 64)) = true
  rw [show PyData.canLay0 (.str z) = PyData.strOk z from rfl, h]
  rfl
theorem sh_make {m : Str} (h : PyData.strOk m = true) : SeqAt.shaped (.tuple [.str "make", .str m]) = true := by
  show (PyData.canLay0 (.tuple [.str "make", .str m]) && decide ((PyData.tuple [.str "make", .str m]).depth ≤ 64)) = true
  have : PyData.canLay0 (.tuple [.str "make", .str m]) = true := by
    simp only [PyData.canLay0, PyData.canLayAll0, h]
    decide +kernel
  rw [this]
  rfl
theorem eq_bare {H : Hp} {a b : Va} {x y : V} (ha : BareAt H a x) (hb : BareAt H b y) (ka : ∃ B, a.ok B) (kb : ∃ B, b.ok B) (hf : a.form = b.form) : ∃ d e, Dp K H x d ∧ Dp K H y e ∧ SeqAt.shaped d = true ∧ SeqAt.shaped e = true ∧ (PyData.eqv d e = true ↔ a.bare = b.bare) := by
  cases a with
  | bl a =>
    cases b with
    | bl b =>
      obtain rfl : x = _ := ha
      obtain rfl : y = _ := hb
      exact ⟨_, _, .bl _, .bl _, rfl, rfl, by simp [PyData.eqv, Va.bare]⟩
    | _ => exact absurd hf (by simp only [Va.form]; decide +kernel)
  | num a =>
    cases b with
    | num b =>
      obtain rfl : x = _ := ha
      obtain rfl : y = _ := hb
      exact ⟨_, _, .int _, .int _, rfl, rfl, by simp [PyData.eqv, Va.bare]⟩
    | _ => exact absurd hf (by simp only [Va.form]; decide +kernel)
  | txt a =>
    cases b with
    | txt b =>
      obtain rfl : x = _ := ha
      obtain rfl : y = _ := hb
      exact ⟨_, _, .str _, .str _, sh_str (ka.elim fun _ h => h), sh_str (kb.elim fun _ h => h), by simp [PyData.eqv, Va.bare]⟩
    | _ => exact absurd hf (by simp only [Va.form]; decide +kernel)
  | lst a =>
    cases b with
    | lst b =>
      obtain ⟨t, rfl, ht⟩ := ha
      obtain ⟨u, rfl, hu⟩ := hb
      exact ⟨_, _, dp_list ht, dp_list hu, by decide +kernel, by decide +kernel, by simp [PyData.eqv, PyData.eqvAll, Va.bare]⟩
    | _ => exact absurd hf (by simp only [Va.form]; decide +kernel)
  | mk m a =>
    cases b with
    | mk m' b =>
      obtain ⟨t, rfl, ht⟩ := ha
      obtain ⟨u, rfl, hu⟩ := hb
      exact ⟨_, _, dp_make ht, dp_make hu, sh_make (ka.elim fun _ h => h.2.1), sh_make (kb.elim fun _ h => h.2.1), by simp [PyData.eqv, PyData.eqvAll, Va.bare]⟩
    | _ => exact absurd hf (by simp only [Va.form]; decide +kernel)
end
end Q25
namespace Q25
open PySem PySem.Spec PyProof.Rows L2 SX HL
theorem lst2 {α β : Type} {R : α → β → Prop} : ∀ {a : List α} {b : List β}, All2 R a b → a = [] ∧ b = [] ∨ ∃ a' x b' y, a = a' ++ [x] ∧ b = b' ++ [y] ∧ R x y ∧ All2 R a' b'
  | _, _, .nil => .inl ⟨rfl, rfl⟩
  | _, _, .cons (x := x) (y := y) h r => by
    rcases lst2 r with ⟨rfl, rfl⟩ | ⟨a', x', b', y', rfl, rfl, h', r'⟩
    · exact .inr ⟨[], x, [], y, rfl, rfl, h, .nil⟩
    · exact .inr ⟨x :: a', x', y :: b', y', rfl, rfl, h', .cons h r'⟩
def ItAt (H : Hp) (us : List V) (vs : List Va) : Prop := All2 (fun u v => VaAt H v u) us vs
theorem ItAt.keep {H H' : Hp} (k : TupK H H') {us : List V} {vs : List Va} (h : ItAt H us vs) : ItAt H' us vs := All2.mono h fun _ _ x => x.keep k
theorem same_up {H H' : Hp} {W : Addr} {o : HO} (s : Same H H') (n : H W = none) : Same H (upd H' W o) := fun b x h => by
  rw [upd_ne (ne_of_none h n)]
  exact s b x h
section
variable {P : Program} {w : World} {K : PySem.W.Frag} {mg : Str → Option Value} {base : Heap}
def spSize : Sp := fun vs H Q _ => ∃ (x : V) (v : Va), vs = [x] ∧ VaAt H v x ∧ v.siz ≤ 9000 ∧ ∀ H', Same H H' → Q (.int v.siz) H'
theorem ok_size {k : Nat} (Z : Defs K mg) (GInner : FnOk P w K mg base CX0 k Z.fInner Z.fdInner ["value"] spInner) : FnOk P w K mg base CX0 (k + 1) Z.fSize Z.fdSize ["value"] spSize := by
  refine Z.DSize.F.ok scSize (fun vs H Q E h => ?_) (fun cdv A outer s H vs Q E hr h => ?_)
  · obtain ⟨x, v, rfl, _⟩ := h
    rfl
  · obtain ⟨x, v, rfl, hx, hsz, qq⟩ := h
    refine ⟨_, (pss_cons (ps_set (i := 1) scSize.nd rfl (.inl rfl) pe_int)
        (pss_cons (ps_set (i := 2) scSize.nd rfl (.inl rfl) (pe_lst (pa_cons (pv 0) pa_nil)))
        (pss_cons (ps_while PassesOwn.never (pt_truth (pv 2) (by intro _; rfl)) (pss_cons (ps_set (i := 3) scSize.nd rfl (.inl rfl) (pe_bm0 PySem.F.plainAttrs_list PySem.F.slot_list_pop PySem.F.type_list_pop mt_pop (pv 2)))
        (pss_cons (ps_aug (i := 1) scSize.nd rfl (.inl rfl) (pe_op op_add pe_int (pe_ifExp (pt_val (pe_callB call_isB (by rfl) Z.isinstance HL.boot_isinstance (pa_cons (pv 3) (pa_cons (pe_bltn (v := .ty "str") (by rfl) Z.str HL.boot_str rfl) pa_nil)))) (pe_callB call_len_str (by rfl) Z.len PySem.boot_len (pa_cons (pv 3) pa_nil)) pe_int)) ip_add)
        (pss_one (ps_expr (pe_bm PySem.F.plainAttrs_list PySem.F.slot_list_extend PySem.F.type_list_extend HK.mt_extendT (pv 2) (pa_cons (pe_call GInner (hr.mono (by omega)) (by rfl) Z.DInner.g Z.DInner.F.kp Z.DInner.b .nil pass0 (pa_cons (pv 3) pa_nil)) pa_nil)))))))
        (pss_one (ps_ret (pv 1)))))), ?_⟩
    have big : 16777216 ≤ sizeLine := by decide +kernel
    refine ⟨_, rfl, by show 1 ≤ sizeLine; decide, fun W hW => ?_⟩
    have s0 : Same H (upd H W (.lst [x])) := same_upd hW
    refine ⟨fun m σ H' => ∃ (t : Nat) (us : List V) (vs : List Va) (y : Option V), σ = [some x, some (.int t), some (.ref W), y] ∧ Same H H' ∧ H' W = some (.lst us) ∧ ItAt H' us vs ∧ t + sizs vs = v.siz ∧ m = sizs vs,
      ⟨_, 0, [x], [v], none, rfl, s0, upd_same, .cons (hx.keep (TupK.of s0)) .nil, by rw [sizs, sizs]; omega, rfl⟩, ?_⟩
    rintro m σ H' ⟨t, us, vs, y, rfl, sm, hw, hit, ht, rfl⟩
    rcases (lst2 hit) with ⟨rfl, rfl⟩ | ⟨us', u, vs', p, rfl, rfl, hu, hit'⟩
    · refine ⟨_, rfl, false, .inl ⟨_, SqL.of hw, rfl⟩, iteF ⟨_, rfl, ?_⟩⟩
      have : t = v.siz := by rw [sizs] at ht; omega
      subst this
      exact qq H' sm
    · refine ⟨_, rfl, true, .inl ⟨_, SqL.of hw, by simp⟩, iteT ?_⟩
      rw [sizs_app, sizs, sizs] at ht
      refine ⟨fun σ' H2 => ∃ (t2 : Nat) (us : List V) (vs : List Va) (y : Option V), σ' = [some x, some (.int t2), some (.ref W), y] ∧ Same H H2 ∧ H2 W = some (.lst us) ∧ ItAt H2 us vs ∧ t2 + sizs vs = v.siz ∧ t < t2, ?_, ?_⟩
      · rintro σ' H2 ⟨t2, us, vs, y, e1, e2, e3, e4, e5, e6⟩
        exact ⟨sizs vs, by rw [sizs_app, sizs, sizs]; omega, t2, us, vs, y, e1, e2, e3, e4, e5, rfl⟩
      refine ⟨_, rfl, .inl ⟨rfl, _, SqL.of hw⟩, W, _, u, rfl, rfl, hw, by simp, ?_⟩
      rw [List.dropLast_concat]
      have sm1 : Same H (upd H' W (.lst us')) := same_up sm hW
      have k1 : TupK H' (upd H' W (.lst us')) := tk_lst hw
      have hu1 := hu.keep k1
      have hit1 : ItAt (upd H' W (.lst us')) us' vs' := ItAt.keep k1 hit'
      have hw1 : upd H' W (.lst us') W = some (.lst us') := upd_same
      clear hit
      generalize upd H' W (.lst us') = H1 at *
      cases p with
      | bl b =>
        obtain rfl : u = _ := hu1
        refine ⟨_, rfl, _, rfl, _, "bool", "str", false, rfl, .base (.bl b), by decide +kernel, false, rfl, iteF ?_⟩
        refine ⟨_, _, rfl, rfl, _, _, rfl, rfl, _, rfl, .inl ⟨rfl, _, SqL.of hw1⟩, _, rfl, _, .bl b, rfl, rfl, fun H2 q us2 sm2 hq2 hv2 => ?_⟩
        have hv3 := hv2.all
        have l1 := hv3.len
        have l2 := hit1.len
        have l3 := sizs_len (Va.parts (.bl b))
        have l4 := parts_siz (.bl b)
        have l5 := sizs_len vs'
        have l6 := sizs_app vs' (Va.parts (.bl b))
        refine ⟨W, q, us', us2, rfl, rfl, sm2 _ _ hw1, SqT.of hq2, by omega, ?_⟩
        refine ⟨t + 1, us' ++ us2, vs' ++ Va.parts (.bl b), _, rfl, same_up (Same.tr sm1 sm2) hW, upd_same, ItAt.keep (tk_lst (sm2 _ _ hw1)) ((ItAt.keep (TupK.of sm2) hit1).app hv3), ?_, ?_⟩
        · simp only [Va.siz, Va.parts] at *
          rw [sizs_app]
          simp only [sizs]
          omega
        · omega
      | num i =>
        obtain rfl : u = _ := hu1
        refine ⟨_, rfl, _, rfl, _, "int", "str", false, rfl, .base (.int i), by decide +kernel, false, rfl, iteF ?_⟩
        refine ⟨_, _, rfl, rfl, _, _, rfl, rfl, _, rfl, .inl ⟨rfl, _, SqL.of hw1⟩, _, rfl, _, .num i, rfl, rfl, fun H2 q us2 sm2 hq2 hv2 => ?_⟩
        have hv3 := hv2.all
        have l1 := hv3.len
        have l2 := hit1.len
        have l3 := sizs_len (Va.parts (.num i))
        have l4 := parts_siz (.num i)
        have l5 := sizs_len vs'
        have l6 := sizs_app vs' (Va.parts (.num i))
        refine ⟨W, q, us', us2, rfl, rfl, sm2 _ _ hw1, SqT.of hq2, by omega, ?_⟩
        refine ⟨t + 1, us' ++ us2, vs' ++ Va.parts (.num i), _, rfl, same_up (Same.tr sm1 sm2) hW, upd_same, ItAt.keep (tk_lst (sm2 _ _ hw1)) ((ItAt.keep (TupK.of sm2) hit1).app hv3), ?_, ?_⟩
        · simp only [Va.siz, Va.parts] at *
          rw [sizs_app]
          simp only [sizs]
          omega
        · omega
      | txt z =>
        obtain rfl : u = _ := hu1
        refine ⟨_, rfl, _, rfl, _, "str", "str", true, rfl, .base (.str z), by decide +kernel, true, rfl, iteT ?_⟩
        refine ⟨_, rfl, z, rfl, (by simp only [Va.siz] at ht; omega), ?_⟩
        refine ⟨_, _, rfl, rfl, _, _, rfl, rfl, _, rfl, .inl ⟨rfl, _, SqL.of hw1⟩, _, rfl, _, .txt z, rfl, rfl, fun H2 q us2 sm2 hq2 hv2 => ?_⟩
        have hv3 := hv2.all
        have l1 := hv3.len
        have l2 := hit1.len
        have l3 := sizs_len (Va.parts (.txt z))
        have l4 := parts_siz (.txt z)
        have l5 := sizs_len vs'
        have l6 := sizs_app vs' (Va.parts (.txt z))
        refine ⟨W, q, us', us2, rfl, rfl, sm2 _ _ hw1, SqT.of hq2, by omega, ?_⟩
        refine ⟨t + (1 + z.length), us' ++ us2, vs' ++ Va.parts (.txt z), _, rfl, same_up (Same.tr sm1 sm2) hW, upd_same, ItAt.keep (tk_lst (sm2 _ _ hw1)) ((ItAt.keep (TupK.of sm2) hit1).app hv3), ?_, ?_⟩
        · simp only [Va.siz, Va.parts] at *
          rw [sizs_app]
          simp only [sizs]
          omega
        · omega
      | lst ps =>
        refine ⟨_, rfl, _, rfl, _, "tuple", "str", false, rfl, hu1.tyx, by decide +kernel, false, rfl, iteF ?_⟩
        refine ⟨_, _, rfl, rfl, _, _, rfl, rfl, _, rfl, .inl ⟨rfl, _, SqL.of hw1⟩, _, rfl, _, .lst ps, rfl, hu1, fun H2 q us2 sm2 hq2 hv2 => ?_⟩
        have hv3 := hv2.all
        have l1 := hv3.len
        have l2 := hit1.len
        have l3 := sizs_len (Va.parts (.lst ps))
        have l4 := parts_siz (.lst ps)
        have l5 := sizs_len vs'
        have l6 := sizs_app vs' (Va.parts (.lst ps))
        refine ⟨W, q, us', us2, rfl, rfl, sm2 _ _ hw1, SqT.of hq2, by omega, ?_⟩
        refine ⟨t + 1, us' ++ us2, vs' ++ Va.parts (.lst ps), _, rfl, same_up (Same.tr sm1 sm2) hW, upd_same, ItAt.keep (tk_lst (sm2 _ _ hw1)) ((ItAt.keep (TupK.of sm2) hit1).app hv3), ?_, ?_⟩
        · simp only [Va.siz, Va.parts] at *
          rw [sizs_app]
          omega
        · omega
      | mk m ps =>
        refine ⟨_, rfl, _, rfl, _, "tuple", "str", false, rfl, hu1.tyx, by decide +kernel, false, rfl, iteF ?_⟩
        refine ⟨_, _, rfl, rfl, _, _, rfl, rfl, _, rfl, .inl ⟨rfl, _, SqL.of hw1⟩, _, rfl, _, .mk m ps, rfl, hu1, fun H2 q us2 sm2 hq2 hv2 => ?_⟩
        have hv3 := hv2.all
        have l1 := hv3.len
        have l2 := hit1.len
        have l3 := sizs_len (Va.parts (.mk m ps))
        have l4 := parts_siz (.mk m ps)
        have l5 := sizs_len vs'
        have l6 := sizs_app vs' (Va.parts (.mk m ps))
        refine ⟨W, q, us', us2, rfl, rfl, sm2 _ _ hw1, SqT.of hq2, by omega, ?_⟩
        refine ⟨t + 1, us' ++ us2, vs' ++ Va.parts (.mk m ps), _, rfl, same_up (Same.tr sm1 sm2) hW, upd_same, ItAt.keep (tk_lst (sm2 _ _ hw1)) ((ItAt.keep (TupK.of sm2) hit1).app hv3), ?_, ?_⟩
        · simp only [Va.siz, Va.parts] at *
          rw [sizs_app]
          omega
        · omega
end
end Q25
namespace Q25
open PySem PySem.Spec PyProof.Rows L2 SX HL
def nextL (vs : List Va) : List Va := (vs.map Va.parts).flatten
theorem deps_next : ∀ vs : List Va, vs ≠ [] → deps vs = 1 + deps (nextL vs)
  | [], h => absurd rfl h
  | [v], _ => by
    have := parts_dep v
    show max v.dep 0 = 1 + deps (v.parts ++ [])
    rw [List.append_nil]
    omega
  | v :: w :: r, _ => by
    have h1 := parts_dep v
    have h2 := deps_next (w :: r) (by simp)
    show max v.dep (deps (w :: r)) = 1 + deps (v.parts ++ nextL (w :: r))
    rw [deps_app]
    omega
theorem sizs_next : ∀ vs : List Va, sizs (nextL vs) ≤ sizs vs
  | [] => Nat.le_refl _
  | v :: r => by
    have h1 := parts_siz v
    have h2 := sizs_next r
    show sizs (v.parts ++ nextL r) ≤ v.siz + sizs r
    rw [sizs_app]
    omega
theorem nextL_take {vs : List Va} {i : Nat} {v : Va} (h : vs[i]? = some v) : nextL (vs.take (i + 1)) = nextL (vs.take i) ++ v.parts := by
  unfold nextL
  rw [List.take_add_one, h, List.map_append, List.flatten_append]
  show _ ++ ([v.parts] : List (List Va)).flatten = _
  rw [List.flatten_cons, List.flatten_nil, List.append_nil]
theorem sizs_take : ∀ (vs : List Va) (i : Nat), sizs (vs.take i) ≤ sizs vs
  | vs, i => by
    have := sizs_app (vs.take i) (vs.drop i)
    rw [List.take_append_drop] at this
    omega
section
variable {P : Program} {w : World} {K : PySem.W.Frag} {mg : Str → Option Value} {base : Heap}
def spDepth : Sp := fun vs H Q _ => ∃ (x : V) (v : Va), vs = [x] ∧ VaAt H v x ∧ v.siz ≤ 9000 ∧ ∀ H', Same H H' → Q (.int v.dep) H'
theorem ok_depth {k : Nat} (Z : Defs K mg) (GInner : FnOk P w K mg base CX0 k Z.fInner Z.fdInner ["value"] spInner) : FnOk P w K mg base CX0 (k + 1) Z.fDepth Z.fdDepth ["value"] spDepth := by
  refine Z.DDepth.F.ok scDepth (fun vs H Q E h => ?_) (fun cdv A outer s H vs Q E hr h => ?_)
  · obtain ⟨x, v, rfl, _⟩ := h
    rfl
  · obtain ⟨x, v, rfl, hx, hsz, qq⟩ := h
    refine ⟨_, (pss_cons (ps_set (i := 1) scDepth.nd rfl (.inl rfl) pe_int)
        (pss_cons (ps_set (i := 2) scDepth.nd rfl (.inl rfl) (pe_lst (pa_cons (pv 0) pa_nil)))
        (pss_cons (ps_while PassesOwn.never (pt_truth (pv 2) (by intro _; rfl)) (pss_cons (ps_aug (i := 1) scDepth.nd rfl (.inl rfl) pe_int ip_add)
        (pss_one (ps_setLc2 (i := 2) (own := [("upper", 3), ("part", 4)]) (vs1 := [4]) (g := (gName 3)) (g1 := (gName 4)) (by rfl) scDepth.nd rfl rfl (sw_true rfl rfl rfl (by decide +kernel)) (pi_list (pv 2)) (blkOk_by (own := [("upper", 3), ("part", 4)]) (N := ["value", "deepest", "level", "upper", "part"]) (sc := defScope sDepth) (by decide +kernel)) (by decide) (fun _ _ _ _ _ => (pg_name (i := 3) scDepth.nd rfl (Or.inl rfl))) (fun _ _ _ _ _ => pts_nil) (fun _ _ _ _ _ => (HK.pi_tupK (K := K) rfl (pe_call GInner (hr.mono (by omega)) (by rfl) Z.DInner.g Z.DInner.F.kp Z.DInner.b .nil pass0 (pa_cons (pv 3) pa_nil)))) (fun _ _ _ _ _ => (pg_name (i := 4) scDepth.nd rfl (Or.inl rfl))) (fun _ _ _ _ _ => pts_nil) (fun _ _ _ _ _ => (pv 4))))))
        (pss_one (ps_ret (pv 1)))))), ?_⟩
    have big : 16777216 ≤ sizeLine := by decide +kernel
    refine ⟨_, rfl, by show 1 ≤ sizeLine; decide, fun W hW => ?_⟩
    have s0 : Same H (upd H W (.lst [x])) := same_upd hW
    refine ⟨fun m σ H' => ∃ (t : Nat) (L : Addr) (us : List V) (vs : List Va) (y z : Option V), σ = [some x, some (.int t), some (.ref L), y, z] ∧ Same H H' ∧ H' L = some (.lst us) ∧ ItAt H' us vs ∧ t + deps vs = v.dep ∧ sizs vs ≤ 9000 ∧ m = deps vs,
      ⟨_, 0, W, [x], [v], none, none, rfl, s0, upd_same, .cons (hx.keep (TupK.of s0)) .nil, by rw [deps, deps]; omega, by rw [sizs, sizs]; omega, rfl⟩, ?_⟩
    rintro m σ H' ⟨t, L, us, vs, y, z, rfl, sm, hL, hit, ht, hsz', rfl⟩
    have hvl := hit.len
    by_cases hvs : vs = []
    · subst hvs
      cases hit
      refine ⟨_, rfl, false, .inl ⟨_, SqL.of hL, rfl⟩, iteF ⟨_, rfl, ?_⟩⟩
      have : t = v.dep := by rw [deps] at ht; omega
      subst this
      exact qq H' sm
    · have hn := deps_next vs hvs
      refine ⟨_, rfl, true, .inl ⟨_, SqL.of hL, by
        cases us with
        | nil => cases hit; exact absurd rfl hvs
        | cons _ _ => rfl⟩, iteT ?_⟩
      refine ⟨fun σ' H2 => ∃ (t2 : Nat) (L : Addr) (us : List V) (vs2 : List Va) (y z : Option V), σ' = [some x, some (.int t2), some (.ref L), y, z] ∧ Same H H2 ∧ H2 L = some (.lst us) ∧ ItAt H2 us vs2 ∧ t2 + deps vs2 = v.dep ∧ sizs vs2 ≤ 9000 ∧ t < t2, ?_, ?_⟩
      · rintro σ' H2 ⟨t2, L, us, vs2, y, z, e1, e2, e3, e4, e5, e6, e7⟩
        exact ⟨deps vs2, by omega, t2, L, us, vs2, y, z, e1, e2, e3, e4, e5, e6, rfl⟩
      refine ⟨_, rfl, _, _, rfl, rfl, _, rfl, L, rfl, ⟨us, SqL.of hL⟩, fun D hD => ?_⟩
      have sD := same_upd (o := .lst []) hD
      have hDL : L ≠ D := ne_of_none hL hD
      have hHD : H D = none := Same.none sm hD
      have nb : ∀ i, sizs (nextL (vs.take i)) ≤ 9000 := fun i => by
        have h1 := sizs_next (vs.take i)
        have h2 := sizs_take vs i
        omega
      refine HC.wk_it walk_list (fun i H1 => Same H' H1 ∧ ∃ acc, H1 D = some (.lst acc) ∧ ItAt H1 acc (nextL (vs.take i))) ⟨sD, [], upd_same, .nil⟩ (fun i H1 _ p => SqL.of (p.1 _ _ hL)) ?_ ?_
      · rintro i u H1 H1' hi ⟨s1, acc, hD1, hacc⟩ ⟨rfl, hx1⟩
        obtain ⟨p, hp, hup⟩ := All2.get hit hx1
        refine ⟨rfl, HC.yes (iteT ?_)⟩
        refine ⟨_, rfl, u, p, rfl, hup.keep (TupK.of s1), fun H2 q ws s2 hq hw => ?_⟩
        have hw := hw.all
        refine ⟨q, rfl, ⟨ws, SqT.of hq⟩, ?_⟩
        refine HC.wk_it walk_tup (fun j H3 => Same H' H3 ∧ H3 q = some (.tup ws) ∧ ItAt H3 ws p.parts ∧ ∃ acc, H3 D = some (.lst acc) ∧ ItAt H3 acc (nextL (vs.take i) ++ p.parts.take j)) ⟨Same.tr s1 s2, hq, hw, acc, s2 _ _ hD1, by rw [List.take_zero, List.append_nil]; exact ItAt.keep (TupK.of s2) hacc⟩ (fun j H' _ p => SqT.of p.2.1) ?_ ?_
        · rintro j y H3 H3' hj ⟨s3, hq3, hw3, acc3, hD3, hacc3⟩ ⟨rfl, hy⟩
          obtain ⟨c, hcj, hyc⟩ := All2.get hw3 hy
          have hlen := hacc3.len
          have l1 := nb (i + 1)
          rw [nextL_take hp, sizs_app] at l1
          have l2 := sizs_len (nextL (vs.take i))
          have l3 := sizs_len p.parts
          refine ⟨rfl, HC.yes (iteT ⟨_, rfl, acc3, hD3, ?_, ?_⟩)⟩
          · rw [hlen, List.length_append, List.length_take]; omega
          · have k3 := tk_lst (o := .lst (acc3 ++ [y])) hD3
            refine ⟨same_up s3 hD, k3 _ _ hq3, ItAt.keep k3 hw3, _, upd_same, ?_⟩
            rw [List.take_add_one, hcj, ← List.append_assoc]
            exact (ItAt.keep k3 hacc3).app (.one (hyc.keep k3))
        · rintro H3 ⟨s3, hq3, hw3, acc3, hD3, hacc3⟩
          refine ⟨s3, acc3, hD3, ?_⟩
          rw [nextL_take hp]
          rw [hw3.len, List.take_length] at hacc3
          exact hacc3
      · rintro H1 ⟨s1, acc, hD1, hacc⟩
        rw [hit.len, List.take_length] at hacc
        have := sizs_next vs
        exact ⟨t + 1, D, acc, nextL vs, _, _, rfl, Same.tr sm s1, hD1, hacc, by omega, by omega, by omega⟩
end
end Q25
namespace Q25
open PySem PySem.Spec PyProof.Rows L2 SX HL
/-! ### same -/
def Va.large : Va → Prop
  | .num i => 1267650600228229401496703205376 ≤ i.natAbs
  | .bl b => 1000 < (Va.bl b).siz ∨ 40 < (Va.bl b).dep
  | .txt b => 1000 < (Va.txt b).siz ∨ 40 < (Va.txt b).dep
  | .lst b => 1000 < (Va.lst b).siz ∨ 40 < (Va.lst b).dep
  | .mk m b => 1000 < (Va.mk m b).siz ∨ 40 < (Va.mk m b).dep
def PrAt (H : Hp) (us : List V) (ps : List (Va × Va)) : Prop := All2 (fun u p => ∃ t x y, u = .ref t ∧ H t = some (.tup [x, y]) ∧ VaAt H p.1 x ∧ VaAt H p.2 y) us ps
theorem PrAt.keep {H H' : Hp} (k : TupK H H') {us : List V} {ps : List (Va × Va)} (h : PrAt H us ps) : PrAt H' us ps := All2.mono h fun _ _ ⟨t, x, y, e, h1, h2, h3⟩ => ⟨t, x, y, e, k _ _ h1, h2.keep k, h3.keep k⟩
def pz1 (ps : List (Va × Va)) : Nat := sizs (ps.map Prod.fst)
def pz2 (ps : List (Va × Va)) : Nat := sizs (ps.map Prod.snd)
theorem zip_fst : ∀ {a b : List Va}, a.length = b.length → (a.zip b).map Prod.fst = a
  | [], [], _ => rfl
  | x :: a, y :: b, h => by
    rw [List.zip_cons_cons, List.map_cons, zip_fst (Nat.succ.inj h)]
theorem zip_snd : ∀ {a b : List Va}, a.length = b.length → (a.zip b).map Prod.snd = b
  | [], [], _ => rfl
  | x :: a, y :: b, h => by
    rw [List.zip_cons_cons, List.map_cons, zip_snd (Nat.succ.inj h)]
theorem zip_eq : ∀ {a b : List Va}, a.length = b.length → (a = b ↔ ∀ p ∈ a.zip b, p.1 = p.2)
  | [], [], _ => ⟨fun _ p hp => (by cases hp), fun _ => rfl⟩
  | x :: a, y :: b, h => by
    have ih := zip_eq (Nat.succ.inj h)
    rw [List.zip_cons_cons]
    constructor
    · intro e p hp
      obtain ⟨rfl, rfl⟩ := List.cons.inj e
      rcases List.mem_cons.mp hp with rfl | hp
      · rfl
      · exact ih.mp rfl p hp
    · intro hp
      rw [ih.mpr fun p q => hp p (List.mem_cons_of_mem _ q), show x = y from hp (x, y) (List.mem_cons_self ..)]
theorem va_eq {a b : Va} (hb : a.bare = b.bare) : a = b ↔ a.parts = b.parts := by
  cases a <;> cases b <;> simp_all [Va.bare, Va.parts]
theorem parts_zip {H : Hp} {xs ys : List V} {as bs : List Va} (h1 : ItAt H xs as) (h2 : ItAt H ys bs) (hl : as.length = bs.length) {H2 : Hp} (k : TupK H H2) {ps : List Addr} (hps : ps.length = xs.length)
    (hp : ∀ (j : Nat) (p : Addr), ps[j]? = some p → ∃ x y, xs[j]? = some x ∧ ys[j]? = some y ∧ H2 p = some (.tup [x, y])) : PrAt H2 (ps.map V.ref) (as.zip bs) := by
  have e1 := h1.len
  have e2 := h2.len
  refine All2.of_at (by rw [List.length_map, List.length_zip]; omega) fun i u pr hu hpr => ?_
  rw [List.getElem?_map] at hu
  cases hq : ps[i]? with
  | none => rw [hq] at hu; cases hu
  | some p =>
    rw [hq] at hu
    cases hu
    obtain ⟨x, y, hx, hy, ht⟩ := hp i p hq
    obtain ⟨a, ha, hax⟩ := All2.get h1 hx
    obtain ⟨b, hb, hby⟩ := All2.get h2 hy
    have : (as.zip bs)[i]? = some (a, b) := by
      rw [List.getElem?_zip_eq_some]
      exact ⟨ha, hb⟩
    rw [this] at hpr
    cases hpr
    exact ⟨p, x, y, rfl, ht, hax.keep k, hby.keep k⟩
section
variable {P : Program} {w : World} {K : PySem.W.Frag} {mg : Str → Option Value} {base : Heap}
def spSameV : Sp := fun vs H Q _ => ∃ (x y : V) (a b : Va), vs = [x, y] ∧ VaAt H a x ∧ VaAt H b y ∧ a.siz ≤ 9000 ∧ b.siz ≤ 9000 ∧ (∃ B, a.ok B ∧ b.ok B) ∧ ∀ H' (r : Bool), Same H H' → (r = true ↔ a = b) → Q (.bl r) H'
theorem ok_sameV {k : Nat} (Z : Defs K mg) (GForm : FnOk P w K mg base CX0 k Z.fForm Z.fdForm ["value"] spForm) (GInner : FnOk P w K mg base CX0 k Z.fInner Z.fdInner ["value"] spInner) (GBare : FnOk P w K mg base CX0 k Z.fBare Z.fdBare ["value"] spBare) : FnOk P w K mg base CX0 (k + 1) Z.fSame Z.fdSame ["first", "second"] spSameV := by
  refine Z.DSame.F.ok scSame (fun vs H Q E h => ?_) (fun cdv A outer s H vs Q E hr h => ?_)
  · obtain ⟨x, y, a, b, rfl, _⟩ := h
    rfl
  · obtain ⟨x, y, a, b, rfl, hx, hy, ha, hb, ⟨B, oka, okb⟩, qq⟩ := h
    refine ⟨_, (pss_cons (ps_set (i := 2) scSame.nd rfl (.inl rfl) (pe_lst (pa_cons (pe_tup (pa_cons (pv 0) (pa_cons (pv 1) pa_nil))) pa_nil)))
        (pss_cons (ps_while PassesOwn.never (pt_truth (pv 2) (by intro _; rfl)) (pss_cons (ps_asg (pe_bm0 PySem.F.plainAttrs_list PySem.F.slot_list_pop PySem.F.type_list_pop mt_pop (pv 2)) (pg_tup rfl (pgs_cons (pg_name (i := 3) scSame.nd rfl (.inl rfl)) (pgs_cons (pg_name (i := 4) scSame.nd rfl (.inl rfl)) pgs_nil))))
        (pss_cons (ps_if (PW.pt (pw_or (pt_cmpR op_ne (pe_call GForm (hr.mono (by omega)) (by rfl) Z.DForm.g Z.DForm.F.kp Z.DForm.b .nil pass0 (pa_cons (pv 3) pa_nil)) (pe_call GForm (hr.mono (by omega)) (by rfl) Z.DForm.g Z.DForm.F.kp Z.DForm.b .nil pass0 (pa_cons (pv 4) pa_nil)) (nomark _)) (pw_or (pt_cmpR op_ne (pe_callB call_len_seq (by rfl) Z.len PySem.boot_len (pa_cons (pe_call GInner (hr.mono (by omega)) (by rfl) Z.DInner.g Z.DInner.F.kp Z.DInner.b .nil pass0 (pa_cons (pv 3) pa_nil)) pa_nil)) (pe_callB call_len_seq (by rfl) Z.len PySem.boot_len (pa_cons (pe_call GInner (hr.mono (by omega)) (by rfl) Z.DInner.g Z.DInner.F.kp Z.DInner.b .nil pass0 (pa_cons (pv 4) pa_nil)) pa_nil)) (nomark _)) (pw_or1 (pt_cmpR (op_neD hr.units) (pe_call GBare (hr.mono (by omega)) (by rfl) Z.DBare.g Z.DBare.F.kp Z.DBare.b .nil pass0 (pa_cons (pv 3) pa_nil)) (pe_call GBare (hr.mono (by omega)) (by rfl) Z.DBare.g Z.DBare.F.kp Z.DBare.b .nil pass0 (pa_cons (pv 4) pa_nil)) (nomark _)))))) (pss_one (ps_ret pe_bl)) pss_nil)
        (pss_one (ps_expr (pe_bm PySem.F.plainAttrs_list PySem.F.slot_list_extend PySem.F.type_list_extend mt_extend (pv 2) (pa_cons (HZ.pe_lz (by rfl) (by rfl) Z.list (by rfl) Z.zip (pa_cons (pe_call GInner (hr.mono (by omega)) (by rfl) Z.DInner.g Z.DInner.F.kp Z.DInner.b .nil pass0 (pa_cons (pv 3) pa_nil)) (pa_cons (pe_call GInner (hr.mono (by omega)) (by rfl) Z.DInner.g Z.DInner.F.kp Z.DInner.b .nil pass0 (pa_cons (pv 4) pa_nil)) pa_nil))) pa_nil)))))))
        (pss_one (ps_ret pe_bl)))), ?_⟩
    have big : 16777216 ≤ sizeLine := by decide +kernel
    refine ⟨_, rfl, _, rfl, by show 2 ≤ sizeLine; decide, fun t ht => ⟨by show 1 ≤ sizeLine; decide, fun W hW => ?_⟩⟩
    have st : Same H (upd H t (.tup [x, y])) := same_upd ht
    have s0 : Same (upd H t (.tup [x, y])) (upd (upd H t (.tup [x, y])) W (.lst [.ref t])) := same_upd hW
    have hWH : H W = none := Same.none st hW
    have k0 := TupK.of (Same.tr st s0)
    refine ⟨fun m σ H' => ∃ (us : List V) (ps : List (Va × Va)) (y3 y4 : Option V), σ = [some x, some y, some (.ref W), y3, y4] ∧ Same H H' ∧ H' W = some (.lst us) ∧ PrAt H' us ps ∧ (a = b ↔ ∀ p ∈ ps, p.1 = p.2) ∧ pz1 ps ≤ 9000 ∧ pz2 ps ≤ 9000 ∧ (∀ p ∈ ps, p.1.ok B ∧ p.2.ok B) ∧ m = pz1 ps,
      ⟨_, [.ref t], [(a, b)], none, none, rfl, Same.tr st s0, upd_same, .cons ⟨t, x, y, rfl, s0 _ _ upd_same, hx.keep k0, hy.keep k0⟩ .nil, ⟨fun e p hp => by rw [List.mem_singleton.mp hp]; exact e, fun h => h (a, b) (List.mem_singleton.mpr rfl)⟩,
        by show sizs [a] ≤ 9000; rw [sizs, sizs]; omega, by show sizs [b] ≤ 9000; rw [sizs, sizs]; omega, fun p hp => by rw [List.mem_singleton.mp hp]; exact ⟨oka, okb⟩, rfl⟩, ?_⟩
    rintro m σ H' ⟨us, ps, y3, y4, rfl, sm, hw, hpr, hiff, hz1, hz2, hok, rfl⟩
    rcases lst2 hpr with ⟨rfl, rfl⟩ | ⟨us', u, ps', ⟨c, d⟩, rfl, rfl, ⟨tp, xc, yd, rfl, htp, hxc, hyd⟩, hpr'⟩
    · refine ⟨_, rfl, false, .inl ⟨_, SqL.of hw, rfl⟩, iteF ?_⟩
      exact qq H' true sm ⟨fun _ => hiff.mpr fun p hp => (by cases hp), fun _ => rfl⟩
    · refine ⟨_, rfl, true, .inl ⟨_, SqL.of hw, by simp⟩, iteT ?_⟩
      have hz1' : pz1 (ps' ++ [(c, d)]) = pz1 ps' + c.siz := by
        unfold pz1
        rw [List.map_append, sizs_app]
        show _ + (c.siz + 0) = _
        omega
      have hz2' : pz2 (ps' ++ [(c, d)]) = pz2 ps' + d.siz := by
        unfold pz2
        rw [List.map_append, sizs_app]
        show _ + (d.siz + 0) = _
        omega
      rw [hz1'] at hz1
      rw [hz2'] at hz2
      obtain ⟨okc, okd⟩ := hok (c, d) (by simp)
      have hiff2 : a = b ↔ (∀ p ∈ ps', p.1 = p.2) ∧ c = d := by
        rw [hiff]
        constructor
        · intro h
          exact ⟨fun p hp => h p (List.mem_append_left _ hp), h (c, d) (by simp)⟩
        · rintro ⟨h1, h2⟩ p hp
          rcases List.mem_append.mp hp with hp | hp
          · exact h1 p hp
          · rw [List.mem_singleton.mp hp]; exact h2
      have no : ∀ H2, Same H H2 → c ≠ d → Q (.bl false) H2 := fun H2 s2 h => qq H2 false s2 ⟨fun e => (by cases e), fun e => absurd (hiff2.mp e).2 h⟩
      refine ⟨fun σ' H2 => ∃ (us : List V) (ps : List (Va × Va)) (y3 y4 : Option V), σ' = [some x, some y, some (.ref W), y3, y4] ∧ Same H H2 ∧ H2 W = some (.lst us) ∧ PrAt H2 us ps ∧ (a = b ↔ ∀ p ∈ ps, p.1 = p.2) ∧ pz1 ps ≤ 9000 ∧ pz2 ps ≤ 9000 ∧ (∀ p ∈ ps, p.1.ok B ∧ p.2.ok B) ∧ pz1 ps < pz1 ps' + c.siz, ?_, ?_⟩
      · rintro σ' H2 ⟨us, ps, y3, y4, e1, e2, e3, e4, e5, e6, e7, e8, e9⟩
        exact ⟨pz1 ps, by rw [hz1']; exact e9, us, ps, y3, y4, e1, e2, e3, e4, e5, e6, e7, e8, rfl⟩
      refine ⟨_, rfl, .inl ⟨rfl, _, SqL.of hw⟩, W, _, .ref tp, rfl, rfl, hw, by simp, ?_⟩
      rw [List.dropLast_concat]
      have sm1 : Same H (upd H' W (.lst us')) := same_up sm hWH
      have k1 : TupK H' (upd H' W (.lst us')) := tk_lst hw
      have hxc1 := hxc.keep k1
      have hyd1 := hyd.keep k1
      have htp1 := k1 _ _ htp
      have hpr1 : PrAt (upd H' W (.lst us')) us' ps' := PrAt.keep k1 hpr'
      have hw1 : upd H' W (.lst us') W = some (.lst us') := upd_same
      clear hpr
      generalize upd H' W (.lst us') = H1 at *
      refine ⟨tp, _, rfl, SqT.of htp1, rfl, ?_⟩
      refine ⟨_, _, rfl, _, _, rfl, rfl, _, rfl, xc, c, rfl, hxc1, _, rfl, yd, d, rfl, hyd1, rfl, _, rfl, ite2 (fun e => iteT (no H1 sm1 fun e2 => ?_)) (fun e => ?_)⟩
      · rw [e2] at e
        simp at e
      have hform : c.form = d.form := by simpa using e
      refine ⟨_, rfl, xc, c, rfl, hxc1, fun H2 q1 us1 sm2 hq1 hv1 => ⟨q1, us1, rfl, .inr (SqT.of hq1), _, rfl, yd, d, rfl, hyd1.keep (TupK.of sm2), fun H3 q2 us2 sm3 hq2 hv2 => ⟨q2, us2, rfl, .inr (SqT.of hq2), rfl, _, rfl, ?_⟩⟩⟩
      have hv1 := hv1.all
      have hv2 := hv2.all
      have l1 := hv1.len
      have l2 := hv2.len
      have sm23 := Same.tr sm2 sm3
      refine ite2 (fun e => iteT (no H3 (Same.tr sm1 sm23) fun e2 => ?_)) (fun e => ?_)
      · rw [l1, l2, e2] at e
        simp at e
      have hlen : c.parts.length = d.parts.length := by
        rw [l1, l2] at e
        have e3 : (c.parts.length : Int) = d.parts.length := by simpa using e
        omega
      have hxc3 := hxc1.keep (TupK.of sm23)
      have hyd3 := hyd1.keep (TupK.of sm23)
      refine ⟨_, rfl, xc, c, rfl, hxc3, fun H4 r1 sm4 hr1 => ⟨_, rfl, yd, d, rfl, hyd3.keep (TupK.of sm4), fun H5 r2 sm5 hr2 => ?_⟩⟩
      obtain ⟨de, ee, hd1, hd2, sh1, sh2, hbare⟩ := eq_bare (K := K) (hr1.keep (TupK.of sm5)) hr2 ⟨B, okc⟩ ⟨B, okd⟩ hform
      refine ⟨de, ee, hd1, hd2, sh1, sh2, _, rfl, ?_⟩
      have sm15 : Same H1 H5 := Same.tr sm23 (Same.tr sm4 sm5)
      refine ite2 (fun e => ?_) (fun e => ?_)
      · refine no H5 (Same.tr sm1 sm15) fun e2 => ?_
        rw [hbare.mpr (by rw [e2])] at e
        cases e
      have hb : c.bare = d.bare := hbare.mp (by
        cases z : PyData.eqv de ee with
        | true => rfl
        | false => rw [z] at e; exact absurd rfl e)
      have hxc5 := hxc1.keep (TupK.of sm15)
      have hyd5 := hyd1.keep (TupK.of sm15)
      refine ⟨_, rfl, .inl ⟨rfl, _, SqL.of (sm15 _ _ hw1)⟩, _, rfl, xc, c, rfl, hxc5, fun H6 q3 us3 sm6 hq3 hv3 => ⟨_, rfl, yd, d, rfl, hyd5.keep (TupK.of sm6), fun H7 q4 us4 sm7 hq4 hv4 => ?_⟩⟩
      have hv3 := ItAt.keep (TupK.of sm7) hv3.all
      have hv4 : ItAt H7 us4 d.parts := hv4.all
      have l3 := hv3.len
      have l4 := hv4.len
      refine ⟨q3, q4, us3, us4, rfl, SqT.of (sm7 _ _ hq3), SqT.of hq4, by omega, fun H8 L qs sm8 hL hLs hql hqs => ?_⟩
      have sm17 : Same H1 H7 := Same.tr sm15 (Same.tr sm6 sm7)
      have sm18 : Same H1 H8 := Same.tr sm17 sm8
      have hpz := parts_zip hv3 hv4 hlen (TupK.of sm8) hql fun j p hj => by
        obtain ⟨x, y, h1, h2, _, _, h3⟩ := hqs j p hj
        exact ⟨x, y, h1, h2, h3⟩
      have z1 := parts_siz c
      have z2 := parts_siz d
      have z3 := sizs_len (ps'.map Prod.fst)
      rw [List.length_map] at z3
      have z4 := sizs_len c.parts
      have z5 := hpr1.len
      have z6 : pz1 ps' = sizs (ps'.map Prod.fst) := rfl
      refine ⟨W, L, us', _, rfl, rfl, sm18 _ _ hw1, hLs, by rw [List.length_map]; omega, ?_⟩
      have e1 : pz1 (ps' ++ c.parts.zip d.parts) = pz1 ps' + sizs c.parts := by
        unfold pz1
        rw [List.map_append, sizs_app, zip_fst hlen]
      have e2 : pz2 (ps' ++ c.parts.zip d.parts) = pz2 ps' + sizs d.parts := by
        unfold pz2
        rw [List.map_append, sizs_app, zip_snd hlen]
      refine ⟨us' ++ qs.map V.ref, ps' ++ c.parts.zip d.parts, _, _, rfl, same_up (Same.tr sm1 sm18) hWH, upd_same, PrAt.keep (tk_lst (sm18 _ _ hw1)) ((PrAt.keep (TupK.of sm18) hpr1).app hpz), ?_, by rw [e1]; omega, by rw [e2]; omega, ?_, by rw [e1]; omega⟩
      · rw [hiff2, va_eq hb, zip_eq hlen]
        constructor
        · rintro ⟨h1, h2⟩ p hp
          rcases List.mem_append.mp hp with hp | hp
          · exact h1 p hp
          · exact h2 p hp
        · intro h
          exact ⟨fun p hp => h p (List.mem_append_left _ hp), fun p hp => h p (List.mem_append_right _ hp)⟩
      · intro p hp
        rcases List.mem_append.mp hp with hp | hp
        · exact hok p (List.mem_append_left _ hp)
        · have := List.of_mem_zip hp
          exact ⟨Va.parts_ok okc _ this.1, Va.parts_ok okd _ this.2⟩
def spLarge : Sp := fun vs H Q _ => ∃ (x : V) (v : Va), vs = [x] ∧ VaAt H v x ∧ v.siz ≤ 9000 ∧ ∀ H' (r : Bool), Same H H' → (r = true ↔ v.large) → Q (.bl r) H'
theorem ok_large {k : Nat} (Z : Defs K mg) (GForm : FnOk P w K mg base CX0 k Z.fForm Z.fdForm ["value"] spForm) (GSize : FnOk P w K mg base CX0 k Z.fSize Z.fdSize ["value"] spSize) (GDepth : FnOk P w K mg base CX0 k Z.fDepth Z.fdDepth ["value"] spDepth) : FnOk P w K mg base CX0 (k + 1) Z.fIsLarge Z.fdIsLarge ["value"] spLarge := by
  refine Z.DIsLarge.F.ok scIsLarge (fun vs H Q E h => ?_) (fun cdv A outer s H vs Q E hr h => ?_)
  · obtain ⟨x, v, rfl, _⟩ := h
    rfl
  · obtain ⟨x, v, rfl, hx, hsz, qq⟩ := h
    refine ⟨_, (pss_cons (ps_if (pt_cmpR op_eq (pe_call GForm (hr.mono (by omega)) (by rfl) Z.DForm.g Z.DForm.F.kp Z.DForm.b .nil pass0 (pa_cons (pv 0) pa_nil)) pe_str (nomark _)) (pss_one (ps_ret (pe_cmpR op_ge (pe_callB call_abs (by rfl) Z.abs (by decide +kernel) (pa_cons (pv 0) pa_nil)) (pe_gint rfl Z.kTOO_LARGE) (nomark _)))) pss_nil)
        (pss_one (ps_ret (pe_or (pe_cmpR op_gt (pe_call GSize (hr.mono (by omega)) (by rfl) Z.DSize.g Z.DSize.F.kp Z.DSize.b .nil pass0 (pa_cons (pv 0) pa_nil)) (pe_gint rfl Z.kMOST_SIZE) (nomark _)) (pe_one (pe_cmpR op_gt (pe_call GDepth (hr.mono (by omega)) (by rfl) Z.DDepth.g Z.DDepth.F.kp Z.DDepth.b .nil pass0 (pa_cons (pv 0) pa_nil)) (pe_gint rfl Z.kMOST_DEPTH) (nomark _))))))), ?_⟩
    refine ⟨_, rfl, x, v, rfl, hx, ?_⟩
    refine ⟨rfl, _, rfl, ite2 (fun e => ?_) (fun e => ?_)⟩
    · have e : v.form = "num" := by simpa using e
      cases v with
      | num i =>
        obtain rfl : x = _ := hx
        refine ⟨_, rfl, i, rfl, _, _, rfl, rfl, ?_⟩
        refine qq H _ (Same.refl H) ?_
        simp only [decide_eq_true_eq, Va.large]
        split <;> omega
      | _ => exact absurd e (by simp only [Va.form]; decide +kernel)
    · have e : v.form ≠ "num" := by simpa using e
      have hm : ∀ r : Bool, (r = true ↔ 1000 < v.siz ∨ 40 < v.dep) → (r = true ↔ v.large) := fun r h => by
        cases v with
        | num i => exact absurd rfl e
        | _ => exact h
      refine ⟨_, rfl, x, v, rfl, hx, hsz, fun H1 s1 => ⟨_, _, rfl, rfl, _, rfl, ite2 (fun e2 => ?_) (fun e2 => ?_)⟩⟩
      · refine qq H1 true s1 (hm true ⟨fun _ => .inl ?_, fun _ => rfl⟩)
        have : (1000 : Int) < (v.siz : Int) := by simpa using e2
        omega
      · have h2 : ¬ (1000 : Int) < (v.siz : Int) := by simpa using e2
        refine ⟨_, rfl, x, v, rfl, hx.keep (TupK.of s1), hsz, fun H2 s2 => ⟨_, _, rfl, rfl, ?_⟩⟩
        refine qq H2 _ (Same.tr s1 s2) (hm _ ?_)
        simp only [decide_eq_true_eq]
        omega
end
end Q25
namespace Q25
open PySem PySem.Spec PyProof.Rows L2 SX HL
/-! ### write_value, write_parts -/
def nTx (i : Int) : Str := toString i
def q2 (z : Str) : Str := PySem.Txt.replace z "'" "''"
mutual
def Va.wr : Va → Str
  | .bl true => "true"
  | .bl false => "false"
  | .num i => nTx i
  | .txt z => "'" ++ q2 z ++ "'"
  | .lst vs => "[" ++ PySem.Txt.join ", " (wrs vs) ++ "]"
  | .mk m [] => m
  | .mk m (v :: vs) => m ++ "(" ++ PySem.Txt.join ", " (v.wr :: wrs vs) ++ ")"
def wrs : List Va → List Str
  | [] => []
  | v :: vs => v.wr :: wrs vs
end
theorem wrs_map : ∀ vs : List Va, wrs vs = vs.map Va.wr
  | [] => rfl
  | v :: vs => by rw [wrs, wrs_map vs]; rfl
def BB : Nat := 1298074214633706907132624082305024
theorem bb_log {i : Int} (h : i.natAbs ≤ BB) : i.natAbs.log2 < 1920 := by
  by_cases e : i.natAbs = 0
  · rw [e]; decide
  · refine (Nat.log2_lt e).mpr (Nat.lt_of_le_of_lt h ?_)
    decide +kernel
theorem len_app (a b : Str) : (a ++ b).length = a.length + b.length := by
  show (a ++ b).cps.size = a.cps.size + b.cps.size
  rw [PySem.Str.cps_append, Array.size_append]
theorem dbl_len (c : Nat) : ∀ l : List Nat, (PySem.StrLaws.dbl c l).length ≤ 2 * l.length
  | [] => Nat.le_refl _
  | x :: l => by
    have := dbl_len c l
    unfold PySem.StrLaws.dbl
    split
    · simp only [List.length_cons]; omega
    · simp only [List.length_cons]; omega
theorem q2_len (z : Str) : (q2 z).length ≤ 2 * z.length := by
  have h := PySem.StrLaws.replace_double z 39
  have e : q2 z = PySem.Txt.replace z ⟨#[39]⟩ ⟨#[39, 39]⟩ := rfl
  have h2 : (q2 z).cps.toList.length ≤ 2 * z.cps.toList.length := by
    rw [e, h]
    exact dbl_len _ _
  rw [Array.length_toList, Array.length_toList] at h2
  exact h2
theorem tjoin_len (l : List Str) : (PySem.Txt.join ", " l).length ≤ (l.map (·.length)).sum + l.length * 2 := by
  show (PySem.Builtin.Str.glued ", " l).length ≤ _
  rw [StrLaws.glued_eq_join]
  exact StrLaws.join_length_le _ _
mutual
theorem wr_len : ∀ {v : Va}, v.ok BB → v.wr.length + 2 ≤ 1930 * v.siz
  | .bl true, _ => by decide +kernel
  | .bl false, _ => by decide +kernel
  | .num i, h => by
    have : (nTx i).length ≤ 1921 := PyProof.Rows.int_text_len_1921 (bb_log h)
    simp only [Va.wr, Va.siz]
    omega
  | .txt z, _ => by
    have := q2_len z
    simp only [Va.wr, Va.siz, len_app]
    have e : ("'" : Str).length = 1 := by decide +kernel
    omega
  | .lst vs, h => by
    have h1 := wrs_len h
    have h2 := tjoin_len (wrs vs)
    have h3 : (wrs vs).length = vs.length := by rw [wrs_map, List.length_map]
    have e1 : ("[" : Str).length = 1 := by decide +kernel
    have e2 : ("]" : Str).length = 1 := by decide +kernel
    simp only [Va.wr, Va.siz, len_app]
    omega
  | .mk m [], h => by
    have := h.1
    simp only [Va.wr, Va.siz]
    omega
  | .mk m (v :: vs), h => by
    have h1 := wrs_len h.2.2
    have h2 := tjoin_len (wrs (v :: vs))
    have h3 : (wrs (v :: vs)).length = (v :: vs).length := by rw [wrs_map, List.length_map]
    have h4 := h.1
    rw [wrs] at h2 h3
    have e1 : ("(" : Str).length = 1 := by decide +kernel
    have e2 : (")" : Str).length = 1 := by decide +kernel
    simp only [Va.wr, Va.siz, len_app]
    rw [wrs] at h1
    omega
theorem wrs_len : ∀ {vs : List Va}, oks BB vs → ((wrs vs).map (·.length)).sum + vs.length * 2 ≤ 1930 * sizs vs
  | [], _ => Nat.le_refl _
  | v :: vs, h => by
    have h1 := wr_len h.1
    have h2 := wrs_len h.2
    rw [wrs, sizs, List.map_cons, List.sum_cons, List.length_cons]
    omega
end
section
variable {P : Program} {w : World} {K : PySem.W.Frag} {mg : Str → Option Value} {base : Heap}
def spWv (n : Nat) : Sp := fun vs H Q _ => ∃ (x : V) (v : Va), vs = [x] ∧ VaAt H v x ∧ v.ok BB ∧ v.siz ≤ 8000 ∧ v.dep ≤ n ∧ ∀ H', Same H H' → Q (.str v.wr) H'
def spWp (n : Nat) : Sp := fun vs H Q _ => ∃ (q : Addr) (us : List V) (ps : List Va), vs = [.ref q] ∧ H q = some (.tup us) ∧ ItAt H us ps ∧ oks BB ps ∧ sizs ps ≤ 8000 ∧ deps ps ≤ n ∧ ∀ H', Same H H' → Q (.str (PySem.Txt.join ", " (wrs ps))) H'
theorem wp_step {k n : Nat} (Z : Defs K mg) (GWriteValue : FnOk P w K mg base CX0 k Z.fWriteValue Z.fdWriteValue ["value"] (spWv n)) : FnOk P w K mg base CX0 (k + 1) Z.fWriteParts Z.fdWriteParts ["values"] (spWp n) := by
  refine Z.DWriteParts.F.ok scWriteParts (fun vs H Q E h => ?_) (fun cdv A outer s H vs Q E hr h => ?_)
  · obtain ⟨q, us, ps, rfl, _⟩ := h
    rfl
  · obtain ⟨q, us, ps, rfl, hq, hit, hok, hsz, hdp, qq⟩ := h
    refine ⟨_, (pss_one (ps_ret (pe_join pe_str (pe_lc (own := [("value", 1)]) (g := (gName 1)) (by rfl) scWriteParts.nd (HK.pi_tupK (K := K) rfl (pv 0)) (blkOk_by (own := [("value", 1)]) (N := ["values", "value"]) (sc := defScope sWriteParts) (by decide +kernel)) (fun _ _ _ _ _ => (pg_name (i := 1) scWriteParts.nd rfl (Or.inl rfl))) (fun _ _ _ _ _ => pts_nil) (fun _ _ _ _ _ => (pe_call GWriteValue (hr.mono (by omega)) (by rfl) Z.DWriteValue.g Z.DWriteValue.F.kp Z.DWriteValue.b .nil pass0 (pa_cons (pv 1) pa_nil))))))), ?_⟩
    have big : 16777216 ≤ sizeLine := by decide +kernel
    have hl := hit.len
    have hl2 := sizs_len ps
    refine ⟨⟨_, rfl⟩, _, rfl, q, rfl, ⟨us, SqT.of hq⟩, fun D hD => ?_⟩
    have sD := same_upd (o := .lst []) hD
    refine lc_it walk_tup (fun i H1 => Same H H1 ∧ H1 D = some (.lst ((wrs (ps.take i)).map V.str))) ⟨sD, upd_same⟩ (fun i H1 _ p => SqT.of (p.1 _ _ hq)) ?_ ?_
    · rintro i u H1 H1' hi ⟨s1, hD1⟩ ⟨rfl, hx1⟩
      obtain ⟨p, hp, hup⟩ := All2.get hit hx1
      have hm := List.mem_of_getElem? hp
      have e1 := siz_mem hm
      have e2 := dep_mem hm
      refine ⟨rfl, lc_yes ⟨_, rfl, u, p, rfl, hup.keep (TupK.of s1), oks_all hok p hm, by omega, by omega, fun H2 s2 => ?_⟩⟩
      refine ⟨_, s2 _ _ hD1, by rw [List.length_map, wrs_map, List.length_map, List.length_take]; omega, ?_⟩
      refine ⟨same_up (Same.tr s1 s2) hD, ?_⟩
      rw [upd_same, wrs_map, wrs_map, List.take_add_one, hp, List.map_append, List.map_append]
      rfl
    · rintro H1 ⟨s1, hD1⟩
      rw [hl, List.take_length] at hD1
      have hb := wrs_len hok
      have h3 : (wrs ps).length = ps.length := by rw [wrs_map, List.length_map]
      refine ⟨_, D, wrs ps, rfl, rfl, .inl (SqL.of hD1), ?_, qq H1 s1⟩
      have e : (", " : Str).length = 2 := by decide +kernel
      rw [e, h3]
      omega
theorem wv_step {k n : Nat} (Z : Defs K mg) (GForm : FnOk P w K mg base CX0 1 Z.fForm Z.fdForm ["value"] spForm) (hk : 1 ≤ k) (GWriteParts : FnOk P w K mg base CX0 k Z.fWriteParts Z.fdWriteParts ["values"] (spWp n)) : FnOk P w K mg base CX0 (k + 1) Z.fWriteValue Z.fdWriteValue ["value"] (spWv (n + 1)) := by
  refine Z.DWriteValue.F.ok scWriteValue (fun vs H Q E h => ?_) (fun cdv A outer s H vs Q E hr h => ?_)
  · obtain ⟨x, v, rfl, _⟩ := h
    rfl
  · obtain ⟨x, v, rfl, hx, hok, hsz, hdp, qq⟩ := h
    refine ⟨_, (pss_cons (HM.ps_match (pe_call GForm (hr.mono (by omega)) (by rfl) Z.DForm.g Z.DForm.F.kp Z.DForm.b .nil pass0 (pa_cons (pv 0) pa_nil)) (HM.pm_val (pss_one (ps_ret (pe_callTy call_str_int (by rfl) Z.str HL.boot_str (pa_cons (pv 0) pa_nil)))) (HM.pm_val (pss_one (ps_ret (pe_op op_add_str (RPL.pe_cat_repl (pv 0) (by decide +kernel)) pe_str))) (HM.pm_val (pss_one (ps_ret (pe_ifExp (pt_truth (pv 0) (by intro _; rfl)) pe_str pe_str))) (HM.pm_val (pss_one (ps_ret (pe_op op_add_str (pe_op op_add_str pe_str (pe_call GWriteParts (hr.mono (by omega)) (by rfl) Z.DWriteParts.g Z.DWriteParts.F.kp Z.DWriteParts.b .nil pass0 (pa_cons (pe_ix ix_tup (pv 0) pe_int (fun _ _ => rfl)) pa_nil))) pe_str))) HM.pm_nil)))))
        (pss_one (ps_ret (pe_ifExp (pt_truth (pe_ix ix_tup (pv 0) pe_int (fun _ _ => rfl)) (by intro _; rfl)) (pe_joined (.cons (pe_fmt (pe_ix ix_tup (pv 0) pe_int (fun _ _ => rfl))) (.cons pe_str (.cons (pe_fmt (pe_call GWriteParts (hr.mono (by omega)) (by rfl) Z.DWriteParts.g Z.DWriteParts.F.kp Z.DWriteParts.b .nil pass0 (pa_cons (pe_ix ix_tup (pv 0) pe_int (fun _ _ => rfl)) pa_nil))) (.cons pe_str .nil))))) (pe_ix ix_tup (pv 0) pe_int (fun _ _ => rfl)))))), ?_⟩
    have big : 16777216 ≤ sizeLine := by decide +kernel
    have hwl := wr_len hok
    refine ⟨_, rfl, x, v, rfl, hx, _, rfl, ?_⟩
    cases v with
    | bl b =>
      obtain rfl : x = _ := hx
      refine iteNo (by simp only [Va.form]; decide +kernel) ⟨_, rfl, iteNo (by simp only [Va.form]; decide +kernel) ⟨_, rfl, iteYes rfl ?_⟩⟩
      cases b with
      | true => exact ⟨_, rfl, true, rfl, iteT (qq H (Same.refl H))⟩
      | false => exact ⟨_, rfl, false, rfl, iteF (qq H (Same.refl H))⟩
    | num i =>
      obtain rfl : x = _ := hx
      exact iteYes rfl ⟨_, rfl, i, rfl, bb_log hok, qq H (Same.refl H)⟩
    | txt z =>
      obtain rfl : x = _ := hx
      have h1 := q2_len z
      have e1 : ("'" : Str).length = 1 := by decide +kernel
      have e2 : ("''" : Str).length = 2 := by decide +kernel
      simp only [Va.siz] at hsz
      refine iteNo (by simp only [Va.form]; decide +kernel) ⟨_, rfl, iteYes rfl ⟨_, rfl, z, rfl, ?_, ?_, _, _, rfl, rfl, ?_, qq H (Same.refl H)⟩⟩
      · rw [e2]; omega
      · show _ + (q2 z).length ≤ _
        omega
      · show (("'" : Str) ++ q2 z).length + ("'" : Str).length ≤ _
        rw [len_app]
        omega
    | lst ps =>
      obtain ⟨t, q, us, rfl, h1, h2, h3⟩ := hx
      have z1 := parts_siz (.lst ps)
      have z2 := parts_dep (.lst ps)
      simp only [Va.parts] at z1 z2
      refine iteNo (by simp only [Va.form]; decide +kernel) ⟨_, rfl, iteNo (by simp only [Va.form]; decide +kernel) ⟨_, rfl, iteNo (by simp only [Va.form]; decide +kernel) ⟨_, rfl, iteYes rfl ?_⟩⟩⟩
      have hl : ("[" ++ PySem.Txt.join ", " (wrs ps) ++ "]" : Str).length + 2 ≤ 1930 * (Va.lst ps).siz := hwl
      refine ⟨_, rfl, t, _, 1, .ref q, rfl, rfl, SqT.of h1, rfl, q, us, ps, rfl, h2, h3.all, hok, by omega, by omega, fun H1 s1 => ⟨_, _, rfl, rfl, ?_, _, _, rfl, rfl, ?_, qq H1 s1⟩⟩
      · have hl2 := hl
        rw [len_app] at hl2
        rw [len_app] at hl2
        omega
      · have hl2 := hl
        rw [len_app] at hl2
        omega
    | mk m ps =>
      obtain ⟨t, q, us, rfl, h1, h2, h3⟩ := hx
      have z1 := parts_siz (.mk m ps)
      have z2 := parts_dep (.mk m ps)
      simp only [Va.parts] at z1 z2
      refine iteNo (by simp only [Va.form]; decide +kernel) ⟨_, rfl, iteNo (by simp only [Va.form]; decide +kernel) ⟨_, rfl, iteNo (by simp only [Va.form]; decide +kernel) ⟨_, rfl, iteNo (by simp only [Va.form]; decide +kernel) ?_⟩⟩⟩
      have h3 := h3.all
      cases ps with
      | nil =>
        cases h3
        refine ⟨_, rfl, t, _, 2, .ref q, rfl, rfl, SqT.of h1, rfl, false, .inr (.inl ⟨_, SqT.of h2, rfl⟩), iteF ?_⟩
        exact ⟨_, rfl, t, _, 1, .str m, rfl, rfl, SqT.of h1, rfl, qq H (Same.refl H)⟩
      | cons p r =>
        cases h3 with
        | cons ha hr3 =>
        rename_i u us'
        have hl : (m ++ "(" ++ PySem.Txt.join ", " (wrs (p :: r)) ++ ")" : Str).length + 2 ≤ 1930 * (Va.mk m (p :: r)).siz := hwl
        refine ⟨_, rfl, t, _, 2, .ref q, rfl, rfl, SqT.of h1, rfl, true, .inr (.inl ⟨_, SqT.of h2, rfl⟩), iteT ?_⟩
        have hl1 := hl
        rw [len_app, len_app, len_app] at hl1
        have e0 : ∀ z : Str, PySem.Str.empty ++ z = z := PySem.Str.empty_append
        have e1 : ("(" : Str).length = 1 := by decide +kernel
        have e2 : (")" : Str).length = 1 := by decide +kernel
        have hmk : PySem.Str.empty ++ m ++ "(" ++ PySem.Txt.join ", " (wrs (p :: r)) ++ ")" = (Va.mk m (p :: r)).wr := by
          rw [e0]
          rfl
        refine ⟨_, rfl, t, _, 1, .str m, rfl, rfl, SqT.of h1, rfl, .inl ⟨m, rfl, by omega, _, rfl, by rw [e0]; omega, _, rfl, by rw [e0, len_app]; omega, ?_⟩⟩
        refine ⟨_, rfl, t, _, 2, .ref q, rfl, rfl, SqT.of h1, rfl, q, _, p :: r, rfl, h2, .cons ha hr3, hok.2.2, by omega, by omega, fun H1 s1 => .inl ⟨_, rfl, by omega, _, rfl, ?_, _, rfl, ?_, ?_⟩⟩
        · rw [e0, len_app, len_app]; omega
        · rw [e0, len_app, len_app, len_app]; omega
        · have := qq H1 s1
          rw [← hmk] at this
          exact this
theorem wv_zero {k : Nat} (Z : Defs K mg) : FnOk P w K mg base CX0 (k + 1) Z.fWriteValue Z.fdWriteValue ["value"] (spWv 0) := by
  have no : ∀ {v : Va}, ¬ v.dep ≤ 0 := fun {v} h => by have := dep_pos v; omega
  refine Z.DWriteValue.F.ok scWriteValue (fun vs H Q E h => ?_) (fun cdv A outer s H vs Q E hr h => ?_)
  · obtain ⟨x, v, rfl, _⟩ := h
    rfl
  · obtain ⟨x, v, rfl, hx, hok, hsz, hdp, qq⟩ := h
    exact absurd hdp no
theorem ok_wv {k : Nat} (Z : Defs K mg) (GForm : FnOk P w K mg base CX0 1 Z.fForm Z.fdForm ["value"] spForm) : ∀ n, FnOk P w K mg base CX0 (k + 2 * n + 1) Z.fWriteValue Z.fdWriteValue ["value"] (spWv n)
  | 0 => wv_zero Z
  | n + 1 => wv_step Z GForm (by omega) (wp_step Z (ok_wv Z GForm n))
end
end Q25
namespace Q25
open PySem PySem.Spec PyProof.Rows L2 SX HL
section
variable {P : Program} {w : World} {K : PySem.W.Frag} {mg : Str → Option Value} {base : Heap}
/-! ### _law_parts, _law_size, _law_depth -/
theorem ok_parts {k : Nat} (Z : Defs K mg) : FnOk P w K mg base CX0 (k + 1) Z.fLawParts Z.fdLawParts ["value"] spInner := by
  refine Z.DLawParts.F.ok scLawParts (fun vs H Q E h => ?_) (fun cdv A outer s H vs Q E hr h => ?_)
  · obtain ⟨x, v, rfl, _⟩ := h
    rfl
  · obtain ⟨x, v, rfl, hx, qq⟩ := h
    refine ⟨_, (pss_cons (ps_if (pt_val (pe_callB call_isB (by rfl) Z.isinstance HL.boot_isinstance (pa_cons (pv 0) (pa_cons (pe_bltn (v := .ty "tuple") (by rfl) Z.tuple HL.boot_tuple rfl) pa_nil)))) (pss_one (ps_ret (pe_ix ix_tup (pv 0) (pe_op op_sub (pe_callB call_len_seq (by rfl) Z.len PySem.boot_len (pa_cons (pv 0) pa_nil)) pe_int) (fun _ _ => rfl)))) pss_nil)
        (pss_one (ps_ret (pe_tup pa_nil)))), ?_⟩
    cases v with
    | bl b =>
      obtain rfl : x = _ := hx
      refine ⟨_, rfl, _, "bool", "tuple", false, rfl, .base (.bl b), by decide +kernel, false, rfl, iteF ?_⟩
      exact ⟨by decide, fun q hn => qq _ q [] (same_upd hn) upd_same rfl⟩
    | num i =>
      obtain rfl : x = _ := hx
      refine ⟨_, rfl, _, "int", "tuple", false, rfl, .base (.int i), by decide +kernel, false, rfl, iteF ?_⟩
      exact ⟨by decide, fun q hn => qq _ q [] (same_upd hn) upd_same rfl⟩
    | txt z =>
      obtain rfl : x = _ := hx
      refine ⟨_, rfl, _, "str", "tuple", false, rfl, .base (.str z), by decide +kernel, false, rfl, iteF ?_⟩
      exact ⟨by decide, fun q hn => qq _ q [] (same_upd hn) upd_same rfl⟩
    | lst vs =>
      obtain ⟨t, q, us, rfl, h1, h2, h3⟩ := hx
      refine ⟨_, rfl, _, "tuple", "tuple", true, rfl, .base (.tup h1), by decide +kernel, true, rfl, iteT ?_⟩
      exact ⟨_, rfl, _, rfl, t, _, rfl, .inr (SqT.of h1), _, _, rfl, rfl, t, _, 1, .ref q, rfl, rfl, SqT.of h1, rfl, qq H q us (Same.refl H) h2 h3⟩
    | mk m vs =>
      obtain ⟨t, q, us, rfl, h1, h2, h3⟩ := hx
      refine ⟨_, rfl, _, "tuple", "tuple", true, rfl, .base (.tup h1), by decide +kernel, true, rfl, iteT ?_⟩
      exact ⟨_, rfl, _, rfl, t, _, rfl, .inr (SqT.of h1), _, _, rfl, rfl, t, _, 2, .ref q, rfl, rfl, SqT.of h1, rfl, qq H q us (Same.refl H) h2 h3⟩
def spLz (n : Nat) : Sp := fun vs H Q _ => ∃ (x : V) (v : Va), vs = [x] ∧ VaAt H v x ∧ v.siz ≤ 9000 ∧ v.dep ≤ n ∧ ∀ H', Same H H' → Q (.int v.siz) H'
def Va.own : Va → Nat
  | .txt z => 1 + z.length
  | _ => 1
theorem own_siz (v : Va) : v.siz = v.own + sizs v.parts := by
  cases v <;> simp only [Va.siz, Va.own, Va.parts, sizs] <;> omega
theorem sizs_take1 {ps : List Va} {j : Nat} {p : Va} (h : ps[j]? = some p) : sizs (ps.take (j + 1)) = sizs (ps.take j) + p.siz := by
  rw [List.take_add_one, h, sizs_app]
  show _ + (p.siz + 0) = _
  omega
theorem deps_take1 {ps : List Va} {j : Nat} {p : Va} (h : ps[j]? = some p) : deps (ps.take (j + 1)) = max (deps (ps.take j)) p.dep := by
  rw [List.take_add_one, h, deps_app]
  show max _ (max p.dep 0) = _
  omega
theorem lz_step {k n : Nat} (hk : 1 ≤ k) (Z : Defs K mg) (GLawParts : FnOk P w K mg base CX0 1 Z.fLawParts Z.fdLawParts ["value"] spInner) (GLawSize : FnOk P w K mg base CX0 k Z.fLawSize Z.fdLawSize ["value"] (spLz n)) : FnOk P w K mg base CX0 (k + 1) Z.fLawSize Z.fdLawSize ["value"] (spLz (n + 1)) := by
  refine Z.DLawSize.F.ok scLawSize (fun vs H Q E h => ?_) (fun cdv A outer s H vs Q E hr h => ?_)
  · obtain ⟨x, v, rfl, _⟩ := h
    rfl
  · obtain ⟨x, v, rfl, hx, hsz, hdp, qq⟩ := h
    refine ⟨_, (pss_cons (ps_set (i := 1) scLawSize.nd rfl (.inl rfl) pe_int)
        (C8.pss_cut (ps_if (pt_val (pe_callB call_isB (by rfl) Z.isinstance HL.boot_isinstance (pa_cons (pv 0) (pa_cons (pe_bltn (v := .ty "str") (by rfl) Z.str HL.boot_str rfl) pa_nil)))) (pss_one (ps_set (i := 1) scLawSize.nd rfl (.inl rfl) (pe_op op_add pe_int (pe_callB call_len_str (by rfl) Z.len PySem.boot_len (pa_cons (pv 0) pa_nil))))) pss_nil)
        (pss_cons (ps_for PassesOwn.never rfl (pi_tup (pe_call GLawParts (hr.mono (by omega)) (by rfl) Z.DLawParts.g Z.DLawParts.F.kp Z.DLawParts.b .nil pass0 (pa_cons (pv 0) pa_nil))) (pg_name (i := 2) scLawSize.nd rfl (.inl rfl)) (pss_one (ps_set (i := 1) scLawSize.nd rfl (.inl rfl) (pe_op op_add (pv 1) (pe_call GLawSize (hr.mono (by omega)) (by rfl) Z.DLawSize.g Z.DLawSize.F.kp Z.DLawSize.b .nil pass0 (pa_cons (pv 2) pa_nil))))))
        (pss_one (ps_ret (pv 1)))))), ?_⟩
    have big : 16777216 ≤ sizeLine := by decide +kernel
    refine ⟨fun σ' H' => H' = H ∧ σ' = [some x, some (.int (v.own : Nat)), none], ?_, ?_⟩
    · cases v with
      | bl b =>
        obtain rfl : x = _ := hx
        exact ⟨_, rfl, _, "bool", "str", false, rfl, .base (.bl b), by decide +kernel, false, rfl, iteF ⟨rfl, rfl⟩⟩
      | num i =>
        obtain rfl : x = _ := hx
        exact ⟨_, rfl, _, "int", "str", false, rfl, .base (.int i), by decide +kernel, false, rfl, iteF ⟨rfl, rfl⟩⟩
      | txt z =>
        obtain rfl : x = _ := hx
        simp only [Va.siz] at hsz
        exact ⟨_, rfl, _, "str", "str", true, rfl, .base (.str z), by decide +kernel, true, rfl, iteT ⟨_, rfl, z, rfl, by omega, _, _, rfl, rfl, rfl, by
          show _ = ([some (V.str z), some (V.int ((1 + z.length : Nat) : Int)), none] : List (Option V))
          rw [Int.natCast_add]
          rfl⟩⟩
      | lst vs =>
        exact ⟨_, rfl, _, "tuple", "str", false, rfl, hx.tyx, by decide +kernel, false, rfl, iteF ⟨rfl, rfl⟩⟩
      | mk m vs =>
        exact ⟨_, rfl, _, "tuple", "str", false, rfl, hx.tyx, by decide +kernel, false, rfl, iteF ⟨rfl, rfl⟩⟩
    · rintro σ' H' ⟨rfl, rfl⟩
      refine ⟨_, rfl, x, v, rfl, hx, fun H1 q us s1 hq hv => ?_⟩
      have hv := hv.all
      have z1 := own_siz v
      have z2 := parts_dep v
      refine ⟨q, rfl, ⟨us, SqT.of hq⟩, ?_⟩
      refine for_it (walk_tup (K := K) (a := q) (xs := us)) (fun j σ H2 => ∃ (y : Option V), σ = [some x, some (.int ((v.own + sizs (v.parts.take j) : Nat) : Int)), y] ∧ Same H1 H2) ⟨none, by rw [List.take_zero, sizs]; rfl, Same.refl H1⟩ (fun j σ H2 _ p => ?_) ?_ ?_
      · obtain ⟨_, _, s⟩ := p
        exact SqT.of (s _ _ hq)
      · rintro j u σ H2 H2' hj ⟨y, rfl, s2⟩ ⟨rfl, hxu⟩
        obtain ⟨p, hp, hup⟩ := All2.get hv hxu
        have hup : VaAt H1 p u := hup
        have hm := List.mem_of_getElem? hp
        have e1 := siz_mem hm
        have e2 := dep_mem hm
        refine ⟨_, rfl, _, rfl, u, p, rfl, hup.keep (TupK.of s2), by omega, by omega, fun H3 s3 => ⟨_, _, rfl, rfl, some u, ?_, Same.tr s2 s3⟩⟩
        rw [sizs_take1 hp, ← Nat.add_assoc, Int.natCast_add (v.own + sizs (v.parts.take j))]
        rfl
      · rintro σ H2 ⟨y, rfl, s2⟩
        rw [hv.len, List.take_length, ← z1]
        exact ⟨_, rfl, qq H2 (Same.tr s1 s2)⟩
theorem lz_zero {k : Nat} (Z : Defs K mg) : FnOk P w K mg base CX0 (k + 1) Z.fLawSize Z.fdLawSize ["value"] (spLz 0) := by
  have no : ∀ {v : Va}, ¬ v.dep ≤ 0 := fun {v} h => by have := dep_pos v; omega
  refine Z.DLawSize.F.ok scLawSize (fun vs H Q E h => ?_) (fun cdv A outer s H vs Q E hr h => ?_)
  · obtain ⟨x, v, rfl, _⟩ := h
    rfl
  · obtain ⟨x, v, rfl, hx, hsz, hdp, qq⟩ := h
    exact absurd hdp no
theorem ok_lz {k : Nat} (Z : Defs K mg) (GLawParts : FnOk P w K mg base CX0 1 Z.fLawParts Z.fdLawParts ["value"] spInner) : ∀ n, FnOk P w K mg base CX0 (k + n + 1) Z.fLawSize Z.fdLawSize ["value"] (spLz n)
  | 0 => lz_zero Z
  | n + 1 => lz_step (by omega) Z GLawParts (ok_lz Z GLawParts n)
def spLd (n : Nat) : Sp := fun vs H Q _ => ∃ (x : V) (v : Va), vs = [x] ∧ VaAt H v x ∧ v.siz ≤ 9000 ∧ v.dep ≤ n ∧ ∀ H', Same H H' → Q (.int v.dep) H'
theorem ld_step {k n : Nat} (hk : 1 ≤ k) (Z : Defs K mg) (GLawParts : FnOk P w K mg base CX0 1 Z.fLawParts Z.fdLawParts ["value"] spInner) (GLawDepth : FnOk P w K mg base CX0 k Z.fLawDepth Z.fdLawDepth ["value"] (spLd n)) : FnOk P w K mg base CX0 (k + 1) Z.fLawDepth Z.fdLawDepth ["value"] (spLd (n + 1)) := by
  refine Z.DLawDepth.F.ok scLawDepth (fun vs H Q E h => ?_) (fun cdv A outer s H vs Q E hr h => ?_)
  · obtain ⟨x, v, rfl, _⟩ := h
    rfl
  · obtain ⟨x, v, rfl, hx, hsz, hdp, qq⟩ := h
    refine ⟨_, (pss_cons (ps_set (i := 1) scLawDepth.nd rfl (.inl rfl) pe_int)
        (pss_cons (ps_for PassesOwn.never rfl (pi_tup (pe_call GLawParts (hr.mono (by omega)) (by rfl) Z.DLawParts.g Z.DLawParts.F.kp Z.DLawParts.b .nil pass0 (pa_cons (pv 0) pa_nil))) (pg_name (i := 2) scLawDepth.nd rfl (.inl rfl)) (pss_one (ps_set (i := 1) scLawDepth.nd rfl (.inl rfl) (pe_callB (call_max2 rfl) (by rfl) Z.max (by decide +kernel) (pa_cons (pv 1) (pa_cons (pe_call GLawDepth (hr.mono (by omega)) (by rfl) Z.DLawDepth.g Z.DLawDepth.F.kp Z.DLawDepth.b .nil pass0 (pa_cons (pv 2) pa_nil)) pa_nil))))))
        (pss_one (ps_ret (pe_op op_add pe_int (pv 1)))))), ?_⟩
    refine ⟨_, rfl, x, v, rfl, hx, fun H1 q us s1 hq hv => ?_⟩
    have hv := hv.all
    have z1 := own_siz v
    have z2 := parts_dep v
    refine ⟨q, rfl, ⟨us, SqT.of hq⟩, ?_⟩
    refine for_it (walk_tup (K := K) (a := q) (xs := us)) (fun j σ H2 => ∃ (y : Option V), σ = [some x, some (.int ((deps (v.parts.take j) : Nat) : Int)), y] ∧ Same H1 H2) ⟨none, by rw [List.take_zero, deps]; rfl, Same.refl H1⟩ (fun j σ H2 _ p => ?_) ?_ ?_
    · obtain ⟨_, _, s⟩ := p
      exact SqT.of (s _ _ hq)
    · rintro j u σ H2 H2' hj ⟨y, rfl, s2⟩ ⟨rfl, hxu⟩
      obtain ⟨p, hp, hup⟩ := All2.get hv hxu
      have hup : VaAt H1 p u := hup
      have hm := List.mem_of_getElem? hp
      have e1 := siz_mem hm
      have e2 := dep_mem hm
      refine ⟨_, rfl, _, rfl, u, p, rfl, hup.keep (TupK.of s2), by omega, by omega, fun H3 s3 => ⟨_, _, rfl, some u, ?_, Same.tr s2 s3⟩⟩
      rw [deps_take1 hp]
      have : (if ((p.dep : Nat) : Int) > ((deps (v.parts.take j) : Nat) : Int) then ((p.dep : Nat) : Int) else ((deps (v.parts.take j) : Nat) : Int)) = ((max (deps (v.parts.take j)) p.dep : Nat) : Int) := by
        split <;> omega
      rw [this]
      rfl
    · rintro σ H2 ⟨y, rfl, s2⟩
      rw [hv.len, List.take_length]
      refine ⟨_, rfl, _, _, rfl, rfl, ?_⟩
      have e : (1 : Int) + (deps v.parts : Nat) = (v.dep : Nat) := by omega
      show Q (.int ((1 : Int) + (deps v.parts : Nat))) H2
      rw [e]
      exact qq H2 (Same.tr s1 s2)
theorem ld_zero {k : Nat} (Z : Defs K mg) : FnOk P w K mg base CX0 (k + 1) Z.fLawDepth Z.fdLawDepth ["value"] (spLd 0) := by
  have no : ∀ {v : Va}, ¬ v.dep ≤ 0 := fun {v} h => by have := dep_pos v; omega
  refine Z.DLawDepth.F.ok scLawDepth (fun vs H Q E h => ?_) (fun cdv A outer s H vs Q E hr h => ?_)
  · obtain ⟨x, v, rfl, _⟩ := h
    rfl
  · obtain ⟨x, v, rfl, hx, hsz, hdp, qq⟩ := h
    exact absurd hdp no
theorem ok_ld {k : Nat} (Z : Defs K mg) (GLawParts : FnOk P w K mg base CX0 1 Z.fLawParts Z.fdLawParts ["value"] spInner) : ∀ n, FnOk P w K mg base CX0 (k + n + 1) Z.fLawDepth Z.fdLawDepth ["value"] (spLd n)
  | 0 => ld_zero Z
  | n + 1 => ld_step (by omega) Z GLawParts (ok_ld Z GLawParts n)
end
end Q25
namespace Q25
open PySem PySem.Spec PyProof.Rows L2 SX HL
section
variable {P : Program} {w : World} {K : PySem.W.Frag} {mg : Str → Option Value} {base : Heap}
/-! ### _law_char -/
def spChar : Sp := fun vs H Q _ => ∃ (i : Int), vs = [.int i] ∧ 0 ≤ i ∧ i < 95 ∧ ∀ c : Nat, c < 1114112 → Q (.str (S [c])) H
def tableA : Str := " '!\"#$&()*+,-./0123456789:;<=>?@ABCDEFGHIJKLMNOPQRSTUVWXYZ[\\]^_`"
def tableB : Str := "abcdefghijklmnopqrstuvwxyz{|}~\n"
def codesT : List Nat := (tableA ++ tableB).cps.toList
theorem codes_ok : codesT.length = 95 ∧ ∀ k, k < 95 → codesT.getD k 0 < 1114112 := by decide +kernel
theorem tab_len : (tableA ++ tableB).length = 95 ∧ tableA.length + tableB.length = 95 := by decide +kernel
theorem ok_char {k : Nat} (Z : Defs K mg) : FnOk P w K mg base CX0 (k + 1) Z.fLawChar Z.fdLawChar ["index"] spChar := by
  refine Z.DLawChar.F.ok scLawChar (fun vs H Q E h => ?_) (fun cdv A outer s H vs Q E hr h => ?_)
  · obtain ⟨i, rfl, _⟩ := h
    rfl
  · obtain ⟨i, rfl, h0, h1, q⟩ := h
    refine ⟨_, (pss_cons (ps_set (i := 1) scLawChar.nd rfl (.inl rfl) pe_str)
        (pss_cons (ps_set (i := 1) scLawChar.nd rfl (.inl rfl) (pe_op op_add_str (pv 1) pe_str))
        (pss_one (ps_ret (pe_ix ix_str (pv 1) (pe_op op_mod (pe_callTy call_int1 (by rfl) Z.int HL.boot_int (pa_cons (pv 0) pa_nil)) pe_int) (fun _ _ => rfl)))))), ?_⟩
    refine ⟨.str tableA, rfl, tableA, tableB, rfl, rfl, ?_, .str (tableA ++ tableB), rfl, .int i, rfl, .inl ⟨i, rfl, i, 95, rfl, rfl, (by show (0 : Int) < 95; decide), tableA ++ tableB, i % 95, codesT.getD i.toNat 0, rfl, rfl, ?_, ?_, ?_⟩⟩
    · rw [tab_len.2]; decide
    · rw [tab_len.1]; decide
    · have e : i % 95 = (i.toNat : Int) := by
        rw [Int.emod_eq_of_lt h0 h1]; omega
      rw [e]
      refine atI_nat ?_
      show codesT[i.toNat]? = _
      have : i.toNat < codesT.length := by rw [codes_ok.1]; omega
      rw [List.getD_eq_getElem?_getD, List.getElem?_eq_getElem this]
      rfl
    · exact q _ (codes_ok.2 i.toNat (by omega))
theorem StAt.keep {H H' : Hp} {p q : Addr} {ns : List Int} (s : Same H H') (h : StAt H p q ns) : StAt H' p q ns := by
  obtain ⟨h1, hl, i, c, z, h2, r⟩ := h
  exact ⟨s _ _ h1, hl, i, c, z, s _ _ h2, r⟩
theorem kept_tk {H H' : Hp} {p q : Addr} {ns : List Int} (k : Kept H H' p) (h : StAt H p q ns) : TupK H H' := by
  obtain ⟨h1, hl, i, c, z, h2, r⟩ := h
  intro a xs ha
  exact k a _ (fun e => by rw [e, h2] at ha; cases ha) ha
theorem kept_new {H H' : Hp} {p a : Addr} {o : HO} (k : Kept H H' p) (hn : H a = none) : Kept H (upd H' a o) p := fun b x nb h => by
  rw [upd_ne (ne_of_none h hn)]
  exact k b x nb h
theorem kept_none {H H' : Hp} {p q : Addr} {ns : List Int} (k : Kept H H' p) (hS : StAt H p q ns) {a : Addr} (h : H' a = none) (hS' : StAt H' p q ns) : H a = none := by
  cases e : H a with
  | none => rfl
  | some o =>
    by_cases hp : a = p
    · subst hp
      obtain ⟨_, _, _, _, _, h2, _⟩ := hS'
      rw [h2] at h
      cases h
    · rw [k a o hp e] at h
      cases h
theorem ones_join (l : List Nat) : Txt.join "" (l.map fun c => S [c]) = S l := by
  have e : (l.map fun c => S [c]) = (l.map fun c => [c]).map S := by rw [List.map_map]; rfl
  have e2 : ("" : Str) = S [] := rfl
  rw [e, e2, join_S, joinL_nil]
  congr 1
  clear e e2
  induction l with
  | nil => rfl
  | cons a l ih =>
    show a :: (l.map fun c => [c]).flatten = a :: l
    rw [ih]
theorem ones_sum (l : List Nat) : ((l.map fun c => S [c]).map (·.length)).sum = l.length := by
  induction l with
  | nil => rfl
  | cons a l ih =>
    rw [List.map_cons, List.map_cons, List.sum_cons, ih, List.length_cons]
    have : (S [a]).length = 1 := S_len [a]
    omega
theorem kept_new2 {H H' : Hp} {p a : Addr} {o : HO} (k : Kept H H' p) (hn : H a = none) : Kept H (upd H' a o) p := fun b x nb h => by
  rw [upd_ne (ne_of_none h hn)]
  exact k b x nb h
/-- a value, bounded -/
structure Val (B S D : Nat) (v : Va) : Prop where
  ok : v.ok B
  siz : v.siz ≤ S
  dep : v.dep ≤ D
def C1 : Nat := 1298074214633706907132624082305023
theorem strOk_S {l : List Nat} (h : ∀ c ∈ l, c < 1114112) : PyData.strOk (S l) = true := by
  show (S l).cps.all _ = true
  rw [← Array.all_toList]
  exact List.all_eq_true.mpr fun c hc => decide_eq_true (h c hc)
def spScalar : Sp := fun vs H Q _ => ∃ (p q : Addr) (ns : List Int), vs = [.ref p] ∧ StAt H p q ns ∧ ∀ H' x v, StAt H' p q ns → Kept H H' p → VaAt H' v x → Val C1 4 1 v → Q x H'
theorem ok_scalar {k : Nat} (hk : 1 ≤ k) (Z : Defs K mg) (GLawNext : FnOk P w K mg base CX0 1 Z.fLawNext Z.fdLawNext ["state", "limit"] spNext) (GLawChar : FnOk P w K mg base CX0 1 Z.fLawChar Z.fdLawChar ["index"] spChar) : FnOk P w K mg base CX0 (k + 1) Z.fLawScalar Z.fdLawScalar ["state"] spScalar := by
  refine Z.DLawScalar.F.ok scLawScalar (fun vs H Q E h => ?_) (fun cdv A outer s H vs Q E hr h => ?_)
  · obtain ⟨p, q, ns, rfl, _⟩ := h
    rfl
  · obtain ⟨p, q, ns, rfl, hS, qq⟩ := h
    refine ⟨_, (pss_cons (ps_set (i := 1) scLawScalar.nd rfl (.inl rfl) (pe_call GLawNext (hr.mono (by omega)) (by rfl) Z.DLawNext.g Z.DLawNext.F.kp Z.DLawNext.b .nil pass0 (pa_cons (pv 0) (pa_cons pe_int pa_nil))))
        (pss_cons (ps_if (pt_cmpR op_lt (pv 1) pe_int (nomark _)) (pss_one (ps_ret (pe_ix ix_list (pe_lst (pa_cons pe_bl (pa_cons pe_bl pa_nil))) (pv 1) (fun _ _ => rfl)))) pss_nil)
        (pss_cons (ps_if (pt_cmpR op_eq (pv 1) pe_int (nomark _)) (pss_one (ps_ret (pe_call GLawNext (hr.mono (by omega)) (by rfl) Z.DLawNext.g Z.DLawNext.F.kp Z.DLawNext.b .nil pass0 (pa_cons (pv 0) (pa_cons pe_int pa_nil))))) pss_nil)
        (pss_cons (ps_if (pt_cmpR op_eq (pv 1) pe_int (nomark _)) (pss_one (ps_ret (pe_op op_mul (pe_op op_sub pe_int (pe_op op_mul pe_int (pe_call GLawNext (hr.mono (by omega)) (by rfl) Z.DLawNext.g Z.DLawNext.F.kp Z.DLawNext.b .nil pass0 (pa_cons (pv 0) (pa_cons pe_int pa_nil))))) (pe_call GLawNext (hr.mono (by omega)) (by rfl) Z.DLawNext.g Z.DLawNext.F.kp Z.DLawNext.b .nil pass0 (pa_cons (pv 0) (pa_cons (pe_ix ix_list (pe_lst (pa_cons pe_int (pa_cons (pe_op op_pow pe_int pe_int) (pa_cons (pe_op op_mul (pe_op op_pow pe_int pe_int) (pe_op op_pow pe_int pe_int)) pa_nil)))) (pe_call GLawNext (hr.mono (by omega)) (by rfl) Z.DLawNext.g Z.DLawNext.F.kp Z.DLawNext.b .nil pass0 (pa_cons (pv 0) (pa_cons pe_int pa_nil))) (fun _ _ => rfl)) pa_nil)))))) pss_nil)
        (pss_one (ps_ret (pe_join pe_str (pe_lc (own := [("k", 2)]) (g := (gName 2)) (by rfl) scLawScalar.nd (pi_range1 (by rfl) Z.range (pa_cons (pe_call GLawNext (hr.mono (by omega)) (by rfl) Z.DLawNext.g Z.DLawNext.F.kp Z.DLawNext.b .nil pass0 (pa_cons (pv 0) (pa_cons pe_int pa_nil))) pa_nil)) (blkOk_by (own := [("k", 2)]) (N := ["state", "pick", "k"]) (sc := defScope sLawScalar) (by decide +kernel)) (fun _ _ _ _ _ => (pg_name (i := 2) scLawScalar.nd rfl (Or.inl rfl))) (fun _ _ _ _ _ => pts_nil) (fun _ _ _ _ _ => (pe_call GLawChar (hr.mono (by omega)) (by rfl) Z.DLawChar.g Z.DLawChar.F.kp Z.DLawChar.b .nil pass0 (pa_cons (pe_call GLawNext (hr.mono (by omega)) (by rfl) Z.DLawNext.g Z.DLawNext.F.kp Z.DLawNext.b .nil pass0 (pa_cons (pv 0) (pa_cons pe_int pa_nil))) pa_nil))))))))))), ?_⟩
    have big : 16777216 ≤ sizeLine := by decide +kernel
    have num : ∀ {i : Int}, i.natAbs ≤ C1 → Val C1 4 1 (.num i) := fun h => ⟨h, by show 1 ≤ 4; decide, Nat.le_refl _⟩
    refine ⟨_, rfl, p, q, ns, 7, rfl, hS, by decide, by decide, fun H1 v1 hS1 hB1 h0 h1 => ?_⟩
    refine ⟨_, rfl, _, _, rfl, rfl, _, rfl, ite2 (fun e => ?_) (fun e => ?_)⟩
    · have e1 : v1 < 2 := of_decide_eq_true e
      have e2 : v1 = 0 ∨ v1 = 1 := by omega
      refine ⟨by show 2 ≤ sizeLine; decide, fun L hL => ?_⟩
      rcases e2 with rfl | rfl
      · exact ⟨_, rfl, L, _, 0, .bl true, rfl, rfl, SqL.of upd_same, rfl, qq _ _ (.bl true) (hS1.keep (same_upd hL)) (hB1.kept.trans ((same_upd hL).kept p)) rfl ⟨trivial, by show 1 ≤ 4; decide, Nat.le_refl _⟩⟩
      · exact ⟨_, rfl, L, _, 1, .bl false, rfl, rfl, SqL.of upd_same, rfl, qq _ _ (.bl false) (hS1.keep (same_upd hL)) (hB1.kept.trans ((same_upd hL).kept p)) rfl ⟨trivial, by show 1 ≤ 4; decide, Nat.le_refl _⟩⟩
    refine ⟨_, rfl, rfl, _, rfl, ite2 (fun e => ?_) (fun e => ?_)⟩
    · refine ⟨_, rfl, p, q, ns, 3, rfl, hS1, by decide, by decide, fun H2 v2 hS2 hB2 h20 h21 => ?_⟩
      exact qq H2 _ (.num v2) hS2 (hB1.trans hB2).kept rfl (num (by unfold C1; omega))
    refine ⟨_, rfl, rfl, _, rfl, ite2 (fun e => ?_) (fun e => ?_)⟩
    · refine ⟨_, rfl, p, q, ns, 2, rfl, hS1, by decide, by decide, fun H2 v2 hS2 hB2 h20 h21 => ?_⟩
      have nLp : ∀ {L : Addr}, H2 L = none → L ≠ p := fun hL e => by
        subst e
        obtain ⟨_, _, _, _, _, h2, _⟩ := hS2
        rw [h2] at hL
        cases hL
      refine ⟨_, _, rfl, rfl, .inl ⟨by decide, by decide⟩, _, _, rfl, rfl, ?_⟩
      refine ⟨_, rfl, _, _, rfl, rfl, ⟨by decide, by decide, by decide⟩, _, _, rfl, rfl, ⟨by decide, by decide, by decide⟩, _, _, rfl, rfl, ⟨by decide, by decide, by decide⟩, _, _, rfl, rfl, .inl ⟨by decide +kernel, by decide +kernel⟩, by show 3 ≤ sizeLine; decide, fun L hL => ?_⟩
      refine ⟨_, rfl, p, q, ns, 3, rfl, hS2.keep (same_upd hL), by decide, by decide, fun H3 v3 hS3 hB3 h30 h31 => ?_⟩
      obtain ⟨lim, hat, hl0, hl1⟩ : ∃ lim, atI ([V.int 10, V.int ((2 : Int) ^ (60 : Int).toNat), V.int ((2 : Int) ^ (50 : Int).toNat * (2 : Int) ^ (50 : Int).toNat)] : List V) v3 = some (.int lim) ∧ 0 < lim ∧ lim ≤ 1267650600228229401496703205376 := by
        have e2 : v3 = 0 ∨ v3 = 1 ∨ v3 = 2 := by omega
        rcases e2 with rfl | rfl | rfl
        · exact ⟨_, rfl, by decide +kernel, by decide +kernel⟩
        · exact ⟨_, rfl, by decide +kernel, by decide +kernel⟩
        · exact ⟨_, rfl, by decide +kernel, by decide +kernel⟩
      refine ⟨L, _, v3, .int lim, rfl, rfl, SqL.of ((hB3 L (nLp hL)).trans upd_same), hat, p, q, ns, lim, rfl, hS3, hl0, by omega, fun H4 v4 hS4 hB4 h40 h41 => ?_⟩
      have hkk : Kept H H4 p := (hB1.trans hB2).kept.trans (((same_upd hL).kept p).trans (hB3.trans hB4).kept)
      refine ⟨_, _, rfl, rfl, .inl ⟨by omega, by omega⟩, qq H4 _ (.num ((1 - 2 * v2) * v4)) hS4 hkk rfl (num ?_)⟩
      have e2 : v2 = 0 ∨ v2 = 1 := by omega
      unfold C1
      rcases e2 with rfl | rfl <;> omega
    · refine ⟨⟨_, rfl⟩, _, rfl, p, q, ns, 4, rfl, hS1, by decide, by decide, fun H2 n hS2 hB2 h20 h21 => ⟨n, rfl, by omega, by omega, fun D hD => ?_⟩⟩
      have sD := same_upd (o := .lst []) hD
      have nDp : D ≠ p := fun e => by
        subst e
        obtain ⟨_, _, _, _, _, h2, _⟩ := hS2
        rw [h2] at hD
        cases hD
      have nDq : D ≠ q := fun e => by
        subst e
        rw [hS2.1] at hD
        cases hD
      refine lc_range (lo := 0) (n := n.toNat) (fun i H' => StAt H' p q ns ∧ Kept H2 H' p ∧ ∃ ls : List Nat, H' D = some (.lst ((ls.map fun c => S [c]).map V.str)) ∧ ls.length = i ∧ ∀ c ∈ ls, c < 1114112) ⟨hS2.keep sD, sD.kept p, [], upd_same, rfl, fun _ h => (by cases h)⟩ ?_ ?_
      · rintro i H4 hi ⟨hS4, k4, ls, hD4, hls, hlc⟩
        refine ⟨rfl, lc_yes ⟨_, rfl, p, q, ns, 95, rfl, hS4, by decide, by decide, fun H5 v5 hS5 hB5 h50 h51 => ⟨v5, rfl, h50, h51, fun c hc => ?_⟩⟩⟩
        have hD5 : H5 D = some (.lst ((ls.map fun c => S [c]).map V.str)) := (hB5 D nDp).trans hD4
        refine ⟨_, hD5, by rw [List.length_map, List.length_map, hls]; omega, ?_, kept_new2 (k4.trans hB5.kept) hD, ls ++ [c], ?_, by rw [List.length_append, hls]; rfl, fun x hx => ?_⟩
        · obtain ⟨h1, hl, i, c, z, h2, r⟩ := hS5
          exact ⟨by rw [upd_ne nDq.symm]; exact h1, hl, i, c, z, by rw [upd_ne nDp.symm]; exact h2, r⟩
        · rw [upd_same, List.map_append, List.map_append]
          rfl
        · rcases List.mem_append.mp hx with hx | hx
          · exact hlc x hx
          · rw [List.mem_singleton.mp hx]; exact hc
      · rintro H4 ⟨hS4, k4, ls, hD4, hls, hlc⟩
        have e0 : ("" : Str).length = 0 := rfl
        refine ⟨_, D, ls.map fun c => S [c], rfl, rfl, .inl (SqL.of hD4), ?_, ?_⟩
        · rw [ones_sum, e0]
          omega
        · rw [ones_join]
          refine qq H4 _ (.txt (S ls)) hS4 ((hB1.trans hB2).kept.trans k4) rfl ⟨strOk_S hlc, ?_, Nat.le_refl _⟩
          have : (S ls).length = ls.length := S_len ls
          simp only [Va.siz]
          omega
end
end Q25
namespace Q25
open PySem PySem.Spec PyProof.Rows L2 SX HL
theorem Val.mono {B S D S' D' : Nat} {v : Va} (h : Val B S D v) (hs : S ≤ S') (hd : D ≤ D') : Val B S' D' v := ⟨h.ok, by have := h.siz; omega, by have := h.dep; omega⟩
theorem sizs_le {S : Nat} : ∀ {vs : List Va}, (∀ v ∈ vs, v.siz ≤ S) → sizs vs ≤ vs.length * S
  | [], _ => Nat.zero_le _
  | v :: vs, h => by
    have h1 := h v (List.mem_cons_self ..)
    have h2 := sizs_le fun x hx => h x (List.mem_cons_of_mem _ hx)
    rw [sizs, List.length_cons, Nat.succ_mul]
    omega
theorem deps_le {D : Nat} : ∀ {vs : List Va}, (∀ v ∈ vs, v.dep ≤ D) → deps vs ≤ D
  | [], _ => Nat.zero_le _
  | v :: vs, h => by
    have h1 := h v (List.mem_cons_self ..)
    have h2 := deps_le fun x hx => h x (List.mem_cons_of_mem _ hx)
    rw [deps]
    omega
def vz : Nat → Nat
  | 0 => 4
  | n + 1 => 1 + 3 * vz n
theorem vz4 : ∀ n, 4 ≤ vz n
  | 0 => Nat.le_refl _
  | n + 1 => by have := vz4 n; rw [vz]; omega
/-- a state stands apart from an address -/
theorem StAt.ne {H : Hp} {p q : Addr} {ns : List Int} (h : StAt H p q ns) {a : Addr} (ha : H a = none) : a ≠ p ∧ a ≠ q := by
  obtain ⟨h1, hl, i, c, z, h2, r⟩ := h
  exact ⟨fun e => (by rw [e, h2] at ha; cases ha), fun e => (by rw [e, h1] at ha; cases ha)⟩
theorem StAt.off {H : Hp} {p q : Addr} {ns : List Int} (h : StAt H p q ns) {a : Addr} {o : HO} (n : a ≠ p ∧ a ≠ q) : StAt (L2.upd H a o) p q ns := by
  obtain ⟨h1, hl, i, c, z, h2, r⟩ := h
  exact ⟨by rw [upd_ne n.2.symm]; exact h1, hl, i, c, z, by rw [upd_ne n.1.symm]; exact h2, r⟩
section
variable {P : Program} {w : World} {K : PySem.W.Frag} {mg : Str → Option Value} {base : Heap}
def spVal : Nat → Sp
  | 0 => fun _ _ _ _ => False
  | l + 1 => fun vs H Q _ => ∃ (p q : Addr) (ns : List Int), vs = [.ref p, .int (l : Nat)] ∧ StAt H p q ns ∧ ∀ H' x v, StAt H' p q ns → Kept H H' p → VaAt H' v x → Val C1 (vz l) (l + 1) v → Q x H'
theorem value_step {k l : Nat} (hk : 2 ≤ k) (Z : Defs K mg) (GLawNext : FnOk P w K mg base CX0 1 Z.fLawNext Z.fdLawNext ["state", "limit"] spNext) (GLawScalar : FnOk P w K mg base CX0 2 Z.fLawScalar Z.fdLawScalar ["state"] spScalar) (GLawValue : FnOk P w K mg base CX0 k Z.fLawValue Z.fdLawValue ["state", "levels"] (spVal l)) : FnOk P w K mg base CX0 (k + 1) Z.fLawValue Z.fdLawValue ["state", "levels"] (spVal (l + 1)) := by
  refine Z.DLawValue.F.ok scLawValue (fun vs H Q E h => ?_) (fun cdv A outer s H vs Q E hr h => ?_)
  · obtain ⟨p, q, ns, rfl, _⟩ := h
    rfl
  · obtain ⟨p, q, ns, rfl, hS, qq⟩ := h
    refine ⟨_, (pss_cons (ps_set (i := 2) scLawValue.nd rfl (.inl rfl) (pe_call GLawNext (hr.mono (by omega)) (by rfl) Z.DLawNext.g Z.DLawNext.F.kp Z.DLawNext.b .nil pass0 (pa_cons (pv 0) (pa_cons pe_int pa_nil))))
        (pss_cons (ps_if (PW.pt (pw_or (pt_cmpR op_lt (pv 1) pe_int (nomark _)) (pw_or1 (pt_cmpR op_lt (pv 2) pe_int (nomark _))))) (pss_one (ps_ret (pe_call GLawScalar (hr.mono (by omega)) (by rfl) Z.DLawScalar.g Z.DLawScalar.F.kp Z.DLawScalar.b .nil pass0 (pa_cons (pv 0) pa_nil)))) pss_nil)
        (pss_cons (ps_set (i := 3) scLawValue.nd rfl (.inl rfl) (pe_callTy call_tuple_of (by rfl) Z.tuple HL.boot_tuple (pa_cons (pe_lc (own := [("k", 4)]) (g := (gName 4)) (by rfl) scLawValue.nd (pi_range1 (by rfl) Z.range (pa_cons (pe_call GLawNext (hr.mono (by omega)) (by rfl) Z.DLawNext.g Z.DLawNext.F.kp Z.DLawNext.b .nil pass0 (pa_cons (pv 0) (pa_cons pe_int pa_nil))) pa_nil)) (blkOk_by (own := [("k", 4)]) (N := ["state", "levels", "pick", "items", "k"]) (sc := defScope sLawValue) (by decide +kernel)) (fun _ _ _ _ _ => (pg_name (i := 4) scLawValue.nd rfl (Or.inl rfl))) (fun _ _ _ _ _ => pts_nil) (fun _ _ _ _ _ => (pe_call GLawValue (hr.mono (by omega)) (by rfl) Z.DLawValue.g Z.DLawValue.F.kp Z.DLawValue.b .nil pass0 (pa_cons (pv 0) (pa_cons (pe_op op_sub (pv 1) pe_int) pa_nil))))) pa_nil)))
        (pss_cons (ps_if (pt_cmpR op_eq (pv 2) pe_int (nomark _)) (pss_one (ps_ret (pe_tup (pa_cons pe_str (pa_cons (pe_ix ix_list (pe_lst (pa_cons pe_str (pa_cons pe_str (pa_cons pe_str pa_nil)))) (pe_call GLawNext (hr.mono (by omega)) (by rfl) Z.DLawNext.g Z.DLawNext.F.kp Z.DLawNext.b .nil pass0 (pa_cons (pv 0) (pa_cons pe_int pa_nil))) (fun _ _ => rfl)) (pa_cons (pv 3) pa_nil)))))) pss_nil)
        (pss_one (ps_ret (pe_tup (pa_cons pe_str (pa_cons (pv 3) pa_nil))))))))), ?_⟩
    have big : 16777216 ≤ sizeLine := by decide +kernel
    refine ⟨_, rfl, p, q, ns, 6, rfl, hS, by decide, by decide, fun H1 v1 hS1 hB1 h0 h1 => ?_⟩
    have sc : spScalar [.ref p] H1 Q E := ⟨p, q, ns, rfl, hS1, fun H' x v h1 h2 h3 h4 => qq H' x v h1 (hB1.kept.trans h2) h3 (h4.mono (vz4 l) (by omega))⟩
    refine ⟨_, rfl, _, _, rfl, rfl, _, rfl, ite2 (fun e => iteT ⟨_, rfl, sc⟩) (fun e => ?_)⟩
    refine ⟨_, rfl, _, _, rfl, rfl, _, rfl, ite2 (fun e2 => ⟨_, rfl, sc⟩) (fun e2 => ?_)⟩
    have hl1 : ¬ (l : Int) < 1 := fun z => e (decide_eq_true z)
    obtain ⟨l', rfl⟩ : ∃ l', l = l' + 1 := ⟨l - 1, by omega⟩
    refine ⟨_, rfl, p, q, ns, 4, rfl, hS1, by decide, by decide, fun H2 n hS2 hB2 h20 h21 => ⟨n, rfl, by omega, by omega, fun D hD => ?_⟩⟩
    have sD := same_upd (o := .lst []) hD
    have nD := hS2.ne hD
    refine lc_range (lo := 0) (n := n.toNat) (fun i H' => StAt H' p q ns ∧ Kept H2 H' p ∧ ∃ acc vs, H' D = some (.lst acc) ∧ ItAt H' acc vs ∧ vs.length = i ∧ ∀ v ∈ vs, Val C1 (vz l') (l' + 1) v) ⟨hS2.keep sD, sD.kept p, [], [], upd_same, .nil, rfl, fun _ h => (by cases h)⟩ ?_ ?_
    · rintro i H3 hi ⟨hS3, k3, acc, vs, hD3, hit, hvl, hvs⟩
      have hal := hit.len
      have ed : V.int (((l' + 1 : Nat) : Int) - 1) = .int (l' : Nat) := congrArg V.int (by omega)
      refine ⟨rfl, lc_yes ⟨_, rfl, _, rfl, _, 1, rfl, rfl, p, q, ns, ?_, hS3, fun H4 x v hS4 k4 hx hv => ?_⟩⟩
      · show [V.ref p, V.int (((l' + 1 : Nat) : Int) - 1)] = _
        rw [ed]
      · have hD4 : H4 D = some (.lst acc) := k4 D _ nD.1 hD3
        have kD := tk_lst (o := .lst (acc ++ [x])) hD4
        refine ⟨acc, hD4, by omega, hS4.off nD, kept_new2 (k3.trans k4) hD, acc ++ [x], vs ++ [v], upd_same, (ItAt.keep kD (ItAt.keep (kept_tk k4 hS3) hit)).app (.one (hx.keep kD)), by rw [List.length_append, hvl]; rfl, fun y hy => ?_⟩
        rcases List.mem_append.mp hy with hy | hy
        · exact hvs y hy
        · rw [List.mem_singleton.mp hy]; exact hv
    · rintro H3 ⟨hS3, k3, acc, vs, hD3, hit, hvl, hvs⟩
      have hal := hit.len
      refine ⟨D, acc, rfl, .inl ⟨SqL.of hD3, fun t ht => ?_⟩⟩
      have s4 := same_upd (o := .tup acc) ht
      have g4 : L2.upd H3 t (.tup acc) t = some (.tup acc) := upd_same
      generalize L2.upd H3 t (.tup acc) = H4 at s4 g4
      have hS4 := hS3.keep s4
      have k4 : Kept H H4 p := ((hB1.trans hB2).kept.trans k3).trans (s4.kept p)
      have hit4 := ItAt.keep (TupK.of s4) hit
      have b1 := sizs_le fun v hv => (hvs v hv).siz
      have b2 := deps_le fun v hv => (hvs v hv).dep
      have b3 := vz4 l'
      have b4 : vs.length * vz l' ≤ 3 * vz l' := Nat.mul_le_mul_right _ (by omega)
      have hok : oks C1 vs := oks_of fun v hv => (hvs v hv).ok
      refine ⟨_, rfl, rfl, _, rfl, ite2 (fun e => ?_) (fun e => ?_)⟩
      · refine ⟨by show 3 ≤ sizeLine; decide, fun L hL => ?_⟩
        have nL := hS4.ne hL
        refine ⟨_, rfl, p, q, ns, 3, rfl, hS4.keep (same_upd hL), by decide, by decide, fun H5 v5 hS5 hB5 h50 h51 => ?_⟩
        obtain ⟨m, hat, hm1, hm2⟩ : ∃ m : Str, atI ([V.str "A", V.str "Bx", V.str "C_1"] : List V) v5 = some (.str m) ∧ m.length ≤ 10 ∧ PyData.strOk m = true := by
          have e2 : v5 = 0 ∨ v5 = 1 ∨ v5 = 2 := by omega
          rcases e2 with rfl | rfl | rfl
          · exact ⟨_, rfl, by decide +kernel, by decide +kernel⟩
          · exact ⟨_, rfl, by decide +kernel, by decide +kernel⟩
          · exact ⟨_, rfl, by decide +kernel, by decide +kernel⟩
        refine ⟨L, _, v5, .str m, rfl, rfl, SqL.of ((hB5 L nL.1).trans upd_same), hat, _, rfl, (by show 3 ≤ sizeLine; decide), fun t2 ht2 => ?_⟩
        have s5 := same_upd (o := .tup [.str "make", .str m, .ref t]) ht2
        have k5 : Kept H4 H5 p := ((same_upd hL).kept p).trans hB5.kept
        have k5t := kept_tk k5 hS4
        exact qq _ _ (.mk m vs) (hS5.keep s5) ((k4.trans k5).trans (s5.kept p)) ⟨t2, t, acc, rfl, upd_same, s5 _ _ (k5t _ _ g4), VasAt.of (ItAt.keep (TupK.of s5) (ItAt.keep k5t hit4))⟩ ⟨⟨hm1, hm2, hok⟩, by simp only [Va.siz, vz]; omega, by simp only [Va.dep]; omega⟩
      · refine ⟨_, rfl, (by show 2 ≤ sizeLine; decide), fun t2 ht2 => ?_⟩
        have s5 := same_upd (o := .tup [.str "list", .ref t]) ht2
        exact qq _ _ (.lst vs) (hS4.keep s5) (k4.trans (s5.kept p)) ⟨t2, t, acc, rfl, upd_same, s5 _ _ g4, VasAt.of (ItAt.keep (TupK.of s5) hit4)⟩ ⟨hok, by simp only [Va.siz, vz]; omega, by simp only [Va.dep]; omega⟩
theorem ok_value {k : Nat} (Z : Defs K mg) (GLawNext : FnOk P w K mg base CX0 1 Z.fLawNext Z.fdLawNext ["state", "limit"] spNext) (GLawScalar : FnOk P w K mg base CX0 2 Z.fLawScalar Z.fdLawScalar ["state"] spScalar) : ∀ n, FnOk P w K mg base CX0 (k + 2 + n + 1) Z.fLawValue Z.fdLawValue ["state", "levels"] (spVal (n + 1))
  | 0 => value_step (k := k + 2) (by omega) Z GLawNext GLawScalar (Z.DLawValue.F.ok scLawValue (fun vs H Q E h => (show False from h).elim) (fun cdv A outer s H vs Q E hr h => (show False from h).elim))
  | n + 1 => value_step (by omega) Z GLawNext GLawScalar (ok_value Z GLawNext GLawScalar n)
end
end Q25
namespace Q25
open PySem PySem.Spec PyProof.Rows L2 SX HL
section
variable {P : Program} {w : World} {K : PySem.W.Frag} {mg : Str → Option Value} {base : Heap} {X : Cx}
theorem op_repTK {K : PySem.W.Frag} (h : X.K = K) : OpR X (binaryOp .Mult) (rRepT K) := by
  subst h
  exact op_repT
/-! ### _law_great -/
theorem flat_ones (n c : Nat) : (List.replicate n [c]).flatten = List.replicate n c := by
  induction n with
  | zero => rfl
  | succ n ih => rw [List.replicate_succ, List.replicate_succ, List.flatten_cons, ih]; rfl
theorem flat_vs (n : Nat) (v : V) : (List.replicate n [v]).flatten = List.replicate n v := by
  induction n with
  | zero => rfl
  | succ n ih => rw [List.replicate_succ, List.replicate_succ, List.flatten_cons, ih]; rfl
theorem it_rep {H : Hp} {u : V} {v : Va} (h : VaAt H v u) : ∀ n, ItAt H (List.replicate n u) (List.replicate n v)
  | 0 => .nil
  | n + 1 => .cons h (it_rep h n)
theorem val_rep {n c : Nat} (h : c < 1114112) {z : Nat} (hn : 1 + n ≤ z) : Val C1 z 1 (.txt (S (List.replicate n c))) := by
  refine ⟨strOk_S (fun x hx => by rw [List.eq_of_mem_replicate hx]; exact h), ?_, Nat.le_refl _⟩
  have : (S (List.replicate n c)).length = n := by rw [S_len, List.length_replicate]
  simp only [Va.siz]
  omega
theorem it_num {H : Hp} : ∀ ds : List Int, ItAt H (ds.map V.int) (ds.map Va.num)
  | [] => .nil
  | _ :: r => .cons rfl (it_num r)
def AB : Va := .lst (List.replicate 110 (.txt "ab"))
theorem ab_ok : AB.ok C1 := oks_of fun v hv => by
  rw [List.eq_of_mem_replicate hv]
  show PyData.strOk _ = true
  decide +kernel
def spGreat : Sp := fun vs H Q _ => ∃ (p q : Addr) (ns : List Int), vs = [.ref p] ∧ StAt H p q ns ∧ ∀ H' x v, StAt H' p q ns → Kept H H' p → VaAt H' v x → Val C1 1100 44 v → Q x H'
theorem ok_great {k : Nat} (hk : 2 ≤ k) (Z : Defs K mg) (GLawNext : FnOk P w K mg base CX0 1 Z.fLawNext Z.fdLawNext ["state", "limit"] spNext) : FnOk P w K mg base CX0 (k + 1) Z.fLawGreat Z.fdLawGreat ["state"] spGreat := by
  refine Z.DLawGreat.F.ok scLawGreat (fun vs H Q E h => ?_) (fun cdv A outer s H vs Q E hr h => ?_)
  · obtain ⟨p, q, ns, rfl, _⟩ := h
    rfl
  · obtain ⟨p, q, ns, rfl, hS, qq⟩ := h
    refine ⟨_, (pss_cons (ps_set (i := 1) scLawGreat.nd rfl (.inl rfl) (pe_call GLawNext (hr.mono (by omega)) (by rfl) Z.DLawNext.g Z.DLawNext.F.kp Z.DLawNext.b .nil pass0 (pa_cons (pv 0) (pa_cons pe_int pa_nil))))
        (pss_cons (ps_if (pt_cmpR op_eq (pv 1) pe_int (nomark _)) (pss_one (ps_ret (pe_op op_mul (pe_op op_sub pe_int (pe_op op_mul pe_int (pe_call GLawNext (hr.mono (by omega)) (by rfl) Z.DLawNext.g Z.DLawNext.F.kp Z.DLawNext.b .nil pass0 (pa_cons (pv 0) (pa_cons pe_int pa_nil))))) (pe_op op_sub (pe_op op_add (pe_op op_mul (pe_op op_pow pe_int pe_int) (pe_op op_pow pe_int pe_int)) (pe_call GLawNext (hr.mono (by omega)) (by rfl) Z.DLawNext.g Z.DLawNext.F.kp Z.DLawNext.b .nil pass0 (pa_cons (pv 0) (pa_cons pe_int pa_nil)))) pe_int)))) pss_nil)
        (pss_cons (ps_if (pt_cmpR op_eq (pv 1) pe_int (nomark _)) (pss_one (ps_ret (pe_op RPL.op_mul_strN pe_str (pe_op op_add pe_int (pe_call GLawNext (hr.mono (by omega)) (by rfl) Z.DLawNext.g Z.DLawNext.F.kp Z.DLawNext.b .nil pass0 (pa_cons (pv 0) (pa_cons pe_int pa_nil))))))) pss_nil)
        (pss_cons (ps_if (pt_cmpR op_eq (pv 1) pe_int (nomark _)) (pss_one (ps_ret (pe_tup (pa_cons pe_str (pa_cons (pe_callTy call_tuple_of (by rfl) Z.tuple HL.boot_tuple (pa_cons (pe_lc (own := [("k", 3)]) (g := (gName 3)) (by rfl) scLawGreat.nd (pi_range1 (by rfl) Z.range (pa_cons (pe_op op_add pe_int (pe_call GLawNext (hr.mono (by omega)) (by rfl) Z.DLawNext.g Z.DLawNext.F.kp Z.DLawNext.b .nil pass0 (pa_cons (pv 0) (pa_cons pe_int pa_nil)))) pa_nil)) (blkOk_by (own := [("k", 3)]) (N := ["state", "pick", "value", "k"]) (sc := defScope sLawGreat) (by decide +kernel)) (fun _ _ _ _ _ => (pg_name (i := 3) scLawGreat.nd rfl (Or.inl rfl))) (fun _ _ _ _ _ => pts_nil) (fun _ _ _ _ _ => (pe_call GLawNext (hr.mono (by omega)) (by rfl) Z.DLawNext.g Z.DLawNext.F.kp Z.DLawNext.b .nil pass0 (pa_cons (pv 0) (pa_cons pe_int pa_nil))))) pa_nil)) pa_nil))))) pss_nil)
        (pss_cons (ps_if (pt_cmpR op_eq (pv 1) pe_int (nomark _)) (pss_one (ps_ret (pe_tup (pa_cons pe_str (pa_cons pe_str (pa_cons (pe_op op_catT (pe_callTy call_tuple_of (by rfl) Z.tuple HL.boot_tuple (pa_cons (pe_lc (own := [("k", 3)]) (g := (gName 3)) (by rfl) scLawGreat.nd (pi_range1 (by rfl) Z.range (pa_cons pe_int pa_nil)) (blkOk_by (own := [("k", 3)]) (N := ["state", "pick", "value", "k"]) (sc := defScope sLawGreat) (by decide +kernel)) (fun _ _ _ _ _ => (pg_name (i := 3) scLawGreat.nd rfl (Or.inl rfl))) (fun _ _ _ _ _ => pts_nil) (fun _ _ _ _ _ => (pe_tup (pa_cons pe_str (pa_cons (pe_op (op_repTK (K := K) rfl) (pe_tup (pa_cons pe_str pa_nil)) pe_int) pa_nil))))) pa_nil)) (pe_tup (pa_cons (pe_op RPL.op_mul_strN pe_str (pe_call GLawNext (hr.mono (by omega)) (by rfl) Z.DLawNext.g Z.DLawNext.F.kp Z.DLawNext.b .nil pass0 (pa_cons (pv 0) (pa_cons pe_int pa_nil)))) pa_nil))) pa_nil)))))) pss_nil)
        (pss_cons (ps_set (i := 2) scLawGreat.nd rfl (.inl rfl) (pe_ix ix_list (pe_lst (pa_cons pe_int (pa_cons pe_str (pa_cons (pe_tup (pa_cons pe_str (pa_cons (pe_tup pa_nil) pa_nil))) pa_nil)))) (pe_call GLawNext (hr.mono (by omega)) (by rfl) Z.DLawNext.g Z.DLawNext.F.kp Z.DLawNext.b .nil pass0 (pa_cons (pv 0) (pa_cons pe_int pa_nil))) (fun _ _ => rfl)))
        (pss_cons (ps_for PassesOwn.never rfl (pi_range1 (by rfl) Z.range (pa_cons (pe_op op_add pe_int (pe_call GLawNext (hr.mono (by omega)) (by rfl) Z.DLawNext.g Z.DLawNext.F.kp Z.DLawNext.b .nil pass0 (pa_cons (pv 0) (pa_cons pe_int pa_nil)))) pa_nil)) (pg_name (i := 3) scLawGreat.nd rfl (.inl rfl)) (pss_one (ps_set (i := 2) scLawGreat.nd rfl (.inl rfl) (pe_ix ix_list (pe_lst (pa_cons (pe_tup (pa_cons pe_str (pa_cons (pe_tup (pa_cons (pv 2) pa_nil)) pa_nil))) (pa_cons (pe_tup (pa_cons pe_str (pa_cons pe_str (pa_cons (pe_tup (pa_cons (pv 2) pa_nil)) pa_nil)))) pa_nil))) (pe_call GLawNext (hr.mono (by omega)) (by rfl) Z.DLawNext.g Z.DLawNext.F.kp Z.DLawNext.b .nil pass0 (pa_cons (pv 0) (pa_cons pe_int pa_nil))) (fun _ _ => rfl)))))
        (pss_one (ps_ret (pv 2)))))))))), ?_⟩
    have big : 16777216 ≤ sizeLine := by decide +kernel
    refine ⟨_, rfl, p, q, ns, 5, rfl, hS, by decide, by decide, fun H1 v1 hS1 hB1 h0 h1 => ?_⟩
    refine ⟨_, rfl, rfl, _, rfl, ite2 (fun e => ?_) (fun e => ?_)⟩
    · refine ⟨_, rfl, p, q, ns, 2, rfl, hS1, by decide, by decide, fun H2 v2 hS2 hB2 h20 h21 => ?_⟩
      refine ⟨_, _, rfl, rfl, .inl ⟨by decide, by decide⟩, _, _, rfl, rfl, _, _, rfl, rfl, ⟨by decide, by decide, by decide⟩, _, _, rfl, rfl, ⟨by decide, by decide, by decide⟩, _, _, rfl, rfl, .inl ⟨by decide +kernel, by decide +kernel⟩, _, rfl, p, q, ns, 4, rfl, hS2, by decide, by decide, fun H3 v3 hS3 hB3 h30 h31 => ?_⟩
      refine ⟨_, _, rfl, rfl, _, _, rfl, rfl, _, _, rfl, rfl, .inl ⟨by omega, by omega⟩, ?_⟩
      refine qq H3 _ (.num _) hS3 (hB1.trans (hB2.trans hB3)).kept rfl ⟨?_, by show 1 ≤ 1100; decide, by show 1 ≤ 44; decide⟩
      have e2 : v2 = 0 ∨ v2 = 1 := by omega
      have ep : (2 : Int) ^ (50 : Int).toNat * (2 : Int) ^ (50 : Int).toNat = 1267650600228229401496703205376 := by decide +kernel
      show ((1 - 2 * v2) * ((2 : Int) ^ (50 : Int).toNat * (2 : Int) ^ (50 : Int).toNat + v3 - 2)).natAbs ≤ 1298074214633706907132624082305023
      rw [ep]
      rcases e2 with rfl | rfl <;> omega
    refine ⟨_, rfl, rfl, _, rfl, ite2 (fun e => ?_) (fun e => ?_)⟩
    · refine ⟨_, rfl, p, q, ns, 21, rfl, hS1, by decide, by decide, fun H2 v2 hS2 hB2 h20 h21 => ?_⟩
      obtain ⟨n, rfl⟩ := Int.eq_ofNat_of_zero_le h20
      refine ⟨_, _, rfl, rfl, [121], 990 + n, rfl, rfl, by omega, by decide, by decide, ?_⟩
      rw [flat_ones]
      exact qq H2 _ (.txt _) hS2 (hB1.trans hB2).kept rfl ((val_rep (by decide) (by omega : 1 + (990 + n) ≤ 1100)).mono (Nat.le_refl _) (by decide))
    refine ⟨_, rfl, rfl, _, rfl, ite2 (fun e => ?_) (fun e => ?_)⟩
    · refine ⟨_, rfl, p, q, ns, 21, rfl, hS1, by decide, by decide, fun H2 n hS2 hB2 h20 h21 => ⟨_, _, rfl, rfl, 990 + n, rfl, by omega, by omega, fun D hD => ?_⟩⟩
      have sD := same_upd (o := .lst []) hD
      have nD := hS2.ne hD
      refine lc_range (lo := 0) (n := (990 + n).toNat) (fun i H' => StAt H' p q ns ∧ Kept H2 H' p ∧ ∃ ds : List Int, H' D = some (.lst (ds.map V.int)) ∧ ds.length = i ∧ ∀ v ∈ ds, 0 ≤ v ∧ v < 2) ⟨hS2.keep sD, sD.kept p, [], upd_same, rfl, fun _ h => (by cases h)⟩ ?_ ?_
      · rintro i H3 hi ⟨hS3, k3, ds, hD3, hdl, hds⟩
        refine ⟨rfl, lc_yes ⟨_, rfl, p, q, ns, 2, rfl, hS3, by decide, by decide, fun H4 v4 hS4 hB4 h40 h41 => ?_⟩⟩
        refine ⟨_, (hB4 D nD.1).trans hD3, by rw [List.length_map, hdl]; omega, hS4.off nD, kept_new2 (k3.trans hB4.kept) hD, ds ++ [v4], by rw [upd_same, List.map_append]; rfl, by rw [List.length_append, hdl]; rfl, fun y hy => ?_⟩
        rcases List.mem_append.mp hy with hy | hy
        · exact hds y hy
        · rw [List.mem_singleton.mp hy]; exact ⟨h40, h41⟩
      · rintro H3 ⟨hS3, k3, ds, hD3, hdl, hds⟩
        refine ⟨D, _, rfl, .inl ⟨SqL.of hD3, fun t ht => ?_⟩⟩
        refine ⟨by show 2 ≤ sizeLine; decide, fun t2 ht2 => ?_⟩
        have s4 := same_upd (o := .tup (ds.map V.int)) ht
        have s5 := same_upd (o := .tup [.str "list", .ref t]) ht2
        have sz : ∀ ds : List Int, sizs (ds.map Va.num) = ds.length := fun ds => by
          induction ds with
          | nil => rfl
          | cons a r ih => rw [List.map_cons, sizs, ih, List.length_cons]; show 1 + _ = _; omega
        have dp : deps (ds.map Va.num) ≤ 1 := deps_le fun v hv => by
          obtain ⟨i, _, rfl⟩ := List.mem_map.mp hv
          exact Nat.le_refl _
        refine qq _ _ (.lst (ds.map Va.num)) ((hS3.keep s4).keep s5) (((hB1.trans hB2).kept.trans k3).trans ((Same.tr s4 s5).kept p)) ⟨t2, t, ds.map V.int, rfl, upd_same, s5 _ _ upd_same, VasAt.of (it_num ds)⟩ ⟨oks_of fun v hv => ?_, ?_, ?_⟩
        · obtain ⟨i, hi, rfl⟩ := List.mem_map.mp hv
          have := hds i hi
          show i.natAbs ≤ 1298074214633706907132624082305023
          omega
        · simp only [Va.siz, sz]; omega
        · simp only [Va.dep]; omega
    refine ⟨_, rfl, rfl, _, rfl, ite2 (fun e => ?_) (fun e => ?_)⟩
    · refine ⟨3, rfl, by decide, by decide, fun D hD => ?_⟩
      have sD := same_upd (o := .lst []) hD
      refine lc_range (lo := 0) (n := (3 : Int).toNat) (fun i H' => Same H1 H' ∧ ∃ acc, H' D = some (.lst acc) ∧ ItAt H' acc (List.replicate i AB)) ⟨sD, [], upd_same, .nil⟩ ?_ ?_
      · rintro i H3 hi ⟨s3, acc, hD3, hit⟩
        have hi3 : i < 3 := hi
        have hal := hit.len
        rw [List.length_replicate] at hal
        refine ⟨rfl, lc_yes ⟨by show 1 ≤ sizeLine; decide, fun a ha => ⟨a, 110, _, rfl, rfl, SqT.of upd_same, by simp, by decide, by decide, by show 1 ≤ 1000; decide, fun b hb => ⟨by show 2 ≤ sizeLine; decide, fun c hc => ?_⟩⟩⟩⟩
        have s4 := same_upd (o := .tup [.str "ab"]) ha
        generalize L2.upd H3 a (.tup [.str "ab"]) = H4 at *
        have s5 := same_upd (o := .tup (List.replicate (110 : Int).toNat [V.str "ab"]).flatten) hb
        have g5 : L2.upd H4 b (.tup (List.replicate (110 : Int).toNat [V.str "ab"]).flatten) b = some (.tup (List.replicate 110 (V.str "ab"))) := by rw [upd_same, flat_vs]; rfl
        generalize L2.upd H4 b (.tup (List.replicate (110 : Int).toNat [V.str "ab"]).flatten) = H5 at *
        have s6 := same_upd (o := .tup [.str "list", .ref b]) hc
        have g6 : L2.upd H5 c (.tup [.str "list", .ref b]) c = some (.tup [.str "list", .ref b]) := upd_same
        generalize L2.upd H5 c (.tup [.str "list", .ref b]) = H6 at *
        have s36 := Same.tr s4 (Same.tr s5 s6)
        have hD6 := s36 _ _ hD3
        have kD := tk_lst (o := .lst (acc ++ [.ref c])) hD6
        have hab : VaAt H6 AB (.ref c) := ⟨c, b, _, rfl, g6, s6 _ _ g5, VasAt.of (it_rep (by show VaAt H6 (.txt "ab") (.str "ab"); rfl) 110)⟩
        refine ⟨acc, hD6, by omega, same_up (Same.tr s3 s36) hD, acc ++ [.ref c], upd_same, ?_⟩
        rw [List.replicate_succ']
        exact (ItAt.keep kD (ItAt.keep (TupK.of s36) hit)).app (.one (hab.keep kD))
      · rintro H3 ⟨s3, acc, hD3, hit⟩
        have hal := hit.len
        rw [List.length_replicate] at hal
        refine ⟨D, acc, rfl, .inl ⟨SqL.of hD3, fun t ht => ?_⟩⟩
        have s4 := same_upd (o := .tup acc) ht
        have g4 : L2.upd H3 t (.tup acc) t = some (.tup acc) := upd_same
        generalize L2.upd H3 t (.tup acc) = H4 at *
        have s14 := Same.tr s3 s4
        have hS4 := hS1.keep s14
        refine ⟨_, rfl, p, q, ns, 21, rfl, hS4, by decide, by decide, fun H5 v5 hS5 hB5 h50 h51 => ?_⟩
        obtain ⟨n, rfl⟩ := Int.eq_ofNat_of_zero_le h50
        have k5t := kept_tk hB5.kept hS4
        refine ⟨[122], n, rfl, rfl, by omega, by decide, by decide, ?_⟩
        rw [flat_ones]
        refine ⟨by show 1 ≤ sizeLine; decide, fun u hu => ?_⟩
        have s6 := same_upd (o := .tup [.str (S (List.replicate n 122))]) hu
        have g6 : L2.upd H5 u (.tup [.str (S (List.replicate n 122))]) u = some (.tup [.str (S (List.replicate n 122))]) := upd_same
        generalize L2.upd H5 u (.tup [.str (S (List.replicate n 122))]) = H6 at *
        have hacc : acc ≠ [] := fun z => by rw [z] at hal; cases hal
        refine ⟨t, u, acc, _, rfl, rfl, SqT.of (s6 _ _ (k5t _ _ g4)), SqT.of g6, hacc, by show acc.length + 1 ≤ sizeLine; omega, fun z => (by cases z), fun _ r hr => ?_⟩
        have s7 := same_upd (o := .tup (acc ++ [.str (S (List.replicate n 122))])) hr
        have g7 : L2.upd H6 r (.tup (acc ++ [.str (S (List.replicate n 122))])) r = some (.tup (acc ++ [.str (S (List.replicate n 122))])) := upd_same
        generalize L2.upd H6 r (.tup (acc ++ [.str (S (List.replicate n 122))])) = H7 at *
        refine ⟨by show 3 ≤ sizeLine; decide, fun m hm => ?_⟩
        have s8 := same_upd (o := .tup [.str "make", .str "M", .ref r]) hm
        have s58 := Same.tr s6 (Same.tr s7 s8)
        have hit8 := ItAt.keep (TupK.of (Same.tr s6 (Same.tr s7 s8))) (ItAt.keep k5t (ItAt.keep (TupK.of s4) hit))
        have hv := val_rep (n := n) (c := 122) (by decide) (z := 1 + n) (Nat.le_refl _)
        refine qq _ _ (.mk "M" (List.replicate 3 AB ++ [.txt (S (List.replicate n 122))])) (hS5.keep s58) (((hB1.kept.trans (s14.kept p)).trans hB5.kept).trans (s58.kept p)) ⟨m, r, _, rfl, upd_same, s8 _ _ g7, VasAt.of (hit8.app (.one (show VaAt _ (.txt _) (.str _) from rfl)))⟩ ⟨⟨by decide +kernel, by decide +kernel, oks_of fun v hv2 => ?_⟩, ?_, ?_⟩
        · rcases List.mem_append.mp hv2 with hv2 | hv2
          · rw [List.eq_of_mem_replicate hv2]
            exact ab_ok
          · rw [List.mem_singleton.mp hv2]
            exact hv.ok
        · have := hv.siz
          simp only [Va.siz] at this
          have e3 : sizs (List.replicate 3 AB) = 993 := by decide +kernel
          simp only [Va.siz, sizs_app, sizs, e3]
          omega
        · have e3 : deps (List.replicate 3 AB) = 2 := by decide +kernel
          simp only [Va.dep, deps_app, deps, e3]
          omega
    · refine ⟨by show 0 ≤ sizeLine; decide, fun e0 he0 => ⟨by show 2 ≤ sizeLine; decide, fun t ht => ⟨by show 3 ≤ sizeLine; decide, fun L hL => ?_⟩⟩⟩
      have s1 := same_upd (o := .tup []) he0
      have g1 : L2.upd H1 e0 (.tup []) e0 = some (.tup []) := upd_same
      generalize L2.upd H1 e0 (.tup []) = H2 at *
      have s2 := same_upd (o := .tup [.str "list", .ref e0]) ht
      have g2 : L2.upd H2 t (.tup [.str "list", .ref e0]) t = some (.tup [.str "list", .ref e0]) := upd_same
      generalize L2.upd H2 t (.tup [.str "list", .ref e0]) = H3 at *
      have s3 := same_upd (o := .lst [.int 0, .str "", .ref t]) hL
      have g3 : L2.upd H3 L (.lst [.int 0, .str "", .ref t]) L = some (.lst [.int 0, .str "", .ref t]) := upd_same
      have nL := (hS1.keep (Same.tr s1 s2)).ne hL
      generalize L2.upd H3 L (.lst [.int 0, .str "", .ref t]) = H4 at *
      have s14 := Same.tr s1 (Same.tr s2 s3)
      have hS4 := hS1.keep s14
      refine ⟨_, rfl, p, q, ns, 3, rfl, hS4, by decide, by decide, fun H5 v5 hS5 hB5 h50 h51 => ?_⟩
      have k5t := kept_tk hB5.kept hS4
      obtain ⟨x, v, hat, hx, hv⟩ : ∃ x v, atI ([V.int 0, V.str "", V.ref t] : List V) v5 = some x ∧ VaAt H5 v x ∧ Val C1 1 1 v := by
        have e2 : v5 = 0 ∨ v5 = 1 ∨ v5 = 2 := by omega
        rcases e2 with rfl | rfl | rfl
        · exact ⟨_, .num 0, rfl, rfl, ⟨by show 0 ≤ _; exact Nat.zero_le _, Nat.le_refl _, Nat.le_refl _⟩⟩
        · exact ⟨_, .txt "", rfl, rfl, ⟨by show PyData.strOk _ = true; decide +kernel, by decide +kernel, Nat.le_refl _⟩⟩
        · exact ⟨_, .lst [], rfl, ⟨t, e0, [], rfl, k5t _ _ (s3 _ _ g2), k5t _ _ (s3 _ _ (s2 _ _ g1)), rfl⟩, ⟨trivial, Nat.le_refl _, Nat.le_refl _⟩⟩
      refine ⟨L, _, v5, x, rfl, rfl, SqL.of ((hB5 L nL.1).trans g3), hat, ?_⟩
      have k5 : Kept H H5 p := (hB1.kept.trans (s14.kept p)).trans hB5.kept
      refine ⟨_, rfl, p, q, ns, 9, rfl, hS5, by decide, by decide, fun H6 v6 hS6 hB6 h60 h61 => ⟨_, _, rfl, rfl, 35 + v6, rfl, by omega, by omega, ?_⟩⟩
      have k6t := kept_tk hB6.kept hS5
      refine for_range (lo := 0) (n := (35 + v6).toNat) (fun i σ H' => ∃ (x : V) (v : Va) (y : Option V), σ = [some (.ref p), some (.int v1), some x, y] ∧ StAt H' p q ns ∧ Kept H H' p ∧ VaAt H' v x ∧ Val C1 (1 + i) (1 + i) v) ⟨x, v, none, rfl, hS6, k5.trans hB6.kept, hx.keep k6t, hv⟩ ?_ ?_
      · rintro i σ H7 hi ⟨x, v, y, rfl, hS7, k7, hx7, hv7⟩
        refine ⟨_, rfl, by show 1 ≤ sizeLine; decide, fun a ha => ⟨by show 2 ≤ sizeLine; decide, fun b hb => ⟨_, rfl, by show 1 ≤ sizeLine; decide, fun c hc => ⟨by show 3 ≤ sizeLine; decide, fun d hd => ⟨by show 2 ≤ sizeLine; decide, fun L hL => ?_⟩⟩⟩⟩⟩
        have s1 := same_upd (o := .tup [x]) ha
        have g1 : L2.upd H7 a (.tup [x]) a = some (.tup [x]) := upd_same
        generalize L2.upd H7 a (.tup [x]) = G1 at *
        have s2 := same_upd (o := .tup [.str "list", .ref a]) hb
        have g2 : L2.upd G1 b (.tup [.str "list", .ref a]) b = some (.tup [.str "list", .ref a]) := upd_same
        generalize L2.upd G1 b (.tup [.str "list", .ref a]) = G2 at *
        have s3 := same_upd (o := .tup [x]) hc
        have g3 : L2.upd G2 c (.tup [x]) c = some (.tup [x]) := upd_same
        generalize L2.upd G2 c (.tup [x]) = G3 at *
        have s4 := same_upd (o := .tup [.str "make", .str "N", .ref c]) hd
        have g4 : L2.upd G3 d (.tup [.str "make", .str "N", .ref c]) d = some (.tup [.str "make", .str "N", .ref c]) := upd_same
        generalize L2.upd G3 d (.tup [.str "make", .str "N", .ref c]) = G4 at *
        have nL := (hS7.keep (Same.tr s1 (Same.tr s2 (Same.tr s3 s4)))).ne hL
        have s5 := same_upd (o := .lst [.ref b, .ref d]) hL
        have g5 : L2.upd G4 L (.lst [.ref b, .ref d]) L = some (.lst [.ref b, .ref d]) := upd_same
        generalize L2.upd G4 L (.lst [.ref b, .ref d]) = G5 at *
        have s75 := Same.tr s1 (Same.tr s2 (Same.tr s3 (Same.tr s4 s5)))
        have hS5 := hS7.keep s75
        refine ⟨_, rfl, p, q, ns, 2, rfl, hS5, by decide, by decide, fun H8 v8 hS8 hB8 h80 h81 => ?_⟩
        have k8t := kept_tk hB8.kept hS5
        have hx8 : VaAt H8 v x := (hx7.keep (TupK.of s75)).keep k8t
        have z1 := hv7.siz
        have z2 := hv7.dep
        obtain ⟨x', v', hat, hx', hv'⟩ : ∃ x' v', atI ([V.ref b, V.ref d] : List V) v8 = some x' ∧ VaAt H8 v' x' ∧ Val C1 (1 + (i + 1)) (1 + (i + 1)) v' := by
          have e2 : v8 = 0 ∨ v8 = 1 := by omega
          rcases e2 with rfl | rfl
          · refine ⟨_, .lst [v], rfl, ⟨b, a, [x], rfl, k8t _ _ (s5 _ _ (s4 _ _ (s3 _ _ g2))), k8t _ _ (s5 _ _ (s4 _ _ (s3 _ _ (s2 _ _ g1)))), VasAt.of (.one hx8)⟩, ⟨⟨hv7.ok, trivial⟩, ?_, ?_⟩⟩
            · simp only [Va.siz, sizs]; omega
            · simp only [Va.dep, deps]; omega
          · refine ⟨_, .mk "N" [v], rfl, ⟨d, c, [x], rfl, k8t _ _ (s5 _ _ g4), k8t _ _ (s5 _ _ (s4 _ _ g3)), VasAt.of (.one hx8)⟩, ⟨⟨by decide +kernel, by decide +kernel, hv7.ok, trivial⟩, ?_, ?_⟩⟩
            · simp only [Va.siz, sizs]; omega
            · simp only [Va.dep, deps]; omega
        exact ⟨L, _, v8, x', rfl, rfl, SqL.of ((hB8 L nL.1).trans g5), hat, x', v', _, rfl, hS8, (k7.trans (s75.kept p)).trans hB8.kept, hx', hv'⟩
      · rintro σ H7 ⟨x, v, y, rfl, hS7, k7, hx7, hv7⟩
        exact ⟨_, rfl, qq H7 x v hS7 k7 hx7 (hv7.mono (by omega) (by omega))⟩
end
end Q25
namespace Q25
open PySem PySem.Spec PyProof.Rows L2 SX HL
/-! ### values as data; a tuple beside the empty tuple -/
mutual
def pdV : Va → PyData
  | .bl b => .bool b
  | .num i => .int i
  | .txt z => .str z
  | .lst vs => .tuple [.str "list", .tuple (pdVs vs)]
  | .mk m vs => .tuple [.str "make", .str m, .tuple (pdVs vs)]
def pdVs : List Va → List PyData
  | [] => []
  | v :: vs => pdV v :: pdVs vs
end
section
variable {P : Program} {w : World} {K : PySem.W.Frag} {mg : Str → Option Value} {base : Heap} {X : Cx}
mutual
theorem VaAt.dp {H : Hp} : ∀ {v : Va} {x : V}, VaAt H v x → Dp K H x (pdV v)
  | .bl _, _, h => by rw [show _ = _ from h]; exact .bl _
  | .num _, _, h => by rw [show _ = _ from h]; exact .int _
  | .txt _, _, h => by rw [show _ = _ from h]; exact .str _
  | .lst vs, _, ⟨t, q, us, e, h1, h2, h3⟩ => by
    rw [e]
    exact .tup (SqT.of h1) (.cons (.str _) (.cons (.tup (SqT.of h2) (VasAt.dp h3)) .nil))
  | .mk m vs, _, ⟨t, q, us, e, h1, h2, h3⟩ => by
    rw [e]
    exact .tup (SqT.of h1) (.cons (.str _) (.cons (.str _) (.cons (.tup (SqT.of h2) (VasAt.dp h3)) .nil)))
theorem VasAt.dp {H : Hp} : ∀ {vs : List Va} {us : List V}, VasAt H vs us → DpAll K H us (pdVs vs)
  | [], _, h => by rw [show _ = [] from h]; exact .nil
  | v :: vs, _, ⟨u, r, e, h1, h2⟩ => by rw [e]; exact .cons (VaAt.dp h1) (VasAt.dp h2)
end
mutual
theorem can_v {B : Nat} : ∀ {v : Va}, v.ok B → (pdV v).canLay0 = true
  | .bl _, _ => rfl
  | .num _, _ => rfl
  | .txt _, h => h
  | .lst vs, h => by
    have := can_vs h
    simp only [pdV, PyData.canLay0, PyData.canLayAll0, this]
    decide +kernel
  | .mk m vs, h => by
    have := can_vs h.2.2
    simp only [pdV, PyData.canLay0, PyData.canLayAll0, this, h.2.1]
    decide +kernel
theorem can_vs {B : Nat} : ∀ {vs : List Va}, oks B vs → PyData.canLayAll0 (pdVs vs) = true
  | [], _ => rfl
  | v :: vs, h => by
    have h1 := can_v h.1
    have h2 := can_vs h.2
    simp only [pdVs, PyData.canLayAll0, h1, h2]
    decide +kernel
end
def rEqNil (K : PySem.W.Frag) : R2 := fun x y H Q => ∃ (a b : Addr) (xs : List V) (ds : List PyData), x = .ref a ∧ y = .ref b ∧ SqT K H a xs ∧ SqT K H b [] ∧ DpAll K H xs ds ∧ PyData.canLayAll0 ds = true ∧ Q (.bl xs.isEmpty) H
theorem op_eqNil (hu : X.A.units + 64 < cLine) : OpR X (compareOp .Eq) (rEqNil X.K) := by
  intro pins s σ H x y v u Q I rx ry h
  obtain ⟨a, b, xs, ds, rfl, rfl, ha, hb, hd, hc, q⟩ := h
  obtain ⟨as, r1⟩ := Dp.reads I (.tuple ds) _ v (.tup ha hd) rx
  obtain ⟨bs, r2⟩ := Dp.reads I (.tuple []) _ u (.tup hb .nil) ry
  have e : PyData.eqv (.tuple ds) (.tuple []) = xs.isEmpty := by
    cases hd with
    | nil => rfl
    | cons _ _ => rfl
  have hdp : min (PyData.tuple ds).depth (PyData.tuple []).depth ≤ 64 := Nat.le_trans (Nat.min_le_right _ _) (by decide +kernel)
  refine PySem.SeqAt.compareEq_reads r1 r2 hc rfl (by omega) ?_
  rw [e]
  exact ⟨.bl _, H, I, rfl, q⟩
theorem catA_of {H : Hp} {a b : Addr} {xs ys : List V} {Q : VK} (ha : H a = some (.tup xs)) (hb : H b = some (.tup ys)) (hz : xs.length + ys.length ≤ sizeLine) (q : ∀ H' r, Same H H' → H' r = some (.tup (xs ++ ys)) → Q (.ref r) H') : rCatA K (.ref a) (.ref b) H Q :=
  ⟨a, b, xs, ys, rfl, rfl, SqT.of ha, SqT.of hb, hz, fun e => q H b (Same.refl H) (by rw [e]; exact hb), fun _ e => q H a (Same.refl H) (by rw [e, List.append_nil]; exact ha), fun _ _ p hp => q _ p (same_upd hp) upd_same⟩
theorem slA_of {H : Hp} {a : Addr} {xs : List V} {lo hi : Option Int} {Q : VK} (ha : H a = some (.tup xs)) (q : ∀ H' r, Same H H' → H' r = some (.tup (cutV xs lo hi)) → Q (.ref r) H') : rSlA K (.ref a) lo hi H Q := by
  refine ⟨a, xs, rfl, SqT.of ha, fun e => q H a (Same.refl H) ?_, fun _ p hp => q _ p (same_upd hp) upd_same⟩
  have : cutV xs lo hi = xs := by
    unfold cutV
    rw [e.1, e.2, List.drop_zero, Nat.sub_zero, List.take_length]
  rw [this]
  exact ha
theorem Va.ok_mono {B B' : Nat} (hb : B ≤ B') : ∀ {v : Va}, v.ok B → v.ok B' := by
  have : ∀ n : Nat, ∀ v : Va, v.siz ≤ n → v.ok B → v.ok B' := fun n => by
    induction n with
    | zero => intro v h; have := siz_pos v; omega
    | succ n ih =>
      intro v h hk
      have hp : ∀ ps, v.parts = ps → oks B ps → oks B' ps := fun ps e hps => oks_of fun x hx => by
        have h1 := siz_mem hx
        have h2 := parts_siz v
        rw [e] at h2
        exact ih x (by omega) (oks_all hps x hx)
      cases v with
      | bl b => trivial
      | num i => exact Nat.le_trans hk hb
      | txt z => exact hk
      | lst vs => exact hp vs rfl hk
      | mk m vs => exact ⟨hk.1, hk.2.1, hp vs rfl hk.2.2⟩
  exact fun {v} h => this v.siz v (Nat.le_refl _) h
theorem app_ok {a b : Str} (ha : PyData.strOk a = true) (hb : PyData.strOk b = true) : PyData.strOk (a ++ b) = true := by
  unfold PyData.strOk at *
  rw [PySem.Str.cps_append, Array.all_append, ha, hb]
  rfl
theorem ofStr_ok (z : String) : PyData.strOk (PySem.Str.ofString z) = true := by
  have e : PySem.Str.ofString z = S (z.toList.map Char.toNat) := by
    show (⟨(PySem.cpsOfBytes 0 0 z.toByteArray.data.toList).toArray⟩ : PySem.Str) = _
    rw [PySem.cpsOfBytes_string]
  rw [e]
  refine strOk_S fun c hc => ?_
  obtain ⟨ch, _, rfl⟩ := List.mem_map.mp hc
  have h := ch.valid
  have ht : ch.toNat = ch.val.toNat := rfl
  simp only [UInt32.isValidChar, Nat.isValidChar] at h
  omega
theorem ntx_ok (i : Int) : PyData.strOk (nTx i) = true := ofStr_ok _
theorem part_split {vs : List Va} {j : Nat} {c : Va} (h : vs[j]? = some c) : vs = vs.take j ++ [c] ++ vs.drop (j + 1) := by
  have hj : j < vs.length := by
    rcases Nat.lt_or_ge j vs.length with q | q
    · exact q
    · rw [List.getElem?_eq_none q] at h; cases h
  have h2 : vs.drop j = c :: vs.drop (j + 1) := by
    rw [List.drop_eq_getElem_cons hj]
    rw [List.getElem?_eq_getElem hj] at h
    rw [Option.some.inj h]
  rw [List.append_assoc, List.singleton_append, ← h2, List.take_append_drop]
theorem part_put {vs : List Va} {j : Nat} {c v : Va} (h : vs[j]? = some c) (ho : oks BB vs) (hv : Val BB (c.siz + 1921) (c.dep + 1) v) : oks BB (vs.take j ++ [v] ++ vs.drop (j + 1)) ∧ sizs (vs.take j ++ [v] ++ vs.drop (j + 1)) ≤ sizs vs + 1921 ∧ deps (vs.take j ++ [v] ++ vs.drop (j + 1)) ≤ deps vs + 1 := by
  have e := part_split h
  have e1 := congrArg sizs e
  have e2 := congrArg deps e
  have h1 := hv.siz
  have h2 := hv.dep
  refine ⟨oks_of fun x hx => ?_, ?_, ?_⟩
  · rcases List.mem_append.mp hx with hx | hx
    · rcases List.mem_append.mp hx with hx | hx
      · exact oks_all ho x (List.mem_of_mem_take hx)
      · rw [List.mem_singleton.mp hx]; exact hv.ok
    · exact oks_all ho x (List.mem_of_mem_drop hx)
  · rw [sizs_app, sizs_app] at e1 ⊢
    simp only [sizs] at e1 ⊢
    omega
  · rw [deps_app, deps_app] at e2 ⊢
    simp only [deps] at e2 ⊢
    omega
/-! ### _law_turned -/
def spTurn (n : Nat) : Sp := fun vs H Q _ => ∃ (p q : Addr) (ns : List Int) (x : V) (v : Va), vs = [.ref p, x] ∧ StAt H p q ns ∧ VaAt H v x ∧ Val C1 2000 n v ∧ ∀ H' x' v', StAt H' p q ns → Kept H H' p → VaAt H' v' x' → Val BB (v.siz + 1921) (v.dep + 1) v' → Q x' H'
theorem turn_step {k n : Nat} (hk : 1 ≤ k) (Z : Defs K mg) (GLawNext : FnOk P w K mg base CX0 1 Z.fLawNext Z.fdLawNext ["state", "limit"] spNext) (GLawTurned : FnOk P w K mg base CX0 k Z.fLawTurned Z.fdLawTurned ["state", "value"] (spTurn n)) : FnOk P w K mg base CX0 (k + 1) Z.fLawTurned Z.fdLawTurned ["state", "value"] (spTurn (n + 1)) := by
  refine Z.DLawTurned.F.ok scLawTurned (fun vs H Q E h => ?_) (fun cdv A outer s H vs Q E hr h => ?_)
  · obtain ⟨p, q, ns, x, v, rfl, _⟩ := h
    rfl
  · obtain ⟨p, q, ns, x, v, rfl, hS, hx, hv, qq⟩ := h
    refine ⟨_, (pss_cons (ps_if (pt_val (pe_callB call_isB (by rfl) Z.isinstance HL.boot_isinstance (pa_cons (pv 1) (pa_cons (pe_bltn (v := .ty "bool") (by rfl) Z.bool HL.boot_bool rfl) pa_nil)))) (pss_one (ps_ret (pe_callTy call_int1 (by rfl) Z.int HL.boot_int (pa_cons (pv 1) pa_nil)))) pss_nil)
        (pss_cons (ps_if (pt_val (pe_callB call_isB (by rfl) Z.isinstance HL.boot_isinstance (pa_cons (pv 1) (pa_cons (pe_bltn (v := .ty "int") (by rfl) Z.int HL.boot_int rfl) pa_nil)))) (pss_one (ps_ret (pe_ix ix_list (pe_lst (pa_cons (pe_op op_add (pv 1) pe_int) (pa_cons (pe_cmpR op_eq (pv 1) pe_int (nomark _)) (pa_cons (pe_callTy call_str_int (by rfl) Z.str HL.boot_str (pa_cons (pv 1) pa_nil)) pa_nil)))) (pe_call GLawNext (hr.mono (by omega)) (by rfl) Z.DLawNext.g Z.DLawNext.F.kp Z.DLawNext.b .nil pass0 (pa_cons (pv 0) (pa_cons pe_int pa_nil))) (fun _ _ => rfl)))) pss_nil)
        (pss_cons (ps_if (pt_val (pe_callB call_isB (by rfl) Z.isinstance HL.boot_isinstance (pa_cons (pv 1) (pa_cons (pe_bltn (v := .ty "str") (by rfl) Z.str HL.boot_str rfl) pa_nil)))) (pss_one (ps_ret (pe_op op_add_str (pv 1) pe_str))) pss_nil)
        (pss_cons (ps_set (i := 2) scLawTurned.nd rfl (.inl rfl) (pe_ix ix_tup (pv 1) (pe_op op_sub (pe_callB call_len_seq (by rfl) Z.len PySem.boot_len (pa_cons (pv 1) pa_nil)) pe_int) (fun _ _ => rfl)))
        (pss_cons (ps_set (i := 3) scLawTurned.nd rfl (.inl rfl) (pe_call GLawNext (hr.mono (by omega)) (by rfl) Z.DLawNext.g Z.DLawNext.F.kp Z.DLawNext.b .nil pass0 (pa_cons (pv 0) (pa_cons pe_int pa_nil))))
        (pss_cons (ps_if (PW.pt (pw_or (pt_cmpR op_eq (pv 3) pe_int (nomark _)) (pw_or1 (pt_cmpR (op_eqNil hr.units) (pv 2) (pe_tup pa_nil) (nomark _))))) (pss_one (ps_ret (pe_op op_catA (pe_slice sl_tupA (pv 1) po_none (po_some (pe_op op_sub (pe_callB call_len_seq (by rfl) Z.len PySem.boot_len (pa_cons (pv 1) pa_nil)) pe_int))) (pe_tup (pa_cons (pe_op op_catA (pv 2) (pe_tup (pa_cons pe_int pa_nil))) pa_nil))))) pss_nil)
        (pss_cons (ps_if (pt_cmpR op_eq (pv 3) pe_int (nomark _)) (pss_one (ps_ret (pe_tup (pa_cons pe_str (pa_cons pe_str (pa_cons (pv 2) pa_nil)))))) pss_nil)
        (pss_cons (ps_set (i := 4) scLawTurned.nd rfl (.inl rfl) (pe_call GLawNext (hr.mono (by omega)) (by rfl) Z.DLawNext.g Z.DLawNext.F.kp Z.DLawNext.b .nil pass0 (pa_cons (pv 0) (pa_cons (pe_callB call_len_seq (by rfl) Z.len PySem.boot_len (pa_cons (pv 2) pa_nil)) pa_nil))))
        (pss_one (ps_ret (pe_op op_catA (pe_slice sl_tupA (pv 1) po_none (po_some (pe_op op_sub (pe_callB call_len_seq (by rfl) Z.len PySem.boot_len (pa_cons (pv 1) pa_nil)) pe_int))) (pe_tup (pa_cons (pe_op op_catA (pe_op op_catA (pe_slice sl_tupA (pv 2) po_none (po_some (pv 4))) (pe_tup (pa_cons (pe_call GLawTurned (hr.mono (by omega)) (by rfl) Z.DLawTurned.g Z.DLawTurned.F.kp Z.DLawTurned.b .nil pass0 (pa_cons (pv 0) (pa_cons (pe_ix ix_tup (pv 2) (pv 4) (fun _ _ => rfl)) pa_nil))) pa_nil))) (pe_slice sl_tupA (pv 2) (po_some (pe_op op_add (pv 4) pe_int)) po_none)) pa_nil))))))))))))), ?_⟩
    have big : 16777216 ≤ sizeLine := by decide +kernel
    have hcb : C1 ≤ BB := by decide +kernel
    have hok := hv.ok
    have hsz := hv.siz
    have hdp := hv.dep
    cases v with
    | bl b =>
      obtain rfl : x = _ := hx
      refine ⟨_, rfl, _, "bool", "bool", true, rfl, .base (.bl b), by decide +kernel, true, rfl, iteT ⟨_, rfl, .inr ⟨b, rfl, ?_⟩⟩⟩
      refine qq H _ (.num (if b then 1 else 0)) hS Kept.refl rfl ⟨?_, by simp only [Va.siz]; omega, by simp only [Va.dep]; omega⟩
      cases b <;> (show (_ : Nat) ≤ _; decide +kernel)
    | num i =>
      obtain rfl : x = _ := hx
      have hi : i.natAbs ≤ 1298074214633706907132624082305023 := hok
      have hb1 : (Va.num (i + 1)).ok BB := by
        show (i + 1).natAbs ≤ 1298074214633706907132624082305024
        omega
      refine ⟨_, rfl, _, "int", "bool", false, rfl, .base (.int i), by decide +kernel, false, rfl, iteF ⟨_, rfl, _, "int", "int", true, rfl, .base (.int i), by decide +kernel, true, rfl, iteT ?_⟩⟩
      refine ⟨_, rfl, _, _, rfl, rfl, _, rfl, rfl, _, rfl, i, rfl, bb_log (Nat.le_trans hok hcb), by show 3 ≤ sizeLine; decide, fun L hL => ?_⟩
      have nL := hS.ne hL
      refine ⟨_, rfl, p, q, ns, 3, rfl, hS.keep (same_upd hL), by decide, by decide, fun H2 v2 hS2 hB2 h20 h21 => ?_⟩
      obtain ⟨x', v', hat, hx', hv'⟩ : ∃ x' v', atI ([V.int (i + 1), V.bl (decide (V.int i = V.int 1)), V.str (nTx i)] : List V) v2 = some x' ∧ VaAt H2 v' x' ∧ Val BB (1 + 1921) (1 + 1) v' := by
        have e2 : v2 = 0 ∨ v2 = 1 ∨ v2 = 2 := by omega
        rcases e2 with rfl | rfl | rfl
        · exact ⟨_, .num (i + 1), rfl, rfl, ⟨hb1, by simp only [Va.siz]; omega, by simp only [Va.dep]; omega⟩⟩
        · exact ⟨_, .bl _, rfl, rfl, ⟨trivial, by simp only [Va.siz]; omega, by simp only [Va.dep]; omega⟩⟩
        · have hl : (nTx i).length ≤ 1921 := PyProof.Rows.int_text_len_1921 (bb_log (Nat.le_trans hok hcb))
          exact ⟨_, .txt (nTx i), rfl, rfl, ⟨ntx_ok i, by simp only [Va.siz]; omega, by simp only [Va.dep]; omega⟩⟩
      exact ⟨L, _, v2, x', rfl, rfl, SqL.of ((hB2 L nL.1).trans upd_same), hat, qq H2 x' v' hS2 (((same_upd hL).kept p).trans hB2.kept) hx' (hv'.mono (by simp only [Va.siz]; omega) (by simp only [Va.dep]; omega))⟩
    | txt z =>
      obtain rfl : x = _ := hx
      simp only [Va.siz] at hsz
      have e1 : ("a" : Str).length = 1 := by decide +kernel
      refine ⟨_, rfl, _, "str", "bool", false, rfl, .base (.str z), by decide +kernel, false, rfl, iteF ⟨_, rfl, _, "str", "int", false, rfl, .base (.str z), by decide +kernel, false, rfl, iteF ⟨_, rfl, _, "str", "str", true, rfl, .base (.str z), by decide +kernel, true, rfl, iteT ?_⟩⟩⟩
      refine ⟨_, rfl, _, _, rfl, rfl, by rw [e1]; omega, ?_⟩
      exact qq H _ (.txt (z ++ "a")) hS Kept.refl rfl ⟨app_ok hok (by decide +kernel), by simp only [Va.siz, len_app]; omega, by simp only [Va.dep]; omega⟩
    | lst vs =>
      obtain ⟨t, q0, us, rfl, h1, h2, h3⟩ := hx
      have h3 := h3.all
      have hul := h3.len
      have hvl := sizs_len vs
      simp only [Va.siz] at hsz
      simp only [Va.dep] at hdp
      have hoks : oks C1 vs := hok
      have hoksB : oks BB vs := oks_of fun v hv => Va.ok_mono hcb (oks_all hoks v hv)
      refine ⟨_, rfl, _, "tuple", "bool", false, rfl, .base (.tup h1), by decide +kernel, false, rfl, iteF ?_⟩
      refine ⟨_, rfl, _, "tuple", "int", false, rfl, .base (.tup h1), by decide +kernel, false, rfl, iteF ?_⟩
      refine ⟨_, rfl, _, "tuple", "str", false, rfl, .base (.tup h1), by decide +kernel, false, rfl, iteF ?_⟩
      refine ⟨_, rfl, _, rfl, t, _, rfl, .inr (SqT.of h1), _, _, rfl, rfl, t, _, 1, .ref q0, rfl, rfl, SqT.of h1, rfl, ?_⟩
      refine ⟨_, rfl, p, q, ns, 4, rfl, hS, by decide, by decide, fun H1 v1 hS1 hB1 h0 h1' => ?_⟩
      have k1t := kept_tk hB1.kept hS
      have T1 := k1t _ _ h1
      have Q1 := k1t _ _ h2
      have U1 : ItAt H1 us vs := ItAt.keep k1t h3
      have CUT : ∀ y : V, cutV [.str "list", y] none (some ((([.str "list", y] : List V).length : Int) - 1)) = [.str "list"] := fun y => rfl
      refine ⟨_, rfl, rfl, _, rfl, ite2 (fun e => iteT ?_) (fun e => ?_)⟩
      · refine ⟨_, rfl, _, rfl, t, _, rfl, .inr (SqT.of T1), _, _, rfl, rfl, _, rfl, slA_of T1 fun H3 r s3 hr => ⟨_, rfl, by show 1 ≤ sizeLine; decide, fun z hz => catA_of (same_upd hz _ _ (s3 _ _ Q1)) upd_same (by show us.length + 1 ≤ sizeLine; omega) fun H4 y s4 hy => ⟨by show 1 ≤ sizeLine; decide, fun w hw => catA_of (same_upd hw _ _ (s4 _ _ (same_upd hz _ _ hr))) upd_same (by rw [CUT]; show 1 + 1 ≤ sizeLine; decide) fun H5 r5 s5 hr5 => ?_⟩⟩⟩
        have s6 := Same.tr s3 (Same.tr (same_upd hz) (Same.tr s4 (Same.tr (same_upd hw) s5)))
        have hr6 : H5 r5 = some (.tup [.str "list", .ref y]) := by rw [hr5, CUT]; rfl
        have hy6 : H5 y = some (.tup (us ++ [.int 0])) := s5 _ _ (same_upd hw _ _ hy)
        refine qq H5 _ (.lst (vs ++ [.num 0])) (hS1.keep s6) (hB1.kept.trans (s6.kept p)) ⟨r5, y, _, rfl, hr6, hy6, VasAt.of ((ItAt.keep (TupK.of s6) U1).app (.one (show VaAt _ (.num 0) (.int 0) from rfl)))⟩ ⟨oks_of fun v hv2 => ?_, ?_, ?_⟩
        · rcases List.mem_append.mp hv2 with hv2 | hv2
          · exact oks_all hoksB v hv2
          · rw [List.mem_singleton.mp hv2]; exact Nat.zero_le _
        · simp only [Va.siz, sizs_app, sizs]; omega
        · simp only [Va.dep, deps_app, deps]; omega
      refine ⟨_, rfl, by show 0 ≤ sizeLine; decide, fun e0 he0 => ⟨q0, e0, us, _, rfl, rfl, SqT.of (same_upd he0 _ _ Q1), SqT.of upd_same, (VasAt.of (ItAt.keep (TupK.of (same_upd he0)) U1)).dp, can_vs hoks, _, rfl, ?_⟩⟩
      have se := same_upd (o := .tup []) he0
      generalize L2.upd H1 e0 (.tup []) = H2 at *
      have T2 := se _ _ T1
      have Q2 := se _ _ Q1
      have U2 := ItAt.keep (TupK.of se) U1
      have hS2 := hS1.keep se
      have k2 : Kept H H2 p := hB1.kept.trans (se.kept p)
      refine ite2 (fun e => ?_) (fun e3 => ?_)
      · refine ⟨_, rfl, _, rfl, t, _, rfl, .inr (SqT.of T2), _, _, rfl, rfl, _, rfl, slA_of T2 fun H3 r s3 hr => ⟨_, rfl, by show 1 ≤ sizeLine; decide, fun z hz => catA_of (same_upd hz _ _ (s3 _ _ Q2)) upd_same (by show us.length + 1 ≤ sizeLine; omega) fun H4 y s4 hy => ⟨by show 1 ≤ sizeLine; decide, fun w hw => catA_of (same_upd hw _ _ (s4 _ _ (same_upd hz _ _ hr))) upd_same (by rw [CUT]; show 1 + 1 ≤ sizeLine; decide) fun H5 r5 s5 hr5 => ?_⟩⟩⟩
        have s6 := Same.tr s3 (Same.tr (same_upd hz) (Same.tr s4 (Same.tr (same_upd hw) s5)))
        have hr6 : H5 r5 = some (.tup [.str "list", .ref y]) := by rw [hr5, CUT]; rfl
        have hy6 : H5 y = some (.tup (us ++ [.int 0])) := s5 _ _ (same_upd hw _ _ hy)
        refine qq H5 _ (.lst (vs ++ [.num 0])) (hS2.keep s6) (k2.trans (s6.kept p)) ⟨r5, y, _, rfl, hr6, hy6, VasAt.of ((ItAt.keep (TupK.of s6) U2).app (.one (show VaAt _ (.num 0) (.int 0) from rfl)))⟩ ⟨oks_of fun v hv2 => ?_, ?_, ?_⟩
        · rcases List.mem_append.mp hv2 with hv2 | hv2
          · exact oks_all hoksB v hv2
          · rw [List.mem_singleton.mp hv2]; exact Nat.zero_le _
        · simp only [Va.siz, sizs_app, sizs]; omega
        · simp only [Va.dep, deps_app, deps]; omega
      refine ⟨_, rfl, rfl, _, rfl, ite2 (fun e => ?_) (fun e => ?_)⟩
      · refine ⟨_, rfl, by show 3 ≤ sizeLine; decide, fun mm hmm => ?_⟩
        have s6 := same_upd (o := .tup [.str "make", .str "List", .ref q0]) hmm
        exact qq _ _ (.mk "List" vs) (hS2.keep s6) (k2.trans (s6.kept p)) ⟨mm, q0, us, rfl, upd_same, s6 _ _ Q2, VasAt.of (ItAt.keep (TupK.of s6) U2)⟩ ⟨⟨by decide +kernel, by decide +kernel, hoksB⟩, by simp only [Va.siz]; omega, by simp only [Va.dep]; omega⟩
      have hpos : 0 < us.length := by
        cases us with
        | nil => exact absurd rfl e3
        | cons _ _ => exact Nat.zero_lt_succ _
      refine ⟨_, rfl, _, rfl, q0, us, rfl, .inr (SqT.of Q2), p, q, ns, us.length, rfl, hS2, by omega, by omega, fun H3 v3 hS3 hB3 h30 h31 => ?_⟩
      obtain ⟨j, rfl⟩ := Int.eq_ofNat_of_zero_le h30
      have hj : j < us.length := by omega
      have k3t := kept_tk hB3.kept hS2
      have T3 := k3t _ _ T2
      have Q3 := k3t _ _ Q2
      have U3 := ItAt.keep k3t U2
      have k3 := k2.trans hB3.kept
      obtain ⟨u, hu⟩ : ∃ u, us[j]? = some u := ⟨_, List.getElem?_eq_getElem hj⟩
      obtain ⟨c, hc, huc⟩ := All2.get U3 hu
      have huc : VaAt H3 c u := huc
      have hcm := List.mem_of_getElem? hc
      have c1 := siz_mem hcm
      have c2 := dep_mem hcm
      refine ⟨_, rfl, _, rfl, t, _, rfl, .inr (SqT.of T3), _, _, rfl, rfl, _, rfl, slA_of T3 fun H4 r s4 hr => ⟨_, rfl, _, rfl, _, rfl, slA_of (s4 _ _ Q3) fun H5 a s5 ha => ?_⟩⟩
      have s35 := Same.tr s4 s5
      have Q5 := s35 _ _ Q3
      have hS5 := hS3.keep s35
      refine ⟨_, rfl, _, rfl, _, rfl, q0, us, (j : Int), u, rfl, rfl, SqT.of Q5, atI_nat hu, p, q, ns, u, c, rfl, hS5, huc.keep (TupK.of s35), ⟨oks_all hoks c hcm, by omega, by omega⟩, fun H6 x6 v6 hS6 k6 hx6 hv6 => ⟨by show 1 ≤ sizeLine; decide, fun b hb => ?_⟩⟩
      have k6t := kept_tk k6 hS5
      have s7 := same_upd (o := .tup [x6]) hb
      have g7 : L2.upd H6 b (.tup [x6]) b = some (.tup [x6]) := upd_same
      generalize L2.upd H6 b (.tup [x6]) = H7 at *
      have A7 := s7 _ _ (k6t _ _ ha)
      have Q7 := s7 _ _ (k6t _ _ Q5)
      have R7 := s7 _ _ (k6t _ _ (s5 _ _ hr))
      have ea : cutV us none (some (j : Int)) = us.take j := cut_to us j
      have ed : cutV us (some ((j : Int) + 1)) none = us.drop (j + 1) := cut_from us (j + 1)
      rw [ea] at A7
      have tl : (us.take j).length = j := by rw [List.length_take]; omega
      refine catA_of A7 g7 (by show (us.take j).length + 1 ≤ sizeLine; omega) fun H8 cc s8 hcc => ⟨_, rfl, _, rfl, _, _, rfl, rfl, _, rfl, ?_⟩
      delta tNoPart
      refine slA_of (s8 _ _ Q7) fun H9 d s9 hd => ?_
      rw [ed] at hd
      refine catA_of (s9 _ _ hcc) hd (by rw [List.length_append, tl, List.length_drop]; show j + 1 + _ ≤ sizeLine; omega) fun H10 f s10 hf => ⟨by show 1 ≤ sizeLine; decide, fun g hg => ?_⟩
      have s11 := same_upd (o := .tup [.ref f]) hg
      have g11 : L2.upd H10 g (.tup [.ref f]) g = some (.tup [.ref f]) := upd_same
      generalize L2.upd H10 g (.tup [.ref f]) = H11 at *
      have s711 := Same.tr s8 (Same.tr s9 (Same.tr s10 s11))
      have R11 := s711 _ _ R7
      refine catA_of R11 g11 (by rw [CUT]; show 1 + 1 ≤ sizeLine; decide) fun H12 r12 s12 hr12 => ?_
      rw [CUT] at hr12
      have s712 := Same.tr s711 s12
      have s612 := Same.tr s7 s712
      have hf12 : H12 f = some (.tup (us.take j ++ [x6] ++ us.drop (j + 1))) := s12 _ _ (s11 _ _ hf)
      have kall : Kept H H12 p := ((k3.trans (s35.kept p)).trans k6).trans (s612.kept p)
      have U12 : ItAt H12 us vs := ItAt.keep (TupK.of s612) (ItAt.keep k6t (ItAt.keep (TupK.of s35) U3))
      have W12 : ItAt H12 (us.take j ++ [x6] ++ us.drop (j + 1)) (vs.take j ++ [v6] ++ vs.drop (j + 1)) := ((All2.take U12 j).app (.one (hx6.keep (TupK.of s612)))).app (All2.drop U12 (j + 1))
      obtain ⟨w1, w2, w3⟩ := part_put hc hoksB hv6
      exact qq H12 _ (.lst (vs.take j ++ [v6] ++ vs.drop (j + 1))) (hS6.keep s612) kall ⟨r12, f, _, rfl, hr12, hf12, VasAt.of W12⟩ ⟨w1, by simp only [Va.siz]; omega, by simp only [Va.dep]; omega⟩
    | mk m vs =>
      obtain ⟨t, q0, us, rfl, h1, h2, h3⟩ := hx
      have h3 := h3.all
      have hul := h3.len
      have hvl := sizs_len vs
      simp only [Va.siz] at hsz
      simp only [Va.dep] at hdp
      have hoks : oks C1 vs := hok.2.2
      have hoksB : oks BB vs := oks_of fun v hv => Va.ok_mono hcb (oks_all hoks v hv)
      refine ⟨_, rfl, _, "tuple", "bool", false, rfl, .base (.tup h1), by decide +kernel, false, rfl, iteF ?_⟩
      refine ⟨_, rfl, _, "tuple", "int", false, rfl, .base (.tup h1), by decide +kernel, false, rfl, iteF ?_⟩
      refine ⟨_, rfl, _, "tuple", "str", false, rfl, .base (.tup h1), by decide +kernel, false, rfl, iteF ?_⟩
      refine ⟨_, rfl, _, rfl, t, _, rfl, .inr (SqT.of h1), _, _, rfl, rfl, t, _, 2, .ref q0, rfl, rfl, SqT.of h1, rfl, ?_⟩
      refine ⟨_, rfl, p, q, ns, 4, rfl, hS, by decide, by decide, fun H1 v1 hS1 hB1 h0 h1' => ?_⟩
      have k1t := kept_tk hB1.kept hS
      have T1 := k1t _ _ h1
      have Q1 := k1t _ _ h2
      have U1 : ItAt H1 us vs := ItAt.keep k1t h3
      have CUT : ∀ y : V, cutV [.str "make", .str m, y] none (some ((([.str "make", .str m, y] : List V).length : Int) - 1)) = [.str "make", .str m] := fun y => rfl
      refine ⟨_, rfl, rfl, _, rfl, ite2 (fun e => iteT ?_) (fun e => ?_)⟩
      · refine ⟨_, rfl, _, rfl, t, _, rfl, .inr (SqT.of T1), _, _, rfl, rfl, _, rfl, slA_of T1 fun H3 r s3 hr => ⟨_, rfl, by show 1 ≤ sizeLine; decide, fun z hz => catA_of (same_upd hz _ _ (s3 _ _ Q1)) upd_same (by show us.length + 1 ≤ sizeLine; omega) fun H4 y s4 hy => ⟨by show 1 ≤ sizeLine; decide, fun w hw => catA_of (same_upd hw _ _ (s4 _ _ (same_upd hz _ _ hr))) upd_same (by rw [CUT]; show 2 + 1 ≤ sizeLine; decide) fun H5 r5 s5 hr5 => ?_⟩⟩⟩
        have s6 := Same.tr s3 (Same.tr (same_upd hz) (Same.tr s4 (Same.tr (same_upd hw) s5)))
        have hr6 : H5 r5 = some (.tup [.str "make", .str m, .ref y]) := by rw [hr5, CUT]; rfl
        have hy6 : H5 y = some (.tup (us ++ [.int 0])) := s5 _ _ (same_upd hw _ _ hy)
        refine qq H5 _ (.mk m (vs ++ [.num 0])) (hS1.keep s6) (hB1.kept.trans (s6.kept p)) ⟨r5, y, _, rfl, hr6, hy6, VasAt.of ((ItAt.keep (TupK.of s6) U1).app (.one (show VaAt _ (.num 0) (.int 0) from rfl)))⟩ ⟨⟨hok.1, hok.2.1, oks_of fun v hv2 => ?_⟩, ?_, ?_⟩
        · rcases List.mem_append.mp hv2 with hv2 | hv2
          · exact oks_all hoksB v hv2
          · rw [List.mem_singleton.mp hv2]; exact Nat.zero_le _
        · simp only [Va.siz, sizs_app, sizs]; omega
        · simp only [Va.dep, deps_app, deps]; omega
      refine ⟨_, rfl, by show 0 ≤ sizeLine; decide, fun e0 he0 => ⟨q0, e0, us, _, rfl, rfl, SqT.of (same_upd he0 _ _ Q1), SqT.of upd_same, (VasAt.of (ItAt.keep (TupK.of (same_upd he0)) U1)).dp, can_vs hoks, _, rfl, ?_⟩⟩
      have se := same_upd (o := .tup []) he0
      generalize L2.upd H1 e0 (.tup []) = H2 at *
      have T2 := se _ _ T1
      have Q2 := se _ _ Q1
      have U2 := ItAt.keep (TupK.of se) U1
      have hS2 := hS1.keep se
      have k2 : Kept H H2 p := hB1.kept.trans (se.kept p)
      refine ite2 (fun e => ?_) (fun e3 => ?_)
      · refine ⟨_, rfl, _, rfl, t, _, rfl, .inr (SqT.of T2), _, _, rfl, rfl, _, rfl, slA_of T2 fun H3 r s3 hr => ⟨_, rfl, by show 1 ≤ sizeLine; decide, fun z hz => catA_of (same_upd hz _ _ (s3 _ _ Q2)) upd_same (by show us.length + 1 ≤ sizeLine; omega) fun H4 y s4 hy => ⟨by show 1 ≤ sizeLine; decide, fun w hw => catA_of (same_upd hw _ _ (s4 _ _ (same_upd hz _ _ hr))) upd_same (by rw [CUT]; show 2 + 1 ≤ sizeLine; decide) fun H5 r5 s5 hr5 => ?_⟩⟩⟩
        have s6 := Same.tr s3 (Same.tr (same_upd hz) (Same.tr s4 (Same.tr (same_upd hw) s5)))
        have hr6 : H5 r5 = some (.tup [.str "make", .str m, .ref y]) := by rw [hr5, CUT]; rfl
        have hy6 : H5 y = some (.tup (us ++ [.int 0])) := s5 _ _ (same_upd hw _ _ hy)
        refine qq H5 _ (.mk m (vs ++ [.num 0])) (hS2.keep s6) (k2.trans (s6.kept p)) ⟨r5, y, _, rfl, hr6, hy6, VasAt.of ((ItAt.keep (TupK.of s6) U2).app (.one (show VaAt _ (.num 0) (.int 0) from rfl)))⟩ ⟨⟨hok.1, hok.2.1, oks_of fun v hv2 => ?_⟩, ?_, ?_⟩
        · rcases List.mem_append.mp hv2 with hv2 | hv2
          · exact oks_all hoksB v hv2
          · rw [List.mem_singleton.mp hv2]; exact Nat.zero_le _
        · simp only [Va.siz, sizs_app, sizs]; omega
        · simp only [Va.dep, deps_app, deps]; omega
      refine ⟨_, rfl, rfl, _, rfl, ite2 (fun e => ?_) (fun e => ?_)⟩
      · refine ⟨_, rfl, by show 3 ≤ sizeLine; decide, fun mm hmm => ?_⟩
        have s6 := same_upd (o := .tup [.str "make", .str "List", .ref q0]) hmm
        exact qq _ _ (.mk "List" vs) (hS2.keep s6) (k2.trans (s6.kept p)) ⟨mm, q0, us, rfl, upd_same, s6 _ _ Q2, VasAt.of (ItAt.keep (TupK.of s6) U2)⟩ ⟨⟨by decide +kernel, by decide +kernel, hoksB⟩, by simp only [Va.siz]; omega, by simp only [Va.dep]; omega⟩
      have hpos : 0 < us.length := by
        cases us with
        | nil => exact absurd rfl e3
        | cons _ _ => exact Nat.zero_lt_succ _
      refine ⟨_, rfl, _, rfl, q0, us, rfl, .inr (SqT.of Q2), p, q, ns, us.length, rfl, hS2, by omega, by omega, fun H3 v3 hS3 hB3 h30 h31 => ?_⟩
      obtain ⟨j, rfl⟩ := Int.eq_ofNat_of_zero_le h30
      have hj : j < us.length := by omega
      have k3t := kept_tk hB3.kept hS2
      have T3 := k3t _ _ T2
      have Q3 := k3t _ _ Q2
      have U3 := ItAt.keep k3t U2
      have k3 := k2.trans hB3.kept
      obtain ⟨u, hu⟩ : ∃ u, us[j]? = some u := ⟨_, List.getElem?_eq_getElem hj⟩
      obtain ⟨c, hc, huc⟩ := All2.get U3 hu
      have huc : VaAt H3 c u := huc
      have hcm := List.mem_of_getElem? hc
      have c1 := siz_mem hcm
      have c2 := dep_mem hcm
      refine ⟨_, rfl, _, rfl, t, _, rfl, .inr (SqT.of T3), _, _, rfl, rfl, _, rfl, slA_of T3 fun H4 r s4 hr => ⟨_, rfl, _, rfl, _, rfl, slA_of (s4 _ _ Q3) fun H5 a s5 ha => ?_⟩⟩
      have s35 := Same.tr s4 s5
      have Q5 := s35 _ _ Q3
      have hS5 := hS3.keep s35
      refine ⟨_, rfl, _, rfl, _, rfl, q0, us, (j : Int), u, rfl, rfl, SqT.of Q5, atI_nat hu, p, q, ns, u, c, rfl, hS5, huc.keep (TupK.of s35), ⟨oks_all hoks c hcm, by omega, by omega⟩, fun H6 x6 v6 hS6 k6 hx6 hv6 => ⟨by show 1 ≤ sizeLine; decide, fun b hb => ?_⟩⟩
      have k6t := kept_tk k6 hS5
      have s7 := same_upd (o := .tup [x6]) hb
      have g7 : L2.upd H6 b (.tup [x6]) b = some (.tup [x6]) := upd_same
      generalize L2.upd H6 b (.tup [x6]) = H7 at *
      have A7 := s7 _ _ (k6t _ _ ha)
      have Q7 := s7 _ _ (k6t _ _ Q5)
      have R7 := s7 _ _ (k6t _ _ (s5 _ _ hr))
      have ea : cutV us none (some (j : Int)) = us.take j := cut_to us j
      have ed : cutV us (some ((j : Int) + 1)) none = us.drop (j + 1) := cut_from us (j + 1)
      rw [ea] at A7
      have tl : (us.take j).length = j := by rw [List.length_take]; omega
      refine catA_of A7 g7 (by show (us.take j).length + 1 ≤ sizeLine; omega) fun H8 cc s8 hcc => ⟨_, rfl, _, rfl, _, _, rfl, rfl, _, rfl, ?_⟩
      delta tNoPart
      refine slA_of (s8 _ _ Q7) fun H9 d s9 hd => ?_
      rw [ed] at hd
      refine catA_of (s9 _ _ hcc) hd (by rw [List.length_append, tl, List.length_drop]; show j + 1 + _ ≤ sizeLine; omega) fun H10 f s10 hf => ⟨by show 1 ≤ sizeLine; decide, fun g hg => ?_⟩
      have s11 := same_upd (o := .tup [.ref f]) hg
      have g11 : L2.upd H10 g (.tup [.ref f]) g = some (.tup [.ref f]) := upd_same
      generalize L2.upd H10 g (.tup [.ref f]) = H11 at *
      have s711 := Same.tr s8 (Same.tr s9 (Same.tr s10 s11))
      have R11 := s711 _ _ R7
      refine catA_of R11 g11 (by rw [CUT]; show 2 + 1 ≤ sizeLine; decide) fun H12 r12 s12 hr12 => ?_
      rw [CUT] at hr12
      have s712 := Same.tr s711 s12
      have s612 := Same.tr s7 s712
      have hf12 : H12 f = some (.tup (us.take j ++ [x6] ++ us.drop (j + 1))) := s12 _ _ (s11 _ _ hf)
      have kall : Kept H H12 p := ((k3.trans (s35.kept p)).trans k6).trans (s612.kept p)
      have U12 : ItAt H12 us vs := ItAt.keep (TupK.of s612) (ItAt.keep k6t (ItAt.keep (TupK.of s35) U3))
      have W12 : ItAt H12 (us.take j ++ [x6] ++ us.drop (j + 1)) (vs.take j ++ [v6] ++ vs.drop (j + 1)) := ((All2.take U12 j).app (.one (hx6.keep (TupK.of s612)))).app (All2.drop U12 (j + 1))
      obtain ⟨w1, w2, w3⟩ := part_put hc hoksB hv6
      exact qq H12 _ (.mk m (vs.take j ++ [v6] ++ vs.drop (j + 1))) (hS6.keep s612) kall ⟨r12, f, _, rfl, hr12, hf12, VasAt.of W12⟩ ⟨⟨hok.1, hok.2.1, w1⟩, by simp only [Va.siz]; omega, by simp only [Va.dep]; omega⟩
theorem turn_zero {k : Nat} (Z : Defs K mg) : FnOk P w K mg base CX0 (k + 1) Z.fLawTurned Z.fdLawTurned ["state", "value"] (spTurn 0) := by
  have no : ∀ {v : Va}, ¬ v.dep ≤ 0 := fun {v} h => by have := dep_pos v; omega
  refine Z.DLawTurned.F.ok scLawTurned (fun vs H Q E h => ?_) (fun cdv A outer s H vs Q E hr h => ?_)
  · obtain ⟨p, q, ns, x, v, rfl, _⟩ := h
    rfl
  · obtain ⟨p, q, ns, x, v, rfl, hS, hx, hv, qq⟩ := h
    exact absurd hv.dep no
theorem ok_turned {k : Nat} (Z : Defs K mg) (GLawNext : FnOk P w K mg base CX0 1 Z.fLawNext Z.fdLawNext ["state", "limit"] spNext) : ∀ n, FnOk P w K mg base CX0 (k + n + 1) Z.fLawTurned Z.fdLawTurned ["state", "value"] (spTurn n)
  | 0 => turn_zero Z
  | n + 1 => turn_step (by omega) Z GLawNext (ok_turned Z GLawNext n)
end
end Q25
namespace Q25
open PySem PySem.Spec PyProof.Rows L2 SX HL
theorem join_lens {c : Nat} : ∀ ts : List Str, (ts.map (·.length)).sum + ts.length ≤ (PySem.Str.join ⟨#[c]⟩ ts).length + 1
  | [] => Nat.zero_le _
  | [x] => by
    show x.length + 0 + 1 ≤ x.length + 1
    omega
  | x :: y :: r => by
    have ih := join_lens (c := c) (y :: r)
    show _ ≤ (x ++ ⟨#[c]⟩ ++ PySem.Str.join ⟨#[c]⟩ (y :: r)).length + 1
    rw [len_app, len_app]
    have e : (⟨#[c]⟩ : Str).length = 1 := rfl
    rw [List.map_cons, List.sum_cons, List.length_cons]
    omega
theorem split_lens (z : Str) : ((PySem.Txt.split z "'").map (·.length)).sum + (PySem.Txt.split z "'").length ≤ z.length + 1 := by
  have h := join_lens (c := 39) (PySem.Txt.split z "'")
  have e := PySem.StrLaws.join_split z "'"
  have e2 : (PySem.Str.join ⟨#[39]⟩ (PySem.Txt.split z "'")).length = z.length := congrArg PySem.Str.length e
  omega
theorem q2_join (z : Str) : PySem.Txt.join "''" (PySem.Txt.split z "'") = q2 z := by
  have h : q2 z = PySem.Str.join ⟨#[39, 39]⟩ (PySem.Txt.split z ⟨#[39]⟩) := PySem.StrLaws.replace_one z ⟨#[39, 39]⟩ 39
  rw [h]
  show PySem.Builtin.Str.glued _ _ = _
  rw [StrLaws.glued_eq_join]
  rfl
section
variable {P : Program} {w : World} {K : PySem.W.Frag} {mg : Str → Option Value} {base : Heap}
def spLw (n : Nat) : Sp := fun vs H Q _ => ∃ (x : V) (v : Va), vs = [x] ∧ VaAt H v x ∧ v.ok BB ∧ v.siz ≤ 8000 ∧ v.dep ≤ n ∧ ∀ H', Same H H' → Q (.str v.wr) H'
theorem lw_step {k n : Nat} (hk : 1 ≤ k) (Z : Defs K mg) (GLawParts : FnOk P w K mg base CX0 1 Z.fLawParts Z.fdLawParts ["value"] spInner) (GLawWritten : FnOk P w K mg base CX0 k Z.fLawWritten Z.fdLawWritten ["value"] (spLw n)) : FnOk P w K mg base CX0 (k + 1) Z.fLawWritten Z.fdLawWritten ["value"] (spLw (n + 1)) := by
  refine Z.DLawWritten.F.ok scLawWritten (fun vs H Q E h => ?_) (fun cdv A outer s H vs Q E hr h => ?_)
  · obtain ⟨x, v, rfl, _⟩ := h
    rfl
  · obtain ⟨x, v, rfl, hx, hok, hsz, hdp, qq⟩ := h
    refine ⟨_, (pss_cons (ps_if (pt_val (pe_callB call_isB (by rfl) Z.isinstance HL.boot_isinstance (pa_cons (pv 0) (pa_cons (pe_bltn (v := .ty "bool") (by rfl) Z.bool HL.boot_bool rfl) pa_nil)))) (pss_one (ps_ret (pe_ix ix_list (pe_lst (pa_cons pe_str (pa_cons pe_str pa_nil))) (pe_callTy call_int1 (by rfl) Z.int HL.boot_int (pa_cons (pv 0) pa_nil)) (fun _ _ => rfl)))) pss_nil)
        (pss_cons (ps_if (pt_val (pe_callB call_isB (by rfl) Z.isinstance HL.boot_isinstance (pa_cons (pv 0) (pa_cons (pe_bltn (v := .ty "int") (by rfl) Z.int HL.boot_int rfl) pa_nil)))) (pss_one (ps_ret (pe_callTy call_str_int (by rfl) Z.str HL.boot_str (pa_cons (pv 0) pa_nil)))) pss_nil)
        (pss_cons (ps_if (pt_val (pe_callB call_isB (by rfl) Z.isinstance HL.boot_isinstance (pa_cons (pv 0) (pa_cons (pe_bltn (v := .ty "str") (by rfl) Z.str HL.boot_str rfl) pa_nil)))) (pss_one (ps_ret (pe_op op_add_str (pe_op op_add_str pe_str (pe_join pe_str (pe_split (pv 0) pe_str))) pe_str))) pss_nil)
        (pss_cons (ps_set (i := 1) scLawWritten.nd rfl (.inl rfl) (pe_join pe_str (pe_lc (own := [("part", 2)]) (g := (gName 2)) (by rfl) scLawWritten.nd (HK.pi_tupK (K := K) rfl (pe_call GLawParts (hr.mono (by omega)) (by rfl) Z.DLawParts.g Z.DLawParts.F.kp Z.DLawParts.b .nil pass0 (pa_cons (pv 0) pa_nil))) (blkOk_by (own := [("part", 2)]) (N := ["value", "inner_v", "part"]) (sc := defScope sLawWritten) (by decide +kernel)) (fun _ _ _ _ _ => (pg_name (i := 2) scLawWritten.nd rfl (Or.inl rfl))) (fun _ _ _ _ _ => pts_nil) (fun _ _ _ _ _ => (pe_call GLawWritten (hr.mono (by omega)) (by rfl) Z.DLawWritten.g Z.DLawWritten.F.kp Z.DLawWritten.b .nil pass0 (pa_cons (pv 2) pa_nil))))))
        (pss_cons (ps_if (pt_cmpR op_eq (pe_ix ix_tup (pv 0) pe_int (fun _ _ => rfl)) pe_str (nomark _)) (pss_one (ps_ret (pe_op op_add_str (pe_op op_add_str pe_str (pv 1)) pe_str))) pss_nil)
        (pss_cons (ps_if (pt_cmpR (op_eqNil hr.units) (pe_call GLawParts (hr.mono (by omega)) (by rfl) Z.DLawParts.g Z.DLawParts.F.kp Z.DLawParts.b .nil pass0 (pa_cons (pv 0) pa_nil)) (pe_tup pa_nil) (nomark _)) (pss_one (ps_ret (pe_ix ix_tup (pv 0) pe_int (fun _ _ => rfl)))) pss_nil)
        (pss_one (ps_ret (pe_op op_add_str (pe_op op_add_str (pe_op op_add_str (pe_ix ix_tup (pv 0) pe_int (fun _ _ => rfl)) pe_str) (pv 1)) pe_str))))))))), ?_⟩
    have big : 16777216 ≤ sizeLine := by decide +kernel
    have hwl := wr_len hok
    cases v with
    | bl b =>
      obtain rfl : x = _ := hx
      refine ⟨_, rfl, _, "bool", "bool", true, rfl, .base (.bl b), by decide +kernel, true, rfl, iteT ⟨by show 2 ≤ sizeLine; decide, fun L hL => ⟨_, rfl, .inr ⟨b, rfl, ?_⟩⟩⟩⟩
      have s1 := same_upd (o := .lst [.str "false", .str "true"]) hL
      cases b with
      | true => exact ⟨L, _, 1, .str "true", rfl, rfl, SqL.of upd_same, rfl, qq _ s1⟩
      | false => exact ⟨L, _, 0, .str "false", rfl, rfl, SqL.of upd_same, rfl, qq _ s1⟩
    | num i =>
      obtain rfl : x = _ := hx
      exact ⟨_, rfl, _, "int", "bool", false, rfl, .base (.int i), by decide +kernel, false, rfl, iteF ⟨_, rfl, _, "int", "int", true, rfl, .base (.int i), by decide +kernel, true, rfl, iteT ⟨_, rfl, i, rfl, bb_log hok, qq H (Same.refl H)⟩⟩⟩
    | txt z =>
      obtain rfl : x = _ := hx
      simp only [Va.siz] at hsz
      have e1 : ("'" : Str).length = 1 := by decide +kernel
      have e2 : ("''" : Str).length = 2 := by decide +kernel
      have h1 := q2_len z
      have h2 := split_lens z
      refine ⟨_, rfl, _, "str", "bool", false, rfl, .base (.str z), by decide +kernel, false, rfl, iteF ⟨_, rfl, _, "str", "int", false, rfl, .base (.str z), by decide +kernel, false, rfl, iteF ⟨_, rfl, _, "str", "str", true, rfl, .base (.str z), by decide +kernel, true, rfl, iteT ?_⟩⟩⟩
      refine ⟨⟨_, rfl⟩, _, rfl, ⟨_, rfl⟩, z, "'", rfl, rfl, by decide +kernel, by omega, fun L hL => ?_⟩
      have s1 := same_upd (o := .lst ((PySem.Txt.split z "'").map V.str)) hL
      refine ⟨"''", L, PySem.Txt.split z "'", rfl, rfl, .inl (SqL.of upd_same), by rw [e2]; omega, ?_⟩
      rw [q2_join]
      exact ⟨_, _, rfl, rfl, by omega, _, _, rfl, rfl, by rw [len_app]; omega, qq _ s1⟩
    | lst vs =>
      have hx0 := hx
      obtain ⟨t, q0, us0, rfl, h1, h2, h3⟩ := hx
      refine ⟨_, rfl, _, "tuple", "bool", false, rfl, .base (.tup h1), by decide +kernel, false, rfl, iteF ?_⟩
      refine ⟨_, rfl, _, "tuple", "int", false, rfl, .base (.tup h1), by decide +kernel, false, rfl, iteF ?_⟩
      refine ⟨_, rfl, _, "tuple", "str", false, rfl, .base (.tup h1), by decide +kernel, false, rfl, iteF ?_⟩
      have z1 := parts_siz (.lst vs)
      have z2 := parts_dep (.lst vs)
      have hoks : oks BB vs := hok
      simp only [Va.parts] at z1 z2
      refine ⟨⟨_, rfl⟩, _, rfl, .ref t, .lst vs, rfl, hx0, fun H1 q us s1 hq hv => ⟨q, rfl, ⟨us, SqT.of hq⟩, fun D hD => ?_⟩⟩
      have hv : ItAt H1 us vs := hv.all
      have hl := hv.len
      have hl2 := sizs_len vs
      have sD := same_upd (o := .lst []) hD
      refine lc_it walk_tup (fun i H2 => Same H1 H2 ∧ H2 D = some (.lst ((wrs (vs.take i)).map V.str))) ⟨sD, upd_same⟩ (fun i H2 _ p => SqT.of (p.1 _ _ hq)) ?_ ?_
      · rintro i u H2 H2' hi ⟨s2, hD2⟩ ⟨rfl, hx1⟩
        obtain ⟨p, hp, hup⟩ := All2.get hv hx1
        have hup : VaAt H1 p u := hup
        have hm := List.mem_of_getElem? hp
        have e1 := siz_mem hm
        have e2 := dep_mem hm
        refine ⟨rfl, lc_yes ⟨_, rfl, u, p, rfl, hup.keep (TupK.of s2), oks_all hoks p hm, by omega, by omega, fun H3 s3 => ?_⟩⟩
        refine ⟨_, s3 _ _ hD2, by rw [List.length_map, wrs_map, List.length_map, List.length_take]; omega, ?_⟩
        refine ⟨same_up (Same.tr s2 s3) hD, ?_⟩
        rw [upd_same, wrs_map, wrs_map, List.take_add_one, hp, List.map_append, List.map_append]
        rfl
      · rintro H2 ⟨s2, hD2⟩
        rw [hl, List.take_length] at hD2
        have hb := wrs_len hoks
        have h4 : (wrs vs).length = vs.length := by rw [wrs_map, List.length_map]
        have e : (", " : Str).length = 2 := by decide +kernel
        have s12 := Same.tr s1 s2
        refine ⟨_, D, wrs vs, rfl, rfl, .inl (SqL.of hD2), by rw [e, h4]; omega, ?_⟩
        refine ⟨_, rfl, t, _, 0, .str "list", rfl, rfl, SqT.of (s12 _ _ h1), rfl, rfl, _, rfl, iteYes (by decide +kernel) ?_⟩
        have hl' : ("[" ++ PySem.Txt.join ", " (wrs vs) ++ "]" : Str).length + 2 ≤ 1930 * (Va.lst vs).siz := hwl
        rw [len_app, len_app] at hl'
        exact ⟨_, rfl, _, _, rfl, rfl, by omega, _, _, rfl, rfl, by rw [len_app]; omega, qq H2 s12⟩
    | mk m vs =>
      have hx0 := hx
      obtain ⟨t, q0, us0, rfl, h1, h2, h3⟩ := hx
      refine ⟨_, rfl, _, "tuple", "bool", false, rfl, .base (.tup h1), by decide +kernel, false, rfl, iteF ?_⟩
      refine ⟨_, rfl, _, "tuple", "int", false, rfl, .base (.tup h1), by decide +kernel, false, rfl, iteF ?_⟩
      refine ⟨_, rfl, _, "tuple", "str", false, rfl, .base (.tup h1), by decide +kernel, false, rfl, iteF ?_⟩
      have z1 := parts_siz (.mk m vs)
      have z2 := parts_dep (.mk m vs)
      have hoks : oks BB vs := hok.2.2
      simp only [Va.parts] at z1 z2
      refine ⟨⟨_, rfl⟩, _, rfl, .ref t, .mk m vs, rfl, hx0, fun H1 q us s1 hq hv => ⟨q, rfl, ⟨us, SqT.of hq⟩, fun D hD => ?_⟩⟩
      have hv : ItAt H1 us vs := hv.all
      have hl := hv.len
      have hl2 := sizs_len vs
      have sD := same_upd (o := .lst []) hD
      refine lc_it walk_tup (fun i H2 => Same H1 H2 ∧ H2 D = some (.lst ((wrs (vs.take i)).map V.str))) ⟨sD, upd_same⟩ (fun i H2 _ p => SqT.of (p.1 _ _ hq)) ?_ ?_
      · rintro i u H2 H2' hi ⟨s2, hD2⟩ ⟨rfl, hx1⟩
        obtain ⟨p, hp, hup⟩ := All2.get hv hx1
        have hup : VaAt H1 p u := hup
        have hm := List.mem_of_getElem? hp
        have e1 := siz_mem hm
        have e2 := dep_mem hm
        refine ⟨rfl, lc_yes ⟨_, rfl, u, p, rfl, hup.keep (TupK.of s2), oks_all hoks p hm, by omega, by omega, fun H3 s3 => ?_⟩⟩
        refine ⟨_, s3 _ _ hD2, by rw [List.length_map, wrs_map, List.length_map, List.length_take]; omega, ?_⟩
        refine ⟨same_up (Same.tr s2 s3) hD, ?_⟩
        rw [upd_same, wrs_map, wrs_map, List.take_add_one, hp, List.map_append, List.map_append]
        rfl
      · rintro H2 ⟨s2, hD2⟩
        rw [hl, List.take_length] at hD2
        have hb := wrs_len hoks
        have h4 : (wrs vs).length = vs.length := by rw [wrs_map, List.length_map]
        have e : (", " : Str).length = 2 := by decide +kernel
        have s12 := Same.tr s1 s2
        refine ⟨_, D, wrs vs, rfl, rfl, .inl (SqL.of hD2), by rw [e, h4]; omega, ?_⟩
        refine ⟨_, rfl, t, _, 0, .str "make", rfl, rfl, SqT.of (s12 _ _ h1), rfl, rfl, _, rfl, iteNo (by decide +kernel) ?_⟩
        refine ⟨_, rfl, .ref t, .mk m vs, rfl, hx0.keep (TupK.of s12), fun H4 q4 us4 s4 hq4 hv4 => ⟨by show 0 ≤ sizeLine; decide, fun e0 he0 => ?_⟩⟩
        have se := same_upd (o := .tup []) he0
        have ge : L2.upd H4 e0 (.tup []) e0 = some (.tup []) := upd_same
        generalize L2.upd H4 e0 (.tup []) = H5 at *
        have s5 : Same H H5 := Same.tr s12 (Same.tr s4 se)
        have hv4 : ItAt H4 us4 vs := hv4.all
        have hv5 := ItAt.keep (TupK.of se) hv4
        refine ⟨q4, e0, us4, _, rfl, rfl, SqT.of (se _ _ hq4), SqT.of ge, (VasAt.of hv5).dp, can_vs hoks, _, rfl, ?_⟩
        cases vs with
        | nil =>
          cases hv5
          exact iteYes rfl ⟨_, rfl, t, _, 1, .str m, rfl, rfl, SqT.of (s5 _ _ h1), rfl, qq H5 s5⟩
        | cons p r =>
          cases hv5
          refine iteNo (fun h => (by cases h)) ?_
          have hl' : (m ++ "(" ++ PySem.Txt.join ", " (wrs (p :: r)) ++ ")" : Str).length + 2 ≤ 1930 * (Va.mk m (p :: r)).siz := hwl
          rw [len_app, len_app, len_app] at hl'
          exact ⟨_, rfl, t, _, 1, .str m, rfl, rfl, SqT.of (s5 _ _ h1), rfl, _, _, rfl, rfl, by omega, _, rfl, _, _, rfl, rfl, by rw [len_app]; omega, _, _, rfl, rfl, by rw [len_app, len_app]; omega, qq H5 s5⟩
theorem lw_zero {k : Nat} (Z : Defs K mg) : FnOk P w K mg base CX0 (k + 1) Z.fLawWritten Z.fdLawWritten ["value"] (spLw 0) := by
  have no : ∀ {v : Va}, ¬ v.dep ≤ 0 := fun {v} h => by have := dep_pos v; omega
  refine Z.DLawWritten.F.ok scLawWritten (fun vs H Q E h => ?_) (fun cdv A outer s H vs Q E hr h => ?_)
  · obtain ⟨x, v, rfl, _⟩ := h
    rfl
  · obtain ⟨x, v, rfl, hx, hok, hsz, hdp, qq⟩ := h
    exact absurd hdp no
theorem ok_lw {k : Nat} (Z : Defs K mg) (GLawParts : FnOk P w K mg base CX0 1 Z.fLawParts Z.fdLawParts ["value"] spInner) : ∀ n, FnOk P w K mg base CX0 (k + n + 1) Z.fLawWritten Z.fdLawWritten ["value"] (spLw n)
  | 0 => lw_zero Z
  | n + 1 => lw_step (by omega) Z GLawParts (ok_lw Z GLawParts n)
end
end Q25
namespace Q25
open PySem PySem.Spec PyProof.Rows L2 SX HL
section
variable {P : Program} {w : World} {K : PySem.W.Frag} {mg : Str → Option Value} {base : Heap}
/-! ### _law_told -/
theorem same_num {n : Nat} {H : Hp} {Q : VK} {E : XK} (i : Int) (q : Q (.bl true) H) : spSame n [.int i, .int i] H Q E :=
  ⟨_, _, rfl, .inl ⟨.num i, .num i, rfl, rfl, Nat.zero_le _, by show 1 ≤ 9000; decide, by show 1 ≤ 9000; decide, ⟨i.natAbs, Nat.le_refl _, Nat.le_refl _⟩, fun r hr => by
    obtain rfl : r = true := hr.mpr rfl
    exact q⟩⟩
theorem same_bl {n : Nat} {H : Hp} {Q : VK} {E : XK} (b c : Bool) (q : ∀ r : Bool, (r = true ↔ b = c) → Q (.bl r) H) : spSame n [.bl b, .bl c] H Q E :=
  ⟨_, _, rfl, .inl ⟨.bl b, .bl c, rfl, rfl, Nat.zero_le _, by show 1 ≤ 9000; decide, by show 1 ≤ 9000; decide, ⟨0, trivial, trivial⟩, fun r hr => q r (hr.trans ⟨fun h => Va.bl.inj h, fun h => congrArg _ h⟩)⟩⟩
theorem same_txt {n : Nat} {H : Hp} {Q : VK} {E : XK} (z : Str) (q : Q (.bl true) H) : spSame n [.str z, .str z] H Q E :=
  ⟨_, _, rfl, .inr (.inr ⟨z, z, rfl, rfl, fun r hr => by
    obtain rfl : r = true := hr.mpr rfl
    exact q⟩)⟩
theorem VaAt.tyx2 {H H' : Hp} {v : Va} {x : V} (h : VaAt H v x) (s : Same H H') : TyX K H' x (.type v.ty) := (h.keep (TupK.of s)).tyx
def spTold : Sp := fun vs H Q _ => ∃ (x : V) (v : Va), vs = [x] ∧ VaAt H v x ∧ v.ok BB ∧ v.siz ≤ 8000 ∧ v.dep ≤ 50 ∧ ∀ H', Same H H' → Q (.bl true) H'
theorem ok_told {k : Nat} (hk : 120 ≤ k) (Z : Defs K mg) (GSize : FnOk P w K mg base CX0 2 Z.fSize Z.fdSize ["value"] spSize) (GLawSize : FnOk P w K mg base CX0 51 Z.fLawSize Z.fdLawSize ["value"] (spLz 50)) (GDepth : FnOk P w K mg base CX0 2 Z.fDepth Z.fdDepth ["value"] spDepth) (GLawDepth : FnOk P w K mg base CX0 51 Z.fLawDepth Z.fdLawDepth ["value"] (spLd 50)) (GIsLarge : FnOk P w K mg base CX0 3 Z.fIsLarge Z.fdIsLarge ["value"] spLarge) (GWriteValue : FnOk P w K mg base CX0 101 Z.fWriteValue Z.fdWriteValue ["value"] (spWv 50)) (GLawWritten : FnOk P w K mg base CX0 51 Z.fLawWritten Z.fdLawWritten ["value"] (spLw 50)) (GLawSame : FnOk P w K mg base CX0 111 Z.fLawSame Z.fdLawSame ["actual", "expected"] (spSame 110)) : FnOk P w K mg base CX0 (k + 1) Z.fLawTold Z.fdLawTold ["value"] spTold := by
  refine Z.DLawTold.F.ok scLawTold (fun vs H Q E h => ?_) (fun cdv A outer s H vs Q E hr h => ?_)
  · obtain ⟨x, v, rfl, _⟩ := h
    rfl
  · obtain ⟨x, v, rfl, hx, hok, hsz, hdp, qq⟩ := h
    refine ⟨_, (pss_cons (ps_if (PW.pt (pw_or (pt_not (pt_val (pe_call GLawSame (hr.mono (by omega)) (by rfl) Z.DLawSame.g Z.DLawSame.F.kp Z.DLawSame.b .nil pass0 (pa_cons (pe_call GSize (hr.mono (by omega)) (by rfl) Z.DSize.g Z.DSize.F.kp Z.DSize.b .nil pass0 (pa_cons (pv 0) pa_nil)) (pa_cons (pe_call GLawSize (hr.mono (by omega)) (by rfl) Z.DLawSize.g Z.DLawSize.F.kp Z.DLawSize.b .nil pass0 (pa_cons (pv 0) pa_nil)) pa_nil))))) (pw_or1 (pt_not (pt_val (pe_call GLawSame (hr.mono (by omega)) (by rfl) Z.DLawSame.g Z.DLawSame.F.kp Z.DLawSame.b .nil pass0 (pa_cons (pe_call GDepth (hr.mono (by omega)) (by rfl) Z.DDepth.g Z.DDepth.F.kp Z.DDepth.b .nil pass0 (pa_cons (pv 0) pa_nil)) (pa_cons (pe_call GLawDepth (hr.mono (by omega)) (by rfl) Z.DLawDepth.g Z.DLawDepth.F.kp Z.DLawDepth.b .nil pass0 (pa_cons (pv 0) pa_nil)) pa_nil)))))))) (pss_one (ps_ret pe_bl)) pss_nil)
        (C8.pss_cut (ps_set (i := 1) scLawTold.nd rfl (.inl rfl) (pe_or (pe_cmpR op_gt (pe_call GLawSize (hr.mono (by omega)) (by rfl) Z.DLawSize.g Z.DLawSize.F.kp Z.DLawSize.b .nil pass0 (pa_cons (pv 0) pa_nil)) pe_int (nomark _)) (pe_one (pe_cmpR op_gt (pe_call GLawDepth (hr.mono (by omega)) (by rfl) Z.DLawDepth.g Z.DLawDepth.F.kp Z.DLawDepth.b .nil pass0 (pa_cons (pv 0) pa_nil)) pe_int (nomark _)))))
        (C8.pss_cut (ps_if (PW.pt (pw_and (pt_val (pe_callB call_isB (by rfl) Z.isinstance HL.boot_isinstance (pa_cons (pv 0) (pa_cons (pe_bltn (v := .ty "int") (by rfl) Z.int HL.boot_int rfl) pa_nil)))) (pw_and1 (pt_not (pt_val (pe_callB call_isB (by rfl) Z.isinstance HL.boot_isinstance (pa_cons (pv 0) (pa_cons (pe_bltn (v := .ty "bool") (by rfl) Z.bool HL.boot_bool rfl) pa_nil)))))))) (pss_one (ps_set (i := 1) scLawTold.nd rfl (.inl rfl) (pe_not (pe_chain op_lt op_lt (pe_op op_sub pe_int (pe_op op_mul (pe_op op_pow pe_int pe_int) (pe_op op_pow pe_int pe_int))) (pv 0) (pe_op op_mul (pe_op op_pow pe_int pe_int) (pe_op op_pow pe_int pe_int)))))) pss_nil)
        (pss_one (ps_ret (pe_and (pe_call GLawSame (hr.mono (by omega)) (by rfl) Z.DLawSame.g Z.DLawSame.F.kp Z.DLawSame.b .nil pass0 (pa_cons (pe_call GIsLarge (hr.mono (by omega)) (by rfl) Z.DIsLarge.g Z.DIsLarge.F.kp Z.DIsLarge.b .nil pass0 (pa_cons (pv 0) pa_nil)) (pa_cons (pv 1) pa_nil))) (pe_one (pe_call GLawSame (hr.mono (by omega)) (by rfl) Z.DLawSame.g Z.DLawSame.F.kp Z.DLawSame.b .nil pass0 (pa_cons (pe_call GWriteValue (hr.mono (by omega)) (by rfl) Z.DWriteValue.g Z.DWriteValue.F.kp Z.DWriteValue.b .nil pass0 (pa_cons (pv 0) pa_nil)) (pa_cons (pe_call GLawWritten (hr.mono (by omega)) (by rfl) Z.DLawWritten.g Z.DLawWritten.F.kp Z.DLawWritten.b .nil pass0 (pa_cons (pv 0) pa_nil)) pa_nil)))))))))), ?_⟩
    have hx' : ∀ {H'}, Same H H' → VaAt H' v x := fun s => hx.keep (TupK.of s)
    refine ⟨_, rfl, x, v, rfl, hx, by omega, fun H1 s1 => ⟨_, rfl, x, v, rfl, hx' s1, by omega, hdp, fun H2 s2 => ⟨_, _, rfl, .inl ⟨.num (v.siz : Nat), .num (v.siz : Nat), rfl, rfl, Nat.zero_le _, by show 1 ≤ 9000; decide, by show 1 ≤ 9000; decide, ⟨_, Nat.le_refl _, Nat.le_refl _⟩, fun r hr => ?_⟩⟩⟩⟩
    obtain rfl : r = true := hr.mpr rfl
    have s2 := Same.tr s1 s2
    refine ⟨true, rfl, ?_⟩
    refine iteF ⟨_, rfl, x, v, rfl, hx' s2, by omega, fun H3 s3 => ⟨_, rfl, x, v, rfl, hx' (Same.tr s2 s3), by omega, hdp, fun H4 s4 => ⟨_, _, rfl, .inl ⟨.num (v.dep : Nat), .num (v.dep : Nat), rfl, rfl, Nat.zero_le _, by show 1 ≤ 9000; decide, by show 1 ≤ 9000; decide, ⟨_, Nat.le_refl _, Nat.le_refl _⟩, fun r hr => ?_⟩⟩⟩⟩
    obtain rfl : r = true := hr.mpr rfl
    have s4 := Same.tr s2 (Same.tr s3 s4)
    refine ⟨true, rfl, ?_⟩
    refine iteF ⟨fun σ' H' => ∃ r : Bool, σ' = [some x, some (.bl r)] ∧ Same H H' ∧ (r = true ↔ 1000 < v.siz ∨ 40 < v.dep), ?_, ?_⟩
    · refine ⟨_, rfl, x, v, rfl, hx' s4, by omega, hdp, fun H5 s5 => ⟨_, _, rfl, rfl, _, rfl, ite2 (fun e => ?_) (fun e => ?_)⟩⟩
      · have e : (1000 : Int) < (v.siz : Nat) := of_decide_eq_true e
        exact ⟨true, rfl, Same.tr s4 s5, fun _ => .inl (by omega), fun _ => rfl⟩
      · have e : ¬ (1000 : Int) < (v.siz : Nat) := fun z => e (decide_eq_true z)
        have s5 := Same.tr s4 s5
        refine ⟨_, rfl, x, v, rfl, hx' s5, by omega, hdp, fun H6 s6 => ⟨_, _, rfl, rfl, _, rfl, Same.tr s5 s6, ?_⟩⟩
        simp only [decide_eq_true_eq]
        omega
    rintro σ' H5 ⟨r5, rfl, s5, hr5⟩
    refine ⟨fun σ' H' => ∃ r : Bool, σ' = [some x, some (.bl r)] ∧ H' = H5 ∧ (r = true ↔ v.large), ?_, ?_⟩
    · cases v with
      | bl b =>
        obtain rfl : x = _ := hx
        exact ⟨_, rfl, _, "bool", "int", true, rfl, .base (.bl b), by decide +kernel, true, rfl, iteT ⟨_, rfl, _, "bool", "bool", true, rfl, .base (.bl b), by decide +kernel, true, rfl, iteF ⟨r5, rfl, rfl, hr5⟩⟩⟩
      | num i =>
        obtain rfl : x = _ := hx
        refine ⟨_, rfl, _, "int", "int", true, rfl, .base (.int i), by decide +kernel, true, rfl, iteT ⟨_, rfl, _, "int", "bool", false, rfl, .base (.int i), by decide +kernel, false, rfl, iteT ?_⟩⟩
        have ep : (2 : Int) ^ (50 : Int).toNat * (2 : Int) ^ (50 : Int).toNat = 1267650600228229401496703205376 := by decide +kernel
        have el : (Va.num i).large ↔ 1267650600228229401496703205376 ≤ i.natAbs := Iff.rfl
        refine ⟨_, _, rfl, rfl, ⟨by decide, by decide, by decide⟩, _, _, rfl, rfl, ⟨by decide, by decide, by decide⟩, _, _, rfl, rfl, .inl ⟨by decide +kernel, by decide +kernel⟩, _, _, rfl, rfl, _, rfl, _, _, rfl, rfl, _, rfl, ite2 (fun e => ?_) (fun e => ?_)⟩
        · have e : (0 : Int) - (2 : Int) ^ (50 : Int).toNat * (2 : Int) ^ (50 : Int).toNat < i := of_decide_eq_true e
          rw [ep] at e
          refine ⟨_, _, rfl, rfl, ⟨by decide, by decide, by decide⟩, _, _, rfl, rfl, ⟨by decide, by decide, by decide⟩, _, _, rfl, rfl, .inl ⟨by decide +kernel, by decide +kernel⟩, _, _, rfl, rfl, _, rfl, _, rfl, rfl, ?_⟩
          rw [el, ep]
          simp only [Bool.not_eq_true', decide_eq_false_iff_not]
          omega
        · have e : ¬ (0 : Int) - (2 : Int) ^ (50 : Int).toNat * (2 : Int) ^ (50 : Int).toNat < i := fun z => e (decide_eq_true z)
          rw [ep] at e
          refine ⟨_, rfl, _, rfl, rfl, ?_⟩
          rw [el]
          simp only [Bool.not_false, true_iff]
          omega
      | txt z =>
        obtain rfl : x = _ := hx
        exact ⟨_, rfl, _, "str", "int", false, rfl, .base (.str z), by decide +kernel, false, rfl, iteF (iteF ⟨r5, rfl, rfl, hr5⟩)⟩
      | lst vs => exact ⟨_, rfl, _, "tuple", "int", false, rfl, hx.tyx2 s5, by decide +kernel, false, rfl, iteF (iteF ⟨r5, rfl, rfl, hr5⟩)⟩
      | mk m vs => exact ⟨_, rfl, _, "tuple", "int", false, rfl, hx.tyx2 s5, by decide +kernel, false, rfl, iteF (iteF ⟨r5, rfl, rfl, hr5⟩)⟩
    · rintro σ' H6 ⟨r6, rfl, rfl, hr6⟩
      refine ⟨_, rfl, x, v, rfl, hx' s5, by omega, fun H7 r7 s7 hr7 => ⟨_, rfl, _, _, rfl, .inl ⟨.bl r7, .bl r6, rfl, rfl, Nat.zero_le _, by show 1 ≤ 9000; decide, by show 1 ≤ 9000; decide, ⟨0, trivial, trivial⟩, fun r hr => ?_⟩⟩⟩
      have e67 : r7 = r6 := by
        rw [Bool.eq_iff_iff, hr6, hr7]
      obtain rfl : r = true := hr.mpr (by rw [e67])
      have s7 := Same.tr s5 s7
      refine ⟨true, rfl, iteT ?_⟩
      refine ⟨_, rfl, x, v, rfl, hx' s7, hok, hsz, hdp, fun H8 s8 => ⟨_, rfl, x, v, rfl, hx' (Same.tr s7 s8), hok, hsz, hdp, fun H9 s9 => ⟨_, _, rfl, .inr (.inr ⟨_, _, rfl, rfl, fun r hr => ?_⟩)⟩⟩⟩
      obtain rfl : r = true := hr.mpr rfl
      exact qq H9 (Same.tr s7 (Same.tr s8 s9))
end
end Q25
namespace Q25
open PySem PySem.Spec PyProof.Rows L2 SX HL
section
variable {P : Program} {w : World} {K : PySem.W.Frag} {mg : Str → Option Value} {base : Heap}
/-! ### law -/
theorem nd_dep {v : Va} (h : v.dep ≤ 50) : v.nd ≤ 110 := by
  have := nd_le v
  omega
def spLaw (K : PySem.W.Frag) : Sp := fun vs H Q _ => ∃ (a : Addr) (ns : List Int), vs = [.ref a] ∧ SqL K H a (ns.map V.int) ∧ ns.length ≤ 63 ∧ ∀ H', Q (.bl true) H'
theorem ok_law (Z : Defs K mg) : FnOk P w K mg base CX0 130 Z.fLaw Z.fdLaw ["script"] (spLaw K) := by
  have GLawNext : FnOk P w K mg base CX0 1 Z.fLawNext Z.fdLawNext ["state", "limit"] spNext := ok_next Z
  have GLawChar : FnOk P w K mg base CX0 1 Z.fLawChar Z.fdLawChar ["index"] spChar := ok_char Z
  have GLawScalar : FnOk P w K mg base CX0 2 Z.fLawScalar Z.fdLawScalar ["state"] spScalar := ok_scalar (Nat.le_refl _) Z GLawNext GLawChar
  have GLawValue : FnOk P w K mg base CX0 7 Z.fLawValue Z.fdLawValue ["state", "levels"] (spVal 5) := ok_value (k := 0) Z GLawNext GLawScalar 4
  have GLawGreat : FnOk P w K mg base CX0 3 Z.fLawGreat Z.fdLawGreat ["state"] spGreat := ok_great (k := 2) (by decide) Z GLawNext
  have GLawTurned : FnOk P w K mg base CX0 51 Z.fLawTurned Z.fdLawTurned ["state", "value"] (spTurn 50) := ok_turned (k := 0) Z GLawNext 50
  have GForm : FnOk P w K mg base CX0 1 Z.fForm Z.fdForm ["value"] spForm := ok_form Z
  have GInner : FnOk P w K mg base CX0 1 Z.fInner Z.fdInner ["value"] spInner := ok_inner Z
  have GBare : FnOk P w K mg base CX0 1 Z.fBare Z.fdBare ["value"] spBare := ok_bare Z
  have GSame : FnOk P w K mg base CX0 2 Z.fSame Z.fdSame ["first", "second"] spSameV := ok_sameV Z GForm GInner GBare
  have GSize : FnOk P w K mg base CX0 2 Z.fSize Z.fdSize ["value"] spSize := ok_size Z GInner
  have GDepth : FnOk P w K mg base CX0 2 Z.fDepth Z.fdDepth ["value"] spDepth := ok_depth Z GInner
  have GIsLarge : FnOk P w K mg base CX0 3 Z.fIsLarge Z.fdIsLarge ["value"] spLarge := ok_large Z (GForm.mono (by omega)) GSize GDepth
  have GWriteValue : FnOk P w K mg base CX0 101 Z.fWriteValue Z.fdWriteValue ["value"] (spWv 50) := ok_wv (k := 0) Z GForm 50
  have GLawParts : FnOk P w K mg base CX0 1 Z.fLawParts Z.fdLawParts ["value"] spInner := ok_parts Z
  have GLawSize : FnOk P w K mg base CX0 51 Z.fLawSize Z.fdLawSize ["value"] (spLz 50) := ok_lz (k := 0) Z GLawParts 50
  have GLawDepth : FnOk P w K mg base CX0 51 Z.fLawDepth Z.fdLawDepth ["value"] (spLd 50) := ok_ld (k := 0) Z GLawParts 50
  have GLawWritten : FnOk P w K mg base CX0 51 Z.fLawWritten Z.fdLawWritten ["value"] (spLw 50) := ok_lw (k := 0) Z GLawParts 50
  have GLawSame : FnOk P w K mg base CX0 111 Z.fLawSame Z.fdLawSame ["actual", "expected"] (spSame 110) := ok_same (k := 0) Z 110
  have GLawTold : FnOk P w K mg base CX0 121 Z.fLawTold Z.fdLawTold ["value"] spTold := ok_told (k := 120) (Nat.le_refl _) Z GSize GLawSize GDepth GLawDepth GIsLarge GWriteValue GLawWritten GLawSame
  refine Z.DLaw.F.ok scLaw (fun vs H Q E h => ?_) (fun cdv A outer s H vs Q E hr h => ?_)
  · obtain ⟨a, xs, rfl, _⟩ := h
    rfl
  · obtain ⟨a, xs, rfl, hS, hl, qq⟩ := h
    refine ⟨_, (pss_cons (ps_set (i := 1) scLaw.nd rfl (.inl rfl) (pe_lst (pa_cons (pe_callTy call_list_of (by rfl) Z.list HL.boot_list (pa_cons (pv 0) pa_nil)) (pa_cons pe_int (pa_cons pe_int (pa_cons pe_int pa_nil))))))
        (pss_cons (ps_set (i := 2) scLaw.nd rfl (.inl rfl) (pe_call GLawValue (hr.mono (by omega)) (by rfl) Z.DLawValue.g Z.DLawValue.F.kp Z.DLawValue.b .nil pass0 (pa_cons (pv 1) (pa_cons pe_int pa_nil))))
        (C8.pss_cut (ps_if (pt_cmpR op_eq (pe_call GLawNext (hr.mono (by omega)) (by rfl) Z.DLawNext.g Z.DLawNext.F.kp Z.DLawNext.b .nil pass0 (pa_cons (pv 1) (pa_cons pe_int pa_nil))) pe_int (nomark _)) (pss_one (ps_set (i := 2) scLaw.nd rfl (.inl rfl) (pe_call GLawGreat (hr.mono (by omega)) (by rfl) Z.DLawGreat.g Z.DLawGreat.F.kp Z.DLawGreat.b .nil pass0 (pa_cons (pv 1) pa_nil)))) pss_nil)
        (C8.pss_cut (ps_if (pt_cmpR op_eq (pe_call GLawNext (hr.mono (by omega)) (by rfl) Z.DLawNext.g Z.DLawNext.F.kp Z.DLawNext.b .nil pass0 (pa_cons (pv 1) (pa_cons pe_int pa_nil))) pe_int (nomark _)) (pss_one (ps_set (i := 2) scLaw.nd rfl (.inl rfl) (pe_tup (pa_cons pe_str (pa_cons (pe_tup (pa_cons (pv 2) pa_nil)) pa_nil))))) pss_nil)
        (pss_cons (ps_set (i := 3) scLaw.nd rfl (.inl rfl) (pe_call GLawValue (hr.mono (by omega)) (by rfl) Z.DLawValue.g Z.DLawValue.F.kp Z.DLawValue.b .nil pass0 (pa_cons (pv 1) (pa_cons pe_int pa_nil))))
        (pss_cons (ps_set (i := 4) scLaw.nd rfl (.inl rfl) (pe_call GLawNext (hr.mono (by omega)) (by rfl) Z.DLawNext.g Z.DLawNext.F.kp Z.DLawNext.b .nil pass0 (pa_cons (pv 1) (pa_cons pe_int pa_nil))))
        (C8.pss_cut (ps_if (pt_cmpR op_eq (pv 4) pe_int (nomark _)) (pss_one (ps_set (i := 3) scLaw.nd rfl (.inl rfl) (pv 2))) (pss_one (ps_if (pt_cmpR op_lt (pv 4) pe_int (nomark _)) (pss_one (ps_set (i := 3) scLaw.nd rfl (.inl rfl) (pe_call GLawTurned (hr.mono (by omega)) (by rfl) Z.DLawTurned.g Z.DLawTurned.F.kp Z.DLawTurned.b .nil pass0 (pa_cons (pv 1) (pa_cons (pv 2) pa_nil))))) pss_nil)))
        (pss_cons (ps_if (PW.pt (pw_or (pt_not (pt_val (pe_call GLawTold (hr.mono (by omega)) (by rfl) Z.DLawTold.g Z.DLawTold.F.kp Z.DLawTold.b .nil pass0 (pa_cons (pv 2) pa_nil)))) (pw_or1 (pt_not (pt_val (pe_call GLawTold (hr.mono (by omega)) (by rfl) Z.DLawTold.g Z.DLawTold.F.kp Z.DLawTold.b .nil pass0 (pa_cons (pv 3) pa_nil))))))) (pss_one (ps_ret pe_bl)) pss_nil)
        (C8.pss_cut (ps_set (i := 5) scLaw.nd rfl (.inl rfl) (pe_and (pe_call GLawSame (hr.mono (by omega)) (by rfl) Z.DLawSame.g Z.DLawSame.F.kp Z.DLawSame.b .nil pass0 (pa_cons (pv 2) (pa_cons (pv 3) pa_nil))) (pe_one (pe_call GLawSame (hr.mono (by omega)) (by rfl) Z.DLawSame.g Z.DLawSame.F.kp Z.DLawSame.b .nil pass0 (pa_cons (pv 3) (pa_cons (pv 2) pa_nil))))))
        (pss_one (ps_ret (pe_and (pe_call GLawSame (hr.mono (by omega)) (by rfl) Z.DLawSame.g Z.DLawSame.F.kp Z.DLawSame.b .nil pass0 (pa_cons (pe_call GSame (hr.mono (by omega)) (by rfl) Z.DSame.g Z.DSame.F.kp Z.DSame.b .nil pass0 (pa_cons (pv 2) (pa_cons (pv 3) pa_nil))) (pa_cons (pv 5) pa_nil))) (pe_one (pe_call GLawSame (hr.mono (by omega)) (by rfl) Z.DLawSame.g Z.DLawSame.F.kp Z.DLawSame.b .nil pass0 (pa_cons (pe_call GSame (hr.mono (by omega)) (by rfl) Z.DSame.g Z.DSame.F.kp Z.DSame.b .nil pass0 (pa_cons (pv 3) (pa_cons (pv 2) pa_nil))) (pa_cons (pv 5) pa_nil)))))))))))))))), ?_⟩
    have hcb : C1 ≤ BB := by decide +kernel
    refine ⟨_, rfl, a, _, rfl, .inl hS, fun q hq => ⟨by show 4 ≤ sizeLine; decide, fun p hp => ?_⟩⟩
    have gq0 : L2.upd H q (.lst (xs.map V.int)) q = some (.lst (xs.map V.int)) := upd_same
    generalize L2.upd H q (.lst (xs.map V.int)) = H1 at gq0 hp
    have S2 : StAt (L2.upd H1 p (.lst [.ref q, .int 0, .int 0, .int 1])) p q xs := ⟨by rw [upd_ne (ne_of_none gq0 hp)]; exact gq0, hl, 0, 0, 1, upd_same, by decide, by decide, by decide, by decide⟩
    show _
    generalize L2.upd H1 p (.lst [.ref q, .int 0, .int 0, .int 1]) = H2 at S2
    refine ⟨_, rfl, p, q, xs, rfl, S2, fun H3 x v S3 k3 hx hv => ?_⟩
    -- first
    refine ⟨fun σ' H' => ∃ x v, σ' = [some (.ref a), some (.ref p), some x, none, none, none] ∧ StAt H' p q xs ∧ VaAt H' v x ∧ Val C1 1100 44 v, ?_, ?_⟩
    · refine ⟨_, rfl, p, q, xs, 4, rfl, S3, by decide, by decide, fun H4 v4 S4 b4 h40 h41 => ⟨rfl, _, rfl, ite2 (fun e => ?_) (fun e => ?_)⟩⟩
      · exact ⟨_, rfl, p, q, xs, rfl, S4, fun H5 y u S5 k5 hy hu => ⟨y, u, rfl, S5, hy, hu⟩⟩
      · exact ⟨x, v, rfl, S4, hx.keep (kept_tk b4.kept S3), hv.mono (by decide) (by decide)⟩
    clear S2 S3 k3 hx hv x v
    rintro σ' H4 ⟨x, v, rfl, S4, hx, hv⟩
    refine ⟨fun σ' H' => ∃ x v, σ' = [some (.ref a), some (.ref p), some x, none, none, none] ∧ StAt H' p q xs ∧ VaAt H' v x ∧ Val C1 1101 45 v, ?_, ?_⟩
    · refine ⟨_, rfl, p, q, xs, 4, rfl, S4, by decide, by decide, fun H5 v5 S5 b5 h50 h51 => ⟨rfl, _, rfl, ite2 (fun e => ?_) (fun e => ?_)⟩⟩
      · have hx5 := hx.keep (kept_tk b5.kept S4)
        refine ⟨_, rfl, by show 1 ≤ sizeLine; decide, fun t ht => ⟨by show 2 ≤ sizeLine; decide, fun u hu => ?_⟩⟩
        have s1 := same_upd (o := .tup [x]) ht
        have s2 := same_upd (o := .tup [.str "list", .ref t]) hu
        have s12 := Same.tr s1 s2
        refine ⟨_, .lst [v], rfl, S5.keep s12, ⟨u, t, [x], rfl, upd_same, s2 _ _ upd_same, VasAt.of (.one (hx5.keep (TupK.of s12)))⟩, ⟨⟨hv.ok, trivial⟩, ?_, ?_⟩⟩
        · have := hv.siz
          simp only [Va.siz, sizs]
          omega
        · have := hv.dep
          simp only [Va.dep, deps]
          omega
      · exact ⟨x, v, rfl, S5, hx.keep (kept_tk b5.kept S4), hv.mono (by decide) (by decide)⟩
    clear S4 hx hv x v
    rintro σ' H5 ⟨x, v, rfl, S5, hx, hv⟩
    -- second
    refine ⟨_, rfl, p, q, xs, rfl, S5, fun H6 y u S6 k6 hy hu => ?_⟩
    have hx6 := hx.keep (kept_tk k6 S5)
    refine ⟨_, rfl, p, q, xs, 4, rfl, S6, by decide, by decide, fun H7 v7 S7 b7 h70 h71 => ?_⟩
    have hx7 := hx6.keep (kept_tk b7.kept S6)
    have hy7 := hy.keep (kept_tk b7.kept S6)
    refine ⟨fun σ' H' => ∃ y u, σ' = [some (.ref a), some (.ref p), some x, some y, some (.int v7), none] ∧ VaAt H' v x ∧ VaAt H' u y ∧ Val BB 3500 46 u, ?_, ?_⟩
    · refine ⟨_, rfl, rfl, _, rfl, ite2 (fun e => ?_) (fun e => ?_)⟩
      · exact ⟨_, rfl, x, v, rfl, hx7, hx7, ⟨Va.ok_mono hcb hv.ok, by have := hv.siz; omega, by have := hv.dep; omega⟩⟩
      · refine ⟨_, rfl, _, _, rfl, rfl, _, rfl, ite2 (fun e => ?_) (fun e => ?_)⟩
        · refine ⟨_, rfl, _, rfl, p, q, xs, x, v, rfl, S7, hx7, hv.mono (by decide) (by decide), fun H8 x' v' S8 k8 hx' hv' => ?_⟩
          have := hv.siz
          have := hv.dep
          exact ⟨x', v', rfl, hx7.keep (kept_tk k8 S7), hx', hv'.mono (by omega) (by omega)⟩
        · exact ⟨y, u, rfl, hx7, hy7, ⟨Va.ok_mono hcb hu.ok, Nat.le_trans hu.siz (by decide), Nat.le_trans hu.dep (by decide)⟩⟩
    clear hy7 hy hu S7 hx7 b7 hx6 k6 S6
    rintro σ' H8 ⟨y, u, rfl, hx8, hy8, hu⟩
    have ok1 := Va.ok_mono hcb hv.ok
    have ok2 := hu.ok
    have z1 := hv.siz
    have z2 := hu.siz
    have d1 := hv.dep
    have d2 := hu.dep
    -- both are told
    refine ⟨_, rfl, x, v, rfl, hx8, ok1, by omega, by omega, fun H9 s9 => ⟨true, rfl, iteF ?_⟩⟩
    have hx9 := hx8.keep (TupK.of s9)
    have hy9 := hy8.keep (TupK.of s9)
    refine ⟨_, rfl, y, u, rfl, hy9, ok2, by omega, by omega, fun H10 s10 => ⟨true, rfl, iteF ?_⟩⟩
    have hx10 := hx9.keep (TupK.of s10)
    have hy10 := hy9.keep (TupK.of s10)
    have n1 : v.nd ≤ 110 := nd_dep (by omega)
    have n2 : u.nd ≤ 110 := nd_dep (by omega)
    refine ⟨fun σ' H' => ∃ r : Bool, σ' = [some (.ref a), some (.ref p), some x, some y, some (.int v7), some (.bl r)] ∧ H' = H10 ∧ (r = true ↔ v = u), ?_, ?_⟩
    · refine ⟨_, rfl, _, rfl, x, y, rfl, .inl ⟨v, u, hx10, hy10, n2, by omega, by omega, ⟨BB, ok1, ok2⟩, fun r hr => ⟨r, rfl, ?_⟩⟩⟩
      cases r with
      | true =>
        refine iteT ⟨_, rfl, _, rfl, y, x, rfl, .inl ⟨u, v, hy10, hx10, n1, by omega, by omega, ⟨BB, ok2, ok1⟩, fun r2 hr2 => ⟨r2, rfl, rfl, hr2.trans ⟨fun h => h.symm, fun h => h.symm⟩⟩⟩⟩
      | false => exact iteF ⟨false, rfl, rfl, hr⟩
    rintro σ' H11 ⟨r, rfl, rfl, hr⟩
    refine ⟨_, rfl, _, rfl, x, y, v, u, rfl, hx10, hy10, by omega, by omega, ⟨BB, ok1, ok2⟩, fun H12 r2 s12 hr2 => ⟨_, rfl, _, _, rfl, .inl ⟨.bl r2, .bl r, rfl, rfl, Nat.zero_le _, by show 1 ≤ 9000; decide, by show 1 ≤ 9000; decide, ⟨0, trivial, trivial⟩, fun r3 hr3 => ?_⟩⟩⟩
    have e2 : r2 = r := by rw [Bool.eq_iff_iff, hr, hr2]
    obtain rfl : r3 = true := hr3.mpr (by rw [e2])
    refine ⟨true, rfl, iteT ?_⟩
    refine ⟨_, rfl, _, rfl, y, x, u, v, rfl, hy10.keep (TupK.of s12), hx10.keep (TupK.of s12), by omega, by omega, ⟨BB, ok2, ok1⟩, fun H13 r4 s13 hr4 => ⟨_, rfl, _, _, rfl, .inl ⟨.bl r4, .bl r, rfl, rfl, Nat.zero_le _, by show 1 ≤ 9000; decide, by show 1 ≤ 9000; decide, ⟨0, trivial, trivial⟩, fun r5 hr5 => ?_⟩⟩⟩
    have e4 : r4 = r := by
      rw [Bool.eq_iff_iff, hr, hr4]
      exact ⟨fun h => h.symm, fun h => h.symm⟩
    obtain rfl : r5 = true := hr5.mpr (by rw [e4])
    exact qq H13
end
end Q25
namespace Q25
open PySem PySem.Spec PyProof.Rows L2 SX HL
theorem all_mk {l : PySem.W.OpenLaw} {w : World} {K : PySem.W.Frag} {h : Heap} {mg : Str → Option Value} {fa f1 f2 f3 f4 f5 f6 f7 f8 f9 f10 f11 f12 f13 f14 f15 f16 f17 f18 f19 f20 f21 f22 : Addr} (X : K.In h) (G : h.Ns mainGlobals mg) (hfa : mg "law" = some (.ref fa))
    {od1 an1 od2 an2 od3 an3 od4 an4 od5 an5 od6 an6 od7 an7 od8 an8 od9 an9 od10 an10 od11 an11 od12 an12 od13 an13 od14 an14 od15 an15 od16 an16 od17 an17 od18 an18 od19 an19 od20 an20 od21 an21 od22 an22 : Option Addr} {sl1 sl2 sl3 sl4 sl5 sl6 sl7 sl8 sl9 sl10 sl11 sl12 sl13 sl14 sl15 sl16 sl17 sl18 sl19 sl20 sl21 sl22 : Array (Option Value)} {oc1 kV1 dc1 pm1 cd1 ct1 oc2 kV2 dc2 pm2 cd2 ct2 oc3 kV3 dc3 pm3 cd3 ct3 oc4 kV4 dc4 pm4 cd4 ct4 oc5 kV5 dc5 pm5 cd5 ct5 oc6 kV6 dc6 pm6 cd6 ct6 oc7 kV7 dc7 pm7 cd7 ct7 oc8 kV8 dc8 pm8 cd8 ct8 oc9 kV9 dc9 pm9 cd9 ct9 oc10 kV10 dc10 pm10 cd10 ct10 oc11 kV11 dc11 pm11 cd11 ct11 oc12 kV12 dc12 pm12 cd12 ct12 oc13 kV13 dc13 pm13 cd13 ct13 oc14 kV14 dc14 pm14 cd14 ct14 oc15 kV15 dc15 pm15 cd15 ct15 oc16 kV16 dc16 pm16 cd16 ct16 oc17 kV17 dc17 pm17 cd17 ct17 oc18 kV18 dc18 pm18 cd18 ct18 oc19 kV19 dc19 pm19 cd19 ct19 oc20 kV20 dc20 pm20 cd20 ct20 oc21 kV21 dc21 pm21 cd21 ct21 oc22 kV22 dc22 pm22 cd22 ct22 : Value}
    {tTOO_LARGE tMOST_SIZE tMOST_DEPTH : Tok}
    (a1 : PySem.W.nsIn K mainGlobals "form" = some (some (.ref f1)))
    (l1 : K.lookup f1 = some ⟨oc1, od1, .func (PySem.W.fnOf "form" "form" (defArgs sForm) (defBody sForm) (defScope sForm) .none kV1 dc1 pm1 an1 cd1 ct1), sl1⟩)
    (c1 : PySem.W.codeIn K cd1 "form" = true)
    (k1 : PySem.W.keepIn K (.ref f1) = true)
    (a2 : PySem.W.nsIn K mainGlobals "inner" = some (some (.ref f2)))
    (l2 : K.lookup f2 = some ⟨oc2, od2, .func (PySem.W.fnOf "inner" "inner" (defArgs sInner) (defBody sInner) (defScope sInner) .none kV2 dc2 pm2 an2 cd2 ct2), sl2⟩)
    (c2 : PySem.W.codeIn K cd2 "inner" = true)
    (k2 : PySem.W.keepIn K (.ref f2) = true)
    (a3 : PySem.W.nsIn K mainGlobals "bare" = some (some (.ref f3)))
    (l3 : K.lookup f3 = some ⟨oc3, od3, .func (PySem.W.fnOf "bare" "bare" (defArgs sBare) (defBody sBare) (defScope sBare) .none kV3 dc3 pm3 an3 cd3 ct3), sl3⟩)
    (c3 : PySem.W.codeIn K cd3 "bare" = true)
    (k3 : PySem.W.keepIn K (.ref f3) = true)
    (a4 : PySem.W.nsIn K mainGlobals "same" = some (some (.ref f4)))
    (l4 : K.lookup f4 = some ⟨oc4, od4, .func (PySem.W.fnOf "same" "same" (defArgs sSame) (defBody sSame) (defScope sSame) .none kV4 dc4 pm4 an4 cd4 ct4), sl4⟩)
    (c4 : PySem.W.codeIn K cd4 "same" = true)
    (k4 : PySem.W.keepIn K (.ref f4) = true)
    (a5 : PySem.W.nsIn K mainGlobals "size" = some (some (.ref f5)))
    (l5 : K.lookup f5 = some ⟨oc5, od5, .func (PySem.W.fnOf "size" "size" (defArgs sSize) (defBody sSize) (defScope sSize) .none kV5 dc5 pm5 an5 cd5 ct5), sl5⟩)
    (c5 : PySem.W.codeIn K cd5 "size" = true)
    (k5 : PySem.W.keepIn K (.ref f5) = true)
    (a6 : PySem.W.nsIn K mainGlobals "depth" = some (some (.ref f6)))
    (l6 : K.lookup f6 = some ⟨oc6, od6, .func (PySem.W.fnOf "depth" "depth" (defArgs sDepth) (defBody sDepth) (defScope sDepth) .none kV6 dc6 pm6 an6 cd6 ct6), sl6⟩)
    (c6 : PySem.W.codeIn K cd6 "depth" = true)
    (k6 : PySem.W.keepIn K (.ref f6) = true)
    (a7 : PySem.W.nsIn K mainGlobals "is_large" = some (some (.ref f7)))
    (l7 : K.lookup f7 = some ⟨oc7, od7, .func (PySem.W.fnOf "is_large" "is_large" (defArgs sIsLarge) (defBody sIsLarge) (defScope sIsLarge) .none kV7 dc7 pm7 an7 cd7 ct7), sl7⟩)
    (c7 : PySem.W.codeIn K cd7 "is_large" = true)
    (k7 : PySem.W.keepIn K (.ref f7) = true)
    (a8 : PySem.W.nsIn K mainGlobals "write_value" = some (some (.ref f8)))
    (l8 : K.lookup f8 = some ⟨oc8, od8, .func (PySem.W.fnOf "write_value" "write_value" (defArgs sWriteValue) (defBody sWriteValue) (defScope sWriteValue) .none kV8 dc8 pm8 an8 cd8 ct8), sl8⟩)
    (c8 : PySem.W.codeIn K cd8 "write_value" = true)
    (k8 : PySem.W.keepIn K (.ref f8) = true)
    (a9 : PySem.W.nsIn K mainGlobals "write_parts" = some (some (.ref f9)))
    (l9 : K.lookup f9 = some ⟨oc9, od9, .func (PySem.W.fnOf "write_parts" "write_parts" (defArgs sWriteParts) (defBody sWriteParts) (defScope sWriteParts) .none kV9 dc9 pm9 an9 cd9 ct9), sl9⟩)
    (c9 : PySem.W.codeIn K cd9 "write_parts" = true)
    (k9 : PySem.W.keepIn K (.ref f9) = true)
    (a10 : PySem.W.nsIn K mainGlobals "_law_next" = some (some (.ref f10)))
    (l10 : K.lookup f10 = some ⟨oc10, od10, .func (PySem.W.fnOf "_law_next" "_law_next" (defArgs sLawNext) (defBody sLawNext) (defScope sLawNext) .none kV10 dc10 pm10 an10 cd10 ct10), sl10⟩)
    (c10 : PySem.W.codeIn K cd10 "_law_next" = true)
    (k10 : PySem.W.keepIn K (.ref f10) = true)
    (a11 : PySem.W.nsIn K mainGlobals "_law_same" = some (some (.ref f11)))
    (l11 : K.lookup f11 = some ⟨oc11, od11, .func (PySem.W.fnOf "_law_same" "_law_same" (defArgs sLawSame) (defBody sLawSame) (defScope sLawSame) .none kV11 dc11 pm11 an11 cd11 ct11), sl11⟩)
    (c11 : PySem.W.codeIn K cd11 "_law_same" = true)
    (k11 : PySem.W.keepIn K (.ref f11) = true)
    (a12 : PySem.W.nsIn K mainGlobals "_law_char" = some (some (.ref f12)))
    (l12 : K.lookup f12 = some ⟨oc12, od12, .func (PySem.W.fnOf "_law_char" "_law_char" (defArgs sLawChar) (defBody sLawChar) (defScope sLawChar) .none kV12 dc12 pm12 an12 cd12 ct12), sl12⟩)
    (c12 : PySem.W.codeIn K cd12 "_law_char" = true)
    (k12 : PySem.W.keepIn K (.ref f12) = true)
    (a13 : PySem.W.nsIn K mainGlobals "_law_scalar" = some (some (.ref f13)))
    (l13 : K.lookup f13 = some ⟨oc13, od13, .func (PySem.W.fnOf "_law_scalar" "_law_scalar" (defArgs sLawScalar) (defBody sLawScalar) (defScope sLawScalar) .none kV13 dc13 pm13 an13 cd13 ct13), sl13⟩)
    (c13 : PySem.W.codeIn K cd13 "_law_scalar" = true)
    (k13 : PySem.W.keepIn K (.ref f13) = true)
    (a14 : PySem.W.nsIn K mainGlobals "_law_value" = some (some (.ref f14)))
    (l14 : K.lookup f14 = some ⟨oc14, od14, .func (PySem.W.fnOf "_law_value" "_law_value" (defArgs sLawValue) (defBody sLawValue) (defScope sLawValue) .none kV14 dc14 pm14 an14 cd14 ct14), sl14⟩)
    (c14 : PySem.W.codeIn K cd14 "_law_value" = true)
    (k14 : PySem.W.keepIn K (.ref f14) = true)
    (a15 : PySem.W.nsIn K mainGlobals "_law_great" = some (some (.ref f15)))
    (l15 : K.lookup f15 = some ⟨oc15, od15, .func (PySem.W.fnOf "_law_great" "_law_great" (defArgs sLawGreat) (defBody sLawGreat) (defScope sLawGreat) .none kV15 dc15 pm15 an15 cd15 ct15), sl15⟩)
    (c15 : PySem.W.codeIn K cd15 "_law_great" = true)
    (k15 : PySem.W.keepIn K (.ref f15) = true)
    (a16 : PySem.W.nsIn K mainGlobals "_law_turned" = some (some (.ref f16)))
    (l16 : K.lookup f16 = some ⟨oc16, od16, .func (PySem.W.fnOf "_law_turned" "_law_turned" (defArgs sLawTurned) (defBody sLawTurned) (defScope sLawTurned) .none kV16 dc16 pm16 an16 cd16 ct16), sl16⟩)
    (c16 : PySem.W.codeIn K cd16 "_law_turned" = true)
    (k16 : PySem.W.keepIn K (.ref f16) = true)
    (a17 : PySem.W.nsIn K mainGlobals "_law_parts" = some (some (.ref f17)))
    (l17 : K.lookup f17 = some ⟨oc17, od17, .func (PySem.W.fnOf "_law_parts" "_law_parts" (defArgs sLawParts) (defBody sLawParts) (defScope sLawParts) .none kV17 dc17 pm17 an17 cd17 ct17), sl17⟩)
    (c17 : PySem.W.codeIn K cd17 "_law_parts" = true)
    (k17 : PySem.W.keepIn K (.ref f17) = true)
    (a18 : PySem.W.nsIn K mainGlobals "_law_size" = some (some (.ref f18)))
    (l18 : K.lookup f18 = some ⟨oc18, od18, .func (PySem.W.fnOf "_law_size" "_law_size" (defArgs sLawSize) (defBody sLawSize) (defScope sLawSize) .none kV18 dc18 pm18 an18 cd18 ct18), sl18⟩)
    (c18 : PySem.W.codeIn K cd18 "_law_size" = true)
    (k18 : PySem.W.keepIn K (.ref f18) = true)
    (a19 : PySem.W.nsIn K mainGlobals "_law_depth" = some (some (.ref f19)))
    (l19 : K.lookup f19 = some ⟨oc19, od19, .func (PySem.W.fnOf "_law_depth" "_law_depth" (defArgs sLawDepth) (defBody sLawDepth) (defScope sLawDepth) .none kV19 dc19 pm19 an19 cd19 ct19), sl19⟩)
    (c19 : PySem.W.codeIn K cd19 "_law_depth" = true)
    (k19 : PySem.W.keepIn K (.ref f19) = true)
    (a20 : PySem.W.nsIn K mainGlobals "_law_written" = some (some (.ref f20)))
    (l20 : K.lookup f20 = some ⟨oc20, od20, .func (PySem.W.fnOf "_law_written" "_law_written" (defArgs sLawWritten) (defBody sLawWritten) (defScope sLawWritten) .none kV20 dc20 pm20 an20 cd20 ct20), sl20⟩)
    (c20 : PySem.W.codeIn K cd20 "_law_written" = true)
    (k20 : PySem.W.keepIn K (.ref f20) = true)
    (a21 : PySem.W.nsIn K mainGlobals "_law_told" = some (some (.ref f21)))
    (l21 : K.lookup f21 = some ⟨oc21, od21, .func (PySem.W.fnOf "_law_told" "_law_told" (defArgs sLawTold) (defBody sLawTold) (defScope sLawTold) .none kV21 dc21 pm21 an21 cd21 ct21), sl21⟩)
    (c21 : PySem.W.codeIn K cd21 "_law_told" = true)
    (k21 : PySem.W.keepIn K (.ref f21) = true)
    (a22 : PySem.W.nsIn K mainGlobals "law" = some (some (.ref f22)))
    (l22 : K.lookup f22 = some ⟨oc22, od22, .func (PySem.W.fnOf "law" "law" (defArgs sLaw) (defBody sLaw) (defScope sLaw) .none kV22 dc22 pm22 an22 cd22 ct22), sl22⟩)
    (c22 : PySem.W.codeIn K cd22 "law" = true)
    (k22 : PySem.W.keepIn K (.ref f22) = true)
    (z_abs : PySem.W.nsIn K mainGlobals "abs" = some none)
    (z_bool : PySem.W.nsIn K mainGlobals "bool" = some none)
    (z_int : PySem.W.nsIn K mainGlobals "int" = some none)
    (z_isinstance : PySem.W.nsIn K mainGlobals "isinstance" = some none)
    (z_len : PySem.W.nsIn K mainGlobals "len" = some none)
    (z_list : PySem.W.nsIn K mainGlobals "list" = some none)
    (z_max : PySem.W.nsIn K mainGlobals "max" = some none)
    (z_range : PySem.W.nsIn K mainGlobals "range" = some none)
    (z_str : PySem.W.nsIn K mainGlobals "str" = some none)
    (z_tuple : PySem.W.nsIn K mainGlobals "tuple" = some none)
    (z_zip : PySem.W.nsIn K mainGlobals "zip" = some none)
    (g_TOO_LARGE : PySem.W.nsIn K mainGlobals "TOO_LARGE" = some (some (.int 1267650600228229401496703205376 tTOO_LARGE)))
    (g_MOST_SIZE : PySem.W.nsIn K mainGlobals "MOST_SIZE" = some (some (.int 1000 tMOST_SIZE)))
    (g_MOST_DEPTH : PySem.W.nsIn K mainGlobals "MOST_DEPTH" = some (some (.int 40 tMOST_DEPTH)))
    : ∃ fd : FuncData, (∀ (s : Shared) (v : Value), BindsTo s fd ⟨[v], []⟩ [("script", v)]) ∧ ∀ base : Heap, K.In base → base.Ns mainGlobals mg → FnOk l.prog w K mg base CX0 130 fa fd ["script"] (spLaw K) := by
  have e := hfa.symm.trans (PySem.W.mg_of X G a22)
  cases e
  have F1 := fun_mk (st := sForm) l1 c1 k1
  have b1 := F1.binds (ps := ["value"]) fun _ _ _ _ _ _ us hl => match us, hl with | [_], _ => rfl
  have F2 := fun_mk (st := sInner) l2 c2 k2
  have b2 := F2.binds (ps := ["value"]) fun _ _ _ _ _ _ us hl => match us, hl with | [_], _ => rfl
  have F3 := fun_mk (st := sBare) l3 c3 k3
  have b3 := F3.binds (ps := ["value"]) fun _ _ _ _ _ _ us hl => match us, hl with | [_], _ => rfl
  have F4 := fun_mk (st := sSame) l4 c4 k4
  have b4 := F4.binds (ps := ["first", "second"]) fun _ _ _ _ _ _ us hl => match us, hl with | [_, _], _ => rfl
  have F5 := fun_mk (st := sSize) l5 c5 k5
  have b5 := F5.binds (ps := ["value"]) fun _ _ _ _ _ _ us hl => match us, hl with | [_], _ => rfl
  have F6 := fun_mk (st := sDepth) l6 c6 k6
  have b6 := F6.binds (ps := ["value"]) fun _ _ _ _ _ _ us hl => match us, hl with | [_], _ => rfl
  have F7 := fun_mk (st := sIsLarge) l7 c7 k7
  have b7 := F7.binds (ps := ["value"]) fun _ _ _ _ _ _ us hl => match us, hl with | [_], _ => rfl
  have F8 := fun_mk (st := sWriteValue) l8 c8 k8
  have b8 := F8.binds (ps := ["value"]) fun _ _ _ _ _ _ us hl => match us, hl with | [_], _ => rfl
  have F9 := fun_mk (st := sWriteParts) l9 c9 k9
  have b9 := F9.binds (ps := ["values"]) fun _ _ _ _ _ _ us hl => match us, hl with | [_], _ => rfl
  have F10 := fun_mk (st := sLawNext) l10 c10 k10
  have b10 := F10.binds (ps := ["state", "limit"]) fun _ _ _ _ _ _ us hl => match us, hl with | [_, _], _ => rfl
  have F11 := fun_mk (st := sLawSame) l11 c11 k11
  have b11 := F11.binds (ps := ["actual", "expected"]) fun _ _ _ _ _ _ us hl => match us, hl with | [_, _], _ => rfl
  have F12 := fun_mk (st := sLawChar) l12 c12 k12
  have b12 := F12.binds (ps := ["index"]) fun _ _ _ _ _ _ us hl => match us, hl with | [_], _ => rfl
  have F13 := fun_mk (st := sLawScalar) l13 c13 k13
  have b13 := F13.binds (ps := ["state"]) fun _ _ _ _ _ _ us hl => match us, hl with | [_], _ => rfl
  have F14 := fun_mk (st := sLawValue) l14 c14 k14
  have b14 := F14.binds (ps := ["state", "levels"]) fun _ _ _ _ _ _ us hl => match us, hl with | [_, _], _ => rfl
  have F15 := fun_mk (st := sLawGreat) l15 c15 k15
  have b15 := F15.binds (ps := ["state"]) fun _ _ _ _ _ _ us hl => match us, hl with | [_], _ => rfl
  have F16 := fun_mk (st := sLawTurned) l16 c16 k16
  have b16 := F16.binds (ps := ["state", "value"]) fun _ _ _ _ _ _ us hl => match us, hl with | [_, _], _ => rfl
  have F17 := fun_mk (st := sLawParts) l17 c17 k17
  have b17 := F17.binds (ps := ["value"]) fun _ _ _ _ _ _ us hl => match us, hl with | [_], _ => rfl
  have F18 := fun_mk (st := sLawSize) l18 c18 k18
  have b18 := F18.binds (ps := ["value"]) fun _ _ _ _ _ _ us hl => match us, hl with | [_], _ => rfl
  have F19 := fun_mk (st := sLawDepth) l19 c19 k19
  have b19 := F19.binds (ps := ["value"]) fun _ _ _ _ _ _ us hl => match us, hl with | [_], _ => rfl
  have F20 := fun_mk (st := sLawWritten) l20 c20 k20
  have b20 := F20.binds (ps := ["value"]) fun _ _ _ _ _ _ us hl => match us, hl with | [_], _ => rfl
  have F21 := fun_mk (st := sLawTold) l21 c21 k21
  have b21 := F21.binds (ps := ["value"]) fun _ _ _ _ _ _ us hl => match us, hl with | [_], _ => rfl
  have F22 := fun_mk (st := sLaw) l22 c22 k22
  have b22 := F22.binds (ps := ["script"]) fun _ _ _ _ _ _ us hl => match us, hl with | [_], _ => rfl
  let Z : Defs K mg :=
    { abs := PySem.W.mg_none_of X G z_abs,
      bool := PySem.W.mg_none_of X G z_bool,
      int := PySem.W.mg_none_of X G z_int,
      isinstance := PySem.W.mg_none_of X G z_isinstance,
      len := PySem.W.mg_none_of X G z_len,
      list := PySem.W.mg_none_of X G z_list,
      max := PySem.W.mg_none_of X G z_max,
      range := PySem.W.mg_none_of X G z_range,
      str := PySem.W.mg_none_of X G z_str,
      tuple := PySem.W.mg_none_of X G z_tuple,
      zip := PySem.W.mg_none_of X G z_zip,
      kTOO_LARGE := ⟨_, PySem.W.mg_of X G g_TOO_LARGE⟩,
      kMOST_SIZE := ⟨_, PySem.W.mg_of X G g_MOST_SIZE⟩,
      kMOST_DEPTH := ⟨_, PySem.W.mg_of X G g_MOST_DEPTH⟩,
      fForm := f1,
      fdForm := _,
      DForm := ⟨F1, b1, PySem.W.mg_of X G a1⟩,
      fInner := f2,
      fdInner := _,
      DInner := ⟨F2, b2, PySem.W.mg_of X G a2⟩,
      fBare := f3,
      fdBare := _,
      DBare := ⟨F3, b3, PySem.W.mg_of X G a3⟩,
      fSame := f4,
      fdSame := _,
      DSame := ⟨F4, b4, PySem.W.mg_of X G a4⟩,
      fSize := f5,
      fdSize := _,
      DSize := ⟨F5, b5, PySem.W.mg_of X G a5⟩,
      fDepth := f6,
      fdDepth := _,
      DDepth := ⟨F6, b6, PySem.W.mg_of X G a6⟩,
      fIsLarge := f7,
      fdIsLarge := _,
      DIsLarge := ⟨F7, b7, PySem.W.mg_of X G a7⟩,
      fWriteValue := f8,
      fdWriteValue := _,
      DWriteValue := ⟨F8, b8, PySem.W.mg_of X G a8⟩,
      fWriteParts := f9,
      fdWriteParts := _,
      DWriteParts := ⟨F9, b9, PySem.W.mg_of X G a9⟩,
      fLawNext := f10,
      fdLawNext := _,
      DLawNext := ⟨F10, b10, PySem.W.mg_of X G a10⟩,
      fLawSame := f11,
      fdLawSame := _,
      DLawSame := ⟨F11, b11, PySem.W.mg_of X G a11⟩,
      fLawChar := f12,
      fdLawChar := _,
      DLawChar := ⟨F12, b12, PySem.W.mg_of X G a12⟩,
      fLawScalar := f13,
      fdLawScalar := _,
      DLawScalar := ⟨F13, b13, PySem.W.mg_of X G a13⟩,
      fLawValue := f14,
      fdLawValue := _,
      DLawValue := ⟨F14, b14, PySem.W.mg_of X G a14⟩,
      fLawGreat := f15,
      fdLawGreat := _,
      DLawGreat := ⟨F15, b15, PySem.W.mg_of X G a15⟩,
      fLawTurned := f16,
      fdLawTurned := _,
      DLawTurned := ⟨F16, b16, PySem.W.mg_of X G a16⟩,
      fLawParts := f17,
      fdLawParts := _,
      DLawParts := ⟨F17, b17, PySem.W.mg_of X G a17⟩,
      fLawSize := f18,
      fdLawSize := _,
      DLawSize := ⟨F18, b18, PySem.W.mg_of X G a18⟩,
      fLawDepth := f19,
      fdLawDepth := _,
      DLawDepth := ⟨F19, b19, PySem.W.mg_of X G a19⟩,
      fLawWritten := f20,
      fdLawWritten := _,
      DLawWritten := ⟨F20, b20, PySem.W.mg_of X G a20⟩,
      fLawTold := f21,
      fdLawTold := _,
      DLawTold := ⟨F21, b21, PySem.W.mg_of X G a21⟩,
      fLaw := fa,
      fdLaw := _,
      DLaw := ⟨F22, b22, PySem.W.mg_of X G a22⟩ }
  exact ⟨PySem.W.fnOf "law" "law" (defArgs sLaw) (defBody sLaw) (defScope sLaw) .none kV22 dc22 pm22 an22 cd22 ct22, fun s v => .of_eq rfl, fun base _ _ => ok_law Z⟩
end Q25
open PySem PySem.W PyProof.Rows
set_option maxHeartbeats 0 in
theorem PySem.Challenge.cw_quillrun_k25_values_holds : PySem.Challenge.rw_quillrun_k25_values.Holds := by
  w_on; o_law; k_head; (case hw => w_witness2)
  k_fill
  refine L2.walk_of (l := PySem.Challenge.rw_quillrun_k25_values) (n := 63) (k := 130) (x := "script") (CX := fun _ => L2.CX0) (sp := fun w => Q25.spLaw _) rfl (by decide) rfl ⟨rfl, by decide, by decide⟩ (fun w h Y => PySem.W.kIn_of Y) ?F (fun _ _ a ns hl _ hS => ⟨a, ns, rfl, hS, hl, fun _ => rfl⟩) (fun _ _ _ _ _ h => h)
  case F =>
    intro w mg fa h KX G hmg
    refine' Q25.all_mk KX G hmg ?a1 ?l1 ?c1 ?k1 ?a2 ?l2 ?c2 ?k2 ?a3 ?l3 ?c3 ?k3 ?a4 ?l4 ?c4 ?k4 ?a5 ?l5 ?c5 ?k5 ?a6 ?l6 ?c6 ?k6 ?a7 ?l7 ?c7 ?k7 ?a8 ?l8 ?c8 ?k8 ?a9 ?l9 ?c9 ?k9 ?a10 ?l10 ?c10 ?k10 ?a11 ?l11 ?c11 ?k11 ?a12 ?l12 ?c12 ?k12 ?a13 ?l13 ?c13 ?k13 ?a14 ?l14 ?c14 ?k14 ?a15 ?l15 ?c15 ?k15 ?a16 ?l16 ?c16 ?k16 ?a17 ?l17 ?c17 ?k17 ?a18 ?l18 ?c18 ?k18 ?a19 ?l19 ?c19 ?k19 ?a20 ?l20 ?c20 ?k20 ?a21 ?l21 ?c21 ?k21 ?a22 ?l22 ?c22 ?k22 ?z_abs ?z_bool ?z_int ?z_isinstance ?z_len ?z_list ?z_max ?z_range ?z_str ?z_tuple ?z_zip ?g_TOO_LARGE ?g_MOST_SIZE ?g_MOST_DEPTH
    (case a1 => k_is)
    (case l1 => k_is)
    (case c1 => k_is)
    (case k1 => k_is)
    (case a2 => k_is)
    (case l2 => k_is)
    (case c2 => k_is)
    (case k2 => k_is)
    (case a3 => k_is)
    (case l3 => k_is)
    (case c3 => k_is)
    (case k3 => k_is)
    (case a4 => k_is)
    (case l4 => k_is)
    (case c4 => k_is)
    (case k4 => k_is)
    (case a5 => k_is)
    (case l5 => k_is)
    (case c5 => k_is)
    (case k5 => k_is)
    (case a6 => k_is)
    (case l6 => k_is)
    (case c6 => k_is)
    (case k6 => k_is)
    (case a7 => k_is)
    (case l7 => k_is)
    (case c7 => k_is)
    (case k7 => k_is)
    (case a8 => k_is)
    (case l8 => k_is)
    (case c8 => k_is)
    (case k8 => k_is)
    (case a9 => k_is)
    (case l9 => k_is)
    (case c9 => k_is)
    (case k9 => k_is)
    (case a10 => k_is)
    (case l10 => k_is)
    (case c10 => k_is)
    (case k10 => k_is)
    (case a11 => k_is)
    (case l11 => k_is)
    (case c11 => k_is)
    (case k11 => k_is)
    (case a12 => k_is)
    (case l12 => k_is)
    (case c12 => k_is)
    (case k12 => k_is)
    (case a13 => k_is)
    (case l13 => k_is)
    (case c13 => k_is)
    (case k13 => k_is)
    (case a14 => k_is)
    (case l14 => k_is)
    (case c14 => k_is)
    (case k14 => k_is)
    (case a15 => k_is)
    (case l15 => k_is)
    (case c15 => k_is)
    (case k15 => k_is)
    (case a16 => k_is)
    (case l16 => k_is)
    (case c16 => k_is)
    (case k16 => k_is)
    (case a17 => k_is)
    (case l17 => k_is)
    (case c17 => k_is)
    (case k17 => k_is)
    (case a18 => k_is)
    (case l18 => k_is)
    (case c18 => k_is)
    (case k18 => k_is)
    (case a19 => k_is)
    (case l19 => k_is)
    (case c19 => k_is)
    (case k19 => k_is)
    (case a20 => k_is)
    (case l20 => k_is)
    (case c20 => k_is)
    (case k20 => k_is)
    (case a21 => k_is)
    (case l21 => k_is)
    (case c21 => k_is)
    (case k21 => k_is)
    (case a22 => k_is)
    (case l22 => k_is)
    (case c22 => k_is)
    (case k22 => k_is)
    (case z_abs => k_is)
    (case z_bool => k_is)
    (case z_int => k_is)
    (case z_isinstance => k_is)
    (case z_len => k_is)
    (case z_list => k_is)
    (case z_max => k_is)
    (case z_range => k_is)
    (case z_str => k_is)
    (case z_tuple => k_is)
    (case z_zip => k_is)
    (case g_TOO_LARGE => k_is)
    (case g_MOST_SIZE => k_is)
    (case g_MOST_DEPTH => k_is)
#print axioms PySem.Challenge.cw_quillrun_k25_values_holds
