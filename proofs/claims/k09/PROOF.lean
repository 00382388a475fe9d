import PyProof.Rows.All
import Wide.All
import OpenK.AllK
import Wide.FinOn
import HandS.ForMost
import HandS.ForExc
import HandS.IsInst
import HandS.Codes
import HandS.Walk
import HandS.Star
import HandS.TryOnly
import HandS.FStr
import HandS.StrMore
import HandS.Zip
import HandS.NoneIn
import HandS.SetKeys
import HandS.More
import HandS.Deep
import KE.RegKIsAll
import PySem.Challenge.RW_quillrun_k09_equations_are_solved
set_option Elab.async false
set_option linter.all false
set_option maxRecDepth 100000
set_option maxHeartbeats 4000000
namespace HL
open PySem PySem.Spec PyProof.Rows L2 SX
/-! ## short words of my own, over the hand layer -/
theorem boot_isinstance : bootBuiltins "isinstance" = some (.builtin "isinstance") := by decide +kernel
theorem boot_bool : bootBuiltins "bool" = some (.type "bool") := by decide +kernel
theorem boot_int : bootBuiltins "int" = some (.type "int") := by decide +kernel
theorem boot_str : bootBuiltins "str" = some (.type "str") := by decide +kernel
theorem boot_tuple : bootBuiltins "tuple" = some (.type "tuple") := by decide +kernel
theorem boot_list : bootBuiltins "list" = some (.type "list") := by decide +kernel
theorem boot_dict : bootBuiltins "dict" = some (.type "dict") := by decide +kernel
/-- a def of the module: its body, its arguments, its name -/
structure DefN (K : PySem.W.Frag) (mg : Str → Option Value) (x : Str) (st : Stmt) (ps : List Str) (f : Addr) (fd : FuncData) : Prop where
  F : Fun K x x st f fd
  b : Binds K fd ps []
  g : mg x = some (.ref f)
theorem small (n : Nat) (h : n ≤ 1000000) : n ≤ sizeLine := Nat.le_trans h (by decide)
theorem same_upd {H : Hp} {p : Addr} {o : HO} (h : H p = none) : Same H (upd H p o) := fun b x e => by
  rw [upd_ne (ne_of_none e h)]
  exact e
theorem S_app (a b : List Nat) : (S a ++ S b : Str) = S (a ++ b) := S_cat a b
theorem sign_at {t : List Nat} {k : Nat} (h : k < t.length) : atI (S t).cps.toList (k : Int) = some (t.getD k 0) := by
  show atI t.toArray.toList (k : Int) = _
  refine atI_nat ?_
  simp [List.getD_eq_getElem?_getD, h]
theorem cutS_nat (t : List Nat) (a b : Nat) (h : a ≤ b) (h2 : b ≤ t.length) : cutS (S t) (some (a : Int)) (some (b : Int)) = S ((t.drop a).take (b - a)) := by
  unfold cutS
  rw [S_len, HT.sIx_nat, HT.sIx_nat]
  have e1 : min a t.length = a := by omega
  have e2 : min b t.length = b := by omega
  rw [e1, e2]
/-- ends beyond the end -/
theorem cutS_any (t : List Nat) (a b : Nat) : cutS (S t) (some (a : Int)) (some (b : Int)) = S ((t.drop a).take (b - a)) := by
  unfold cutS
  rw [S_len, HT.sIx_nat, HT.sIx_nat]
  congr 2
  show List.take _ (List.drop _ t) = _
  by_cases ha : a ≤ t.length
  · have e1 : min a t.length = a := by omega
    rw [e1]
    by_cases hb : b ≤ t.length
    · have e2 : min b t.length = b := by omega
      rw [e2]
    · have e2 : min b t.length = t.length := by omega
      rw [e2, List.take_of_length_le (by rw [List.length_drop]; omega), List.take_of_length_le (by rw [List.length_drop]; omega)]
  · have e1 : min a t.length = t.length := by omega
    rw [e1, List.drop_of_length_le (Nat.le_refl _), List.drop_of_length_le (show t.length ≤ a by omega)]
    simp
theorem joinL_nil : ∀ C : List (List Nat), TL.joinL [] C = C.flatten
  | [] => rfl
  | [c] => by simp [TL.joinL]
  | c :: d :: r => by
    show c ++ ([] ++ TL.joinL [] (d :: r)) = _
    rw [joinL_nil (d :: r)]
    simp
/-- a test whose answer is known -/
theorem iteNo {c A B : Prop} [Decidable c] (h : ¬ c) (hb : B) : if c then A else B := by
  rw [if_neg h]
  exact hb
theorem iteYes {c A B : Prop} [Decidable c] (h : c) (ha : A) : if c then A else B := by
  rw [if_pos h]
  exact ha
/-- a comprehension without a test -/
theorem lc_yes {te : TE} {σ : L2.St} {H : Hp} {R : VK} {B : Hp → Prop} (h : te σ H R) : tYes σ H (fun b H3 => if b = true then te σ H3 R else B H3) := by
  show (if true = true then te σ H R else B H)
  rw [if_pos rfl]
  exact h
/-- all but p is as it was -/
def But (H H' : Hp) (p : Addr) : Prop := ∀ b, b ≠ p → H' b = H b
theorem but_upd {H : Hp} {p : Addr} {o : HO} : But H (upd H p o) p := fun _ h => upd_ne h
theorem But.refl {H : Hp} {p : Addr} : But H H p := fun _ _ => rfl
theorem But.trans {H H1 H2 : Hp} {p : Addr} (a : But H H1 p) (b : But H1 H2 p) : But H H2 p := fun c h => (b c h).trans (a c h)
/-- all but p, and what is new, is as it was -/
def Kept (H H' : Hp) (p : Addr) : Prop := ∀ b o, b ≠ p → H b = some o → H' b = some o
theorem Kept.refl {H : Hp} {p : Addr} : Kept H H p := fun _ _ _ h => h
theorem Kept.trans {H H1 H2 : Hp} {p : Addr} (a : Kept H H1 p) (b : Kept H1 H2 p) : Kept H H2 p := fun c o n h => b c o n (a c o n h)
theorem But.kept {H H' : Hp} {p : Addr} (b : But H H' p) : Kept H H' p := fun c o n h => (b c n).trans h
theorem _root_.L2.Same.kept {H H' : Hp} (s : Same H H') (p : Addr) : Kept H H' p := fun c o _ h => s c o h
section
variable {X : Cx}
/-- a constant of the module: a text, a number -/
theorem pe_gstr {x z : Str} {pos : Pos} (hg : Gl X x) (hm : ∃ t, X.mg x = some (.str z t)) (hd : (x == ("__debug__" : Str)) = false := by decide) : PE X (.Name x pos) (tC (.str z)) := by
  obtain ⟨t, h⟩ := hm
  exact pe_glob hg h ⟨t, rfl⟩ hd
theorem pe_gint {x : Str} {i : Int} {pos : Pos} (hg : Gl X x) (hm : ∃ t, X.mg x = some (.int i t)) (hd : (x == ("__debug__" : Str)) = false := by decide) : PE X (.Name x pos) (tC (.int i)) := by
  obtain ⟨t, h⟩ := hm
  exact pe_glob hg h ⟨t, rfl⟩ hd
/-- within a comprehension -/
theorem ix_listK {K : PySem.W.Frag} (h : X.K = K) : IxR X (rIxL K) := by
  subst h
  exact ix_list
theorem ix_tupK {K : PySem.W.Frag} (h : X.K = K) : IxR X (rIxT K) := by
  subst h
  exact ix_tup
/-- o[i] of a list, for o[i] op= e -/
def rGetL (K : PySem.W.Frag) : V → V → Hp → VK → Prop := fun x y H Q => ∃ p xs i v, x = .ref p ∧ y = .int i ∧ SqL K H p xs ∧ 0 ≤ i ∧ atI xs i = some v ∧ Q v H
theorem pget_list : PGet X (rGetL X.K) := by
  intro pins s σ H x y v u Q I rx ry h
  obtain ⟨p, xs, i, z, rfl, rfl, hq, h0, he, q⟩ := h
  cases rx
  obtain ⟨t, rfl⟩ := ry
  obtain ⟨its, r, pl, hz⟩ := I.list hq
  obtain ⟨j, h1, h2, h3, h4, h5⟩ := atI_get he
  obtain ⟨w, ew, rw'⟩ := r.get h2
  have hl := r.length
  have hn := line63
  have hj : i.toNat = j := by
    rw [seqIndex_of h0 h5] at h1
    exact Option.some.inj h1
  exact wpAny_getItem_list pl.isList h0 (by omega) (by rw [hj]; simpa using ew) ⟨z, H, I, rw', q⟩
/-- isinstance(x, T), T a built-in class -/
def rIsB (K : PySem.W.Frag) : List V → Hp → VK → Prop := fun xs H Q => ∃ (x : V) (T n : String) (b : Bool), xs = [x, .ty n] ∧ TyX K H x (.type T) ∧ kitB T n = some b ∧ Q (.bl b) H
theorem call_isB : CallR X (.builtin "isinstance") (rIsB X.K) := by
  intro pins s σ H xs us Q I r h
  obtain ⟨x, T, n, b, rfl, ty, e, q⟩ := h
  exact call_isi pins s σ H _ us Q I r ⟨x, .ty n, .type T, .type n, b, rfl, .ty n, ty, kit_ty e, q⟩
/-- a text, n times -/
theorem rep_fold (z : Str) : ∀ n : Nat, ((List.replicate n z.cps).foldl (· ++ ·) (#[] : Array Nat)).toList = (List.replicate n z.cps.toList).flatten := by
  have h : ∀ (l : List (Array Nat)) (a : Array Nat), (l.foldl (· ++ ·) a).toList = a.toList ++ (l.map (·.toList)).flatten := by
    intro l
    induction l with
    | nil => intro a; simp
    | cons x l ih => intro a; rw [List.foldl_cons, ih]; simp
  intro n
  rw [h]
  simp
theorem op_mul_strR : OpR X (binaryOp .Mult) (fun x y H Q => ∃ (l : List Nat) (n : Nat), x = .str (S l) ∧ y = .int (n : Int) ∧ 2 ≤ n ∧ n ≤ 1000 ∧ 1 ≤ l.length ∧ l.length ≤ 1000 ∧ Q (.str (S (List.replicate n l).flatten)) H) := by
  intro pins s σ H x y v u Q I rx ry h
  obtain ⟨l, n, rfl, rfl, h2, h3, h4, h5, q⟩ := h
  obtain ⟨t, rfl⟩ := rx
  obtain ⟨t', rfl⟩ := ry
  have hl : (S l).length = l.length := S_len l
  have e1 : ((n : Int) == 1 || (S l).length == 0) = false := by
    rw [hl]
    have a1 : ((n : Int) == 1) = false := by simp; omega
    have a2 : (l.length == 0) = false := by simp; intro z; rw [z] at h4; simp at h4
    rw [a1, a2]; rfl
  have hsz : l.length * n ≤ 1000000 := Nat.le_trans (Nat.mul_le_mul h5 h3) (by decide)
  refine PySem.P.mul_str ?_ (fun _ _ => ?_) (fun _ _ => ?_) ?_
  · have b1 : decide ((n : Int) < -(2 ^ 63 : Int)) = false := decide_eq_false (by omega)
    have b2 : decide ((n : Int) ≥ 2 ^ 63) = false := decide_eq_false (by omega)
    rw [b1, b2]; rfl
  · rw [hl]
    have hp : (l.length : Int) * (n : Int) ≤ 1000000 := by
      have := Int.ofNat_le.mpr hsz
      rw [Int.natCast_mul] at this
      exact this
    have := Int.le_ediv_of_mul_le (show (0 : Int) < (n : Int) by omega) (show (l.length : Int) * (n : Int) ≤ 2 ^ 63 - 1 from Int.le_trans hp (by decide))
    omega
  · rw [hl]
    exact decide_eq_false (by rw [sizeLine_eq, Int.toNat_natCast]; omega)
  · rw [if_neg (by omega), if_neg (by rw [e1]; simp)]
    have ef : (⟨(List.replicate (n : Int).toNat (S l).cps).foldl (· ++ ·) #[]⟩ : Str) = S (List.replicate n l).flatten := by
      have : ((List.replicate (n : Int).toNat (S l).cps).foldl (· ++ ·) (#[] : Array Nat)) = ((List.replicate n l).flatten).toArray := by
        apply Array.ext'
        rw [rep_fold]
        simp
      rw [this]
    rw [ef]
    refine ⟨?_, .str _, H, I.tok _, ⟨_, rfl⟩, q⟩
    rw [S_len, sizeLine_eq]
    simp
    rw [Nat.mul_comm]
    omega
end
/-! ### data that are told the same: _law_same -/
/-- the type of a list or a tuple that is read -/
def IsSeq (K : PySem.W.Frag) (H : Hp) (t : String) (a : Addr) (xs : List V) : Prop := (t = "tuple" ∧ SqT K H a xs ∧ TyX K H (.ref a) (.type "tuple")) ∨ (t = "list" ∧ SqL K H a xs ∧ TyX K H (.ref a) (.type "list"))
theorem IsSeq.tup {K : PySem.W.Frag} {H : Hp} {a : Addr} {xs : List V} (h : H a = some (.tup xs)) : IsSeq K H "tuple" a xs := .inl ⟨rfl, SqT.of h, .base (.tup h)⟩
theorem IsSeq.lst {K : PySem.W.Frag} {H : Hp} {a : Addr} {xs : List V} (h : H a = some (.lst xs)) : IsSeq K H "list" a xs := .inr ⟨rfl, SqL.of h, .base (.lst h)⟩
/-- a number, a text, a truth, None -/
def Leaf : V → Prop
  | .int _ => True
  | .str _ => True
  | .bl _ => True
  | .non => True
  | _ => False
def SameD (K : PySem.W.Frag) (H : Hp) : Nat → V → V → Prop
  | 0, x, y => Leaf x ∧ x = y
  | n + 1, x, y => (Leaf x ∧ x = y) ∨ ∃ (t : String) (a b : Addr) (xs ys : List V), x = .ref a ∧ y = .ref b ∧ IsSeq K H t a xs ∧ IsSeq K H t b ys ∧ xs.length = ys.length ∧ ys.length ≤ 1000000 ∧
      ∀ (i : Nat) (u v : V), xs[i]? = some u → ys[i]? = some v → SameD K H n u v
theorem SameD.leaf {K : PySem.W.Frag} {H : Hp} {n : Nat} {x : V} (h : Leaf x) : SameD K H n x x := by
  cases n with
  | zero => exact ⟨h, rfl⟩
  | succ n => exact .inl ⟨h, rfl⟩
theorem SameD.seq {K : PySem.W.Frag} {H : Hp} {n : Nat} {t : String} {a b : Addr} {xs ys : List V} (h1 : IsSeq K H t a xs) (h2 : IsSeq K H t b ys) (hl : xs.length = ys.length) (hz : ys.length ≤ 1000000)
    (h : ∀ (i : Nat) (u v : V), xs[i]? = some u → ys[i]? = some v → SameD K H n u v) : SameD K H (n + 1) (.ref a) (.ref b) := .inr ⟨t, a, b, xs, ys, rfl, rfl, h1, h2, hl, hz, h⟩
/-- rows of leaves -/
theorem SameD.row {K : PySem.W.Frag} {H : Hp} {n : Nat} {a b : Addr} {xs : List V} (h1 : H a = some (.tup xs)) (h2 : H b = some (.tup xs)) (hz : xs.length ≤ 1000000) (h : ∀ x ∈ xs, Leaf x) : SameD K H (n + 1) (.ref a) (.ref b) :=
  .seq (.tup h1) (.tup h2) rfl hz fun i u v hu hv => by
    rw [hu] at hv
    cases hv
    exact .leaf (h u (List.mem_of_getElem? hu))
def spSame (K : PySem.W.Frag) (n : Nat) : Sp := fun vs H Q _ => ∃ x y : V, vs = [x, y] ∧ SameD K H n x y ∧ Q (.bl true) H
end HL
namespace Q09
open PySem PySem.Spec PyProof.Rows L2 SX HL
def topS (i : Nat) : Stmt := PySem.Challenge.pw_quillrun_k09_equations_are_solved.main.body.getD i (.Pass ⟨0, 0, 0, 0⟩)
abbrev sUnify : Stmt := topS 1
theorem scUnify : FnScope ["equations", "found", "first", "second"] ["equations"] (defScope sUnify) := ⟨rfl, rfl, rfl, by decide +kernel, rfl, by decide +kernel, by decide +kernel⟩
abbrev sMakeEqual : Stmt := topS 2
theorem scMakeEqual : FnScope ["first", "second", "found", "levels", "base"] ["first", "second", "found"] (defScope sMakeEqual) := ⟨rfl, rfl, rfl, by decide +kernel, rfl, by decide +kernel, by decide +kernel⟩
abbrev sEnded : Stmt := topS 3
theorem scEnded : FnScope ["kind", "found", "way", "levels", "base", "more", "variable", "before"] ["kind", "found"] (defScope sEnded) := ⟨rfl, rfl, rfl, by decide +kernel, rfl, by decide +kernel, by decide +kernel⟩
abbrev sReplaced : Stmt := topS 4
theorem scReplaced : FnScope ["kind", "found", "levels", "base", "more"] ["kind", "found"] (defScope sReplaced) := ⟨rfl, rfl, rfl, by decide +kernel, rfl, by decide +kernel, by decide +kernel⟩
abbrev sLawMix : Stmt := topS 6
theorem scLawMix : FnScope ["cell", "k", "value"] ["cell", "k"] (defScope sLawMix) := ⟨rfl, rfl, rfl, by decide +kernel, rfl, by decide +kernel, by decide +kernel⟩
abbrev sLawDraws : Stmt := topS 7
theorem scLawDraws : FnScope ["script", "draws", "k", "cell", "place"] ["script"] (defScope sLawDraws) := ⟨rfl, rfl, rfl, by decide +kernel, rfl, by decide +kernel, by decide +kernel⟩
abbrev sLawAt : Stmt := topS 8
theorem scLawAt : FnScope ["draws", "index"] ["draws", "index"] (defScope sLawAt) := ⟨rfl, rfl, rfl, by decide +kernel, rfl, by decide +kernel, by decide +kernel⟩
abbrev sLawIsInteger : Stmt := topS 9
theorem scLawIsInteger : FnScope ["actual"] ["actual"] (defScope sLawIsInteger) := ⟨rfl, rfl, rfl, by decide +kernel, rfl, by decide +kernel, by decide +kernel⟩
abbrev sLawSame : Stmt := topS 10
theorem scLawSame : FnScope ["actual", "expected", "k"] ["actual", "expected"] (defScope sLawSame) := ⟨rfl, rfl, rfl, by decide +kernel, rfl, by decide +kernel, by decide +kernel⟩
abbrev sLawBase : Stmt := topS 11
theorem scLawBase : FnScope ["number"] ["number"] (defScope sLawBase) := ⟨rfl, rfl, rfl, by decide +kernel, rfl, by decide +kernel, by decide +kernel⟩
abbrev sLawKind : Stmt := topS 12
theorem scLawKind : FnScope ["draws", "index", "levels"] ["draws", "index"] (defScope sLawKind) := ⟨rfl, rfl, rfl, by decide +kernel, rfl, by decide +kernel, by decide +kernel⟩
abbrev sLawSolved : Stmt := topS 13
theorem scLawSolved : FnScope ["pairs", "found", "first", "second", "left", "right", "low"] ["pairs"] (defScope sLawSolved) := ⟨rfl, rfl, rfl, by decide +kernel, rfl, by decide +kernel, by decide +kernel⟩
abbrev sLawPut : Stmt := topS 14
theorem scLawPut : FnScope ["kind", "found", "levels", "base", "k"] ["kind", "found"] (defScope sLawPut) := ⟨rfl, rfl, rfl, by decide +kernel, rfl, by decide +kernel, by decide +kernel⟩
abbrev sLawPairs : Stmt := topS 15
theorem scLawPairs : FnScope ["draws", "pairs", "k", "solution", "known", "fitting", "first", "second", "left", "right"] ["draws"] (defScope sLawPairs) := ⟨rfl, rfl, rfl, by decide +kernel, rfl, by decide +kernel, by decide +kernel⟩
abbrev sLaw : Stmt := topS 16
theorem scLaw : FnScope ["script", "draws", "pairs", "passed", "found", "expected", "base", "first", "second", "names", "told", "due", "back", "k", "want", "kind", "pair"] ["script"] (defScope sLaw) := ⟨rfl, rfl, rfl, by decide +kernel, rfl, by decide +kernel, by decide +kernel⟩
structure Txt (mg : Str → Option Value) : Prop where
  len : mg "len" = none
  range : mg "range" = none
  min : mg "min" = none
  isinstance : mg "isinstance" = none
  bool : mg "bool" = none
  int : mg "int" = none
  str : mg "str" = none
  tuple : mg "tuple" = none
  list : mg "list" = none
  dict : mg "dict" = none
end Q09
namespace Q09
open PySem PySem.Spec PyProof.Rows L2 SX HL
section
variable {P : Program} {w : World} {K : PySem.W.Frag} {mg : Str → Option Value} {base : Heap}
/-! ### _law_mix -/
def spMix : Sp := fun vs H Q _ => ∃ (c k : Int), vs = [.int c, .int k] ∧ ∀ v, 0 ≤ v → v < 9973 → Q (.int v) H
theorem ok_mix {f : Addr} {fd : FuncData} {k : Nat} (D : DefN K mg "_law_mix" sLawMix ["cell", "k"] f fd) (T : Txt mg) : FnOk P w K mg base CX0 (k + 1) f fd ["cell", "k"] spMix := by
  refine D.F.ok scLawMix (fun vs H Q E h => ?_) (fun cdv A outer s H vs Q E hr h => ?_)
  · obtain ⟨c, k, rfl, _⟩ := h
    rfl
  · obtain ⟨c, k, rfl, qq⟩ := h
    refine ⟨_, (pss_cons (ps_set (i := 2) scLawMix.nd rfl (.inl rfl) (pe_op op_mod (pe_callTy call_int1 (by rfl) T.int HL.boot_int (pa_cons (pe_op op_add (pe_op op_add (pe_op op_mul (pe_callTy call_int1 (by rfl) T.int HL.boot_int (pa_cons (pv 0) pa_nil)) pe_int) (pe_op op_mul (pv 1) pe_int)) pe_int) pa_nil)) pe_int))
        (pss_cons (ps_set (i := 2) scLawMix.nd rfl (.inl rfl) (pe_op op_mod (pe_callTy call_int1 (by rfl) T.int HL.boot_int (pa_cons (pe_op op_add (pe_op op_add (pe_op op_mul (pv 2) (pv 2)) (pe_op op_mul (pv 1) pe_int)) pe_int) pa_nil)) pe_int))
        (pss_one (ps_ret (pe_op op_mod (pe_op op_fdiv (pv 2) pe_int) pe_int))))), ?_⟩
    refine ⟨_, rfl, .inl ⟨c, rfl, _, _, rfl, rfl, .inr ⟨by decide, by decide⟩, _, rfl, _, _, rfl, rfl, .inr ⟨by decide, by decide⟩, _, _, rfl, rfl, _, _, rfl, rfl, .inl ⟨_, rfl, _, _, rfl, rfl, (by show (0 : Int) < 2147483647; decide), ?_⟩⟩⟩
    have v0 := Int.emod_nonneg (c * 48271 + k * 69621 + 12345) (show (2147483647 : Int) ≠ 0 by decide)
    have v1 := Int.emod_lt_of_pos (c * 48271 + k * 69621 + 12345) (show (0 : Int) < 2147483647 by decide)
    revert v0 v1
    dsimp only
    generalize (c * 48271 + k * 69621 + 12345) % 2147483647 = v
    intro v0 v1
    refine ⟨_, rfl, _, rfl, v, v, rfl, rfl, .inl ⟨by omega, by omega⟩, _, rfl, _, _, rfl, rfl, .inr ⟨by decide, by decide⟩, _, _, rfl, rfl, _, _, rfl, rfl, .inl ⟨_, rfl, _, _, rfl, rfl, (by show (0 : Int) < 2147483399; decide), ?_⟩⟩
    refine ⟨_, rfl, _, _, rfl, rfl, ⟨by decide, by decide⟩, _, _, rfl, rfl, (by show (0 : Int) < 9973; decide), qq _ (Int.emod_nonneg _ (by decide)) (Int.emod_lt_of_pos _ (by decide))⟩
end
end Q09
namespace Q09
open PySem PySem.Spec PyProof.Rows L2 SX HL
section
variable {P : Program} {w : World} {K : PySem.W.Frag} {mg : Str → Option Value} {base : Heap}
/-! ### _law_draws -/
def Draws (ds : List Int) : Prop := ∀ x ∈ ds, 0 ≤ x ∧ x < 9973
def spDraws (K : PySem.W.Frag) : Sp := fun vs H Q _ => ∃ (a : Addr) (ns : List Int), vs = [.ref a] ∧ SqL K H a (ns.map V.int) ∧ ns.length ≤ 63 ∧
  ∀ d H' ds, H d = none → Same H H' → H' d = some (.lst (ds.map V.int)) → ds.length ≤ 4000 → Draws ds → Q (.ref d) H'
theorem ok_draws {f fM : Addr} {fd fdM : FuncData} {k : Nat} (D : DefN K mg "_law_draws" sLawDraws ["script"] f fd) (T : Txt mg) (DLawMix : DefN K mg "_law_mix" sLawMix ["cell", "k"] fM fdM) : FnOk P w K mg base CX0 (k + 2) f fd ["script"] (spDraws K) := by
  have GLawMix : FnOk P w K mg base CX0 (k + 1) fM fdM ["cell", "k"] spMix := ok_mix DLawMix T
  refine D.F.ok scLawDraws (fun vs H Q E h => ?_) (fun cdv A outer s H vs Q E hr h => ?_)
  · obtain ⟨a, ns, rfl, _⟩ := h
    rfl
  · obtain ⟨a, ns, rfl, hS, hl, qq⟩ := h
    refine ⟨_, (pss_cons (ps_set (i := 1) scLawDraws.nd rfl (.inl rfl) (pe_lst pa_nil))
        (pss_cons (ps_for PassesOwn.never rfl (pi_range1 (by rfl) T.range (pa_cons (pe_callB (call_min2 rfl) (by rfl) T.min (by decide +kernel) (pa_cons pe_int (pa_cons (pe_callB call_len_seq (by rfl) T.len PySem.boot_len (pa_cons (pv 0) pa_nil)) pa_nil))) pa_nil)) (pg_name (i := 2) scLawDraws.nd rfl (.inl rfl)) (pss_cons (ps_set (i := 3) scLawDraws.nd rfl (.inl rfl) (pe_callTy call_int1 (by rfl) T.int HL.boot_int (pa_cons (pe_ix ix_list (pv 0) (pv 2) (fun _ _ => rfl)) pa_nil)))
        (pss_one (ps_if (pt_cmpR op_lt (pv 3) (pe_op op_pow pe_int pe_int) (nomark _)) (pss_one (ps_expr (pe_bm PySem.F.plainAttrs_list PySem.F.slot_list_append PySem.F.type_list_append mt_append (pv 1) (pa_cons (pe_call GLawMix (hr.mono (by omega)) (by rfl) DLawMix.g DLawMix.F.kp DLawMix.b .nil pass0 (pa_cons (pv 3) (pa_cons (pv 2) pa_nil))) pa_nil)))) (pss_one (ps_for PassesOwn.never rfl (pi_range1 (by rfl) T.range (pa_cons pe_int pa_nil)) (pg_name (i := 4) scLawDraws.nd rfl (.inl rfl)) (pss_one (ps_if (pt_cmpR op_gt (pv 3) pe_int (nomark _)) (pss_cons (ps_expr (pe_bm PySem.F.plainAttrs_list PySem.F.slot_list_append PySem.F.type_list_append mt_append (pv 1) (pa_cons (pe_op op_mod (pe_callTy call_int1 (by rfl) T.int HL.boot_int (pa_cons (pv 3) pa_nil)) pe_int) pa_nil)))
        (pss_one (ps_set (i := 3) scLawDraws.nd rfl (.inl rfl) (pe_op op_fdiv (pv 3) pe_int)))) pss_nil))))))))
        (pss_one (ps_ret (pv 1))))), ?_⟩
    refine ⟨Nat.zero_le _, fun D0 hD => ⟨_, rfl, a, _, rfl, .inl ((same_upd hD).seq hS), 63, _, rfl, _, rfl, ?_⟩⟩
    have hlen : (ns.map V.int).length = ns.length := List.length_map _
    rw [hlen]
    have nn : (if (ns.length : Int) < 63 then (ns.length : Int) else 63) = (ns.length : Int) := by
      split <;> omega
    rw [nn]
    refine ⟨by omega, by omega, ?_⟩
    have ap : ∀ {H' : Hp} {ds : List Int} {v : Int}, Same H H' → Same H (upd H' D0 (.lst (ds.map V.int ++ [.int v]))) := fun s b o hb => by
      rw [upd_ne (ne_of_none hb hD)]
      exact s b o hb
    refine for_range (lo := 0) (n := ns.length) (fun i σ H' => ∃ (ds : List Int) (y2 y3 y4 : Option V), σ = [some (.ref a), some (.ref D0), y2, y3, y4] ∧ Same H H' ∧ H' D0 = some (.lst (ds.map V.int)) ∧ ds.length ≤ 60 * i ∧ Draws ds)
      ⟨[], none, none, none, rfl, same_upd hD, upd_same, Nat.zero_le _, fun _ h => nomatch h⟩ ?_ ?_
    · rintro i σ H' hi ⟨ds, y2, y3, y4, rfl, sm, hd, hdl, hdr⟩
      have hg : atI (ns.map V.int) ((0 : Int) + (i : Int)) = some (.int (ns.getD i 0)) := by
        rw [Int.zero_add]
        refine atI_nat ?_
        simp [hi]
      generalize ns.getD i 0 = x at hg
      refine ⟨_, rfl, _, rfl, a, _, _, _, rfl, rfl, sm.seq hS, hg, .inl ⟨x, rfl, ?_⟩⟩
      refine ⟨_, rfl, 10, 18, rfl, rfl, ⟨by decide, by decide, by decide⟩, _, _, rfl, rfl, _, rfl, ite2 (fun _ => ?_) (fun e => ?_)⟩
      · refine ⟨_, rfl, .inl ⟨rfl, _, SqL.of hd⟩, _, rfl, _, rfl, x, _, rfl, fun v v0 v1 => ⟨D0, _, _, rfl, rfl, hd, ?_, ?_⟩⟩
        · rw [List.length_map]
          exact Nat.lt_of_le_of_lt (show ds.length ≤ 4000 by omega) (by decide)
        · refine ⟨ds ++ [v], _, _, _, rfl, ap sm, by rw [upd_same]; simp, by simp; omega, fun y hy => ?_⟩
          rcases List.mem_append.mp hy with hy | hy
          · exact hdr y hy
          · rw [List.mem_singleton.mp hy]
            exact ⟨v0, v1⟩
      · refine ⟨60, rfl, by decide, by decide, ?_⟩
        refine for_range (lo := 0) (n := 60) (fun j σ H' => ∃ (ds2 : List Int) (x : Int) (y4 : Option V), σ = [some (.ref a), some (.ref D0), some (.int (0 + (i : Int))), some (.int x), y4] ∧ Same H H' ∧ H' D0 = some (.lst (ds2.map V.int)) ∧ ds2.length ≤ 60 * i + j ∧ Draws ds2)
          ⟨ds, x, y4, rfl, sm, hd, hdl, hdr⟩ ?_ ?_
        · rintro j σ H2 hj ⟨ds2, x, y4, rfl, sm2, hd2, hdl2, hdr2⟩
          refine ⟨_, rfl, x, 0, rfl, rfl, _, rfl, ite2 (fun e => ?_) (fun e => ?_)⟩
          · refine ⟨_, rfl, .inl ⟨rfl, _, SqL.of hd2⟩, _, rfl, .inl ⟨x, rfl, x, 9973, rfl, rfl, (by show (0 : Int) < 9973; decide), D0, _, _, rfl, rfl, hd2, ?_, ?_⟩⟩
            · rw [List.length_map]
              exact Nat.lt_of_le_of_lt (show ds2.length ≤ 4000 by omega) (by decide)
            · refine ⟨_, rfl, x, 9973, rfl, rfl, ⟨by decide, by decide⟩, ds2 ++ [x % 9973], x / 9973, _, rfl, ap sm2, by rw [upd_same]; simp, by simp; omega, fun y hy => ?_⟩
              rcases List.mem_append.mp hy with hy | hy
              · exact hdr2 y hy
              · rw [List.mem_singleton.mp hy]
                exact ⟨Int.emod_nonneg _ (by decide), Int.emod_lt_of_pos _ (by decide)⟩
          · exact ⟨ds2, x, _, rfl, sm2, hd2, by omega, hdr2⟩
        · rintro σ H2 ⟨ds2, x, y4, rfl, sm2, hd2, hdl2, hdr2⟩
          exact ⟨ds2, _, _, _, rfl, sm2, hd2, by omega, hdr2⟩
    · rintro σ H' ⟨ds, y2, y3, y4, rfl, sm, hd, hdl, hdr⟩
      exact ⟨_, rfl, qq D0 H' ds hD sm hd (by omega) hdr⟩
/-! ### _law_at -/
def spAt : Sp := fun vs H Q _ => ∃ (d : Addr) (ds : List Int) (i : Int), vs = [.ref d, .int i] ∧ H d = some (.lst (ds.map V.int)) ∧ Draws ds ∧ 0 ≤ i ∧ ∀ v, 0 ≤ v → v < 9973 → Q (.int v) H
theorem ok_at {f fM : Addr} {fd fdM : FuncData} {k : Nat} (D : DefN K mg "_law_at" sLawAt ["draws", "index"] f fd) (T : Txt mg) (DLawMix : DefN K mg "_law_mix" sLawMix ["cell", "k"] fM fdM) : FnOk P w K mg base CX0 (k + 2) f fd ["draws", "index"] spAt := by
  have GLawMix : FnOk P w K mg base CX0 (k + 1) fM fdM ["cell", "k"] spMix := ok_mix DLawMix T
  refine D.F.ok scLawAt (fun vs H Q E h => ?_) (fun cdv A outer s H vs Q E hr h => ?_)
  · obtain ⟨a, ns, i, rfl, _⟩ := h
    rfl
  · obtain ⟨d, ds, i, rfl, hd, hD, i0, qq⟩ := h
    refine ⟨_, (pss_cons (ps_if (pt_cmpR op_lt (pv 1) (pe_callB call_len_seq (by rfl) T.len PySem.boot_len (pa_cons (pv 0) pa_nil)) (nomark _)) (pss_one (ps_ret (pe_ix ix_list (pv 0) (pv 1) (fun _ _ => rfl)))) pss_nil)
        (pss_cons (ps_if (pt_cmpR op_eq (pe_callB call_len_seq (by rfl) T.len PySem.boot_len (pa_cons (pv 0) pa_nil)) pe_int (nomark _)) (pss_one (ps_ret (pe_call GLawMix (hr.mono (by omega)) (by rfl) DLawMix.g DLawMix.F.kp DLawMix.b .nil pass0 (pa_cons (pv 1) (pa_cons pe_int pa_nil))))) pss_nil)
        (pss_one (ps_ret (pe_call GLawMix (hr.mono (by omega)) (by rfl) DLawMix.g DLawMix.F.kp DLawMix.b .nil pass0 (pa_cons (pe_op op_add (pe_ix ix_list (pv 0) (pe_op op_mod (pe_callTy call_int1 (by rfl) T.int HL.boot_int (pa_cons (pv 1) pa_nil)) (pe_callB call_len_seq (by rfl) T.len PySem.boot_len (pa_cons (pv 0) pa_nil))) (fun _ _ => rfl)) (pe_op op_mul (pv 1) pe_int)) (pa_cons (pv 1) pa_nil))))))), ?_⟩
    have hlen : (ds.map V.int).length = ds.length := List.length_map _
    refine ⟨_, rfl, _, rfl, d, _, rfl, .inl (SqL.of hd), _, _, rfl, rfl, _, rfl, ite2 (fun e => ?_) (fun e => ?_)⟩
    · have e2 : i < ((ds.map V.int).length : Int) := of_decide_eq_true e
      rw [hlen] at e2
      have hi : i.toNat < ds.length := by omega
      have hg : atI (ds.map V.int) i = some (.int ds[i.toNat]) := by
        have h0 := atI_nat (xs := ds.map V.int) (j := i.toNat) (v := .int ds[i.toNat]) (by simp [hi])
        have : ((i.toNat : Nat) : Int) = i := by omega
        rwa [this] at h0
      have hb := hD _ (List.getElem_mem hi)
      exact ⟨_, rfl, _, rfl, d, _, i, _, rfl, rfl, SqL.of hd, hg, qq _ hb.1 hb.2⟩
    · refine ⟨_, rfl, d, _, rfl, .inl (SqL.of hd), rfl, _, rfl, ite2 (fun e2 => ?_) (fun e2 => ?_)⟩
      · exact ⟨_, rfl, i, 77, rfl, qq⟩
      · have hp : 0 < ds.length := by
          rcases Nat.eq_zero_or_pos ds.length with z | z
          · exact absurd (decide_eq_true (by rw [hlen, z]; rfl)) e2
          · exact z
        have m0 := Int.emod_nonneg i (show (ds.length : Int) ≠ 0 by omega)
        have m1 := Int.emod_lt_of_pos i (show (0 : Int) < (ds.length : Int) by omega)
        have hi : (i % (ds.length : Int)).toNat < ds.length := by omega
        have hg : atI (ds.map V.int) (i % (ds.length : Int)) = some (.int ds[(i % (ds.length : Int)).toNat]) := by
          have h0 := atI_nat (xs := ds.map V.int) (j := (i % (ds.length : Int)).toNat) (v := .int ds[(i % (ds.length : Int)).toNat]) (by simp [hi])
          have : (((i % (ds.length : Int)).toNat : Nat) : Int) = i % (ds.length : Int) := by omega
          rwa [this] at h0
        generalize ds[(i % (ds.length : Int)).toNat] = x at hg
        refine ⟨_, rfl, _, rfl, .inl ⟨i, rfl, _, rfl, d, _, rfl, .inl (SqL.of hd), ?_⟩⟩
        rw [hlen]
        refine ⟨_, _, rfl, rfl, (by show (0 : Int) < (ds.length : Int); omega), d, _, _, _, rfl, rfl, SqL.of hd, hg, _, rfl, i, 131, rfl, rfl, .inr ⟨by decide, by decide⟩, _, _, rfl, rfl, _, rfl, _, _, rfl, qq⟩
end
end Q09
namespace HL
open PySem PySem.Spec PyProof.Rows L2 SX
/-- isinstance of two built-in classes -/
theorem kit_two {K : PySem.W.Frag} {T a b : String} {x y : Bool} (h1 : kitB T a = some x) (h2 : kitB T b = some y) : PySem.W.kitAny K (.type T) [.type a, .type b] = some (x || y) := by
  have e1 := kit_ty (K := K) h1
  have e2 := kit_ty (K := K) h2
  simp only [PySem.W.kitAny, e1, e2]
  cases x <;> cases y <;> rfl
theorem tyx_same {K : PySem.W.Frag} {H H' : Hp} {x : V} {t : Value} (s : Same H H') (h : TyX K H x t) : TyX K H' x t := by
  cases h with
  | base b =>
    cases b with
    | non => exact .base .non
    | bl y => exact .base (.bl y)
    | int i => exact .base (.int i)
    | str y => exact .base (.str y)
    | flt y => exact .base (.flt y)
    | lst e => exact .base (.lst (s _ _ e))
    | frz e => exact .base (.frz (s _ _ e))
    | tup e => exact .base (.tup (s _ _ e))
    | dK e => exact .base (.dK (s _ _ e))
    | dT e => exact .base (.dT (s _ _ e))
    | ins e h1 h2 h3 h4 h5 => exact .base (.ins (s _ _ e) h1 h2 h3 h4 h5)
  | byt y => exact .byt y
  | set e => exact .set (s _ _ e)
  | kList e c => exact .kList e c
  | kTuple e c => exact .kTuple e c
  | kDict e c => exact .kDict e c
  | fTuple e => exact .fTuple (s _ _ e)
  | fDict e => exact .fDict (s _ _ e)
theorem seqT_same {K : PySem.W.Frag} {H H' : Hp} {a : Addr} {xs : List V} (e : Same H H') (h : SqT K H a xs) : SqT K H' a xs := by
  rcases h with (h | ⟨o, h⟩) | h
  · exact .inl (.inl (e _ _ h))
  · exact .inl (.inr ⟨o, e _ _ h⟩)
  · exact .inr h
theorem isSeq_same {K : PySem.W.Frag} {H H' : Hp} {t : String} {a : Addr} {xs : List V} (s : Same H H') (h : IsSeq K H t a xs) : IsSeq K H' t a xs := by
  rcases h with ⟨e, h1, h2⟩ | ⟨e, h1, h2⟩
  · exact .inl ⟨e, seqT_same s h1, tyx_same s h2⟩
  · exact .inr ⟨e, s.seq h1, tyx_same s h2⟩
theorem sameD_same {K : PySem.W.Frag} {H H' : Hp} (s : Same H H') : ∀ {n : Nat} {x y : V}, SameD K H n x y → SameD K H' n x y
  | 0, x, y, h => h
  | n + 1, x, y, h => by
    rcases h with h | ⟨t, a, b, xs, ys, e1, e2, h1, h2, el, hz, hh⟩
    · exact .inl h
    · exact .inr ⟨t, a, b, xs, ys, e1, e2, isSeq_same s h1, isSeq_same s h2, el, hz, fun i u v hu hv => sameD_same s (hh i u v hu hv)⟩
/-- told the same; the heap may grow -/
def spSameG (K : PySem.W.Frag) (n : Nat) : Sp := fun vs H Q _ => ∃ x y : V, vs = [x, y] ∧ SameD K H n x y ∧ ∀ H', Same H H' → Q (.bl true) H'
end HL
namespace Q09
open PySem PySem.Spec PyProof.Rows L2 SX HL
section
variable {P : Program} {w : World} {K : PySem.W.Frag} {mg : Str → Option Value} {base : Heap}
/-! ### _law_is_integer -/
def spIsInt : Sp := fun vs H Q _ => ∃ i : Int, vs = [.int i] ∧ Q (.bl true) H
theorem ok_isint {f : Addr} {fd : FuncData} {k : Nat} (D : DefN K mg "_law_is_integer" sLawIsInteger ["actual"] f fd) (T : Txt mg) : FnOk P w K mg base CX0 (k + 1) f fd ["actual"] spIsInt := by
  refine D.F.ok scLawIsInteger (fun vs H Q E h => ?_) (fun cdv A outer s H vs Q E hr h => ?_)
  · obtain ⟨i, rfl, _⟩ := h
    rfl
  · obtain ⟨i, rfl, q⟩ := h
    refine ⟨_, (pss_one (ps_ret (pe_and (pe_callB call_isB (by rfl) T.isinstance HL.boot_isinstance (pa_cons (pv 0) (pa_cons (pe_bltn (v := .ty "int") (by rfl) T.int HL.boot_int rfl) pa_nil))) (pe_one (pe_not (pe_callB call_isB (by rfl) T.isinstance HL.boot_isinstance (pa_cons (pv 0) (pa_cons (pe_bltn (v := .ty "bool") (by rfl) T.bool HL.boot_bool rfl) pa_nil)))))))), ?_⟩
    refine ⟨_, rfl, _, "int", "int", true, rfl, .base (.int i), by decide +kernel, true, rfl, iteT ?_⟩
    exact ⟨_, rfl, _, "int", "bool", false, rfl, .base (.int i), by decide +kernel, false, rfl, q⟩
/-! ### _law_same -/
def spLess (K : PySem.W.Frag) : Nat → Sp
  | 0 => fun _ _ _ _ => False
  | n + 1 => spSameG K n
theorem same_step {f fI : Addr} {fd fdI : FuncData} {n : Nat} (DLawSame : DefN K mg "_law_same" sLawSame ["actual", "expected"] f fd) (T : Txt mg) (DLawIsInteger : DefN K mg "_law_is_integer" sLawIsInteger ["actual"] fI fdI)
    (GLawSame : FnOk P w K mg base CX0 (n + 1) f fd ["actual", "expected"] (spLess K n)) : FnOk P w K mg base CX0 (n + 2) f fd ["actual", "expected"] (spSameG K n) := by
  have GLawIsInteger : FnOk P w K mg base CX0 1 fI fdI ["actual"] spIsInt := ok_isint (k := 0) DLawIsInteger T
  refine DLawSame.F.ok scLawSame (fun vs H Q E h => ?_) (fun cdv A outer s H vs Q E hr h => ?_)
  · obtain ⟨x, y, rfl, _⟩ := h
    rfl
  · obtain ⟨x, y, rfl, hs, q⟩ := h
    refine ⟨_, (pss_cons (ps_if (pt_val (pe_callB call_isiT (by rfl) T.isinstance HL.boot_isinstance (pa_cons (pv 1) (pa_cons (pe_tup (pa_cons (pe_bltn (v := .ty "list") (by rfl) T.list HL.boot_list rfl) (pa_cons (pe_bltn (v := .ty "tuple") (by rfl) T.tuple HL.boot_tuple rfl) pa_nil))) pa_nil)))) (pss_cons (ps_if (PW.pt (pw_or (pt_cmpR op_ne (pe_callB call_isB (by rfl) T.isinstance HL.boot_isinstance (pa_cons (pv 1) (pa_cons (pe_bltn (v := .ty "list") (by rfl) T.list HL.boot_list rfl) pa_nil))) (pe_callB call_isB (by rfl) T.isinstance HL.boot_isinstance (pa_cons (pv 0) (pa_cons (pe_bltn (v := .ty "list") (by rfl) T.list HL.boot_list rfl) pa_nil))) (nomark _)) (pw_or1 (pt_cmpR op_ne (pe_callB call_isB (by rfl) T.isinstance HL.boot_isinstance (pa_cons (pv 1) (pa_cons (pe_bltn (v := .ty "tuple") (by rfl) T.tuple HL.boot_tuple rfl) pa_nil))) (pe_callB call_isB (by rfl) T.isinstance HL.boot_isinstance (pa_cons (pv 0) (pa_cons (pe_bltn (v := .ty "tuple") (by rfl) T.tuple HL.boot_tuple rfl) pa_nil))) (nomark _))))) (pss_one (ps_ret pe_bl)) pss_nil)
        (pss_cons (ps_if (pt_cmpR op_ne (pe_callB call_len_seq (by rfl) T.len PySem.boot_len (pa_cons (pv 0) pa_nil)) (pe_callB call_len_seq (by rfl) T.len PySem.boot_len (pa_cons (pv 1) pa_nil)) (nomark _)) (pss_one (ps_ret pe_bl)) pss_nil)
        (pss_cons (ps_for PassesOwn.never rfl (pi_range1 (by rfl) T.range (pa_cons (pe_callB call_len_seq (by rfl) T.len PySem.boot_len (pa_cons (pv 1) pa_nil)) pa_nil)) (pg_name (i := 2) scLawSame.nd rfl (.inl rfl)) (pss_one (ps_if (pt_not (pt_val (pe_call GLawSame (hr.mono (by omega)) (by rfl) DLawSame.g DLawSame.F.kp DLawSame.b .nil pass0 (pa_cons (pe_ix ix_seq (pv 0) (pv 2) (fun _ _ => rfl)) (pa_cons (pe_ix ix_seq (pv 1) (pv 2) (fun _ _ => rfl)) pa_nil))))) (pss_one (ps_ret pe_bl)) pss_nil)))
        (pss_one (ps_ret pe_bl))))) pss_nil)
        (pss_cons (ps_if (pt_cmp (pc_isN (pv 1))) (pss_one (ps_ret (pe_cmp (pc_isN (pv 0)) rfl))) pss_nil)
        (pss_cons (ps_if (pt_val (pe_callB call_isB (by rfl) T.isinstance HL.boot_isinstance (pa_cons (pv 1) (pa_cons (pe_bltn (v := .ty "bool") (by rfl) T.bool HL.boot_bool rfl) pa_nil)))) (pss_one (ps_ret (pe_and (pe_callB call_isB (by rfl) T.isinstance HL.boot_isinstance (pa_cons (pv 0) (pa_cons (pe_bltn (v := .ty "bool") (by rfl) T.bool HL.boot_bool rfl) pa_nil))) (pe_one (pe_cmpR op_eq (pv 0) (pv 1) (nomark _)))))) pss_nil)
        (pss_cons (ps_if (pt_val (pe_callB call_isB (by rfl) T.isinstance HL.boot_isinstance (pa_cons (pv 1) (pa_cons (pe_bltn (v := .ty "int") (by rfl) T.int HL.boot_int rfl) pa_nil)))) (pss_one (ps_ret (pe_and (pe_call GLawIsInteger (hr.mono (by omega)) (by rfl) DLawIsInteger.g DLawIsInteger.F.kp DLawIsInteger.b .nil pass0 (pa_cons (pv 0) pa_nil)) (pe_one (pe_cmpR op_eq (pv 0) (pv 1) (nomark _)))))) pss_nil)
        (pss_one (ps_ret (pe_and (pe_callB call_isB (by rfl) T.isinstance HL.boot_isinstance (pa_cons (pv 0) (pa_cons (pe_bltn (v := .ty "str") (by rfl) T.str HL.boot_str rfl) pa_nil))) (pe_one (pe_cmpR op_eq (pv 0) (pv 1) (nomark _)))))))))), ?_⟩
    have t2 : 2 ≤ sizeLine := by decide
    have hs : (Leaf x ∧ x = y) ∨ ∃ (m : Nat) (t : String) (a b : Addr) (xs ys : List V), n = m + 1 ∧ x = .ref a ∧ y = .ref b ∧ IsSeq K H t a xs ∧ IsSeq K H t b ys ∧ xs.length = ys.length ∧ ys.length ≤ 1000000 ∧
        ∀ (i : Nat) (u v : V), xs[i]? = some u → ys[i]? = some v → SameD K H m u v := by
      cases n with
      | zero => exact .inl hs
      | succ m =>
        rcases hs with h | ⟨t, a, b, xs, ys, h⟩
        · exact .inl h
        · exact .inr ⟨m, t, a, b, xs, ys, rfl, h⟩
    rcases hs with ⟨lf, rfl⟩ | ⟨m, t, a, b, xs, ys, rfl, rfl, rfl, h1, h2, el, hz, hh⟩
    · cases x with
      | int i =>
        refine ⟨_, rfl, t2, fun p hp => ⟨_, p, _, .type "int", _, _, rfl, upd_same, .cons (.ty _) (.cons (.ty _) .nil), .base (.int i), kit_two (by decide +kernel : kitB "int" "list" = some false) (by decide +kernel : kitB "int" "tuple" = some false), _, rfl, iteF ?_⟩⟩
        refine ⟨_, rfl, _, rfl, iteF ?_⟩
        refine ⟨_, rfl, _, "int", "bool", false, rfl, .base (.int i), by decide +kernel, false, rfl, iteF ?_⟩
        refine ⟨_, rfl, _, "int", "int", true, rfl, .base (.int i), by decide +kernel, true, rfl, iteT ?_⟩
        refine ⟨_, rfl, i, rfl, true, rfl, iteT ⟨_, rfl, _, rfl, rfl, ?_⟩⟩
        rw [decide_eq_true rfl]
        exact q _ (same_upd hp)
      | str z =>
        refine ⟨_, rfl, t2, fun p hp => ⟨_, p, _, .type "str", _, _, rfl, upd_same, .cons (.ty _) (.cons (.ty _) .nil), .base (.str z), kit_two (by decide +kernel : kitB "str" "list" = some false) (by decide +kernel : kitB "str" "tuple" = some false), _, rfl, iteF ?_⟩⟩
        refine ⟨_, rfl, _, rfl, iteF ?_⟩
        refine ⟨_, rfl, _, "str", "bool", false, rfl, .base (.str z), by decide +kernel, false, rfl, iteF ?_⟩
        refine ⟨_, rfl, _, "str", "int", false, rfl, .base (.str z), by decide +kernel, false, rfl, iteF ?_⟩
        refine ⟨_, rfl, _, "str", "str", true, rfl, .base (.str z), by decide +kernel, true, rfl, iteT ?_⟩
        refine ⟨_, rfl, _, rfl, rfl, ?_⟩
        rw [decide_eq_true rfl]
        exact q _ (same_upd hp)
      | bl b =>
        refine ⟨_, rfl, t2, fun p hp => ⟨_, p, _, .type "bool", _, _, rfl, upd_same, .cons (.ty _) (.cons (.ty _) .nil), .base (.bl b), kit_two (by decide +kernel : kitB "bool" "list" = some false) (by decide +kernel : kitB "bool" "tuple" = some false), _, rfl, iteF ?_⟩⟩
        refine ⟨_, rfl, _, rfl, iteF ?_⟩
        refine ⟨_, rfl, _, "bool", "bool", true, rfl, .base (.bl b), by decide +kernel, true, rfl, iteT ?_⟩
        refine ⟨_, rfl, _, "bool", "bool", true, rfl, .base (.bl b), by decide +kernel, true, rfl, iteT ?_⟩
        refine ⟨_, rfl, _, rfl, rfl, ?_⟩
        rw [decide_eq_true rfl]
        exact q _ (same_upd hp)
      | non =>
        refine ⟨_, rfl, t2, fun p hp => ⟨_, p, _, .type "NoneType", _, _, rfl, upd_same, .cons (.ty _) (.cons (.ty _) .nil), .base .non, kit_two (by decide +kernel : kitB "NoneType" "list" = some false) (by decide +kernel : kitB "NoneType" "tuple" = some false), _, rfl, iteF ?_⟩⟩
        refine ⟨_, rfl, _, rfl, iteT ?_⟩
        exact ⟨_, rfl, q _ (same_upd hp)⟩
      | _ => exact (show False from lf).elim
    · have rest : ∀ (i : Nat) (u v : V), xs[i]? = some u → ys[i]? = some v → atI xs ((0 : Int) + (i : Int)) = some u ∧ atI ys ((0 : Int) + (i : Int)) = some v := fun i u v hu hv => by
        rw [Int.zero_add]
        exact ⟨atI_nat hu, atI_nat hv⟩
      have turn : ∀ i : Nat, i < (ys.length : Int).toNat → ∃ u v, xs[i]? = some u ∧ ys[i]? = some v := fun i hi => by
        have i1 : i < ys.length := by omega
        have i2 : i < xs.length := by omega
        exact ⟨_, _, List.getElem?_eq_getElem i2, List.getElem?_eq_getElem i1⟩
      rcases h1 with ⟨rfl, s1, t1⟩ | ⟨rfl, s1, t1⟩
      · rcases h2 with ⟨_, s2, t2'⟩ | ⟨z, _⟩
        · refine ⟨_, rfl, t2, fun p hp => ⟨_, p, _, .type "tuple", _, _, rfl, upd_same, .cons (.ty _) (.cons (.ty _) .nil), tyx_same (same_upd hp) t2', kit_two (by decide +kernel : kitB "tuple" "list" = some false) (by decide +kernel : kitB "tuple" "tuple" = some true), _, rfl, iteT ?_⟩⟩
          have s10 := s1
          have s20 := s2
          have s1 := seqT_same (same_upd (o := .tup [.ty "list", .ty "tuple"]) hp) s1
          have s2 := seqT_same (same_upd (o := .tup [.ty "list", .ty "tuple"]) hp) s2
          refine ⟨_, rfl, _, "tuple", "list", false, rfl, tyx_same (same_upd hp) t2', by decide +kernel, _, rfl, _, "tuple", "list", false, rfl, tyx_same (same_upd hp) t1, by decide +kernel, rfl, _, rfl, iteNS rfl ?_⟩
          refine ⟨_, rfl, _, "tuple", "tuple", true, rfl, tyx_same (same_upd hp) t2', by decide +kernel, _, rfl, _, "tuple", "tuple", true, rfl, tyx_same (same_upd hp) t1, by decide +kernel, rfl, _, rfl, iteNS rfl ?_⟩
          refine ⟨_, rfl, a, xs, rfl, .inr s1, _, rfl, b, ys, rfl, .inr s2, rfl, _, rfl, iteNS (by rw [el]) ?_⟩
          refine ⟨_, rfl, b, ys, rfl, .inr s2, _, rfl, by omega, by omega, ?_⟩
          refine for_range (lo := 0) (n := (ys.length : Int).toNat) (fun i σ H' => Same H H' ∧ ∃ y, σ = [some (.ref a), some (.ref b), y]) ⟨same_upd hp, none, rfl⟩ ?_ ?_
          · rintro i σ H' hi ⟨sm, y, rfl⟩
            obtain ⟨u, v, hu, hv⟩ := turn i hi
            obtain ⟨r1, r2⟩ := rest i u v hu hv
            exact ⟨_, rfl, _, rfl, .inr (.inl ⟨a, xs, _, u, rfl, rfl, seqT_same sm s10, r1, _, rfl, _, rfl, .inr (.inl ⟨b, ys, _, v, rfl, rfl, seqT_same sm s20, r2, u, v, rfl, sameD_same sm (hh i u v hu hv), fun H2 s2 => ⟨true, rfl, iteF ⟨sm.trans s2, _, rfl⟩⟩⟩)⟩)⟩
          · rintro σ H' ⟨sm, y, rfl⟩
            exact q _ sm
        · exact absurd z (by decide)
      · rcases h2 with ⟨z, _⟩ | ⟨_, s2, t2'⟩
        · exact absurd z (by decide)
        · refine ⟨_, rfl, t2, fun p hp => ⟨_, p, _, .type "list", _, _, rfl, upd_same, .cons (.ty _) (.cons (.ty _) .nil), tyx_same (same_upd hp) t2', kit_two (by decide +kernel : kitB "list" "list" = some true) (by decide +kernel : kitB "list" "tuple" = some false), _, rfl, iteT ?_⟩⟩
          have s10 := s1
          have s20 := s2
          have s1 := (same_upd (o := .tup [.ty "list", .ty "tuple"]) hp).seq s1
          have s2 := (same_upd (o := .tup [.ty "list", .ty "tuple"]) hp).seq s2
          refine ⟨_, rfl, _, "list", "list", true, rfl, tyx_same (same_upd hp) t2', by decide +kernel, _, rfl, _, "list", "list", true, rfl, tyx_same (same_upd hp) t1, by decide +kernel, rfl, _, rfl, iteNS rfl ?_⟩
          refine ⟨_, rfl, _, "list", "tuple", false, rfl, tyx_same (same_upd hp) t2', by decide +kernel, _, rfl, _, "list", "tuple", false, rfl, tyx_same (same_upd hp) t1, by decide +kernel, rfl, _, rfl, iteNS rfl ?_⟩
          refine ⟨_, rfl, a, xs, rfl, .inl s1, _, rfl, b, ys, rfl, .inl s2, rfl, _, rfl, iteNS (by rw [el]) ?_⟩
          refine ⟨_, rfl, b, ys, rfl, .inl s2, _, rfl, by omega, by omega, ?_⟩
          refine for_range (lo := 0) (n := (ys.length : Int).toNat) (fun i σ H' => Same H H' ∧ ∃ y, σ = [some (.ref a), some (.ref b), y]) ⟨same_upd hp, none, rfl⟩ ?_ ?_
          · rintro i σ H' hi ⟨sm, y, rfl⟩
            obtain ⟨u, v, hu, hv⟩ := turn i hi
            obtain ⟨r1, r2⟩ := rest i u v hu hv
            exact ⟨_, rfl, _, rfl, .inl ⟨a, xs, _, u, rfl, rfl, sm.seq s10, r1, _, rfl, _, rfl, .inl ⟨b, ys, _, v, rfl, rfl, sm.seq s20, r2, u, v, rfl, sameD_same sm (hh i u v hu hv), fun H2 s2 => ⟨true, rfl, iteF ⟨sm.trans s2, _, rfl⟩⟩⟩⟩⟩
          · rintro σ H' ⟨sm, y, rfl⟩
            exact q _ sm
theorem ok_same {f fI : Addr} {fd fdI : FuncData} (DLawSame : DefN K mg "_law_same" sLawSame ["actual", "expected"] f fd) (T : Txt mg) (DLawIsInteger : DefN K mg "_law_is_integer" sLawIsInteger ["actual"] fI fdI) : ∀ n, FnOk P w K mg base CX0 (n + 2) f fd ["actual", "expected"] (spSameG K n)
  | 0 => same_step DLawSame T DLawIsInteger (DLawSame.F.ok scLawSame (fun vs H Q E h => (show False from h).elim) (fun cdv A outer s H vs Q E hr h => (show False from h).elim))
  | n + 1 => same_step DLawSame T DLawIsInteger (ok_same DLawSame T DLawIsInteger n)
end
end Q09
namespace Q09
open PySem PySem.Spec PyProof.Rows L2 SX HL
/-- a type: how many times list, and its base -/
abbrev Kd := Int × Key
/-! ### types in the heap -/
def OkB (k : Key) : Prop := ∀ s, k = .inr s → PyData.canLay0 (.str s) = true
def KAt (H : Hp) (v : V) (k : Kd) : Prop := ∃ a, v = .ref a ∧ H a = some (.tup [.int k.1, kV k.2]) ∧ OkB k.2
inductive KL (H : Hp) : List V → List Kd → Prop
  | nil : KL H [] []
  | cons {v : V} {vs : List V} {k : Kd} {ks : List Kd} : KAt H v k → KL H vs ks → KL H (v :: vs) (k :: ks)
def Tups (H H' : Hp) : Prop := ∀ a xs, H a = some (.tup xs) → H' a = some (.tup xs)
theorem _root_.L2.Same.tups {H H' : Hp} (s : Same H H') : Tups H H' := fun a _ h => s a _ h
theorem Tups.trans {H H1 H2 : Hp} (a : Tups H H1) (b : Tups H1 H2) : Tups H H2 := fun c x h => b c x (a c x h)
theorem KAt.mono {H H' : Hp} {v : V} {k : Kd} (h : KAt H v k) (s : Tups H H') : KAt H' v k := by
  obtain ⟨a, rfl, e, g⟩ := h
  exact ⟨a, rfl, s _ _ e, g⟩
theorem KL.mono {H H' : Hp} {vs : List V} {ks : List Kd} (h : KL H vs ks) (s : Tups H H') : KL H' vs ks := by
  induction h with
  | nil => exact .nil
  | cons a _ ih => exact .cons (a.mono s) ih
theorem KL.len {H : Hp} {vs : List V} {ks : List Kd} (h : KL H vs ks) : vs.length = ks.length := by
  induction h with
  | nil => rfl
  | cons _ _ ih => simp [ih]
theorem KL.app {H : Hp} {vs us : List V} {ks ls : List Kd} (h : KL H vs ks) (g : KL H us ls) : KL H (vs ++ us) (ks ++ ls) := by
  induction h with
  | nil => exact g
  | cons a _ ih => exact .cons a ih
theorem KL.snoc {H : Hp} {vs : List V} {v : V} {ks : List Kd} {k : Kd} (h : KL H vs ks) (g : KAt H v k) : KL H (vs ++ [v]) (ks ++ [k]) := h.app (.cons g .nil)
theorem KL.at {H : Hp} {vs : List V} {ks : List Kd} (h : KL H vs ks) {i : Nat} {v : V} (e : vs[i]? = some v) : ∃ k, ks[i]? = some k ∧ KAt H v k := by
  induction h generalizing i with
  | nil => simp at e
  | @cons u us k ks a _ ih =>
    cases i with
    | zero => simp at e; subst e; exact ⟨k, rfl, a⟩
    | succ i => simpa using ih (by simpa using e)
theorem KL.get {H : Hp} {vs : List V} {ks : List Kd} (h : KL H vs ks) {i : Nat} (hi : i < ks.length) : ∃ v k, vs[i]? = some v ∧ ks[i]? = some k ∧ KAt H v k := by
  have hv : i < vs.length := by rw [h.len]; exact hi
  obtain ⟨k, hk, a⟩ := h.at (List.getElem?_eq_getElem hv)
  exact ⟨_, k, List.getElem?_eq_getElem hv, hk, a⟩
theorem tyI {K : PySem.W.Frag} {H : Hp} (k : Key) : ∃ T b, TyX K H (kV k) (.type T) ∧ kitB T "int" = some b ∧ b = k.isLeft := by
  cases k with
  | inl i => exact ⟨"int", true, .base (.int i), by decide +kernel, rfl⟩
  | inr s => exact ⟨"str", false, .base (.str s), by decide +kernel, rfl⟩
theorem kept_tups {H H' : Hp} {N : Addr} (s : Kept H H' N) (h : ∀ xs, H N ≠ some (.tup xs)) : Tups H H' := fun a xs e => s a _ (fun z => h xs (by rw [← z]; exact e)) e
def okB : Key → Bool
  | .inl _ => true
  | .inr s => PyData.canLay0 (.str s)
theorem okB_iff {k : Key} (h : okB k = true) : OkB k := fun s e => by subst e; exact h
theorem pickK (ks : List Key) (h : ks.all okB = true) {j : Int} (h0 : 0 ≤ j) (h1 : j < (ks.length : Int)) : ∃ k, atI (ks.map kV) j = some (kV k) ∧ OkB k := by
  have hj : j.toNat < ks.length := by omega
  refine ⟨ks[j.toNat], ?_, okB_iff (List.all_eq_true.mp h _ (List.getElem_mem hj))⟩
  have h := atI_nat (xs := ks.map kV) (j := j.toNat) (v := kV ks[j.toNat]) (by simp [hj])
  have e : ((j.toNat : Nat) : Int) = j := by omega
  rwa [e] at h
section
variable {K : PySem.W.Frag}
def kD : Key → PyData
  | .inl i => .int i
  | .inr s => .str s
theorem dpK {H : Hp} (k : Key) : Dp K H (kV k) (kD k) := by
  cases k with
  | inl i => exact .int i
  | inr s => exact .str s
theorem KAt.okB {H : Hp} {v : V} {k : Kd} (h : KAt H v k) : OkB k.2 := by
  obtain ⟨_, _, _, g⟩ := h
  exact g
theorem KAt.dp {H : Hp} {v : V} {k : Kd} (h : KAt H v k) : Dp K H v (.tuple [.int k.1, kD k.2]) := by
  obtain ⟨a, rfl, e, _⟩ := h
  exact .tup (SqT.of e) (.cons (.int _) (.cons (dpK _) .nil))
theorem kD_shaped (i : Int) {k : Key} (h : OkB k) : SeqAt.shaped (.tuple [.int i, kD k]) = true := by
  cases k with
  | inl i => rfl
  | inr s =>
    have e := h s rfl
    simp [SeqAt.shaped, PyData.canLay0, PyData.canLayAll0, kD, PyData.depth, PyData.depthAll] at e ⊢
    exact e
theorem kD_eqv (a b : Kd) : PyData.eqv (.tuple [.int a.1, kD a.2]) (.tuple [.int b.1, kD b.2]) = decide (a = b) := by
  obtain ⟨i, x⟩ := a
  obtain ⟨j, y⟩ := b
  rw [Bool.eq_iff_iff, decide_eq_true_iff]
  cases x <;> cases y <;> simp [PyData.eqv, PyData.eqvAll, kD]
end
theorem putK_none {kvs : List (Key × V)} {k : Key} {v : V} (h : valV kvs k = none) : putK kvs k v = kvs ++ [(k, v)] := by
  unfold putK
  rw [if_neg]
  intro z
  obtain ⟨⟨k', w⟩, hx, e⟩ := List.any_eq_true.mp z
  unfold valV at h
  cases q : kvs.find? fun kv => decide (kv.1 = k) with
  | none => exact List.find?_eq_none.mp q _ hx e
  | some y => rw [q] at h; cases h
end Q09
namespace Q09
open PySem PySem.Spec PyProof.Rows L2 SX HL
/-! ### equations of types -/
def EK (E : Int → Kd) : Key → Kd
  | .inl u => E u
  | .inr s => (0, .inr s)
/-- a type, its variable replaced -/
def en (E : Int → Kd) (k : Kd) : Kd := (k.1 + (EK E k.2).1, (EK E k.2).2)
def NN (θ : Int → Kd) : Prop := ∀ v, 0 ≤ (θ v).1
def Sol (θ E : Int → Kd) : Prop := ∀ v, θ v = en θ (E v)
/-- what is bound, what it comes to, how far it is -/
structure Good (L : Int → Option Kd) (E : Int → Kd) (d : Int → Nat) : Prop where
  out : ∀ v, L v = none → E v = (0, .inl v) ∧ d v = 0
  inn : ∀ v k, L v = some k → 0 ≤ k.1 ∧ E v = en E k ∧ 0 < d v ∧ ∀ u, k.2 = .inl u → d u < d v
theorem Good.ends {L : Int → Option Kd} {E : Int → Kd} {d : Int → Nat} (g : Good L E d) : ∀ (n : Nat) (v : Int), d v ≤ n → 0 ≤ (E v).1 ∧ ∀ u, (E v).2 = .inl u → L u = none := by
  intro n
  induction n with
  | zero =>
    intro v hv
    cases e : L v with
    | none =>
      rw [(g.out v e).1]
      exact ⟨Int.le_refl _, fun u hu => by cases hu; exact e⟩
    | some k =>
      have := (g.inn v k e).2.2.1
      omega
  | succ n ih =>
    intro v hv
    cases e : L v with
    | none =>
      rw [(g.out v e).1]
      exact ⟨Int.le_refl _, fun u hu => by cases hu; exact e⟩
    | some k =>
      obtain ⟨h0, h1, h2, h3⟩ := g.inn v k e
      rw [h1]
      unfold en
      cases eb : k.2 with
      | inr s => exact ⟨by show 0 ≤ k.1 + 0; omega, fun u hu => by cases hu⟩
      | inl u =>
        obtain ⟨i1, i2⟩ := ih u (by have := h3 u eb; omega)
        exact ⟨by show 0 ≤ k.1 + (E u).1; omega, i2⟩
theorem Good.nn {L : Int → Option Kd} {E : Int → Kd} {d : Int → Nat} (g : Good L E d) : NN E := fun v => (g.ends _ v (Nat.le_refl _)).1
theorem Good.fin {L : Int → Option Kd} {E : Int → Kd} {d : Int → Nat} (g : Good L E d) {v u : Int} (h : (E v).2 = .inl u) : L u = none := (g.ends _ v (Nat.le_refl _)).2 u h
theorem Good.ekn {L : Int → Option Kd} {E : Int → Kd} {d : Int → Nat} (g : Good L E d) (b : Key) : 0 ≤ (EK E b).1 := by
  cases b with
  | inl u => exact g.nn u
  | inr s => exact Int.le_refl _
theorem Good.ekf {L : Int → Option Kd} {E : Int → Kd} {d : Int → Nat} (g : Good L E d) {b : Key} {u : Int} (h : (EK E b).2 = .inl u) : L u = none := by
  cases b with
  | inl v => exact g.fin h
  | inr s => cases h
theorem Good.idem {L : Int → Option Kd} {E : Int → Kd} {d : Int → Nat} (g : Good L E d) (k : Kd) : en E (en E k) = en E k := by
  unfold en
  have : EK E (EK E k.2).2 = (0, (EK E k.2).2) := by
    cases e : (EK E k.2).2 with
    | inr s => rfl
    | inl u => exact (g.out u (g.ekf e)).1
  dsimp only
  rw [this]
  simp
theorem Good.self {L : Int → Option Kd} {E : Int → Kd} {d : Int → Nat} (g : Good L E d) : Sol E E := fun v => by
  have h : en E (0, .inl v) = E v := by
    show (0 + (E v).1, (E v).2) = E v
    rw [Int.zero_add]
  have := g.idem (0, .inl v)
  rw [h] at this
  exact this.symm
theorem sol_en {θ E : Int → Kd} (h : Sol θ E) (k : Kd) : en θ (en E k) = en θ k := by
  unfold en
  cases e : k.2 with
  | inr s => simp [EK]
  | inl v =>
    show (k.1 + (E v).1 + (EK θ (E v).2).1, (EK θ (E v).2).2) = (k.1 + (θ v).1, (θ v).2)
    have : θ v = ((E v).1 + (EK θ (E v).2).1, (EK θ (E v).2).2) := h v
    rw [this, Int.add_assoc]
/-- a free variable gets a type -/
def bindE (E : Int → Kd) (v : Int) (k : Kd) : Int → Kd := fun x => if (E x).2 = .inl v then ((E x).1 + k.1, k.2) else E x
def bindD (L : Int → Option Kd) (d : Int → Nat) (v : Int) : Int → Nat := fun x => if x = v then 1 else if L x = none then 0 else d x + 1
theorem Good.bind {L L2 : Int → Option Kd} {E : Int → Kd} {d : Int → Nat} (g : Good L E d) {v : Int} {k : Kd} (hv : L v = none) (hk : 0 ≤ k.1) (hne : k.2 ≠ .inl v) (hf : ∀ u, k.2 = .inl u → L u = none)
    (h2 : ∀ x, L2 x = if x = v then some k else L x) : Good L2 (bindE E v k) (bindD L d v) ∧ ∀ θ, Sol θ (bindE E v k) ↔ Sol θ E ∧ θ v = en θ k := by
  have ev : E v = (0, .inl v) := (g.out v hv).1
  have ebv : bindE E v k v = (0 + k.1, k.2) := by
    unfold bindE
    rw [ev, if_pos rfl]
  refine ⟨⟨fun x hx => ?_, fun x j hx => ?_⟩, fun θ => ⟨fun h => ?_, fun h x => ?_⟩⟩
  · rw [h2] at hx
    by_cases e : x = v
    · rw [if_pos e] at hx; cases hx
    · rw [if_neg e] at hx
      obtain ⟨g1, _⟩ := g.out x hx
      unfold bindE bindD
      rw [g1, if_neg (fun z => e (Sum.inl.inj z)), if_neg e, if_pos hx]
      exact ⟨rfl, rfl⟩
  · rw [h2] at hx
    by_cases e : x = v
    · subst e
      rw [if_pos rfl] at hx
      cases hx
      refine ⟨hk, ?_, ?_, fun u hu => ?_⟩
      · rw [ebv]
        unfold en
        cases eb : k.2 with
        | inr s => simp [EK]
        | inl u =>
          have hu := hf u eb
          have e1 : E u = (0, .inl u) := (g.out u hu).1
          have e2 : bindE E x k u = (0, .inl u) := by
            unfold bindE
            rw [e1, if_neg (fun z => hne (by rw [eb]; exact z))]
          show (0 + k.1, Sum.inl u) = (k.1 + (bindE E x k u).1, (bindE E x k u).2)
          rw [e2]
          simp
      · unfold bindD
        rw [if_pos rfl]
        exact Nat.one_pos
      · unfold bindD
        rw [if_pos rfl, if_neg (fun z => hne (by rw [hu, z])), if_pos (hf u hu)]
        exact Nat.one_pos
    · rw [if_neg e] at hx
      obtain ⟨a0, a1, a2, a3⟩ := g.inn x j hx
      have nx : ¬ L x = none := by rw [hx]; simp
      refine ⟨a0, ?_, ?_, fun u hu => ?_⟩
      · unfold bindE
        rw [a1]
        unfold en
        cases eb : j.2 with
        | inr s => simp [EK]
        | inl u =>
          show (if (E u).2 = Sum.inl v then (j.1 + (E u).1 + k.1, k.2) else (j.1 + (E u).1, (E u).2)) = (j.1 + (if (E u).2 = Sum.inl v then ((E u).1 + k.1, k.2) else E u).1, (if (E u).2 = Sum.inl v then ((E u).1 + k.1, k.2) else E u).2)
          by_cases z : (E u).2 = Sum.inl v
          · rw [if_pos z, if_pos z, Int.add_assoc]
          · rw [if_neg z, if_neg z]
      · unfold bindD
        rw [if_neg e, if_neg nx]
        omega
      · have := a3 u hu
        unfold bindD
        rw [if_neg e, if_neg nx]
        by_cases z : u = v
        · rw [if_pos z]; omega
        · rw [if_neg z]
          split
          · omega
          · omega
  · have hv2 : θ v = en θ k := by
      have := h v
      rw [ebv, Int.zero_add] at this
      exact this
    refine ⟨fun x => ?_, hv2⟩
    have := h x
    unfold bindE at this
    by_cases z : (E x).2 = Sum.inl v
    · rw [if_pos z] at this
      rw [this]
      have e3 : en θ (E x) = ((E x).1 + (θ v).1, (θ v).2) := by
        unfold en
        rw [z]
        rfl
      rw [e3, hv2]
      unfold en
      dsimp only
      rw [Int.add_assoc]
    · rw [if_neg z] at this
      exact this
  · obtain ⟨hs, hv2⟩ := h
    unfold bindE
    by_cases z : (E x).2 = Sum.inl v
    · rw [if_pos z]
      have := hs x
      rw [this]
      have e3 : en θ (E x) = ((E x).1 + (θ v).1, (θ v).2) := by
        unfold en
        rw [z]
        rfl
      rw [e3, hv2]
      unfold en
      dsimp only
      rw [Int.add_assoc]
    · rw [if_neg z]
      exact hs x
/-- the way is made shorter -/
theorem Good.short {L L2 : Int → Option Kd} {E : Int → Kd} {d : Int → Nat} (g : Good L E d) {v : Int} {j : Kd} (hv : L v = some j) (h2 : ∀ x, L2 x = if x = v then some (E v) else L x) : Good L2 E d := by
  refine ⟨fun x hx => ?_, fun x k hx => ?_⟩
  · rw [h2] at hx
    by_cases e : x = v
    · rw [if_pos e] at hx; cases hx
    · rw [if_neg e] at hx
      exact g.out x hx
  · rw [h2] at hx
    by_cases e : x = v
    · subst e
      rw [if_pos rfl] at hx
      cases hx
      obtain ⟨a0, a1, a2, a3⟩ := g.inn x j hv
      exact ⟨g.nn x, g.self x, a2, fun u hu => by rw [(g.out u (g.fin hu)).2]; exact a2⟩
    · rw [if_neg e] at hx
      exact g.inn x k hx
theorem Good.nil : Good (fun _ => none) (fun v => (0, .inl v)) (fun _ => 0) := ⟨fun _ _ => ⟨rfl, rfl⟩, fun _ _ h => by cases h⟩
theorem Good.ext {L L2 : Int → Option Kd} {E : Int → Kd} {d : Int → Nat} (g : Good L E d) (h : ∀ x, L2 x = L x) : Good L2 E d := ⟨fun v hv => g.out v (by rw [← h]; exact hv), fun v k hv => g.inn v k (by rw [← h]; exact hv)⟩
/-! ### two ended types made equal -/
theorem eq_same {θ : Int → Kd} {a b : Kd} (h : a.2 = b.2) : en θ a = en θ b ↔ a.1 = b.1 := by
  unfold en
  rw [h]
  constructor
  · intro e
    have := congrArg Prod.fst e
    dsimp only at this
    omega
  · intro e
    rw [e]
theorem eq_var {θ : Int → Kd} {a b : Kd} {v : Int} (h : a.2 = .inl v) (hab : a.1 ≤ b.1) : en θ a = en θ b ↔ θ v = en θ (b.1 - a.1, b.2) := by
  unfold en
  rw [h]
  show (a.1 + (θ v).1, (θ v).2) = (b.1 + (EK θ b.2).1, (EK θ b.2).2) ↔ θ v = (b.1 - a.1 + (EK θ b.2).1, (EK θ b.2).2)
  constructor
  · intro e
    have e1 := congrArg Prod.fst e
    have e2 := congrArg Prod.snd e
    dsimp only at e1 e2
    refine Prod.ext ?_ e2
    dsimp only
    omega
  · intro e
    rw [e]
    refine Prod.ext ?_ rfl
    dsimp only
    omega
theorem eq_never {θ : Int → Kd} (nn : NN θ) {a b : Kd} {s : Str} (h : a.2 = .inr s) (hne : a.2 ≠ b.2) (hab : a.1 ≤ b.1) (hb : ∀ v, b.2 = .inl v → a.1 ≠ b.1) : en θ a ≠ en θ b := by
  unfold en
  rw [h] at hne ⊢
  intro e
  have e1 := congrArg Prod.fst e
  have e2 := congrArg Prod.snd e
  dsimp only [EK] at e1 e2
  cases eb : b.2 with
  | inr t =>
    rw [eb] at e2
    exact hne (by rw [eb]; exact e2)
  | inl v =>
    rw [eb] at e1
    have h1 := nn v
    have h2 := hb v eb
    have e1 : a.1 + 0 = b.1 + (θ v).1 := e1
    omega
end Q09
namespace Q09
open PySem PySem.Spec PyProof.Rows L2 SX HL
/-! ### the dict of what is found -/
inductive FL (H : Hp) : List (Key × V) → List (Int × Kd) → Prop
  | nil : FL H [] []
  | cons {v : V} {i : Int} {k : Kd} {kvs : List (Key × V)} {fs : List (Int × Kd)} : KAt H v k → FL H kvs fs → FL H ((.inl i, v) :: kvs) ((i, k) :: fs)
def FD (H : Hp) (f : Addr) (fs : List (Int × Kd)) : Prop := ∃ kvs, H f = some (.dK kvs) ∧ FL H kvs fs
def look : List (Int × Kd) → Int → Option Kd
  | [], _ => none
  | p :: r, i => if p.1 = i then some p.2 else look r i
def setF (fs : List (Int × Kd)) (v : Int) (k : Kd) : List (Int × Kd) := if (fs.any fun p => decide (p.1 = v)) = true then fs.map (fun p => if p.1 = v then (v, k) else p) else fs ++ [(v, k)]
theorem look_any (fs : List (Int × Kd)) (v : Int) : (fs.any fun p => decide (p.1 = v)) = (look fs v).isSome := by
  induction fs with
  | nil => rfl
  | cons p r ih =>
    rw [List.any_cons, ih]
    by_cases e : p.1 = v <;> simp [look, e]
theorem look_map (fs : List (Int × Kd)) (v u : Int) (k : Kd) : look (fs.map (fun p => if p.1 = v then (v, k) else p)) u = if u = v then (if (look fs v).isSome then some k else none) else look fs u := by
  induction fs with
  | nil => simp [look]
  | cons p r ih =>
    rw [List.map_cons]
    by_cases e : p.1 = v
    · rw [if_pos e]
      by_cases g : v = u
      · subst g; simp [look, e]
      · have g' : ¬ u = v := fun z => g z.symm
        have g2 : ¬ p.1 = u := fun z => g (e.symm.trans z)
        rw [if_neg g'] at ih ⊢
        simp [look, g, g2, ih]
    · rw [if_neg e]
      by_cases g : p.1 = u
      · have : ¬ u = v := fun z => e (g.trans z)
        simp [look, g, this]
      · simp [look, g, e, ih]
theorem look_app (fs : List (Int × Kd)) (v u : Int) (k : Kd) (h : look fs v = none) : look (fs ++ [(v, k)]) u = if u = v then some k else look fs u := by
  induction fs with
  | nil =>
    by_cases g : v = u
    · simp [look, g]
    · have g' : ¬ u = v := fun z => g z.symm
      rw [if_neg g']
      simp [look, g]
  | cons p r ih =>
    have e : ¬ p.1 = v := fun z => by simp [look, z] at h
    have h' : look r v = none := by simpa [look, e] using h
    by_cases g : p.1 = u
    · have : ¬ u = v := fun z => e (g.trans z)
      simp [look, g, this]
    · have := ih h'
      simp [look, g, this]
theorem look_set (fs : List (Int × Kd)) (v u : Int) (k : Kd) : look (setF fs v k) u = if u = v then some k else look fs u := by
  unfold setF
  rw [look_any]
  by_cases h : (look fs v).isSome = true
  · rw [if_pos h, look_map, if_pos h]
  · rw [if_neg h]
    exact look_app fs v u k (by simpa using h)
theorem setF_len (fs : List (Int × Kd)) (v : Int) (k : Kd) : (setF fs v k).length ≤ fs.length + 1 ∧ (look fs v ≠ none → (setF fs v k).length = fs.length) := by
  unfold setF
  rw [look_any]
  split
  · simp
  · rename_i h
    refine ⟨by simp, fun z => ?_⟩
    cases e : look fs v with
    | none => exact absurd e z
    | some x => rw [e] at h; exact absurd rfl h
theorem FL.mono {H H' : Hp} {kvs : List (Key × V)} {fs : List (Int × Kd)} (h : FL H kvs fs) (s : Tups H H') : FL H' kvs fs := by
  induction h with
  | nil => exact .nil
  | cons a _ ih => exact .cons (a.mono s) ih
theorem FL.len {H : Hp} {kvs : List (Key × V)} {fs : List (Int × Kd)} (h : FL H kvs fs) : kvs.length = fs.length := by
  induction h with
  | nil => rfl
  | cons _ _ ih => simp [ih]
theorem FL.str {H : Hp} {kvs : List (Key × V)} {fs : List (Int × Kd)} (h : FL H kvs fs) (s : Str) : valV kvs (.inr s) = none := by
  induction h with
  | nil => rfl
  | cons _ _ ih => rw [valV_neg (by simp)]; exact ih
theorem FL.val {H : Hp} {kvs : List (Key × V)} {fs : List (Int × Kd)} (h : FL H kvs fs) (i : Int) : (look fs i = none ∧ valV kvs (.inl i) = none) ∨ ∃ u v, look fs i = some u ∧ valV kvs (.inl i) = some v ∧ KAt H v u := by
  induction h with
  | nil => exact .inl ⟨rfl, rfl⟩
  | @cons v j k kvs fs a r ih =>
    by_cases e : j = i
    · exact .inr ⟨k, v, by simp [look, e], valV_pos (by rw [e]), a⟩
    · have e1 : look ((j, k) :: fs) i = look fs i := by simp [look, e]
      rw [e1, valV_neg (by simpa using e)]
      exact ih
theorem FL.any {H : Hp} {kvs : List (Key × V)} {fs : List (Int × Kd)} (h : FL H kvs fs) (i : Int) : (kvs.any fun kv => decide (kv.1 = .inl i)) = fs.any fun p => decide (p.1 = i) := by
  induction h with
  | nil => rfl
  | cons _ _ ih => simp only [List.any_cons, ih, Sum.inl.injEq]
theorem FL.map {H : Hp} {kvs : List (Key × V)} {fs : List (Int × Kd)} (h : FL H kvs fs) {v : V} {i : Int} {k : Kd} (g : KAt H v k) : FL H (kvs.map fun kv => if kv.1 = .inl i then (kv.1, v) else kv) (fs.map (fun p => if p.1 = i then (i, k) else p)) := by
  induction h with
  | nil => exact .nil
  | @cons w j k' kvs fs a r ih =>
    rw [List.map_cons, List.map_cons]
    by_cases e : j = i
    · subst e
      simp only [if_true]
      exact .cons g ih
    · rw [if_neg (by simpa using e), if_neg e]
      exact .cons a ih
theorem FL.snoc {H : Hp} {kvs : List (Key × V)} {fs : List (Int × Kd)} (h : FL H kvs fs) {v : V} {i : Int} {k : Kd} (g : KAt H v k) : FL H (kvs ++ [(.inl i, v)]) (fs ++ [(i, k)]) := by
  induction h with
  | nil => exact .cons g .nil
  | cons a r ih => exact .cons a ih
theorem FL.put {H : Hp} {kvs : List (Key × V)} {fs : List (Int × Kd)} (h : FL H kvs fs) {v : V} {i : Int} {k : Kd} (g : KAt H v k) : FL H (putK kvs (.inl i) v) (setF fs i k) := by
  unfold putK setF
  rw [h.any]
  split
  · exact h.map g
  · exact h.snoc g
def Bin (fs : List (Int × Kd)) (Bs : List Key) : Prop := ∀ v k, look fs v = some k → Sum.inl v ∈ Bs ∧ k.2 ∈ Bs
theorem Bin.set {fs : List (Int × Kd)} {Bs : List Key} (h : Bin fs Bs) {v : Int} {k : Kd} (hv : Sum.inl v ∈ Bs) (hk : k.2 ∈ Bs) : Bin (setF fs v k) Bs := fun u j hj => by
  rw [look_set] at hj
  by_cases e : u = v
  · rw [if_pos e] at hj
    cases hj
    rw [e]
    exact ⟨hv, hk⟩
  · rw [if_neg e] at hj
    exact h u j hj
theorem Bin.en {fs : List (Int × Kd)} {Bs : List Key} {E : Int → Kd} {d : Int → Nat} (h : Bin fs Bs) (g : Good (look fs) E d) : ∀ (n : Nat) (v : Int), d v ≤ n → Sum.inl v ∈ Bs → (E v).2 ∈ Bs := by
  intro n
  induction n with
  | zero =>
    intro v hv hb
    cases e : look fs v with
    | none => rw [(g.out v e).1]; exact hb
    | some k =>
      have := (g.inn v k e).2.2.1
      omega
  | succ n ih =>
    intro v hv hb
    cases e : look fs v with
    | none => rw [(g.out v e).1]; exact hb
    | some k =>
      obtain ⟨h0, h1, h2, h3⟩ := g.inn v k e
      have hk := (h v k e).2
      rw [h1]
      show (EK E k.2).2 ∈ Bs
      cases eb : k.2 with
      | inr s => rw [eb] at hk; exact hk
      | inl u =>
        rw [eb] at hk
        exact ih u (by have := h3 u eb; omega) hk
theorem Bin.ek {fs : List (Int × Kd)} {Bs : List Key} {E : Int → Kd} {d : Int → Nat} (h : Bin fs Bs) (g : Good (look fs) E d) {b : Key} (hb : b ∈ Bs) : (EK E b).2 ∈ Bs := by
  cases b with
  | inr s => exact hb
  | inl u => exact h.en g _ u (Nat.le_refl _) hb
/-- how far a base is -/
def dK (d : Int → Nat) : Key → Nat
  | .inl u => d u
  | .inr _ => 0
theorem en_end {L : Int → Option Kd} {E : Int → Kd} {d : Int → Nat} (g : Good L E d) {l : Int} {b : Key} (h : ∀ u, b = .inl u → L u = none) : en E (l, b) = (l, b) := by
  unfold en
  cases b with
  | inr s => simp [EK]
  | inl u =>
    show (l + (E u).1, (E u).2) = _
    rw [(g.out u (h u rfl)).1]
    simp
theorem en_step {L : Int → Option Kd} {E : Int → Kd} {d : Int → Nat} (g : Good L E d) {l : Int} {u : Int} {j : Kd} (h : L u = some j) : en E (l + j.1, j.2) = en E (l, .inl u) := by
  obtain ⟨_, h1, _, _⟩ := g.inn u j h
  show (l + j.1 + (EK E j.2).1, (EK E j.2).2) = (l + (E u).1, (E u).2)
  rw [h1]
  unfold en
  dsimp only
  rw [Int.add_assoc]
theorem dK_step {L : Int → Option Kd} {E : Int → Kd} {d : Int → Nat} (g : Good L E d) {u : Int} {j : Kd} (h : L u = some j) : dK d j.2 < d u := by
  obtain ⟨_, _, h2, h3⟩ := g.inn u j h
  cases e : j.2 with
  | inr s => exact h2
  | inl x => exact h3 x e
section
variable {P : Program} {w : World} {K : PySem.W.Frag} {mg : Str → Option Value} {base : Heap}
/-! ### replaced -/
def spReplaced : Sp := fun vs H Q _ => ∃ (v : V) (f : Addr) (k : Kd) (fs : List (Int × Kd)) (E : Int → Kd) (d : Int → Nat), vs = [v, .ref f] ∧ KAt H v k ∧ FD H f fs ∧ Good (look fs) E d ∧ (∀ s, (en E k).2 = .inr s → OkB (.inr s)) ∧
  ∀ H' u, Same H H' → KAt H' u (en E k) → Q u H'
theorem ok_replaced {f : Addr} {fd : FuncData} {n : Nat} (D : DefN K mg "replaced" sReplaced ["kind", "found"] f fd) (T : Txt mg) : FnOk P w K mg base CX0 (n + 1) f fd ["kind", "found"] spReplaced := by
  refine D.F.ok scReplaced (fun vs H Q E h => ?_) (fun cdv A outer s H vs Q E0 hr h => ?_)
  · obtain ⟨v, f, k, fs, E, d, rfl, _⟩ := h
    rfl
  · obtain ⟨v, f, k, fs, E, d, rfl, hk, ⟨kvs, hf, hfl⟩, g, okE, qq⟩ := h
    refine ⟨_, (pss_cons (ps_asg (pv 0) (pg_tup rfl (pgs_cons (pg_name (i := 2) scReplaced.nd rfl (.inl rfl)) (pgs_cons (pg_name (i := 3) scReplaced.nd rfl (.inl rfl)) pgs_nil))))
        (pss_cons (ps_while PassesOwn.never (pt_cmp (pc_din (hu_of hr) (pv 3) (pv 1))) (pss_cons (ps_asg (pe_dget (hu_of hr) (pv 1) (pv 3) (fun _ _ => rfl)) (pg_tup rfl (pgs_cons (pg_name (i := 4) scReplaced.nd rfl (.inl rfl)) (pgs_cons (pg_name (i := 3) scReplaced.nd rfl (.inl rfl)) pgs_nil))))
        (pss_one (ps_aug (i := 2) scReplaced.nd rfl (.inl rfl) (pv 4) ip_add))))
        (pss_one (ps_ret (pe_tup (pa_cons (pv 2) (pa_cons (pv 3) pa_nil))))))), ?_⟩
    obtain ⟨a, rfl, ha, oka⟩ := hk
    refine ⟨_, rfl, a, _, rfl, SqT.of ha, rfl, _, _, rfl, _, _, rfl, rfl, ?_⟩
    refine ⟨fun m σ H' => ∃ (l : Int) (b : Key) (y4 : Option V), σ = [some (.ref a), some (.ref f), some (.int l), some (kV b), y4] ∧ H' = H ∧ en E (l, b) = en E k ∧ m = dK d b, ⟨_, k.1, k.2, none, rfl, rfl, rfl, rfl⟩, ?_⟩
    rintro m σ H' ⟨l, b, y4, rfl, rfl, hen, rfl⟩
    have fin : (∀ u, b = .inl u → look fs u = none) → ∀ t, H' t = none → Q (.ref t) (upd H' t (.tup [.int l, kV b])) := fun h t ht => by
      have e := en_end g (l := l) h
      rw [hen] at e
      refine qq _ _ (same_upd ht) ⟨t, rfl, by rw [upd_same, e], fun s hs => okE s hs s rfl⟩
    cases b with
    | inr s =>
      refine ⟨_, rfl, _, rfl, f, _, rfl, DGet.k (k := .inr s) hf, _, rfl, ?_⟩
      rw [hfl.str]
      exact iteF ⟨_, rfl, _, rfl, (by show 2 ≤ sizeLine; decide), fun t ht => fin (fun u hu => by cases hu) t ht⟩
    | inl u =>
      refine ⟨_, rfl, _, rfl, f, _, rfl, DGet.k (k := .inl u) hf, _, rfl, ?_⟩
      rcases hfl.val u with ⟨h1, h2⟩ | ⟨j, v, h1, h2, hj⟩
      · rw [h2]
        exact iteF ⟨_, rfl, _, rfl, (by show 2 ≤ sizeLine; decide), fun t ht => fin (fun u' hu => by cases hu; exact h1) t ht⟩
      · rw [h2]
        obtain ⟨c, rfl, hc, okc⟩ := hj
        refine iteT ⟨fun σ' H2 => ∃ (l' : Int) (b' : Key) (y4 : Option V), σ' = [some (.ref a), some (.ref f), some (.int l'), some (kV b'), y4] ∧ H2 = H' ∧ en E (l', b') = en E k ∧ dK d b' < dK d (.inl u), ?_, ?_⟩
        · rintro σ' H2 ⟨l', b', y, e1, e2, e3, e4⟩
          exact ⟨_, e4, l', b', y, e1, e2, e3, rfl⟩
        · refine ⟨_, rfl, _, rfl, f, .ref c, rfl, by rw [← h2]; exact DGet.k (k := .inl u) hf, c, _, rfl, SqT.of hc, rfl, _, _, rfl, _, _, rfl, rfl, ?_⟩
          exact ⟨_, rfl, _, rfl, _, _, rfl, rfl, l + j.1, j.2, _, rfl, rfl, (en_step g h1).trans hen, dK_step g h1⟩
end
end Q09
namespace Q09
open PySem PySem.Spec PyProof.Rows L2 SX HL
section
variable {P : Program} {w : World} {K : PySem.W.Frag} {mg : Str → Option Value} {base : Heap}
/-! ### _law_put -/
def spPut : Sp := fun vs H Q _ => ∃ (v : V) (f : Addr) (k : Kd) (fs : List (Int × Kd)) (E : Int → Kd) (d : Int → Nat), vs = [v, .ref f] ∧ KAt H v k ∧ FD H f fs ∧ Good (look fs) E d ∧ (∀ s, (en E k).2 = .inr s → OkB (.inr s)) ∧ (∀ u, d u ≤ 20) ∧
  ∀ H' u, Same H H' → KAt H' u (en E k) → Q u H'
theorem ok_put {f : Addr} {fd : FuncData} {n : Nat} (D : DefN K mg "_law_put" sLawPut ["kind", "found"] f fd) (T : Txt mg) : FnOk P w K mg base CX0 (n + 1) f fd ["kind", "found"] spPut := by
  refine D.F.ok scLawPut (fun vs H Q E h => ?_) (fun cdv A outer s H vs Q E0 hr h => ?_)
  · obtain ⟨v, f, k, fs, E, d, rfl, _⟩ := h
    rfl
  · obtain ⟨v, f, k, fs, E, d, rfl, hk, ⟨kvs, hf, hfl⟩, g, okE, hd20, qq⟩ := h
    refine ⟨_, (pss_cons (ps_asg (pv 0) (pg_tup rfl (pgs_cons (pg_name (i := 2) scLawPut.nd rfl (.inl rfl)) (pgs_cons (pg_name (i := 3) scLawPut.nd rfl (.inl rfl)) pgs_nil))))
        (pss_cons (ps_for PassesOwn.never rfl (pi_range1 (by rfl) T.range (pa_cons pe_int pa_nil)) (pg_name (i := 4) scLawPut.nd rfl (.inl rfl)) (pss_one (ps_if (PW.pt (pw_and (pt_val (pe_callB call_isB (by rfl) T.isinstance HL.boot_isinstance (pa_cons (pv 3) (pa_cons (pe_bltn (v := .ty "int") (by rfl) T.int HL.boot_int rfl) pa_nil)))) (pw_and1 (pt_cmp (pc_din (hu_of hr) (pv 3) (pv 1)))))) (pss_cons (ps_set (i := 2) scLawPut.nd rfl (.inl rfl) (pe_op op_add (pv 2) (pe_ix ix_tup (pe_dget (hu_of hr) (pv 1) (pv 3) (fun _ _ => rfl)) pe_int (fun _ _ => rfl))))
        (pss_one (ps_set (i := 3) scLawPut.nd rfl (.inl rfl) (pe_ix ix_tup (pe_dget (hu_of hr) (pv 1) (pv 3) (fun _ _ => rfl)) pe_int (fun _ _ => rfl))))) pss_nil)))
        (pss_one (ps_ret (pe_tup (pa_cons (pv 2) (pa_cons (pv 3) pa_nil))))))), ?_⟩
    obtain ⟨a, rfl, ha, oka⟩ := hk
    refine ⟨_, rfl, a, _, rfl, SqT.of ha, rfl, _, _, rfl, _, _, rfl, rfl, ?_⟩
    refine ⟨20, rfl, by decide, by decide, ?_⟩
    have dk20 : dK d k.2 ≤ 20 := by
      cases k.2 with
      | inl u => exact hd20 u
      | inr s => exact Nat.zero_le _
    refine for_range (lo := 0) (n := 20) (fun i σ H' => ∃ (l : Int) (b : Key) (y4 : Option V), σ = [some (.ref a), some (.ref f), some (.int l), some (kV b), y4] ∧ H' = H ∧ en E (l, b) = en E k ∧ dK d b ≤ 20 - i) ⟨k.1, k.2, none, rfl, rfl, rfl, dk20⟩ ?_ ?_
    · rintro i σ H' hi ⟨l, b, y4, rfl, rfl, hen, hdk⟩
      cases b with
      | inr s => exact ⟨_, rfl, _, "str", "int", false, rfl, .base (.str s), by decide +kernel, false, rfl, iteF (iteF ⟨l, .inr s, _, rfl, rfl, hen, Nat.zero_le _⟩)⟩
      | inl u =>
        refine ⟨_, rfl, _, "int", "int", true, rfl, .base (.int u), by decide +kernel, true, rfl, iteT ?_⟩
        refine ⟨_, rfl, _, rfl, f, _, rfl, DGet.k (k := .inl u) hf, _, rfl, ?_⟩
        rcases hfl.val u with ⟨h1, h2⟩ | ⟨j, v, h1, h2, hj⟩
        · rw [h2]
          refine iteF ⟨l, .inl u, _, rfl, rfl, hen, ?_⟩
          show d u ≤ _
          rw [(g.out u h1).2]
          exact Nat.zero_le _
        · rw [h2]
          obtain ⟨c, rfl, hc, okc⟩ := hj
          have dg : DGet H' f (.int u) (some (.ref c)) := by rw [← h2]; exact DGet.k (k := .inl u) hf
          refine iteT ⟨_, rfl, _, rfl, _, rfl, f, .ref c, rfl, dg, c, _, _, _, rfl, rfl, SqT.of hc, rfl, _, _, rfl, rfl, ?_⟩
          refine ⟨_, rfl, _, rfl, f, .ref c, rfl, dg, c, _, _, _, rfl, rfl, SqT.of hc, rfl, l + j.1, j.2, _, rfl, rfl, (en_step g h1).trans hen, ?_⟩
          have := dK_step g h1
          have h3 : d u ≤ 20 - i := hdk
          omega
    · rintro σ H' ⟨l, b, y4, rfl, rfl, hen, hdk⟩
      refine ⟨_, rfl, _, rfl, (by show 2 ≤ sizeLine; decide), fun t ht => ?_⟩
      have hb : ∀ u, b = .inl u → look fs u = none := fun u hu => by
        subst hu
        have hdk : d u ≤ 20 - 20 := hdk
        cases e : look fs u with
        | none => rfl
        | some j =>
          have := (g.inn u j e).2.2.1
          omega
      have e := en_end g (l := l) hb
      rw [hen] at e
      exact qq _ _ (same_upd ht) ⟨t, rfl, by rw [upd_same, e], fun s hs => okE s hs s rfl⟩
/-! ### ended -/
/-- what is walked: the variable, the levels before it -/
inductive WA (H : Hp) : List V → List (Int × Int) → Prop
  | nil : WA H [] []
  | cons {a : Addr} {v l : Int} {as : List V} {ws : List (Int × Int)} : H a = some (.tup [.int v, .int l]) → WA H as ws → WA H (.ref a :: as) ((v, l) :: ws)
theorem WA.mono {H H' : Hp} {as : List V} {ws : List (Int × Int)} (h : WA H as ws) (s : Tups H H') : WA H' as ws := by
  induction h with
  | nil => exact .nil
  | cons a _ ih => exact .cons (s _ _ a) ih
theorem WA.snoc {H : Hp} {as : List V} {ws : List (Int × Int)} (h : WA H as ws) {a : Addr} {v l : Int} (g : H a = some (.tup [.int v, .int l])) : WA H (as ++ [.ref a]) (ws ++ [(v, l)]) := by
  induction h with
  | nil => exact .cons g .nil
  | cons a _ ih => exact .cons a ih
theorem WA.at {H : Hp} {as : List V} {ws : List (Int × Int)} (h : WA H as ws) {i : Nat} {x : V} (e : as[i]? = some x) : ∃ a v l, x = .ref a ∧ ws[i]? = some (v, l) ∧ H a = some (.tup [.int v, .int l]) := by
  induction h generalizing i with
  | nil => simp at e
  | @cons b v l us ws g _ ih =>
    cases i with
    | zero => simp at e; exact ⟨b, v, l, e.symm, rfl, g⟩
    | succ i => simpa using ih (by simpa using e)
theorem WA.len {H : Hp} {as : List V} {ws : List (Int × Int)} (h : WA H as ws) : as.length = ws.length := by
  induction h with
  | nil => rfl
  | cons _ _ ih => simp [ih]
def spEnded : Sp := fun vs H Q _ => ∃ (v : V) (f : Addr) (k : Kd) (fs : List (Int × Kd)) (E : Int → Kd) (d : Int → Nat) (Bs : List Key), vs = [v, .ref f] ∧ KAt H v k ∧ FD H f fs ∧ Good (look fs) E d ∧ Bin fs Bs ∧ k.2 ∈ Bs ∧ (∀ b ∈ Bs, OkB b) ∧ fs.length ≤ 100 ∧ (∀ u, d u ≤ 100) ∧
  ∀ H' u fs', HL.Kept H H' f → FD H' f fs' → Good (look fs') E d → Bin fs' Bs → fs'.length = fs.length → (∀ x, look fs' x = none ↔ look fs x = none) → KAt H' u (en E k) → Q u H'
theorem ok_ended {f : Addr} {fd : FuncData} {n : Nat} (D : DefN K mg "ended" sEnded ["kind", "found"] f fd) (T : Txt mg) : FnOk P w K mg base CX0 (n + 1) f fd ["kind", "found"] spEnded := by
  refine D.F.ok scEnded (fun vs H Q E h => ?_) (fun cdv A outer s H vs Q E0 hr h => ?_)
  · obtain ⟨v, f, k, fs, E, d, Bs, rfl, _⟩ := h
    rfl
  · obtain ⟨v, f, k, fs, E, d, Bs, rfl, hk, ⟨kvs, hf, hfl⟩, g, hbin, hkb, okB, hfl1, hd1, qq⟩ := h
    refine ⟨_, (pss_cons (ps_set (i := 2) scEnded.nd rfl (.inl rfl) (pe_lst pa_nil))
        (pss_cons (ps_asg (pv 0) (pg_tup rfl (pgs_cons (pg_name (i := 3) scEnded.nd rfl (.inl rfl)) (pgs_cons (pg_name (i := 4) scEnded.nd rfl (.inl rfl)) pgs_nil))))
        (pss_cons (ps_while PassesOwn.never (pt_cmp (pc_din (hu_of hr) (pv 4) (pv 1))) (pss_cons (ps_expr (pe_bm PySem.F.plainAttrs_list PySem.F.slot_list_append PySem.F.type_list_append mt_append (pv 2) (pa_cons (pe_tup (pa_cons (pv 4) (pa_cons (pv 3) pa_nil))) pa_nil)))
        (pss_cons (ps_asg (pe_dget (hu_of hr) (pv 1) (pv 4) (fun _ _ => rfl)) (pg_tup rfl (pgs_cons (pg_name (i := 5) scEnded.nd rfl (.inl rfl)) (pgs_cons (pg_name (i := 4) scEnded.nd rfl (.inl rfl)) pgs_nil))))
        (pss_one (ps_aug (i := 3) scEnded.nd rfl (.inl rfl) (pv 5) ip_add)))))
        (pss_cons (ps_for PassesOwn.never rfl (pi_list (pv 2)) (pg_tup rfl (pgs_cons (pg_name (i := 6) scEnded.nd rfl (.inl rfl)) (pgs_cons (pg_name (i := 7) scEnded.nd rfl (.inl rfl)) pgs_nil))) (pss_one (ps_dput (hu_of hr) (pv 1) (pv 6) (pe_tup (pa_cons (pe_op op_sub (pv 3) (pv 7)) (pa_cons (pv 4) pa_nil))) rfl)))
        (pss_one (ps_ret (pe_tup (pa_cons (pv 3) (pa_cons (pv 4) pa_nil))))))))), ?_⟩
    have t2 : 2 ≤ sizeLine := by decide
    obtain ⟨a, rfl, ha, oka⟩ := hk
    refine ⟨Nat.zero_le _, fun M hM => ?_⟩
    have nfM : f ≠ M := ne_of_none hf hM
    have sM := same_upd (o := .lst []) hM
    refine ⟨_, rfl, a, _, rfl, SqT.of (sM _ _ ha), rfl, _, _, rfl, _, _, rfl, rfl, ?_⟩
    refine ⟨fun m σ H' => ∃ (l : Int) (b : Key) (y5 : Option V) (us : List V) (ws : List (Int × Int)), σ = [some (.ref a), some (.ref f), some (.ref M), some (.int l), some (kV b), y5, none, none] ∧ Same H H' ∧ H' M = some (.lst us) ∧ WA H' us ws ∧ ws.length + m ≤ 100 ∧
        (∀ p ∈ ws, look fs p.1 ≠ none ∧ en E (p.2, .inl p.1) = en E k) ∧ en E (l, b) = en E k ∧ m = dK d b,
      ⟨_, k.1, k.2, none, [], [], rfl, sM, upd_same, .nil, by
        simp only [List.length_nil, Nat.zero_add]
        cases k.2 with
        | inl u => exact hd1 u
        | inr s => exact Nat.zero_le _, fun p hp => (by cases hp), rfl, rfl⟩, ?_⟩
    rintro m σ H' ⟨l, b, y5, us, ws, rfl, sm, hM', hwa, hwl, hws, hen, rfl⟩
    have hf' := sm _ _ hf
    have fin : (∀ u, b = .inl u → look fs u = none) → en E k = (l, b) := fun h => by
      rw [← hen]
      exact en_end g h
    have hfl' := hfl.mono sm.tups
    have hv : (valV kvs b = none ∧ ∀ u, b = .inl u → look fs u = none) ∨ ∃ u j c, b = .inl u ∧ look fs u = some j ∧ valV kvs b = some (.ref c) ∧ H' c = some (.tup [.int j.1, kV j.2]) := by
      cases b with
      | inr s => exact .inl ⟨hfl'.str s, fun u hu => by cases hu⟩
      | inl u =>
        rcases hfl'.val u with ⟨h1, h2⟩ | ⟨j, v, h1, h2, hj⟩
        · exact .inl ⟨h2, fun u' hu => by cases hu; exact h1⟩
        · obtain ⟨c, rfl, hc, _⟩ := hj
          exact .inr ⟨u, j, c, rfl, h1, h2, hc⟩
    refine ⟨_, rfl, _, rfl, f, _, rfl, DGet.k (k := b) hf', _, rfl, ?_⟩
    rcases hv with ⟨hn, hb⟩ | ⟨u, j, c, rfl, h1, h2, hc⟩
    · rw [hn]
      have hE := fin hb
      have noF : ∀ {H2}, HL.Kept H' H2 f → Tups H' H2 := fun kp => kept_tups kp fun zs z => by rw [hf'] at z; cases z
      refine iteF ⟨_, rfl, M, rfl, ⟨us, SqL.of hM'⟩, ?_⟩
      refine for_list (xs := us) (fun i σ H2 => ∃ y6 y7 fs', σ = [some (.ref a), some (.ref f), some (.ref M), some (.int l), some (kV b), y5, y6, y7] ∧ HL.Kept H' H2 f ∧ FD H2 f fs' ∧ Good (look fs') E d ∧ Bin fs' Bs ∧ fs'.length = fs.length ∧ ∀ x, look fs' x = none ↔ look fs x = none)
        ⟨none, none, fs, rfl, Kept.refl, ⟨kvs, hf', hfl'⟩, g, hbin, rfl, fun _ => Iff.rfl⟩ (fun i σ H2 _ q => ?_) ?_ ?_
      · obtain ⟨_, _, _, _, kp, _⟩ := q
        exact SqL.of (kp _ _ nfM.symm hM')
      · rintro i x σ H2 hx ⟨y6, y7, fs', rfl, kp, ⟨kvs', hf2, hfl2⟩, g', hbin', hl', hiff⟩
        obtain ⟨c, v, bf, rfl, hw, hc⟩ := (hwa.mono (noF kp)).at hx
        obtain ⟨w1, w2⟩ := hws (v, bf) (List.mem_of_getElem? hw)
        obtain ⟨jj, hjj⟩ : ∃ jj, look fs' v = some jj := by
          cases e : look fs' v with
          | some x => exact ⟨x, rfl⟩
          | none => exact absurd ((hiff v).mp e) w1
        have eE : E v = (l - bf, b) := by
          rw [hE] at w2
          have e1 := congrArg Prod.fst w2
          have e2 := congrArg Prod.snd w2
          have e1 : bf + (E v).1 = l := e1
          have e2 : (E v).2 = b := e2
          exact Prod.ext (by show (E v).1 = l - bf; omega) e2
        have okb : OkB b := okB b (by
          have := (hbin.ek g hkb)
          have e3 : (EK E k.2).2 = b := congrArg Prod.snd hE
          rw [e3] at this
          exact this)
        refine ⟨c, _, rfl, SqT.of hc, rfl, _, _, rfl, _, _, rfl, rfl, ?_⟩
        refine ⟨_, rfl, _, rfl, _, _, rfl, rfl, _, rfl, t2, fun t ht => ⟨_, rfl, _, rfl, f, _, rfl, DPut.k (k := .inl v) (same_upd ht _ _ hf2) (Nat.lt_of_le_of_lt (show kvs'.length ≤ 100 by rw [hfl2.len]; omega) (by decide)), ?_⟩⟩
        have st := same_upd (o := .tup [.int (l - bf), kV b]) ht
        have hf3 := st _ _ hf2
        have tt := kept_tups (but_upd (H := upd H2 t (.tup [.int (l - bf), kV b])) (p := f) (o := .dK (putK kvs' (.inl v) (.ref t)))).kept fun zs z => by rw [hf3] at z; cases z
        have nft : f ≠ t := ne_of_none hf2 ht
        have kt : KAt (upd (upd H2 t (.tup [.int (l - bf), kV b])) f (.dK (putK kvs' (.inl v) (.ref t)))) (.ref t) (l - bf, b) := ⟨t, rfl, by rw [upd_ne nft.symm, upd_same], okb⟩
        have nn : look fs' v ≠ none := by rw [hjj]; simp
        refine ⟨_, _, setF fs' v (l - bf, b), rfl, (kp.trans (st.kept f)).trans but_upd.kept, ⟨_, upd_same, ((hfl2.mono st.tups).mono tt).put kt⟩, ?_, ?_, ?_, fun x => ?_⟩
        · exact g'.short hjj fun x => by rw [look_set, eE]
        · refine hbin'.set (hbin' v jj hjj).1 ?_
          have := (hbin.ek g hkb)
          have e3 : (EK E k.2).2 = b := congrArg Prod.snd hE
          rw [e3] at this
          exact this
        · rw [(setF_len fs' v _).2 nn, hl']
        · rw [look_set]
          by_cases e : x = v
          · subst e
            rw [if_pos rfl]
            exact ⟨fun z => (by cases z), fun z => absurd z w1⟩
          · rw [if_neg e]
            exact hiff x
      · rintro σ H2 ⟨y6, y7, fs', rfl, kp, ⟨kvs', hf2, hfl2⟩, g', hbin', hl', hiff⟩
        refine ⟨_, rfl, _, rfl, t2, fun t ht => ?_⟩
        have st := same_upd (o := .tup [.int l, kV b]) ht
        refine qq _ _ fs' (((sm.kept f).trans kp).trans (st.kept f)) ⟨kvs', st _ _ hf2, hfl2.mono st.tups⟩ g' hbin' hl' hiff ⟨t, rfl, by rw [upd_same, hE], ?_⟩
        rw [hE]
        refine okB b ?_
        have := (hbin.ek g hkb)
        have e3 : (EK E k.2).2 = b := congrArg Prod.snd hE
        rw [e3] at this
        exact this
    · rw [h2]
      refine iteT ⟨fun σ' H2 => ∃ (l' : Int) (b' : Key) (y5 : Option V) (us' : List V) (ws' : List (Int × Int)), σ' = [some (.ref a), some (.ref f), some (.ref M), some (.int l'), some (kV b'), y5, none, none] ∧ Same H H2 ∧ H2 M = some (.lst us') ∧ WA H2 us' ws' ∧ ws'.length + dK d b' ≤ 100 ∧
        (∀ p ∈ ws', look fs p.1 ≠ none ∧ en E (p.2, .inl p.1) = en E k) ∧ en E (l', b') = en E k ∧ dK d b' < dK d (.inl u), ?_, ?_⟩
      · rintro σ' H2 ⟨l', b', y, us', ws', e1, e2, e3, e4, e5, e6, e7, e8⟩
        exact ⟨_, e8, l', b', y, us', ws', e1, e2, e3, e4, e5, e6, e7, rfl⟩
      · refine ⟨_, rfl, .inl ⟨rfl, _, SqL.of hM'⟩, _, rfl, _, rfl, t2, fun t ht => ?_⟩
        have st := same_upd (o := .tup [.int u, .int l]) ht
        have hM2 := st _ _ hM'
        have nMt : M ≠ t := ne_of_none hM' ht
        have dl := dK_step g h1
        have ul : us.length ≤ 100 := by rw [hwa.len]; omega
        refine ⟨M, _, _, rfl, rfl, hM2, Nat.lt_of_le_of_lt ul (by decide), ?_⟩
        have tt := st.tups.trans (kept_tups (but_upd (H := upd H' t (.tup [.int u, .int l])) (p := M) (o := .lst (us ++ [.ref t]))).kept fun zs z => by rw [hM2] at z; cases z)
        have wk : WA (upd (upd H' t (.tup [.int u, .int l])) M (.lst (us ++ [.ref t]))) (us ++ [.ref t]) (ws ++ [(u, l)]) := (hwa.mono tt).snoc (by rw [upd_ne nMt.symm, upd_same])
        have nfM' : ∀ o, upd (upd H' t (.tup [.int u, .int l])) M o f = some (.dK kvs) := fun o => by rw [upd_ne nfM]; exact st _ _ hf'
        have ncM : c ≠ M := fun z => by rw [z, hM'] at hc; cases hc
        refine ⟨_, rfl, _, rfl, f, .ref c, rfl, by rw [← h2]; exact DGet.k (k := .inl u) (nfM' _), c, _, rfl, SqT.of (by rw [upd_ne ncM]; exact st _ _ hc), rfl, _, _, rfl, _, _, rfl, rfl, ?_⟩
        refine ⟨_, rfl, _, rfl, _, _, rfl, rfl, l + j.1, j.2, _, us ++ [.ref t], ws ++ [(u, l)], rfl, fun b o hb => ?_, upd_same, by exact wk, ?_, fun p hp => ?_, (en_step g h1).trans hen, dl⟩
        · rw [upd_ne (ne_of_none hb hM)]
          exact st _ _ (sm _ _ hb)
        · simp only [List.length_append, List.length_cons, List.length_nil]
          have : dK d (.inl u) = d u := rfl
          omega
        · rcases List.mem_append.mp hp with hp | hp
          · exact hws p hp
          · rw [List.mem_singleton.mp hp]
            exact ⟨by rw [h1]; simp, hen⟩
end
end Q09
namespace Q09
open PySem PySem.Spec PyProof.Rows L2 SX HL
theorem kV_inj {a b : Key} : decide (kV a = kV b) = decide (a = b) := by
  cases a <;> cases b <;> simp [kV]
theorem bindD_le {L : Int → Option Kd} {d : Int → Nat} {v : Int} {N : Nat} (h : ∀ x, d x ≤ N) : ∀ x, bindD L d v x ≤ N + 1 := fun x => by
  unfold bindD
  have := h x
  split
  · omega
  · split <;> omega
theorem FD.put {H : Hp} {f : Addr} {fs : List (Int × Kd)} {kvs : List (Key × V)} (hf : H f = some (.dK kvs)) (h : FL H kvs fs) {v : V} {i : Int} {k : Kd} (g : KAt H v k) : FD (upd H f (.dK (putK kvs (.inl i) v))) f (setF fs i k) := by
  have tt := kept_tups (but_upd (H := H) (p := f) (o := .dK (putK kvs (.inl i) v))).kept fun zs z => by rw [hf] at z; cases z
  exact ⟨_, upd_same, (h.mono tt).put (g.mono tt)⟩
section
variable {P : Program} {w : World} {K : PySem.W.Frag} {mg : Str → Option Value} {base : Heap}
/-! ### make_equal -/
def spMk (ord : Bool) : Sp := fun vs H Q _ => ∃ (v u : V) (f : Addr) (a b : Kd) (fs : List (Int × Kd)) (E : Int → Kd) (d : Int → Nat) (Bs : List Key), vs = [v, u, .ref f] ∧ KAt H v a ∧ KAt H u b ∧ FD H f fs ∧ Good (look fs) E d ∧ Bin fs Bs ∧ a.2 ∈ Bs ∧ b.2 ∈ Bs ∧
  (∀ x, a.2 = .inl x → look fs x = none) ∧ (∀ x, b.2 = .inl x → look fs x = none) ∧ fs.length ≤ 99 ∧ (ord = true → a.1 ≤ b.1) ∧
  ∀ H' r fs' E' d', HL.Kept H H' f → FD H' f fs' → Good (look fs') E' d' → Bin fs' Bs → fs'.length ≤ fs.length + 1 → (∀ N, (∀ x, d x ≤ N) → ∀ x, d' x ≤ N + 1) →
    (r = true → ∀ θ, Sol θ E' ↔ Sol θ E ∧ en θ a = en θ b) → (r = false → ∀ θ, NN θ → en θ a ≠ en θ b) → Q (.bl r) H'
def spLessM : Bool → Sp
  | true => fun _ _ _ _ => False
  | false => spMk true
theorem mk_step {f : Addr} {fd : FuncData} {n : Nat} {ord : Bool} (D : DefN K mg "make_equal" sMakeEqual ["first", "second", "found"] f fd) (T : Txt mg) (GMakeEqual : FnOk P w K mg base CX0 n f fd ["first", "second", "found"] (spLessM ord)) :
    FnOk P w K mg base CX0 (n + 1) f fd ["first", "second", "found"] (spMk ord) := by
  have DMakeEqual := D
  refine D.F.ok scMakeEqual (fun vs H Q E h => ?_) (fun cdv A outer s H vs Q E0 hr h => ?_)
  · obtain ⟨v, u, f, a, b, fs, E, d, Bs, rfl, _⟩ := h
    rfl
  · obtain ⟨v, u, f, a, b, fs, E, d, Bs, rfl, ha, hb, hfd, g, hbin, ab, bb, ea, eb, hfl, hord, qq⟩ := h
    refine ⟨_, (pss_cons (ps_if (pt_cmpR op_gt (pe_ix ix_tup (pv 0) pe_int (fun _ _ => rfl)) (pe_ix ix_tup (pv 1) pe_int (fun _ _ => rfl)) (nomark _)) (pss_one (ps_ret (pe_call GMakeEqual (hr.mono (by omega)) (by rfl) DMakeEqual.g DMakeEqual.F.kp DMakeEqual.b .nil pass0 (pa_cons (pv 1) (pa_cons (pv 0) (pa_cons (pv 2) pa_nil)))))) pss_nil)
        (pss_cons (ps_asg (pv 0) (pg_tup rfl (pgs_cons (pg_name (i := 3) scMakeEqual.nd rfl (.inl rfl)) (pgs_cons (pg_name (i := 4) scMakeEqual.nd rfl (.inl rfl)) pgs_nil))))
        (pss_cons (ps_if (pt_cmpR op_eq (pv 4) (pe_ix ix_tup (pv 1) pe_int (fun _ _ => rfl)) (nomark _)) (pss_one (ps_ret (pe_cmpR op_eq (pv 3) (pe_ix ix_tup (pv 1) pe_int (fun _ _ => rfl)) (nomark _)))) pss_nil)
        (pss_cons (ps_if (pt_val (pe_callB call_isB (by rfl) T.isinstance HL.boot_isinstance (pa_cons (pv 4) (pa_cons (pe_bltn (v := .ty "int") (by rfl) T.int HL.boot_int rfl) pa_nil)))) (pss_cons (ps_dput (hu_of hr) (pv 2) (pv 4) (pe_tup (pa_cons (pe_op op_sub (pe_ix ix_tup (pv 1) pe_int (fun _ _ => rfl)) (pv 3)) (pa_cons (pe_ix ix_tup (pv 1) pe_int (fun _ _ => rfl)) pa_nil))) rfl)
        (pss_one (ps_ret pe_bl))) pss_nil)
        (pss_cons (ps_if (PW.pt (pw_and (pt_val (pe_callB call_isB (by rfl) T.isinstance HL.boot_isinstance (pa_cons (pe_ix ix_tup (pv 1) pe_int (fun _ _ => rfl)) (pa_cons (pe_bltn (v := .ty "int") (by rfl) T.int HL.boot_int rfl) pa_nil)))) (pw_and1 (pt_cmpR op_eq (pv 3) (pe_ix ix_tup (pv 1) pe_int (fun _ _ => rfl)) (nomark _))))) (pss_cons (ps_dput (hu_of hr) (pv 2) (pe_ix ix_tup (pv 1) pe_int (fun _ _ => rfl)) (pe_tup (pa_cons pe_int (pa_cons (pv 4) pa_nil))) rfl)
        (pss_one (ps_ret pe_bl))) pss_nil)
        (pss_one (ps_ret pe_bl))))))), ?_⟩
    have t2 : 2 ≤ sizeLine := by decide
    obtain ⟨p, rfl, hp, okp⟩ := id ha
    obtain ⟨q, rfl, hq, okq⟩ := id hb
    refine ⟨_, rfl, p, _, _, _, rfl, rfl, SqT.of hp, rfl, _, rfl, q, _, _, _, rfl, rfl, SqT.of hq, rfl, _, _, rfl, rfl, _, rfl, ite2 (fun gt => ?_) (fun gt => ?_)⟩
    · have gt' : b.1 < a.1 := of_decide_eq_true gt
      cases ord with
      | true =>
        have := hord rfl
        omega
      | false =>
        refine ⟨_, rfl, _, rfl, _, rfl, .ref q, .ref p, f, b, a, fs, E, d, Bs, rfl, hb, ha, hfd, g, hbin, bb, ab, eb, ea, hfl, fun _ => by omega, fun H' r fs' E' d' h1 h2 h3 h4 h5 h6 h7 h8 => ?_⟩
        exact qq H' r fs' E' d' h1 h2 h3 h4 h5 h6 (fun z θ => (h7 z θ).trans (and_congr_right fun _ => eq_comm)) (fun z θ nn e => h8 z θ nn e.symm)
    have hab : a.1 ≤ b.1 := by
      have : ¬ b.1 < a.1 := fun z => gt (decide_eq_true z)
      omega
    have idm : ∀ N, (∀ x, d x ≤ N) → ∀ x, d x ≤ N + 1 := fun N h x => by have := h x; omega
    refine ⟨_, rfl, p, _, rfl, SqT.of hp, rfl, _, _, rfl, _, _, rfl, rfl, ?_⟩
    refine ⟨_, rfl, _, rfl, q, _, _, _, rfl, rfl, SqT.of hq, rfl, (by cases a.2 <;> cases b.2 <;> rfl), decide (a.2 = b.2), congrArg V.bl kV_inj, ?_⟩
    by_cases e : a.2 = b.2
    · rw [decide_eq_true e]
      have e4 : decide (V.int a.1 = V.int b.1) = decide (a.1 = b.1) := by
        rw [Bool.eq_iff_iff]; simp
      refine iteT ⟨_, rfl, _, rfl, q, _, _, _, rfl, rfl, SqT.of hq, rfl, rfl, ?_⟩
      rw [e4]
      refine qq H _ fs E d Kept.refl hfd g hbin (by omega) idm (fun z θ => ?_) (fun z θ nn h => ?_)
      · exact ⟨fun h => ⟨h, (eq_same e).mpr (of_decide_eq_true z)⟩, fun h => h.1⟩
      · exact of_decide_eq_false z ((eq_same e).mp h)
    rw [decide_eq_false e]
    refine iteF ?_
    obtain ⟨kvs, hf, hfl'⟩ := id hfd
    cases ea' : a.2 with
    | inl x =>
      have hx := ea x ea'
      refine ⟨_, rfl, _, "int", "int", true, rfl, .base (.int x), by decide +kernel, true, rfl, iteT ?_⟩
      refine ⟨_, rfl, q, _, _, _, rfl, rfl, SqT.of hq, rfl, _, rfl, _, _, rfl, rfl, _, rfl, q, _, _, _, rfl, rfl, SqT.of hq, rfl, t2, fun t ht => ⟨_, rfl, _, rfl, f, _, rfl, DPut.k (k := .inl x) (same_upd ht _ _ hf) (Nat.lt_of_le_of_lt (show kvs.length ≤ 100 by rw [hfl'.len]; omega) (by decide)), ?_⟩⟩
      have st := same_upd (o := .tup [.int (b.1 - a.1), kV b.2]) ht
      have kt : KAt (upd H t (.tup [.int (b.1 - a.1), kV b.2])) (.ref t) (b.1 - a.1, b.2) := ⟨t, rfl, upd_same, okq⟩
      obtain ⟨g2, gs⟩ := g.bind (L2 := look (setF fs x (b.1 - a.1, b.2))) hx (k := (b.1 - a.1, b.2)) (by show 0 ≤ b.1 - a.1; omega) (fun z => e (ea'.trans z.symm)) eb (fun y => look_set ..)
      exact qq _ true _ _ _ ((st.kept f).trans but_upd.kept) (FD.put (st _ _ hf) (hfl'.mono st.tups) kt) g2 (hbin.set (by rw [← ea']; exact ab) bb) (setF_len ..).1 (fun N h => bindD_le h)
        (fun _ θ => (gs θ).trans (and_congr_right fun _ => (eq_var ea' hab).symm)) (fun z => Bool.noConfusion z)
    | inr s =>
      refine ⟨_, rfl, _, "str", "int", false, rfl, .base (.str s), by decide +kernel, false, rfl, iteF ?_⟩
      have never : (∀ y, b.2 = .inl y → a.1 ≠ b.1) → Q (.bl false) H := fun h => qq H false fs E d Kept.refl hfd g hbin (by omega) idm (fun z => Bool.noConfusion z) (fun _ θ nn => eq_never nn ea' e hab h)
      cases eb' : b.2 with
      | inr s2 =>
        rw [eb'] at hq
        exact ⟨_, rfl, q, _, _, _, rfl, rfl, SqT.of hq, rfl, _, "str", "int", false, rfl, .base (.str s2), by decide +kernel, false, rfl, iteF (iteF (never fun y hy => by rw [eb'] at hy; cases hy))⟩
      | inl y =>
        have hq' := hq
        rw [eb'] at hq'
        have hy := eb y eb'
        have e4 : decide (V.int a.1 = V.int b.1) = decide (a.1 = b.1) := by
          rw [Bool.eq_iff_iff]; simp
        refine ⟨_, rfl, q, _, _, _, rfl, rfl, SqT.of hq', rfl, _, "int", "int", true, rfl, .base (.int y), by decide +kernel, true, rfl, iteT ?_⟩
        refine ⟨_, rfl, _, rfl, q, _, _, _, rfl, rfl, SqT.of hq', rfl, rfl, decide (a.1 = b.1), congrArg V.bl e4, ?_⟩
        by_cases m : a.1 = b.1
        · rw [decide_eq_true m]
          refine iteT ⟨_, rfl, t2, fun t ht => ?_⟩
          have st := same_upd (o := .tup [.int 0, .str s]) ht
          refine ⟨_, rfl, _, rfl, q, _, _, _, rfl, rfl, SqT.of (st _ _ hq'), rfl, f, _, rfl, DPut.k (k := .inl y) (st _ _ hf) (Nat.lt_of_le_of_lt (show kvs.length ≤ 100 by rw [hfl'.len]; omega) (by decide)), ?_⟩
          have kt : KAt (upd H t (.tup [.int 0, .str s])) (.ref t) (0, .inr s) := ⟨t, rfl, upd_same, by rw [← ea']; exact okp⟩
          obtain ⟨g2, gs⟩ := g.bind (L2 := look (setF fs y (0, .inr s))) hy (k := (0, .inr s)) (Int.le_refl _) (fun z => by cases z) (fun u hu => by cases hu) (fun y => look_set ..)
          refine qq _ true _ _ _ ((st.kept f).trans but_upd.kept) (FD.put (st _ _ hf) (hfl'.mono st.tups) kt) g2 (hbin.set (by rw [← eb']; exact bb) (by show Sum.inr s ∈ Bs; rw [← ea']; exact ab)) (setF_len ..).1 (fun N h => bindD_le h)
            (fun _ θ => (gs θ).trans (and_congr_right fun _ => ?_)) (fun z => Bool.noConfusion z)
          have := eq_var (θ := θ) (a := b) (b := a) eb' (by omega)
          rw [eq_comm (a := en θ a)]
          refine (this.trans ?_).symm
          rw [m, ea']
          simp
        · rw [decide_eq_false m]
          exact iteF (never fun _ _ => m)
theorem ok_mk {f : Addr} {fd : FuncData} (D : DefN K mg "make_equal" sMakeEqual ["first", "second", "found"] f fd) (T : Txt mg) : FnOk P w K mg base CX0 3 f fd ["first", "second", "found"] (spMk false) :=
  mk_step D T (mk_step (ord := true) D T (D.F.ok scMakeEqual (fun vs H Q E h => (show False from h).elim) (fun cdv A outer s H vs Q E hr h => (show False from h).elim)))
end
end Q09
namespace Q09
open PySem PySem.Spec PyProof.Rows L2 SX HL
/-! ### equations -/
def PAt (H : Hp) (v : V) (p : Kd × Kd) : Prop := ∃ a x y, v = .ref a ∧ H a = some (.tup [x, y]) ∧ KAt H x p.1 ∧ KAt H y p.2
inductive PL (H : Hp) : List V → List (Kd × Kd) → Prop
  | nil : PL H [] []
  | cons {v : V} {vs : List V} {p : Kd × Kd} {ps : List (Kd × Kd)} : PAt H v p → PL H vs ps → PL H (v :: vs) (p :: ps)
theorem PAt.mono {H H' : Hp} {v : V} {p : Kd × Kd} (h : PAt H v p) (s : Tups H H') : PAt H' v p := by
  obtain ⟨a, x, y, rfl, e, h1, h2⟩ := h
  exact ⟨a, x, y, rfl, s _ _ e, h1.mono s, h2.mono s⟩
theorem PL.mono {H H' : Hp} {vs : List V} {ps : List (Kd × Kd)} (h : PL H vs ps) (s : Tups H H') : PL H' vs ps := by
  induction h with
  | nil => exact .nil
  | cons a _ ih => exact .cons (a.mono s) ih
theorem PL.len {H : Hp} {vs : List V} {ps : List (Kd × Kd)} (h : PL H vs ps) : vs.length = ps.length := by
  induction h with
  | nil => rfl
  | cons _ _ ih => simp [ih]
theorem PL.snoc {H : Hp} {vs : List V} {ps : List (Kd × Kd)} (h : PL H vs ps) {v : V} {p : Kd × Kd} (g : PAt H v p) : PL H (vs ++ [v]) (ps ++ [p]) := by
  induction h with
  | nil => exact .cons g .nil
  | cons a _ ih => exact .cons a ih
theorem PL.at {H : Hp} {vs : List V} {ps : List (Kd × Kd)} (h : PL H vs ps) {i : Nat} {v : V} (e : vs[i]? = some v) : ∃ p, ps[i]? = some p ∧ PAt H v p := by
  induction h generalizing i with
  | nil => simp at e
  | @cons u us p ps a _ ih =>
    cases i with
    | zero => simp at e; subst e; exact ⟨p, rfl, a⟩
    | succ i => simpa using ih (by simpa using e)
def All (θ : Int → Kd) (ps : List (Kd × Kd)) : Prop := ∀ p ∈ ps, en θ p.1 = en θ p.2
theorem all_snoc {θ : Int → Kd} {ps : List (Kd × Kd)} {p : Kd × Kd} : All θ (ps ++ [p]) ↔ All θ ps ∧ en θ p.1 = en θ p.2 := by
  constructor
  · intro h
    exact ⟨fun q hq => h q (List.mem_append_left _ hq), h p (List.mem_append_right _ (List.mem_singleton.mpr rfl))⟩
  · rintro ⟨h1, h2⟩ q hq
    rcases List.mem_append.mp hq with hq | hq
    · exact h1 q hq
    · rw [List.mem_singleton.mp hq]
      exact h2
theorem sol_nil (θ : Int → Kd) : Sol θ (fun v => (0, .inl v)) := fun v => by
  show θ v = (0 + (θ v).1, (θ v).2)
  rw [Int.zero_add]
def BasesIn (ps : List (Kd × Kd)) (Bs : List Key) : Prop := ∀ p ∈ ps, p.1.2 ∈ Bs ∧ p.2.2 ∈ Bs
section
variable {P : Program} {w : World} {K : PySem.W.Frag} {mg : Str → Option Value} {base : Heap}
def spUnify (N : Nat) : Sp := fun vs H Q _ => ∃ (l : Addr) (us : List V) (ps : List (Kd × Kd)) (Bs : List Key), vs = [.ref l] ∧ H l = some (.lst us) ∧ PL H us ps ∧ BasesIn ps Bs ∧ (∀ b ∈ Bs, OkB b) ∧ ps.length ≤ N ∧
  (∀ H', Same H H' → (∀ θ, NN θ → ¬ All θ ps) → Q .non H') ∧
  ∀ H' f fs E d, Same H H' → H f = none → FD H' f fs → Good (look fs) E d → Bin fs Bs → (∀ x, d x ≤ 20) → (∀ θ, NN θ → (All θ ps ↔ Sol θ E)) → Q (.ref f) H'
theorem ok_unify {f f1 f2 : Addr} {fd fd1 fd2 : FuncData} (D : DefN K mg "unify" sUnify ["equations"] f fd) (T : Txt mg) (DMakeEqual : DefN K mg "make_equal" sMakeEqual ["first", "second", "found"] f1 fd1) (DEnded : DefN K mg "ended" sEnded ["kind", "found"] f2 fd2) :
    FnOk P w K mg base CX0 4 f fd ["equations"] (spUnify 19) := by
  have GMakeEqual : FnOk P w K mg base CX0 3 f1 fd1 ["first", "second", "found"] (spMk false) := ok_mk DMakeEqual T
  have GEnded : FnOk P w K mg base CX0 1 f2 fd2 ["kind", "found"] spEnded := ok_ended (n := 0) DEnded T
  refine D.F.ok scUnify (fun vs H Q E h => ?_) (fun cdv A outer s H vs Q E0 hr h => ?_)
  · obtain ⟨l, us, ps, Bs, rfl, _⟩ := h
    rfl
  · obtain ⟨l, us, ps, Bs, rfl, hl, hp, hbs, okB, hn, q1, q2⟩ := h
    refine ⟨_, (pss_cons (ps_set (i := 1) scUnify.nd rfl (.inl rfl) pe_dnewK)
        (pss_cons (ps_for PassesOwn.never rfl (pi_list (pv 0)) (pg_tup rfl (pgs_cons (pg_name (i := 2) scUnify.nd rfl (.inl rfl)) (pgs_cons (pg_name (i := 3) scUnify.nd rfl (.inl rfl)) pgs_nil))) (pss_one (ps_if (pt_not (pt_val (pe_call GMakeEqual (hr.mono (by omega)) (by rfl) DMakeEqual.g DMakeEqual.F.kp DMakeEqual.b .nil pass0 (pa_cons (pe_call GEnded (hr.mono (by omega)) (by rfl) DEnded.g DEnded.F.kp DEnded.b .nil pass0 (pa_cons (pv 2) (pa_cons (pv 1) pa_nil))) (pa_cons (pe_call GEnded (hr.mono (by omega)) (by rfl) DEnded.g DEnded.F.kp DEnded.b .nil pass0 (pa_cons (pv 3) (pa_cons (pv 1) pa_nil))) (pa_cons (pv 1) pa_nil)))))) (pss_one (ps_ret pe_non)) pss_nil)))
        (pss_one (ps_ret (pv 1))))), ?_⟩
    refine fun F hF => ⟨_, rfl, l, rfl, ⟨us, SqL.of (same_upd hF _ _ hl)⟩, ?_⟩
    have sF := same_upd (o := .dK []) hF
    refine for_list (xs := us) (fun i σ H' => ∃ (y2 y3 : Option V) (fs : List (Int × Kd)) (E : Int → Kd) (d : Int → Nat), σ = [some (.ref l), some (.ref F), y2, y3] ∧ Same H H' ∧ FD H' F fs ∧ Good (look fs) E d ∧ Bin fs Bs ∧ fs.length ≤ i ∧ (∀ x, d x ≤ i) ∧ ∀ θ, NN θ → (All θ (ps.take i) ↔ Sol θ E))
      ⟨none, none, [], _, _, rfl, sF, ⟨[], upd_same, .nil⟩, Good.nil, fun _ _ h => (by cases h), Nat.le_refl _, fun _ => Nat.le_refl _, fun θ _ => ⟨fun _ => sol_nil θ, fun _ p hp => (by cases hp)⟩⟩ (fun i σ H' _ q => ?_) ?_ ?_
    · obtain ⟨_, _, _, _, _, _, sm, _⟩ := q
      exact SqL.of (sm _ _ hl)
    · rintro i x σ H' hx ⟨y2, y3, fs, E, d, rfl, sm, hfd, g, hbin, hfl, hd, hall⟩
      obtain ⟨p, hpi, a, u, v, rfl, ha, hu, hv⟩ := (hp.mono sm.tups).at hx
      have ip : i < ps.length := (List.getElem?_eq_some_iff.mp hpi).1
      obtain ⟨b1, b2⟩ := hbs p (List.mem_of_getElem? hpi)
      have eT : ps.take (i + 1) = ps.take i ++ [p] := by rw [List.take_add_one, hpi]; rfl
      have noF : ∀ {H1 H2}, FD H1 F fs → HL.Kept H1 H2 F → Tups H1 H2 := fun hfd kp => kept_tups kp fun zs z => by
        obtain ⟨kvs, h1, _⟩ := hfd
        rw [h1] at z
        cases z
      have noF' : ∀ {H1 H2 fs}, FD H1 F fs → HL.Kept H1 H2 F → Tups H1 H2 := fun hfd kp => kept_tups kp fun zs z => by
        obtain ⟨kvs, h1, _⟩ := hfd
        rw [h1] at z
        cases z
      refine ⟨a, _, rfl, SqT.of ha, rfl, _, _, rfl, _, _, rfl, rfl, ?_⟩
      refine ⟨_, rfl, _, rfl, u, F, p.1, fs, E, d, Bs, rfl, hu, hfd, g, hbin, b1, okB, by omega, fun x => Nat.le_trans (hd x) (by omega), fun H1 u1 fs1 k1 fd1 g1 bin1 l1 i1 ku1 => ?_⟩
      have t1 := noF hfd k1
      refine ⟨_, rfl, _, rfl, v, F, p.2, fs1, E, d, Bs, rfl, hv.mono t1, fd1, g1, bin1, b2, okB, by omega, fun x => Nat.le_trans (hd x) (by omega), fun H2 u2 fs2 k2 fd2 g2 bin2 l2 i2 ku2 => ?_⟩
      have t2 := noF' fd1 k2
      refine ⟨_, rfl, u1, u2, F, en E p.1, en E p.2, fs2, E, d, Bs, rfl, ku1.mono t2, ku2, fd2, g2, bin2, bin2.ek g2 b1, bin2.ek g2 b2, fun x hx => g2.ekf hx, fun x hx => g2.ekf hx, by omega, fun z => Bool.noConfusion z, fun H3 r fs3 E3 d3 k3 fd3 g3 bin3 l3 dd3 rt rf => ?_⟩
      have sm3 : Same H H3 := fun b o hb => k3 _ _ (ne_of_none hb hF) (k2 _ _ (ne_of_none hb hF) (k1 _ _ (ne_of_none hb hF) (sm _ _ hb)))
      cases r with
      | true =>
        refine ⟨true, rfl, iteF ⟨_, _, fs3, E3, d3, rfl, sm3, fd3, g3, bin3, by omega, dd3 i hd, fun θ nn => ?_⟩⟩
        rw [eT, all_snoc, hall θ nn, rt rfl θ]
        refine and_congr_right fun hs => ?_
        rw [sol_en hs, sol_en hs]
      | false =>
        refine ⟨false, rfl, iteT (q1 _ sm3 fun θ nn h => ?_)⟩
        have hs : Sol θ E := (hall θ nn).mp fun q hq => h q (List.mem_of_mem_take hq)
        have := rf rfl θ nn
        rw [sol_en hs, sol_en hs] at this
        exact this (h p (List.mem_of_getElem? hpi))
    · rintro σ H' ⟨y2, y3, fs, E, d, rfl, sm, hfd, g, hbin, hfl, hd, hall⟩
      rw [List.take_of_length_le (by rw [hp.len]; exact Nat.le_refl _)] at hall
      have := hp.len
      exact ⟨_, rfl, q2 H' F fs E d sm hF hfd g hbin (fun x => Nat.le_trans (hd x) (by omega)) hall⟩
/-! ### _law_solved -/
theorem en_shift {θ : Int → Kd} {a b : Kd} {c : Int} : en θ (a.1 - c, a.2) = en θ (b.1 - c, b.2) ↔ en θ a = en θ b := by
  unfold en
  dsimp only
  constructor
  · intro e
    have e1 := congrArg Prod.fst e
    have e2 := congrArg Prod.snd e
    dsimp only at e1 e2
    exact Prod.ext (by dsimp only; omega) e2
  · intro e
    have e1 := congrArg Prod.fst e
    have e2 := congrArg Prod.snd e
    dsimp only at e1 e2
    exact Prod.ext (by dsimp only; omega) e2
theorem ok_solved {f f1 : Addr} {fd fd1 : FuncData} {n : Nat} (D : DefN K mg "_law_solved" sLawSolved ["pairs"] f fd) (T : Txt mg) (DLawPut : DefN K mg "_law_put" sLawPut ["kind", "found"] f1 fd1) : FnOk P w K mg base CX0 (n + 2) f fd ["pairs"] (spUnify 19) := by
  have GLawPut : FnOk P w K mg base CX0 (n + 1) f1 fd1 ["kind", "found"] spPut := ok_put DLawPut T
  refine D.F.ok scLawSolved (fun vs H Q E h => ?_) (fun cdv A outer s H vs Q E0 hr h => ?_)
  · obtain ⟨l, us, ps, Bs, rfl, _⟩ := h
    rfl
  · obtain ⟨l, us, ps, Bs, rfl, hl, hp, hbs, okB, hn, q1, q2⟩ := h
    refine ⟨_, (pss_cons (ps_set (i := 1) scLawSolved.nd rfl (.inl rfl) pe_dnewK)
        (pss_cons (ps_for PassesOwn.never rfl (pi_list (pv 0)) (pg_tup rfl (pgs_cons (pg_name (i := 2) scLawSolved.nd rfl (.inl rfl)) (pgs_cons (pg_name (i := 3) scLawSolved.nd rfl (.inl rfl)) pgs_nil))) (pss_cons (ps_set (i := 4) scLawSolved.nd rfl (.inl rfl) (pe_call GLawPut (hr.mono (by omega)) (by rfl) DLawPut.g DLawPut.F.kp DLawPut.b .nil pass0 (pa_cons (pv 2) (pa_cons (pv 1) pa_nil))))
        (pss_cons (ps_set (i := 5) scLawSolved.nd rfl (.inl rfl) (pe_call GLawPut (hr.mono (by omega)) (by rfl) DLawPut.g DLawPut.F.kp DLawPut.b .nil pass0 (pa_cons (pv 3) (pa_cons (pv 1) pa_nil))))
        (pss_cons (ps_set (i := 6) scLawSolved.nd rfl (.inl rfl) (pe_callB (call_min2 rfl) (by rfl) T.min (by decide +kernel) (pa_cons (pe_ix ix_tup (pv 4) pe_int (fun _ _ => rfl)) (pa_cons (pe_ix ix_tup (pv 5) pe_int (fun _ _ => rfl)) pa_nil))))
        (pss_cons (ps_set (i := 4) scLawSolved.nd rfl (.inl rfl) (pe_tup (pa_cons (pe_op op_sub (pe_ix ix_tup (pv 4) pe_int (fun _ _ => rfl)) (pv 6)) (pa_cons (pe_ix ix_tup (pv 4) pe_int (fun _ _ => rfl)) pa_nil))))
        (pss_cons (ps_set (i := 5) scLawSolved.nd rfl (.inl rfl) (pe_tup (pa_cons (pe_op op_sub (pe_ix ix_tup (pv 5) pe_int (fun _ _ => rfl)) (pv 6)) (pa_cons (pe_ix ix_tup (pv 5) pe_int (fun _ _ => rfl)) pa_nil))))
        (pss_one (ps_if (pt_cmpR (op_neD hr.units) (pv 4) (pv 5) (nomark _)) (pss_cons (ps_if (pt_cmpR op_eq (pe_ix ix_tup (pv 4) pe_int (fun _ _ => rfl)) (pe_ix ix_tup (pv 5) pe_int (fun _ _ => rfl)) (nomark _)) (pss_one (ps_ret pe_non)) pss_nil)
        (pss_one (ps_if (PW.pt (pw_and (pt_cmpR op_eq (pe_ix ix_tup (pv 4) pe_int (fun _ _ => rfl)) pe_int (nomark _)) (pw_and1 (pt_val (pe_callB call_isB (by rfl) T.isinstance HL.boot_isinstance (pa_cons (pe_ix ix_tup (pv 4) pe_int (fun _ _ => rfl)) (pa_cons (pe_bltn (v := .ty "int") (by rfl) T.int HL.boot_int rfl) pa_nil))))))) (pss_one (ps_dput (hu_of hr) (pv 1) (pe_ix ix_tup (pv 4) pe_int (fun _ _ => rfl)) (pv 5) rfl)) (pss_one (ps_if (PW.pt (pw_and (pt_cmpR op_eq (pe_ix ix_tup (pv 5) pe_int (fun _ _ => rfl)) pe_int (nomark _)) (pw_and1 (pt_val (pe_callB call_isB (by rfl) T.isinstance HL.boot_isinstance (pa_cons (pe_ix ix_tup (pv 5) pe_int (fun _ _ => rfl)) (pa_cons (pe_bltn (v := .ty "int") (by rfl) T.int HL.boot_int rfl) pa_nil))))))) (pss_one (ps_dput (hu_of hr) (pv 1) (pe_ix ix_tup (pv 5) pe_int (fun _ _ => rfl)) (pv 4) rfl)) (pss_one (ps_ret pe_non))))))) pss_nil))))))))
        (pss_one (ps_ret (pv 1))))), ?_⟩
    have t2 : 2 ≤ sizeLine := by decide
    refine fun F hF => ⟨_, rfl, l, rfl, ⟨us, SqL.of (same_upd hF _ _ hl)⟩, ?_⟩
    have sF := same_upd (o := .dK []) hF
    refine for_list (xs := us) (fun i σ H' => ∃ (y2 y3 y4 y5 y6 : Option V) (fs : List (Int × Kd)) (E : Int → Kd) (d : Int → Nat), σ = [some (.ref l), some (.ref F), y2, y3, y4, y5, y6] ∧ Same H H' ∧ FD H' F fs ∧ Good (look fs) E d ∧ Bin fs Bs ∧ fs.length ≤ i ∧ (∀ x, d x ≤ i) ∧ ∀ θ, NN θ → (All θ (ps.take i) ↔ Sol θ E))
      ⟨none, none, none, none, none, [], _, _, rfl, sF, ⟨[], upd_same, .nil⟩, Good.nil, fun _ _ h => (by cases h), Nat.le_refl _, fun _ => Nat.le_refl _, fun θ _ => ⟨fun _ => sol_nil θ, fun _ p hp => (by cases hp)⟩⟩ (fun i σ H' _ q => ?_) ?_ ?_
    · obtain ⟨_, _, _, _, _, _, _, _, _, sm, _⟩ := q
      exact SqL.of (sm _ _ hl)
    · rintro i x σ H' hx ⟨y2, y3, y4, y5, y6, fs, E, d, rfl, sm, hfd, g, hbin, hfl, hd, hall⟩
      obtain ⟨p, hpi, a, u, v, rfl, ha, hu, hv⟩ := (hp.mono sm.tups).at hx
      have ip : i < ps.length := (List.getElem?_eq_some_iff.mp hpi).1
      obtain ⟨b1, b2⟩ := hbs p (List.mem_of_getElem? hpi)
      have eT : ps.take (i + 1) = ps.take i ++ [p] := by rw [List.take_add_one, hpi]; rfl
      have k1B := hbin.ek g b1
      have k2B := hbin.ek g b2
      have d20 : ∀ x, d x ≤ 20 := fun x => Nat.le_trans (hd x) (by omega)
      refine ⟨a, _, rfl, SqT.of ha, rfl, _, _, rfl, _, _, rfl, rfl, ?_⟩
      refine ⟨_, rfl, _, rfl, u, F, p.1, fs, E, d, rfl, hu, hfd, g, fun s e => okB _ (by rw [← e]; exact k1B), d20, fun H1 u1 s1 ku1 => ?_⟩
      have hfd1 : FD H1 F fs := by
        obtain ⟨kvs, h1, h2⟩ := hfd
        exact ⟨kvs, s1 _ _ h1, h2.mono s1.tups⟩
      refine ⟨_, rfl, _, rfl, v, F, p.2, fs, E, d, rfl, hv.mono s1.tups, hfd1, g, fun s e => okB _ (by rw [← e]; exact k2B), d20, fun H2 u2 s2 ku2 => ?_⟩
      have ku1 := ku1.mono s2.tups
      obtain ⟨kvs, hf2, hfl2⟩ : FD H2 F fs := by
        obtain ⟨kvs, h1, h2⟩ := hfd1
        exact ⟨kvs, s2 _ _ h1, h2.mono s2.tups⟩
      have sm2 := (sm.trans s1).trans s2
      have e1 : ∀ x, (en E p.1).2 = .inl x → look fs x = none := fun x hx => g.ekf hx
      have e2 : ∀ x, (en E p.2).2 = .inl x → look fs x = none := fun x hx => g.ekf hx
      have key : ∀ θ, Sol θ E → (en θ p.1 = en θ p.2 ↔ en θ (en E p.1) = en θ (en E p.2)) := fun θ hs => by rw [sol_en hs, sol_en hs]
      have k1B : (en E p.1).2 ∈ Bs := k1B
      have k2B : (en E p.2).2 ∈ Bs := k2B
      generalize en E p.1 = A1 at *
      generalize en E p.2 = A2 at *
      obtain ⟨c1, rfl, hc1, okc1⟩ := ku1
      obtain ⟨c2, rfl, hc2, okc2⟩ := ku2
      refine ⟨_, rfl, c1, _, _, _, rfl, rfl, SqT.of hc1, rfl, _, rfl, c2, _, _, _, rfl, rfl, SqT.of hc2, rfl, A1.1, A2.1, rfl, ?_⟩
      have lw : (if A2.1 < A1.1 then A2.1 else A1.1) ≤ A1.1 ∧ (if A2.1 < A1.1 then A2.1 else A1.1) ≤ A2.1 ∧ ((if A2.1 < A1.1 then A2.1 else A1.1) = A1.1 ∨ (if A2.1 < A1.1 then A2.1 else A1.1) = A2.1) := by
        split <;> omega
      dsimp only
      generalize (if A2.1 < A1.1 then A2.1 else A1.1) = low at lw
      obtain ⟨lw1, lw2, lw3⟩ := lw
      refine ⟨_, rfl, c1, _, _, _, rfl, rfl, SqT.of hc1, rfl, _, rfl, _, _, rfl, rfl, _, rfl, c1, _, _, _, rfl, rfl, SqT.of hc1, rfl, t2, fun g1 hg1 => ?_⟩
      have s3 := same_upd (o := .tup [.int (A1.1 - low), kV A1.2]) hg1
      refine ⟨_, rfl, c2, _, _, _, rfl, rfl, SqT.of (s3 _ _ hc2), rfl, _, rfl, _, _, rfl, rfl, _, rfl, c2, _, _, _, rfl, rfl, SqT.of (s3 _ _ hc2), rfl, t2, fun g2 hg2 => ?_⟩
      have s4 := same_upd (o := .tup [.int (A2.1 - low), kV A2.2]) hg2
      have s24 := s3.trans s4
      have h1 : KAt (upd (upd H2 g1 (.tup [.int (A1.1 - low), kV A1.2])) g2 (.tup [.int (A2.1 - low), kV A2.2])) (.ref g1) (A1.1 - low, A1.2) := ⟨g1, rfl, s4 _ _ upd_same, okc1⟩
      have h2 : KAt (upd (upd H2 g1 (.tup [.int (A1.1 - low), kV A1.2])) g2 (.tup [.int (A2.1 - low), kV A2.2])) (.ref g2) (A2.1 - low, A2.2) := ⟨g2, rfl, upd_same, okc2⟩
      have hf4 := s24 _ _ hf2
      have hfl4 := hfl2.mono s24.tups
      have sm4 := sm2.trans s24
      generalize upd (upd H2 g1 (.tup [.int (A1.1 - low), kV A1.2])) g2 (.tup [.int (A2.1 - low), kV A2.2]) = H4 at *
      have key2 : ∀ θ, Sol θ E → (en θ p.1 = en θ p.2 ↔ en θ (A1.1 - low, A1.2) = en θ (A2.1 - low, A2.2)) := fun θ hs => (key θ hs).trans en_shift.symm
      obtain ⟨B1, eB1⟩ : ∃ B1 : Kd, B1 = (A1.1 - low, A1.2) := ⟨_, rfl⟩
      obtain ⟨B2, eB2⟩ : ∃ B2 : Kd, B2 = (A2.1 - low, A2.2) := ⟨_, rfl⟩
      have l1 : 0 ≤ B1.1 := by rw [eB1]; show 0 ≤ A1.1 - low; omega
      have l2 : 0 ≤ B2.1 := by rw [eB2]; show 0 ≤ A2.1 - low; omega
      have l3 : B1.1 = 0 ∨ B2.1 = 0 := by
        rw [eB1, eB2]
        show A1.1 - low = 0 ∨ A2.1 - low = 0
        omega
      rw [← eB1, ← eB2] at key2
      rw [← eB1] at h1
      rw [← eB2] at h2
      have e1 : ∀ x, B1.2 = .inl x → look fs x = none := by rw [eB1]; exact e1
      have e2 : ∀ x, B2.2 = .inl x → look fs x = none := by rw [eB2]; exact e2
      have k1B : B1.2 ∈ Bs := by rw [eB1]; exact k1B
      have k2B : B2.2 ∈ Bs := by rw [eB2]; exact k2B
      clear eB1 eB2 lw1 lw2 lw3
      have none_ : (∀ θ, NN θ → en θ B1 ≠ en θ B2) → Q .non H4 := fun h => q1 _ sm4 fun θ nn hA => by
        have hs : Sol θ E := (hall θ nn).mp fun q hq => hA q (List.mem_of_mem_take hq)
        exact h θ nn ((key2 θ hs).mp (hA p (List.mem_of_getElem? hpi)))
      have some_ : ∀ (x : Int) (k : Kd) (H5 : Hp), look fs x = none → 0 ≤ k.1 → k.2 ≠ .inl x → (∀ u, k.2 = .inl u → look fs u = none) → Sum.inl x ∈ Bs → k.2 ∈ Bs → (∀ θ, en θ B1 = en θ B2 ↔ θ x = en θ k) → Same H H5 → FD H5 F (setF fs x k) →
          ∀ (y2 y3 y4 y5 y6 : Option V), ∃ (z2 z3 z4 z5 z6 : Option V) (fs : List (Int × Kd)) (E : Int → Kd) (d : Int → Nat), ([some (.ref l), some (.ref F), y2, y3, y4, y5, y6] : L2.St) = [some (.ref l), some (.ref F), z2, z3, z4, z5, z6] ∧ Same H H5 ∧ FD H5 F fs ∧ Good (look fs) E d ∧ Bin fs Bs ∧ fs.length ≤ i + 1 ∧ (∀ x, d x ≤ i + 1) ∧ ∀ θ, NN θ → (All θ (ps.take (i + 1)) ↔ Sol θ E) := fun x k H5 hx hk0 hkx hke hxB hkB hiff s5 fd5 y2 y3 y4 y5 y6 => by
        obtain ⟨gg, gs⟩ := g.bind (L2 := look (setF fs x k)) hx hk0 hkx hke (fun y => look_set ..)
        refine ⟨y2, y3, y4, y5, y6, _, _, _, rfl, s5, fd5, gg, hbin.set hxB hkB, by have := (setF_len fs x k).1; omega, bindD_le hd, fun θ nn => ?_⟩
        rw [eT, all_snoc, hall θ nn, gs θ]
        exact and_congr_right fun hs => (key2 θ hs).trans (hiff θ)
      obtain ⟨_, e, hg1', okb1⟩ := id h1
      cases e
      obtain ⟨_, e, hg2', okb2⟩ := id h2
      cases e
      refine ⟨_, rfl, _, rfl, _, _, h1.dp, h2.dp, kD_shaped _ okb1, kD_shaped _ okb2, !decide (B1 = B2), congrArg (fun z => V.bl (!z)) (kD_eqv B1 B2), ?_⟩
      by_cases m : B1 = B2
      · rw [decide_eq_true m]
        refine iteF ⟨_, _, _, _, _, fs, E, d, rfl, sm4, ⟨kvs, hf4, hfl4⟩, g, hbin, by omega, fun x => Nat.le_trans (hd x) (Nat.le_succ _), fun θ nn => ?_⟩
        rw [eT, all_snoc, hall θ nn]
        exact ⟨fun h => h.1, fun h => ⟨h, (key2 θ h).mpr (by rw [m])⟩⟩
      rw [decide_eq_false m]
      refine iteT ?_
      refine ⟨_, rfl, g1, _, _, _, rfl, rfl, SqT.of hg1', rfl, _, rfl, g2, _, _, _, rfl, rfl, SqT.of hg2', rfl, (by cases B1.2 <;> cases B2.2 <;> rfl), decide (B1.2 = B2.2), congrArg V.bl kV_inj, ?_⟩
      by_cases m2 : B1.2 = B2.2
      · rw [decide_eq_true m2]
        refine iteT (none_ fun θ nn h => m (Prod.ext ((eq_same m2).mp h) m2))
      rw [decide_eq_false m2]
      refine iteF ?_
      have ez : ∀ z : Int, decide (V.int z = V.int 0) = decide (z = 0) := fun z => by rw [Bool.eq_iff_iff]; simp
      have kvl : kvs.length < sizeLine := Nat.lt_of_le_of_lt (show kvs.length ≤ 100 by rw [hfl4.len]; omega) (by decide)
      have never : (∀ x, B1.1 = 0 → B1.2 ≠ .inl x) → (∀ x, B2.1 = 0 → B2.2 ≠ .inl x) → ∀ θ, NN θ → en θ B1 ≠ en θ B2 := fun n1 n2 θ nn => by
        by_cases z : B1.1 = 0
        · cases e : B1.2 with
          | inl x => exact absurd e (n1 x z)
          | inr s => exact eq_never nn e m2 (by omega) fun v hv w => n2 v (by omega) hv
        · have z2 : B2.1 = 0 := by omega
          cases e : B2.2 with
          | inl x => exact absurd e (n2 x z2)
          | inr s => exact fun w => eq_never nn e (fun q => m2 q.symm) (by omega) (fun v hv w => z (by omega)) w.symm
      have sp : ∀ B : Kd, (∃ x, B.1 = 0 ∧ B.2 = .inl x) ∨ (B.1 = 0 ∧ ∃ s, B.2 = .inr s) ∨ B.1 ≠ 0 := fun B => by
        by_cases z : B.1 = 0
        · cases e : B.2 with
          | inl x => exact .inl ⟨x, z, rfl⟩
          | inr s => exact .inr (.inl ⟨z, s, rfl⟩)
        · exact .inr (.inr z)
      rcases sp B1 with ⟨x, z, e⟩ | ⟨z, s, e⟩ | z
      · have hg1 := hg1'
        rw [e] at hg1
        refine ⟨_, rfl, g1, _, _, _, rfl, rfl, SqT.of hg1, rfl, rfl, decide (B1.1 = 0), congrArg V.bl (ez _), ?_⟩
        rw [decide_eq_true z]
        refine iteT ⟨_, rfl, g1, _, _, _, rfl, rfl, SqT.of hg1, rfl, _, "int", "int", true, rfl, .base (.int x), by decide +kernel, true, rfl, iteT ?_⟩
        refine ⟨_, rfl, _, rfl, _, rfl, g1, _, _, _, rfl, rfl, SqT.of hg1, rfl, F, _, rfl, DPut.k (k := .inl x) hf4 kvl, ?_⟩
        refine some_ x B2 _ (e1 x e) l2 (fun q => m2 (e.trans q.symm)) e2 (by rw [← e]; exact k1B) k2B (fun θ => (eq_var e (by omega)).trans (by rw [z]; simp)) (fun b o hb => ?_) (FD.put hf4 hfl4 h2) _ _ _ _ _
        rw [upd_ne (ne_of_none hb hF)]
        exact sm4 _ _ hb
      case' inr.inl =>
        have nofirst : ∀ x, B1.1 = 0 → B1.2 ≠ .inl x := fun x _ q => by rw [e] at q; cases q
        have hg1 := hg1'
        rw [e] at hg1
        refine ⟨_, rfl, g1, _, _, _, rfl, rfl, SqT.of hg1, rfl, rfl, decide (B1.1 = 0), congrArg V.bl (ez _), ?_⟩
        rw [decide_eq_true z]
        refine iteT ⟨_, rfl, g1, _, _, _, rfl, rfl, SqT.of hg1, rfl, _, "str", "int", false, rfl, .base (.str s), by decide +kernel, false, rfl, iteF ?_⟩
      case' inr.inr =>
        have nofirst : ∀ x, B1.1 = 0 → B1.2 ≠ .inl x := fun x q _ => z q
        refine ⟨_, rfl, g1, _, _, _, rfl, rfl, SqT.of hg1', rfl, rfl, decide (B1.1 = 0), congrArg V.bl (ez _), ?_⟩
        rw [decide_eq_false z]
        refine iteF (iteF ?_)
      all_goals
        clear z
        rcases sp B2 with ⟨y, z2, e3⟩ | ⟨z2, s2, e3⟩ | z2
        · have hg2 := hg2'
          rw [e3] at hg2
          refine ⟨_, rfl, g2, _, _, _, rfl, rfl, SqT.of hg2, rfl, rfl, decide (B2.1 = 0), congrArg V.bl (ez _), ?_⟩
          rw [decide_eq_true z2]
          refine iteT ⟨_, rfl, g2, _, _, _, rfl, rfl, SqT.of hg2, rfl, _, "int", "int", true, rfl, .base (.int y), by decide +kernel, true, rfl, iteT ?_⟩
          refine ⟨_, rfl, _, rfl, _, rfl, g2, _, _, _, rfl, rfl, SqT.of hg2, rfl, F, _, rfl, DPut.k (k := .inl y) hf4 kvl, ?_⟩
          refine some_ y B1 _ (e2 y e3) l1 (fun q => m2 (q.trans e3.symm)) e1 (by rw [← e3]; exact k2B) k1B (fun θ => eq_comm.trans ((eq_var e3 (by omega)).trans (by rw [z2]; simp))) (fun b o hb => ?_) (FD.put hf4 hfl4 h1) _ _ _ _ _
          rw [upd_ne (ne_of_none hb hF)]
          exact sm4 _ _ hb
        · have hg2 := hg2'
          rw [e3] at hg2
          refine ⟨_, rfl, g2, _, _, _, rfl, rfl, SqT.of hg2, rfl, rfl, decide (B2.1 = 0), congrArg V.bl (ez _), ?_⟩
          rw [decide_eq_true z2]
          refine iteT ⟨_, rfl, g2, _, _, _, rfl, rfl, SqT.of hg2, rfl, _, "str", "int", false, rfl, .base (.str s2), by decide +kernel, false, rfl, iteF ?_⟩
          exact none_ (never nofirst fun x _ q => by rw [e3] at q; cases q)
        · refine ⟨_, rfl, g2, _, _, _, rfl, rfl, SqT.of hg2', rfl, rfl, decide (B2.1 = 0), congrArg V.bl (ez _), ?_⟩
          rw [decide_eq_false z2]
          exact iteF (iteF (none_ (never nofirst fun x q _ => z2 q)))
    · rintro σ H' ⟨y2, y3, y4, y5, y6, fs, E, d, rfl, sm, hfd, g, hbin, hfl, hd, hall⟩
      rw [List.take_of_length_le (by rw [hp.len]; exact Nat.le_refl _)] at hall
      have := hp.len
      exact ⟨_, rfl, q2 H' F fs E d sm hF hfd g hbin (fun x => Nat.le_trans (hd x) (by omega)) hall⟩
end
end Q09
namespace Q09
open PySem PySem.Spec PyProof.Rows L2 SX HL
/-- the bases that the law draws -/
def BB : List Key := [.inl 0, .inl 1, .inl 2, .inl 3, .inl 4, .inl 5, .inr "num", .inr "text", .inr "bool", .inr "d", .inr "e2"]
theorem BB_ok : ∀ b ∈ BB, OkB b := fun b hb => okB_iff (List.all_eq_true.mp (show BB.all okB = true by unfold BB; simp only [List.all_cons, List.all_nil, okB]; decide +kernel) b hb)
theorem BB_var {y : Int} (h : Sum.inl y ∈ BB) : 0 ≤ y ∧ y < 6 := by
  unfold BB at h
  simp at h
  omega
theorem pickL (ks : List Key) {j : Int} (h0 : 0 ≤ j) (h1 : j < (ks.length : Int)) : ∃ k, atI (ks.map kV) j = some (kV k) ∧ k ∈ ks := by
  have hj : j.toNat < ks.length := by omega
  refine ⟨ks[j.toNat], ?_, List.getElem_mem hj⟩
  have h := atI_nat (xs := ks.map kV) (j := j.toNat) (v := kV ks[j.toNat]) (by simp [hj])
  have e : ((j.toNat : Nat) : Int) = j := by omega
  rwa [e] at h
theorem small' {n : Nat} (us : List V) (h : us.length = n) (g : n ≤ 1000) : us.length < sizeLine := Nat.lt_of_le_of_lt (by rw [h]; exact g) (by decide)
theorem Good.ground {fs : List (Int × Kd)} (h : ∀ v k, look fs v = some k → 0 ≤ k.1 ∧ ∃ s, k.2 = .inr s) : Good (look fs) (fun v => (look fs v).getD (0, .inl v)) (fun v => if (look fs v).isSome then 1 else 0) := by
  refine ⟨fun v hv => by simp [hv], fun v k hv => ?_⟩
  obtain ⟨h0, s, hs⟩ := h v k hv
  refine ⟨h0, ?_, by simp [hv], fun u hu => by rw [hs] at hu; cases hu⟩
  unfold en
  rw [hs]
  simp [hv, EK]
  exact Prod.ext rfl hs
section
variable {P : Program} {w : World} {K : PySem.W.Frag} {mg : Str → Option Value} {base : Heap}
/-! ### _law_base, _law_kind -/
def spBase : Sp := fun vs H Q _ => ∃ i : Int, vs = [.int i] ∧ ∀ H' b, Same H H' → b ∈ BB → Q (kV b) H'
theorem ok_base {f : Addr} {fd : FuncData} {n : Nat} (D : DefN K mg "_law_base" sLawBase ["number"] f fd) (T : Txt mg) : FnOk P w K mg base CX0 (n + 1) f fd ["number"] spBase := by
  refine D.F.ok scLawBase (fun vs H Q E h => ?_) (fun cdv A outer s H vs Q E hr h => ?_)
  · obtain ⟨i, rfl, _⟩ := h
    rfl
  · obtain ⟨i, rfl, qq⟩ := h
    refine ⟨_, (pss_one (ps_ret (pe_ix ix_list (pe_lst (pa_cons pe_int (pa_cons pe_int (pa_cons pe_int (pa_cons pe_int (pa_cons pe_int (pa_cons pe_int (pa_cons pe_str (pa_cons pe_str (pa_cons pe_str (pa_cons pe_str (pa_cons pe_str (pa_cons pe_int (pa_cons pe_int pa_nil)))))))))))))) (pe_op op_mod (pv 0) pe_int) (fun _ _ => rfl)))), ?_⟩
    refine ⟨(by show 13 ≤ sizeLine; decide), fun L hL => ⟨_, rfl, i, 13, rfl, rfl, (by show (0 : Int) < 13; decide), ?_⟩⟩
    obtain ⟨k, hk, hm⟩ := pickL [.inl 0, .inl 1, .inl 2, .inl 3, .inl 4, .inl 5, .inr "num", .inr "text", .inr "bool", .inr "d", .inr "e2", .inl 0, .inl 1] (Int.emod_nonneg i (show (13 : Int) ≠ 0 by decide)) (Int.emod_lt_of_pos i (show (0 : Int) < 13 by decide))
    refine ⟨L, _, _, _, rfl, rfl, SqL.of upd_same, hk, qq _ k (same_upd hL) ?_⟩
    unfold BB
    simp at hm ⊢
    rcases hm with h | h | h | h | h | h | h | h | h | h | h | h | h <;> simp [h]
def spKind : Sp := fun vs H Q _ => ∃ (d : Addr) (i : Int) (ds : List Int), vs = [.ref d, .int i] ∧ H d = some (.lst (ds.map V.int)) ∧ Draws ds ∧ 0 ≤ i ∧ ∀ H' v k, Same H H' → KAt H' v k → k.2 ∈ BB → Q v H'
theorem ok_kind {f fM fA fB : Addr} {fd fdM fdA fdB : FuncData} {n : Nat} (D : DefN K mg "_law_kind" sLawKind ["draws", "index"] f fd) (T : Txt mg) (DLawMix : DefN K mg "_law_mix" sLawMix ["cell", "k"] fM fdM) (DLawAt : DefN K mg "_law_at" sLawAt ["draws", "index"] fA fdA) (DLawBase : DefN K mg "_law_base" sLawBase ["number"] fB fdB) :
    FnOk P w K mg base CX0 (n + 3) f fd ["draws", "index"] spKind := by
  have GLawAt : FnOk P w K mg base CX0 (n + 2) fA fdA ["draws", "index"] spAt := ok_at DLawAt T DLawMix
  have GLawBase : FnOk P w K mg base CX0 (n + 1) fB fdB ["number"] spBase := ok_base DLawBase T
  refine D.F.ok scLawKind (fun vs H Q E h => ?_) (fun cdv A outer s H vs Q E hr h => ?_)
  · obtain ⟨d, i, ds, rfl, _⟩ := h
    rfl
  · obtain ⟨d, i, ds, rfl, hd, hds, i0, qq⟩ := h
    refine ⟨_, (pss_cons (ps_set (i := 2) scLawKind.nd rfl (.inl rfl) (pe_op op_mod (pe_call GLawAt (hr.mono (by omega)) (by rfl) DLawAt.g DLawAt.F.kp DLawAt.b .nil pass0 (pa_cons (pv 0) (pa_cons (pv 1) pa_nil))) pe_int))
        (C8.pss_cut (ps_if (pt_cmpR op_eq (pe_op op_mod (pe_op op_fdiv (pe_call GLawAt (hr.mono (by omega)) (by rfl) DLawAt.g DLawAt.F.kp DLawAt.b .nil pass0 (pa_cons (pv 0) (pa_cons (pv 1) pa_nil))) pe_int) pe_int) pe_int (nomark _)) (pss_one (ps_set (i := 2) scLawKind.nd rfl (.inl rfl) (pe_op op_mod (pe_op op_fdiv (pe_call GLawAt (hr.mono (by omega)) (by rfl) DLawAt.g DLawAt.F.kp DLawAt.b .nil pass0 (pa_cons (pv 0) (pa_cons (pv 1) pa_nil))) pe_int) pe_int))) pss_nil)
        (pss_one (ps_ret (pe_tup (pa_cons (pv 2) (pa_cons (pe_call GLawBase (hr.mono (by omega)) (by rfl) DLawBase.g DLawBase.F.kp DLawBase.b .nil pass0 (pa_cons (pe_call GLawAt (hr.mono (by omega)) (by rfl) DLawAt.g DLawAt.F.kp DLawAt.b .nil pass0 (pa_cons (pv 0) (pa_cons (pe_op op_add (pv 1) pe_int) pa_nil))) pa_nil)) pa_nil))))))), ?_⟩
    refine ⟨_, rfl, _, rfl, d, ds, i, rfl, hd, hds, i0, fun v v0 v1 => ⟨v, 4, rfl, rfl, (by show (0 : Int) < 4; decide), ?_⟩⟩
    refine ⟨fun σ' H' => ∃ l : Int, σ' = [some (.ref d), some (.int i), some (.int l)] ∧ H' = H, ?_, ?_⟩
    · refine ⟨_, rfl, _, rfl, d, ds, i, rfl, hd, hds, i0, fun u u0 u1 => ⟨u, 4, rfl, rfl, ⟨by decide, by decide⟩, _, 12, rfl, rfl, (by show (0 : Int) < 12; decide), rfl, _, rfl, ite2 (fun _ => ?_) (fun _ => ⟨_, rfl, rfl⟩)⟩⟩
      exact ⟨_, rfl, _, rfl, d, ds, i, rfl, hd, hds, i0, fun u u0 u1 => ⟨u, 48, rfl, rfl, ⟨by decide, by decide⟩, _, 41, rfl, rfl, (by show (0 : Int) < 41; decide), _, rfl, rfl⟩⟩
    · rintro σ' H' ⟨l, rfl, rfl⟩
      refine ⟨_, rfl, _, rfl, _, rfl, _, _, rfl, rfl, d, ds, i + 1, rfl, hd, hds, by omega, fun u u0 u1 => ⟨u, rfl, fun H2 b s2 hb => ⟨(by show 2 ≤ sizeLine; decide), fun t ht => qq _ _ (l, b) (s2.trans (same_upd ht)) ⟨t, rfl, upd_same, BB_ok b hb⟩ hb⟩⟩⟩
/-! ### _law_pairs -/
def spPairs : Sp := fun vs H Q _ => ∃ (d : Addr) (ds : List Int), vs = [.ref d] ∧ H d = some (.lst (ds.map V.int)) ∧ Draws ds ∧ ∀ H' l us ps, Same H H' → H l = none → H' l = some (.lst us) → PL H' us ps → BasesIn ps BB → ps.length ≤ 6 → Q (.ref l) H'
theorem ok_pairs {f fM fA fB fK fP : Addr} {fd fdM fdA fdB fdK fdP : FuncData} {n : Nat} (D : DefN K mg "_law_pairs" sLawPairs ["draws"] f fd) (T : Txt mg) (DLawMix : DefN K mg "_law_mix" sLawMix ["cell", "k"] fM fdM) (DLawAt : DefN K mg "_law_at" sLawAt ["draws", "index"] fA fdA) (DLawBase : DefN K mg "_law_base" sLawBase ["number"] fB fdB)
    (DLawKind : DefN K mg "_law_kind" sLawKind ["draws", "index"] fK fdK) (DLawPut : DefN K mg "_law_put" sLawPut ["kind", "found"] fP fdP) : FnOk P w K mg base CX0 (n + 4) f fd ["draws"] spPairs := by
  have GLawAt : FnOk P w K mg base CX0 (n + 2) fA fdA ["draws", "index"] spAt := ok_at DLawAt T DLawMix
  have GLawKind : FnOk P w K mg base CX0 (n + 3) fK fdK ["draws", "index"] spKind := ok_kind DLawKind T DLawMix DLawAt DLawBase
  have GLawPut : FnOk P w K mg base CX0 (n + 1) fP fdP ["kind", "found"] spPut := ok_put DLawPut T
  refine D.F.ok scLawPairs (fun vs H Q E h => ?_) (fun cdv A outer s H vs Q E0 hr h => ?_)
  · obtain ⟨d, ds, rfl, _⟩ := h
    rfl
  · obtain ⟨d, ds, rfl, hd, hds, qq⟩ := h
    refine ⟨_, (pss_cons (ps_set (i := 1) scLawPairs.nd rfl (.inl rfl) (pe_lst pa_nil))
        (pss_cons (ps_for PassesOwn.never rfl (pi_range1 (by rfl) T.range (pa_cons (pe_op op_mod (pe_call GLawAt (hr.mono (by omega)) (by rfl) DLawAt.g DLawAt.F.kp DLawAt.b .nil pass0 (pa_cons (pv 0) (pa_cons pe_int pa_nil))) pe_int) pa_nil)) (pg_name (i := 2) scLawPairs.nd rfl (.inl rfl)) (pss_one (ps_expr (pe_bm PySem.F.plainAttrs_list PySem.F.slot_list_append PySem.F.type_list_append mt_append (pv 1) (pa_cons (pe_tup (pa_cons (pe_call GLawKind (hr.mono (by omega)) (by rfl) DLawKind.g DLawKind.F.kp DLawKind.b .nil pass0 (pa_cons (pv 0) (pa_cons (pe_op op_add pe_int (pe_op op_mul pe_int (pv 2))) pa_nil))) (pa_cons (pe_call GLawKind (hr.mono (by omega)) (by rfl) DLawKind.g DLawKind.F.kp DLawKind.b .nil pass0 (pa_cons (pv 0) (pa_cons (pe_op op_add pe_int (pe_op op_mul pe_int (pv 2))) pa_nil))) pa_nil))) pa_nil)))))
        (pss_cons (ps_if (pt_cmpR op_eq (pe_op op_mod (pe_call GLawAt (hr.mono (by omega)) (by rfl) DLawAt.g DLawAt.F.kp DLawAt.b .nil pass0 (pa_cons (pv 0) (pa_cons pe_int pa_nil))) pe_int) pe_int (nomark _)) (pss_one (ps_ret (pv 1))) pss_nil)
        (pss_cons (ps_setLc (i := 3) (own := [("k", 2)]) (g := (gName 2)) (by rfl) scLawPairs.nd rfl rfl (sw_true rfl rfl rfl (by decide +kernel)) (pi_range1 (by rfl) T.range (pa_cons pe_int pa_nil)) (blkOk_by (own := [("k", 2)]) (N := ["draws", "pairs", "k", "solution", "known", "fitting", "first", "second", "left", "right"]) (sc := defScope sLawPairs) (by decide +kernel)) (fun _ _ _ _ _ => (pg_name (i := 2) scLawPairs.nd rfl (Or.inl rfl))) (fun _ _ _ _ _ => pts_nil) (fun _ _ _ _ _ => (pe_tup (pa_cons (pe_op op_mod (pe_call GLawAt (hr.mono (by omega)) (by rfl) DLawAt.g DLawAt.F.kp DLawAt.b .nil pass0 (pa_cons (pv 0) (pa_cons (pe_op op_add pe_int (pv 2)) pa_nil))) pe_int) (pa_cons (pe_ix (HL.ix_listK (K := K) rfl) (pe_lst (pa_cons pe_str (pa_cons pe_str (pa_cons pe_str pa_nil)))) (pe_op op_mod (pe_op op_fdiv (pe_call GLawAt (hr.mono (by omega)) (by rfl) DLawAt.g DLawAt.F.kp DLawAt.b .nil pass0 (pa_cons (pv 0) (pa_cons (pe_op op_add pe_int (pv 2)) pa_nil))) pe_int) pe_int) (fun _ _ => rfl)) pa_nil)))))
        (pss_cons (ps_set (i := 4) scLawPairs.nd rfl (.inl rfl) pe_dnewK)
        (pss_cons (ps_for PassesOwn.never rfl (pi_range1 (by rfl) T.range (pa_cons pe_int pa_nil)) (pg_name (i := 2) scLawPairs.nd rfl (.inl rfl)) (pss_one (ps_dput (hu_of hr) (pv 4) (pv 2) (pe_ix ix_list (pv 3) (pv 2) (fun _ _ => rfl)) rfl)))
        (pss_cons (ps_set (i := 5) scLawPairs.nd rfl (.inl rfl) (pe_lst pa_nil))
        (pss_cons (ps_for PassesOwn.never rfl (pi_list (pv 1)) (pg_tup rfl (pgs_cons (pg_name (i := 6) scLawPairs.nd rfl (.inl rfl)) (pgs_cons (pg_name (i := 7) scLawPairs.nd rfl (.inl rfl)) pgs_nil))) (pss_cons (ps_set (i := 8) scLawPairs.nd rfl (.inl rfl) (pe_call GLawPut (hr.mono (by omega)) (by rfl) DLawPut.g DLawPut.F.kp DLawPut.b .nil pass0 (pa_cons (pv 6) (pa_cons (pv 4) pa_nil))))
        (pss_cons (ps_set (i := 9) scLawPairs.nd rfl (.inl rfl) (pe_call GLawPut (hr.mono (by omega)) (by rfl) DLawPut.g DLawPut.F.kp DLawPut.b .nil pass0 (pa_cons (pv 7) (pa_cons (pv 4) pa_nil))))
        (pss_one (ps_if (pt_cmpR (op_eqD hr.units) (pv 8) (pv 9) (nomark _)) (pss_one (ps_expr (pe_bm PySem.F.plainAttrs_list PySem.F.slot_list_append PySem.F.type_list_append mt_append (pv 5) (pa_cons (pe_tup (pa_cons (pv 6) (pa_cons (pv 7) pa_nil))) pa_nil)))) (pss_one (ps_if (PW.pt (pw_and (pt_val (pe_callB call_isB (by rfl) T.isinstance HL.boot_isinstance (pa_cons (pe_ix ix_tup (pv 7) pe_int (fun _ _ => rfl)) (pa_cons (pe_bltn (v := .ty "int") (by rfl) T.int HL.boot_int rfl) pa_nil)))) (pw_and (pt_cmpR op_ge (pe_ix ix_tup (pv 8) pe_int (fun _ _ => rfl)) (pe_ix ix_tup (pe_ix ix_list (pv 3) (pe_ix ix_tup (pv 7) pe_int (fun _ _ => rfl)) (fun _ _ => rfl)) pe_int (fun _ _ => rfl)) (nomark _)) (pw_and1 (pt_cmpR op_eq (pe_ix ix_tup (pv 8) pe_int (fun _ _ => rfl)) (pe_ix ix_tup (pe_ix ix_list (pv 3) (pe_ix ix_tup (pv 7) pe_int (fun _ _ => rfl)) (fun _ _ => rfl)) pe_int (fun _ _ => rfl)) (nomark _)))))) (pss_one (ps_expr (pe_bm PySem.F.plainAttrs_list PySem.F.slot_list_append PySem.F.type_list_append mt_append (pv 5) (pa_cons (pe_tup (pa_cons (pv 6) (pa_cons (pe_tup (pa_cons (pe_op op_sub (pe_ix ix_tup (pv 8) pe_int (fun _ _ => rfl)) (pe_ix ix_tup (pe_ix ix_list (pv 3) (pe_ix ix_tup (pv 7) pe_int (fun _ _ => rfl)) (fun _ _ => rfl)) pe_int (fun _ _ => rfl))) (pa_cons (pe_ix ix_tup (pv 7) pe_int (fun _ _ => rfl)) pa_nil))) pa_nil))) pa_nil)))) (pss_one (ps_expr (pe_bm PySem.F.plainAttrs_list PySem.F.slot_list_append PySem.F.type_list_append mt_append (pv 5) (pa_cons (pe_tup (pa_cons (pv 6) (pa_cons (pv 8) pa_nil))) pa_nil)))))))))))
        (pss_one (ps_ret (pv 5))))))))))), ?_⟩
    have t2 : 2 ≤ sizeLine := by decide
    refine ⟨Nat.zero_le _, fun M hM => ?_⟩
    have sM := same_upd (o := .lst []) hM
    -- what is appended to a list of pairs
    have app : ∀ (M : Addr) (hM : H M = none) (H' H2 : Hp) (us : List V) (ps : List (Kd × Kd)) (x y : V) (p : Kd × Kd) (t : Addr), Same H H' → H' M = some (.lst us) → PL H' us ps → BasesIn ps BB → Same H' H2 → KAt H2 x p.1 → KAt H2 y p.2 → p.1.2 ∈ BB → p.2.2 ∈ BB → H2 t = none →
        Same H (upd (upd H2 t (.tup [x, y])) M (.lst (us ++ [.ref t]))) ∧ PL (upd (upd H2 t (.tup [x, y])) M (.lst (us ++ [.ref t]))) (us ++ [.ref t]) (ps ++ [p]) ∧ BasesIn (ps ++ [p]) BB := fun M hM H' H2 us ps x y p t sm hm hp hb s2 hx hy bx bY ht => by
      have hm2 := s2 _ _ hm
      have st := same_upd (o := .tup [x, y]) ht
      have hm3 := st _ _ hm2
      have tt := kept_tups (but_upd (H := upd H2 t (.tup [x, y])) (p := M) (o := .lst (us ++ [.ref t]))).kept fun zs z => by rw [hm3] at z; cases z
      have nMt : M ≠ t := ne_of_none hm2 ht
      refine ⟨fun b o hb => ?_, ((hp.mono (s2.trans st).tups).mono tt).snoc ⟨t, x, y, rfl, by rw [upd_ne nMt.symm, upd_same], (hx.mono st.tups).mono tt, (hy.mono st.tups).mono tt⟩, fun q hq => ?_⟩
      · rw [upd_ne (ne_of_none hb hM)]
        exact st _ _ (s2 _ _ (sm _ _ hb))
      · rcases List.mem_append.mp hq with hq | hq
        · exact hb q hq
        · rw [List.mem_singleton.mp hq]
          exact ⟨bx, bY⟩
    refine ⟨_, rfl, d, ds, 0, rfl, sM _ _ hd, hds, by decide, fun v v0 v1 => ⟨v, 7, rfl, rfl, (by show (0 : Int) < 7; decide), _, rfl, ?_⟩⟩
    have m0 : 0 ≤ v % 7 := Int.emod_nonneg _ (by decide)
    have m1 : v % 7 < 7 := Int.emod_lt_of_pos _ (by decide)
    show -2 ^ 62 ≤ v % 7 ∧ v % 7 < 2 ^ 62 ∧ _
    generalize v % 7 = m at m0 m1
    refine ⟨by omega, by omega, ?_⟩
    refine for_range (lo := 0) (n := m.toNat) (fun i σ H' => ∃ (y2 : Option V) (us : List V) (ps : List (Kd × Kd)), σ = [some (.ref d), some (.ref M), y2, none, none, none, none, none, none, none] ∧ Same H H' ∧ H' M = some (.lst us) ∧ PL H' us ps ∧ BasesIn ps BB ∧ ps.length = i)
      ⟨none, [], [], rfl, sM, upd_same, .nil, fun _ h => (by cases h), rfl⟩ ?_ ?_
    · rintro i σ H' hi ⟨y2, us, ps, rfl, sm, hm, hp, hb, hl⟩
      have ul : us.length = i := by rw [hp.len, hl]
      refine ⟨_, rfl, .inl ⟨rfl, _, SqL.of hm⟩, _, rfl, _, rfl, 4, _, rfl, rfl, .inl ⟨by decide, by decide⟩, 20, _, rfl, rfl, d, 20 + 4 * (0 + (i : Int)), ds, rfl, sm _ _ hd, hds, by omega, fun H1 x k1 s1 hx bx => ?_⟩
      refine ⟨_, rfl, _, rfl, 4, _, rfl, rfl, .inl ⟨by decide, by decide⟩, 22, _, rfl, rfl, d, 22 + 4 * (0 + (i : Int)), ds, rfl, s1 _ _ (sm _ _ hd), hds, by omega, fun H2 y k2 s2 hy by_ => ?_⟩
      refine ⟨t2, fun t ht => ⟨M, _, _, rfl, rfl, same_upd ht _ _ (s2 _ _ (s1 _ _ hm)), small' us ul (by omega), ?_⟩⟩
      obtain ⟨a1, a2, a3⟩ := app M hM H' H2 us ps x y (k1, k2) t sm hm hp hb (s1.trans s2) (hx.mono s2.tups) hy bx by_ ht
      exact ⟨_, _, _, rfl, a1, upd_same, a2, a3, by simp [hl]⟩
    · rintro σ H1 ⟨y2, us, ps, rfl, sm, hm, hp, hb, hl⟩
      have hd1 := sm _ _ hd
      have hl6 : ps.length ≤ 6 := by omega
      clear hl m0 m1
      refine ⟨_, rfl, d, ds, 1, rfl, hd1, hds, by decide, fun v v0 v1 => ⟨v, 2, rfl, rfl, (by show (0 : Int) < 2; decide), rfl, _, rfl, ite2 (fun _ => ⟨_, rfl, qq H1 M us ps sm hM hm hp hb hl6⟩) (fun _ => ?_)⟩⟩
      refine ⟨6, rfl, by decide, by decide, fun D0 hD => ?_⟩
      refine lc_range (lo := 0) (n := 6) (fun j H' => Same H1 H' ∧ ∃ ss ks, H' D0 = some (.lst ss) ∧ ss.length = j ∧ KL H' ss ks ∧ ∀ k ∈ ks, 0 ≤ k.1 ∧ (∃ s, k.2 = .inr s) ∧ k.2 ∈ BB) ⟨same_upd hD, [], [], upd_same, rfl, .nil, fun _ h => (by cases h)⟩ ?_ ?_
      · rintro j H' hj ⟨sm2, ss, ks, hss, hsl, hkl, hks⟩
        refine ⟨rfl, lc_yes ?_⟩
        refine ⟨_, rfl, _, rfl, 60, _, rfl, rfl, d, ds, 60 + (0 + (j : Int)), rfl, sm2 _ _ hd1, hds, by omega, fun v v0 v1 => ⟨v, 4, rfl, rfl, (by show (0 : Int) < 4; decide), ?_⟩⟩
        refine ⟨(by show 3 ≤ sizeLine; decide), fun L hL => ?_⟩
        have sL := same_upd (o := .lst [.str "num", .str "text", .str "d"]) hL
        refine ⟨_, rfl, _, rfl, 60, _, rfl, rfl, d, ds, 60 + (0 + (j : Int)), rfl, sL _ _ (sm2 _ _ hd1), hds, by omega, fun u u0 u1 => ⟨u, 4, rfl, rfl, ⟨by decide, by decide⟩, _, _, rfl, rfl, (by show (0 : Int) < 3; decide), ?_⟩⟩
        obtain ⟨kk, hkk, hmem⟩ := pickL [.inr "num", .inr "text", .inr "d"] (Int.emod_nonneg (u / 4) (show (3 : Int) ≠ 0 by decide)) (Int.emod_lt_of_pos (u / 4) (show (0 : Int) < 3 by decide))
        have hkB : kk ∈ BB := by
          unfold BB
          simp at hmem ⊢
          rcases hmem with h | h | h <;> simp [h]
        have hks' : ∃ s, kk = .inr s := by
          simp at hmem
          rcases hmem with h | h | h <;> exact ⟨_, h⟩
        refine ⟨L, _, _, _, rfl, rfl, SqL.of upd_same, hkk, t2, fun t ht => ?_⟩
        have st := same_upd (o := .tup [.int (v % 4), kV kk]) ht
        have hss2 := st _ _ (sL _ _ hss)
        have tt := kept_tups (but_upd (H := upd (upd H' L (.lst [.str "num", .str "text", .str "d"])) t (.tup [.int (v % 4), kV kk])) (p := D0) (o := .lst (ss ++ [.ref t]))).kept fun zs z => by rw [hss2] at z; cases z
        have nDt : D0 ≠ t := ne_of_none (sL _ _ hss) ht
        refine ⟨ss, hss2, small' ss hsl (by omega), fun b o hb => ?_, ss ++ [.ref t], ks ++ [(v % 4, kk)], upd_same, by simp [hsl], ((hkl.mono (sL.trans st).tups).mono tt).snoc ⟨t, rfl, by rw [upd_ne nDt.symm, upd_same], BB_ok kk hkB⟩, fun k hk => ?_⟩
        · rw [upd_ne (ne_of_none hb hD)]
          exact st _ _ (sL _ _ (sm2 _ _ hb))
        · rcases List.mem_append.mp hk with hk | hk
          · exact hks k hk
          · rw [List.mem_singleton.mp hk]
            exact ⟨Int.emod_nonneg _ (by decide), hks', hkB⟩
      · rintro H2 ⟨sm2, ss, ks, hss, hsl, hkl, hks⟩
        have kl6 : ks.length = 6 := by rw [← hkl.len, hsl]
        have s02 := sm.trans sm2
        intro Kn hKn
        have sK := same_upd (o := .dK []) hKn
        have hKH : H Kn = none := s02.free hKn
        refine ⟨6, rfl, by decide, by decide, ?_⟩
        refine for_range (lo := 0) (n := 6) (fun j σ H' => ∃ (y2 : Option V) (fs : List (Int × Kd)), σ = [some (.ref d), some (.ref M), y2, some (.ref D0), some (.ref Kn), none, none, none, none, none] ∧ Same H2 H' ∧ FD H' Kn fs ∧ (∀ v k, look fs v = some k → 0 ≤ k.1 ∧ ∃ s, k.2 = .inr s) ∧ Bin fs BB ∧ fs.length ≤ j)
          ⟨_, [], rfl, sK, ⟨[], upd_same, .nil⟩, fun _ _ h => (by cases h), fun _ _ h => (by cases h), Nat.le_refl _⟩ ?_ ?_
        · rintro j σ H' hj ⟨y2, fs, rfl, sm3, ⟨kvs, hf, hfl⟩, hgr, hbin, hlen⟩
          obtain ⟨v, k, hv, hk, hkv⟩ := (hkl.mono sm3.tups).get (i := j) (by omega)
          obtain ⟨g0, gs, gB⟩ := hks k (List.mem_of_getElem? hk)
          have e0 : (0 : Int) + (j : Int) = (j : Int) := by omega
          have hat : atI ss (0 + (j : Int)) = some v := by rw [e0]; exact atI_nat hv
          refine ⟨_, rfl, _, rfl, D0, _, _, _, rfl, rfl, SqL.of (sm3 _ _ hss), hat, _, rfl, _, rfl, Kn, _, rfl, DPut.k (k := .inl (0 + (j : Int))) hf (Nat.lt_of_le_of_lt (show kvs.length ≤ 100 by rw [hfl.len]; omega) (by decide)), ?_⟩
          refine ⟨_, setF fs (0 + (j : Int)) k, rfl, fun b o hb => ?_, FD.put hf hfl hkv, fun u c hc => ?_, hbin.set ?_ gB, by have := (setF_len fs (0 + (j : Int)) k).1; omega⟩
          · rw [upd_ne (ne_of_none hb hKn)]
            exact sm3 _ _ hb
          · rw [look_set] at hc
            by_cases e : u = 0 + (j : Int)
            · rw [if_pos e] at hc
              cases hc
              exact ⟨g0, gs⟩
            · rw [if_neg e] at hc
              exact hgr u c hc
          · have : j = 0 ∨ j = 1 ∨ j = 2 ∨ j = 3 ∨ j = 4 ∨ j = 5 := by omega
            unfold BB
            rcases this with rfl | rfl | rfl | rfl | rfl | rfl <;> simp
        · rintro σ H3 ⟨y2, fs, rfl, sm3, ⟨kvs, hf, hfl⟩, hgr, hbin, hlen⟩
          have g := Good.ground hgr
          generalize (fun v => (look fs v).getD (0, .inl v)) = E at g
          have g20 : ∀ u, (if (look fs u).isSome then 1 else 0) ≤ 20 := fun u => by split <;> omega
          have s03 := s02.trans sm3
          refine ⟨Nat.zero_le _, fun N hN => ?_⟩
          have hNH : H N = none := s03.free hN
          have hm3 := sm3 _ _ (sm2 _ _ hm)
          refine ⟨_, rfl, M, rfl, ⟨_, SqL.of (same_upd hN _ _ hm3)⟩, ?_⟩
          have hp3 := hp.mono (sm2.trans sm3).tups
          refine for_list (xs := us) (fun i σ H' => ∃ (y6 y7 y8 y9 : Option V) (us2 : List V) (ps2 : List (Kd × Kd)), σ = [some (.ref d), some (.ref M), y2, some (.ref D0), some (.ref Kn), some (.ref N), y6, y7, y8, y9] ∧ Same H3 H' ∧ H' N = some (.lst us2) ∧ PL H' us2 ps2 ∧ BasesIn ps2 BB ∧ ps2.length = i)
            ⟨none, none, none, none, [], [], rfl, same_upd hN, upd_same, .nil, fun _ h => (by cases h), rfl⟩ (fun i σ H' _ q => ?_) ?_ ?_
          · obtain ⟨_, _, _, _, _, _, _, sm4, _⟩ := q
            exact SqL.of (sm4 _ _ hm3)
          · rintro i x σ H' hx ⟨y6, y7, y8, y9, us2, ps2, rfl, sm4, hm4, hp4, hb4, hl4⟩
            obtain ⟨p, hpi, a, u, v, rfl, ha, hu, hv⟩ := (hp3.mono sm4.tups).at hx
            have ip : i < ps.length := (List.getElem?_eq_some_iff.mp hpi).1
            obtain ⟨b1, b2⟩ := hb p (List.mem_of_getElem? hpi)
            have ul2 : us2.length = i := by rw [hp4.len, hl4]
            have fdAt : ∀ {H5}, Same H3 H5 → FD H5 Kn fs := fun s => ⟨kvs, s _ _ hf, hfl.mono s.tups⟩
            have s04 := s03.trans sm4
            refine ⟨a, _, rfl, SqT.of ha, rfl, _, _, rfl, _, _, rfl, rfl, ?_⟩
            refine ⟨_, rfl, _, rfl, u, Kn, p.1, fs, E, _, rfl, hu, fdAt sm4, g, fun s e => BB_ok _ (by rw [← e]; exact hbin.ek g b1), g20, fun H5 u1 s5 ku1 => ?_⟩
            refine ⟨_, rfl, _, rfl, v, Kn, p.2, fs, E, _, rfl, hv.mono s5.tups, fdAt (sm4.trans s5), g, fun s e => BB_ok _ (by rw [← e]; exact hbin.ek g b2), g20, fun H6 u2 s6 ku2 => ?_⟩
            have s46 := s5.trans s6
            have ku1 := ku1.mono s6.tups
            have hu6 := hu.mono s46.tups
            have hv6 := hv.mono s46.tups
            have hm6 := s46 _ _ hm4
            have c1B : (en E p.1).2 ∈ BB := hbin.ek g b1
            generalize en E p.1 = A1 at *
            generalize en E p.2 = A2 at *
            obtain ⟨c1, rfl, hc1, okc1⟩ := id ku1
            obtain ⟨c2, rfl, hc2, okc2⟩ := id ku2
            have fin : ∀ (H7 : Hp) (x y : V) (q : Kd × Kd) (t : Addr) (z6 z7 z8 z9 : Option V), Same H' H7 → KAt H7 x q.1 → KAt H7 y q.2 → q.1.2 ∈ BB → q.2.2 ∈ BB → H7 t = none →
                ∃ (y6 y7 y8 y9 : Option V) (us3 : List V) (ps3 : List (Kd × Kd)), ([some (.ref d), some (.ref M), y2, some (.ref D0), some (.ref Kn), some (.ref N), z6, z7, z8, z9] : L2.St) = [some (.ref d), some (.ref M), y2, some (.ref D0), some (.ref Kn), some (.ref N), y6, y7, y8, y9] ∧ Same H3 (upd (upd H7 t (.tup [x, y])) N (.lst (us2 ++ [.ref t]))) ∧
                  (upd (upd H7 t (.tup [x, y])) N (.lst (us2 ++ [.ref t]))) N = some (.lst us3) ∧ PL (upd (upd H7 t (.tup [x, y])) N (.lst (us2 ++ [.ref t]))) us3 ps3 ∧ BasesIn ps3 BB ∧ ps3.length = i + 1 := fun H7 x y q t z6 z7 z8 z9 s7 hx hy bx bY ht => by
              obtain ⟨a1, a2, a3⟩ := app N hNH H' H7 us2 ps2 x y q t s04 hm4 hp4 hb4 s7 hx hy bx bY ht
              refine ⟨z6, z7, z8, z9, _, _, rfl, fun b o hb => ?_, upd_same, a2, a3, by simp [hl4]⟩
              rw [upd_ne (ne_of_none hb hN)]
              exact same_upd ht _ _ (s7 _ _ (sm4 _ _ hb))
            refine ⟨_, rfl, _, rfl, _, _, ku1.dp, ku2.dp, kD_shaped _ okc1, kD_shaped _ okc2, decide (A1 = A2), congrArg V.bl (kD_eqv A1 A2), ?_⟩
            by_cases m : A1 = A2
            · rw [decide_eq_true m]
              exact iteT ⟨_, rfl, .inl ⟨rfl, _, SqL.of hm6⟩, _, rfl, _, rfl, t2, fun t ht => ⟨N, _, _, rfl, rfl, same_upd ht _ _ hm6, small' us2 ul2 (by omega), fin H6 u v p t _ _ _ _ s46 hu6 hv6 b1 b2 ht⟩⟩
            rw [decide_eq_false m]
            refine iteF ?_
            obtain ⟨cv, rfl, hcv, okv⟩ := id hv6
            have last : Q (.ref N) H6 → True := fun _ => True.intro
            cases e : p.2.2 with
            | inr s =>
              rw [e] at hcv
              refine ⟨_, rfl, cv, _, _, _, rfl, rfl, SqT.of hcv, rfl, _, "str", "int", false, rfl, .base (.str s), by decide +kernel, false, rfl, iteF (iteF ?_)⟩
              exact ⟨_, rfl, .inl ⟨rfl, _, SqL.of hm6⟩, _, rfl, _, rfl, t2, fun t ht => ⟨N, _, _, rfl, rfl, same_upd ht _ _ hm6, small' us2 ul2 (by omega), fin H6 u (.ref c1) (p.1, A1) t _ _ _ _ s46 hu6 ku1 b1 c1B ht⟩⟩
            | inl y =>
              rw [e] at hcv
              obtain ⟨y0, y6'⟩ := BB_var (by rw [← e]; exact b2)
              obtain ⟨sv, sk, hsv, hsk, cs, rfl, hcs, _⟩ := (hkl.mono (sm3.trans (sm4.trans s46)).tups).get (i := y.toNat) (by omega)
              have hss6 := (sm3.trans (sm4.trans s46)) _ _ hss
              have hat : atI ss y = some (.ref cs) := by
                have h0 := atI_nat hsv
                have e : ((y.toNat : Nat) : Int) = y := by omega
                rwa [e] at h0
              refine ⟨_, rfl, cv, _, _, _, rfl, rfl, SqT.of hcv, rfl, _, "int", "int", true, rfl, .base (.int y), by decide +kernel, true, rfl, iteT ?_⟩
              refine ⟨_, rfl, c1, _, _, _, rfl, rfl, SqT.of hc1, rfl, _, rfl, _, rfl, cv, _, _, _, rfl, rfl, SqT.of hcv, rfl, D0, _, _, _, rfl, rfl, SqL.of hss6, hat, cs, _, _, _, rfl, rfl, SqT.of hcs, rfl, _, _, rfl, rfl, _, rfl, ?_⟩
              refine ite2 (fun ge => ?_) (fun _ => iteF ?_)
              · refine ⟨_, rfl, c1, _, _, _, rfl, rfl, SqT.of hc1, rfl, _, rfl, _, rfl, cv, _, _, _, rfl, rfl, SqT.of hcv, rfl, D0, _, _, _, rfl, rfl, SqL.of hss6, hat, cs, _, _, _, rfl, rfl, SqT.of hcs, rfl, (by cases A1.2 <;> cases sk.2 <;> rfl), _, rfl, ite2 (fun _ => ?_) (fun _ => ?_)⟩
                · refine ⟨_, rfl, .inl ⟨rfl, _, SqL.of hm6⟩, _, rfl, _, rfl, c1, _, _, _, rfl, rfl, SqT.of hc1, rfl, _, rfl, _, rfl, cv, _, _, _, rfl, rfl, SqT.of hcv, rfl, D0, _, _, _, rfl, rfl, SqL.of hss6, hat, cs, _, _, _, rfl, rfl, SqT.of hcs, rfl, _, _, rfl, rfl, _, rfl, cv, _, _, _, rfl, rfl, SqT.of hcv, rfl, t2, fun t ht => ?_⟩
                  have st := same_upd (o := .tup [.int (A1.1 - sk.1), .int y]) ht
                  have kt : KAt (upd H6 t (.tup [.int (A1.1 - sk.1), .int y])) (.ref t) (A1.1 - sk.1, .inl y) := ⟨t, rfl, upd_same, okB_iff rfl⟩
                  refine ⟨t2, fun t' ht' => ⟨N, _, _, rfl, rfl, same_upd ht' _ _ (st _ _ hm6), small' us2 ul2 (by omega), fin _ u (.ref t) (p.1, (A1.1 - sk.1, .inl y)) t' _ _ _ _ (s46.trans st) (hu6.mono st.tups) kt b1 (by rw [← e]; exact b2) ht'⟩⟩
                · exact ⟨_, rfl, .inl ⟨rfl, _, SqL.of hm6⟩, _, rfl, _, rfl, t2, fun t ht => ⟨N, _, _, rfl, rfl, same_upd ht _ _ hm6, small' us2 ul2 (by omega), fin H6 u (.ref c1) (p.1, A1) t _ _ _ _ s46 hu6 ku1 b1 c1B ht⟩⟩
              · exact ⟨_, rfl, .inl ⟨rfl, _, SqL.of hm6⟩, _, rfl, _, rfl, t2, fun t ht => ⟨N, _, _, rfl, rfl, same_upd ht _ _ hm6, small' us2 ul2 (by omega), fin H6 u (.ref c1) (p.1, A1) t _ _ _ _ s46 hu6 ku1 b1 c1B ht⟩⟩
          · rintro σ H' ⟨y6, y7, y8, y9, us2, ps2, rfl, sm4, hm4, hp4, hb4, hl4⟩
            exact ⟨_, rfl, qq H' N us2 ps2 (s03.trans sm4) hNH hm4 hp4 hb4 (by rw [hl4, hp.len]; exact hl6)⟩
end
end Q09
namespace Q09
open PySem PySem.Spec PyProof.Rows L2 SX HL
def pD (p : Kd × Kd) : PyData := .tuple [.tuple [.int p.1.1, kD p.1.2], .tuple [.int p.2.1, kD p.2.2]]
theorem kD_lay {k : Key} (h : OkB k) : PyData.canLay0 (kD k) = true := by
  cases k with
  | inl i => rfl
  | inr s => exact h s rfl
theorem kD_depth (k : Key) : PyData.depth (kD k) = 0 := by
  cases k <;> rfl
theorem pD_lay {p : Kd × Kd} (h1 : OkB p.1.2) (h2 : OkB p.2.2) : PyData.canLay0 (pD p) = true := by
  simp [pD, PyData.canLay0, PyData.canLayAll0, kD_lay h1, kD_lay h2]
theorem pD_depth (p : Kd × Kd) : PyData.depth (pD p) ≤ 2 := by
  simp [pD, PyData.depth, PyData.depthAll, kD_depth]
theorem pDs_lay {ps : List (Kd × Kd)} (h : ∀ p ∈ ps, OkB p.1.2 ∧ OkB p.2.2) : PyData.canLayAll0 (ps.map pD) = true ∧ PyData.depthAll (ps.map pD) ≤ 2 := by
  induction ps with
  | nil => exact ⟨rfl, by simp [PyData.depthAll]⟩
  | cons p r ih =>
    obtain ⟨i1, i2⟩ := ih fun q hq => h q (List.mem_cons_of_mem _ hq)
    obtain ⟨h1, h2⟩ := h p (List.mem_cons_self ..)
    have := pD_depth p
    simp only [List.map_cons, PyData.canLayAll0, PyData.depthAll, pD_lay h1 h2, i1]
    exact ⟨rfl, by omega⟩
theorem eqVK (y x : Key) : eqV (kV y) (kV x) = decide (y = x) := by
  cases y <;> cases x <;> simp [kV, eqV]
  all_goals rw [Bool.eq_iff_iff]; simp
theorem inVK {x : Key} {ks : List Key} (h : x ∈ ks) : inV (kV x) (ks.map kV) = true := by
  refine List.any_eq_true.mpr ⟨kV x, List.mem_map.mpr ⟨x, h, rfl⟩, ?_⟩
  rw [eqVK]
  exact decide_eq_true rfl
theorem flatK (ks : List Key) : (ks.map kV).all flatV = true := by
  rw [List.all_eq_true]
  intro x hx
  obtain ⟨y, _, rfl⟩ := List.mem_map.mp hx
  cases y <;> rfl
theorem unlock {H H' : Hp} {d : Addr} {u o : HO} (h : H d = some u) (s : Same (upd H d o) H') : Same H (upd H' d u) := fun a x hx => by
  by_cases e : a = d
  · subst e
    rw [upd_same, ← h, hx]
  · rw [upd_ne e]
    exact s a x (by rw [upd_ne e]; exact hx)
theorem FL.at {H : Hp} {kvs : List (Key × V)} {fs : List (Int × Kd)} (h : FL H kvs fs) {i : Nat} {k : Key} {v : V} (e : kvs[i]? = some (k, v)) : ∃ u, k = .inl u ∧ look fs u ≠ none := by
  induction h generalizing i with
  | nil => simp at e
  | @cons w j c kvs fs a r ih =>
    cases i with
    | zero =>
      simp at e
      exact ⟨j, e.1.symm, by simp [look]⟩
    | succ i =>
      obtain ⟨u, h1, h2⟩ := ih (by simpa using e)
      refine ⟨u, h1, ?_⟩
      unfold look
      split
      · simp
      · exact h2
theorem FD.same {H H' : Hp} {f : Addr} {fs : List (Int × Kd)} (h : FD H f fs) (s : Same H H') : FD H' f fs := by
  obtain ⟨kvs, h1, h2⟩ := h
  exact ⟨kvs, s _ _ h1, h2.mono s.tups⟩
theorem en_var (E : Int → Kd) (v : Int) : en E (0, .inl v) = E v := by
  show (0 + (E v).1, (E v).2) = E v
  rw [Int.zero_add]
section
variable {P : Program} {w : World} {K : PySem.W.Frag} {mg : Str → Option Value} {base : Heap}
theorem KAt.same {H : Hp} {v u : V} {k : Kd} (h : KAt H v k) (g : KAt H u k) {n : Nat} : SameD K H (n + 1) v u := by
  obtain ⟨a, rfl, ha, _⟩ := h
  obtain ⟨b, rfl, hb, _⟩ := g
  refine .row ha hb (by show 2 ≤ 1000000; decide) fun x hx => ?_
  rcases List.mem_cons.mp hx with rfl | hx
  · exact True.intro
  · rw [List.mem_singleton.mp hx]
    cases k.2 <;> exact True.intro
theorem PAt.self {H : Hp} {v : V} {p : Kd × Kd} (h : PAt H v p) : SameD K H 2 v v := by
  obtain ⟨a, x, y, rfl, e, h1, h2⟩ := h
  refine .seq (.tup e) (.tup e) rfl (by show 2 ≤ 1000000; decide) fun i u z hu hz => ?_
  rw [hu] at hz
  cases hz
  match i with
  | 0 => cases hu; exact h1.same h1
  | 1 => cases hu; exact h2.same h2
  | n + 2 => simp at hu
theorem PAt.dp {H : Hp} {v : V} {p : Kd × Kd} (h : PAt H v p) : Dp K H v (pD p) := by
  obtain ⟨a, x, y, rfl, e, h1, h2⟩ := h
  exact .tup (SqT.of e) (.cons h1.dp (.cons h2.dp .nil))
theorem PL.dps {H : Hp} {us : List V} {ps : List (Kd × Kd)} (h : PL H us ps) : DpAll K H us (ps.map pD) := by
  induction h with
  | nil => exact .nil
  | cons a _ ih => exact .cons a.dp ih
def spLaw (K : PySem.W.Frag) : Sp := fun vs H Q _ => ∃ (a : Addr) (ns : List Int), vs = [.ref a] ∧ SqL K H a (ns.map V.int) ∧ ns.length ≤ 63 ∧ ∀ H', Q (.bl true) H'
theorem ok_law {f f1 f2 f3 f4 f5 f6 f7 f8 f9 f10 f11 f12 f13 : Addr} {fd fd1 fd2 fd3 fd4 fd5 fd6 fd7 fd8 fd9 fd10 fd11 fd12 fd13 : FuncData} (D : DefN K mg "law" sLaw ["script"] f fd) (T : Txt mg)
    (DUnify : DefN K mg "unify" sUnify ["equations"] f1 fd1) (DMakeEqual : DefN K mg "make_equal" sMakeEqual ["first", "second", "found"] f2 fd2) (DEnded : DefN K mg "ended" sEnded ["kind", "found"] f3 fd3) (DReplaced : DefN K mg "replaced" sReplaced ["kind", "found"] f4 fd4)
    (DLawMix : DefN K mg "_law_mix" sLawMix ["cell", "k"] f5 fd5) (DLawDraws : DefN K mg "_law_draws" sLawDraws ["script"] f6 fd6) (DLawAt : DefN K mg "_law_at" sLawAt ["draws", "index"] f7 fd7)
    (DLawIsInteger : DefN K mg "_law_is_integer" sLawIsInteger ["actual"] f8 fd8) (DLawSame : DefN K mg "_law_same" sLawSame ["actual", "expected"] f9 fd9) (DLawBase : DefN K mg "_law_base" sLawBase ["number"] f10 fd10)
    (DLawKind : DefN K mg "_law_kind" sLawKind ["draws", "index"] f11 fd11) (DLawSolved : DefN K mg "_law_solved" sLawSolved ["pairs"] f12 fd12) (DLawPut : DefN K mg "_law_put" sLawPut ["kind", "found"] f13 fd13)
    {f14 : Addr} {fd14 : FuncData} (DLawPairs : DefN K mg "_law_pairs" sLawPairs ["draws"] f14 fd14) :
    FnOk P w K mg base CX0 6 f fd ["script"] (spLaw K) := by
  have GLawDraws : FnOk P w K mg base CX0 2 f6 fd6 ["script"] (spDraws K) := ok_draws (k := 0) DLawDraws T DLawMix
  have GLawPairs : FnOk P w K mg base CX0 4 f14 fd14 ["draws"] spPairs := ok_pairs (n := 0) DLawPairs T DLawMix DLawAt DLawBase DLawKind DLawPut
  have GUnify : FnOk P w K mg base CX0 4 f1 fd1 ["equations"] (spUnify 19) := ok_unify DUnify T DMakeEqual DEnded
  have GLawSolved : FnOk P w K mg base CX0 2 f12 fd12 ["pairs"] (spUnify 19) := ok_solved (n := 0) DLawSolved T DLawPut
  have GReplaced : FnOk P w K mg base CX0 1 f4 fd4 ["kind", "found"] spReplaced := ok_replaced (n := 0) DReplaced T
  have GLawPut : FnOk P w K mg base CX0 1 f13 fd13 ["kind", "found"] spPut := ok_put (n := 0) DLawPut T
  have GLawIsInteger : FnOk P w K mg base CX0 1 f8 fd8 ["actual"] spIsInt := ok_isint (k := 0) DLawIsInteger T
  have GLawSame : FnOk P w K mg base CX0 5 f9 fd9 ["actual", "expected"] (spSameG K 3) := ok_same DLawSame T DLawIsInteger 3
  refine D.F.ok scLaw (fun vs H Q E h => ?_) (fun cdv A outer s H vs Q E0 hr h => ?_)
  · obtain ⟨a, ns, rfl, _⟩ := h
    rfl
  · obtain ⟨a, ns, rfl, hS, hn, qq⟩ := h
    refine ⟨_, (pss_cons (ps_set (i := 1) scLaw.nd rfl (.inl rfl) (pe_call GLawDraws (hr.mono (by omega)) (by rfl) DLawDraws.g DLawDraws.F.kp DLawDraws.b .nil pass0 (pa_cons (pv 0) pa_nil)))
        (pss_cons (ps_set (i := 2) scLaw.nd rfl (.inl rfl) (pe_call GLawPairs (hr.mono (by omega)) (by rfl) DLawPairs.g DLawPairs.F.kp DLawPairs.b .nil pass0 (pa_cons (pv 1) pa_nil)))
        (pss_cons (ps_set (i := 3) scLaw.nd rfl (.inl rfl) (pe_callTy call_list_of (by rfl) T.list HL.boot_list (pa_cons (pv 2) pa_nil)))
        (pss_cons (ps_set (i := 4) scLaw.nd rfl (.inr rfl) (pe_call GUnify (hr.mono (by omega)) (by rfl) DUnify.g DUnify.F.kp DUnify.b .nil pass0 (pa_cons (pv 3) pa_nil)))
        (pss_cons (ps_set (i := 5) scLaw.nd rfl (.inr rfl) (pe_call GLawSolved (hr.mono (by omega)) (by rfl) DLawSolved.g DLawSolved.F.kp DLawSolved.b .nil pass0 (pa_cons (pv 2) pa_nil)))
        (pss_cons (ps_if (PW.pt (pw_or (pt_not (pt_val (pe_call GLawSame (hr.mono (by omega)) (by rfl) DLawSame.g DLawSame.F.kp DLawSame.b .nil pass0 (pa_cons (pv 3) (pa_cons (pv 2) pa_nil))))) (pw_or (pt_cmp (pc_isN (pv 5))) (pw_or1 (pt_cmp (pc_isN (pv 4))))))) (pss_one (ps_ret (pe_and (pe_cmp (pc_isN (pv 4)) rfl) (pe_and (pe_cmp (pc_isN (pv 5)) rfl) (pe_one (pe_cmpR (op_eqD hr.units) (pv 3) (pv 2) (nomark _))))))) pss_nil)
        (pss_cons (ps_if (pt_not (pt_val (pe_callB call_isB (by rfl) T.isinstance HL.boot_isinstance (pa_cons (pv 4) (pa_cons (pe_bltn (v := .ty "dict") (by rfl) T.dict HL.boot_dict rfl) pa_nil))))) (pss_one (ps_ret pe_bl)) pss_nil)
        (pss_cons (ps_lock (ps_for PassesOwn.never rfl (pi_keys (pv 4)) (pg_name (i := 6) scLaw.nd rfl (.inl rfl)) (pss_cons (ps_if (PW.pt (pw_or (pt_not (pt_val (pe_call GLawIsInteger (hr.mono (by omega)) (by rfl) DLawIsInteger.g DLawIsInteger.F.kp DLawIsInteger.b .nil pass0 (pa_cons (pv 6) pa_nil)))) (pw_or (pt_not (pt_val (pe_callB call_isB (by rfl) T.isinstance HL.boot_isinstance (pa_cons (pe_dget (hu_of hr) (pv 4) (pv 6) (fun _ _ => rfl)) (pa_cons (pe_bltn (v := .ty "tuple") (by rfl) T.tuple HL.boot_tuple rfl) pa_nil))))) (pw_or1 (pt_cmpR op_ne (pe_callB call_len_seq (by rfl) T.len PySem.boot_len (pa_cons (pe_dget (hu_of hr) (pv 4) (pv 6) (fun _ _ => rfl)) pa_nil)) pe_int (nomark _)))))) (pss_one (ps_ret pe_bl)) pss_nil)
        (pss_one (ps_if (pt_cmpR op_notIn_seq (pv 6) (pe_lc (own := [("kind", 15)]) (g := (gName 15)) (by rfl) scLaw.nd (pi_list (pe_op op_cat (pe_lc (own := [("pair", 16)]) (g := (gName 16)) (by rfl) scLaw.nd (pi_list (pv 2)) (blkOk_by (own := [("pair", 16)]) (N := ["script", "draws", "pairs", "passed", "found", "expected", "base", "first", "second", "names", "told", "due", "back", "k", "want", "kind", "pair"]) (sc := defScope sLaw) (by decide +kernel)) (fun _ _ _ _ _ => (pg_name (i := 16) scLaw.nd rfl (Or.inl rfl))) (fun _ _ _ _ _ => pts_nil) (fun _ _ _ _ _ => (pe_ix (HL.ix_tupK (K := K) rfl) (pv 16) pe_int (fun _ _ => rfl)))) (pe_lc (own := [("pair", 16)]) (g := (gName 16)) (by rfl) scLaw.nd (pi_list (pv 2)) (blkOk_by (own := [("pair", 16)]) (N := ["script", "draws", "pairs", "passed", "found", "expected", "base", "first", "second", "names", "told", "due", "back", "k", "want", "kind", "pair"]) (sc := defScope sLaw) (by decide +kernel)) (fun _ _ _ _ _ => (pg_name (i := 16) scLaw.nd rfl (Or.inl rfl))) (fun _ _ _ _ _ => pts_nil) (fun _ _ _ _ _ => (pe_ix (HL.ix_tupK (K := K) rfl) (pv 16) pe_int (fun _ _ => rfl)))))) (blkOk_by (own := [("kind", 15)]) (N := ["script", "draws", "pairs", "passed", "found", "expected", "base", "first", "second", "names", "told", "due", "back", "k", "want", "kind", "pair"]) (sc := defScope sLaw) (by decide +kernel)) (fun _ _ _ _ _ => (pg_name (i := 15) scLaw.nd rfl (Or.inl rfl))) (fun _ _ _ _ _ => pts_nil) (fun _ _ _ _ _ => (pe_ix (HL.ix_tupK (K := K) rfl) (pv 15) pe_int (fun _ _ => rfl)))) rfl) (pss_one (ps_ret pe_bl)) pss_nil)))))
        (pss_cons (ps_for PassesOwn.never rfl (pi_list (pv 2)) (pg_tup rfl (pgs_cons (pg_name (i := 7) scLaw.nd rfl (.inl rfl)) (pgs_cons (pg_name (i := 8) scLaw.nd rfl (.inl rfl)) pgs_nil))) (pss_one (ps_if (pt_not (pt_val (pe_call GLawSame (hr.mono (by omega)) (by rfl) DLawSame.g DLawSame.F.kp DLawSame.b .nil pass0 (pa_cons (pe_call GReplaced (hr.mono (by omega)) (by rfl) DReplaced.g DReplaced.F.kp DReplaced.b .nil pass0 (pa_cons (pv 7) (pa_cons (pv 4) pa_nil))) (pa_cons (pe_call GReplaced (hr.mono (by omega)) (by rfl) DReplaced.g DReplaced.F.kp DReplaced.b .nil pass0 (pa_cons (pv 8) (pa_cons (pv 4) pa_nil))) pa_nil))))) (pss_one (ps_ret pe_bl)) pss_nil)))
        (pss_cons (ps_setLc (i := 9) (own := [("k", 13)]) (g := (gName 13)) (by rfl) scLaw.nd rfl rfl (sw_true rfl rfl rfl (by decide +kernel)) (pi_range1 (by rfl) T.range (pa_cons pe_int pa_nil)) (blkOk_by (own := [("k", 13)]) (N := ["script", "draws", "pairs", "passed", "found", "expected", "base", "first", "second", "names", "told", "due", "back", "k", "want", "kind", "pair"]) (sc := defScope sLaw) (by decide +kernel)) (fun _ _ _ _ _ => (pg_name (i := 13) scLaw.nd rfl (Or.inl rfl))) (fun _ _ _ _ _ => pts_nil) (fun _ _ _ _ _ => (pv 13)))
        (pss_cons (ps_setLc (i := 10) (own := [("base", 6)]) (g := (gName 6)) (by rfl) scLaw.nd rfl rfl (sw_true rfl rfl rfl (by decide +kernel)) (pi_list (pv 9)) (blkOk_by (own := [("base", 6)]) (N := ["script", "draws", "pairs", "passed", "found", "expected", "base", "first", "second", "names", "told", "due", "back", "k", "want", "kind", "pair"]) (sc := defScope sLaw) (by decide +kernel)) (fun _ _ _ _ _ => (pg_name (i := 6) scLaw.nd rfl (Or.inl rfl))) (fun _ _ _ _ _ => pts_nil) (fun _ _ _ _ _ => (pe_call GReplaced (hr.mono (by omega)) (by rfl) DReplaced.g DReplaced.F.kp DReplaced.b .nil pass0 (pa_cons (pe_tup (pa_cons pe_int (pa_cons (pv 6) pa_nil))) (pa_cons (pv 4) pa_nil)))))
        (pss_cons (ps_setLc (i := 11) (own := [("base", 6)]) (g := (gName 6)) (by rfl) scLaw.nd rfl rfl (sw_true rfl rfl rfl (by decide +kernel)) (pi_list (pv 9)) (blkOk_by (own := [("base", 6)]) (N := ["script", "draws", "pairs", "passed", "found", "expected", "base", "first", "second", "names", "told", "due", "back", "k", "want", "kind", "pair"]) (sc := defScope sLaw) (by decide +kernel)) (fun _ _ _ _ _ => (pg_name (i := 6) scLaw.nd rfl (Or.inl rfl))) (fun _ _ _ _ _ => pts_nil) (fun _ _ _ _ _ => (pe_call GLawPut (hr.mono (by omega)) (by rfl) DLawPut.g DLawPut.F.kp DLawPut.b .nil pass0 (pa_cons (pe_tup (pa_cons pe_int (pa_cons (pv 6) pa_nil))) (pa_cons (pv 5) pa_nil)))))
        (pss_cons (ps_set (i := 12) scLaw.nd rfl (.inl rfl) pe_dnewK)
        (pss_cons (ps_for PassesOwn.never rfl (pi_range1 (by rfl) T.range (pa_cons pe_int pa_nil)) (pg_name (i := 13) scLaw.nd rfl (.inl rfl)) (pss_one (ps_if (pt_val (pe_callB call_isB (by rfl) T.isinstance HL.boot_isinstance (pa_cons (pe_ix ix_tup (pe_ix ix_list (pv 10) (pv 13) (fun _ _ => rfl)) pe_int (fun _ _ => rfl)) (pa_cons (pe_bltn (v := .ty "int") (by rfl) T.int HL.boot_int rfl) pa_nil)))) (pss_cons (ps_if (PW.pt (pw_or (pt_cmp (pc_din (hu_of hr) (pe_ix ix_tup (pe_ix ix_list (pv 10) (pv 13) (fun _ _ => rfl)) pe_int (fun _ _ => rfl)) (pv 4))) (pw_or1 (pt_cmpR op_lt (pe_ix ix_tup (pe_ix ix_list (pv 11) (pv 13) (fun _ _ => rfl)) pe_int (fun _ _ => rfl)) (pe_ix ix_tup (pe_ix ix_list (pv 10) (pv 13) (fun _ _ => rfl)) pe_int (fun _ _ => rfl)) (nomark _))))) (pss_one (ps_ret pe_bl)) pss_nil)
        (pss_cons (ps_set (i := 14) scLaw.nd rfl (.inl rfl) (pe_tup (pa_cons (pe_op op_sub (pe_ix ix_tup (pe_ix ix_list (pv 11) (pv 13) (fun _ _ => rfl)) pe_int (fun _ _ => rfl)) (pe_ix ix_tup (pe_ix ix_list (pv 10) (pv 13) (fun _ _ => rfl)) pe_int (fun _ _ => rfl))) (pa_cons (pe_ix ix_tup (pe_ix ix_list (pv 11) (pv 13) (fun _ _ => rfl)) pe_int (fun _ _ => rfl)) pa_nil))))
        (pss_cons (ps_if (PW.pt (pw_and (pt_cmp (pc_din (hu_of hr) (pe_ix ix_tup (pe_ix ix_list (pv 10) (pv 13) (fun _ _ => rfl)) pe_int (fun _ _ => rfl)) (pv 12))) (pw_and1 (pt_cmpR (op_neD hr.units) (pe_dget (hu_of hr) (pv 12) (pe_ix ix_tup (pe_ix ix_list (pv 10) (pv 13) (fun _ _ => rfl)) pe_int (fun _ _ => rfl)) (fun _ _ => rfl)) (pv 14) (nomark _))))) (pss_one (ps_ret pe_bl)) pss_nil)
        (pss_one (ps_dput (hu_of hr) (pv 12) (pe_ix ix_tup (pe_ix ix_list (pv 10) (pv 13) (fun _ _ => rfl)) pe_int (fun _ _ => rfl)) (pv 14) rfl))))) (pss_one (ps_if (pt_not (pt_val (pe_call GLawSame (hr.mono (by omega)) (by rfl) DLawSame.g DLawSame.F.kp DLawSame.b .nil pass0 (pa_cons (pe_ix ix_list (pv 10) (pv 13) (fun _ _ => rfl)) (pa_cons (pe_ix ix_list (pv 11) (pv 13) (fun _ _ => rfl)) pa_nil))))) (pss_one (ps_ret pe_bl)) pss_nil)))))
        (pss_one (ps_ret (pe_and (pe_call GLawSame (hr.mono (by omega)) (by rfl) DLawSame.g DLawSame.F.kp DLawSame.b .nil pass0 (pa_cons (pe_call GReplaced (hr.mono (by omega)) (by rfl) DReplaced.g DReplaced.F.kp DReplaced.b .nil pass0 (pa_cons (pe_tup (pa_cons pe_int (pa_cons pe_int pa_nil))) (pa_cons (pe_disp (pps_cons pe_int (pe_tup (pa_cons pe_int (pa_cons pe_int pa_nil))) (pps_cons pe_int (pe_tup (pa_cons pe_int (pa_cons pe_str pa_nil))) pps_nil)) (by rfl) (by rfl) (fun z => by cases z) (by decide)) pa_nil))) (pa_cons (pe_tup (pa_cons pe_int (pa_cons pe_str pa_nil))) pa_nil))) (pe_one (pe_call GLawSame (hr.mono (by omega)) (by rfl) DLawSame.g DLawSame.F.kp DLawSame.b .nil pass0 (pa_cons (pe_call GReplaced (hr.mono (by omega)) (by rfl) DReplaced.g DReplaced.F.kp DReplaced.b .nil pass0 (pa_cons (pe_tup (pa_cons pe_int (pa_cons pe_str pa_nil))) (pa_cons pe_dnewK pa_nil))) (pa_cons (pe_tup (pa_cons pe_int (pa_cons pe_str pa_nil))) pa_nil))))))))))))))))))))), ?_⟩
    have t2 : 2 ≤ sizeLine := by decide
    refine ⟨_, rfl, a, ns, rfl, hS, hn, fun d H1 ds hd s1 hdd hdl hds => ?_⟩
    refine ⟨_, rfl, d, ds, rfl, hdd, hds, fun H2 l us ps s2 hlf hl hp hb hl6 => ?_⟩
    refine ⟨_, rfl, l, us, rfl, .inl (SqL.of hl), fun l2 hl2 => ?_⟩
    have sa := same_upd (o := .lst us) hl2
    have hl2' : upd H2 l2 (.lst us) l2 = some (.lst us) := upd_same
    have hlA := sa _ _ hl
    have hpA := hp.mono sa.tups
    generalize upd H2 l2 (.lst us) = HA at *
    obtain ⟨Bs, eBs⟩ : ∃ Bs : List Key, Bs = ps.map (·.1.2) ++ ps.map (·.2.2) := ⟨_, rfl⟩
    have hbs : BasesIn ps Bs := fun p hp => by
      rw [eBs]
      exact ⟨List.mem_append_left _ (List.mem_map.mpr ⟨p, hp, rfl⟩), List.mem_append_right _ (List.mem_map.mpr ⟨p, hp, rfl⟩)⟩
    have okBs : ∀ b ∈ Bs, OkB b := fun b hb' => by
      rw [eBs] at hb'
      rcases List.mem_append.mp hb' with h | h
      · obtain ⟨p, hp, rfl⟩ := List.mem_map.mp h
        exact BB_ok _ (hb p hp).1
      · obtain ⟨p, hp, rfl⟩ := List.mem_map.mp h
        exact BB_ok _ (hb p hp).2
    have samePs : ∀ {H}, PL H us ps → H l2 = some (.lst us) → H l = some (.lst us) → SameD K H 3 (.ref l2) (.ref l) := fun {H} hp h1 h2 => .seq (.lst h1) (.lst h2) rfl (by rw [hp.len]; omega) fun i u z hu hz => by
      rw [hu] at hz
      cases hz
      obtain ⟨p, _, hpa⟩ := hp.at hu
      exact hpa.self
    refine ⟨_, rfl, l2, us, ps, Bs, rfl, hl2', hpA, hbs, okBs, by omega, fun HB sB noU => ?_, fun HB F fs E dE sB hFn hfd g hbin hd20 hall => ?_⟩
    · -- no solution
      have hlB := sB _ _ hlA
      have hpB := hpA.mono sB.tups
      refine ⟨_, rfl, l, us, ps, Bs, rfl, hlB, hpB, hbs, okBs, by omega, fun HC sC noL => ?_, fun HC F fs E dE sC hFn hfd g hbin hd20 hall => ?_⟩
      · have hpC := hpB.mono sC.tups
        refine ⟨_, rfl, _, rfl, .ref l2, .ref l, rfl, samePs hpC (sC _ _ (sB _ _ hl2')) (sC _ _ hlB), fun HD sD => ⟨true, rfl, iteF ?_⟩⟩
        have hpD := hpC.mono sD.tups
        obtain ⟨ly, dp⟩ := pDs_lay (ps := ps) fun p hp => ⟨BB_ok _ (hb p hp).1, BB_ok _ (hb p hp).2⟩
        have sh : SeqAt.shaped (.list (ps.map pD)) = true := by
          have : PyData.depth (.list (ps.map pD)) ≤ 64 := by
            show PyData.depthAll (ps.map pD) + 1 ≤ 64
            omega
          show (PyData.canLayAll0 (ps.map pD) && decide (PyData.depth (.list (ps.map pD)) ≤ 64)) = true
          rw [ly, decide_eq_true this]
          rfl
        have nt : decide (V.non = V.non) = true := decide_eq_true rfl
        refine ⟨_, rfl, true, congrArg V.bl nt, iteT (iteT ?_)⟩
        refine ⟨_, rfl, true, congrArg V.bl nt, iteT ⟨_, rfl, true, congrArg V.bl nt, iteT ?_⟩⟩
        refine ⟨_, rfl, _, rfl, _, _, .lst (SqL.of (sD _ _ (sC _ _ (sB _ _ hl2')))) hpD.dps, .lst (SqL.of (sD _ _ (sC _ _ hlB))) hpD.dps, sh, sh, ?_⟩
        rw [SeqAt.eqv_refl (.list (ps.map pD)) ly]
        exact qq _
      · exact absurd (fun q hq => (hall E g.nn).mpr g.self q hq) (noU E g.nn)
    · have hlB := sB _ _ hlA
      have hpB := hpA.mono sB.tups
      refine ⟨_, rfl, l, us, ps, Bs, rfl, hlB, hpB, hbs, okBs, by omega, fun HC sC noL => ?_, fun HC Fx fsx Ex dx sC hFxn hfdx gx hbinx hdx20 hallx => ?_⟩
      · exact absurd (fun q hq => (hall E g.nn).mpr g.self q hq) (noL E g.nn)
      have hpC := hpB.mono sC.tups
      have okE : ∀ v s, (E v).2 = .inr s → OkB (.inr s) := fun v s e => by
        cases q : look fs v with
        | none => rw [(g.out v q).1] at e; cases e
        | some j => exact okBs _ (by rw [← e]; exact hbin.en g _ v (Nat.le_refl _) (hbin v j q).1)
      have okX : ∀ v s, (Ex v).2 = .inr s → OkB (.inr s) := fun v s e => by
        cases q : look fsx v with
        | none => rw [(gx.out v q).1] at e; cases e
        | some j => exact okBs _ (by rw [← e]; exact hbinx.en gx _ v (Nat.le_refl _) (hbinx v j q).1)
      have solX : Sol Ex E := (hall Ex gx.nn).mp ((hallx Ex gx.nn).mpr gx.self)
      have allE : All E ps := (hall E g.nn).mpr g.self
      have nf : ∀ x : Addr, decide (V.ref x = V.non) = false := fun x => decide_eq_false (by intro z; cases z)
      refine ⟨_, rfl, _, rfl, .ref l2, .ref l, rfl, samePs hpC (sC _ _ (sB _ _ hl2')) (sC _ _ hlB), fun HD sD => ⟨true, rfl, iteF ⟨_, rfl, false, congrArg V.bl (nf _), iteF ⟨_, rfl, false, congrArg V.bl (nf _), iteF ?_⟩⟩⟩⟩
      have hpD := hpC.mono sD.tups
      have hlD := sD _ _ (sC _ _ hlB)
      obtain ⟨kvs, hf, hfl⟩ := (hfd.same sC).same sD
      have hfdx := hfdx.same sD
      clear hpC hpB hpA hp hlB hlA hl sC sB sD samePs hfd hl2' hlf hFn hFxn
      refine ⟨_, rfl, _, "dict", "dict", true, rfl, .base (.dK hf), by decide +kernel, true, rfl, iteF ?_⟩
      refine ⟨F, _, hf, True.intro, fun od => ⟨_, rfl, F, od, rfl, .inl ⟨kvs, upd_same, ?_⟩⟩⟩
      have tF : Tups HD (upd HD F (.frz od (.dK kvs))) := kept_tups but_upd.kept fun zs z => by rw [hf] at z; cases z
      have nlF : l ≠ F := fun z => by rw [z, hf] at hlD; cases hlD
      have hlF : upd HD F (.frz od (.dK kvs)) l = some (.lst us) := by rw [upd_ne nlF]; exact hlD
      have hFF : upd HD F (.frz od (.dK kvs)) F = some (.frz od (.dK kvs)) := upd_same
      refine for_it walk_keys (fun i σ H' => Same (upd HD F (.frz od (.dK kvs))) H' ∧ ∃ y6, σ = [some (.ref a), some (.ref d), some (.ref l), some (.ref l2), some (.ref F), some (.ref Fx), y6, none, none, none, none, none, none, none, none, none, none]) ⟨fun _ _ z => z, none, rfl⟩ (fun i σ H' _ p => p.1 _ _ upd_same) ?_ ?_
      · rintro i x σ H0 H' hi ⟨sm, y6, rfl⟩ ⟨rfl, k, v, hk, rfl⟩
        obtain ⟨u, rfl, hlu⟩ := hfl.at hk
        have hf' := sm _ _ hFF
        rcases (hfl.mono (tF.trans sm.tups)).val u with ⟨h1, _⟩ | ⟨j, v', h1, h2, c, rfl, hc, okc⟩
        · exact absurd h1 hlu
        have dg : DGet H' F (.int u) (some (.ref c)) := by rw [← h2]; exact .inl ⟨kvs, .inl u, .inr ⟨od, hf'⟩, rfl, rfl⟩
        have n2 : (!decide (V.int (([V.int j.1, kV j.2] : List V).length : Nat) = V.int 2)) = false := by simp
        refine ⟨_, rfl, u, rfl, true, rfl, iteF ⟨_, rfl, _, rfl, F, .ref c, rfl, dg, _, "tuple", "tuple", true, rfl, .base (.tup hc), by decide +kernel, true, rfl, iteF ⟨_, rfl, _, rfl, F, .ref c, rfl, dg, c, _, rfl, .inr (SqT.of hc), rfl, false, congrArg V.bl n2, iteF ?_⟩⟩⟩
        have hpF := hpD.mono (tF.trans sm.tups)
        have hl' := sm _ _ hlF
        refine ⟨_, rfl, _, rfl, l, rfl, ⟨us, SqL.of hl'⟩, fun D1 hD1 => ?_⟩
        refine lc_list (K := K) (xs := us) (fun i H2 => Same H' H2 ∧ ∃ vs1, H2 D1 = some (.lst vs1) ∧ vs1.length = i ∧ KL H2 vs1 ((ps.map (·.1)).take i)) ⟨same_upd hD1, [], upd_same, rfl, .nil⟩ (fun i H2 _ q => SqL.of (q.1 _ _ hl')) ?_ ?_
        · rintro m x H2 hx ⟨sm2, vs1, hv1, hvl, hkl⟩
          obtain ⟨p, hpm, b, y, z, rfl, hb', hy, hz⟩ := (hpF.mono sm2.tups).at hx
          have mp : m < ps.length := (List.getElem?_eq_some_iff.mp hpm).1
          refine ⟨rfl, lc_yes ⟨_, rfl, b, _, _, _, rfl, rfl, SqT.of hb', rfl, vs1, hv1, small' vs1 hvl (by omega), fun b o hb => ?_, vs1 ++ [y], upd_same, by simp [hvl], ?_⟩⟩
          · rw [upd_ne (ne_of_none hb hD1)]
            exact sm2 _ _ hb
          · have tt := kept_tups (but_upd (H := H2) (p := D1) (o := .lst (vs1 ++ [y]))).kept fun zs z => by rw [hv1] at z; cases z
            rw [List.take_add_one, List.getElem?_map, hpm]
            exact (hkl.mono tt).snoc (hy.mono tt)
        rintro H2 ⟨sm2, vs1, hv1, hvl, hkl⟩
        rw [List.take_of_length_le (by rw [List.length_map, hpF.len]; exact Nat.le_refl _)] at hkl
        have hl2 := sm2 _ _ hl'
        have hp2 := hpF.mono sm2.tups
        refine ⟨_, rfl, l, rfl, ⟨us, SqL.of hl2⟩, fun D2 hD2 => ?_⟩
        refine lc_list (K := K) (xs := us) (fun i H3 => Same H2 H3 ∧ ∃ vs2, H3 D2 = some (.lst vs2) ∧ vs2.length = i ∧ KL H3 vs2 ((ps.map (·.2)).take i)) ⟨same_upd hD2, [], upd_same, rfl, .nil⟩ (fun i H3 _ q => SqL.of (q.1 _ _ hl2)) ?_ ?_
        · rintro m x H3 hx ⟨sm3, vs2, hv2, hvl2, hkl2⟩
          obtain ⟨p, hpm, b, y, z, rfl, hb', hy, hz⟩ := (hp2.mono sm3.tups).at hx
          have mp : m < ps.length := (List.getElem?_eq_some_iff.mp hpm).1
          refine ⟨rfl, lc_yes ⟨_, rfl, b, _, _, _, rfl, rfl, SqT.of hb', rfl, vs2, hv2, small' vs2 hvl2 (by omega), fun b o hb => ?_, vs2 ++ [z], upd_same, by simp [hvl2], ?_⟩⟩
          · rw [upd_ne (ne_of_none hb hD2)]
            exact sm3 _ _ hb
          · have tt := kept_tups (but_upd (H := H3) (p := D2) (o := .lst (vs2 ++ [z]))).kept fun zs z => by rw [hv2] at z; cases z
            rw [List.take_add_one, List.getElem?_map, hpm]
            exact (hkl2.mono tt).snoc (hz.mono tt)
        rintro H3 ⟨sm3, vs2, hv2, hvl2, hkl2⟩
        rw [List.take_of_length_le (by rw [List.length_map, hpF.len]; exact Nat.le_refl _)] at hkl2
        have hv1' := sm3 _ _ hv1
        have ulen : us.length = ps.length := hpF.len
        refine ⟨D1, D2, _, _, rfl, rfl, hv1', hv2, small _ (by omega), fun D3 hD3 => ⟨D3, rfl, ⟨_, SqL.of upd_same⟩, fun D4 hD4 => ?_⟩⟩
        have s4 := same_upd (o := .lst (vs1 ++ vs2)) hD3
        have hv3 : upd H3 D3 (.lst (vs1 ++ vs2)) D3 = some (.lst (vs1 ++ vs2)) := upd_same
        have hkl3 := ((hkl.mono sm3.tups).app hkl2).mono s4.tups
        have s34 := (sm2.trans sm3).trans s4
        generalize upd H3 D3 (.lst (vs1 ++ vs2)) = H4 at *
        refine lc_list (K := K) (xs := vs1 ++ vs2) (fun i H5 => Same H4 H5 ∧ H5 D4 = some (.lst ((Bs.take i).map kV))) ⟨same_upd hD4, upd_same⟩ (fun i H5 _ q => SqL.of (q.1 _ _ hv3)) ?_ ?_
        · rintro m x H5 hx ⟨sm5, hv5⟩
          obtain ⟨c', hcm, b, rfl, hb', okb⟩ := (hkl3.mono sm5.tups).at hx
          have hBm : Bs[m]? = some c'.2 := by
            have e : Bs = (ps.map (·.1) ++ ps.map (·.2)).map (·.2) := by rw [eBs, List.map_append, List.map_map, List.map_map]; rfl
            rw [e, List.getElem?_map, hcm]
            rfl
          have mB : m < Bs.length := (List.getElem?_eq_some_iff.mp hBm).1
          have Bl : Bs.length ≤ 20 := by rw [eBs]; simp; omega
          refine ⟨rfl, lc_yes ⟨_, rfl, b, _, _, _, rfl, rfl, SqT.of hb', rfl, _, hv5, ?_, fun b o hb => ?_, ?_⟩⟩
          · rw [List.length_map, List.length_take]
            exact Nat.lt_of_le_of_lt (show min m Bs.length ≤ 20 by omega) (by decide)
          · rw [upd_ne (ne_of_none hb hD4)]
            exact sm5 _ _ hb
          · rw [upd_same, List.take_add_one, hBm]
            simp
        · rintro H5 ⟨sm5, hv5⟩
          have Bl : (vs1 ++ vs2).length = Bs.length := by
            rw [eBs]
            simp only [List.length_append, List.length_map]
            omega
          rw [List.take_of_length_le (by rw [Bl]; exact Nat.le_refl _)] at hv5
          have mem := (hbin u j h1).1
          have e0 : (if (true : Bool) = true then !inV (V.int u) (Bs.map kV) else inV (V.int u) (Bs.map kV)) = false := by
            rw [if_pos rfl]
            have := inVK mem
            have e : inV (V.int u) (Bs.map kV) = true := this
            rw [e]
            rfl
          refine ⟨D4, _, rfl, .inl (SqL.of hv5), rfl, flatK _, false, congrArg V.bl e0, iteF ⟨(sm.trans s34).trans sm5, _, rfl⟩⟩
      · rintro σ H' ⟨sm, y6, rfl⟩
        refine ⟨sm _ _ upd_same, ?_⟩
        have sU := unlock hf sm
        generalize upd H' F (.dK kvs) = HE at sU
        have hfd := FD.same ⟨kvs, hf, hfl⟩ sU
        have hfdx := hfdx.same sU
        have hpE := hpD.mono sU.tups
        have hlE := sU _ _ hlD
        clear sm tF nlF hlF hFF hlD hpD hf hfl
        refine ⟨_, rfl, l, rfl, ⟨us, SqL.of hlE⟩, ?_⟩
        refine for_list (xs := us) (fun i σ H' => ∃ y7 y8, σ = [some (.ref a), some (.ref d), some (.ref l), some (.ref l2), some (.ref F), some (.ref Fx), y6, y7, y8, none, none, none, none, none, none, none, none] ∧ Same HE H') ⟨none, none, rfl, fun _ _ z => z⟩ (fun i σ H' _ q => ?_) ?_ ?_
        · obtain ⟨_, _, _, sm⟩ := q
          exact SqL.of (sm _ _ hlE)
        · rintro i x σ H' hx ⟨y7, y8, rfl, sm⟩
          obtain ⟨p, hpi, c, y, z, rfl, hc, hy, hz⟩ := (hpE.mono sm.tups).at hx
          have pm := List.mem_of_getElem? hpi
          obtain ⟨b1, b2⟩ := hbs p pm
          have ep := allE p pm
          refine ⟨c, _, rfl, SqT.of hc, rfl, _, _, rfl, _, _, rfl, rfl, ?_⟩
          refine ⟨_, rfl, _, rfl, y, F, p.1, fs, E, dE, rfl, hy, hfd.same sm, g, fun s e => okBs _ (by rw [← e]; exact hbin.ek g b1), fun H5 u1 s5 k1 => ?_⟩
          refine ⟨_, rfl, _, rfl, z, F, p.2, fs, E, dE, rfl, hz.mono s5.tups, hfd.same (sm.trans s5), g, fun s e => okBs _ (by rw [← e]; exact hbin.ek g b2), fun H6 u2 s6 k2 => ?_⟩
          rw [← ep] at k2
          exact ⟨u1, u2, rfl, (k1.mono s6.tups).same k2, fun H7 s7 => ⟨true, rfl, iteF ⟨_, _, rfl, ((sm.trans s5).trans s6).trans s7⟩⟩⟩
        rintro σ H6 ⟨y7, y8, rfl, sm6⟩
        refine ⟨6, rfl, by decide, by decide, fun D1 hD1 => ?_⟩
        refine lc_range (lo := 0) (n := 6) (fun j H' => Same H6 H' ∧ H' D1 = some (.lst ((List.range j).map fun n => V.int (n : Nat)))) ⟨same_upd hD1, upd_same⟩ ?_ ?_
        · rintro j H' hj ⟨sm, h1⟩
          refine ⟨rfl, lc_yes ⟨_, rfl, _, h1, ?_, fun b o hb => ?_, ?_⟩⟩
          · rw [List.length_map, List.length_range]
            exact Nat.lt_of_le_of_lt (show j ≤ 20 by omega) (by decide)
          · rw [upd_ne (ne_of_none hb hD1)]
            exact sm _ _ hb
          · rw [upd_same, List.range_succ]
            simp
        rintro H7 ⟨sm7, h1⟩
        have s67 := sm6.trans sm7
        have hfd7 := hfd.same s67
        have hfdx7 := hfdx.same s67
        have nlen : ((List.range 6).map fun n => V.int ((n : Nat) : Int)).length = 6 := by simp
        have nat : ∀ {m : Nat} {x : V}, ((List.range 6).map fun n => V.int ((n : Nat) : Int))[m]? = some x → m < 6 ∧ x = .int ((m : Nat) : Int) := fun {m x} h => by
          rw [List.getElem?_map] at h
          by_cases q : m < 6
          · rw [List.getElem?_range q] at h
            cases h
            exact ⟨q, rfl⟩
          · rw [List.getElem?_eq_none (by simpa using q)] at h
            cases h
        refine ⟨_, rfl, D1, rfl, ⟨_, SqL.of h1⟩, fun D2 hD2 => ?_⟩
        refine lc_list (K := K) (xs := (List.range 6).map fun n => V.int ((n : Nat) : Int)) (fun i H' => Same H7 H' ∧ ∃ ts, H' D2 = some (.lst ts) ∧ ts.length = i ∧ KL H' ts ((List.range i).map fun n => E ((n : Nat) : Int))) ⟨same_upd hD2, [], upd_same, rfl, .nil⟩ (fun i H' _ q => SqL.of (q.1 _ _ h1)) ?_ ?_
        · rintro m x H' hx ⟨sm, ts, ht, htl, hkl⟩
          obtain ⟨m6, rfl⟩ := nat hx
          refine ⟨rfl, lc_yes ⟨_, rfl, t2, fun q hq => ⟨_, rfl, ?_⟩⟩⟩
          have sq := same_upd (o := .tup [.int 0, .int ((m : Nat) : Int)]) hq
          refine ⟨.ref q, F, (0, .inl ((m : Nat) : Int)), fs, E, dE, rfl, ⟨q, rfl, upd_same, okB_iff rfl⟩, hfd7.same (sm.trans sq), g, fun s e => okE ((m : Nat) : Int) s (by rw [en_var] at e; exact e), fun H8 u s8 ku => ?_⟩
          rw [en_var] at ku
          have ht8 := s8 _ _ (sq _ _ ht)
          have tt := kept_tups (but_upd (H := H8) (p := D2) (o := .lst (ts ++ [u]))).kept fun zs z => by rw [ht8] at z; cases z
          refine ⟨ts, ht8, small' ts htl (by omega), fun b o hb => ?_, ts ++ [u], upd_same, by simp [htl], ?_⟩
          · rw [upd_ne (ne_of_none hb hD2)]
            exact s8 _ _ (sq _ _ (sm _ _ hb))
          · rw [List.range_succ, List.map_append]
            exact ((hkl.mono (sq.trans s8).tups).mono tt).snoc (ku.mono tt)
        rintro H8 ⟨sm8, ts, ht, htl, hkl⟩
        rw [nlen] at htl hkl
        have h18 := sm8 _ _ h1
        refine ⟨_, rfl, D1, rfl, ⟨_, SqL.of h18⟩, fun D3 hD3 => ?_⟩
        refine lc_list (K := K) (xs := (List.range 6).map fun n => V.int ((n : Nat) : Int)) (fun i H' => Same H8 H' ∧ ∃ ss, H' D3 = some (.lst ss) ∧ ss.length = i ∧ KL H' ss ((List.range i).map fun n => Ex ((n : Nat) : Int))) ⟨same_upd hD3, [], upd_same, rfl, .nil⟩ (fun i H' _ q => SqL.of (q.1 _ _ h18)) ?_ ?_
        · rintro m x H' hx ⟨sm, ss, hs, hsl, hkl2⟩
          obtain ⟨m6, rfl⟩ := nat hx
          refine ⟨rfl, lc_yes ⟨_, rfl, t2, fun q hq => ⟨_, rfl, ?_⟩⟩⟩
          have sq := same_upd (o := .tup [.int 0, .int ((m : Nat) : Int)]) hq
          refine ⟨.ref q, Fx, (0, .inl ((m : Nat) : Int)), fsx, Ex, dx, rfl, ⟨q, rfl, upd_same, okB_iff rfl⟩, hfdx7.same (sm8.trans (sm.trans sq)), gx, fun s e => okX ((m : Nat) : Int) s (by rw [en_var] at e; exact e), hdx20, fun H9 u s9 ku => ?_⟩
          rw [en_var] at ku
          have hs9 := s9 _ _ (sq _ _ hs)
          have tt := kept_tups (but_upd (H := H9) (p := D3) (o := .lst (ss ++ [u]))).kept fun zs z => by rw [hs9] at z; cases z
          refine ⟨ss, hs9, small' ss hsl (by omega), fun b o hb => ?_, ss ++ [u], upd_same, by simp [hsl], ?_⟩
          · rw [upd_ne (ne_of_none hb hD3)]
            exact s9 _ _ (sq _ _ (sm _ _ hb))
          · rw [List.range_succ, List.map_append]
            exact ((hkl2.mono (sq.trans s9).tups).mono tt).snoc (ku.mono tt)
        rintro H9 ⟨sm9, ss, hs, hsl, hkl2⟩
        rw [nlen] at hsl hkl2
        intro B hB
        have sB := same_upd (o := .dK []) hB
        refine ⟨6, rfl, by decide, by decide, ?_⟩
        have ht9 := sm9 _ _ ht
        have hkl9 := hkl.mono sm9.tups
        have hfd9 := hfd7.same (sm8.trans sm9)
        refine for_range (lo := 0) (n := 6) (fun i σ H' => ∃ y13 y14 bs, σ = [some (.ref a), some (.ref d), some (.ref l), some (.ref l2), some (.ref F), some (.ref Fx), y6, y7, y8, some (.ref D1), some (.ref D2), some (.ref D3), some (.ref B), y13, y14, none, none] ∧ Same H9 H' ∧ FD H' B bs ∧ (∀ u c, look bs u = some c → c = Ex u) ∧ bs.length ≤ i)
          ⟨none, none, [], rfl, sB, ⟨[], upd_same, .nil⟩, fun _ _ h => (by cases h), Nat.le_refl _⟩ ?_ ?_
        · rintro i σ H' hi ⟨y13, y14, bs, rfl, sm, ⟨kvb, hb2, hbl⟩, hbs', hblen⟩
          have e0 : (0 : Int) + (i : Int) = ((i : Nat) : Int) := by omega
          obtain ⟨tv, tk, htv, htk, ta, rfl, hta, okt⟩ := (hkl9.mono sm.tups).get (i := i) (by simp; omega)
          obtain ⟨sv, sk, hsv, hsk, sa, rfl, hsa, oks⟩ := (hkl2.mono sm.tups).get (i := i) (by simp; omega)
          rw [List.getElem?_map, List.getElem?_range hi] at htk hsk
          have etk : E ((i : Nat) : Int) = tk := Option.some.inj htk
          have esk : Ex ((i : Nat) : Int) = sk := Option.some.inj hsk
          have aT : atI ts (0 + (i : Int)) = some (.ref ta) := by rw [e0]; exact atI_nat htv
          have aS : atI ss (0 + (i : Int)) = some (.ref sa) := by rw [e0]; exact atI_nat hsv
          have sol : sk = en Ex tk := by rw [← esk, ← etk]; exact solX _
          have ht' := sm _ _ ht9
          have hs' := sm _ _ hs
          have kT : KAt H' (.ref ta) tk := ⟨ta, rfl, hta, okt⟩
          have kS : KAt H' (.ref sa) sk := ⟨sa, rfl, hsa, oks⟩
          obtain ⟨kvf, hff, hflf⟩ := hfd9.same sm
          cases eb : tk.2 with
          | inr s =>
            have est : sk = tk := by
              rw [sol]
              unfold en
              rw [eb]
              exact Prod.ext (by show tk.1 + 0 = tk.1; omega) eb.symm
            rw [eb] at hta
            refine ⟨_, rfl, _, rfl, D2, _, _, _, rfl, rfl, SqL.of ht', aT, ta, _, _, _, rfl, rfl, SqT.of hta, rfl, _, "str", "int", false, rfl, .base (.str s), by decide +kernel, false, rfl, iteF ?_⟩
            refine ⟨_, rfl, _, rfl, D2, _, _, _, rfl, rfl, SqL.of ht', aT, _, rfl, _, rfl, D3, _, _, _, rfl, rfl, SqL.of hs', aS, .ref ta, .ref sa, rfl, kT.same (by rw [← est]; exact kS), fun H10 s10 => ⟨true, rfl, iteF ⟨_, _, bs, rfl, sm.trans s10, FD.same ⟨kvb, hb2, hbl⟩ s10, hbs', by omega⟩⟩⟩
          | inl u =>
            have hlu : look fs u = none := by
              rw [← etk] at eb
              exact g.fin eb
            have vfu : valV kvf (.inl u) = none := by
              rcases hflf.val u with ⟨_, h2⟩ | ⟨_, _, h1, _, _⟩
              · exact h2
              · rw [hlu] at h1; cases h1
            have es : sk = (tk.1 + (Ex u).1, (Ex u).2) := by
              rw [sol]
              unfold en
              rw [eb]
              rfl
            have nnu := gx.nn u
            rw [eb] at hta
            refine ⟨_, rfl, _, rfl, D2, _, _, _, rfl, rfl, SqL.of ht', aT, ta, _, _, _, rfl, rfl, SqT.of hta, rfl, _, "int", "int", true, rfl, .base (.int u), by decide +kernel, true, rfl, iteT ?_⟩
            refine ⟨_, rfl, _, rfl, D2, _, _, _, rfl, rfl, SqL.of ht', aT, ta, _, _, _, rfl, rfl, SqT.of hta, rfl, _, rfl, F, _, rfl, DGet.k (k := .inl u) hff, _, rfl, ?_⟩
            rw [vfu]
            have nlt : decide (sk.1 < tk.1) = false := decide_eq_false (by rw [es]; show ¬ tk.1 + (Ex u).1 < tk.1; omega)
            refine iteF ⟨_, rfl, _, rfl, D3, _, _, _, rfl, rfl, SqL.of hs', aS, sa, _, _, _, rfl, rfl, SqT.of hsa, rfl, _, rfl, _, rfl, D2, _, _, _, rfl, rfl, SqL.of ht', aT, ta, _, _, _, rfl, rfl, SqT.of hta, rfl, _, _, rfl, rfl, false, congrArg V.bl nlt, iteF ?_⟩
            refine ⟨_, rfl, _, rfl, D3, _, _, _, rfl, rfl, SqL.of hs', aS, sa, _, _, _, rfl, rfl, SqT.of hsa, rfl, _, rfl, _, rfl, D2, _, _, _, rfl, rfl, SqL.of ht', aT, ta, _, _, _, rfl, rfl, SqT.of hta, rfl, _, _, rfl, rfl, _, rfl, _, rfl, D3, _, _, _, rfl, rfl, SqL.of hs', aS, sa, _, _, _, rfl, rfl, SqT.of hsa, rfl, t2, fun wa hwa => ?_⟩
            have sw := same_upd (o := .tup [.int (sk.1 - tk.1), kV sk.2]) hwa
            have ewk : ((sk.1 - tk.1, sk.2) : Kd) = Ex u := by
              rw [es]
              exact Prod.ext (by show tk.1 + (Ex u).1 - tk.1 = (Ex u).1; omega) rfl
            have kW : KAt (upd H' wa (.tup [.int (sk.1 - tk.1), kV sk.2])) (.ref wa) (Ex u) := by
              rw [← ewk]
              exact ⟨wa, rfl, upd_same, oks⟩
            have ht2 := sw _ _ ht'
            have hta2 := sw _ _ hta
            have hb3 := sw _ _ hb2
            have hbl3 := hbl.mono sw.tups
            have sm2 := sm.trans sw
            generalize upd H' wa (.tup [.int (sk.1 - tk.1), kV sk.2]) = H11 at *
            refine ⟨_, rfl, _, rfl, D2, _, _, _, rfl, rfl, SqL.of ht2, aT, ta, _, _, _, rfl, rfl, SqT.of hta2, rfl, _, rfl, B, _, rfl, DGet.k (k := .inl u) hb3, _, rfl, ?_⟩
            rcases hbl3.val u with ⟨h1, h2⟩ | ⟨c, v, h1, h2, hc⟩
            case' inl =>
              rw [h2]
              refine iteF (iteF ?_)
            case' inr =>
              rw [h2]
              have ec := hbs' u c h1
              subst ec
              have dg : DGet H11 B (.int u) (some v) := by rw [← h2]; exact DGet.k (k := .inl u) hb3
              have ne : (!PyData.eqv (.tuple [.int (Ex u).1, kD (Ex u).2]) (.tuple [.int (Ex u).1, kD (Ex u).2])) = false := by
                have := kD_eqv (Ex u) (Ex u)
                rw [this, decide_eq_true rfl]
                rfl
              refine iteT ⟨_, rfl, _, rfl, _, rfl, D2, _, _, _, rfl, rfl, SqL.of ht2, aT, ta, _, _, _, rfl, rfl, SqT.of hta2, rfl, B, v, rfl, dg, _, rfl, _, _, hc.dp, kW.dp, kD_shaped _ hc.okB, kD_shaped _ kW.okB, false, congrArg V.bl ne, iteF ?_⟩
            all_goals
              refine ⟨_, rfl, _, rfl, _, rfl, _, rfl, D2, _, _, _, rfl, rfl, SqL.of ht2, aT, ta, _, _, _, rfl, rfl, SqT.of hta2, rfl, B, _, rfl, DPut.k (k := .inl u) hb3 (Nat.lt_of_le_of_lt (show kvb.length ≤ 100 by rw [hbl3.len]; omega) (by decide)), ?_⟩
              refine ⟨_, _, setF bs u (Ex u), rfl, fun b o hb => ?_, FD.put hb3 hbl3 kW, fun v c hc => ?_, by have := (setF_len bs u (Ex u)).1; omega⟩
              · rw [upd_ne (ne_of_none hb hB)]
                exact sm2 _ _ hb
              · rw [look_set] at hc
                by_cases q : v = u
                · rw [if_pos q] at hc
                  cases hc
                  rw [q]
                · rw [if_neg q] at hc
                  exact hbs' v c hc
        · rintro σ H10 ⟨y13, y14, bs, rfl, sm, _, _, _⟩
          refine ⟨t2, fun q hq => ?_⟩
          have sq := same_upd (o := .tup [.int 3, .int 2]) hq
          intro D4 hD4
          refine ⟨t2, fun q1 hq1 => ⟨t2, fun q2 hq2 => ?_⟩⟩
          have s4 := same_upd (o := .dK []) hD4
          have s5 := same_upd (o := .tup [.int 1, .int 5]) hq1
          have s6 := same_upd (o := .tup [.int 4, .str "num"]) hq2
          have hD6 := s6 _ _ (s5 _ _ (upd_same (H := upd H10 q (.tup [.int 3, .int 2])) (a := D4) (o := .dK [])))
          refine ⟨hD6, [(.inl 2, .ref q1), (.inl 5, .ref q2)], rfl, (by show 2 ≤ 15; decide), ?_⟩
          have hmk : mergeK [] [((.inl 2 : Key), V.ref q1), (.inl 5, .ref q2)] = [(.inl 2, .ref q1), (.inl 5, .ref q2)] := by
            simp [mergeK, putK]
          rw [hmk]
          have kq : KAt (upd (upd (upd (upd H10 q (.tup [.int 3, .int 2])) D4 (.dK [])) q1 (.tup [.int 1, .int 5])) q2 (.tup [.int 4, .str "num"])) (.ref q) (3, .inl 2) := ⟨q, rfl, s6 _ _ (s5 _ _ (s4 _ _ upd_same)), okB_iff rfl⟩
          have kq1 : KAt (upd (upd (upd (upd H10 q (.tup [.int 3, .int 2])) D4 (.dK [])) q1 (.tup [.int 1, .int 5])) q2 (.tup [.int 4, .str "num"])) (.ref q1) (1, .inl 5) := ⟨q1, rfl, s6 _ _ upd_same, okB_iff rfl⟩
          have okn : OkB (.inr "num") := okB_iff (by simp only [okB]; decide +kernel)
          have kq2 : KAt (upd (upd (upd (upd H10 q (.tup [.int 3, .int 2])) D4 (.dK [])) q1 (.tup [.int 1, .int 5])) q2 (.tup [.int 4, .str "num"])) (.ref q2) (4, .inr "num") := ⟨q2, rfl, upd_same, okn⟩
          generalize upd (upd (upd (upd H10 q (.tup [.int 3, .int 2])) D4 (.dK [])) q1 (.tup [.int 1, .int 5])) q2 (.tup [.int 4, .str "num"]) = H12 at *
          have tt := kept_tups (but_upd (H := H12) (p := D4) (o := .dK [(.inl 2, .ref q1), (.inl 5, .ref q2)])).kept fun zs z => by rw [hD6] at z; cases z
          have hfdn : FD (upd H12 D4 (.dK [(.inl 2, .ref q1), (.inl 5, .ref q2)])) D4 [(2, (1, .inl 5)), (5, (4, .inr "num"))] := ⟨_, upd_same, .cons (kq1.mono tt) (.cons (kq2.mono tt) .nil)⟩
          have gn : Good (look [(2, (1, .inl 5)), (5, (4, .inr "num"))]) (fun v => if v = 2 then (5, .inr "num") else if v = 5 then (4, .inr "num") else (0, .inl v)) (fun v => if v = 2 then 2 else if v = 5 then 1 else 0) := by
            refine ⟨fun v hv => ?_, fun v k hv => ?_⟩
            · by_cases a2 : v = 2
              · subst a2; simp [look] at hv
              · by_cases a5 : v = 5
                · subst a5; simp [look] at hv
                · simp [a2, a5]
            · by_cases a2 : v = 2
              · subst a2
                simp [look] at hv
                subst hv
                refine ⟨by decide, by simp [en, EK], by decide, fun u hu => by cases hu; decide⟩
              · by_cases a5 : v = 5
                · subst a5
                  simp [look] at hv
                  subst hv
                  refine ⟨by decide, by simp [en, EK], by decide, fun u hu => by cases hu⟩
                · have b2 : ¬ 2 = v := fun z => a2 z.symm
                  have b5 : ¬ 5 = v := fun z => a5 z.symm
                  simp [look, b2, b5] at hv
          refine ⟨.ref q, D4, (3, .inl 2), _, _, _, rfl, kq.mono tt, hfdn, gn, fun s e => ?_, fun H13 u s13 ku => ?_⟩
          · have e : (Sum.inr (Str.ofString "num") : Key) = Sum.inr s := e
            cases e
            exact okn
          refine ⟨t2, fun q8 hq8 => ?_⟩
          have s8 := same_upd (o := .tup [.int 8, .str "num"]) hq8
          have k8 : KAt (upd H13 q8 (.tup [.int 8, .str "num"])) (.ref q8) (8, .inr "num") := ⟨q8, rfl, upd_same, okn⟩
          refine ⟨u, .ref q8, rfl, (ku.mono s8.tups).same k8, fun H14 s14 => ⟨true, rfl, iteT ?_⟩⟩
          have okd : OkB (.inr "d") := okB_iff (by simp only [okB]; decide +kernel)
          refine ⟨t2, fun r1 hr1 => ?_⟩
          intro r2 hr2
          have sr1 := same_upd (o := .dK []) hr2
          refine ⟨.ref r1, r2, (3, .inr "d"), [], _, _, rfl, ⟨r1, rfl, sr1 _ _ upd_same, okd⟩, ⟨[], upd_same, .nil⟩, Good.nil, fun s e => ?_, fun H15 u2 s15 ku2 => ?_⟩
          · have e : (Sum.inr (Str.ofString "d") : Key) = Sum.inr s := e
            cases e
            exact okd
          refine ⟨t2, fun q9 hq9 => ?_⟩
          have s9 := same_upd (o := .tup [.int 3, .str "d"]) hq9
          have k9 : KAt (upd H15 q9 (.tup [.int 3, .str "d"])) (.ref q9) (3, .inr "d") := ⟨q9, rfl, upd_same, okd⟩
          exact ⟨u2, .ref q9, rfl, (ku2.mono s9.tups).same k9, fun H16 _ => qq H16⟩
end
end Q09
namespace Q09
open PySem PySem.Spec PyProof.Rows L2 SX HL
theorem all_mk {l : PySem.W.OpenLaw} {w : World} {K : PySem.W.Frag} {h : Heap} {mg : Str → Option Value} {fa f1 f2 f3 f4 f5 f6 f7 f8 f9 f10 f11 f12 f13 f14 f15 : Addr} (X : K.In h) (G : h.Ns mainGlobals mg) (hfa : mg "law" = some (.ref fa))
    {od1 an1 od2 an2 od3 an3 od4 an4 od5 an5 od6 an6 od7 an7 od8 an8 od9 an9 od10 an10 od11 an11 od12 an12 od13 an13 od14 an14 od15 an15 : Option Addr} {sl1 sl2 sl3 sl4 sl5 sl6 sl7 sl8 sl9 sl10 sl11 sl12 sl13 sl14 sl15 : Array (Option Value)} {oc1 kV1 dc1 pm1 cd1 ct1 oc2 kV2 dc2 pm2 cd2 ct2 oc3 kV3 dc3 pm3 cd3 ct3 oc4 kV4 dc4 pm4 cd4 ct4 oc5 kV5 dc5 pm5 cd5 ct5 oc6 kV6 dc6 pm6 cd6 ct6 oc7 kV7 dc7 pm7 cd7 ct7 oc8 kV8 dc8 pm8 cd8 ct8 oc9 kV9 dc9 pm9 cd9 ct9 oc10 kV10 dc10 pm10 cd10 ct10 oc11 kV11 dc11 pm11 cd11 ct11 oc12 kV12 dc12 pm12 cd12 ct12 oc13 kV13 dc13 pm13 cd13 ct13 oc14 kV14 dc14 pm14 cd14 ct14 oc15 kV15 dc15 pm15 cd15 ct15 : Value} 
    (a1 : PySem.W.nsIn K mainGlobals "unify" = some (some (.ref f1)))
    (l1 : K.lookup f1 = some ⟨oc1, od1, .func (PySem.W.fnOf "unify" "unify" (defArgs sUnify) (defBody sUnify) (defScope sUnify) .none kV1 dc1 pm1 an1 cd1 ct1), sl1⟩)
    (c1 : PySem.W.codeIn K cd1 "unify" = true)
    (k1 : PySem.W.keepIn K (.ref f1) = true)
    (a2 : PySem.W.nsIn K mainGlobals "make_equal" = some (some (.ref f2)))
    (l2 : K.lookup f2 = some ⟨oc2, od2, .func (PySem.W.fnOf "make_equal" "make_equal" (defArgs sMakeEqual) (defBody sMakeEqual) (defScope sMakeEqual) .none kV2 dc2 pm2 an2 cd2 ct2), sl2⟩)
    (c2 : PySem.W.codeIn K cd2 "make_equal" = true)
    (k2 : PySem.W.keepIn K (.ref f2) = true)
    (a3 : PySem.W.nsIn K mainGlobals "ended" = some (some (.ref f3)))
    (l3 : K.lookup f3 = some ⟨oc3, od3, .func (PySem.W.fnOf "ended" "ended" (defArgs sEnded) (defBody sEnded) (defScope sEnded) .none kV3 dc3 pm3 an3 cd3 ct3), sl3⟩)
    (c3 : PySem.W.codeIn K cd3 "ended" = true)
    (k3 : PySem.W.keepIn K (.ref f3) = true)
    (a4 : PySem.W.nsIn K mainGlobals "replaced" = some (some (.ref f4)))
    (l4 : K.lookup f4 = some ⟨oc4, od4, .func (PySem.W.fnOf "replaced" "replaced" (defArgs sReplaced) (defBody sReplaced) (defScope sReplaced) .none kV4 dc4 pm4 an4 cd4 ct4), sl4⟩)
    (c4 : PySem.W.codeIn K cd4 "replaced" = true)
    (k4 : PySem.W.keepIn K (.ref f4) = true)
    (a5 : PySem.W.nsIn K mainGlobals "_law_mix" = some (some (.ref f5)))
    (l5 : K.lookup f5 = some ⟨oc5, od5, .func (PySem.W.fnOf "_law_mix" "_law_mix" (defArgs sLawMix) (defBody sLawMix) (defScope sLawMix) .none kV5 dc5 pm5 an5 cd5 ct5), sl5⟩)
    (c5 : PySem.W.codeIn K cd5 "_law_mix" = true)
    (k5 : PySem.W.keepIn K (.ref f5) = true)
    (a6 : PySem.W.nsIn K mainGlobals "_law_draws" = some (some (.ref f6)))
    (l6 : K.lookup f6 = some ⟨oc6, od6, .func (PySem.W.fnOf "_law_draws" "_law_draws" (defArgs sLawDraws) (defBody sLawDraws) (defScope sLawDraws) .none kV6 dc6 pm6 an6 cd6 ct6), sl6⟩)
    (c6 : PySem.W.codeIn K cd6 "_law_draws" = true)
    (k6 : PySem.W.keepIn K (.ref f6) = true)
    (a7 : PySem.W.nsIn K mainGlobals "_law_at" = some (some (.ref f7)))
    (l7 : K.lookup f7 = some ⟨oc7, od7, .func (PySem.W.fnOf "_law_at" "_law_at" (defArgs sLawAt) (defBody sLawAt) (defScope sLawAt) .none kV7 dc7 pm7 an7 cd7 ct7), sl7⟩)
    (c7 : PySem.W.codeIn K cd7 "_law_at" = true)
    (k7 : PySem.W.keepIn K (.ref f7) = true)
    (a8 : PySem.W.nsIn K mainGlobals "_law_is_integer" = some (some (.ref f8)))
    (l8 : K.lookup f8 = some ⟨oc8, od8, .func (PySem.W.fnOf "_law_is_integer" "_law_is_integer" (defArgs sLawIsInteger) (defBody sLawIsInteger) (defScope sLawIsInteger) .none kV8 dc8 pm8 an8 cd8 ct8), sl8⟩)
    (c8 : PySem.W.codeIn K cd8 "_law_is_integer" = true)
    (k8 : PySem.W.keepIn K (.ref f8) = true)
    (a9 : PySem.W.nsIn K mainGlobals "_law_same" = some (some (.ref f9)))
    (l9 : K.lookup f9 = some ⟨oc9, od9, .func (PySem.W.fnOf "_law_same" "_law_same" (defArgs sLawSame) (defBody sLawSame) (defScope sLawSame) .none kV9 dc9 pm9 an9 cd9 ct9), sl9⟩)
    (c9 : PySem.W.codeIn K cd9 "_law_same" = true)
    (k9 : PySem.W.keepIn K (.ref f9) = true)
    (a10 : PySem.W.nsIn K mainGlobals "_law_base" = some (some (.ref f10)))
    (l10 : K.lookup f10 = some ⟨oc10, od10, .func (PySem.W.fnOf "_law_base" "_law_base" (defArgs sLawBase) (defBody sLawBase) (defScope sLawBase) .none kV10 dc10 pm10 an10 cd10 ct10), sl10⟩)
    (c10 : PySem.W.codeIn K cd10 "_law_base" = true)
    (k10 : PySem.W.keepIn K (.ref f10) = true)
    (a11 : PySem.W.nsIn K mainGlobals "_law_kind" = some (some (.ref f11)))
    (l11 : K.lookup f11 = some ⟨oc11, od11, .func (PySem.W.fnOf "_law_kind" "_law_kind" (defArgs sLawKind) (defBody sLawKind) (defScope sLawKind) .none kV11 dc11 pm11 an11 cd11 ct11), sl11⟩)
    (c11 : PySem.W.codeIn K cd11 "_law_kind" = true)
    (k11 : PySem.W.keepIn K (.ref f11) = true)
    (a12 : PySem.W.nsIn K mainGlobals "_law_solved" = some (some (.ref f12)))
    (l12 : K.lookup f12 = some ⟨oc12, od12, .func (PySem.W.fnOf "_law_solved" "_law_solved" (defArgs sLawSolved) (defBody sLawSolved) (defScope sLawSolved) .none kV12 dc12 pm12 an12 cd12 ct12), sl12⟩)
    (c12 : PySem.W.codeIn K cd12 "_law_solved" = true)
    (k12 : PySem.W.keepIn K (.ref f12) = true)
    (a13 : PySem.W.nsIn K mainGlobals "_law_put" = some (some (.ref f13)))
    (l13 : K.lookup f13 = some ⟨oc13, od13, .func (PySem.W.fnOf "_law_put" "_law_put" (defArgs sLawPut) (defBody sLawPut) (defScope sLawPut) .none kV13 dc13 pm13 an13 cd13 ct13), sl13⟩)
    (c13 : PySem.W.codeIn K cd13 "_law_put" = true)
    (k13 : PySem.W.keepIn K (.ref f13) = true)
    (a14 : PySem.W.nsIn K mainGlobals "_law_pairs" = some (some (.ref f14)))
    (l14 : K.lookup f14 = some ⟨oc14, od14, .func (PySem.W.fnOf "_law_pairs" "_law_pairs" (defArgs sLawPairs) (defBody sLawPairs) (defScope sLawPairs) .none kV14 dc14 pm14 an14 cd14 ct14), sl14⟩)
    (c14 : PySem.W.codeIn K cd14 "_law_pairs" = true)
    (k14 : PySem.W.keepIn K (.ref f14) = true)
    (a15 : PySem.W.nsIn K mainGlobals "law" = some (some (.ref f15)))
    (l15 : K.lookup f15 = some ⟨oc15, od15, .func (PySem.W.fnOf "law" "law" (defArgs sLaw) (defBody sLaw) (defScope sLaw) .none kV15 dc15 pm15 an15 cd15 ct15), sl15⟩)
    (c15 : PySem.W.codeIn K cd15 "law" = true)
    (k15 : PySem.W.keepIn K (.ref f15) = true)
    (z_len : PySem.W.nsIn K mainGlobals "len" = some none)
    (z_range : PySem.W.nsIn K mainGlobals "range" = some none)
    (z_min : PySem.W.nsIn K mainGlobals "min" = some none)
    (z_isinstance : PySem.W.nsIn K mainGlobals "isinstance" = some none)
    (z_bool : PySem.W.nsIn K mainGlobals "bool" = some none)
    (z_int : PySem.W.nsIn K mainGlobals "int" = some none)
    (z_str : PySem.W.nsIn K mainGlobals "str" = some none)
    (z_tuple : PySem.W.nsIn K mainGlobals "tuple" = some none)
    (z_list : PySem.W.nsIn K mainGlobals "list" = some none)
    (z_dict : PySem.W.nsIn K mainGlobals "dict" = some none)
    : ∃ fd : FuncData, (∀ (s : Shared) (v : Value), BindsTo s fd ⟨[v], []⟩ [("script", v)]) ∧ ∀ base : Heap, K.In base → base.Ns mainGlobals mg → FnOk l.prog w K mg base CX0 6 fa fd ["script"] (spLaw K) := by
  have e := hfa.symm.trans (PySem.W.mg_of X G a15)
  cases e
  have T : Txt mg := { len := PySem.W.mg_none_of X G z_len, range := PySem.W.mg_none_of X G z_range, min := PySem.W.mg_none_of X G z_min, isinstance := PySem.W.mg_none_of X G z_isinstance, bool := PySem.W.mg_none_of X G z_bool, int := PySem.W.mg_none_of X G z_int, str := PySem.W.mg_none_of X G z_str, tuple := PySem.W.mg_none_of X G z_tuple, list := PySem.W.mg_none_of X G z_list, dict := PySem.W.mg_none_of X G z_dict }
  have F1 := fun_mk (st := sUnify) l1 c1 k1
  have b1 := F1.binds (ps := ["equations"]) fun _ _ _ _ _ _ us hl => match us, hl with | [_], _ => rfl
  have DUnify : DefN K mg "unify" sUnify ["equations"] f1 _ := ⟨F1, b1, PySem.W.mg_of X G a1⟩
  have F2 := fun_mk (st := sMakeEqual) l2 c2 k2
  have b2 := F2.binds (ps := ["first", "second", "found"]) fun _ _ _ _ _ _ us hl => match us, hl with | [_, _, _], _ => rfl
  have DMakeEqual : DefN K mg "make_equal" sMakeEqual ["first", "second", "found"] f2 _ := ⟨F2, b2, PySem.W.mg_of X G a2⟩
  have F3 := fun_mk (st := sEnded) l3 c3 k3
  have b3 := F3.binds (ps := ["kind", "found"]) fun _ _ _ _ _ _ us hl => match us, hl with | [_, _], _ => rfl
  have DEnded : DefN K mg "ended" sEnded ["kind", "found"] f3 _ := ⟨F3, b3, PySem.W.mg_of X G a3⟩
  have F4 := fun_mk (st := sReplaced) l4 c4 k4
  have b4 := F4.binds (ps := ["kind", "found"]) fun _ _ _ _ _ _ us hl => match us, hl with | [_, _], _ => rfl
  have DReplaced : DefN K mg "replaced" sReplaced ["kind", "found"] f4 _ := ⟨F4, b4, PySem.W.mg_of X G a4⟩
  have F5 := fun_mk (st := sLawMix) l5 c5 k5
  have b5 := F5.binds (ps := ["cell", "k"]) fun _ _ _ _ _ _ us hl => match us, hl with | [_, _], _ => rfl
  have DLawMix : DefN K mg "_law_mix" sLawMix ["cell", "k"] f5 _ := ⟨F5, b5, PySem.W.mg_of X G a5⟩
  have F6 := fun_mk (st := sLawDraws) l6 c6 k6
  have b6 := F6.binds (ps := ["script"]) fun _ _ _ _ _ _ us hl => match us, hl with | [_], _ => rfl
  have DLawDraws : DefN K mg "_law_draws" sLawDraws ["script"] f6 _ := ⟨F6, b6, PySem.W.mg_of X G a6⟩
  have F7 := fun_mk (st := sLawAt) l7 c7 k7
  have b7 := F7.binds (ps := ["draws", "index"]) fun _ _ _ _ _ _ us hl => match us, hl with | [_, _], _ => rfl
  have DLawAt : DefN K mg "_law_at" sLawAt ["draws", "index"] f7 _ := ⟨F7, b7, PySem.W.mg_of X G a7⟩
  have F8 := fun_mk (st := sLawIsInteger) l8 c8 k8
  have b8 := F8.binds (ps := ["actual"]) fun _ _ _ _ _ _ us hl => match us, hl with | [_], _ => rfl
  have DLawIsInteger : DefN K mg "_law_is_integer" sLawIsInteger ["actual"] f8 _ := ⟨F8, b8, PySem.W.mg_of X G a8⟩
  have F9 := fun_mk (st := sLawSame) l9 c9 k9
  have b9 := F9.binds (ps := ["actual", "expected"]) fun _ _ _ _ _ _ us hl => match us, hl with | [_, _], _ => rfl
  have DLawSame : DefN K mg "_law_same" sLawSame ["actual", "expected"] f9 _ := ⟨F9, b9, PySem.W.mg_of X G a9⟩
  have F10 := fun_mk (st := sLawBase) l10 c10 k10
  have b10 := F10.binds (ps := ["number"]) fun _ _ _ _ _ _ us hl => match us, hl with | [_], _ => rfl
  have DLawBase : DefN K mg "_law_base" sLawBase ["number"] f10 _ := ⟨F10, b10, PySem.W.mg_of X G a10⟩
  have F11 := fun_mk (st := sLawKind) l11 c11 k11
  have b11 := F11.binds (ps := ["draws", "index"]) fun _ _ _ _ _ _ us hl => match us, hl with | [_, _], _ => rfl
  have DLawKind : DefN K mg "_law_kind" sLawKind ["draws", "index"] f11 _ := ⟨F11, b11, PySem.W.mg_of X G a11⟩
  have F12 := fun_mk (st := sLawSolved) l12 c12 k12
  have b12 := F12.binds (ps := ["pairs"]) fun _ _ _ _ _ _ us hl => match us, hl with | [_], _ => rfl
  have DLawSolved : DefN K mg "_law_solved" sLawSolved ["pairs"] f12 _ := ⟨F12, b12, PySem.W.mg_of X G a12⟩
  have F13 := fun_mk (st := sLawPut) l13 c13 k13
  have b13 := F13.binds (ps := ["kind", "found"]) fun _ _ _ _ _ _ us hl => match us, hl with | [_, _], _ => rfl
  have DLawPut : DefN K mg "_law_put" sLawPut ["kind", "found"] f13 _ := ⟨F13, b13, PySem.W.mg_of X G a13⟩
  have F14 := fun_mk (st := sLawPairs) l14 c14 k14
  have b14 := F14.binds (ps := ["draws"]) fun _ _ _ _ _ _ us hl => match us, hl with | [_], _ => rfl
  have DLawPairs : DefN K mg "_law_pairs" sLawPairs ["draws"] f14 _ := ⟨F14, b14, PySem.W.mg_of X G a14⟩
  have F15 := fun_mk (st := sLaw) l15 c15 k15
  have b15 := F15.binds (ps := ["script"]) fun _ _ _ _ _ _ us hl => match us, hl with | [_], _ => rfl
  have DLaw : DefN K mg "law" sLaw ["script"] fa _ := ⟨F15, b15, PySem.W.mg_of X G a15⟩
  exact ⟨PySem.W.fnOf "law" "law" (defArgs sLaw) (defBody sLaw) (defScope sLaw) .none kV15 dc15 pm15 an15 cd15 ct15, fun s v => .of_eq rfl, fun base _ _ => ok_law DLaw T DUnify DMakeEqual DEnded DReplaced DLawMix DLawDraws DLawAt DLawIsInteger DLawSame DLawBase DLawKind DLawSolved DLawPut DLawPairs⟩
end Q09
open PySem PySem.W PyProof.Rows
set_option maxHeartbeats 0 in
theorem PySem.Challenge.cw_quillrun_k09_equations_are_solved_holds : PySem.Challenge.rw_quillrun_k09_equations_are_solved.Holds := by
  w_on; o_law; k_head; (case hw => w_witness2)
  k_fill
  refine L2.walk_of (l := PySem.Challenge.rw_quillrun_k09_equations_are_solved) (n := 63) (k := 6) (x := "script") (CX := fun _ => L2.CX0) (sp := fun w => Q09.spLaw _) rfl (by decide) rfl ⟨rfl, by decide, by decide⟩ (fun w h Y => PySem.W.kIn_of Y) ?F (fun _ _ a ns hl _ hS => ⟨a, ns, rfl, hS, hl, fun _ => rfl⟩) (fun _ _ _ _ _ h => h)
  case F =>
    intro w mg fa h KX G hmg
    refine' Q09.all_mk KX G hmg ?a1 ?l1 ?c1 ?k1 ?a2 ?l2 ?c2 ?k2 ?a3 ?l3 ?c3 ?k3 ?a4 ?l4 ?c4 ?k4 ?a5 ?l5 ?c5 ?k5 ?a6 ?l6 ?c6 ?k6 ?a7 ?l7 ?c7 ?k7 ?a8 ?l8 ?c8 ?k8 ?a9 ?l9 ?c9 ?k9 ?a10 ?l10 ?c10 ?k10 ?a11 ?l11 ?c11 ?k11 ?a12 ?l12 ?c12 ?k12 ?a13 ?l13 ?c13 ?k13 ?a14 ?l14 ?c14 ?k14 ?a15 ?l15 ?c15 ?k15 ?z_len ?z_range ?z_min ?z_isinstance ?z_bool ?z_int ?z_str ?z_tuple ?z_list ?z_dict
    (case a1 => k_is)
    (case l1 => k_is)
    (case c1 => k_is)
    (case k1 => k_is)
    (case a2 => k_is)
    (case l2 => k_is)
    (case c2 => k_is)
    (case k2 => k_is)
    (case a3 => k_is)
    (case l3 => k_is)
    (case c3 => k_is)
    (case k3 => k_is)
    (case a4 => k_is)
    (case l4 => k_is)
    (case c4 => k_is)
    (case k4 => k_is)
    (case a5 => k_is)
    (case l5 => k_is)
    (case c5 => k_is)
    (case k5 => k_is)
    (case a6 => k_is)
    (case l6 => k_is)
    (case c6 => k_is)
    (case k6 => k_is)
    (case a7 => k_is)
    (case l7 => k_is)
    (case c7 => k_is)
    (case k7 => k_is)
    (case a8 => k_is)
    (case l8 => k_is)
    (case c8 => k_is)
    (case k8 => k_is)
    (case a9 => k_is)
    (case l9 => k_is)
    (case c9 => k_is)
    (case k9 => k_is)
    (case a10 => k_is)
    (case l10 => k_is)
    (case c10 => k_is)
    (case k10 => k_is)
    (case a11 => k_is)
    (case l11 => k_is)
    (case c11 => k_is)
    (case k11 => k_is)
    (case a12 => k_is)
    (case l12 => k_is)
    (case c12 => k_is)
    (case k12 => k_is)
    (case a13 => k_is)
    (case l13 => k_is)
    (case c13 => k_is)
    (case k13 => k_is)
    (case a14 => k_is)
    (case l14 => k_is)
    (case c14 => k_is)
    (case k14 => k_is)
    (case a15 => k_is)
    (case l15 => k_is)
    (case c15 => k_is)
    (case k15 => k_is)
    (case z_len => k_is)
    (case z_range => k_is)
    (case z_min => k_is)
    (case z_isinstance => k_is)
    (case z_bool => k_is)
    (case z_int => k_is)
    (case z_str => k_is)
    (case z_tuple => k_is)
    (case z_list => k_is)
    (case z_dict => k_is)
#print axioms PySem.Challenge.cw_quillrun_k09_equations_are_solved_holds
