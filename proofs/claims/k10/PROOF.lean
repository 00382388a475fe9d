import PyProof.Rows.All
import Wide.All
import OpenK.AllK
import Wide.FinOn
import HandS.ForMost
import HandS.ForExc
import HandS.IsInst
import HandS.Codes
import HandS.Walk
import HandS.Star
import HandS.TryOnly
import HandS.FStr
import HandS.StrMore
import HandS.Zip
import HandS.NoneIn
import HandS.SetKeys
import HandS.More
import HandS.Deep
import KE.RegKIsAll
import PySem.Challenge.RW_quillrun_k10_schemes_and_instances
set_option Elab.async false
set_option linter.all false
set_option maxRecDepth 100000
set_option maxHeartbeats 4000000
namespace HL
open PySem PySem.Spec PyProof.Rows L2 SX
/-! ## short words of my own, over the hand layer -/
theorem boot_isinstance : bootBuiltins "isinstance" = some (.builtin "isinstance") := by decide +kernel
theorem boot_bool : bootBuiltins "bool" = some (.type "bool") := by decide +kernel
theorem boot_int : bootBuiltins "int" = some (.type "int") := by decide +kernel
theorem boot_str : bootBuiltins "str" = some (.type "str") := by decide +kernel
theorem boot_tuple : bootBuiltins "tuple" = some (.type "tuple") := by decide +kernel
theorem boot_list : bootBuiltins "list" = some (.type "list") := by decide +kernel
theorem boot_dict : bootBuiltins "dict" = some (.type "dict") := by decide +kernel
/-- a def of the module: its body, its arguments, its name -/
structure DefN (K : PySem.W.Frag) (mg : Str → Option Value) (x : Str) (st : Stmt) (ps : List Str) (f : Addr) (fd : FuncData) : Prop where
  F : Fun K x x st f fd
  b : Binds K fd ps []
  g : mg x = some (.ref f)
theorem small (n : Nat) (h : n ≤ 1000000) : n ≤ sizeLine := Nat.le_trans h (by decide)
theorem same_upd {H : Hp} {p : Addr} {o : HO} (h : H p = none) : Same H (upd H p o) := fun b x e => by
  rw [upd_ne (ne_of_none e h)]
  exact e
theorem S_app (a b : List Nat) : (S a ++ S b : Str) = S (a ++ b) := S_cat a b
theorem sign_at {t : List Nat} {k : Nat} (h : k < t.length) : atI (S t).cps.toList (k : Int) = some (t.getD k 0) := by
  show atI t.toArray.toList (k : Int) = _
  refine atI_nat ?_
  simp [List.getD_eq_getElem?_getD, h]
theorem cutS_nat (t : List Nat) (a b : Nat) (h : a ≤ b) (h2 : b ≤ t.length) : cutS (S t) (some (a : Int)) (some (b : Int)) = S ((t.drop a).take (b - a)) := by
  unfold cutS
  rw [S_len, HT.sIx_nat, HT.sIx_nat]
  have e1 : min a t.length = a := by omega
  have e2 : min b t.length = b := by omega
  rw [e1, e2]
/-- ends beyond the end -/
theorem cutS_any (t : List Nat) (a b : Nat) : cutS (S t) (some (a : Int)) (some (b : Int)) = S ((t.drop a).take (b - a)) := by
  unfold cutS
  rw [S_len, HT.sIx_nat, HT.sIx_nat]
  congr 2
  show List.take _ (List.drop _ t) = _
  by_cases ha : a ≤ t.length
  · have e1 : min a t.length = a := by omega
    rw [e1]
    by_cases hb : b ≤ t.length
    · have e2 : min b t.length = b := by omega
      rw [e2]
    · have e2 : min b t.length = t.length := by omega
      rw [e2, List.take_of_length_le (by rw [List.length_drop]; omega), List.take_of_length_le (by rw [List.length_drop]; omega)]
  · have e1 : min a t.length = t.length := by omega
    rw [e1, List.drop_of_length_le (Nat.le_refl _), List.drop_of_length_le (show t.length ≤ a by omega)]
    simp
theorem joinL_nil : ∀ C : List (List Nat), TL.joinL [] C = C.flatten
  | [] => rfl
  | [c] => by simp [TL.joinL]
  | c :: d :: r => by
    show c ++ ([] ++ TL.joinL [] (d :: r)) = _
    rw [joinL_nil (d :: r)]
    simp
/-- a test whose answer is known -/
theorem iteNo {c A B : Prop} [Decidable c] (h : ¬ c) (hb : B) : if c then A else B := by
  rw [if_neg h]
  exact hb
theorem iteYes {c A B : Prop} [Decidable c] (h : c) (ha : A) : if c then A else B := by
  rw [if_pos h]
  exact ha
/-- a comprehension without a test -/
theorem lc_yes {te : TE} {σ : L2.St} {H : Hp} {R : VK} {B : Hp → Prop} (h : te σ H R) : tYes σ H (fun b H3 => if b = true then te σ H3 R else B H3) := by
  show (if true = true then te σ H R else B H)
  rw [if_pos rfl]
  exact h
/-- all but p is as it was -/
def But (H H' : Hp) (p : Addr) : Prop := ∀ b, b ≠ p → H' b = H b
theorem but_upd {H : Hp} {p : Addr} {o : HO} : But H (upd H p o) p := fun _ h => upd_ne h
theorem But.refl {H : Hp} {p : Addr} : But H H p := fun _ _ => rfl
theorem But.trans {H H1 H2 : Hp} {p : Addr} (a : But H H1 p) (b : But H1 H2 p) : But H H2 p := fun c h => (b c h).trans (a c h)
/-- all but p, and what is new, is as it was -/
def Kept (H H' : Hp) (p : Addr) : Prop := ∀ b o, b ≠ p → H b = some o → H' b = some o
theorem Kept.refl {H : Hp} {p : Addr} : Kept H H p := fun _ _ _ h => h
theorem Kept.trans {H H1 H2 : Hp} {p : Addr} (a : Kept H H1 p) (b : Kept H1 H2 p) : Kept H H2 p := fun c o n h => b c o n (a c o n h)
theorem But.kept {H H' : Hp} {p : Addr} (b : But H H' p) : Kept H H' p := fun c o n h => (b c n).trans h
theorem _root_.L2.Same.kept {H H' : Hp} (s : Same H H') (p : Addr) : Kept H H' p := fun c o _ h => s c o h
section
variable {X : Cx}
/-- a constant of the module: a text, a number -/
theorem pe_gstr {x z : Str} {pos : Pos} (hg : Gl X x) (hm : ∃ t, X.mg x = some (.str z t)) (hd : (x == ("__debug__" : Str)) = false := by decide) : PE X (.Name x pos) (tC (.str z)) := by
  obtain ⟨t, h⟩ := hm
  exact pe_glob hg h ⟨t, rfl⟩ hd
theorem pe_gint {x : Str} {i : Int} {pos : Pos} (hg : Gl X x) (hm : ∃ t, X.mg x = some (.int i t)) (hd : (x == ("__debug__" : Str)) = false := by decide) : PE X (.Name x pos) (tC (.int i)) := by
  obtain ⟨t, h⟩ := hm
  exact pe_glob hg h ⟨t, rfl⟩ hd
/-- o[i] of a list, for o[i] op= e -/
def rGetL (K : PySem.W.Frag) : V → V → Hp → VK → Prop := fun x y H Q => ∃ p xs i v, x = .ref p ∧ y = .int i ∧ SqL K H p xs ∧ 0 ≤ i ∧ atI xs i = some v ∧ Q v H
theorem pget_list : PGet X (rGetL X.K) := by
  intro pins s σ H x y v u Q I rx ry h
  obtain ⟨p, xs, i, z, rfl, rfl, hq, h0, he, q⟩ := h
  cases rx
  obtain ⟨t, rfl⟩ := ry
  obtain ⟨its, r, pl, hz⟩ := I.list hq
  obtain ⟨j, h1, h2, h3, h4, h5⟩ := atI_get he
  obtain ⟨w, ew, rw'⟩ := r.get h2
  have hl := r.length
  have hn := line63
  have hj : i.toNat = j := by
    rw [seqIndex_of h0 h5] at h1
    exact Option.some.inj h1
  exact wpAny_getItem_list pl.isList h0 (by omega) (by rw [hj]; simpa using ew) ⟨z, H, I, rw', q⟩
/-- isinstance(x, T), T a built-in class -/
def rIsB (K : PySem.W.Frag) : List V → Hp → VK → Prop := fun xs H Q => ∃ (x : V) (T n : String) (b : Bool), xs = [x, .ty n] ∧ TyX K H x (.type T) ∧ kitB T n = some b ∧ Q (.bl b) H
theorem call_isB : CallR X (.builtin "isinstance") (rIsB X.K) := by
  intro pins s σ H xs us Q I r h
  obtain ⟨x, T, n, b, rfl, ty, e, q⟩ := h
  exact call_isi pins s σ H _ us Q I r ⟨x, .ty n, .type T, .type n, b, rfl, .ty n, ty, kit_ty e, q⟩
/-- a text, n times -/
theorem rep_fold (z : Str) : ∀ n : Nat, ((List.replicate n z.cps).foldl (· ++ ·) (#[] : Array Nat)).toList = (List.replicate n z.cps.toList).flatten := by
  have h : ∀ (l : List (Array Nat)) (a : Array Nat), (l.foldl (· ++ ·) a).toList = a.toList ++ (l.map (·.toList)).flatten := by
    intro l
    induction l with
    | nil => intro a; simp
    | cons x l ih => intro a; rw [List.foldl_cons, ih]; simp
  intro n
  rw [h]
  simp
theorem op_mul_strR : OpR X (binaryOp .Mult) (fun x y H Q => ∃ (l : List Nat) (n : Nat), x = .str (S l) ∧ y = .int (n : Int) ∧ 2 ≤ n ∧ n ≤ 1000 ∧ 1 ≤ l.length ∧ l.length ≤ 1000 ∧ Q (.str (S (List.replicate n l).flatten)) H) := by
  intro pins s σ H x y v u Q I rx ry h
  obtain ⟨l, n, rfl, rfl, h2, h3, h4, h5, q⟩ := h
  obtain ⟨t, rfl⟩ := rx
  obtain ⟨t', rfl⟩ := ry
  have hl : (S l).length = l.length := S_len l
  have e1 : ((n : Int) == 1 || (S l).length == 0) = false := by
    rw [hl]
    have a1 : ((n : Int) == 1) = false := by simp; omega
    have a2 : (l.length == 0) = false := by simp; intro z; rw [z] at h4; simp at h4
    rw [a1, a2]; rfl
  have hsz : l.length * n ≤ 1000000 := Nat.le_trans (Nat.mul_le_mul h5 h3) (by decide)
  refine PySem.P.mul_str ?_ (fun _ _ => ?_) (fun _ _ => ?_) ?_
  · have b1 : decide ((n : Int) < -(2 ^ 63 : Int)) = false := decide_eq_false (by omega)
    have b2 : decide ((n : Int) ≥ 2 ^ 63) = false := decide_eq_false (by omega)
    rw [b1, b2]; rfl
  · rw [hl]
    have hp : (l.length : Int) * (n : Int) ≤ 1000000 := by
      have := Int.ofNat_le.mpr hsz
      rw [Int.natCast_mul] at this
      exact this
    have := Int.le_ediv_of_mul_le (show (0 : Int) < (n : Int) by omega) (show (l.length : Int) * (n : Int) ≤ 2 ^ 63 - 1 from Int.le_trans hp (by decide))
    omega
  · rw [hl]
    exact decide_eq_false (by rw [sizeLine_eq, Int.toNat_natCast]; omega)
  · rw [if_neg (by omega), if_neg (by rw [e1]; simp)]
    have ef : (⟨(List.replicate (n : Int).toNat (S l).cps).foldl (· ++ ·) #[]⟩ : Str) = S (List.replicate n l).flatten := by
      have : ((List.replicate (n : Int).toNat (S l).cps).foldl (· ++ ·) (#[] : Array Nat)) = ((List.replicate n l).flatten).toArray := by
        apply Array.ext'
        rw [rep_fold]
        simp
      rw [this]
    rw [ef]
    refine ⟨?_, .str _, H, I.tok _, ⟨_, rfl⟩, q⟩
    rw [S_len, sizeLine_eq]
    simp
    rw [Nat.mul_comm]
    omega
end
/-! ### data that are told the same: _law_same -/
/-- the type of a list or a tuple that is read -/
def IsSeq (K : PySem.W.Frag) (H : Hp) (t : String) (a : Addr) (xs : List V) : Prop := (t = "tuple" ∧ SqT K H a xs ∧ TyX K H (.ref a) (.type "tuple")) ∨ (t = "list" ∧ SqL K H a xs ∧ TyX K H (.ref a) (.type "list"))
theorem IsSeq.tup {K : PySem.W.Frag} {H : Hp} {a : Addr} {xs : List V} (h : H a = some (.tup xs)) : IsSeq K H "tuple" a xs := .inl ⟨rfl, SqT.of h, .base (.tup h)⟩
theorem IsSeq.lst {K : PySem.W.Frag} {H : Hp} {a : Addr} {xs : List V} (h : H a = some (.lst xs)) : IsSeq K H "list" a xs := .inr ⟨rfl, SqL.of h, .base (.lst h)⟩
/-- a number, a text, a truth, None -/
def Leaf : V → Prop
  | .int _ => True
  | .str _ => True
  | .bl _ => True
  | .non => True
  | _ => False
def SameD (K : PySem.W.Frag) (H : Hp) : Nat → V → V → Prop
  | 0, x, y => Leaf x ∧ x = y
  | n + 1, x, y => (Leaf x ∧ x = y) ∨ ∃ (t : String) (a b : Addr) (xs ys : List V), x = .ref a ∧ y = .ref b ∧ IsSeq K H t a xs ∧ IsSeq K H t b ys ∧ xs.length = ys.length ∧ ys.length ≤ 1000000 ∧
      ∀ (i : Nat) (u v : V), xs[i]? = some u → ys[i]? = some v → SameD K H n u v
theorem SameD.leaf {K : PySem.W.Frag} {H : Hp} {n : Nat} {x : V} (h : Leaf x) : SameD K H n x x := by
  cases n with
  | zero => exact ⟨h, rfl⟩
  | succ n => exact .inl ⟨h, rfl⟩
theorem SameD.seq {K : PySem.W.Frag} {H : Hp} {n : Nat} {t : String} {a b : Addr} {xs ys : List V} (h1 : IsSeq K H t a xs) (h2 : IsSeq K H t b ys) (hl : xs.length = ys.length) (hz : ys.length ≤ 1000000)
    (h : ∀ (i : Nat) (u v : V), xs[i]? = some u → ys[i]? = some v → SameD K H n u v) : SameD K H (n + 1) (.ref a) (.ref b) := .inr ⟨t, a, b, xs, ys, rfl, rfl, h1, h2, hl, hz, h⟩
/-- rows of leaves -/
theorem SameD.row {K : PySem.W.Frag} {H : Hp} {n : Nat} {a b : Addr} {xs : List V} (h1 : H a = some (.tup xs)) (h2 : H b = some (.tup xs)) (hz : xs.length ≤ 1000000) (h : ∀ x ∈ xs, Leaf x) : SameD K H (n + 1) (.ref a) (.ref b) :=
  .seq (.tup h1) (.tup h2) rfl hz fun i u v hu hv => by
    rw [hu] at hv
    cases hv
    exact .leaf (h u (List.mem_of_getElem? hu))
def spSame (K : PySem.W.Frag) (n : Nat) : Sp := fun vs H Q _ => ∃ x y : V, vs = [x, y] ∧ SameD K H n x y ∧ Q (.bl true) H
end HL
namespace Q10
open PySem PySem.Spec PyProof.Rows L2 SX HL
def topS (i : Nat) : Stmt := PySem.Challenge.pw_quillrun_k10_schemes_and_instances.main.body.getD i (.Pass ⟨0, 0, 0, 0⟩)
abbrev sScheme : Stmt := topS 1
theorem scScheme : FnScope ["arguments", "result", "numbers", "_", "base", "numbered", "levels"] ["arguments", "result"] (defScope sScheme) := ⟨rfl, rfl, rfl, by decide +kernel, rfl, by decide +kernel, by decide +kernel⟩
abbrev sIsInstance : Stmt := topS 2
theorem scIsInstance : FnScope ["first", "second", "found", "kind", "pattern"] ["first", "second"] (defScope sIsInstance) := ⟨rfl, rfl, rfl, by decide +kernel, rfl, by decide +kernel, by decide +kernel⟩
abbrev sIsReplaced : Stmt := topS 3
theorem scIsReplaced : FnScope ["kind", "pattern", "found", "levels", "base", "for_variable"] ["kind", "pattern", "found"] (defScope sIsReplaced) := ⟨rfl, rfl, rfl, by decide +kernel, rfl, by decide +kernel, by decide +kernel⟩
abbrev sLawMix : Stmt := topS 5
theorem scLawMix : FnScope ["cell", "k", "value"] ["cell", "k"] (defScope sLawMix) := ⟨rfl, rfl, rfl, by decide +kernel, rfl, by decide +kernel, by decide +kernel⟩
abbrev sLawDraws : Stmt := topS 6
theorem scLawDraws : FnScope ["script", "draws", "k", "cell", "place"] ["script"] (defScope sLawDraws) := ⟨rfl, rfl, rfl, by decide +kernel, rfl, by decide +kernel, by decide +kernel⟩
abbrev sLawAt : Stmt := topS 7
theorem scLawAt : FnScope ["draws", "index"] ["draws", "index"] (defScope sLawAt) := ⟨rfl, rfl, rfl, by decide +kernel, rfl, by decide +kernel, by decide +kernel⟩
abbrev sLawIsInteger : Stmt := topS 8
theorem scLawIsInteger : FnScope ["actual"] ["actual"] (defScope sLawIsInteger) := ⟨rfl, rfl, rfl, by decide +kernel, rfl, by decide +kernel, by decide +kernel⟩
abbrev sLawSame : Stmt := topS 9
theorem scLawSame : FnScope ["actual", "expected", "k"] ["actual", "expected"] (defScope sLawSame) := ⟨rfl, rfl, rfl, by decide +kernel, rfl, by decide +kernel, by decide +kernel⟩
abbrev sLawKind : Stmt := topS 10
theorem scLawKind : FnScope ["draws", "index", "numbers", "base"] ["draws", "index", "numbers"] (defScope sLawKind) := ⟨rfl, rfl, rfl, by decide +kernel, rfl, by decide +kernel, by decide +kernel⟩
abbrev sLawPair : Stmt := topS 11
theorem scLawPair : FnScope ["draws", "index", "numbers", "count", "kinds", "k"] ["draws", "index", "numbers"] (defScope sLawPair) := ⟨rfl, rfl, rfl, by decide +kernel, rfl, by decide +kernel, by decide +kernel⟩
abbrev sLawScheme : Stmt := topS 12
theorem scLawScheme : FnScope ["arguments", "result", "order", "kinds", "levels", "base"] ["arguments", "result"] (defScope sLawScheme) := ⟨rfl, rfl, rfl, by decide +kernel, rfl, by decide +kernel, by decide +kernel⟩
abbrev sLawIsInstance : Stmt := topS 13
theorem scLawIsInstance : FnScope ["first", "second", "kinds", "others", "k", "j"] ["first", "second"] (defScope sLawIsInstance) := ⟨rfl, rfl, rfl, by decide +kernel, rfl, by decide +kernel, by decide +kernel⟩
abbrev sLawInstance : Stmt := topS 14
theorem scLawInstance : FnScope ["draws", "index", "told", "kinds", "levels", "base", "pick", "at"] ["draws", "index", "told"] (defScope sLawInstance) := ⟨rfl, rfl, rfl, by decide +kernel, rfl, by decide +kernel, by decide +kernel⟩
abbrev sLaw : Stmt := topS 15
theorem scLaw : FnScope ["script", "draws", "k", "numbers", "arguments", "result", "due", "others", "pair", "j"] ["script"] (defScope sLaw) := ⟨rfl, rfl, rfl, by decide +kernel, rfl, by decide +kernel, by decide +kernel⟩
structure Txt (mg : Str → Option Value) : Prop where
  len : mg "len" = none
  range : mg "range" = none
  min : mg "min" = none
  isinstance : mg "isinstance" = none
  bool : mg "bool" = none
  int : mg "int" = none
  str : mg "str" = none
  tuple : mg "tuple" = none
  list : mg "list" = none
  zip : mg "zip" = none
  max : mg "max" = none
end Q10
namespace Q10
open PySem PySem.Spec PyProof.Rows L2 SX HL
section
variable {P : Program} {w : World} {K : PySem.W.Frag} {mg : Str → Option Value} {base : Heap}
/-! ### _law_mix -/
def spMix : Sp := fun vs H Q _ => ∃ (c k : Int), vs = [.int c, .int k] ∧ ∀ v, 0 ≤ v → v < 9973 → Q (.int v) H
theorem ok_mix {f : Addr} {fd : FuncData} {k : Nat} (D : DefN K mg "_law_mix" sLawMix ["cell", "k"] f fd) (T : Txt mg) : FnOk P w K mg base CX0 (k + 1) f fd ["cell", "k"] spMix := by
  refine D.F.ok scLawMix (fun vs H Q E h => ?_) (fun cdv A outer s H vs Q E hr h => ?_)
  · obtain ⟨c, k, rfl, _⟩ := h
    rfl
  · obtain ⟨c, k, rfl, qq⟩ := h
    refine ⟨_, (pss_cons (ps_set (i := 2) scLawMix.nd rfl (.inl rfl) (pe_op op_mod (pe_callTy call_int1 (by rfl) T.int HL.boot_int (pa_cons (pe_op op_add (pe_op op_add (pe_op op_mul (pe_callTy call_int1 (by rfl) T.int HL.boot_int (pa_cons (pv 0) pa_nil)) pe_int) (pe_op op_mul (pv 1) pe_int)) pe_int) pa_nil)) pe_int))
        (pss_cons (ps_set (i := 2) scLawMix.nd rfl (.inl rfl) (pe_op op_mod (pe_callTy call_int1 (by rfl) T.int HL.boot_int (pa_cons (pe_op op_add (pe_op op_add (pe_op op_mul (pv 2) (pv 2)) (pe_op op_mul (pv 1) pe_int)) pe_int) pa_nil)) pe_int))
        (pss_one (ps_ret (pe_op op_mod (pe_op op_fdiv (pv 2) pe_int) pe_int))))), ?_⟩
    refine ⟨_, rfl, .inl ⟨c, rfl, _, _, rfl, rfl, .inr ⟨by decide, by decide⟩, _, rfl, _, _, rfl, rfl, .inr ⟨by decide, by decide⟩, _, _, rfl, rfl, _, _, rfl, rfl, .inl ⟨_, rfl, _, _, rfl, rfl, (by show (0 : Int) < 2147483647; decide), ?_⟩⟩⟩
    have v0 := Int.emod_nonneg (c * 48271 + k * 69621 + 12345) (show (2147483647 : Int) ≠ 0 by decide)
    have v1 := Int.emod_lt_of_pos (c * 48271 + k * 69621 + 12345) (show (0 : Int) < 2147483647 by decide)
    revert v0 v1
    dsimp only
    generalize (c * 48271 + k * 69621 + 12345) % 2147483647 = v
    intro v0 v1
    refine ⟨_, rfl, _, rfl, v, v, rfl, rfl, .inl ⟨by omega, by omega⟩, _, rfl, _, _, rfl, rfl, .inr ⟨by decide, by decide⟩, _, _, rfl, rfl, _, _, rfl, rfl, .inl ⟨_, rfl, _, _, rfl, rfl, (by show (0 : Int) < 2147483399; decide), ?_⟩⟩
    refine ⟨_, rfl, _, _, rfl, rfl, ⟨by decide, by decide⟩, _, _, rfl, rfl, (by show (0 : Int) < 9973; decide), qq _ (Int.emod_nonneg _ (by decide)) (Int.emod_lt_of_pos _ (by decide))⟩
end
end Q10
namespace Q10
open PySem PySem.Spec PyProof.Rows L2 SX HL
section
variable {P : Program} {w : World} {K : PySem.W.Frag} {mg : Str → Option Value} {base : Heap}
/-! ### _law_draws -/
def Draws (ds : List Int) : Prop := ∀ x ∈ ds, 0 ≤ x ∧ x < 9973
def spDraws (K : PySem.W.Frag) : Sp := fun vs H Q _ => ∃ (a : Addr) (ns : List Int), vs = [.ref a] ∧ SqL K H a (ns.map V.int) ∧ ns.length ≤ 63 ∧
  ∀ d H' ds, H d = none → Same H H' → H' d = some (.lst (ds.map V.int)) → ds.length ≤ 4000 → Draws ds → Q (.ref d) H'
theorem ok_draws {f fM : Addr} {fd fdM : FuncData} {k : Nat} (D : DefN K mg "_law_draws" sLawDraws ["script"] f fd) (T : Txt mg) (DLawMix : DefN K mg "_law_mix" sLawMix ["cell", "k"] fM fdM) : FnOk P w K mg base CX0 (k + 2) f fd ["script"] (spDraws K) := by
  have GLawMix : FnOk P w K mg base CX0 (k + 1) fM fdM ["cell", "k"] spMix := ok_mix DLawMix T
  refine D.F.ok scLawDraws (fun vs H Q E h => ?_) (fun cdv A outer s H vs Q E hr h => ?_)
  · obtain ⟨a, ns, rfl, _⟩ := h
    rfl
  · obtain ⟨a, ns, rfl, hS, hl, qq⟩ := h
    refine ⟨_, (pss_cons (ps_set (i := 1) scLawDraws.nd rfl (.inl rfl) (pe_lst pa_nil))
        (pss_cons (ps_for PassesOwn.never rfl (pi_range1 (by rfl) T.range (pa_cons (pe_callB (call_min2 rfl) (by rfl) T.min (by decide +kernel) (pa_cons pe_int (pa_cons (pe_callB call_len_seq (by rfl) T.len PySem.boot_len (pa_cons (pv 0) pa_nil)) pa_nil))) pa_nil)) (pg_name (i := 2) scLawDraws.nd rfl (.inl rfl)) (pss_cons (ps_set (i := 3) scLawDraws.nd rfl (.inl rfl) (pe_callTy call_int1 (by rfl) T.int HL.boot_int (pa_cons (pe_ix ix_list (pv 0) (pv 2) (fun _ _ => rfl)) pa_nil)))
        (pss_one (ps_if (pt_cmpR op_lt (pv 3) (pe_op op_pow pe_int pe_int) (nomark _)) (pss_one (ps_expr (pe_bm PySem.F.plainAttrs_list PySem.F.slot_list_append PySem.F.type_list_append mt_append (pv 1) (pa_cons (pe_call GLawMix (hr.mono (by omega)) (by rfl) DLawMix.g DLawMix.F.kp DLawMix.b .nil pass0 (pa_cons (pv 3) (pa_cons (pv 2) pa_nil))) pa_nil)))) (pss_one (ps_for PassesOwn.never rfl (pi_range1 (by rfl) T.range (pa_cons pe_int pa_nil)) (pg_name (i := 4) scLawDraws.nd rfl (.inl rfl)) (pss_one (ps_if (pt_cmpR op_gt (pv 3) pe_int (nomark _)) (pss_cons (ps_expr (pe_bm PySem.F.plainAttrs_list PySem.F.slot_list_append PySem.F.type_list_append mt_append (pv 1) (pa_cons (pe_op op_mod (pe_callTy call_int1 (by rfl) T.int HL.boot_int (pa_cons (pv 3) pa_nil)) pe_int) pa_nil)))
        (pss_one (ps_set (i := 3) scLawDraws.nd rfl (.inl rfl) (pe_op op_fdiv (pv 3) pe_int)))) pss_nil))))))))
        (pss_one (ps_ret (pv 1))))), ?_⟩
    refine ⟨Nat.zero_le _, fun D0 hD => ⟨_, rfl, a, _, rfl, .inl ((same_upd hD).seq hS), 63, _, rfl, _, rfl, ?_⟩⟩
    have hlen : (ns.map V.int).length = ns.length := List.length_map _
    rw [hlen]
    have nn : (if (ns.length : Int) < 63 then (ns.length : Int) else 63) = (ns.length : Int) := by
      split <;> omega
    rw [nn]
    refine ⟨by omega, by omega, ?_⟩
    have ap : ∀ {H' : Hp} {ds : List Int} {v : Int}, Same H H' → Same H (upd H' D0 (.lst (ds.map V.int ++ [.int v]))) := fun s b o hb => by
      rw [upd_ne (ne_of_none hb hD)]
      exact s b o hb
    refine for_range (lo := 0) (n := ns.length) (fun i σ H' => ∃ (ds : List Int) (y2 y3 y4 : Option V), σ = [some (.ref a), some (.ref D0), y2, y3, y4] ∧ Same H H' ∧ H' D0 = some (.lst (ds.map V.int)) ∧ ds.length ≤ 60 * i ∧ Draws ds)
      ⟨[], none, none, none, rfl, same_upd hD, upd_same, Nat.zero_le _, fun _ h => nomatch h⟩ ?_ ?_
    · rintro i σ H' hi ⟨ds, y2, y3, y4, rfl, sm, hd, hdl, hdr⟩
      have hg : atI (ns.map V.int) ((0 : Int) + (i : Int)) = some (.int (ns.getD i 0)) := by
        rw [Int.zero_add]
        refine atI_nat ?_
        simp [hi]
      generalize ns.getD i 0 = x at hg
      refine ⟨_, rfl, _, rfl, a, _, _, _, rfl, rfl, sm.seq hS, hg, .inl ⟨x, rfl, ?_⟩⟩
      refine ⟨_, rfl, 10, 18, rfl, rfl, ⟨by decide, by decide, by decide⟩, _, _, rfl, rfl, _, rfl, ite2 (fun _ => ?_) (fun e => ?_)⟩
      · refine ⟨_, rfl, .inl ⟨rfl, _, SqL.of hd⟩, _, rfl, _, rfl, x, _, rfl, fun v v0 v1 => ⟨D0, _, _, rfl, rfl, hd, ?_, ?_⟩⟩
        · rw [List.length_map]
          exact Nat.lt_of_le_of_lt (show ds.length ≤ 4000 by omega) (by decide)
        · refine ⟨ds ++ [v], _, _, _, rfl, ap sm, by rw [upd_same]; simp, by simp; omega, fun y hy => ?_⟩
          rcases List.mem_append.mp hy with hy | hy
          · exact hdr y hy
          · rw [List.mem_singleton.mp hy]
            exact ⟨v0, v1⟩
      · refine ⟨60, rfl, by decide, by decide, ?_⟩
        refine for_range (lo := 0) (n := 60) (fun j σ H' => ∃ (ds2 : List Int) (x : Int) (y4 : Option V), σ = [some (.ref a), some (.ref D0), some (.int (0 + (i : Int))), some (.int x), y4] ∧ Same H H' ∧ H' D0 = some (.lst (ds2.map V.int)) ∧ ds2.length ≤ 60 * i + j ∧ Draws ds2)
          ⟨ds, x, y4, rfl, sm, hd, hdl, hdr⟩ ?_ ?_
        · rintro j σ H2 hj ⟨ds2, x, y4, rfl, sm2, hd2, hdl2, hdr2⟩
          refine ⟨_, rfl, x, 0, rfl, rfl, _, rfl, ite2 (fun e => ?_) (fun e => ?_)⟩
          · refine ⟨_, rfl, .inl ⟨rfl, _, SqL.of hd2⟩, _, rfl, .inl ⟨x, rfl, x, 9973, rfl, rfl, (by show (0 : Int) < 9973; decide), D0, _, _, rfl, rfl, hd2, ?_, ?_⟩⟩
            · rw [List.length_map]
              exact Nat.lt_of_le_of_lt (show ds2.length ≤ 4000 by omega) (by decide)
            · refine ⟨_, rfl, x, 9973, rfl, rfl, ⟨by decide, by decide⟩, ds2 ++ [x % 9973], x / 9973, _, rfl, ap sm2, by rw [upd_same]; simp, by simp; omega, fun y hy => ?_⟩
              rcases List.mem_append.mp hy with hy | hy
              · exact hdr2 y hy
              · rw [List.mem_singleton.mp hy]
                exact ⟨Int.emod_nonneg _ (by decide), Int.emod_lt_of_pos _ (by decide)⟩
          · exact ⟨ds2, x, _, rfl, sm2, hd2, by omega, hdr2⟩
        · rintro σ H2 ⟨ds2, x, y4, rfl, sm2, hd2, hdl2, hdr2⟩
          exact ⟨ds2, _, _, _, rfl, sm2, hd2, by omega, hdr2⟩
    · rintro σ H' ⟨ds, y2, y3, y4, rfl, sm, hd, hdl, hdr⟩
      exact ⟨_, rfl, qq D0 H' ds hD sm hd (by omega) hdr⟩
/-! ### _law_at -/
def spAt : Sp := fun vs H Q _ => ∃ (d : Addr) (ds : List Int) (i : Int), vs = [.ref d, .int i] ∧ H d = some (.lst (ds.map V.int)) ∧ Draws ds ∧ 0 ≤ i ∧ ∀ v, 0 ≤ v → v < 9973 → Q (.int v) H
theorem ok_at {f fM : Addr} {fd fdM : FuncData} {k : Nat} (D : DefN K mg "_law_at" sLawAt ["draws", "index"] f fd) (T : Txt mg) (DLawMix : DefN K mg "_law_mix" sLawMix ["cell", "k"] fM fdM) : FnOk P w K mg base CX0 (k + 2) f fd ["draws", "index"] spAt := by
  have GLawMix : FnOk P w K mg base CX0 (k + 1) fM fdM ["cell", "k"] spMix := ok_mix DLawMix T
  refine D.F.ok scLawAt (fun vs H Q E h => ?_) (fun cdv A outer s H vs Q E hr h => ?_)
  · obtain ⟨a, ns, i, rfl, _⟩ := h
    rfl
  · obtain ⟨d, ds, i, rfl, hd, hD, i0, qq⟩ := h
    refine ⟨_, (pss_cons (ps_if (pt_cmpR op_lt (pv 1) (pe_callB call_len_seq (by rfl) T.len PySem.boot_len (pa_cons (pv 0) pa_nil)) (nomark _)) (pss_one (ps_ret (pe_ix ix_list (pv 0) (pv 1) (fun _ _ => rfl)))) pss_nil)
        (pss_cons (ps_if (pt_cmpR op_eq (pe_callB call_len_seq (by rfl) T.len PySem.boot_len (pa_cons (pv 0) pa_nil)) pe_int (nomark _)) (pss_one (ps_ret (pe_call GLawMix (hr.mono (by omega)) (by rfl) DLawMix.g DLawMix.F.kp DLawMix.b .nil pass0 (pa_cons (pv 1) (pa_cons pe_int pa_nil))))) pss_nil)
        (pss_one (ps_ret (pe_call GLawMix (hr.mono (by omega)) (by rfl) DLawMix.g DLawMix.F.kp DLawMix.b .nil pass0 (pa_cons (pe_op op_add (pe_ix ix_list (pv 0) (pe_op op_mod (pe_callTy call_int1 (by rfl) T.int HL.boot_int (pa_cons (pv 1) pa_nil)) (pe_callB call_len_seq (by rfl) T.len PySem.boot_len (pa_cons (pv 0) pa_nil))) (fun _ _ => rfl)) (pe_op op_mul (pv 1) pe_int)) (pa_cons (pv 1) pa_nil))))))), ?_⟩
    have hlen : (ds.map V.int).length = ds.length := List.length_map _
    refine ⟨_, rfl, _, rfl, d, _, rfl, .inl (SqL.of hd), _, _, rfl, rfl, _, rfl, ite2 (fun e => ?_) (fun e => ?_)⟩
    · have e2 : i < ((ds.map V.int).length : Int) := of_decide_eq_true e
      rw [hlen] at e2
      have hi : i.toNat < ds.length := by omega
      have hg : atI (ds.map V.int) i = some (.int ds[i.toNat]) := by
        have h0 := atI_nat (xs := ds.map V.int) (j := i.toNat) (v := .int ds[i.toNat]) (by simp [hi])
        have : ((i.toNat : Nat) : Int) = i := by omega
        rwa [this] at h0
      have hb := hD _ (List.getElem_mem hi)
      exact ⟨_, rfl, _, rfl, d, _, i, _, rfl, rfl, SqL.of hd, hg, qq _ hb.1 hb.2⟩
    · refine ⟨_, rfl, d, _, rfl, .inl (SqL.of hd), rfl, _, rfl, ite2 (fun e2 => ?_) (fun e2 => ?_)⟩
      · exact ⟨_, rfl, i, 77, rfl, qq⟩
      · have hp : 0 < ds.length := by
          rcases Nat.eq_zero_or_pos ds.length with z | z
          · exact absurd (decide_eq_true (by rw [hlen, z]; rfl)) e2
          · exact z
        have m0 := Int.emod_nonneg i (show (ds.length : Int) ≠ 0 by omega)
        have m1 := Int.emod_lt_of_pos i (show (0 : Int) < (ds.length : Int) by omega)
        have hi : (i % (ds.length : Int)).toNat < ds.length := by omega
        have hg : atI (ds.map V.int) (i % (ds.length : Int)) = some (.int ds[(i % (ds.length : Int)).toNat]) := by
          have h0 := atI_nat (xs := ds.map V.int) (j := (i % (ds.length : Int)).toNat) (v := .int ds[(i % (ds.length : Int)).toNat]) (by simp [hi])
          have : (((i % (ds.length : Int)).toNat : Nat) : Int) = i % (ds.length : Int) := by omega
          rwa [this] at h0
        generalize ds[(i % (ds.length : Int)).toNat] = x at hg
        refine ⟨_, rfl, _, rfl, .inl ⟨i, rfl, _, rfl, d, _, rfl, .inl (SqL.of hd), ?_⟩⟩
        rw [hlen]
        refine ⟨_, _, rfl, rfl, (by show (0 : Int) < (ds.length : Int); omega), d, _, _, _, rfl, rfl, SqL.of hd, hg, _, rfl, i, 131, rfl, rfl, .inr ⟨by decide, by decide⟩, _, _, rfl, rfl, _, rfl, _, _, rfl, qq⟩
end
end Q10
namespace HL
open PySem PySem.Spec PyProof.Rows L2 SX
/-- isinstance of two built-in classes -/
theorem kit_two {K : PySem.W.Frag} {T a b : String} {x y : Bool} (h1 : kitB T a = some x) (h2 : kitB T b = some y) : PySem.W.kitAny K (.type T) [.type a, .type b] = some (x || y) := by
  have e1 := kit_ty (K := K) h1
  have e2 := kit_ty (K := K) h2
  simp only [PySem.W.kitAny, e1, e2]
  cases x <;> cases y <;> rfl
theorem tyx_same {K : PySem.W.Frag} {H H' : Hp} {x : V} {t : Value} (s : Same H H') (h : TyX K H x t) : TyX K H' x t := by
  cases h with
  | base b =>
    cases b with
    | non => exact .base .non
    | bl y => exact .base (.bl y)
    | int i => exact .base (.int i)
    | str y => exact .base (.str y)
    | flt y => exact .base (.flt y)
    | lst e => exact .base (.lst (s _ _ e))
    | frz e => exact .base (.frz (s _ _ e))
    | tup e => exact .base (.tup (s _ _ e))
    | dK e => exact .base (.dK (s _ _ e))
    | dT e => exact .base (.dT (s _ _ e))
    | ins e h1 h2 h3 h4 h5 => exact .base (.ins (s _ _ e) h1 h2 h3 h4 h5)
  | byt y => exact .byt y
  | set e => exact .set (s _ _ e)
  | kList e c => exact .kList e c
  | kTuple e c => exact .kTuple e c
  | kDict e c => exact .kDict e c
  | fTuple e => exact .fTuple (s _ _ e)
  | fDict e => exact .fDict (s _ _ e)
theorem seqT_same {K : PySem.W.Frag} {H H' : Hp} {a : Addr} {xs : List V} (e : Same H H') (h : SqT K H a xs) : SqT K H' a xs := by
  rcases h with (h | ⟨o, h⟩) | h
  · exact .inl (.inl (e _ _ h))
  · exact .inl (.inr ⟨o, e _ _ h⟩)
  · exact .inr h
theorem isSeq_same {K : PySem.W.Frag} {H H' : Hp} {t : String} {a : Addr} {xs : List V} (s : Same H H') (h : IsSeq K H t a xs) : IsSeq K H' t a xs := by
  rcases h with ⟨e, h1, h2⟩ | ⟨e, h1, h2⟩
  · exact .inl ⟨e, seqT_same s h1, tyx_same s h2⟩
  · exact .inr ⟨e, s.seq h1, tyx_same s h2⟩
theorem sameD_same {K : PySem.W.Frag} {H H' : Hp} (s : Same H H') : ∀ {n : Nat} {x y : V}, SameD K H n x y → SameD K H' n x y
  | 0, x, y, h => h
  | n + 1, x, y, h => by
    rcases h with h | ⟨t, a, b, xs, ys, e1, e2, h1, h2, el, hz, hh⟩
    · exact .inl h
    · exact .inr ⟨t, a, b, xs, ys, e1, e2, isSeq_same s h1, isSeq_same s h2, el, hz, fun i u v hu hv => sameD_same s (hh i u v hu hv)⟩
/-- told the same; the heap may grow -/
def spSameG (K : PySem.W.Frag) (n : Nat) : Sp := fun vs H Q _ => ∃ x y : V, vs = [x, y] ∧ SameD K H n x y ∧ ∀ H', Same H H' → Q (.bl true) H'
end HL
namespace Q10
open PySem PySem.Spec PyProof.Rows L2 SX HL
section
variable {P : Program} {w : World} {K : PySem.W.Frag} {mg : Str → Option Value} {base : Heap}
/-! ### _law_is_integer -/
def spIsInt : Sp := fun vs H Q _ => ∃ i : Int, vs = [.int i] ∧ Q (.bl true) H
theorem ok_isint {f : Addr} {fd : FuncData} {k : Nat} (D : DefN K mg "_law_is_integer" sLawIsInteger ["actual"] f fd) (T : Txt mg) : FnOk P w K mg base CX0 (k + 1) f fd ["actual"] spIsInt := by
  refine D.F.ok scLawIsInteger (fun vs H Q E h => ?_) (fun cdv A outer s H vs Q E hr h => ?_)
  · obtain ⟨i, rfl, _⟩ := h
    rfl
  · obtain ⟨i, rfl, q⟩ := h
    refine ⟨_, (pss_one (ps_ret (pe_and (pe_callB call_isB (by rfl) T.isinstance HL.boot_isinstance (pa_cons (pv 0) (pa_cons (pe_bltn (v := .ty "int") (by rfl) T.int HL.boot_int rfl) pa_nil))) (pe_one (pe_not (pe_callB call_isB (by rfl) T.isinstance HL.boot_isinstance (pa_cons (pv 0) (pa_cons (pe_bltn (v := .ty "bool") (by rfl) T.bool HL.boot_bool rfl) pa_nil)))))))), ?_⟩
    refine ⟨_, rfl, _, "int", "int", true, rfl, .base (.int i), by decide +kernel, true, rfl, iteT ?_⟩
    exact ⟨_, rfl, _, "int", "bool", false, rfl, .base (.int i), by decide +kernel, false, rfl, q⟩
/-! ### _law_same -/
def spLess (K : PySem.W.Frag) : Nat → Sp
  | 0 => fun _ _ _ _ => False
  | n + 1 => spSameG K n
theorem same_step {f fI : Addr} {fd fdI : FuncData} {n : Nat} (DLawSame : DefN K mg "_law_same" sLawSame ["actual", "expected"] f fd) (T : Txt mg) (DLawIsInteger : DefN K mg "_law_is_integer" sLawIsInteger ["actual"] fI fdI)
    (GLawSame : FnOk P w K mg base CX0 (n + 1) f fd ["actual", "expected"] (spLess K n)) : FnOk P w K mg base CX0 (n + 2) f fd ["actual", "expected"] (spSameG K n) := by
  have GLawIsInteger : FnOk P w K mg base CX0 1 fI fdI ["actual"] spIsInt := ok_isint (k := 0) DLawIsInteger T
  refine DLawSame.F.ok scLawSame (fun vs H Q E h => ?_) (fun cdv A outer s H vs Q E hr h => ?_)
  · obtain ⟨x, y, rfl, _⟩ := h
    rfl
  · obtain ⟨x, y, rfl, hs, q⟩ := h
    refine ⟨_, (pss_cons (ps_if (pt_val (pe_callB call_isiT (by rfl) T.isinstance HL.boot_isinstance (pa_cons (pv 1) (pa_cons (pe_tup (pa_cons (pe_bltn (v := .ty "list") (by rfl) T.list HL.boot_list rfl) (pa_cons (pe_bltn (v := .ty "tuple") (by rfl) T.tuple HL.boot_tuple rfl) pa_nil))) pa_nil)))) (pss_cons (ps_if (PW.pt (pw_or (pt_cmpR op_ne (pe_callB call_isB (by rfl) T.isinstance HL.boot_isinstance (pa_cons (pv 1) (pa_cons (pe_bltn (v := .ty "list") (by rfl) T.list HL.boot_list rfl) pa_nil))) (pe_callB call_isB (by rfl) T.isinstance HL.boot_isinstance (pa_cons (pv 0) (pa_cons (pe_bltn (v := .ty "list") (by rfl) T.list HL.boot_list rfl) pa_nil))) (nomark _)) (pw_or1 (pt_cmpR op_ne (pe_callB call_isB (by rfl) T.isinstance HL.boot_isinstance (pa_cons (pv 1) (pa_cons (pe_bltn (v := .ty "tuple") (by rfl) T.tuple HL.boot_tuple rfl) pa_nil))) (pe_callB call_isB (by rfl) T.isinstance HL.boot_isinstance (pa_cons (pv 0) (pa_cons (pe_bltn (v := .ty "tuple") (by rfl) T.tuple HL.boot_tuple rfl) pa_nil))) (nomark _))))) (pss_one (ps_ret pe_bl)) pss_nil)
        (pss_cons (ps_if (pt_cmpR op_ne (pe_callB call_len_seq (by rfl) T.len PySem.boot_len (pa_cons (pv 0) pa_nil)) (pe_callB call_len_seq (by rfl) T.len PySem.boot_len (pa_cons (pv 1) pa_nil)) (nomark _)) (pss_one (ps_ret pe_bl)) pss_nil)
        (pss_cons (ps_for PassesOwn.never rfl (pi_range1 (by rfl) T.range (pa_cons (pe_callB call_len_seq (by rfl) T.len PySem.boot_len (pa_cons (pv 1) pa_nil)) pa_nil)) (pg_name (i := 2) scLawSame.nd rfl (.inl rfl)) (pss_one (ps_if (pt_not (pt_val (pe_call GLawSame (hr.mono (by omega)) (by rfl) DLawSame.g DLawSame.F.kp DLawSame.b .nil pass0 (pa_cons (pe_ix ix_seq (pv 0) (pv 2) (fun _ _ => rfl)) (pa_cons (pe_ix ix_seq (pv 1) (pv 2) (fun _ _ => rfl)) pa_nil))))) (pss_one (ps_ret pe_bl)) pss_nil)))
        (pss_one (ps_ret pe_bl))))) pss_nil)
        (pss_cons (ps_if (pt_cmp (pc_isN (pv 1))) (pss_one (ps_ret (pe_cmp (pc_isN (pv 0)) rfl))) pss_nil)
        (pss_cons (ps_if (pt_val (pe_callB call_isB (by rfl) T.isinstance HL.boot_isinstance (pa_cons (pv 1) (pa_cons (pe_bltn (v := .ty "bool") (by rfl) T.bool HL.boot_bool rfl) pa_nil)))) (pss_one (ps_ret (pe_and (pe_callB call_isB (by rfl) T.isinstance HL.boot_isinstance (pa_cons (pv 0) (pa_cons (pe_bltn (v := .ty "bool") (by rfl) T.bool HL.boot_bool rfl) pa_nil))) (pe_one (pe_cmpR op_eq (pv 0) (pv 1) (nomark _)))))) pss_nil)
        (pss_cons (ps_if (pt_val (pe_callB call_isB (by rfl) T.isinstance HL.boot_isinstance (pa_cons (pv 1) (pa_cons (pe_bltn (v := .ty "int") (by rfl) T.int HL.boot_int rfl) pa_nil)))) (pss_one (ps_ret (pe_and (pe_call GLawIsInteger (hr.mono (by omega)) (by rfl) DLawIsInteger.g DLawIsInteger.F.kp DLawIsInteger.b .nil pass0 (pa_cons (pv 0) pa_nil)) (pe_one (pe_cmpR op_eq (pv 0) (pv 1) (nomark _)))))) pss_nil)
        (pss_one (ps_ret (pe_and (pe_callB call_isB (by rfl) T.isinstance HL.boot_isinstance (pa_cons (pv 0) (pa_cons (pe_bltn (v := .ty "str") (by rfl) T.str HL.boot_str rfl) pa_nil))) (pe_one (pe_cmpR op_eq (pv 0) (pv 1) (nomark _)))))))))), ?_⟩
    have t2 : 2 ≤ sizeLine := by decide
    have hs : (Leaf x ∧ x = y) ∨ ∃ (m : Nat) (t : String) (a b : Addr) (xs ys : List V), n = m + 1 ∧ x = .ref a ∧ y = .ref b ∧ IsSeq K H t a xs ∧ IsSeq K H t b ys ∧ xs.length = ys.length ∧ ys.length ≤ 1000000 ∧
        ∀ (i : Nat) (u v : V), xs[i]? = some u → ys[i]? = some v → SameD K H m u v := by
      cases n with
      | zero => exact .inl hs
      | succ m =>
        rcases hs with h | ⟨t, a, b, xs, ys, h⟩
        · exact .inl h
        · exact .inr ⟨m, t, a, b, xs, ys, rfl, h⟩
    rcases hs with ⟨lf, rfl⟩ | ⟨m, t, a, b, xs, ys, rfl, rfl, rfl, h1, h2, el, hz, hh⟩
    · cases x with
      | int i =>
        refine ⟨_, rfl, t2, fun p hp => ⟨_, p, _, .type "int", _, _, rfl, upd_same, .cons (.ty _) (.cons (.ty _) .nil), .base (.int i), kit_two (by decide +kernel : kitB "int" "list" = some false) (by decide +kernel : kitB "int" "tuple" = some false), _, rfl, iteF ?_⟩⟩
        refine ⟨_, rfl, _, rfl, iteF ?_⟩
        refine ⟨_, rfl, _, "int", "bool", false, rfl, .base (.int i), by decide +kernel, false, rfl, iteF ?_⟩
        refine ⟨_, rfl, _, "int", "int", true, rfl, .base (.int i), by decide +kernel, true, rfl, iteT ?_⟩
        refine ⟨_, rfl, i, rfl, true, rfl, iteT ⟨_, rfl, _, rfl, rfl, ?_⟩⟩
        rw [decide_eq_true rfl]
        exact q _ (same_upd hp)
      | str z =>
        refine ⟨_, rfl, t2, fun p hp => ⟨_, p, _, .type "str", _, _, rfl, upd_same, .cons (.ty _) (.cons (.ty _) .nil), .base (.str z), kit_two (by decide +kernel : kitB "str" "list" = some false) (by decide +kernel : kitB "str" "tuple" = some false), _, rfl, iteF ?_⟩⟩
        refine ⟨_, rfl, _, rfl, iteF ?_⟩
        refine ⟨_, rfl, _, "str", "bool", false, rfl, .base (.str z), by decide +kernel, false, rfl, iteF ?_⟩
        refine ⟨_, rfl, _, "str", "int", false, rfl, .base (.str z), by decide +kernel, false, rfl, iteF ?_⟩
        refine ⟨_, rfl, _, "str", "str", true, rfl, .base (.str z), by decide +kernel, true, rfl, iteT ?_⟩
        refine ⟨_, rfl, _, rfl, rfl, ?_⟩
        rw [decide_eq_true rfl]
        exact q _ (same_upd hp)
      | bl b =>
        refine ⟨_, rfl, t2, fun p hp => ⟨_, p, _, .type "bool", _, _, rfl, upd_same, .cons (.ty _) (.cons (.ty _) .nil), .base (.bl b), kit_two (by decide +kernel : kitB "bool" "list" = some false) (by decide +kernel : kitB "bool" "tuple" = some false), _, rfl, iteF ?_⟩⟩
        refine ⟨_, rfl, _, rfl, iteF ?_⟩
        refine ⟨_, rfl, _, "bool", "bool", true, rfl, .base (.bl b), by decide +kernel, true, rfl, iteT ?_⟩
        refine ⟨_, rfl, _, "bool", "bool", true, rfl, .base (.bl b), by decide +kernel, true, rfl, iteT ?_⟩
        refine ⟨_, rfl, _, rfl, rfl, ?_⟩
        rw [decide_eq_true rfl]
        exact q _ (same_upd hp)
      | non =>
        refine ⟨_, rfl, t2, fun p hp => ⟨_, p, _, .type "NoneType", _, _, rfl, upd_same, .cons (.ty _) (.cons (.ty _) .nil), .base .non, kit_two (by decide +kernel : kitB "NoneType" "list" = some false) (by decide +kernel : kitB "NoneType" "tuple" = some false), _, rfl, iteF ?_⟩⟩
        refine ⟨_, rfl, _, rfl, iteT ?_⟩
        exact ⟨_, rfl, q _ (same_upd hp)⟩
      | _ => exact (show False from lf).elim
    · have rest : ∀ (i : Nat) (u v : V), xs[i]? = some u → ys[i]? = some v → atI xs ((0 : Int) + (i : Int)) = some u ∧ atI ys ((0 : Int) + (i : Int)) = some v := fun i u v hu hv => by
        rw [Int.zero_add]
        exact ⟨atI_nat hu, atI_nat hv⟩
      have turn : ∀ i : Nat, i < (ys.length : Int).toNat → ∃ u v, xs[i]? = some u ∧ ys[i]? = some v := fun i hi => by
        have i1 : i < ys.length := by omega
        have i2 : i < xs.length := by omega
        exact ⟨_, _, List.getElem?_eq_getElem i2, List.getElem?_eq_getElem i1⟩
      rcases h1 with ⟨rfl, s1, t1⟩ | ⟨rfl, s1, t1⟩
      · rcases h2 with ⟨_, s2, t2'⟩ | ⟨z, _⟩
        · refine ⟨_, rfl, t2, fun p hp => ⟨_, p, _, .type "tuple", _, _, rfl, upd_same, .cons (.ty _) (.cons (.ty _) .nil), tyx_same (same_upd hp) t2', kit_two (by decide +kernel : kitB "tuple" "list" = some false) (by decide +kernel : kitB "tuple" "tuple" = some true), _, rfl, iteT ?_⟩⟩
          have s10 := s1
          have s20 := s2
          have s1 := seqT_same (same_upd (o := .tup [.ty "list", .ty "tuple"]) hp) s1
          have s2 := seqT_same (same_upd (o := .tup [.ty "list", .ty "tuple"]) hp) s2
          refine ⟨_, rfl, _, "tuple", "list", false, rfl, tyx_same (same_upd hp) t2', by decide +kernel, _, rfl, _, "tuple", "list", false, rfl, tyx_same (same_upd hp) t1, by decide +kernel, rfl, _, rfl, iteNS rfl ?_⟩
          refine ⟨_, rfl, _, "tuple", "tuple", true, rfl, tyx_same (same_upd hp) t2', by decide +kernel, _, rfl, _, "tuple", "tuple", true, rfl, tyx_same (same_upd hp) t1, by decide +kernel, rfl, _, rfl, iteNS rfl ?_⟩
          refine ⟨_, rfl, a, xs, rfl, .inr s1, _, rfl, b, ys, rfl, .inr s2, rfl, _, rfl, iteNS (by rw [el]) ?_⟩
          refine ⟨_, rfl, b, ys, rfl, .inr s2, _, rfl, by omega, by omega, ?_⟩
          refine for_range (lo := 0) (n := (ys.length : Int).toNat) (fun i σ H' => Same H H' ∧ ∃ y, σ = [some (.ref a), some (.ref b), y]) ⟨same_upd hp, none, rfl⟩ ?_ ?_
          · rintro i σ H' hi ⟨sm, y, rfl⟩
            obtain ⟨u, v, hu, hv⟩ := turn i hi
            obtain ⟨r1, r2⟩ := rest i u v hu hv
            exact ⟨_, rfl, _, rfl, .inr (.inl ⟨a, xs, _, u, rfl, rfl, seqT_same sm s10, r1, _, rfl, _, rfl, .inr (.inl ⟨b, ys, _, v, rfl, rfl, seqT_same sm s20, r2, u, v, rfl, sameD_same sm (hh i u v hu hv), fun H2 s2 => ⟨true, rfl, iteF ⟨sm.trans s2, _, rfl⟩⟩⟩)⟩)⟩
          · rintro σ H' ⟨sm, y, rfl⟩
            exact q _ sm
        · exact absurd z (by decide)
      · rcases h2 with ⟨z, _⟩ | ⟨_, s2, t2'⟩
        · exact absurd z (by decide)
        · refine ⟨_, rfl, t2, fun p hp => ⟨_, p, _, .type "list", _, _, rfl, upd_same, .cons (.ty _) (.cons (.ty _) .nil), tyx_same (same_upd hp) t2', kit_two (by decide +kernel : kitB "list" "list" = some true) (by decide +kernel : kitB "list" "tuple" = some false), _, rfl, iteT ?_⟩⟩
          have s10 := s1
          have s20 := s2
          have s1 := (same_upd (o := .tup [.ty "list", .ty "tuple"]) hp).seq s1
          have s2 := (same_upd (o := .tup [.ty "list", .ty "tuple"]) hp).seq s2
          refine ⟨_, rfl, _, "list", "list", true, rfl, tyx_same (same_upd hp) t2', by decide +kernel, _, rfl, _, "list", "list", true, rfl, tyx_same (same_upd hp) t1, by decide +kernel, rfl, _, rfl, iteNS rfl ?_⟩
          refine ⟨_, rfl, _, "list", "tuple", false, rfl, tyx_same (same_upd hp) t2', by decide +kernel, _, rfl, _, "list", "tuple", false, rfl, tyx_same (same_upd hp) t1, by decide +kernel, rfl, _, rfl, iteNS rfl ?_⟩
          refine ⟨_, rfl, a, xs, rfl, .inl s1, _, rfl, b, ys, rfl, .inl s2, rfl, _, rfl, iteNS (by rw [el]) ?_⟩
          refine ⟨_, rfl, b, ys, rfl, .inl s2, _, rfl, by omega, by omega, ?_⟩
          refine for_range (lo := 0) (n := (ys.length : Int).toNat) (fun i σ H' => Same H H' ∧ ∃ y, σ = [some (.ref a), some (.ref b), y]) ⟨same_upd hp, none, rfl⟩ ?_ ?_
          · rintro i σ H' hi ⟨sm, y, rfl⟩
            obtain ⟨u, v, hu, hv⟩ := turn i hi
            obtain ⟨r1, r2⟩ := rest i u v hu hv
            exact ⟨_, rfl, _, rfl, .inl ⟨a, xs, _, u, rfl, rfl, sm.seq s10, r1, _, rfl, _, rfl, .inl ⟨b, ys, _, v, rfl, rfl, sm.seq s20, r2, u, v, rfl, sameD_same sm (hh i u v hu hv), fun H2 s2 => ⟨true, rfl, iteF ⟨sm.trans s2, _, rfl⟩⟩⟩⟩⟩
          · rintro σ H' ⟨sm, y, rfl⟩
            exact q _ sm
theorem ok_same {f fI : Addr} {fd fdI : FuncData} (DLawSame : DefN K mg "_law_same" sLawSame ["actual", "expected"] f fd) (T : Txt mg) (DLawIsInteger : DefN K mg "_law_is_integer" sLawIsInteger ["actual"] fI fdI) : ∀ n, FnOk P w K mg base CX0 (n + 2) f fd ["actual", "expected"] (spSameG K n)
  | 0 => same_step DLawSame T DLawIsInteger (DLawSame.F.ok scLawSame (fun vs H Q E h => (show False from h).elim) (fun cdv A outer s H vs Q E hr h => (show False from h).elim))
  | n + 1 => same_step DLawSame T DLawIsInteger (ok_same DLawSame T DLawIsInteger n)
end
end Q10
namespace Q10
open PySem PySem.Spec PyProof.Rows L2 SX HL
/-! ### types and schemes -/
/-- a type: how many times list, and its base -/
abbrev Kd := Int × Key
def addB (o : List Int) (k : Kd) : List Int := match k.2 with
  | .inl i => if i ∈ o then o else o ++ [i]
  | .inr _ => o
def numK (o : List Int) (k : Kd) : Kd := (k.1, match k.2 with
  | .inl i => .inl ((o.idxOf i : Nat) : Int)
  | .inr s => .inr s)
def ordK (A : List Kd) : List Int := A.foldl addB []
def schK (A : List Kd) : List Kd := A.map (numK (ordK A))
theorem addB_pre (o : List Int) (k : Kd) : ∃ t, addB o k = o ++ t := by
  unfold addB
  split
  · split
    · exact ⟨[], by simp⟩
    · exact ⟨_, rfl⟩
  · exact ⟨[], by simp⟩
theorem fold_pre (A : List Kd) : ∀ o, ∃ t, A.foldl addB o = o ++ t := by
  induction A with
  | nil => exact fun o => ⟨[], by simp⟩
  | cons k A ih =>
    intro o
    obtain ⟨t, h⟩ := addB_pre o k
    obtain ⟨u, g⟩ := ih (addB o k)
    exact ⟨t ++ u, by rw [List.foldl_cons, g, h, List.append_assoc]⟩
theorem addB_mem {o : List Int} {k : Kd} {i : Int} (h : k.2 = .inl i) : i ∈ addB o k := by
  unfold addB
  rw [h]
  dsimp only
  split
  · assumption
  · simp
theorem numK_app {o t : List Int} {k : Kd} (h : ∀ i, k.2 = .inl i → i ∈ o) : numK (o ++ t) k = numK o k := by
  unfold numK
  cases e : k.2 with
  | inl i =>
    dsimp only
    rw [List.idxOf_append, if_pos (h i e)]
  | inr s => rfl
theorem ordK_snoc (A : List Kd) (k : Kd) : ordK (A ++ [k]) = addB (ordK A) k := by
  unfold ordK
  rw [List.foldl_append]
  rfl
/-- what is told at a turn stays so -/
theorem numK_take {A : List Kd} {i : Nat} {k : Kd} (h : A[i]? = some k) : numK (ordK (A.take (i + 1))) k = numK (ordK A) k := by
  have e : A.take (i + 1) = A.take i ++ [k] := by rw [List.take_add_one, h]; rfl
  have e2 : ordK A = (A.drop (i + 1)).foldl addB (ordK (A.take (i + 1))) := by
    unfold ordK
    rw [← List.foldl_append, List.take_append_drop]
  obtain ⟨t, g⟩ := fold_pre (A.drop (i + 1)) (ordK (A.take (i + 1)))
  rw [e2, g, numK_app]
  intro j hj
  rw [e, ordK_snoc]
  exact addB_mem hj
/-- the dict of numbers -/
def numD : Nat → List Int → List (Key × V)
  | _, [] => []
  | n, i :: r => (.inl i, .int (n : Nat)) :: numD (n + 1) r
theorem numD_len : ∀ (o : List Int) (n : Nat), (numD n o).length = o.length
  | [], _ => rfl
  | _ :: r, n => congrArg (· + 1) (numD_len r (n + 1))
theorem numD_app : ∀ (o : List Int) (i : Int) (n : Nat), numD n (o ++ [i]) = numD n o ++ [(.inl i, .int ((n + o.length : Nat) : Int))]
  | [], i, n => rfl
  | j :: r, i, n => by
    show _ :: numD (n + 1) (r ++ [i]) = _ :: (numD (n + 1) r ++ _)
    rw [numD_app r i (n + 1)]
    have : n + 1 + r.length = n + (j :: r).length := by simp; omega
    rw [this]
theorem numD_str : ∀ (o : List Int) (n : Nat) (s : Str), valV (numD n o) (.inr s) = none
  | [], _, _ => rfl
  | _ :: r, n, s => by
    show valV (_ :: numD (n + 1) r) _ = _
    rw [valV_neg (by simp), numD_str r (n + 1) s]
theorem numD_int : ∀ (o : List Int) (n : Nat) (i : Int), valV (numD n o) (.inl i) = if i ∈ o then some (.int ((n + o.idxOf i : Nat) : Int)) else none
  | [], _, _ => rfl
  | j :: r, n, i => by
    show valV ((.inl j, _) :: numD (n + 1) r) _ = _
    by_cases e : j = i
    · subst e
      rw [valV_pos rfl, if_pos (List.mem_cons_self ..), List.idxOf_cons_self]
      rfl
    · rw [valV_neg (by simpa using e), numD_int r (n + 1) i]
      have e' : ¬ i = j := fun z => e z.symm
      by_cases m : i ∈ r
      · rw [if_pos m, if_pos (List.mem_cons_of_mem _ m), List.idxOf_cons, (by simpa using e : (j == i) = false), cond_false]
        congr 2
        omega
      · rw [if_neg m, if_neg]
        intro z
        rcases List.mem_cons.mp z with z | z
        · exact e' z
        · exact m z
theorem numD_put {o : List Int} {i : Int} (h : i ∉ o) : putK (numD 0 o) (.inl i) (.int ((o.length : Nat) : Int)) = numD 0 (o ++ [i]) := by
  have h1 : valV (numD 0 o) (.inl i) = none := by rw [numD_int, if_neg h]
  unfold putK
  rw [if_neg, numD_app, Nat.zero_add]
  intro z
  obtain ⟨⟨k, w⟩, hx, e⟩ := List.any_eq_true.mp z
  unfold valV at h1
  cases q : (numD 0 o).find? fun kv => decide (kv.1 = Sum.inl i) with
  | none =>
    have := List.find?_eq_none.mp q _ hx
    exact this e
  | some y => rw [q] at h1; cases h1
/-- base.get(base, base) -/
theorem numD_get (A : List Kd) {k : Kd} (h : k ∈ A) : ((valV (numD 0 (ordK A)) k.2).getD (kV k.2)) = kV (numK (ordK A) k).2 := by
  unfold numK
  cases e : k.2 with
  | inr s => rw [numD_str]; rfl
  | inl i =>
    obtain ⟨j, hj⟩ := List.mem_iff_getElem?.mp h
    have m : i ∈ ordK A := by
      have e1 : A.take (j + 1) = A.take j ++ [k] := by rw [List.take_add_one, hj]; rfl
      have e2 : ordK A = (A.drop (j + 1)).foldl addB (ordK (A.take (j + 1))) := by
        unfold ordK
        rw [← List.foldl_append, List.take_append_drop]
      obtain ⟨t, g⟩ := fold_pre (A.drop (j + 1)) (ordK (A.take (j + 1)))
      rw [e2, g, e1, ordK_snoc]
      exact List.mem_append_left _ (addB_mem e)
    rw [numD_int, if_pos m, Nat.zero_add]
    rfl
/-! ### what is an instance -/
def okI (A B : List Kd) (n : Nat) : Prop := ∀ a b, A[n]? = some a → B[n]? = some b → match b.2 with
  | .inr _ => a = b
  | .inl _ => b.1 ≤ a.1 ∧ ∀ j < n, ∀ c d, A[j]? = some c → B[j]? = some d → d.2 = b.2 → c.1 - d.1 = a.1 - b.1 ∧ c.2 = a.2
def Inst (A B : List Kd) : Prop := A.length = B.length ∧ ∀ n, n < B.length → okI A B n
/-! ### types in the heap -/
def OkB (k : Key) : Prop := ∀ s, k = .inr s → PyData.canLay0 (.str s) = true
def KAt (H : Hp) (v : V) (k : Kd) : Prop := ∃ a, v = .ref a ∧ H a = some (.tup [.int k.1, kV k.2]) ∧ OkB k.2
theorem OkB.num {o : List Int} {k : Kd} (h : OkB k.2) : OkB (numK o k).2 := by
  unfold numK
  cases e : k.2 with
  | inl i => exact fun s z => by cases z
  | inr s => exact fun t z => h t (by rw [e]; exact z)
inductive KL (H : Hp) : List V → List Kd → Prop
  | nil : KL H [] []
  | cons {v : V} {vs : List V} {k : Kd} {ks : List Kd} : KAt H v k → KL H vs ks → KL H (v :: vs) (k :: ks)
def Tups (H H' : Hp) : Prop := ∀ a xs, H a = some (.tup xs) → H' a = some (.tup xs)
theorem _root_.L2.Same.tups {H H' : Hp} (s : Same H H') : Tups H H' := fun a _ h => s a _ h
theorem Tups.trans {H H1 H2 : Hp} (a : Tups H H1) (b : Tups H1 H2) : Tups H H2 := fun c x h => b c x (a c x h)
theorem KAt.mono {H H' : Hp} {v : V} {k : Kd} (h : KAt H v k) (s : Tups H H') : KAt H' v k := by
  obtain ⟨a, rfl, e, g⟩ := h
  exact ⟨a, rfl, s _ _ e, g⟩
theorem KL.mono {H H' : Hp} {vs : List V} {ks : List Kd} (h : KL H vs ks) (s : Tups H H') : KL H' vs ks := by
  induction h with
  | nil => exact .nil
  | cons a _ ih => exact .cons (a.mono s) ih
theorem KL.len {H : Hp} {vs : List V} {ks : List Kd} (h : KL H vs ks) : vs.length = ks.length := by
  induction h with
  | nil => rfl
  | cons _ _ ih => simp [ih]
theorem KL.app {H : Hp} {vs us : List V} {ks ls : List Kd} (h : KL H vs ks) (g : KL H us ls) : KL H (vs ++ us) (ks ++ ls) := by
  induction h with
  | nil => exact g
  | cons a _ ih => exact .cons a ih
theorem KL.snoc {H : Hp} {vs : List V} {v : V} {ks : List Kd} {k : Kd} (h : KL H vs ks) (g : KAt H v k) : KL H (vs ++ [v]) (ks ++ [k]) := h.app (.cons g .nil)
theorem KL.at {H : Hp} {vs : List V} {ks : List Kd} (h : KL H vs ks) {i : Nat} {v : V} (e : vs[i]? = some v) : ∃ k, ks[i]? = some k ∧ KAt H v k := by
  induction h generalizing i with
  | nil => simp at e
  | @cons u us k ks a _ ih =>
    cases i with
    | zero => simp at e; subst e; exact ⟨k, rfl, a⟩
    | succ i => simpa using ih (by simpa using e)
theorem KL.get {H : Hp} {vs : List V} {ks : List Kd} (h : KL H vs ks) {i : Nat} (hi : i < ks.length) : ∃ v k, vs[i]? = some v ∧ ks[i]? = some k ∧ KAt H v k := by
  have hv : i < vs.length := by rw [h.len]; exact hi
  obtain ⟨k, hk, a⟩ := h.at (List.getElem?_eq_getElem hv)
  exact ⟨_, k, List.getElem?_eq_getElem hv, hk, a⟩
/-- a list's last item and what is before it -/
theorem KL.split {H : Hp} {vs : List V} {ks : List Kd} {k : Kd} (h : KL H vs (ks ++ [k])) : ∃ us v, vs = us ++ [v] ∧ KL H us ks ∧ KAt H v k := by
  induction ks generalizing vs with
  | nil =>
    cases h with
    | cons a r => cases r; exact ⟨[], _, rfl, .nil, a⟩
  | cons j ks ih =>
    cases h with
    | cons a r =>
      obtain ⟨us, v, rfl, g, b⟩ := ih r
      exact ⟨_ :: us, v, rfl, .cons a g, b⟩
/-- a pair of arguments and a result -/
def Row (H : Hp) (v : V) (B : List Kd) : Prop := ∃ (a p : Addr) (r : V) (xs : List V) (A : List Kd) (k : Kd), v = .ref a ∧ B = A ++ [k] ∧ H a = some (.tup [.ref p, r]) ∧ H p = some (.tup xs) ∧ KL H xs A ∧ KAt H r k
theorem Row.mono {H H' : Hp} {v : V} {B : List Kd} (h : Row H v B) (s : Tups H H') : Row H' v B := by
  obtain ⟨a, p, r, xs, A, k, e1, e2, e3, e4, e5, e6⟩ := h
  exact ⟨a, p, r, xs, A, k, e1, e2, s _ _ e3, s _ _ e4, e5.mono s, e6.mono s⟩
theorem tyI {K : PySem.W.Frag} {H : Hp} (k : Key) : ∃ T b, TyX K H (kV k) (.type T) ∧ kitB T "int" = some b ∧ b = k.isLeft := by
  cases k with
  | inl i => exact ⟨"int", true, .base (.int i), by decide +kernel, rfl⟩
  | inr s => exact ⟨"str", false, .base (.str s), by decide +kernel, rfl⟩
end Q10
namespace Q10
open PySem PySem.Spec PyProof.Rows L2 SX HL
theorem kept_tups {H H' : Hp} {N : Addr} (s : Kept H H' N) (h : ∀ xs, H N ≠ some (.tup xs)) : Tups H H' := fun a xs e => s a _ (fun z => h xs (by rw [← z]; exact e)) e
theorem small' {n : Nat} (us : List V) (h : us.length = n) (g : n ≤ 1000) : us.length < sizeLine := Nat.lt_of_le_of_lt (by rw [h]; exact g) (by decide)
theorem cutV_front (xs : List V) (v : V) : cutV (xs ++ [v]) none (some (-1)) = xs := by
  unfold cutV
  have h2 : HT.sIx (xs ++ [v]).length (xs ++ [v]).length (some (-1)) = xs.length := by
    show (if (-1 : Int) < 0 then ((-1 : Int) + ((xs ++ [v]).length : Int)).toNat else min (-1 : Int).toNat (xs ++ [v]).length) = xs.length
    rw [if_pos (by decide)]
    simp
    omega
  rw [h2, HT.sIx_none]
  simp
theorem cutV_pre (xs : List V) (v : V) : cutV (xs ++ [v]) none (some ((xs.length : Nat) : Int)) = xs := by
  unfold cutV
  rw [HT.sIx_nat, HT.sIx_none]
  simp
section
variable {P : Program} {w : World} {K : PySem.W.Frag} {mg : Str → Option Value} {base : Heap}
def spScheme : Sp := fun vs H Q _ => ∃ (p : Addr) (xs : List V) (r : V) (A : List Kd) (k : Kd), vs = [.ref p, r] ∧ H p = some (.tup xs) ∧ KL H xs A ∧ KAt H r k ∧ A.length ≤ 100 ∧ ∀ H' v, Same H H' → Row H' v (schK (A ++ [k])) → Q v H'
theorem ok_scheme {f : Addr} {fd : FuncData} {n : Nat} (D : DefN K mg "scheme" sScheme ["arguments", "result"] f fd) (T : Txt mg) : FnOk P w K mg base CX0 (n + 1) f fd ["arguments", "result"] spScheme := by
  refine D.F.ok scScheme (fun vs H Q E h => ?_) (fun cdv A outer s H vs Q E hr h => ?_)
  · obtain ⟨p, xs, r, A, k, rfl, _⟩ := h
    rfl
  · obtain ⟨p, xs, r, A, k, rfl, hp, hl, hk, hn, qq⟩ := h
    refine ⟨_, (pss_cons (ps_set (i := 2) scScheme.nd rfl (.inr rfl) pe_dnewK)
        (pss_cons (ps_for PassesOwn.never rfl (pi_tup (pe_tup (StX.pa_star (pv 0) (pa_cons (pv 1) pa_nil)))) (pg_tup rfl (pgs_cons (pg_name (i := 3) scScheme.nd rfl (.inl rfl)) (pgs_cons (pg_name (i := 4) scScheme.nd rfl (.inl rfl)) pgs_nil))) (pss_one (ps_if (PW.pt (pw_and (pt_val (pe_callB call_isB (by rfl) T.isinstance HL.boot_isinstance (pa_cons (pv 4) (pa_cons (pe_bltn (v := .ty "int") (by rfl) T.int HL.boot_int rfl) pa_nil)))) (pw_and1 (pt_cmp (pc_dnotin (hu_of hr) (pv 4) (pv 2)))))) (pss_one (ps_dput (hu_of hr) (pv 2) (pv 4) (pe_callB call_lenD (by rfl) T.len PySem.boot_len (pa_cons (pv 2) pa_nil)) rfl)) pss_nil)))
        (pss_cons (ps_setLc (i := 5) (own := [("levels", 6), ("base", 4)]) (g := (gTup K 2 (gCons (gName 6) (gCons (gName 4) gNil)))) (by rfl) scScheme.nd rfl rfl (sw_true rfl rfl rfl (by decide +kernel)) (pi_tup (pe_tup (StX.pa_star (pv 0) (pa_cons (pv 1) pa_nil)))) (blkOk_by (own := [("levels", 6), ("base", 4)]) (N := ["arguments", "result", "numbers", "_", "base", "numbered", "levels"]) (sc := defScope sScheme) (by decide +kernel)) (fun _ _ _ _ _ => (pg_tup rfl (pgs_cons (pg_name (i := 6) scScheme.nd rfl (.inl rfl)) (pgs_cons (pg_name (i := 4) scScheme.nd rfl (.inl rfl)) pgs_nil)))) (fun _ _ _ _ _ => pts_nil) (fun _ _ _ _ _ => (pe_tup (pa_cons (pv 6) (pa_cons (pe_dget2 (hu_of hr) (pv 2) (pv 4) (pv 4) ⟨rfl, rfl, rfl, rfl⟩) pa_nil)))))
        (pss_one (ps_ret (pe_tup (pa_cons (pe_callTy call_tuple_of (by rfl) T.tuple HL.boot_tuple (pa_cons (pe_slice sl_list (pv 5) po_none (po_some (pe_un un_neg pe_int))) pa_nil)) (pa_cons (pe_ix ix_list (pv 5) (pe_un un_neg pe_int) (fun _ _ => rfl)) pa_nil)))))))), ?_⟩
    have hB := hl.snoc hk
    have hlen := hB.len
    have hys : (xs ++ [r]).length ≤ sizeLine := small _ (by rw [hlen]; simp; omega)
    refine fun N hN => ?_
    refine ⟨_, rfl, p, xs, rfl, .inl (SqT.of (same_upd hN _ _ hp)), _, rfl, hys, fun t ht => ⟨t, rfl, ⟨_, SqT.of upd_same⟩, ?_⟩⟩
    have nNt : N ≠ t := ne_of_none upd_same ht
    have s1 : Same H (upd (upd H N (.dK [])) t (.tup (xs ++ [r]))) := (same_upd hN).trans (same_upd ht)
    have eN : (upd (upd H N (.dK [])) t (.tup (xs ++ [r]))) N = some (.dK []) := by rw [upd_ne nNt, upd_same]
    have et : (upd (upd H N (.dK [])) t (.tup (xs ++ [r]))) t = some (.tup (xs ++ [r])) := upd_same
    revert s1 eN et
    generalize upd (upd H N (.dK [])) t (.tup (xs ++ [r])) = H1
    intro s1 eN et
    have noT : ∀ zs, H1 N ≠ some (.tup zs) := fun zs z => by rw [eN] at z; cases z
    have hB1 := hB.mono s1.tups
    generalize eB : A ++ [k] = B at hB hB1 hlen qq
    have bl : B.length ≤ 101 := by rw [← eB]; simp; omega
    refine for_tup (xs := xs ++ [r]) (fun i σ H' => ∃ y3 y4, σ = [some (.ref p), some r, some (.ref N), y3, y4, none, none] ∧ Kept H1 H' N ∧ H' N = some (.dK (numD 0 (ordK (B.take i))))) ⟨none, none, rfl, Kept.refl, eN⟩ (fun i σ H' _ q => ?_) ?_ ?_
    · obtain ⟨_, _, _, kp, _⟩ := q
      exact SqT.of (kept_tups kp noT _ _ et)
    · rintro i x σ H' hx ⟨y3, y4, rfl, kp, hN'⟩
      obtain ⟨kd, hkd, a, rfl, ha, okb⟩ := (hB1.mono (kept_tups kp noT)).at hx
      have eT : B.take (i + 1) = B.take i ++ [kd] := by rw [List.take_add_one, hkd]; rfl
      have ol : (ordK (B.take i)).length ≤ 1000 := by
        have : ∀ (C : List Kd), (ordK C).length ≤ C.length := fun C => by
          have g : ∀ (C : List Kd) (o : List Int), (C.foldl addB o).length ≤ o.length + C.length := by
            intro C
            induction C with
            | nil => intro o; simp
            | cons c C ih =>
              intro o
              have h1 := ih (addB o c)
              have h2 : (addB o c).length ≤ o.length + 1 := by
                unfold addB
                split
                · split
                  · omega
                  · simp
                · omega
              simp only [List.foldl_cons, List.length_cons]
              omega
          have := g C []
          simpa [ordK] using this
        have h1 := this (B.take i)
        rw [List.length_take] at h1
        omega
      refine ⟨a, _, rfl, SqT.of ha, rfl, _, _, rfl, _, _, rfl, rfl, ?_⟩
      cases e : kd.2 with
      | inr s =>
        refine ⟨_, rfl, _, "str", "int", false, rfl, .base (.str s), by decide +kernel, false, rfl, iteF (iteF ?_)⟩
        refine ⟨_, _, rfl, kp, ?_⟩
        rw [eT, ordK_snoc, hN']
        unfold addB
        rw [e]
      | inl j =>
        refine ⟨_, rfl, _, "int", "int", true, rfl, .base (.int j), by decide +kernel, true, rfl, iteT ?_⟩
        refine ⟨_, rfl, _, rfl, N, _, rfl, DGet.k (k := .inl j) hN', _, rfl, ?_⟩
        rw [numD_int]
        by_cases m : j ∈ ordK (B.take i)
        · rw [if_pos m]
          refine iteF ⟨_, _, rfl, kp, ?_⟩
          rw [eT, ordK_snoc, hN']
          unfold addB
          rw [e]
          dsimp only
          rw [if_pos m]
        · rw [if_neg m]
          refine iteT ⟨_, rfl, N, _, rfl, hN', _, rfl, _, rfl, N, _, rfl, DPut.k (k := .inl j) hN' (Nat.lt_of_le_of_lt (by rw [numD_len]; exact ol) (by decide)), _, _, rfl, fun b o hb hbo => ?_, ?_⟩
          · rw [upd_ne hb]; exact kp b o hb hbo
          · rw [upd_same, numD_len, numD_put m, eT, ordK_snoc]
            unfold addB
            rw [e]
            dsimp only
            rw [if_neg m]
    · rintro σ H2 ⟨y3, y4, rfl, kp, hN2⟩
      rw [List.take_of_length_le (by rw [hlen]; exact Nat.le_refl _)] at hN2
      have t2 := kept_tups kp noT
      have pN : p ≠ N := ne_of_none hp hN
      have hB2 := hB1.mono t2
      refine ⟨_, rfl, p, xs, rfl, .inl (SqT.of (t2 _ _ (s1 _ _ hp))), _, rfl, hys, fun t' ht' => ⟨t', rfl, ⟨_, SqT.of upd_same⟩, fun D0 hD => ?_⟩⟩
      have nNt2 : N ≠ t' := ne_of_none hN2 ht'
      have nND : N ≠ D0 := ne_of_none (by rw [upd_ne nNt2]; exact hN2) hD
      have s2 : Same H2 (upd (upd H2 t' (.tup (xs ++ [r]))) D0 (.lst [])) := (same_upd ht').trans (same_upd hD)
      have e2 : (upd (upd H2 t' (.tup (xs ++ [r]))) D0 (.lst [])) t' = some (.tup (xs ++ [r])) := same_upd hD _ _ upd_same
      have e3 : (upd (upd H2 t' (.tup (xs ++ [r]))) D0 (.lst [])) D0 = some (.lst []) := upd_same
      have hDH : H2 D0 = none := (same_upd ht').free hD
      obtain ⟨H3, eH⟩ : ∃ H3, H3 = upd (upd H2 t' (.tup (xs ++ [r]))) D0 (.lst []) := ⟨_, rfl⟩
      rw [← eH] at s2 e2 e3
      have noL : ∀ zs, H3 D0 ≠ some (.tup zs) := fun zs z => by rw [e3] at z; cases z
      have hB3 := hB2.mono s2.tups
      refine lc_tup (xs := xs ++ [r]) (fun i H' => Kept H3 H' D0 ∧ ∃ us, H' D0 = some (.lst us) ∧ us.length = i ∧ KL H' us ((B.map (numK (ordK B))).take i)) (by rw [← eH]; exact ⟨Kept.refl, [], e3, rfl, .nil⟩) (fun i H' _ q => SqT.of (kept_tups q.1 noL _ _ e2)) ?_ ?_
      · rintro i x H' hx ⟨kp2, us, hus, hul, hkl⟩
        have t3 := kept_tups kp2 noL
        obtain ⟨kd, hkd, a, rfl, ha, okb⟩ := (hB3.mono t3).at hx
        have ib : i < B.length := (List.getElem?_eq_some_iff.mp hkd).1
        have hN4 : H' N = some (.dK (numD 0 (ordK B))) := kp2 _ _ nND (s2 _ _ hN2)
        refine ⟨a, _, rfl, SqT.of ha, rfl, _, _, rfl, _, _, rfl, rfl, rfl, lc_yes ?_⟩
        refine ⟨_, rfl, _, rfl, N, rfl, .inl ⟨_, .inl hN4⟩, _, rfl, _, rfl, _, DGet.k hN4, (by show 2 ≤ sizeLine; decide), fun q hq => ⟨us, same_upd hq _ _ hus, small' us hul (by omega), ?_⟩⟩
        have nDq : D0 ≠ q := ne_of_none hus hq
        refine ⟨kp2.trans ((same_upd hq).kept D0 |>.trans but_upd.kept), _, upd_same, by simp [hul], ?_⟩
        rw [List.take_add_one, List.getElem?_map, hkd]
        have tt : Tups H' (upd (upd H' q (.tup [.int kd.1, ((valV (numD 0 (ordK B)) kd.2).getD (kV kd.2))])) D0 (.lst (us ++ [.ref q]))) := (same_upd hq).tups.trans (kept_tups but_upd.kept fun zs z => by rw [upd_ne nDq, hus] at z; cases z)
        refine KL.snoc (hkl.mono tt) ⟨q, rfl, ?_, okb.num⟩
        rw [upd_ne nDq.symm, upd_same, numD_get B (List.mem_of_getElem? hkd)]
        rfl
      · rintro H4 ⟨kp2, us, hus, hul, hkl⟩
        rw [List.take_of_length_le (by rw [List.length_map, hlen]; exact Nat.le_refl _), ← eB, List.map_append] at hkl
        obtain ⟨zs, v, rfl, g1, g2⟩ := hkl.split
        refine ⟨_, rfl, _, rfl, _, rfl, D0, _, rfl, SqL.of hus, fun q hq => ⟨q, _, rfl, .inl ⟨SqL.of upd_same, fun l hl => ?_⟩⟩⟩
        have nDq : D0 ≠ q := ne_of_none hus hq
        have hus2 : (upd (upd H4 q (.lst (cutV (zs ++ [v]) none (some (-1))))) l (.tup (cutV (zs ++ [v]) none (some (-1))))) D0 = some (.lst (zs ++ [v])) := same_upd hl _ _ (same_upd hq _ _ hus)
        refine ⟨_, rfl, _, rfl, D0, _, _, _, rfl, rfl, SqL.of hus2, atI_last _ _, (by show 2 ≤ sizeLine; decide), fun z hz => qq _ _ ?_ ?_⟩
        · have sL := (same_upd (o := .lst (cutV (zs ++ [v]) none (some (-1)))) hq).trans ((same_upd (o := .tup (cutV (zs ++ [v]) none (some (-1)))) hl).trans (same_upd (o := .tup [.ref l, v]) hz))
          refine fun b o hb => sL _ _ ?_
          have h2 := kp _ _ (ne_of_none hb hN) (s1 _ _ hb)
          exact kp2 _ _ (ne_of_none h2 hDH) (s2 _ _ h2)
        · have sL := (same_upd (o := .lst (cutV (zs ++ [v]) none (some (-1)))) hq).trans ((same_upd (o := .tup (cutV (zs ++ [v]) none (some (-1)))) hl).trans (same_upd (o := .tup [.ref l, v]) hz))
          refine ⟨z, l, v, zs, A.map (numK (ordK B)), numK (ordK B) k, rfl, ?_, upd_same, ?_, by rw [← eB]; exact g1.mono sL.tups, by rw [← eB]; exact g2.mono sL.tups⟩
          · unfold schK
            rw [← eB, List.map_append]
            rfl
          · have := same_upd (o := .tup [.ref l, v]) hz l _ upd_same
            exact this.trans (by rw [cutV_front])
end
end Q10
namespace Q10
open PySem PySem.Spec PyProof.Rows L2 SX HL
section
variable {P : Program} {w : World} {K : PySem.W.Frag} {mg : Str → Option Value} {base : Heap}
/-! ### is_replaced -/
def kD : Key → PyData
  | .inl i => .int i
  | .inr s => .str s
theorem dpK {H : Hp} (k : Key) : Dp K H (kV k) (kD k) := by
  cases k with
  | inl i => exact .int i
  | inr s => exact .str s
theorem KAt.okB {H : Hp} {v : V} {k : Kd} (h : KAt H v k) : OkB k.2 := by
  obtain ⟨_, _, _, g⟩ := h
  exact g
theorem KAt.dp {H : Hp} {v : V} {k : Kd} (h : KAt H v k) : Dp K H v (.tuple [.int k.1, kD k.2]) := by
  obtain ⟨a, rfl, e, _⟩ := h
  exact .tup (SqT.of e) (.cons (.int _) (.cons (dpK _) .nil))
theorem kD_shaped (i : Int) {k : Key} (h : OkB k) : SeqAt.shaped (.tuple [.int i, kD k]) = true := by
  cases k with
  | inl i => rfl
  | inr s =>
    have e := h s rfl
    simp [SeqAt.shaped, PyData.canLay0, PyData.canLayAll0, kD, PyData.depth, PyData.depthAll] at e ⊢
    exact e
theorem kD_eqv (a b : Kd) : PyData.eqv (.tuple [.int a.1, kD a.2]) (.tuple [.int b.1, kD b.2]) = decide (a = b) := by
  obtain ⟨i, x⟩ := a
  obtain ⟨j, y⟩ := b
  rw [Bool.eq_iff_iff, decide_eq_true_iff]
  cases x <;> cases y <;> simp [PyData.eqv, PyData.eqvAll, kD]
/-- the dict found: for each variable a type -/
def FD (H : Hp) (f : Addr) (fs : List (Int × Kd)) : Prop := ∃ vs : List V, H f = some (.dK ((fs.map fun p => (Sum.inl p.1 : Key)).zip vs)) ∧ KL H vs (fs.map (·.2))
def look (fs : List (Int × Kd)) (i : Int) : Option Kd := (fs.find? fun p => decide (p.1 = i)).map (·.2)
/-- what is_replaced tells, and what is noted then -/
def repK (k p : Kd) (fs : List (Int × Kd)) : Bool × List (Int × Kd) := match p.2 with
  | .inr _ => (decide (k = p), fs)
  | .inl b => if k.1 < p.1 then (false, fs) else match look fs b with
    | some u => (decide (u = (k.1 - p.1, k.2)), fs)
    | none => (true, fs ++ [(b, (k.1 - p.1, k.2))])
def spRep : Sp := fun vs H Q _ => ∃ (v u : V) (f : Addr) (k p : Kd) (fs : List (Int × Kd)), vs = [v, u, .ref f] ∧ KAt H v k ∧ KAt H u p ∧ FD H f fs ∧ fs.length ≤ 1000 ∧
  ∀ H', Kept H H' f → FD H' f (repK k p fs).2 → Q (.bl (repK k p fs).1) H'
theorem FD.dget {H : Hp} {fs : List (Int × Kd)} {vs : List V} (h : KL H vs (fs.map (·.2))) (i : Int) : (look fs i = none ∧ valV ((fs.map fun p => (Sum.inl p.1 : Key)).zip vs) (.inl i) = none) ∨ ∃ u v, look fs i = some u ∧ valV ((fs.map fun p => (Sum.inl p.1 : Key)).zip vs) (.inl i) = some v ∧ KAt H v u := by
  induction fs generalizing vs with
  | nil => exact .inl ⟨rfl, rfl⟩
  | cons q fs ih =>
    cases h with
    | @cons v vs _ _ a r =>
      by_cases e : q.1 = i
      · refine .inr ⟨q.2, v, ?_, ?_, a⟩
        · simp [look, List.find?_cons, e]
        · show valV ((Sum.inl q.1, v) :: _) _ = _
          exact valV_pos (by rw [e])
      · have e1 : look (q :: fs) i = look fs i := by simp [look, List.find?_cons, e]
        have e2 : valV (((q :: fs).map fun p => (Sum.inl p.1 : Key)).zip (v :: vs)) (.inl i) = valV ((fs.map fun p => (Sum.inl p.1 : Key)).zip vs) (.inl i) := by
          show valV ((Sum.inl q.1, v) :: _) _ = _
          exact valV_neg (by simpa using e)
        rw [e1, e2]
        exact ih r
theorem putK_none {kvs : List (Key × V)} {k : Key} {v : V} (h : valV kvs k = none) : putK kvs k v = kvs ++ [(k, v)] := by
  unfold putK
  rw [if_neg]
  intro z
  obtain ⟨⟨k', w⟩, hx, e⟩ := List.any_eq_true.mp z
  unfold valV at h
  cases q : kvs.find? fun kv => decide (kv.1 = k) with
  | none => exact List.find?_eq_none.mp q _ hx e
  | some y => rw [q] at h; cases h
theorem ok_rep {f : Addr} {fd : FuncData} {n : Nat} (D : DefN K mg "is_replaced" sIsReplaced ["kind", "pattern", "found"] f fd) (T : Txt mg) : FnOk P w K mg base CX0 (n + 1) f fd ["kind", "pattern", "found"] spRep := by
  refine D.F.ok scIsReplaced (fun vs H Q E h => ?_) (fun cdv A outer s H vs Q E hr h => ?_)
  · obtain ⟨v, u, f, k, p, fs, rfl, _⟩ := h
    rfl
  · obtain ⟨v, u, f, k, p, fs, rfl, hk, hp, hf, hn, qq⟩ := h
    refine ⟨_, (pss_cons (ps_asg (pv 1) (pg_tup rfl (pgs_cons (pg_name (i := 3) scIsReplaced.nd rfl (.inl rfl)) (pgs_cons (pg_name (i := 4) scIsReplaced.nd rfl (.inl rfl)) pgs_nil))))
        (pss_cons (ps_if (pt_not (pt_val (pe_callB call_isB (by rfl) T.isinstance HL.boot_isinstance (pa_cons (pv 4) (pa_cons (pe_bltn (v := .ty "int") (by rfl) T.int HL.boot_int rfl) pa_nil))))) (pss_one (ps_ret (pe_cmpR (op_eqD hr.units) (pv 0) (pv 1) (nomark _)))) pss_nil)
        (pss_cons (ps_if (pt_cmpR op_lt (pe_ix ix_tup (pv 0) pe_int (fun _ _ => rfl)) (pv 3) (nomark _)) (pss_one (ps_ret pe_bl)) pss_nil)
        (pss_cons (ps_set (i := 5) scIsReplaced.nd rfl (.inl rfl) (pe_tup (pa_cons (pe_op op_sub (pe_ix ix_tup (pv 0) pe_int (fun _ _ => rfl)) (pv 3)) (pa_cons (pe_ix ix_tup (pv 0) pe_int (fun _ _ => rfl)) pa_nil))))
        (pss_one (ps_ret (pe_cmpR (op_eqD hr.units) (pe_dsetd (pv 2) (pv 4) (pv 5) ⟨rfl, rfl, rfl, rfl⟩) (pv 5) (nomark _)))))))), ?_⟩
    obtain ⟨a, rfl, ha, oka⟩ := id hk
    obtain ⟨b, rfl, hb, okb⟩ := id hp
    refine ⟨_, rfl, b, _, rfl, SqT.of hb, rfl, _, _, rfl, _, _, rfl, rfl, ?_⟩
    cases e : p.2 with
    | inr s =>
      refine ⟨_, rfl, _, "str", "int", false, rfl, .base (.str s), by decide +kernel, false, rfl, iteT ?_⟩
      refine ⟨_, rfl, _, rfl, _, _, hk.dp, hp.dp, kD_shaped _ oka, kD_shaped _ okb, ?_⟩
      rw [kD_eqv]
      have := qq H Kept.refl
      unfold repK at this
      rw [e] at this
      exact this hf
    | inl i =>
      refine ⟨_, rfl, _, "int", "int", true, rfl, .base (.int i), by decide +kernel, true, rfl, iteF ?_⟩
      refine ⟨_, rfl, a, _, _, _, rfl, rfl, SqT.of ha, rfl, _, rfl, _, _, rfl, rfl, _, rfl, ite2 (fun lt => ?_) (fun lt => ?_)⟩
      · have lt' : k.1 < p.1 := of_decide_eq_true lt
        have := qq H Kept.refl
        unfold repK at this
        rw [e] at this
        dsimp only at this
        rw [if_pos lt'] at this
        exact this hf
      · have lt' : ¬ k.1 < p.1 := fun z => lt (decide_eq_true z)
        refine ⟨_, rfl, a, _, _, _, rfl, rfl, SqT.of ha, rfl, _, rfl, _, _, rfl, rfl, _, rfl, a, _, _, _, rfl, rfl, SqT.of ha, rfl, (by show 2 ≤ sizeLine; decide), fun z hz => ?_⟩
        obtain ⟨vs, hvs, hkl⟩ := hf
        have nfz : f ≠ z := ne_of_none hvs hz
        have hvs2 := same_upd (o := .tup [.int (k.1 - p.1), kV k.2]) hz _ _ hvs
        have hzz : KAt (upd H z (.tup [.int (k.1 - p.1), kV k.2])) (.ref z) (k.1 - p.1, k.2) := ⟨z, rfl, upd_same, oka⟩
        have hkl2 := hkl.mono (same_upd (o := .tup [.int (k.1 - p.1), kV k.2]) hz).tups
        have ln : ((fs.map fun p => (Sum.inl p.1 : Key)).zip vs).length ≤ 1000 := by
          rw [List.length_zip, List.length_map]
          omega
        refine ⟨_, rfl, f, rfl, .inl ⟨_, .inl hvs2⟩, _, rfl, _, rfl, _, .inl i, hvs2, rfl, Nat.lt_of_le_of_lt ln (by decide), ?_, ?_⟩
        · intro v0 hv0
          rcases FD.dget hkl2 i with ⟨_, h2⟩ | ⟨u, v, h1, h2, hu⟩
          · rw [h2] at hv0; cases hv0
          · rw [h2] at hv0
            cases hv0
            refine ⟨_, rfl, _, _, hu.dp, hzz.dp, kD_shaped _ hu.okB, kD_shaped _ oka, ?_⟩
            have e3 := kD_eqv u (k.1 - p.1, k.2)
            rw [e3]
            have := qq _ ((same_upd (o := .tup [.int (k.1 - p.1), kV k.2]) hz).kept f)
            unfold repK at this
            rw [e] at this
            dsimp only at this
            rw [if_neg lt', h1] at this
            exact this ⟨vs, hvs2, hkl2⟩
        · intro hv0
          rcases FD.dget hkl2 i with ⟨h1, h2⟩ | ⟨u, v, h1, h2, hu⟩
          · rw [putK_none h2]
            have tt : Tups (upd H z (.tup [.int (k.1 - p.1), kV k.2])) (upd (upd H z (.tup [.int (k.1 - p.1), kV k.2])) f (.dK ((fs.map fun p => (Sum.inl p.1 : Key)).zip vs ++ [(.inl i, .ref z)]))) := kept_tups but_upd.kept fun zs zz => by rw [hvs2] at zz; cases zz
            refine ⟨_, rfl, _, _, (hzz.mono tt).dp, (hzz.mono tt).dp, kD_shaped _ oka, kD_shaped _ oka, ?_⟩
            have e3 := kD_eqv (k.1 - p.1, k.2) (k.1 - p.1, k.2)
            rw [e3, decide_eq_true rfl]
            have := qq _ (((same_upd (o := .tup [.int (k.1 - p.1), kV k.2]) hz).kept f).trans (but_upd (o := .dK ((fs.map fun p => (Sum.inl p.1 : Key)).zip vs ++ [(.inl i, .ref z)]))).kept)
            unfold repK at this
            rw [e] at this
            dsimp only at this
            rw [if_neg lt', h1] at this
            refine this ⟨vs ++ [.ref z], ?_, ?_⟩
            · rw [upd_same, List.map_append, List.zip_append (by rw [List.length_map, hkl.len, List.length_map])]
              rfl
            · rw [List.map_append]
              exact (hkl2.mono tt).snoc (hzz.mono tt)
          · rw [h2] at hv0; cases hv0
end
end Q10
namespace Q10
open PySem PySem.Spec PyProof.Rows L2 SX HL
/-! ### is_instance: what is noted and what is asked -/
/-- what is noted after the first n pairs that are right -/
def Noted (A B : List Kd) (n : Nat) (fs : List (Int × Kd)) : Prop :=
  fs.length ≤ n ∧ (∀ b u, look fs b = some u → ∃ j < n, ∃ c d, A[j]? = some c ∧ B[j]? = some d ∧ d.2 = .inl b ∧ u = (c.1 - d.1, c.2)) ∧
  ∀ j < n, ∀ c d b, A[j]? = some c → B[j]? = some d → d.2 = .inl b → look fs b = some (c.1 - d.1, c.2)
theorem Noted.nil (A B : List Kd) : Noted A B 0 [] := ⟨Nat.le_refl _, fun b u h => (by cases h), fun j h => absurd h (Nat.not_lt_zero _)⟩
theorem look_snoc {fs : List (Int × Kd)} {b i : Int} {u : Kd} (h : look fs b = none) : look (fs ++ [(b, u)]) i = if i = b then some u else look fs i := by
  unfold look at *
  rw [List.find?_append]
  by_cases e : i = b
  · subst e
    rw [if_pos rfl]
    cases q : fs.find? fun p => decide (p.1 = i) with
    | some x => rw [q] at h; cases h
    | none => simp
  · rw [if_neg e]
    have e' : ¬ b = i := fun z => e z.symm
    simp [e']
theorem noted_step {A B : List Kd} {n : Nat} {fs : List (Int × Kd)} {a b : Kd} (h : Noted A B n fs) (ha : A[n]? = some a) (hb : B[n]? = some b) :
    ((repK a b fs).1 = true → okI A B n ∧ Noted A B (n + 1) (repK a b fs).2) ∧ ((repK a b fs).1 = false → ¬ okI A B n) := by
  obtain ⟨hl, h1, h2⟩ := h
  unfold repK okI
  cases e : b.2 with
  | inr s =>
    dsimp only
    refine ⟨fun q => ⟨fun a' b' ea eb => ?_, by omega, fun c u g => ?_, fun j hj c d i hc hd hdi => ?_⟩, fun q z => ?_⟩
    · rw [ha] at ea
      rw [hb] at eb
      cases ea
      cases eb
      rw [e]
      exact of_decide_eq_true q
    · obtain ⟨j, hj, r⟩ := h1 c u g
      exact ⟨j, by omega, r⟩
    · rcases Nat.lt_or_ge j n with g | g
      · exact h2 j g c d i hc hd hdi
      · have : j = n := by omega
        subst this
        rw [hb] at hd
        cases hd
        rw [e] at hdi
        cases hdi
    · have := z a b ha hb
      rw [e] at this
      exact of_decide_eq_false q this
  | inl i =>
    dsimp only
    by_cases lt : a.1 < b.1
    · rw [if_pos lt]
      refine ⟨fun q => (Bool.noConfusion q), fun _ z => ?_⟩
      have := z a b ha hb
      rw [e] at this
      have := this.1
      omega
    rw [if_neg lt]
    cases q : look fs i with
    | none =>
      dsimp only
      refine ⟨fun _ => ⟨fun a' b' ea eb => ?_, ?_, fun c u g => ?_, fun j hj c d x hc hd hdx => ?_⟩, fun z => Bool.noConfusion z⟩
      · rw [ha] at ea
        rw [hb] at eb
        cases ea
        cases eb
        rw [e]
        refine ⟨by omega, fun j hj c d hc hd hdi => ?_⟩
        have := h2 j hj c d i hc hd hdi
        rw [q] at this
        cases this
      · simp
        omega
      · rw [look_snoc q] at g
        by_cases ec : c = i
        · rw [if_pos ec] at g
          cases g
          exact ⟨n, by omega, a, b, ha, hb, by rw [e, ec], rfl⟩
        · rw [if_neg ec] at g
          obtain ⟨j, hj, r⟩ := h1 c u g
          exact ⟨j, by omega, r⟩
      · rw [look_snoc q]
        rcases Nat.lt_or_ge j n with g | g
        · have := h2 j g c d x hc hd hdx
          rw [if_neg (fun z => by rw [z, q] at this; cases this)]
          exact this
        · have : j = n := by omega
          subst this
          rw [ha] at hc
          rw [hb] at hd
          cases hc
          cases hd
          rw [e] at hdx
          cases hdx
          rw [if_pos rfl]
    | some u =>
      dsimp only
      obtain ⟨j0, hj0, c0, d0, g1, g2, g3, g4⟩ := h1 i u q
      refine ⟨fun z => ⟨fun a' b' ea eb => ?_, by omega, fun c u g => ?_, fun j hj c d x hc hd hdx => ?_⟩, fun z w => ?_⟩
      · have z := of_decide_eq_true z
        rw [ha] at ea
        rw [hb] at eb
        cases ea
        cases eb
        rw [e]
        refine ⟨by omega, fun j hj c d hc hd hdi => ?_⟩
        have := h2 j hj c d i hc hd hdi
        rw [q] at this
        have e5 := Option.some.inj this
        rw [z] at e5
        exact ⟨(congrArg Prod.fst e5).symm, (congrArg Prod.snd e5).symm⟩
      · obtain ⟨j, hj, r⟩ := h1 c u g
        exact ⟨j, by omega, r⟩
      · have z := of_decide_eq_true z
        rcases Nat.lt_or_ge j n with g | g
        · exact h2 j g c d x hc hd hdx
        · have : j = n := by omega
          subst this
          rw [ha] at hc
          rw [hb] at hd
          cases hc
          cases hd
          rw [e] at hdx
          cases hdx
          rw [q, z]
      · have z := of_decide_eq_false z
        have w := w a b ha hb
        rw [e] at w
        obtain ⟨w1, w2⟩ := w.2 j0 hj0 c0 d0 g1 g2 g3
        exact z (by rw [g4, w1, w2])
section
variable {P : Program} {w : World} {K : PySem.W.Frag} {mg : Str → Option Value} {base : Heap}
def spInst : Sp := fun vs H Q _ => ∃ (v u : V) (A B : List Kd), vs = [v, u] ∧ Row H v A ∧ Row H u B ∧ A.length ≤ 100 ∧ B.length ≤ 100 ∧ ∀ H' b, Same H H' → (b = true ↔ Inst A B) → Q (.bl b) H'
theorem ok_inst {f fR : Addr} {fd fdR : FuncData} {n : Nat} (D : DefN K mg "is_instance" sIsInstance ["first", "second"] f fd) (T : Txt mg) (DIsReplaced : DefN K mg "is_replaced" sIsReplaced ["kind", "pattern", "found"] fR fdR) :
    FnOk P w K mg base CX0 (n + 2) f fd ["first", "second"] spInst := by
  have GIsReplaced : FnOk P w K mg base CX0 (n + 1) fR fdR ["kind", "pattern", "found"] spRep := ok_rep DIsReplaced T
  refine D.F.ok scIsInstance (fun vs H Q E h => ?_) (fun cdv A outer s H vs Q E hr h => ?_)
  · obtain ⟨v, u, A, B, rfl, _⟩ := h
    rfl
  · obtain ⟨_, _, A, B, rfl, ⟨a, p, r, xs, A1, k, rfl, rfl, ha, hp, hl, hk⟩, ⟨b, q, r2, ys, B1, k2, rfl, rfl, hb, hq, hl2, hk2⟩, bA, bB, qq⟩ := h
    refine ⟨_, (pss_cons (ps_if (pt_cmpR op_ne (pe_callB call_len_seq (by rfl) T.len PySem.boot_len (pa_cons (pe_ix ix_tup (pv 0) pe_int (fun _ _ => rfl)) pa_nil)) (pe_callB call_len_seq (by rfl) T.len PySem.boot_len (pa_cons (pe_ix ix_tup (pv 1) pe_int (fun _ _ => rfl)) pa_nil)) (nomark _)) (pss_one (ps_ret pe_bl)) pss_nil)
        (pss_cons (ps_set (i := 2) scIsInstance.nd rfl (.inl rfl) pe_dnewK)
        (pss_cons (ps_for PassesOwn.never rfl (RZ.pi_zipA (by rfl) T.zip (pa_cons (pe_tup (StX.pa_star (pe_ix ix_tup (pv 0) pe_int (fun _ _ => rfl)) (pa_cons (pe_ix ix_tup (pv 0) pe_int (fun _ _ => rfl)) pa_nil))) (pa_cons (pe_tup (StX.pa_star (pe_ix ix_tup (pv 1) pe_int (fun _ _ => rfl)) (pa_cons (pe_ix ix_tup (pv 1) pe_int (fun _ _ => rfl)) pa_nil))) pa_nil))) (pg_tup rfl (pgs_cons (pg_name (i := 3) scIsInstance.nd rfl (.inl rfl)) (pgs_cons (pg_name (i := 4) scIsInstance.nd rfl (.inl rfl)) pgs_nil))) (pss_one (ps_if (pt_not (pt_val (pe_call GIsReplaced (hr.mono (by omega)) (by rfl) DIsReplaced.g DIsReplaced.F.kp DIsReplaced.b .nil pass0 (pa_cons (pv 3) (pa_cons (pv 4) (pa_cons (pv 2) pa_nil)))))) (pss_one (ps_ret pe_bl)) pss_nil)))
        (pss_one (ps_ret pe_bl))))), ?_⟩
    have la : xs.length = A1.length := hl.len
    have lb : ys.length = B1.length := hl2.len
    refine ⟨_, rfl, a, _, _, _, rfl, rfl, SqT.of ha, rfl, p, _, rfl, .inr (SqT.of hp), ?_⟩
    refine ⟨_, rfl, b, _, _, _, rfl, rfl, SqT.of hb, rfl, q, _, rfl, .inr (SqT.of hq), rfl, _, rfl, ite2 (fun e => ?_) (fun e => ?_)⟩
    · refine qq H false (fun _ _ h => h) ⟨fun z => Bool.noConfusion z, fun z => ?_⟩
      exfalso
      have z1 := z.1
      simp at z1
      simp at e
      omega
    · have eL : A1.length = B1.length := by
        have e' : (xs.length : Int) = (ys.length : Int) := by simpa using e
        omega
      have hA := hl.snoc hk
      have hBB := hl2.snoc hk2
      have zA : (xs ++ [r]).length ≤ sizeLine := small _ (by rw [hA.len]; simp at bA ⊢; omega)
      have zB : (ys ++ [r2]).length ≤ sizeLine := small _ (by rw [hBB.len]; simp at bB ⊢; omega)
      refine fun N hN => ?_
      have s1 := same_upd (o := .dK []) hN
      refine ⟨_, rfl, a, _, _, _, rfl, rfl, SqT.of (s1 _ _ ha), rfl, p, _, rfl, .inl (SqT.of (s1 _ _ hp)), _, rfl, a, _, _, _, rfl, rfl, SqT.of (s1 _ _ ha), rfl, zA, fun t1 ht1 => ?_⟩
      have s2 := s1.trans (same_upd (o := .tup (xs ++ [r])) ht1)
      refine ⟨_, rfl, b, _, _, _, rfl, rfl, SqT.of (s2 _ _ hb), rfl, q, _, rfl, .inl (SqT.of (s2 _ _ hq)), _, rfl, b, _, _, _, rfl, rfl, SqT.of (s2 _ _ hb), rfl, zB, fun t2 ht2 => ?_⟩
      have s3 := s2.trans (same_upd (o := .tup (ys ++ [r2])) ht2)
      have nN1 : N ≠ t1 := ne_of_none upd_same ht1
      have hN1 : upd (upd H N (.dK [])) t1 (.tup (xs ++ [r])) N = some (.dK []) := same_upd ht1 _ _ upd_same
      have hN2 := same_upd (o := .tup (ys ++ [r2])) ht2 _ _ hN1
      have e1 := same_upd (o := .tup (ys ++ [r2])) ht2 t1 _ (upd_same (H := upd H N (.dK [])) (o := .tup (xs ++ [r])))
      have e2 : upd (upd (upd H N (.dK [])) t1 (.tup (xs ++ [r]))) t2 (.tup (ys ++ [r2])) t2 = some (.tup (ys ++ [r2])) := upd_same
      refine ⟨t1, t2, _, _, rfl, .inr ⟨SqT.of e1, SqT.of e2, ?_⟩⟩
      obtain ⟨H1, eH⟩ : ∃ H1, H1 = upd (upd (upd H N (.dK [])) t1 (.tup (xs ++ [r]))) t2 (.tup (ys ++ [r2])) := ⟨_, rfl⟩
      rw [← eH] at e1 e2 hN2 s3
      have noT : ∀ zs, H1 N ≠ some (.tup zs) := fun zs z => by rw [hN2] at z; cases z
      have hA1 := hA.mono s3.tups
      have hB1 := hBB.mono s3.tups
      have lAB : (A1 ++ [k]).length = (B1 ++ [k2]).length := by simp [eL]
      generalize A1 ++ [k] = AA at *
      generalize B1 ++ [k2] = BB at *
      refine RZ.for_zipT (xs := xs ++ [r]) (ys := ys ++ [r2]) (by rw [hA1.len, hB1.len, lAB]) (fun i σ H' => ∃ y3 y4 fs, σ = [some (.ref a), some (.ref b), some (.ref N), y3, y4] ∧ Kept H1 H' N ∧ FD H' N fs ∧ Noted AA BB i fs ∧ ∀ j < i, okI AA BB j)
        (by rw [← eH]; exact ⟨none, none, [], rfl, Kept.refl, ⟨[], hN2, .nil⟩, .nil _ _, fun j h => absurd h (Nat.not_lt_zero _)⟩) (fun i σ H' q => ?_) ?_ ?_
      · obtain ⟨_, _, _, _, kp, _⟩ := q
        exact ⟨SqT.of (kept_tups kp noT _ _ e1), SqT.of (kept_tups kp noT _ _ e2)⟩
      · rintro i x y t σ H' hx hy ⟨y3, y4, fs, rfl, kp, fd', nt, ok⟩ ht
        have t3 := kept_tups kp noT
        obtain ⟨ka, hka, hxa⟩ := (hA1.mono t3).at hx
        obtain ⟨kb, hkb, hyb⟩ := (hB1.mono t3).at hy
        have ib : i < BB.length := (List.getElem?_eq_some_iff.mp hkb).1
        have st := same_upd (o := .tup [x, y]) ht
        have fdt : FD (upd H' t (.tup [x, y])) N fs := by
          obtain ⟨vs, h1, h2⟩ := fd'
          exact ⟨vs, st _ _ h1, h2.mono st.tups⟩
        refine ⟨t, _, rfl, SqT.of upd_same, rfl, _, _, rfl, _, _, rfl, rfl, ?_⟩
        refine ⟨_, rfl, _, rfl, _, rfl, x, y, N, ka, kb, fs, rfl, hxa.mono st.tups, hyb.mono st.tups, fdt, by have := nt.1; omega, fun H2 kp2 fd2 => ?_⟩
        obtain ⟨st1, st2⟩ := noted_step nt hka hkb
        have hNH : H N = none := hN
        have sm : Same H H2 := fun c o hc => kp2 _ _ (ne_of_none hc hN) (st _ _ (kp _ _ (ne_of_none hc hN) (s3 _ _ hc)))
        cases er : (repK ka kb fs).1 with
        | true =>
          refine ⟨true, rfl, iteF ⟨_, _, _, rfl, (kp.trans (st.kept N)).trans kp2, fd2, (st1 er).2, fun j hj => ?_⟩⟩
          rcases Nat.lt_or_ge j i with g | g
          · exact ok j g
          · have : j = i := by omega
            subst this
            exact (st1 er).1
        | false =>
          refine ⟨false, rfl, iteT (qq H2 false sm ⟨fun z => Bool.noConfusion z, fun z => absurd (z.2 i ib) (st2 er)⟩)⟩
      · rintro σ H' ⟨y3, y4, fs, rfl, kp, fd', nt, ok⟩
        have sm : Same H H' := fun c o hc => kp _ _ (ne_of_none hc hN) (s3 _ _ hc)
        refine qq H' true sm ⟨fun _ => ⟨lAB, fun n hn => ok n (by rw [hA1.len, lAB]; exact hn)⟩, fun _ => rfl⟩
end
end Q10
namespace Q10
open PySem PySem.Spec PyProof.Rows L2 SX HL
def okB : Key → Bool
  | .inl _ => true
  | .inr s => PyData.canLay0 (.str s)
theorem okB_iff {k : Key} (h : okB k = true) : OkB k := fun s e => by subst e; exact h
theorem pickK (ks : List Key) (h : ks.all okB = true) {j : Int} (h0 : 0 ≤ j) (h1 : j < (ks.length : Int)) : ∃ k, atI (ks.map kV) j = some (kV k) ∧ OkB k := by
  have hj : j.toNat < ks.length := by omega
  refine ⟨ks[j.toNat], ?_, okB_iff (List.all_eq_true.mp h _ (List.getElem_mem hj))⟩
  have h := atI_nat (xs := ks.map kV) (j := j.toNat) (v := kV ks[j.toNat]) (by simp [hj])
  have e : ((j.toNat : Nat) : Int) = j := by omega
  rwa [e] at h
section
variable {P : Program} {w : World} {K : PySem.W.Frag} {mg : Str → Option Value} {base : Heap}
/-! ### _law_kind -/
def spKind : Sp := fun vs H Q _ => ∃ (d q : Addr) (i n0 n1 n2 n3 : Int) (ds : List Int), vs = [.ref d, .int i, .ref q] ∧ H d = some (.lst (ds.map V.int)) ∧ Draws ds ∧ 0 ≤ i ∧ H q = some (.lst [.int n0, .int n1, .int n2, .int n3]) ∧
  ∀ H' v k, Same H H' → KAt H' v k → Q v H'
theorem ok_kind {f fM fA : Addr} {fd fdM fdA : FuncData} {n : Nat} (D : DefN K mg "_law_kind" sLawKind ["draws", "index", "numbers"] f fd) (T : Txt mg) (DLawMix : DefN K mg "_law_mix" sLawMix ["cell", "k"] fM fdM) (DLawAt : DefN K mg "_law_at" sLawAt ["draws", "index"] fA fdA) :
    FnOk P w K mg base CX0 (n + 3) f fd ["draws", "index", "numbers"] spKind := by
  have GLawAt : FnOk P w K mg base CX0 (n + 2) fA fdA ["draws", "index"] spAt := ok_at DLawAt T DLawMix
  refine D.F.ok scLawKind (fun vs H Q E h => ?_) (fun cdv A outer s H vs Q E hr h => ?_)
  · obtain ⟨d, q, i, n0, n1, n2, n3, ds, rfl, _⟩ := h
    rfl
  · obtain ⟨d, q, i, n0, n1, n2, n3, ds, rfl, hd, hds, i0, hq, qq⟩ := h
    refine ⟨_, (pss_cons (ps_set (i := 3) scLawKind.nd rfl (.inl rfl) (pe_ix ix_list (pe_lst (pa_cons (pe_ix ix_list (pv 2) pe_int (fun _ _ => rfl)) (pa_cons (pe_ix ix_list (pv 2) pe_int (fun _ _ => rfl)) (pa_cons (pe_ix ix_list (pv 2) pe_int (fun _ _ => rfl)) (pa_cons (pe_ix ix_list (pv 2) pe_int (fun _ _ => rfl)) (pa_cons pe_str (pa_cons pe_str (pa_cons pe_str (pa_cons pe_str (pa_cons (pe_ix ix_list (pv 2) pe_int (fun _ _ => rfl)) pa_nil)))))))))) (pe_op op_mod (pe_call GLawAt (hr.mono (by omega)) (by rfl) DLawAt.g DLawAt.F.kp DLawAt.b .nil pass0 (pa_cons (pv 0) (pa_cons (pe_op op_add (pv 1) pe_int) pa_nil))) pe_int) (fun _ _ => rfl)))
        (pss_one (ps_ret (pe_tup (pa_cons (pe_op op_mod (pe_call GLawAt (hr.mono (by omega)) (by rfl) DLawAt.g DLawAt.F.kp DLawAt.b .nil pass0 (pa_cons (pv 0) (pa_cons (pv 1) pa_nil))) pe_int) (pa_cons (pv 3) pa_nil)))))), ?_⟩
    refine ⟨_, rfl, q, _, _, _, rfl, rfl, SqL.of hq, rfl, _, rfl, q, _, _, _, rfl, rfl, SqL.of hq, rfl, _, rfl, q, _, _, _, rfl, rfl, SqL.of hq, rfl, _, rfl, q, _, _, _, rfl, rfl, SqL.of hq, rfl, _, rfl, q, _, _, _, rfl, rfl, SqL.of hq, rfl, (by show 9 ≤ sizeLine; decide), fun L hL => ?_⟩
    have s1 := same_upd (o := .lst [.int n0, .int n1, .int n2, .int n3, .str "num", .str "text", .str "d", .str "e2", .int n0]) hL
    refine ⟨_, rfl, _, rfl, _, _, rfl, rfl, d, ds, i + 1, rfl, s1 _ _ hd, hds, by omega, fun v v0 v1 => ⟨v, 9, rfl, rfl, (by show (0 : Int) < 9; decide), ?_⟩⟩
    obtain ⟨k, hk, ok⟩ := pickK [.inl n0, .inl n1, .inl n2, .inl n3, .inr "num", .inr "text", .inr "d", .inr "e2", .inl n0] (by simp only [List.all_cons, List.all_nil, okB]; decide +kernel) (Int.emod_nonneg v (show (9 : Int) ≠ 0 by decide)) (Int.emod_lt_of_pos v (show (0 : Int) < 9 by decide))
    refine ⟨L, _, _, _, rfl, rfl, SqL.of upd_same, hk, ?_⟩
    refine ⟨_, rfl, _, rfl, d, ds, i, rfl, s1 _ _ hd, hds, i0, fun u u0 u1 => ⟨u, 4, rfl, rfl, (by show (0 : Int) < 4; decide), _, rfl, (by show 2 ≤ sizeLine; decide), fun t ht => ?_⟩⟩
    exact qq _ _ (u % 4, k) (s1.trans (same_upd ht)) ⟨t, rfl, upd_same, ok⟩
/-! ### _law_pair -/
/-- a list of a tuple of arguments and a result -/
def PairAt (H : Hp) (l : Addr) (A : List Kd) (k : Kd) : Prop := ∃ p r xs, H l = some (.lst [.ref p, r]) ∧ H p = some (.tup xs) ∧ KL H xs A ∧ KAt H r k
def spPair : Sp := fun vs H Q _ => ∃ (d q : Addr) (i n0 n1 n2 n3 : Int) (ds : List Int), vs = [.ref d, .int i, .ref q] ∧ H d = some (.lst (ds.map V.int)) ∧ Draws ds ∧ 0 ≤ i ∧ H q = some (.lst [.int n0, .int n1, .int n2, .int n3]) ∧
  ∀ H' l A k, Same H H' → PairAt H' l A k → A.length ≤ 4 → Q (.ref l) H'
theorem ok_pair {f fM fA fK : Addr} {fd fdM fdA fdK : FuncData} {n : Nat} (D : DefN K mg "_law_pair" sLawPair ["draws", "index", "numbers"] f fd) (T : Txt mg) (DLawMix : DefN K mg "_law_mix" sLawMix ["cell", "k"] fM fdM) (DLawAt : DefN K mg "_law_at" sLawAt ["draws", "index"] fA fdA)
    (DLawKind : DefN K mg "_law_kind" sLawKind ["draws", "index", "numbers"] fK fdK) : FnOk P w K mg base CX0 (n + 4) f fd ["draws", "index", "numbers"] spPair := by
  have GLawAt : FnOk P w K mg base CX0 (n + 2) fA fdA ["draws", "index"] spAt := ok_at DLawAt T DLawMix
  have GLawKind : FnOk P w K mg base CX0 (n + 3) fK fdK ["draws", "index", "numbers"] spKind := ok_kind DLawKind T DLawMix DLawAt
  refine D.F.ok scLawPair (fun vs H Q E h => ?_) (fun cdv A outer s H vs Q E hr h => ?_)
  · obtain ⟨d, q, i, n0, n1, n2, n3, ds, rfl, _⟩ := h
    rfl
  · obtain ⟨d, q, i, n0, n1, n2, n3, ds, rfl, hd, hds, i0, hq, qq⟩ := h
    refine ⟨_, (pss_cons (ps_set (i := 3) scLawPair.nd rfl (.inl rfl) (pe_op op_mod (pe_call GLawAt (hr.mono (by omega)) (by rfl) DLawAt.g DLawAt.F.kp DLawAt.b .nil pass0 (pa_cons (pv 0) (pa_cons (pv 1) pa_nil))) pe_int))
        (pss_cons (ps_setLc (i := 4) (own := [("k", 5)]) (g := (gName 5)) (by rfl) scLawPair.nd rfl rfl (sw_true rfl rfl rfl (by decide +kernel)) (pi_range1 (by rfl) T.range (pa_cons (pe_op op_add (pv 3) pe_int) pa_nil)) (blkOk_by (own := [("k", 5)]) (N := ["draws", "index", "numbers", "count", "kinds", "k"]) (sc := defScope sLawPair) (by decide +kernel)) (fun _ _ _ _ _ => (pg_name (i := 5) scLawPair.nd rfl (Or.inl rfl))) (fun _ _ _ _ _ => pts_nil) (fun _ _ _ _ _ => (pe_call GLawKind (hr.mono (by omega)) (by rfl) DLawKind.g DLawKind.F.kp DLawKind.b .nil pass0 (pa_cons (pv 0) (pa_cons (pe_op op_add (pe_op op_add (pv 1) pe_int) (pe_op op_mul pe_int (pv 5))) (pa_cons (pv 2) pa_nil))))))
        (pss_one (ps_ret (pe_lst (pa_cons (pe_callTy call_tuple_of (by rfl) T.tuple HL.boot_tuple (pa_cons (pe_slice sl_list (pv 4) po_none (po_some (pv 3))) pa_nil)) (pa_cons (pe_ix ix_list (pv 4) (pv 3) (fun _ _ => rfl)) pa_nil))))))), ?_⟩
    refine ⟨_, rfl, _, rfl, d, ds, i, rfl, hd, hds, i0, fun v v0 v1 => ⟨v, 5, rfl, rfl, (by show (0 : Int) < 5; decide), ?_⟩⟩
    have m0 : 0 ≤ v % 5 := Int.emod_nonneg _ (by decide)
    have m1 : v % 5 < 5 := Int.emod_lt_of_pos _ (by decide)
    dsimp only
    generalize v % 5 = m at m0 m1
    refine ⟨_, rfl, _, _, rfl, rfl, _, rfl, by omega, by omega, fun D0 hD => ?_⟩
    refine lc_range (lo := 0) (n := (m + 1).toNat) (fun j H' => Same H H' ∧ ∃ us ks, H' D0 = some (.lst us) ∧ us.length = j ∧ KL H' us ks) ⟨same_upd hD, [], [], upd_same, rfl, .nil⟩ ?_ ?_
    · rintro j H' hj ⟨sm, us, ks, hus, hul, hkl⟩
      refine ⟨rfl, lc_yes ?_⟩
      refine ⟨_, rfl, _, rfl, _, _, rfl, rfl, _, rfl, 2, _, rfl, rfl, .inl ⟨by decide, by decide⟩, _, _, rfl, rfl, _, rfl, d, q, i + 1 + 2 * (0 + (j : Int)), n0, n1, n2, n3, ds, rfl, sm _ _ hd, hds, by omega, sm _ _ hq, fun H2 u k s2 hu => ?_⟩
      have hus2 := s2 _ _ hus
      refine ⟨us, hus2, Nat.lt_of_le_of_lt (show us.length ≤ 100 by omega) (by decide), fun b o hb => ?_, us ++ [u], ks ++ [k], upd_same, by simp [hul], ?_⟩
      · rw [upd_ne (ne_of_none hb hD)]
        exact s2 _ _ (sm _ _ hb)
      · have tt : Tups H2 (upd H2 D0 (.lst (us ++ [u]))) := kept_tups but_upd.kept fun zs z => by rw [hus2] at z; cases z
        exact ((hkl.mono s2.tups).mono tt).snoc (hu.mono tt)
    · rintro H' ⟨sm, us, ks, hus, hul, hkl⟩
      have hm : (m + 1).toNat = m.toNat + 1 := by omega
      rw [hm] at hul
      obtain ⟨zs, v, rfl⟩ : ∃ zs v, us = zs ++ [v] := ⟨us.dropLast, us.getLast (fun z => by rw [z] at hul; simp at hul), (List.dropLast_concat_getLast _).symm⟩
      have hzl : zs.length = m.toNat := by simpa using hul
      have hml : m = ((zs.length : Nat) : Int) := by omega
      have lk := hkl.len
      obtain ⟨A, k, rfl⟩ : ∃ A k, ks = A ++ [k] := ⟨ks.dropLast, ks.getLast (fun z => by rw [z] at lk; simp at lk), (List.dropLast_concat_getLast _).symm⟩
      obtain ⟨us2, v2, e, g1, g2⟩ := hkl.split
      obtain ⟨rfl, e3⟩ := List.append_inj' e rfl
      cases e3
      refine ⟨_, rfl, _, rfl, _, rfl, D0, _, rfl, SqL.of hus, fun q' hq' => ⟨q', _, rfl, .inl ⟨SqL.of upd_same, fun l hl => ?_⟩⟩⟩
      have hus2 : (upd (upd H' q' (.lst (cutV (zs ++ [v]) none (some m)))) l (.tup (cutV (zs ++ [v]) none (some m)))) D0 = some (.lst (zs ++ [v])) := same_upd hl _ _ (same_upd hq' _ _ hus)
      have at_ : atI (zs ++ [v]) m = some v := by rw [hml]; exact atI_nat (by simp)
      refine ⟨_, rfl, _, rfl, D0, _, _, _, rfl, rfl, SqL.of hus2, at_, (by show 2 ≤ sizeLine; decide), fun z hz => ?_⟩
      have sL := (same_upd (o := .lst (cutV (zs ++ [v]) none (some m))) hq').trans ((same_upd (o := .tup (cutV (zs ++ [v]) none (some m))) hl).trans (same_upd (o := .lst [.ref l, v]) hz))
      refine qq _ z A k (sm.trans sL) ⟨l, v, zs, upd_same, ?_, g1.mono sL.tups, g2.mono sL.tups⟩ ?_
      · have := same_upd (o := .lst [.ref l, v]) hz l _ upd_same
        exact this.trans (by rw [hml, cutV_pre])
      · have := g1.len
        omega
end
end Q10
namespace Q10
open PySem PySem.Spec PyProof.Rows L2 SX HL
theorem inV_int {x : Int} {xs : List Int} : inV (.int x) (xs.map V.int) = decide (x ∈ xs) := by
  induction xs with
  | nil => rfl
  | cons y r ih =>
    have : inV (.int x) ((y :: r).map V.int) = (y == x || inV (.int x) (r.map V.int)) := rfl
    rw [this, ih, Bool.eq_iff_iff]
    simp only [Bool.or_eq_true, beq_iff_eq, decide_eq_true_eq, List.mem_cons]
    exact or_congr_left eq_comm
theorem flat_ints (xs : List Int) : (xs.map V.int).all flatV = true := by
  rw [List.all_eq_true]
  intro x hx
  obtain ⟨y, _, rfl⟩ := List.mem_map.mp hx
  rfl
theorem idx_at {o : List Int} {x : Int} (h : x ∈ o) : (o.map V.int)[o.idxOf x]? = some (.int x) := by
  induction o with
  | nil => cases h
  | cons y r ih =>
    by_cases e : y = x
    · subst e
      rw [List.idxOf_cons_self]
      rfl
    · rw [List.idxOf_cons, (by simpa using e : (y == x) = false), cond_false]
      rcases List.mem_cons.mp h with z | z
      · exact absurd z.symm e
      · simpa using ih z
theorem idx_before {o : List Int} {x : Int} : ∀ (m : Nat) (z : V), m < o.idxOf x → (o.map V.int)[m]? = some z → eqV z (.int x) = false := by
  induction o with
  | nil => intro m z hm hz; simp at hz
  | cons y r ih =>
    intro m z hm hz
    by_cases e : y = x
    · subst e
      rw [List.idxOf_cons_self] at hm
      exact absurd hm (Nat.not_lt_zero _)
    · rw [List.idxOf_cons, (by simpa using e : (y == x) = false), cond_false] at hm
      cases m with
      | zero =>
        simp at hz
        subst hz
        show (y == x) = false
        simpa using e
      | succ m => exact ih m z (by omega) (by simpa using hz)
theorem ordK_len (C : List Kd) : (ordK C).length ≤ C.length := by
  have g : ∀ (C : List Kd) (o : List Int), (C.foldl addB o).length ≤ o.length + C.length := by
    intro C
    induction C with
    | nil => intro o; simp
    | cons c C ih =>
      intro o
      have h1 := ih (addB o c)
      have h2 : (addB o c).length ≤ o.length + 1 := by
        unfold addB
        split
        · split
          · omega
          · simp
        · omega
      simp only [List.foldl_cons, List.length_cons]
      omega
  have := g C []
  simpa [ordK] using this
/-- all but p and q, and what is new, is as it was -/
def Kept2 (H H' : Hp) (p q : Addr) : Prop := ∀ b o, b ≠ p → b ≠ q → H b = some o → H' b = some o
theorem Kept2.refl {H : Hp} {p q : Addr} : Kept2 H H p q := fun _ _ _ _ h => h
theorem Kept2.trans {H H1 H2 : Hp} {p q : Addr} (a : Kept2 H H1 p q) (b : Kept2 H1 H2 p q) : Kept2 H H2 p q := fun c o n m h => b c o n m (a c o n m h)
theorem Kept.two {H H' : Hp} {p q : Addr} (a : HL.Kept H H' p) : Kept2 H H' p q := fun c o n _ h => a c o n h
theorem Kept.two' {H H' : Hp} {p q : Addr} (a : HL.Kept H H' q) : Kept2 H H' p q := fun c o _ n h => a c o n h
section
variable {P : Program} {w : World} {K : PySem.W.Frag} {mg : Str → Option Value} {base : Heap}
/-! ### _law_scheme -/
theorem ok_lscheme {f : Addr} {fd : FuncData} {n : Nat} (D : DefN K mg "_law_scheme" sLawScheme ["arguments", "result"] f fd) (T : Txt mg) : FnOk P w K mg base CX0 (n + 1) f fd ["arguments", "result"] spScheme := by
  refine D.F.ok scLawScheme (fun vs H Q E h => ?_) (fun cdv A outer s H vs Q E hr h => ?_)
  · obtain ⟨p, xs, r, A, k, rfl, _⟩ := h
    rfl
  · obtain ⟨p, xs, r, A, k, rfl, hp, hl, hk, hn, qq⟩ := h
    refine ⟨_, (pss_cons (ps_set (i := 2) scLawScheme.nd rfl (.inl rfl) (pe_lst pa_nil))
        (pss_cons (ps_set (i := 3) scLawScheme.nd rfl (.inl rfl) (pe_lst pa_nil))
        (pss_cons (ps_for PassesOwn.never rfl (pi_list (pe_op op_cat (pe_callTy call_list_of (by rfl) T.list HL.boot_list (pa_cons (pv 0) pa_nil)) (pe_lst (pa_cons (pv 1) pa_nil)))) (pg_tup rfl (pgs_cons (pg_name (i := 4) scLawScheme.nd rfl (.inl rfl)) (pgs_cons (pg_name (i := 5) scLawScheme.nd rfl (.inl rfl)) pgs_nil))) (C8.pss_cut (ps_if (PW.pt (pw_and (pt_val (pe_callB call_isB (by rfl) T.isinstance HL.boot_isinstance (pa_cons (pv 5) (pa_cons (pe_bltn (v := .ty "int") (by rfl) T.int HL.boot_int rfl) pa_nil)))) (pw_and1 (pt_cmpR op_notIn_seq (pv 5) (pv 2) rfl)))) (pss_one (ps_expr (pe_bm PySem.F.plainAttrs_list PySem.F.slot_list_append PySem.F.type_list_append mt_append (pv 2) (pa_cons (pv 5) pa_nil)))) pss_nil)
        (C8.pss_cut (ps_if (pt_val (pe_callB call_isB (by rfl) T.isinstance HL.boot_isinstance (pa_cons (pv 5) (pa_cons (pe_bltn (v := .ty "int") (by rfl) T.int HL.boot_int rfl) pa_nil)))) (pss_one (ps_set (i := 5) scLawScheme.nd rfl (.inl rfl) (pe_bm PySem.F.plainAttrs_list PySem.F.slot_list_index PySem.F.type_list_index mt_index (pv 2) (pa_cons (pv 5) pa_nil)))) pss_nil)
        (pss_one (ps_expr (pe_bm PySem.F.plainAttrs_list PySem.F.slot_list_append PySem.F.type_list_append mt_append (pv 3) (pa_cons (pe_tup (pa_cons (pv 4) (pa_cons (pv 5) pa_nil))) pa_nil)))))))
        (pss_one (ps_ret (pe_tup (pa_cons (pe_callTy call_tuple_of (by rfl) T.tuple HL.boot_tuple (pa_cons (pe_slice sl_list (pv 3) po_none (po_some (pe_op op_sub (pe_callB call_len_seq (by rfl) T.len PySem.boot_len (pa_cons (pv 3) pa_nil)) pe_int))) pa_nil)) (pa_cons (pe_ix ix_list (pv 3) (pe_op op_sub (pe_callB call_len_seq (by rfl) T.len PySem.boot_len (pa_cons (pv 3) pa_nil)) pe_int) (fun _ _ => rfl)) pa_nil)))))))), ?_⟩
    have hB := hl.snoc hk
    have hlen := hB.len
    have hxl : xs.length ≤ 100 := by rw [hl.len]; exact hn
    refine ⟨Nat.zero_le _, fun O hO => ⟨Nat.zero_le _, fun M hM => ?_⟩⟩
    have sO := same_upd (o := .lst []) hO
    have sM := sO.trans (same_upd (o := .lst []) hM)
    refine ⟨_, rfl, p, xs, rfl, .inr (SqT.of (sM _ _ hp)), fun l1 h1 => ⟨_, rfl, (by show 1 ≤ sizeLine; decide), fun l2 h2 => ?_⟩⟩
    have s1 := sM.trans (same_upd (o := .lst xs) h1)
    have s2 := s1.trans (same_upd (o := .lst [r]) h2)
    refine ⟨l1, l2, _, _, rfl, rfl, same_upd h2 _ _ upd_same, upd_same, small _ (by simp; omega), fun l3 h3 => ?_⟩
    have s3 := s2.trans (same_upd (o := .lst (xs ++ [r])) h3)
    refine ⟨l3, rfl, ⟨_, SqL.of upd_same⟩, ?_⟩
    have nOM : O ≠ M := ne_of_none upd_same hM
    have kO : (upd (upd (upd (upd (upd H O (.lst [])) M (.lst [])) l1 (.lst xs)) l2 (.lst [r])) l3 (.lst (xs ++ [r]))) O = some (.lst []) := same_upd h3 _ _ (same_upd h2 _ _ (same_upd h1 _ _ (same_upd hM _ _ upd_same)))
    have kM : (upd (upd (upd (upd (upd H O (.lst [])) M (.lst [])) l1 (.lst xs)) l2 (.lst [r])) l3 (.lst (xs ++ [r]))) M = some (.lst []) := same_upd h3 _ _ (same_upd h2 _ _ (same_upd h1 _ _ upd_same))
    have n3O : l3 ≠ O := fun e => by rw [e, same_upd h2 _ _ (same_upd h1 _ _ (same_upd hM _ _ upd_same))] at h3; cases h3
    have n3M : l3 ≠ M := fun e => by rw [e, same_upd h2 _ _ (same_upd h1 _ _ upd_same)] at h3; cases h3
    have k3 : (upd (upd (upd (upd (upd H O (.lst [])) M (.lst [])) l1 (.lst xs)) l2 (.lst [r])) l3 (.lst (xs ++ [r]))) l3 = some (.lst (xs ++ [r])) := upd_same
    generalize upd (upd (upd (upd (upd H O (.lst [])) M (.lst [])) l1 (.lst xs)) l2 (.lst [r])) l3 (.lst (xs ++ [r])) = H1 at *
    have tK : ∀ {H'}, Kept2 H1 H' O M → Tups H1 H' := fun kp a zs e => kp a _ (fun z => by rw [z, kO] at e; cases e) (fun z => by rw [z, kM] at e; cases e) e
    have hB1 := hB.mono s3.tups
    have hMH : H M = none := by
      cases e : H M with
      | none => rfl
      | some o => rw [sO _ _ e] at hM; cases hM
    generalize eB : A ++ [k] = B at hB1 hlen qq
    have bl : B.length ≤ 101 := by rw [← eB]; simp; omega
    refine for_list (xs := xs ++ [r]) (fun i σ H' => ∃ y4 y5 us, σ = [some (.ref p), some r, some (.ref O), some (.ref M), y4, y5] ∧ Kept2 H1 H' O M ∧ H' O = some (.lst ((ordK (B.take i)).map V.int)) ∧ H' M = some (.lst us) ∧ us.length = i ∧ KL H' us ((schK B).take i))
      ⟨none, none, [], rfl, Kept2.refl, kO, kM, rfl, .nil⟩ (fun i σ H' _ q => ?_) ?_ ?_
    · obtain ⟨_, _, _, _, kp, _⟩ := q
      exact SqL.of (kp _ _ n3O n3M k3)
    · rintro i x σ H' hx ⟨y4, y5, us, rfl, kp, hO', hM', hul, hkl⟩
      obtain ⟨kd, hkd, a, rfl, ha, okb⟩ := (hB1.mono (tK kp)).at hx
      have ib : i < B.length := (List.getElem?_eq_some_iff.mp hkd).1
      have eT : B.take (i + 1) = B.take i ++ [kd] := by rw [List.take_add_one, hkd]; rfl
      have ol : (ordK (B.take i)).length ≤ 101 := by
        have := ordK_len (B.take i)
        rw [List.length_take] at this
        omega
      refine ⟨a, _, rfl, SqT.of ha, rfl, _, _, rfl, _, _, rfl, rfl, ?_⟩
      refine ⟨fun σ2 H2 => σ2 = [some (.ref p), some r, some (.ref O), some (.ref M), some (.int kd.1), some (kV kd.2)] ∧ HL.Kept H' H2 O ∧ H2 O = some (.lst ((ordK (B.take (i + 1))).map V.int)), ?_, ?_⟩
      · rw [eT, ordK_snoc]
        unfold addB
        cases e : kd.2 with
        | inr s => exact ⟨_, rfl, _, "str", "int", false, rfl, .base (.str s), by decide +kernel, false, rfl, iteF (iteF ⟨rfl, Kept.refl, hO'⟩)⟩
        | inl j =>
          refine ⟨_, rfl, _, "int", "int", true, rfl, .base (.int j), by decide +kernel, true, rfl, iteT ?_⟩
          have e0 : (if (true : Bool) = true then !inV (V.int j) ((ordK (B.take i)).map V.int) else inV (V.int j) ((ordK (B.take i)).map V.int)) = !decide (j ∈ ordK (B.take i)) := by rw [if_pos rfl, inV_int]
          refine ⟨_, rfl, _, rfl, O, _, rfl, .inl (SqL.of hO'), rfl, flat_ints _, !decide (j ∈ ordK (B.take i)), congrArg V.bl e0, ?_⟩
          dsimp only
          by_cases m : j ∈ ordK (B.take i)
          · rw [decide_eq_true m, if_pos m]
            exact iteF ⟨rfl, Kept.refl, hO'⟩
          · rw [decide_eq_false m, if_neg m]
            refine iteT ⟨_, rfl, .inl ⟨rfl, _, SqL.of hO'⟩, _, rfl, O, _, _, rfl, rfl, hO', ?_, rfl, but_upd.kept, by rw [upd_same]; simp; rfl⟩
            rw [List.length_map]
            exact Nat.lt_of_le_of_lt ol (by decide)
      rintro σ2 H2 ⟨rfl, k2, hO2⟩
      have hM2 : H2 M = some (.lst us) := k2 _ _ nOM.symm hM'
      refine ⟨fun σ3 H3 => σ3 = [some (.ref p), some r, some (.ref O), some (.ref M), some (.int kd.1), some (kV (numK (ordK B) kd).2)] ∧ H3 = H2, ?_, ?_⟩
      · rw [← numK_take hkd]
        unfold numK
        cases e : kd.2 with
        | inr s => exact ⟨_, rfl, _, "str", "int", false, rfl, .base (.str s), by decide +kernel, false, rfl, iteF ⟨rfl, rfl⟩⟩
        | inl j =>
          have mem : j ∈ ordK (B.take (i + 1)) := by
            rw [eT, ordK_snoc]
            exact addB_mem e
          refine ⟨_, rfl, _, "int", "int", true, rfl, .base (.int j), by decide +kernel, true, rfl, iteT ?_⟩
          exact ⟨_, rfl, .inl ⟨rfl, _, SqL.of hO2⟩, _, rfl, O, _, _, _, _, rfl, rfl, SqL.of hO2, rfl, flat_ints _, idx_at mem, (by show (j == j) = true; simp), idx_before, rfl, rfl⟩
      rintro σ3 H3 ⟨rfl, rfl⟩
      refine ⟨_, rfl, .inl ⟨rfl, _, SqL.of hM2⟩, _, rfl, _, rfl, (by show 2 ≤ sizeLine; decide), fun t ht => ?_⟩
      have hMt : M ≠ t := ne_of_none hM2 ht
      have hOt : O ≠ t := ne_of_none hO2 ht
      have st := same_upd (o := .tup [.int kd.1, kV (numK (ordK B) kd).2]) ht
      have tt : Tups H' (upd (upd H3 t (.tup [.int kd.1, kV (numK (ordK B) kd).2])) M (.lst (us ++ [.ref t]))) :=
        (kept_tups k2 fun zs z => by rw [hO'] at z; cases z).trans (st.tups.trans (kept_tups but_upd.kept fun zs z => by rw [st _ _ hM2] at z; cases z))
      refine ⟨M, _, _, rfl, rfl, st _ _ hM2, small' us hul (by omega), _, _, us ++ [.ref t], rfl, ?_, ?_, upd_same, by simp [hul], ?_⟩
      · exact kp.trans ((Kept.two k2).trans ((Kept.two (st.kept O)).trans (Kept.two' but_upd.kept)))
      · rw [upd_ne nOM]
        exact st _ _ hO2
      · have e3 : (schK B).take (i + 1) = (schK B).take i ++ [numK (ordK B) kd] := by
          rw [List.take_add_one]
          unfold schK
          rw [List.getElem?_map, hkd]
          rfl
        rw [e3]
        refine (hkl.mono tt).snoc ⟨t, rfl, ?_, okb.num⟩
        rw [upd_ne hMt.symm, upd_same]
        rfl
    · rintro σ H' ⟨y4, y5, us, rfl, kp, hO', hM', hul, hkl⟩
      have lB : (xs ++ [r]).length = B.length := hlen
      rw [lB] at hul hkl
      rw [List.take_of_length_le (by unfold schK; rw [List.length_map]; exact Nat.le_refl _), ← eB] at hkl
      unfold schK at hkl
      rw [List.map_append] at hkl
      obtain ⟨zs, v, rfl, g1, g2⟩ := hkl.split
      have hzl : (((zs ++ [v]).length : Nat) : Int) - 1 = ((zs.length : Nat) : Int) := by simp
      have at_ : atI (zs ++ [v]) ((((zs ++ [v]).length : Nat) : Int) - 1) = some v := by rw [hzl]; exact atI_nat (by simp)
      refine ⟨_, rfl, _, rfl, M, _, rfl, .inl (SqL.of hM'), _, _, rfl, rfl, _, rfl, M, _, rfl, SqL.of hM', fun q hq => ⟨q, _, rfl, .inl ⟨SqL.of upd_same, fun l hl => ?_⟩⟩⟩
      have hus2 := same_upd (o := .tup (cutV (zs ++ [v]) none (some ((((zs ++ [v]).length : Nat) : Int) - 1)))) hl _ _ (same_upd (o := .lst (cutV (zs ++ [v]) none (some ((((zs ++ [v]).length : Nat) : Int) - 1)))) hq _ _ hM')
      refine ⟨_, rfl, _, rfl, M, _, rfl, .inl (SqL.of hus2), _, _, rfl, rfl, M, _, _, _, rfl, rfl, SqL.of hus2, at_, (by show 2 ≤ sizeLine; decide), fun z hz => qq _ _ ?_ ?_⟩
      · have sL := (same_upd (o := .lst (cutV (zs ++ [v]) none (some ((((zs ++ [v]).length : Nat) : Int) - 1)))) hq).trans ((same_upd (o := .tup (cutV (zs ++ [v]) none (some ((((zs ++ [v]).length : Nat) : Int) - 1)))) hl).trans (same_upd (o := .tup [.ref l, v]) hz))
        exact fun b o hb => sL _ _ (kp _ _ (ne_of_none hb hO) (ne_of_none hb hMH) (s3 _ _ hb))
      · have sL := (same_upd (o := .lst (cutV (zs ++ [v]) none (some ((((zs ++ [v]).length : Nat) : Int) - 1)))) hq).trans ((same_upd (o := .tup (cutV (zs ++ [v]) none (some ((((zs ++ [v]).length : Nat) : Int) - 1)))) hl).trans (same_upd (o := .tup [.ref l, v]) hz))
        refine ⟨z, l, v, zs, A.map (numK (ordK B)), numK (ordK B) k, rfl, ?_, upd_same, ?_, by rw [← eB]; exact g1.mono sL.tups, by rw [← eB]; exact g2.mono sL.tups⟩
        · unfold schK
          rw [← eB, List.map_append]
          rfl
        · have := same_upd (o := .tup [.ref l, v]) hz l _ upd_same
          exact this.trans (by rw [hzl, cutV_pre])
end
end Q10
namespace Q10
open PySem PySem.Spec PyProof.Rows L2 SX HL
section
variable {P : Program} {w : World} {K : PySem.W.Frag} {mg : Str → Option Value} {base : Heap}
/-! ### _law_is_instance -/
theorem kV_inj {a b : Key} : decide (kV a = kV b) = decide (a = b) := by
  cases a <;> cases b <;> simp [kV]
theorem ok_linst {f : Addr} {fd : FuncData} {n : Nat} (D : DefN K mg "_law_is_instance" sLawIsInstance ["first", "second"] f fd) (T : Txt mg) : FnOk P w K mg base CX0 (n + 1) f fd ["first", "second"] spInst := by
  refine D.F.ok scLawIsInstance (fun vs H Q E h => ?_) (fun cdv A outer s H vs Q E hr h => ?_)
  · obtain ⟨v, u, A, B, rfl, _⟩ := h
    rfl
  · obtain ⟨_, _, A, B, rfl, ⟨a, p, r, xs, A1, k, rfl, rfl, ha, hp, hl, hk⟩, ⟨b, q, r2, ys, B1, k2, rfl, rfl, hb, hq, hl2, hk2⟩, bA, bB, qq⟩ := h
    refine ⟨_, (pss_cons (ps_set (i := 2) scLawIsInstance.nd rfl (.inl rfl) (pe_op op_cat (pe_callTy call_list_of (by rfl) T.list HL.boot_list (pa_cons (pe_ix ix_tup (pv 0) pe_int (fun _ _ => rfl)) pa_nil)) (pe_lst (pa_cons (pe_ix ix_tup (pv 0) pe_int (fun _ _ => rfl)) pa_nil))))
        (pss_cons (ps_set (i := 3) scLawIsInstance.nd rfl (.inl rfl) (pe_op op_cat (pe_callTy call_list_of (by rfl) T.list HL.boot_list (pa_cons (pe_ix ix_tup (pv 1) pe_int (fun _ _ => rfl)) pa_nil)) (pe_lst (pa_cons (pe_ix ix_tup (pv 1) pe_int (fun _ _ => rfl)) pa_nil))))
        (pss_cons (ps_if (pt_cmpR op_ne (pe_callB call_len_seq (by rfl) T.len PySem.boot_len (pa_cons (pv 2) pa_nil)) (pe_callB call_len_seq (by rfl) T.len PySem.boot_len (pa_cons (pv 3) pa_nil)) (nomark _)) (pss_one (ps_ret pe_bl)) pss_nil)
        (pss_cons (ps_for PassesOwn.never rfl (pi_range1 (by rfl) T.range (pa_cons (pe_callB call_len_seq (by rfl) T.len PySem.boot_len (pa_cons (pv 2) pa_nil)) pa_nil)) (pg_name (i := 4) scLawIsInstance.nd rfl (.inl rfl)) (pss_one (ps_if (pt_not (pt_val (pe_callB call_isB (by rfl) T.isinstance HL.boot_isinstance (pa_cons (pe_ix ix_tup (pe_ix ix_list (pv 3) (pv 4) (fun _ _ => rfl)) pe_int (fun _ _ => rfl)) (pa_cons (pe_bltn (v := .ty "int") (by rfl) T.int HL.boot_int rfl) pa_nil))))) (pss_one (ps_if (pt_cmpR (op_neD hr.units) (pe_ix ix_list (pv 2) (pv 4) (fun _ _ => rfl)) (pe_ix ix_list (pv 3) (pv 4) (fun _ _ => rfl)) (nomark _)) (pss_one (ps_ret pe_bl)) pss_nil)) (pss_one (ps_if (pt_cmpR op_lt (pe_ix ix_tup (pe_ix ix_list (pv 2) (pv 4) (fun _ _ => rfl)) pe_int (fun _ _ => rfl)) (pe_ix ix_tup (pe_ix ix_list (pv 3) (pv 4) (fun _ _ => rfl)) pe_int (fun _ _ => rfl)) (nomark _)) (pss_one (ps_ret pe_bl)) (pss_one (ps_for PassesOwn.never rfl (pi_range1 (by rfl) T.range (pa_cons (pv 4) pa_nil)) (pg_name (i := 5) scLawIsInstance.nd rfl (.inl rfl)) (pss_one (ps_if (pt_cmpR op_eq (pe_ix ix_tup (pe_ix ix_list (pv 3) (pv 5) (fun _ _ => rfl)) pe_int (fun _ _ => rfl)) (pe_ix ix_tup (pe_ix ix_list (pv 3) (pv 4) (fun _ _ => rfl)) pe_int (fun _ _ => rfl)) (nomark _)) (pss_one (ps_if (PW.pt (pw_or (pt_cmpR op_ne (pe_op op_sub (pe_ix ix_tup (pe_ix ix_list (pv 2) (pv 5) (fun _ _ => rfl)) pe_int (fun _ _ => rfl)) (pe_ix ix_tup (pe_ix ix_list (pv 3) (pv 5) (fun _ _ => rfl)) pe_int (fun _ _ => rfl))) (pe_op op_sub (pe_ix ix_tup (pe_ix ix_list (pv 2) (pv 4) (fun _ _ => rfl)) pe_int (fun _ _ => rfl)) (pe_ix ix_tup (pe_ix ix_list (pv 3) (pv 4) (fun _ _ => rfl)) pe_int (fun _ _ => rfl))) (nomark _)) (pw_or1 (pt_cmpR op_ne (pe_ix ix_tup (pe_ix ix_list (pv 2) (pv 5) (fun _ _ => rfl)) pe_int (fun _ _ => rfl)) (pe_ix ix_tup (pe_ix ix_list (pv 2) (pv 4) (fun _ _ => rfl)) pe_int (fun _ _ => rfl)) (nomark _))))) (pss_one (ps_ret pe_bl)) pss_nil)) pss_nil)))))))))
        (pss_one (ps_ret pe_bl)))))), ?_⟩
    have hA := hl.snoc hk
    have hBB := hl2.snoc hk2
    have zA : xs.length ≤ 100 := by rw [hl.len]; simp at bA; omega
    have zB : ys.length ≤ 100 := by rw [hl2.len]; simp at bB; omega
    have t1 : 1 ≤ sizeLine := by decide
    refine ⟨_, rfl, a, _, _, _, rfl, rfl, SqT.of ha, rfl, p, xs, rfl, .inr (SqT.of hp), fun l1 h1 => ?_⟩
    have s1 := same_upd (o := .lst xs) h1
    refine ⟨_, rfl, a, _, _, _, rfl, rfl, SqT.of (s1 _ _ ha), rfl, t1, fun l2 h2 => ?_⟩
    have s2 := s1.trans (same_upd (o := .lst [r]) h2)
    refine ⟨l1, l2, _, _, rfl, rfl, same_upd h2 _ _ upd_same, upd_same, small _ (by simp; omega), fun C hC => ?_⟩
    have s3 := s2.trans (same_upd (o := .lst (xs ++ [r])) hC)
    refine ⟨_, rfl, b, _, _, _, rfl, rfl, SqT.of (s3 _ _ hb), rfl, q, ys, rfl, .inr (SqT.of (s3 _ _ hq)), fun l4 h4 => ?_⟩
    have s4 := s3.trans (same_upd (o := .lst ys) h4)
    refine ⟨_, rfl, b, _, _, _, rfl, rfl, SqT.of (s4 _ _ hb), rfl, t1, fun l5 h5 => ?_⟩
    have s5 := s4.trans (same_upd (o := .lst [r2]) h5)
    refine ⟨l4, l5, _, _, rfl, rfl, same_upd h5 _ _ upd_same, upd_same, small _ (by simp; omega), fun E0 hE => ?_⟩
    have s6 := s5.trans (same_upd (o := .lst (ys ++ [r2])) hE)
    have hC1 := same_upd (o := .lst (ys ++ [r2])) hE _ _ (same_upd (o := .lst [r2]) h5 _ _ (same_upd (o := .lst ys) h4 C _ (upd_same (o := .lst (xs ++ [r])))))
    revert s6 hC1
    have hE1 : ∀ {X : Hp}, upd X E0 (.lst (ys ++ [r2])) E0 = some (.lst (ys ++ [r2])) := upd_same
    generalize eH : upd (upd (upd (upd (upd (upd H l1 (.lst xs)) l2 (.lst [r])) C (.lst (xs ++ [r]))) l4 (.lst ys)) l5 (.lst [r2])) E0 (.lst (ys ++ [r2])) = H1
    have hE2 : H1 E0 = some (.lst (ys ++ [r2])) := by rw [← eH]; exact hE1
    intro s6 hC1
    have hA1 := hA.mono s6.tups
    have hB1 := hBB.mono s6.tups
    have lA : (xs ++ [r]).length = (A1 ++ [k]).length := hA1.len
    have lB : (ys ++ [r2]).length = (B1 ++ [k2]).length := hB1.len
    generalize A1 ++ [k] = AA at *
    generalize B1 ++ [k2] = BB at *
    generalize xs ++ [r] = us at *
    generalize ys ++ [r2] = ws at *
    refine ⟨_, rfl, C, _, rfl, .inl (SqL.of hC1), _, rfl, E0, _, rfl, .inl (SqL.of hE2), rfl, _, rfl, ite2 (fun e => ?_) (fun e => ?_)⟩
    · refine qq H1 false s6 ⟨fun z => Bool.noConfusion z, fun z => ?_⟩
      exfalso
      have z1 := z.1
      simp at e
      omega
    have eL : us.length = ws.length := by
      have e' : (us.length : Int) = (ws.length : Int) := by simpa using e
      omega
    have lAB : AA.length = BB.length := by omega
    refine ⟨_, rfl, C, _, rfl, .inl (SqL.of hC1), _, rfl, by omega, by omega, ?_⟩
    refine for_range (lo := 0) (n := ((us.length : Nat) : Int).toNat) (fun i σ H' => ∃ y4 y5, σ = [some (.ref a), some (.ref b), some (.ref C), some (.ref E0), y4, y5] ∧ H' = H1 ∧ ∀ j < i, okI AA BB j) ⟨none, none, rfl, rfl, fun j h => absurd h (Nat.not_lt_zero _)⟩ ?_ ?_
    · rintro i σ H' hi ⟨y4, y5, rfl, rfl, ok⟩
      have hi' : i < us.length := by omega
      obtain ⟨v, ka, hv, hka, a', rfl, hva, oka⟩ := hA1.get (i := i) (by omega)
      obtain ⟨u, kb, hu, hkb, b', rfl, hub, okb⟩ := hB1.get (i := i) (by omega)
      have e0 : (0 : Int) + (i : Int) = (i : Int) := by omega
      have av : atI us (0 + (i : Int)) = some (.ref a') := by rw [e0]; exact atI_nat hv
      have au : atI ws (0 + (i : Int)) = some (.ref b') := by rw [e0]; exact atI_nat hu
      have no : ¬ okI AA BB i → Q (.bl false) H' := fun z => qq H' false s6 ⟨fun w => Bool.noConfusion w, fun w => absurd (w.2 i (by omega)) z⟩
      have go : okI AA BB i → ∀ j < i + 1, okI AA BB j := fun z j hj => by
        rcases Nat.lt_or_ge j i with g | g
        · exact ok j g
        · have : j = i := by omega
          subst this
          exact z
      cases e : kb.2 with
      | inr s =>
        rw [e] at hub
        refine ⟨_, rfl, _, rfl, E0, _, _, _, rfl, rfl, SqL.of hE2, au, b', _, _, _, rfl, rfl, SqT.of hub, rfl, _, "str", "int", false, rfl, .base (.str s), by decide +kernel, false, rfl, iteT ?_⟩
        refine ⟨_, rfl, _, rfl, C, _, _, _, rfl, rfl, SqL.of hC1, av, _, rfl, _, rfl, E0, _, _, _, rfl, rfl, SqL.of hE2, au, _, _, KAt.dp ⟨a', rfl, hva, oka⟩, KAt.dp ⟨b', rfl, by rw [e]; exact hub, okb⟩, kD_shaped _ oka, kD_shaped _ okb, _, rfl, ?_⟩
        have e3 := kD_eqv ka kb
        rw [e3]
        by_cases m : ka = kb
        · rw [decide_eq_true m]
          refine iteF ⟨_, _, rfl, rfl, go fun x y hx hy => ?_⟩
          rw [hka] at hx
          rw [hkb] at hy
          cases hx
          cases hy
          rw [e]
          exact m
        · rw [decide_eq_false m]
          refine iteT (no fun z => ?_)
          have := z ka kb hka hkb
          rw [e] at this
          exact m this
      | inl jv =>
        rw [e] at hub
        refine ⟨_, rfl, _, rfl, E0, _, _, _, rfl, rfl, SqL.of hE2, au, b', _, _, _, rfl, rfl, SqT.of hub, rfl, _, "int", "int", true, rfl, .base (.int jv), by decide +kernel, true, rfl, iteF ?_⟩
        refine ⟨_, rfl, _, rfl, C, _, _, _, rfl, rfl, SqL.of hC1, av, a', _, _, _, rfl, rfl, SqT.of hva, rfl, _, rfl, _, rfl, E0, _, _, _, rfl, rfl, SqL.of hE2, au, b', _, _, _, rfl, rfl, SqT.of hub, rfl, _, _, rfl, rfl, _, rfl, ite2 (fun lt => ?_) (fun lt => ?_)⟩
        · have lt' : ka.1 < kb.1 := of_decide_eq_true lt
          refine no fun z => ?_
          have := z ka kb hka hkb
          rw [e] at this
          have := this.1
          omega
        have lt' : ¬ ka.1 < kb.1 := fun z => lt (decide_eq_true z)
        refine ⟨_, rfl, _, rfl, by omega, by omega, ?_⟩
        refine for_range (lo := 0) (n := (0 + (i : Int)).toNat) (fun m σ H2 => ∃ y5, σ = [some (.ref a), some (.ref b), some (.ref C), some (.ref E0), some (.int (0 + (i : Int))), y5] ∧ H2 = H' ∧ ∀ j < m, ∀ c d, AA[j]? = some c → BB[j]? = some d → d.2 = kb.2 → c.1 - d.1 = ka.1 - kb.1 ∧ c.2 = ka.2)
          ⟨_, rfl, rfl, fun j h => absurd h (Nat.not_lt_zero _)⟩ ?_ ?_
        · rintro m σ H2 hm ⟨y5, rfl, rfl, okm⟩
          have hm' : m < i := by omega
          obtain ⟨v', kc, hv', hkc, c', rfl, hvc, okc⟩ := hA1.get (i := m) (by omega)
          obtain ⟨u', kd, hu', hkd, d', rfl, hud, okd⟩ := hB1.get (i := m) (by omega)
          have em : (0 : Int) + (m : Int) = (m : Int) := by omega
          have avm : atI us (0 + (m : Int)) = some (.ref c') := by rw [em]; exact atI_nat hv'
          have aum : atI ws (0 + (m : Int)) = some (.ref d') := by rw [em]; exact atI_nat hu'
          have goM : (kd.2 = kb.2 → kc.1 - kd.1 = ka.1 - kb.1 ∧ kc.2 = ka.2) → ∀ j < m + 1, ∀ c d, AA[j]? = some c → BB[j]? = some d → d.2 = kb.2 → c.1 - d.1 = ka.1 - kb.1 ∧ c.2 = ka.2 := fun z j hj c d hc hd => by
            rcases Nat.lt_or_ge j m with g | g
            · exact okm j g c d hc hd
            · have : j = m := by omega
              subst this
              rw [hkc] at hc
              rw [hkd] at hd
              cases hc
              cases hd
              exact z
          have noM : kd.2 = kb.2 → ¬ (kc.1 - kd.1 = ka.1 - kb.1 ∧ kc.2 = ka.2) → ¬ okI AA BB i := fun z1 z2 z3 => by
            have := z3 ka kb hka hkb
            rw [e] at this
            exact z2 (this.2 m hm' kc kd hkc hkd (by rw [z1, e]))
          have ev : decide (kV kd.2 = V.int jv) = decide (kd.2 = kb.2) := by rw [e]; exact kV_inj (b := .inl jv)
          refine ⟨_, rfl, _, rfl, E0, _, _, _, rfl, rfl, SqL.of hE2, aum, d', _, _, _, rfl, rfl, SqT.of hud, rfl, _, rfl, _, rfl, E0, _, _, _, rfl, rfl, SqL.of hE2, au, b', _, _, _, rfl, rfl, SqT.of hub, rfl, (by cases kd.2 <;> rfl), decide (kd.2 = kb.2), congrArg V.bl ev, ?_⟩
          by_cases m1 : kd.2 = kb.2
          · rw [decide_eq_true m1]
            have e4 : decide (V.int (kc.1 - kd.1) = V.int (ka.1 - kb.1)) = decide (kc.1 - kd.1 = ka.1 - kb.1) := by
              rw [Bool.eq_iff_iff]; simp
            have e5 := kV_inj (a := kc.2) (b := ka.2)
            refine iteT ⟨_, rfl, _, rfl, C, _, _, _, rfl, rfl, SqL.of hC1, avm, c', _, _, _, rfl, rfl, SqT.of hvc, rfl, _, rfl, _, rfl, E0, _, _, _, rfl, rfl, SqL.of hE2, aum, d', _, _, _, rfl, rfl, SqT.of hud, rfl, _, _, rfl, rfl, _, rfl, _, rfl, C, _, _, _, rfl, rfl, SqL.of hC1, av, a', _, _, _, rfl, rfl, SqT.of hva, rfl, _, rfl, _, rfl, E0, _, _, _, rfl, rfl, SqL.of hE2, au, b', _, _, _, rfl, rfl, SqT.of hub, rfl, _, _, rfl, rfl, rfl, !decide (kc.1 - kd.1 = ka.1 - kb.1), congrArg (fun z => V.bl (!z)) e4, ?_⟩
            by_cases m2 : kc.1 - kd.1 = ka.1 - kb.1
            · rw [decide_eq_true m2]
              refine iteF ⟨_, rfl, _, rfl, C, _, _, _, rfl, rfl, SqL.of hC1, avm, c', _, _, _, rfl, rfl, SqT.of hvc, rfl, _, rfl, _, rfl, C, _, _, _, rfl, rfl, SqL.of hC1, av, a', _, _, _, rfl, rfl, SqT.of hva, rfl, (by cases kc.2 <;> cases ka.2 <;> rfl), !decide (kc.2 = ka.2), congrArg (fun z => V.bl (!z)) e5, ?_⟩
              by_cases m3 : kc.2 = ka.2
              · rw [decide_eq_true m3]
                exact iteF ⟨_, rfl, rfl, goM fun _ => ⟨m2, m3⟩⟩
              · rw [decide_eq_false m3]
                exact iteT (no (noM m1 fun z => m3 z.2))
            · rw [decide_eq_false m2]
              exact iteT (iteT (no (noM m1 fun z => m2 z.1)))
          · rw [decide_eq_false m1]
            exact iteF ⟨_, rfl, rfl, goM fun z => absurd z m1⟩
        · rintro σ H2 ⟨y5, rfl, rfl, okm⟩
          refine ⟨_, _, rfl, rfl, go fun x y hx hy => ?_⟩
          rw [hka] at hx
          rw [hkb] at hy
          cases hx
          cases hy
          rw [e]
          refine ⟨by omega, fun j hj c d hc hd hdi => okm j (by omega) c d hc hd (by rw [e]; exact hdi)⟩
    · rintro σ H' ⟨y4, y5, rfl, rfl, ok⟩
      exact qq H' true s6 ⟨fun _ => ⟨lAB, fun n hn => ok n (by omega)⟩, fun _ => rfl⟩
end
end Q10
namespace Q10
open PySem PySem.Spec PyProof.Rows L2 SX HL
theorem KL.set {H : Hp} {vs : List V} {ks : List Kd} (h : KL H vs ks) {v : V} {k : Kd} (g : KAt H v k) : ∀ j, KL H (vs.set j v) (ks.set j k) := by
  induction h with
  | nil => exact fun j => .nil
  | @cons u us k2 ks2 a r ih =>
    intro j
    cases j with
    | zero => exact .cons g r
    | succ j => exact .cons a (ih j)
section
variable {P : Program} {w : World} {K : PySem.W.Frag} {mg : Str → Option Value} {base : Heap}
/-! ### _law_instance -/
def spLInst : Sp := fun vs H Q _ => ∃ (d : Addr) (i : Int) (v : V) (ds : List Int) (B : List Kd), vs = [.ref d, .int i, v] ∧ H d = some (.lst (ds.map V.int)) ∧ Draws ds ∧ 0 ≤ i ∧ Row H v B ∧ (∀ k ∈ B, ∀ j, k.2 = .inl j → 0 ≤ j) ∧ B.length ≤ 10 ∧
  ∀ H' u C, Same H H' → Row H' u C → C.length ≤ 20 → Q u H'
theorem ok_linstance {f fM fA : Addr} {fd fdM fdA : FuncData} {n : Nat} (D : DefN K mg "_law_instance" sLawInstance ["draws", "index", "told"] f fd) (T : Txt mg) (DLawMix : DefN K mg "_law_mix" sLawMix ["cell", "k"] fM fdM) (DLawAt : DefN K mg "_law_at" sLawAt ["draws", "index"] fA fdA) :
    FnOk P w K mg base CX0 (n + 3) f fd ["draws", "index", "told"] spLInst := by
  have GLawAt : FnOk P w K mg base CX0 (n + 2) fA fdA ["draws", "index"] spAt := ok_at DLawAt T DLawMix
  refine D.F.ok scLawInstance (fun vs H Q E h => ?_) (fun cdv A outer s H vs Q E hr h => ?_)
  · obtain ⟨d, i, v, ds, B, rfl, _⟩ := h
    rfl
  · obtain ⟨d, i, _, ds, B, rfl, hd, hds, i0, ⟨a, p, r, xs, A1, k, rfl, eB, ha, hp, hl, hk⟩, hpos, bB, qq⟩ := h
    refine ⟨_, (pss_cons (ps_set (i := 3) scLawInstance.nd rfl (.inl rfl) (pe_lst pa_nil))
        (pss_cons (ps_for PassesOwn.never rfl (pi_list (pe_op op_cat (pe_callTy call_list_of (by rfl) T.list HL.boot_list (pa_cons (pe_ix ix_tup (pv 2) pe_int (fun _ _ => rfl)) pa_nil)) (pe_lst (pa_cons (pe_ix ix_tup (pv 2) pe_int (fun _ _ => rfl)) pa_nil)))) (pg_tup rfl (pgs_cons (pg_name (i := 4) scLawInstance.nd rfl (.inl rfl)) (pgs_cons (pg_name (i := 5) scLawInstance.nd rfl (.inl rfl)) pgs_nil))) (pss_one (ps_if (pt_val (pe_callB call_isB (by rfl) T.isinstance HL.boot_isinstance (pa_cons (pv 5) (pa_cons (pe_bltn (v := .ty "int") (by rfl) T.int HL.boot_int rfl) pa_nil)))) (pss_cons (ps_set (i := 6) scLawInstance.nd rfl (.inl rfl) (pe_call GLawAt (hr.mono (by omega)) (by rfl) DLawAt.g DLawAt.F.kp DLawAt.b .nil pass0 (pa_cons (pv 0) (pa_cons (pe_op op_add (pv 1) (pv 5)) pa_nil))))
        (pss_one (ps_expr (pe_bm PySem.F.plainAttrs_list PySem.F.slot_list_append PySem.F.type_list_append mt_append (pv 3) (pa_cons (pe_tup (pa_cons (pe_op op_add (pv 4) (pe_op op_mod (pv 6) pe_int)) (pa_cons (pe_ix ix_list (pe_lst (pa_cons pe_str (pa_cons pe_str (pa_cons pe_int (pa_cons pe_int (pa_cons pe_str pa_nil)))))) (pe_op op_mod (pe_op op_fdiv (pv 6) pe_int) pe_int) (fun _ _ => rfl)) pa_nil))) pa_nil))))) (pss_one (ps_expr (pe_bm PySem.F.plainAttrs_list PySem.F.slot_list_append PySem.F.type_list_append mt_append (pv 3) (pa_cons (pe_tup (pa_cons (pv 4) (pa_cons (pv 5) pa_nil))) pa_nil)))))))
        (C8.pss_cut (ps_if (pt_cmpR op_eq (pe_op op_mod (pe_call GLawAt (hr.mono (by omega)) (by rfl) DLawAt.g DLawAt.F.kp DLawAt.b .nil pass0 (pa_cons (pv 0) (pa_cons (pe_op op_add (pv 1) pe_int) pa_nil))) pe_int) pe_int (nomark _)) (pss_cons (ps_set (i := 7) scLawInstance.nd rfl (.inl rfl) (pe_op op_mod (pe_call GLawAt (hr.mono (by omega)) (by rfl) DLawAt.g DLawAt.F.kp DLawAt.b .nil pass0 (pa_cons (pv 0) (pa_cons (pe_op op_add (pv 1) pe_int) pa_nil))) (pe_callB call_len_seq (by rfl) T.len PySem.boot_len (pa_cons (pv 3) pa_nil))))
        (pss_one (ps_asg (pe_ix ix_list (pe_lst (pa_cons (pe_tup (pa_cons (pe_op op_add (pe_ix ix_tup (pe_ix ix_list (pv 3) (pv 7) (fun _ _ => rfl)) pe_int (fun _ _ => rfl)) pe_int) (pa_cons (pe_ix ix_tup (pe_ix ix_list (pv 3) (pv 7) (fun _ _ => rfl)) pe_int (fun _ _ => rfl)) pa_nil))) (pa_cons (pe_tup (pa_cons (pe_callB (call_max2 rfl) (by rfl) T.max (by decide +kernel) (pa_cons pe_int (pa_cons (pe_op op_sub (pe_ix ix_tup (pe_ix ix_list (pv 3) (pv 7) (fun _ _ => rfl)) pe_int (fun _ _ => rfl)) pe_int) pa_nil))) (pa_cons (pe_ix ix_tup (pe_ix ix_list (pv 3) (pv 7) (fun _ _ => rfl)) pe_int (fun _ _ => rfl)) pa_nil))) (pa_cons (pe_tup (pa_cons (pe_ix ix_tup (pe_ix ix_list (pv 3) (pv 7) (fun _ _ => rfl)) pe_int (fun _ _ => rfl)) (pa_cons pe_str pa_nil))) (pa_cons (pe_tup (pa_cons (pe_ix ix_tup (pe_ix ix_list (pv 3) (pv 7) (fun _ _ => rfl)) pe_int (fun _ _ => rfl)) (pa_cons pe_int pa_nil))) pa_nil))))) (pe_op op_mod (pe_call GLawAt (hr.mono (by omega)) (by rfl) DLawAt.g DLawAt.F.kp DLawAt.b .nil pass0 (pa_cons (pv 0) (pa_cons (pe_op op_add (pv 1) pe_int) pa_nil))) pe_int) (fun _ _ => rfl)) (pg_sub (pv 3) (pv 7) set_list)))) pss_nil)
        (C8.pss_cut (ps_if (pt_cmpR op_eq (pe_op op_mod (pe_call GLawAt (hr.mono (by omega)) (by rfl) DLawAt.g DLawAt.F.kp DLawAt.b .nil pass0 (pa_cons (pv 0) (pa_cons (pe_op op_add (pv 1) pe_int) pa_nil))) pe_int) pe_int (nomark _)) (pss_one (ps_expr (pe_bm PySem.F.plainAttrs_list PySem.F.slot_list_insert PySem.F.type_list_insert mt_insert (pv 3) (pa_cons pe_int (pa_cons (pe_tup (pa_cons pe_int (pa_cons pe_str pa_nil))) pa_nil))))) pss_nil)
        (pss_one (ps_ret (pe_tup (pa_cons (pe_callTy call_tuple_of (by rfl) T.tuple HL.boot_tuple (pa_cons (pe_slice sl_list (pv 3) po_none (po_some (pe_op op_sub (pe_callB call_len_seq (by rfl) T.len PySem.boot_len (pa_cons (pv 3) pa_nil)) pe_int))) pa_nil)) (pa_cons (pe_ix ix_list (pv 3) (pe_op op_sub (pe_callB call_len_seq (by rfl) T.len PySem.boot_len (pa_cons (pv 3) pa_nil)) pe_int) (fun _ _ => rfl)) pa_nil))))))))), ?_⟩
    have t1 : 1 ≤ sizeLine := by decide
    have t2 : 2 ≤ sizeLine := by decide
    have hA := hl.snoc hk
    rw [← eB] at hA
    have zA : xs.length ≤ 10 := by
      have := hl.len
      rw [eB] at bB
      simp at bB
      omega
    refine ⟨Nat.zero_le _, fun M hM => ?_⟩
    have sM := same_upd (o := .lst []) hM
    refine ⟨_, rfl, a, _, _, _, rfl, rfl, SqT.of (sM _ _ ha), rfl, p, xs, rfl, .inr (SqT.of (sM _ _ hp)), fun l1 h1 => ?_⟩
    have s1 := sM.trans (same_upd (o := .lst xs) h1)
    refine ⟨_, rfl, a, _, _, _, rfl, rfl, SqT.of (s1 _ _ ha), rfl, t1, fun l2 h2 => ?_⟩
    have s2 := s1.trans (same_upd (o := .lst [r]) h2)
    refine ⟨l1, l2, _, _, rfl, rfl, same_upd h2 _ _ upd_same, upd_same, small _ (by simp; omega), fun l3 h3 => ⟨l3, rfl, ⟨_, SqL.of upd_same⟩, ?_⟩⟩
    have s3 := s2.trans (same_upd (o := .lst (xs ++ [r])) h3)
    have kM2 := same_upd (o := .lst [r]) h2 _ _ (same_upd (o := .lst xs) h1 M _ (upd_same (H := H) (o := .lst [])))
    have kM : (upd (upd (upd (upd H M (.lst [])) l1 (.lst xs)) l2 (.lst [r])) l3 (.lst (xs ++ [r]))) M = some (.lst []) := same_upd h3 _ _ kM2
    have n3M : l3 ≠ M := fun e => by rw [e, kM2] at h3; cases h3
    have k3 : (upd (upd (upd (upd H M (.lst [])) l1 (.lst xs)) l2 (.lst [r])) l3 (.lst (xs ++ [r]))) l3 = some (.lst (xs ++ [r])) := upd_same
    generalize upd (upd (upd (upd H M (.lst [])) l1 (.lst xs)) l2 (.lst [r])) l3 (.lst (xs ++ [r])) = H1 at *
    have tK : ∀ {H'}, HL.Kept H1 H' M → Tups H1 H' := fun kp => kept_tups kp fun zs z => by rw [kM] at z; cases z
    have hA1 := hA.mono s3.tups
    have sm1 : ∀ {H'}, HL.Kept H1 H' M → Same H H' := fun kp b o hb => kp _ _ (ne_of_none hb hM) (s3 _ _ hb)
    have lB : (xs ++ [r]).length = B.length := hA.len
    have lB0 : 0 < B.length := by rw [← lB]; simp
    refine for_list (xs := xs ++ [r]) (fun j σ H' => ∃ y4 y5 y6 us ks, σ = [some (.ref d), some (.int i), some (.ref a), some (.ref M), y4, y5, y6, none] ∧ HL.Kept H1 H' M ∧ H' M = some (.lst us) ∧ us.length = j ∧ KL H' us ks)
      ⟨none, none, none, [], [], rfl, Kept.refl, kM, rfl, .nil⟩ (fun j σ H' _ q => ?_) ?_ ?_
    · obtain ⟨_, _, _, _, _, _, kp, _⟩ := q
      exact SqL.of (kp _ _ n3M k3)
    · rintro j x σ H' hx ⟨y4, y5, y6, us, ks, rfl, kp, hM', hul, hkl⟩
      obtain ⟨kd, hkd, b, rfl, hb, okb⟩ := (hA1.mono (tK kp)).at hx
      have jb : j < B.length := (List.getElem?_eq_some_iff.mp hkd).1
      have hd' := sm1 kp _ _ hd
      refine ⟨b, _, rfl, SqT.of hb, rfl, _, _, rfl, _, _, rfl, rfl, ?_⟩
      have app : ∀ (H2 : Hp) (t : Addr) (l : Int) (kb : Key) (y4 y5 y6 : Option V), Same H' H2 → H2 t = none → OkB kb → ∃ z4 z5 z6 us' ks', ([some (.ref d), some (.int i), some (.ref a), some (.ref M), y4, y5, y6, none] : L2.St) = [some (.ref d), some (.int i), some (.ref a), some (.ref M), z4, z5, z6, none] ∧
          HL.Kept H1 (upd (upd H2 t (.tup [.int l, kV kb])) M (.lst (us ++ [.ref t]))) M ∧ (upd (upd H2 t (.tup [.int l, kV kb])) M (.lst (us ++ [.ref t]))) M = some (.lst us') ∧ us'.length = j + 1 ∧ KL (upd (upd H2 t (.tup [.int l, kV kb])) M (.lst (us ++ [.ref t]))) us' ks' := fun H2 t l kb y4 y5 y6 sm ht ok => by
        have hM2 := sm _ _ hM'
        have nMt : M ≠ t := ne_of_none hM2 ht
        have st := same_upd (o := .tup [.int l, kV kb]) ht
        have hM3 := st _ _ hM2
        have tt : Tups H' (upd (upd H2 t (.tup [.int l, kV kb])) M (.lst (us ++ [.ref t]))) := (sm.trans st).tups.trans (kept_tups but_upd.kept fun zs z => by rw [hM3] at z; cases z)
        refine ⟨y4, y5, y6, us ++ [.ref t], ks ++ [(l, kb)], rfl, (kp.trans ((sm.trans st).kept M)).trans but_upd.kept, upd_same, by simp [hul], (hkl.mono tt).snoc ⟨t, rfl, ?_, ok⟩⟩
        rw [upd_ne nMt.symm, upd_same]
      cases e : kd.2 with
      | inr s =>
        refine ⟨_, rfl, _, "str", "int", false, rfl, .base (.str s), by decide +kernel, false, rfl, iteF ?_⟩
        refine ⟨_, rfl, .inl ⟨rfl, _, SqL.of hM'⟩, _, rfl, _, rfl, t2, fun t ht => ?_⟩
        exact ⟨M, _, _, rfl, rfl, same_upd ht _ _ hM', small' us hul (by omega), app H' t kd.1 (.inr s) _ _ _ (fun _ _ h => h) ht (by rw [← e]; exact okb)⟩
      | inl jv =>
        have jv0 := hpos kd (List.mem_of_getElem? hkd) jv e
        refine ⟨_, rfl, _, "int", "int", true, rfl, .base (.int jv), by decide +kernel, true, rfl, iteT ?_⟩
        refine ⟨_, rfl, _, rfl, _, rfl, _, _, rfl, rfl, d, ds, i + jv, rfl, hd', hds, by omega, fun v v0 v1 => ?_⟩
        refine ⟨_, rfl, .inl ⟨rfl, _, SqL.of hM'⟩, _, rfl, _, rfl, v, 3, rfl, rfl, (by show (0 : Int) < 3; decide), _, _, rfl, rfl, (by show 5 ≤ sizeLine; decide), fun L hL => ?_⟩
        have sL := same_upd (o := .lst [.str "num", .str "d", .int 0, .int 7, .str "text"]) hL
        refine ⟨_, rfl, v, 3, rfl, rfl, ⟨by decide, by decide⟩, _, _, rfl, rfl, (by show (0 : Int) < 5; decide), ?_⟩
        obtain ⟨kk, hkk, ok⟩ := pickK [.inr "num", .inr "d", .inl 0, .inl 7, .inr "text"] (by simp only [List.all_cons, List.all_nil, okB]; decide +kernel) (Int.emod_nonneg (v / 3) (show (5 : Int) ≠ 0 by decide)) (Int.emod_lt_of_pos (v / 3) (show (0 : Int) < 5 by decide))
        refine ⟨L, _, _, _, rfl, rfl, SqL.of upd_same, hkk, t2, fun t ht => ?_⟩
        exact ⟨M, _, _, rfl, rfl, same_upd ht _ _ (sL _ _ hM'), small' us hul (by omega), app _ t _ kk _ _ _ sL ht ok⟩
    · rintro σ H2 ⟨y4, y5, y6, us, ks, rfl, kp, hM2, hul, hkl⟩
      have sm2 := sm1 kp
      rw [lB] at hul
      have hus0 : us ≠ [] := fun z => by rw [z] at hul; simp at hul; omega
      have hd2 := sm2 _ _ hd
      clear kp k3 kM kM2
      refine ⟨fun σ' H' => ∃ y4 y5 y6 y7 us ks, σ' = [some (.ref d), some (.int i), some (.ref a), some (.ref M), y4, y5, y6, y7] ∧ Same H H' ∧ H' M = some (.lst us) ∧ us.length = B.length ∧ KL H' us ks, ?_, ?_⟩
      · refine ⟨_, rfl, _, rfl, _, _, rfl, rfl, d, ds, i + 9, rfl, hd2, hds, by omega, fun v v0 v1 => ⟨v, 3, rfl, rfl, (by show (0 : Int) < 3; decide), rfl, _, rfl, ite2 (fun _ => ?_) (fun _ => ⟨_, _, _, _, us, ks, rfl, sm2, hM2, hul, hkl⟩)⟩⟩
        refine ⟨_, rfl, _, rfl, _, _, rfl, rfl, d, ds, i + 10, rfl, hd2, hds, by omega, fun u u0 u1 => ⟨_, rfl, M, _, rfl, .inl (SqL.of hM2), u, _, rfl, rfl, (by show (0 : Int) < (us.length : Int); omega), ?_⟩⟩
        have q0 := Int.emod_nonneg u (show (us.length : Int) ≠ 0 by omega)
        have q1 := Int.emod_lt_of_pos u (show (0 : Int) < (us.length : Int) by omega)
        dsimp only
        generalize u % (us.length : Int) = m at q0 q1
        obtain ⟨v', ka, hv', hka, a', rfl, hva, oka⟩ := hkl.get (i := m.toNat) (by have := hkl.len; omega)
        have av : ∀ {xs : List V}, xs[m.toNat]? = some (.ref a') → atI xs m = some (.ref a') := fun h => by
          have h0 := atI_nat h
          have e : ((m.toNat : Nat) : Int) = m := by omega
          rwa [e] at h0
        have av := av hv'
        refine ⟨_, rfl, _, rfl, M, _, _, _, rfl, rfl, SqL.of hM2, av, a', _, _, _, rfl, rfl, SqT.of hva, rfl, _, _, rfl, rfl, _, rfl, _, rfl, M, _, _, _, rfl, rfl, SqL.of hM2, av, a', _, _, _, rfl, rfl, SqT.of hva, rfl, t2, fun c1 g1 => ?_⟩
        have z1 := same_upd (o := .tup [.int (ka.1 + 1), kV ka.2]) g1
        have hM3 := z1 _ _ hM2
        have hva3 := z1 _ _ hva
        refine ⟨_, rfl, _, rfl, M, _, _, _, rfl, rfl, SqL.of hM3, av, a', _, _, _, rfl, rfl, SqT.of hva3, rfl, _, _, rfl, rfl, 0, _, rfl, _, rfl, _, rfl, M, _, _, _, rfl, rfl, SqL.of hM3, av, a', _, _, _, rfl, rfl, SqT.of hva3, rfl, t2, fun c2 g2 => ?_⟩
        have z2 := z1.trans (same_upd (o := .tup [.int (if ka.1 - 1 > 0 then ka.1 - 1 else 0), kV ka.2]) g2)
        have hM4 := z2 _ _ hM2
        have hva4 := z2 _ _ hva
        refine ⟨_, rfl, _, rfl, M, _, _, _, rfl, rfl, SqL.of hM4, av, a', _, _, _, rfl, rfl, SqT.of hva4, rfl, t2, fun c3 g3 => ?_⟩
        have z3 := z2.trans (same_upd (o := .tup [.int ka.1, .str "bool"]) g3)
        have hM5 := z3 _ _ hM2
        have hva5 := z3 _ _ hva
        refine ⟨_, rfl, _, rfl, M, _, _, _, rfl, rfl, SqL.of hM5, av, a', _, _, _, rfl, rfl, SqT.of hva5, rfl, t2, fun c4 g4 => ?_⟩
        have z4 := z3.trans (same_upd (o := .tup [.int ka.1, .int 3]) g4)
        refine ⟨(by show 4 ≤ sizeLine; decide), fun L hL => ?_⟩
        have z5 := z4.trans (same_upd (o := .lst [.ref c1, .ref c2, .ref c3, .ref c4]) hL)
        have k1 : KAt (upd (upd (upd (upd (upd H2 c1 (.tup [.int (ka.1 + 1), kV ka.2])) c2 (.tup [.int (if ka.1 - 1 > 0 then ka.1 - 1 else 0), kV ka.2])) c3 (.tup [.int ka.1, .str "bool"])) c4 (.tup [.int ka.1, .int 3])) L (.lst [.ref c1, .ref c2, .ref c3, .ref c4])) (.ref c1) (ka.1 + 1, ka.2) :=
          ⟨c1, rfl, same_upd hL _ _ (same_upd g4 _ _ (same_upd g3 _ _ (same_upd g2 _ _ upd_same))), oka⟩
        have k2 : KAt (upd (upd (upd (upd (upd H2 c1 (.tup [.int (ka.1 + 1), kV ka.2])) c2 (.tup [.int (if ka.1 - 1 > 0 then ka.1 - 1 else 0), kV ka.2])) c3 (.tup [.int ka.1, .str "bool"])) c4 (.tup [.int ka.1, .int 3])) L (.lst [.ref c1, .ref c2, .ref c3, .ref c4])) (.ref c2) ((if ka.1 - 1 > 0 then ka.1 - 1 else 0), ka.2) :=
          ⟨c2, rfl, same_upd hL _ _ (same_upd g4 _ _ (same_upd g3 _ _ upd_same)), oka⟩
        have k3 : KAt (upd (upd (upd (upd (upd H2 c1 (.tup [.int (ka.1 + 1), kV ka.2])) c2 (.tup [.int (if ka.1 - 1 > 0 then ka.1 - 1 else 0), kV ka.2])) c3 (.tup [.int ka.1, .str "bool"])) c4 (.tup [.int ka.1, .int 3])) L (.lst [.ref c1, .ref c2, .ref c3, .ref c4])) (.ref c3) (ka.1, .inr "bool") :=
          ⟨c3, rfl, same_upd hL _ _ (same_upd g4 _ _ upd_same), okB_iff (by simp only [okB]; decide +kernel)⟩
        have k4 : KAt (upd (upd (upd (upd (upd H2 c1 (.tup [.int (ka.1 + 1), kV ka.2])) c2 (.tup [.int (if ka.1 - 1 > 0 then ka.1 - 1 else 0), kV ka.2])) c3 (.tup [.int ka.1, .str "bool"])) c4 (.tup [.int ka.1, .int 3])) L (.lst [.ref c1, .ref c2, .ref c3, .ref c4])) (.ref c4) (ka.1, .inl 3) :=
          ⟨c4, rfl, same_upd hL _ _ upd_same, okB_iff rfl⟩
        have hL5 : (upd (upd (upd (upd (upd H2 c1 (.tup [.int (ka.1 + 1), kV ka.2])) c2 (.tup [.int (if ka.1 - 1 > 0 then ka.1 - 1 else 0), kV ka.2])) c3 (.tup [.int ka.1, .str "bool"])) c4 (.tup [.int ka.1, .int 3])) L (.lst [.ref c1, .ref c2, .ref c3, .ref c4])) L = some (.lst [.ref c1, .ref c2, .ref c3, .ref c4]) := upd_same
        generalize upd (upd (upd (upd (upd H2 c1 (.tup [.int (ka.1 + 1), kV ka.2])) c2 (.tup [.int (if ka.1 - 1 > 0 then ka.1 - 1 else 0), kV ka.2])) c3 (.tup [.int ka.1, .str "bool"])) c4 (.tup [.int ka.1, .int 3])) L (.lst [.ref c1, .ref c2, .ref c3, .ref c4]) = H6 at *
        have hM6 := z5 _ _ hM2
        refine ⟨_, rfl, _, rfl, _, _, rfl, rfl, d, ds, i + 11, rfl, z5 _ _ hd2, hds, by omega, fun y y0 y1 => ⟨y, 4, rfl, rfl, (by show (0 : Int) < 4; decide), ?_⟩⟩
        obtain ⟨x, kx, hx, hkx⟩ : ∃ x k, atI [V.ref c1, V.ref c2, V.ref c3, V.ref c4] (y % 4) = some x ∧ KAt H6 x k := by
          have e0 := Int.emod_nonneg y (show (4 : Int) ≠ 0 by decide)
          have e1 := Int.emod_lt_of_pos y (show (0 : Int) < 4 by decide)
          have : y % 4 = ((0 : Nat) : Int) ∨ y % 4 = ((1 : Nat) : Int) ∨ y % 4 = ((2 : Nat) : Int) ∨ y % 4 = ((3 : Nat) : Int) := by omega
          rcases this with e | e | e | e <;> rw [e]
          · exact ⟨_, _, atI_nat rfl, k1⟩
          · exact ⟨_, _, atI_nat rfl, k2⟩
          · exact ⟨_, _, atI_nat rfl, k3⟩
          · exact ⟨_, _, atI_nat rfl, k4⟩
        refine ⟨L, _, _, x, rfl, rfl, SqL.of hL5, hx, _, rfl, _, rfl, M, us, m, m.toNat, rfl, rfl, hM6, ?_, ?_⟩
        · unfold ixN
          rw [if_pos q0, if_pos q1]
        · have tt : Tups H6 (upd H6 M (.lst (us.set m.toNat x))) := kept_tups but_upd.kept fun zs z => by rw [hM6] at z; cases z
          refine ⟨_, _, _, _, us.set m.toNat x, ks.set m.toNat kx, rfl, fun b o hb => ?_, upd_same, by rw [List.length_set]; exact hul, ((hkl.mono z5.tups).mono tt).set (hkx.mono tt) _⟩
          rw [upd_ne (ne_of_none hb hM)]
          exact z5 _ _ (sm2 _ _ hb)
      · clear hM2 hul hkl hus0 hd2 sm2
        rintro σ' H' ⟨y4, y5, y6, y7, us, ks, rfl, sm2, hM2, hul, hkl⟩
        have hd2 := sm2 _ _ hd
        refine ⟨fun σ' H' => ∃ y4 y5 y6 y7 us ks, σ' = [some (.ref d), some (.int i), some (.ref a), some (.ref M), y4, y5, y6, y7] ∧ Same H H' ∧ H' M = some (.lst us) ∧ us ≠ [] ∧ us.length ≤ 20 ∧ KL H' us ks, ?_, ?_⟩
        · refine ⟨_, rfl, _, rfl, _, _, rfl, rfl, d, ds, i + 12, rfl, hd2, hds, by omega, fun v v0 v1 => ⟨v, 11, rfl, rfl, (by show (0 : Int) < 11; decide), rfl, _, rfl, ite2 (fun _ => ?_) (fun _ => ⟨_, _, _, _, us, ks, rfl, sm2, hM2, fun z => by rw [z] at hul; simp at hul; omega, by omega, hkl⟩)⟩⟩
          refine ⟨_, rfl, .inl ⟨rfl, _, SqL.of hM2⟩, t2, fun c hc => ?_⟩
          have st := same_upd (o := .tup [.int 0, .str "num"]) hc
          have hM3 := st _ _ hM2
          refine ⟨M, us, 0, .ref c, rfl, rfl, hM3, small' us hul (by omega), by decide, by decide, ?_⟩
          have tt := (st.tups).trans (kept_tups (but_upd (H := upd H' c (.tup [.int 0, .str "num"])) (o := .lst (us.take (0 : Int).toNat ++ [.ref c] ++ us.drop (0 : Int).toNat))).kept fun zs z => by rw [hM3] at z; cases z)
          refine ⟨_, _, _, _, .ref c :: us, (0, .inr "num") :: ks, rfl, fun b o hb => ?_, upd_same, by simp, by simp; omega, .cons ⟨c, rfl, ?_, okB_iff (by simp only [okB]; decide +kernel)⟩ (hkl.mono tt)⟩
          · rw [upd_ne (ne_of_none hb hM)]
            exact st _ _ (sm2 _ _ hb)
          · rw [upd_ne (ne_of_none hM2 hc).symm, upd_same]
            rfl
        · clear hM2 hul hkl hd2 sm2
          rintro σ' H' ⟨y4, y5, y6, y7, us, ks, rfl, sm2, hM2, hus0, hul, hkl⟩
          have lk := hkl.len
          obtain ⟨A, k, rfl⟩ : ∃ A k, ks = A ++ [k] := ⟨ks.dropLast, ks.getLast (fun z => by rw [z] at lk; exact hus0 (List.length_eq_zero_iff.mp lk)), (List.dropLast_concat_getLast _).symm⟩
          obtain ⟨zs, v, rfl, g1, g2⟩ := hkl.split
          have hzl : (((zs ++ [v]).length : Nat) : Int) - 1 = ((zs.length : Nat) : Int) := by simp
          have at_ : atI (zs ++ [v]) ((((zs ++ [v]).length : Nat) : Int) - 1) = some v := by rw [hzl]; exact atI_nat (by simp)
          refine ⟨_, rfl, _, rfl, M, _, rfl, .inl (SqL.of hM2), _, _, rfl, rfl, _, rfl, M, _, rfl, SqL.of hM2, fun q hq => ⟨q, _, rfl, .inl ⟨SqL.of upd_same, fun l hl => ?_⟩⟩⟩
          have hus2 := same_upd (o := .tup (cutV (zs ++ [v]) none (some ((((zs ++ [v]).length : Nat) : Int) - 1)))) hl _ _ (same_upd (o := .lst (cutV (zs ++ [v]) none (some ((((zs ++ [v]).length : Nat) : Int) - 1)))) hq _ _ hM2)
          have sL := fun (z : Addr) hz => (same_upd (o := .lst (cutV (zs ++ [v]) none (some ((((zs ++ [v]).length : Nat) : Int) - 1)))) hq).trans ((same_upd (o := .tup (cutV (zs ++ [v]) none (some ((((zs ++ [v]).length : Nat) : Int) - 1)))) hl).trans (same_upd (p := z) (o := .tup [.ref l, v]) hz))
          refine ⟨_, rfl, _, rfl, M, _, rfl, .inl (SqL.of hus2), _, _, rfl, rfl, M, _, _, _, rfl, rfl, SqL.of hus2, at_, t2, fun z hz => qq _ _ (A ++ [k]) (sm2.trans (sL z hz)) ?_ ?_⟩
          · refine ⟨z, l, v, zs, A, k, rfl, rfl, upd_same, ?_, g1.mono (sL z hz).tups, g2.mono (sL z hz).tups⟩
            have := same_upd (o := .tup [.ref l, v]) hz l _ upd_same
            exact this.trans (by rw [hzl, cutV_pre])
          · omega
end
end Q10
namespace Q10
open PySem PySem.Spec PyProof.Rows L2 SX HL
/-! ### a scheme's scheme is itself -/
theorem idx_inj {o : List Int} {x y : Int} (hx : x ∈ o) (hy : y ∈ o) (h : o.idxOf x = o.idxOf y) : x = y := by
  have h1 := idx_at hx
  have h2 := idx_at hy
  rw [h, h2] at h1
  cases h1
  rfl
theorem idx_map {o : List Int} (f : Int → Int) {l : List Int} {x : Int} (hf : ∀ a ∈ o, ∀ b ∈ o, f a = f b → a = b) (hl : ∀ a ∈ l, a ∈ o) (hx : x ∈ o) : (l.map f).idxOf (f x) = l.idxOf x := by
  induction l with
  | nil => rfl
  | cons y r ih =>
    rw [List.map_cons, List.idxOf_cons, List.idxOf_cons, ih fun a ha => hl a (List.mem_cons_of_mem _ ha)]
    have : (f y == f x) = (y == x) := by
      rw [Bool.eq_iff_iff, beq_iff_eq, beq_iff_eq]
      exact ⟨hf y (hl y (List.mem_cons_self ..)) x hx, fun e => by rw [e]⟩
    rw [this]
theorem fold_map {o : List Int} (B : List Kd) : ∀ acc : List Int, (∀ a ∈ acc, a ∈ o) → (∀ k ∈ B, ∀ i, k.2 = .inl i → i ∈ o) → (B.map (numK o)).foldl addB (acc.map fun i => ((o.idxOf i : Nat) : Int)) = (B.foldl addB acc).map fun i => ((o.idxOf i : Nat) : Int) := by
  induction B with
  | nil => exact fun _ _ _ => rfl
  | cons k B ih =>
    intro acc h1 h2
    have inj : ∀ a ∈ o, ∀ b ∈ o, ((o.idxOf a : Nat) : Int) = ((o.idxOf b : Nat) : Int) → a = b := fun a ha b hb e => idx_inj ha hb (by omega)
    have st : addB (acc.map fun i => ((o.idxOf i : Nat) : Int)) (numK o k) = (addB acc k).map fun i => ((o.idxOf i : Nat) : Int) := by
      unfold addB numK
      cases e : k.2 with
      | inr s => rfl
      | inl i =>
        have hi := h2 k (List.mem_cons_self ..) i e
        dsimp only
        have : ((o.idxOf i : Nat) : Int) ∈ (acc.map fun i => ((o.idxOf i : Nat) : Int)) ↔ i ∈ acc := by
          rw [List.mem_map]
          refine ⟨fun ⟨j, hj, ej⟩ => ?_, fun h => ⟨i, h, rfl⟩⟩
          rw [← inj j (h1 j hj) i hi ej]
          exact hj
        by_cases m : i ∈ acc
        · rw [if_pos m, if_pos (this.mpr m)]
        · rw [if_neg m, if_neg fun z => m (this.mp z)]
          simp
    rw [List.map_cons, List.foldl_cons, List.foldl_cons, st]
    refine ih _ (fun a ha => ?_) fun k' hk' => h2 k' (List.mem_cons_of_mem _ hk')
    unfold addB at ha
    cases e : k.2 with
    | inr s => rw [e] at ha; exact h1 a ha
    | inl i =>
      rw [e] at ha
      dsimp only at ha
      split at ha
      · exact h1 a ha
      · rcases List.mem_append.mp ha with ha | ha
        · exact h1 a ha
        · rw [List.mem_singleton.mp ha]
          exact h2 k (List.mem_cons_self ..) i e
theorem ord_mem {B : List Kd} {k : Kd} (h : k ∈ B) {i : Int} (e : k.2 = .inl i) : i ∈ ordK B := by
  obtain ⟨j, hj⟩ := List.mem_iff_getElem?.mp h
  have e1 : B.take (j + 1) = B.take j ++ [k] := by rw [List.take_add_one, hj]; rfl
  have e2 : ordK B = (B.drop (j + 1)).foldl addB (ordK (B.take (j + 1))) := by
    unfold ordK
    rw [← List.foldl_append, List.take_append_drop]
  obtain ⟨t, g⟩ := fold_pre (B.drop (j + 1)) (ordK (B.take (j + 1)))
  rw [e2, g, e1, ordK_snoc]
  exact List.mem_append_left _ (addB_mem e)
theorem schK_idem (B : List Kd) : schK (schK B) = schK B := by
  have h2 : ∀ k ∈ B, ∀ i, k.2 = .inl i → i ∈ ordK B := fun k hk i e => ord_mem hk e
  have e : ordK (schK B) = (ordK B).map fun i => (((ordK B).idxOf i : Nat) : Int) := fold_map B [] (fun _ h => by cases h) h2
  have inj : ∀ a ∈ ordK B, ∀ b ∈ ordK B, (((ordK B).idxOf a : Nat) : Int) = (((ordK B).idxOf b : Nat) : Int) → a = b := fun a ha b hb e => idx_inj ha hb (by omega)
  show (schK B).map (numK (ordK (schK B))) = schK B
  rw [e]
  show (B.map (numK (ordK B))).map _ = B.map (numK (ordK B))
  rw [List.map_map]
  refine List.map_congr_left fun k hk => ?_
  show numK _ (numK (ordK B) k) = numK (ordK B) k
  unfold numK
  cases ek : k.2 with
  | inr s => rfl
  | inl i =>
    dsimp only
    rw [idx_map (fun i => (((ordK B).idxOf i : Nat) : Int)) inj (fun a h => h) (h2 k hk i ek)]
theorem schK_pos {B : List Kd} {k : Kd} (h : k ∈ schK B) {j : Int} (e : k.2 = .inl j) : 0 ≤ j := by
  obtain ⟨c, _, rfl⟩ := List.mem_map.mp h
  unfold numK at e
  cases ec : c.2 with
  | inr s => rw [ec] at e; cases e
  | inl i =>
    rw [ec] at e
    cases e
    exact Int.natCast_nonneg _
section
variable {P : Program} {w : World} {K : PySem.W.Frag} {mg : Str → Option Value} {base : Heap}
theorem KAt.same {H : Hp} {v u : V} {k : Kd} (h : KAt H v k) (g : KAt H u k) : SameD K H 1 v u := by
  obtain ⟨a, rfl, ha, _⟩ := h
  obtain ⟨b, rfl, hb, _⟩ := g
  refine .row ha hb (by show 2 ≤ 1000000; decide) fun x hx => ?_
  rcases List.mem_cons.mp hx with rfl | hx
  · exact True.intro
  · rw [List.mem_singleton.mp hx]
    cases k.2 <;> exact True.intro
theorem Row.same {H : Hp} {v u : V} {B : List Kd} (h : Row H v B) (g : Row H u B) (hB : B.length ≤ 100) : SameD K H 3 v u := by
  obtain ⟨a, p, r, xs, A, k, rfl, rfl, ha, hp, hl, hk⟩ := h
  obtain ⟨b, q, r2, ys, A2, k2, rfl, e, hb, hq, hl2, hk2⟩ := g
  obtain ⟨rfl, e3⟩ := List.append_inj' e rfl
  cases e3
  refine .seq (.tup ha) (.tup hb) rfl (by show 2 ≤ 1000000; decide) fun i x y hx hy => ?_
  match i with
  | 0 =>
    cases hx
    cases hy
    refine .seq (.tup hp) (.tup hq) (by rw [hl.len, hl2.len]) (by rw [hl2.len]; simp at hB; omega) fun j x y hx hy => ?_
    obtain ⟨c, hc, h1⟩ := hl.at hx
    obtain ⟨d, hd, h2⟩ := hl2.at hy
    rw [hc] at hd
    cases hd
    exact h1.same h2
  | 1 =>
    cases hx
    cases hy
    have := hk.same (K := K) hk2
    obtain ⟨a', rfl, ha', _⟩ := hk
    obtain ⟨b', rfl, hb', _⟩ := hk2
    refine .row ha' hb' (by show 2 ≤ 1000000; decide) fun x hx => ?_
    rcases List.mem_cons.mp hx with rfl | hx
    · exact True.intro
    · rw [List.mem_singleton.mp hx]
      cases k.2 <;> exact True.intro
  | n + 2 => simp at hx
def spLaw (K : PySem.W.Frag) : Sp := fun vs H Q _ => ∃ (a : Addr) (ns : List Int), vs = [.ref a] ∧ SqL K H a (ns.map V.int) ∧ ns.length ≤ 63 ∧ ∀ H', Q (.bl true) H'
theorem ok_law {f f1 f2 f3 f4 f5 f6 f7 f8 f9 f10 f11 f12 f13 : Addr} {fd fd1 fd2 fd3 fd4 fd5 fd6 fd7 fd8 fd9 fd10 fd11 fd12 fd13 : FuncData} {n : Nat} (D : DefN K mg "law" sLaw ["script"] f fd) (T : Txt mg)
    (DScheme : DefN K mg "scheme" sScheme ["arguments", "result"] f1 fd1) (DIsInstance : DefN K mg "is_instance" sIsInstance ["first", "second"] f2 fd2) (DIsReplaced : DefN K mg "is_replaced" sIsReplaced ["kind", "pattern", "found"] f3 fd3)
    (DLawMix : DefN K mg "_law_mix" sLawMix ["cell", "k"] f4 fd4) (DLawDraws : DefN K mg "_law_draws" sLawDraws ["script"] f5 fd5) (DLawAt : DefN K mg "_law_at" sLawAt ["draws", "index"] f6 fd6)
    (DLawIsInteger : DefN K mg "_law_is_integer" sLawIsInteger ["actual"] f7 fd7) (DLawSame : DefN K mg "_law_same" sLawSame ["actual", "expected"] f8 fd8) (DLawKind : DefN K mg "_law_kind" sLawKind ["draws", "index", "numbers"] f9 fd9)
    (DLawPair : DefN K mg "_law_pair" sLawPair ["draws", "index", "numbers"] f10 fd10) (DLawScheme : DefN K mg "_law_scheme" sLawScheme ["arguments", "result"] f11 fd11)
    (DLawIsInstance : DefN K mg "_law_is_instance" sLawIsInstance ["first", "second"] f12 fd12) (DLawInstance : DefN K mg "_law_instance" sLawInstance ["draws", "index", "told"] f13 fd13) :
    FnOk P w K mg base CX0 6 f fd ["script"] (spLaw K) := by
  have GLawDraws : FnOk P w K mg base CX0 2 f5 fd5 ["script"] (spDraws K) := ok_draws (k := 0) DLawDraws T DLawMix
  have GLawAt : FnOk P w K mg base CX0 2 f6 fd6 ["draws", "index"] spAt := ok_at (k := 0) DLawAt T DLawMix
  have GLawPair : FnOk P w K mg base CX0 4 f10 fd10 ["draws", "index", "numbers"] spPair := ok_pair (n := 0) DLawPair T DLawMix DLawAt DLawKind
  have GScheme : FnOk P w K mg base CX0 1 f1 fd1 ["arguments", "result"] spScheme := ok_scheme (n := 0) DScheme T
  have GLawScheme : FnOk P w K mg base CX0 1 f11 fd11 ["arguments", "result"] spScheme := ok_lscheme (n := 0) DLawScheme T
  have GLawSame : FnOk P w K mg base CX0 5 f8 fd8 ["actual", "expected"] (spSameG K 3) := ok_same DLawSame T DLawIsInteger 3
  have GIsInstance : FnOk P w K mg base CX0 2 f2 fd2 ["first", "second"] spInst := ok_inst (n := 0) DIsInstance T DIsReplaced
  have GLawIsInstance : FnOk P w K mg base CX0 1 f12 fd12 ["first", "second"] spInst := ok_linst (n := 0) DLawIsInstance T
  have GLawInstance : FnOk P w K mg base CX0 3 f13 fd13 ["draws", "index", "told"] spLInst := ok_linstance (n := 0) DLawInstance T DLawMix DLawAt
  refine D.F.ok scLaw (fun vs H Q E h => ?_) (fun cdv A outer s H vs Q E hr h => ?_)
  · obtain ⟨a, ns, rfl, _⟩ := h
    rfl
  · obtain ⟨a, ns, rfl, hS, hn, qq⟩ := h
    refine ⟨_, (pss_cons (ps_set (i := 1) scLaw.nd rfl (.inr rfl) (pe_call GLawDraws (hr.mono (by omega)) (by rfl) DLawDraws.g DLawDraws.F.kp DLawDraws.b .nil pass0 (pa_cons (pv 0) pa_nil)))
        (pss_cons (ps_for PassesOwn.never rfl (pi_range1 (by rfl) T.range (pa_cons pe_int pa_nil)) (pg_name (i := 2) scLaw.nd rfl (.inr rfl)) (pss_cons (ps_setLc (i := 3) (own := [("j", 9)]) (g := (gName 9)) (by rfl) scLaw.nd rfl rfl (sw_true rfl rfl rfl (by decide +kernel)) (pi_range1 (by rfl) T.range (pa_cons pe_int pa_nil)) (blkOk_by (own := [("j", 9)]) (N := ["script", "draws", "k", "numbers", "arguments", "result", "due", "others", "pair", "j"]) (sc := defScope sLaw) (by decide +kernel)) (fun _ _ _ _ _ => (pg_name (i := 9) scLaw.nd rfl (Or.inl rfl))) (fun _ _ _ _ _ => pts_nil) (fun _ _ _ _ _ => (pe_op op_mod (pe_op op_add (pe_call GLawAt (hr.mono (by omega)) (by rfl) DLawAt.g DLawAt.F.kp DLawAt.b .nil pass0 (pa_cons (pv 1) (pa_cons (pe_op op_add pe_int (pe_op op_mul pe_int (pv 2))) pa_nil))) (pe_op op_mul pe_int (pv 9))) pe_int)))
        (pss_cons (ps_asg (pe_call GLawPair (hr.mono (by omega)) (by rfl) DLawPair.g DLawPair.F.kp DLawPair.b .nil pass0 (pa_cons (pv 1) (pa_cons (pe_op op_add pe_int (pe_op op_mul pe_int (pv 2))) (pa_cons (pv 3) pa_nil)))) (pg_unl rfl (pgs_cons (pg_name (i := 4) scLaw.nd rfl (.inl rfl)) (pgs_cons (pg_name (i := 5) scLaw.nd rfl (.inl rfl)) pgs_nil))))
        (pss_cons (ps_set (i := 6) scLaw.nd rfl (.inl rfl) (pe_call GLawScheme (hr.mono (by omega)) (by rfl) DLawScheme.g DLawScheme.F.kp DLawScheme.b .nil pass0 (pa_cons (pv 4) (pa_cons (pv 5) pa_nil))))
        (pss_cons (ps_if (PW.pt (pw_or (pt_not (pt_val (pe_call GLawSame (hr.mono (by omega)) (by rfl) DLawSame.g DLawSame.F.kp DLawSame.b .nil pass0 (pa_cons (pe_call GScheme (hr.mono (by omega)) (by rfl) DScheme.g DScheme.F.kp DScheme.b .nil pass0 (pa_cons (pe_callTy call_tuple_of (by rfl) T.tuple HL.boot_tuple (pa_cons (pv 4) pa_nil)) (pa_cons (pv 5) pa_nil))) (pa_cons (pv 6) pa_nil))))) (pw_or1 (pt_not (pt_val (pe_call GLawSame (hr.mono (by omega)) (by rfl) DLawSame.g DLawSame.F.kp DLawSame.b .nil pass0 (pa_cons (pe_call GScheme (hr.mono (by omega)) (by rfl) DScheme.g DScheme.F.kp DScheme.b .nil pass0 (pa_cons (pe_ix ix_tup (pv 6) pe_int (fun _ _ => rfl)) (pa_cons (pe_ix ix_tup (pv 6) pe_int (fun _ _ => rfl)) pa_nil))) (pa_cons (pv 6) pa_nil)))))))) (pss_one (ps_ret pe_bl)) pss_nil)
        (pss_cons (ps_set (i := 7) scLaw.nd rfl (.inl rfl) (pe_call GLawPair (hr.mono (by omega)) (by rfl) DLawPair.g DLawPair.F.kp DLawPair.b .nil pass0 (pa_cons (pv 1) (pa_cons (pe_op op_add pe_int (pe_op op_mul pe_int (pv 2))) (pa_cons (pe_lst (pa_cons pe_int (pa_cons pe_int (pa_cons pe_int (pa_cons pe_int pa_nil))))) pa_nil)))))
        (pss_one (ps_for PassesOwn.never rfl (pi_list (pe_lst (pa_cons (pe_call GLawInstance (hr.mono (by omega)) (by rfl) DLawInstance.g DLawInstance.F.kp DLawInstance.b .nil pass0 (pa_cons (pv 1) (pa_cons (pe_op op_add pe_int (pe_op op_mul pe_int (pv 2))) (pa_cons (pv 6) pa_nil)))) (pa_cons (pe_tup (pa_cons (pe_callTy call_tuple_of (by rfl) T.tuple HL.boot_tuple (pa_cons (pe_ix ix_list (pv 7) pe_int (fun _ _ => rfl)) pa_nil)) (pa_cons (pe_ix ix_list (pv 7) pe_int (fun _ _ => rfl)) pa_nil))) (pa_cons (pv 6) pa_nil))))) (pg_name (i := 8) scLaw.nd rfl (.inl rfl)) (pss_one (ps_if (pt_not (pt_val (pe_call GLawSame (hr.mono (by omega)) (by rfl) DLawSame.g DLawSame.F.kp DLawSame.b .nil pass0 (pa_cons (pe_call GIsInstance (hr.mono (by omega)) (by rfl) DIsInstance.g DIsInstance.F.kp DIsInstance.b .nil pass0 (pa_cons (pv 8) (pa_cons (pv 6) pa_nil))) (pa_cons (pe_call GLawIsInstance (hr.mono (by omega)) (by rfl) DLawIsInstance.g DLawIsInstance.F.kp DLawIsInstance.b .nil pass0 (pa_cons (pv 8) (pa_cons (pv 6) pa_nil))) pa_nil))))) (pss_one (ps_ret pe_bl)) pss_nil))))))))))
        (pss_one (ps_ret pe_bl)))), ?_⟩
    have t2 : 2 ≤ sizeLine := by decide
    refine ⟨_, rfl, a, ns, rfl, hS, hn, fun d H1 ds hd s1 hdd hdl hds => ⟨6, rfl, by decide, by decide, ?_⟩⟩
    refine for_range (lo := 0) (n := 6) (fun i σ H' => ∃ y2 y3 y4 y5 y6 y7 y8, σ = [some (.ref a), some (.ref d), y2, y3, y4, y5, y6, y7, y8, none] ∧ H' d = some (.lst (ds.map V.int))) ⟨none, none, none, none, none, none, none, rfl, hdd⟩ ?_ (fun σ H' _ => qq H')
    rintro i σ H2 hi ⟨y2, y3, y4, y5, y6, y7, y8, rfl, hd2⟩
    refine ⟨4, rfl, by decide, by decide, fun D0 hD => ?_⟩
    refine lc_range (lo := 0) (n := 4) (fun j H' => Same H2 H' ∧ ∃ us : List Int, H' D0 = some (.lst (us.map V.int)) ∧ us.length = j) ⟨same_upd hD, [], upd_same, rfl⟩ ?_ ?_
    · rintro j H' hj ⟨sm, us, hus, hul⟩
      refine ⟨rfl, lc_yes ?_⟩
      refine ⟨_, rfl, _, rfl, 60, _, rfl, rfl, .inl ⟨by decide, by decide⟩, 10, _, rfl, rfl, d, ds, 10 + 60 * (0 + (i : Int)), rfl, sm _ _ hd2, hds, by omega, fun v v0 v1 => ?_⟩
      refine ⟨_, rfl, 29, _, rfl, rfl, .inl ⟨by decide, by decide⟩, v, _, rfl, rfl, _, 200, rfl, rfl, (by show (0 : Int) < 200; decide), us.map V.int, hus, ?_, fun b o hb => ?_, us ++ [(v + 29 * (0 + (j : Int))) % 200], ?_, by simp [hul]⟩
      · rw [List.length_map]
        exact Nat.lt_of_le_of_lt (show us.length ≤ 100 by omega) (by decide)
      · rw [upd_ne (ne_of_none hb hD)]
        exact sm _ _ hb
      · rw [upd_same]
        simp
    · rintro H3 ⟨sm3, us, hus, hul⟩
      obtain ⟨n0, n1, n2, n3, rfl⟩ : ∃ n0 n1 n2 n3, us = [n0, n1, n2, n3] := by
        match us, hul with
        | [a, b, c, d], _ => exact ⟨a, b, c, d, rfl⟩
      refine ⟨_, rfl, _, rfl, 60, _, rfl, rfl, .inl ⟨by decide, by decide⟩, 14, _, rfl, rfl, _, rfl, d, D0, 14 + 60 * (0 + (i : Int)), n0, n1, n2, n3, ds, rfl, sm3 _ _ hd2, hds, by omega, hus, fun H4 l A k s4 hpair hA => ?_⟩
      obtain ⟨p, r, xs, hl, hp, hkl, hk⟩ := hpair
      refine ⟨l, _, rfl, SqL.of hl, rfl, _, _, rfl, _, _, rfl, rfl, ?_⟩
      refine ⟨_, rfl, _, rfl, p, xs, r, A, k, rfl, hp, hkl, hk, by omega, fun H5 v s5 hrow => ?_⟩
      have hlen : (schK (A ++ [k])).length ≤ 5 := by
        unfold schK
        simp
        omega
      refine ⟨_, rfl, p, _, rfl, .inr ⟨SqT.of (s5 _ _ hp), _, rfl, p, xs, r, A, k, rfl, s5 _ _ hp, hkl.mono s5.tups, hk.mono s5.tups, by omega, fun H6 v2 s6 hrow2 => ?_⟩⟩
      refine ⟨_, rfl, v2, v, rfl, hrow2.same (hrow.mono s6.tups) (by omega), fun H7 s7 => ⟨true, rfl, iteF ?_⟩⟩
      have s57 := s6.trans s7
      have hrow7 := hrow.mono s57.tups
      obtain ⟨a2, p2, r2, zs, A2, k2, rfl, eB, h1, h2, h3, h4⟩ := id hrow7
      have hA2 : A2.length ≤ 10 := by
        rw [eB] at hlen
        simp at hlen
        omega
      refine ⟨_, rfl, a2, _, _, _, rfl, rfl, SqT.of h1, rfl, _, rfl, a2, _, _, _, rfl, rfl, SqT.of h1, rfl, p2, zs, r2, A2, k2, rfl, h2, h3, h4, by omega, fun H8 v3 s8 hrow3 => ?_⟩
      rw [← eB, schK_idem] at hrow3
      refine ⟨_, rfl, v3, _, rfl, hrow3.same (hrow7.mono s8.tups) (by omega), fun H9 s9 => ⟨true, rfl, iteF ?_⟩⟩
      have s79 := s8.trans s9
      have s29 : Same H2 H9 := (sm3.trans s4).trans ((s5.trans s57).trans s79)
      have hrow9 := hrow7.mono s79.tups
      have hd9 := s29 _ _ hd2
      refine ⟨_, rfl, _, rfl, 60, _, rfl, rfl, .inl ⟨by decide, by decide⟩, 28, _, rfl, rfl, (by show 4 ≤ sizeLine; decide), fun L hL => ?_⟩
      have sL := same_upd (o := .lst [.int 0, .int 1, .int 2, .int 3]) hL
      refine ⟨d, L, 28 + 60 * (0 + (i : Int)), 0, 1, 2, 3, ds, rfl, sL _ _ hd9, hds, by omega, upd_same, fun H10 lo Ao ko s10 hpo hAo => ?_⟩
      have s910 := sL.trans s10
      have hrow10 := hrow9.mono s910.tups
      have hd10 := s910 _ _ hd9
      obtain ⟨po, ro, xo, hlo, hpo', hklo, hko⟩ := hpo
      refine ⟨_, rfl, _, rfl, 60, _, rfl, rfl, .inl ⟨by decide, by decide⟩, 42, _, rfl, rfl, _, rfl, d, 42 + 60 * (0 + (i : Int)), .ref a2, ds, schK (A ++ [k]), rfl, hd10, hds, by omega, hrow10, fun c hc j e => schK_pos hc e, by omega, fun H11 u C s11 hrowC hC => ?_⟩
      refine ⟨_, rfl, lo, _, _, _, rfl, rfl, SqL.of (s11 _ _ hlo), rfl, po, _, rfl, .inr ⟨SqT.of (s11 _ _ hpo'), _, rfl, lo, _, _, _, rfl, rfl, SqL.of (s11 _ _ hlo), rfl, t2, fun t ht => ?_⟩⟩
      have st := same_upd (o := .tup [.ref po, ro]) ht
      have s12 := s11.trans st
      refine ⟨_, rfl, (by show 3 ≤ sizeLine; decide), fun L2 hL2 => ⟨L2, rfl, ⟨_, SqL.of upd_same⟩, ?_⟩⟩
      have sL2 := same_upd (o := .lst [u, .ref t, .ref a2]) hL2
      have r1 : Row (upd (upd H11 t (.tup [.ref po, ro])) L2 (.lst [u, .ref t, .ref a2])) u C := (hrowC.mono st.tups).mono sL2.tups
      have r2' : Row (upd (upd H11 t (.tup [.ref po, ro])) L2 (.lst [u, .ref t, .ref a2])) (.ref t) (Ao ++ [ko]) :=
        ⟨t, po, ro, xo, Ao, ko, rfl, rfl, sL2 _ _ upd_same, sL2 _ _ (s12 _ _ hpo'), (hklo.mono s12.tups).mono sL2.tups, (hko.mono s12.tups).mono sL2.tups⟩
      have r3 : Row (upd (upd H11 t (.tup [.ref po, ro])) L2 (.lst [u, .ref t, .ref a2])) (.ref a2) (schK (A ++ [k])) := (hrow10.mono s12.tups).mono sL2.tups
      have hd12 := sL2 _ _ (s12 _ _ hd10)
      have hL2' : (upd (upd H11 t (.tup [.ref po, ro])) L2 (.lst [u, .ref t, .ref a2])) L2 = some (.lst [u, .ref t, .ref a2]) := upd_same
      have all : ∀ (j : Nat) (x : V), [u, V.ref t, V.ref a2][j]? = some x → ∃ C', Row (upd (upd H11 t (.tup [.ref po, ro])) L2 (.lst [u, .ref t, .ref a2])) x C' ∧ C'.length ≤ 20 := fun j x hx => by
        rcases j with _ | _ | _ | j
        · cases hx; exact ⟨C, r1, hC⟩
        · cases hx; exact ⟨_, r2', by simp; omega⟩
        · cases hx; exact ⟨_, r3, by omega⟩
        · simp at hx
      generalize upd (upd H11 t (.tup [.ref po, ro])) L2 (.lst [u, .ref t, .ref a2]) = HF at *
      refine for_list (xs := [u, .ref t, .ref a2]) (fun j σ H' => ∃ y4 y5 y7 y8, σ = [some (.ref a), some (.ref d), some (.int (0 + (i : Int))), some (.ref D0), y4, y5, some (.ref a2), y7, y8, none] ∧ Same HF H') ⟨_, _, _, _, rfl, fun _ _ h => h⟩ (fun j σ H' _ q => ?_) ?_ ?_
      · obtain ⟨_, _, _, _, _, sm⟩ := q
        exact SqL.of (sm _ _ hL2')
      · rintro j x σ H' hx ⟨y4, y5, y7, y8, rfl, sm⟩
        obtain ⟨C', hC', lC'⟩ := all j x hx
        have g1 := hC'.mono sm.tups
        have g2 := r3.mono sm.tups
        refine ⟨_, rfl, _, rfl, x, .ref a2, C', _, rfl, g1, g2, by omega, by omega, fun Ha b1 sa hb1 => ?_⟩
        refine ⟨_, rfl, _, rfl, x, .ref a2, C', _, rfl, g1.mono sa.tups, g2.mono sa.tups, by omega, by omega, fun Hb b2 sb hb2 => ?_⟩
        have eb : b1 = b2 := by rw [Bool.eq_iff_iff, hb1, hb2]
        subst eb
        refine ⟨.bl b1, .bl b1, rfl, .leaf True.intro, fun Hc sc => ⟨true, rfl, iteF ⟨_, _, _, _, rfl, ((sm.trans sa).trans sb).trans sc⟩⟩⟩
      · rintro σ H' ⟨y4, y5, y7, y8, rfl, sm⟩
        exact ⟨_, _, _, _, _, _, _, rfl, sm _ _ hd12⟩
end
end Q10
namespace Q10
open PySem PySem.Spec PyProof.Rows L2 SX HL
theorem all_mk {l : PySem.W.OpenLaw} {w : World} {K : PySem.W.Frag} {h : Heap} {mg : Str → Option Value} {fa f1 f2 f3 f4 f5 f6 f7 f8 f9 f10 f11 f12 f13 f14 : Addr} (X : K.In h) (G : h.Ns mainGlobals mg) (hfa : mg "law" = some (.ref fa))
    {od1 an1 od2 an2 od3 an3 od4 an4 od5 an5 od6 an6 od7 an7 od8 an8 od9 an9 od10 an10 od11 an11 od12 an12 od13 an13 od14 an14 : Option Addr} {sl1 sl2 sl3 sl4 sl5 sl6 sl7 sl8 sl9 sl10 sl11 sl12 sl13 sl14 : Array (Option Value)} {oc1 kV1 dc1 pm1 cd1 ct1 oc2 kV2 dc2 pm2 cd2 ct2 oc3 kV3 dc3 pm3 cd3 ct3 oc4 kV4 dc4 pm4 cd4 ct4 oc5 kV5 dc5 pm5 cd5 ct5 oc6 kV6 dc6 pm6 cd6 ct6 oc7 kV7 dc7 pm7 cd7 ct7 oc8 kV8 dc8 pm8 cd8 ct8 oc9 kV9 dc9 pm9 cd9 ct9 oc10 kV10 dc10 pm10 cd10 ct10 oc11 kV11 dc11 pm11 cd11 ct11 oc12 kV12 dc12 pm12 cd12 ct12 oc13 kV13 dc13 pm13 cd13 ct13 oc14 kV14 dc14 pm14 cd14 ct14 : Value} 
    (a1 : PySem.W.nsIn K mainGlobals "scheme" = some (some (.ref f1)))
    (l1 : K.lookup f1 = some ⟨oc1, od1, .func (PySem.W.fnOf "scheme" "scheme" (defArgs sScheme) (defBody sScheme) (defScope sScheme) .none kV1 dc1 pm1 an1 cd1 ct1), sl1⟩)
    (c1 : PySem.W.codeIn K cd1 "scheme" = true)
    (k1 : PySem.W.keepIn K (.ref f1) = true)
    (a2 : PySem.W.nsIn K mainGlobals "is_instance" = some (some (.ref f2)))
    (l2 : K.lookup f2 = some ⟨oc2, od2, .func (PySem.W.fnOf "is_instance" "is_instance" (defArgs sIsInstance) (defBody sIsInstance) (defScope sIsInstance) .none kV2 dc2 pm2 an2 cd2 ct2), sl2⟩)
    (c2 : PySem.W.codeIn K cd2 "is_instance" = true)
    (k2 : PySem.W.keepIn K (.ref f2) = true)
    (a3 : PySem.W.nsIn K mainGlobals "is_replaced" = some (some (.ref f3)))
    (l3 : K.lookup f3 = some ⟨oc3, od3, .func (PySem.W.fnOf "is_replaced" "is_replaced" (defArgs sIsReplaced) (defBody sIsReplaced) (defScope sIsReplaced) .none kV3 dc3 pm3 an3 cd3 ct3), sl3⟩)
    (c3 : PySem.W.codeIn K cd3 "is_replaced" = true)
    (k3 : PySem.W.keepIn K (.ref f3) = true)
    (a4 : PySem.W.nsIn K mainGlobals "_law_mix" = some (some (.ref f4)))
    (l4 : K.lookup f4 = some ⟨oc4, od4, .func (PySem.W.fnOf "_law_mix" "_law_mix" (defArgs sLawMix) (defBody sLawMix) (defScope sLawMix) .none kV4 dc4 pm4 an4 cd4 ct4), sl4⟩)
    (c4 : PySem.W.codeIn K cd4 "_law_mix" = true)
    (k4 : PySem.W.keepIn K (.ref f4) = true)
    (a5 : PySem.W.nsIn K mainGlobals "_law_draws" = some (some (.ref f5)))
    (l5 : K.lookup f5 = some ⟨oc5, od5, .func (PySem.W.fnOf "_law_draws" "_law_draws" (defArgs sLawDraws) (defBody sLawDraws) (defScope sLawDraws) .none kV5 dc5 pm5 an5 cd5 ct5), sl5⟩)
    (c5 : PySem.W.codeIn K cd5 "_law_draws" = true)
    (k5 : PySem.W.keepIn K (.ref f5) = true)
    (a6 : PySem.W.nsIn K mainGlobals "_law_at" = some (some (.ref f6)))
    (l6 : K.lookup f6 = some ⟨oc6, od6, .func (PySem.W.fnOf "_law_at" "_law_at" (defArgs sLawAt) (defBody sLawAt) (defScope sLawAt) .none kV6 dc6 pm6 an6 cd6 ct6), sl6⟩)
    (c6 : PySem.W.codeIn K cd6 "_law_at" = true)
    (k6 : PySem.W.keepIn K (.ref f6) = true)
    (a7 : PySem.W.nsIn K mainGlobals "_law_is_integer" = some (some (.ref f7)))
    (l7 : K.lookup f7 = some ⟨oc7, od7, .func (PySem.W.fnOf "_law_is_integer" "_law_is_integer" (defArgs sLawIsInteger) (defBody sLawIsInteger) (defScope sLawIsInteger) .none kV7 dc7 pm7 an7 cd7 ct7), sl7⟩)
    (c7 : PySem.W.codeIn K cd7 "_law_is_integer" = true)
    (k7 : PySem.W.keepIn K (.ref f7) = true)
    (a8 : PySem.W.nsIn K mainGlobals "_law_same" = some (some (.ref f8)))
    (l8 : K.lookup f8 = some ⟨oc8, od8, .func (PySem.W.fnOf "_law_same" "_law_same" (defArgs sLawSame) (defBody sLawSame) (defScope sLawSame) .none kV8 dc8 pm8 an8 cd8 ct8), sl8⟩)
    (c8 : PySem.W.codeIn K cd8 "_law_same" = true)
    (k8 : PySem.W.keepIn K (.ref f8) = true)
    (a9 : PySem.W.nsIn K mainGlobals "_law_kind" = some (some (.ref f9)))
    (l9 : K.lookup f9 = some ⟨oc9, od9, .func (PySem.W.fnOf "_law_kind" "_law_kind" (defArgs sLawKind) (defBody sLawKind) (defScope sLawKind) .none kV9 dc9 pm9 an9 cd9 ct9), sl9⟩)
    (c9 : PySem.W.codeIn K cd9 "_law_kind" = true)
    (k9 : PySem.W.keepIn K (.ref f9) = true)
    (a10 : PySem.W.nsIn K mainGlobals "_law_pair" = some (some (.ref f10)))
    (l10 : K.lookup f10 = some ⟨oc10, od10, .func (PySem.W.fnOf "_law_pair" "_law_pair" (defArgs sLawPair) (defBody sLawPair) (defScope sLawPair) .none kV10 dc10 pm10 an10 cd10 ct10), sl10⟩)
    (c10 : PySem.W.codeIn K cd10 "_law_pair" = true)
    (k10 : PySem.W.keepIn K (.ref f10) = true)
    (a11 : PySem.W.nsIn K mainGlobals "_law_scheme" = some (some (.ref f11)))
    (l11 : K.lookup f11 = some ⟨oc11, od11, .func (PySem.W.fnOf "_law_scheme" "_law_scheme" (defArgs sLawScheme) (defBody sLawScheme) (defScope sLawScheme) .none kV11 dc11 pm11 an11 cd11 ct11), sl11⟩)
    (c11 : PySem.W.codeIn K cd11 "_law_scheme" = true)
    (k11 : PySem.W.keepIn K (.ref f11) = true)
    (a12 : PySem.W.nsIn K mainGlobals "_law_is_instance" = some (some (.ref f12)))
    (l12 : K.lookup f12 = some ⟨oc12, od12, .func (PySem.W.fnOf "_law_is_instance" "_law_is_instance" (defArgs sLawIsInstance) (defBody sLawIsInstance) (defScope sLawIsInstance) .none kV12 dc12 pm12 an12 cd12 ct12), sl12⟩)
    (c12 : PySem.W.codeIn K cd12 "_law_is_instance" = true)
    (k12 : PySem.W.keepIn K (.ref f12) = true)
    (a13 : PySem.W.nsIn K mainGlobals "_law_instance" = some (some (.ref f13)))
    (l13 : K.lookup f13 = some ⟨oc13, od13, .func (PySem.W.fnOf "_law_instance" "_law_instance" (defArgs sLawInstance) (defBody sLawInstance) (defScope sLawInstance) .none kV13 dc13 pm13 an13 cd13 ct13), sl13⟩)
    (c13 : PySem.W.codeIn K cd13 "_law_instance" = true)
    (k13 : PySem.W.keepIn K (.ref f13) = true)
    (a14 : PySem.W.nsIn K mainGlobals "law" = some (some (.ref f14)))
    (l14 : K.lookup f14 = some ⟨oc14, od14, .func (PySem.W.fnOf "law" "law" (defArgs sLaw) (defBody sLaw) (defScope sLaw) .none kV14 dc14 pm14 an14 cd14 ct14), sl14⟩)
    (c14 : PySem.W.codeIn K cd14 "law" = true)
    (k14 : PySem.W.keepIn K (.ref f14) = true)
    (z_len : PySem.W.nsIn K mainGlobals "len" = some none)
    (z_range : PySem.W.nsIn K mainGlobals "range" = some none)
    (z_min : PySem.W.nsIn K mainGlobals "min" = some none)
    (z_isinstance : PySem.W.nsIn K mainGlobals "isinstance" = some none)
    (z_bool : PySem.W.nsIn K mainGlobals "bool" = some none)
    (z_int : PySem.W.nsIn K mainGlobals "int" = some none)
    (z_str : PySem.W.nsIn K mainGlobals "str" = some none)
    (z_tuple : PySem.W.nsIn K mainGlobals "tuple" = some none)
    (z_list : PySem.W.nsIn K mainGlobals "list" = some none)
    (z_zip : PySem.W.nsIn K mainGlobals "zip" = some none)
    (z_max : PySem.W.nsIn K mainGlobals "max" = some none)
    : ∃ fd : FuncData, (∀ (s : Shared) (v : Value), BindsTo s fd ⟨[v], []⟩ [("script", v)]) ∧ ∀ base : Heap, K.In base → base.Ns mainGlobals mg → FnOk l.prog w K mg base CX0 6 fa fd ["script"] (spLaw K) := by
  have e := hfa.symm.trans (PySem.W.mg_of X G a14)
  cases e
  have T : Txt mg := { len := PySem.W.mg_none_of X G z_len, range := PySem.W.mg_none_of X G z_range, min := PySem.W.mg_none_of X G z_min, isinstance := PySem.W.mg_none_of X G z_isinstance, bool := PySem.W.mg_none_of X G z_bool, int := PySem.W.mg_none_of X G z_int, str := PySem.W.mg_none_of X G z_str, tuple := PySem.W.mg_none_of X G z_tuple, list := PySem.W.mg_none_of X G z_list, zip := PySem.W.mg_none_of X G z_zip, max := PySem.W.mg_none_of X G z_max }
  have F1 := fun_mk (st := sScheme) l1 c1 k1
  have b1 := F1.binds (ps := ["arguments", "result"]) fun _ _ _ _ _ _ us hl => match us, hl with | [_, _], _ => rfl
  have DScheme : DefN K mg "scheme" sScheme ["arguments", "result"] f1 _ := ⟨F1, b1, PySem.W.mg_of X G a1⟩
  have F2 := fun_mk (st := sIsInstance) l2 c2 k2
  have b2 := F2.binds (ps := ["first", "second"]) fun _ _ _ _ _ _ us hl => match us, hl with | [_, _], _ => rfl
  have DIsInstance : DefN K mg "is_instance" sIsInstance ["first", "second"] f2 _ := ⟨F2, b2, PySem.W.mg_of X G a2⟩
  have F3 := fun_mk (st := sIsReplaced) l3 c3 k3
  have b3 := F3.binds (ps := ["kind", "pattern", "found"]) fun _ _ _ _ _ _ us hl => match us, hl with | [_, _, _], _ => rfl
  have DIsReplaced : DefN K mg "is_replaced" sIsReplaced ["kind", "pattern", "found"] f3 _ := ⟨F3, b3, PySem.W.mg_of X G a3⟩
  have F4 := fun_mk (st := sLawMix) l4 c4 k4
  have b4 := F4.binds (ps := ["cell", "k"]) fun _ _ _ _ _ _ us hl => match us, hl with | [_, _], _ => rfl
  have DLawMix : DefN K mg "_law_mix" sLawMix ["cell", "k"] f4 _ := ⟨F4, b4, PySem.W.mg_of X G a4⟩
  have F5 := fun_mk (st := sLawDraws) l5 c5 k5
  have b5 := F5.binds (ps := ["script"]) fun _ _ _ _ _ _ us hl => match us, hl with | [_], _ => rfl
  have DLawDraws : DefN K mg "_law_draws" sLawDraws ["script"] f5 _ := ⟨F5, b5, PySem.W.mg_of X G a5⟩
  have F6 := fun_mk (st := sLawAt) l6 c6 k6
  have b6 := F6.binds (ps := ["draws", "index"]) fun _ _ _ _ _ _ us hl => match us, hl with | [_, _], _ => rfl
  have DLawAt : DefN K mg "_law_at" sLawAt ["draws", "index"] f6 _ := ⟨F6, b6, PySem.W.mg_of X G a6⟩
  have F7 := fun_mk (st := sLawIsInteger) l7 c7 k7
  have b7 := F7.binds (ps := ["actual"]) fun _ _ _ _ _ _ us hl => match us, hl with | [_], _ => rfl
  have DLawIsInteger : DefN K mg "_law_is_integer" sLawIsInteger ["actual"] f7 _ := ⟨F7, b7, PySem.W.mg_of X G a7⟩
  have F8 := fun_mk (st := sLawSame) l8 c8 k8
  have b8 := F8.binds (ps := ["actual", "expected"]) fun _ _ _ _ _ _ us hl => match us, hl with | [_, _], _ => rfl
  have DLawSame : DefN K mg "_law_same" sLawSame ["actual", "expected"] f8 _ := ⟨F8, b8, PySem.W.mg_of X G a8⟩
  have F9 := fun_mk (st := sLawKind) l9 c9 k9
  have b9 := F9.binds (ps := ["draws", "index", "numbers"]) fun _ _ _ _ _ _ us hl => match us, hl with | [_, _, _], _ => rfl
  have DLawKind : DefN K mg "_law_kind" sLawKind ["draws", "index", "numbers"] f9 _ := ⟨F9, b9, PySem.W.mg_of X G a9⟩
  have F10 := fun_mk (st := sLawPair) l10 c10 k10
  have b10 := F10.binds (ps := ["draws", "index", "numbers"]) fun _ _ _ _ _ _ us hl => match us, hl with | [_, _, _], _ => rfl
  have DLawPair : DefN K mg "_law_pair" sLawPair ["draws", "index", "numbers"] f10 _ := ⟨F10, b10, PySem.W.mg_of X G a10⟩
  have F11 := fun_mk (st := sLawScheme) l11 c11 k11
  have b11 := F11.binds (ps := ["arguments", "result"]) fun _ _ _ _ _ _ us hl => match us, hl with | [_, _], _ => rfl
  have DLawScheme : DefN K mg "_law_scheme" sLawScheme ["arguments", "result"] f11 _ := ⟨F11, b11, PySem.W.mg_of X G a11⟩
  have F12 := fun_mk (st := sLawIsInstance) l12 c12 k12
  have b12 := F12.binds (ps := ["first", "second"]) fun _ _ _ _ _ _ us hl => match us, hl with | [_, _], _ => rfl
  have DLawIsInstance : DefN K mg "_law_is_instance" sLawIsInstance ["first", "second"] f12 _ := ⟨F12, b12, PySem.W.mg_of X G a12⟩
  have F13 := fun_mk (st := sLawInstance) l13 c13 k13
  have b13 := F13.binds (ps := ["draws", "index", "told"]) fun _ _ _ _ _ _ us hl => match us, hl with | [_, _, _], _ => rfl
  have DLawInstance : DefN K mg "_law_instance" sLawInstance ["draws", "index", "told"] f13 _ := ⟨F13, b13, PySem.W.mg_of X G a13⟩
  have F14 := fun_mk (st := sLaw) l14 c14 k14
  have b14 := F14.binds (ps := ["script"]) fun _ _ _ _ _ _ us hl => match us, hl with | [_], _ => rfl
  have DLaw : DefN K mg "law" sLaw ["script"] fa _ := ⟨F14, b14, PySem.W.mg_of X G a14⟩
  exact ⟨PySem.W.fnOf "law" "law" (defArgs sLaw) (defBody sLaw) (defScope sLaw) .none kV14 dc14 pm14 an14 cd14 ct14, fun s v => .of_eq rfl, fun base _ _ => ok_law (n := 0) DLaw T DScheme DIsInstance DIsReplaced DLawMix DLawDraws DLawAt DLawIsInteger DLawSame DLawKind DLawPair DLawScheme DLawIsInstance DLawInstance⟩
end Q10
open PySem PySem.W PyProof.Rows
set_option maxHeartbeats 0 in
theorem PySem.Challenge.cw_quillrun_k10_schemes_and_instances_holds : PySem.Challenge.rw_quillrun_k10_schemes_and_instances.Holds := by
  w_on; o_law; k_head; (case hw => w_witness2)
  k_fill
  refine L2.walk_of (l := PySem.Challenge.rw_quillrun_k10_schemes_and_instances) (n := 63) (k := 6) (x := "script") (CX := fun _ => L2.CX0) (sp := fun w => Q10.spLaw _) rfl (by decide) rfl ⟨rfl, by decide, by decide⟩ (fun w h Y => PySem.W.kIn_of Y) ?F (fun _ _ a ns hl _ hS => ⟨a, ns, rfl, hS, hl, fun _ => rfl⟩) (fun _ _ _ _ _ h => h)
  case F =>
    intro w mg fa h KX G hmg
    refine' Q10.all_mk KX G hmg ?a1 ?l1 ?c1 ?k1 ?a2 ?l2 ?c2 ?k2 ?a3 ?l3 ?c3 ?k3 ?a4 ?l4 ?c4 ?k4 ?a5 ?l5 ?c5 ?k5 ?a6 ?l6 ?c6 ?k6 ?a7 ?l7 ?c7 ?k7 ?a8 ?l8 ?c8 ?k8 ?a9 ?l9 ?c9 ?k9 ?a10 ?l10 ?c10 ?k10 ?a11 ?l11 ?c11 ?k11 ?a12 ?l12 ?c12 ?k12 ?a13 ?l13 ?c13 ?k13 ?a14 ?l14 ?c14 ?k14 ?z_len ?z_range ?z_min ?z_isinstance ?z_bool ?z_int ?z_str ?z_tuple ?z_list ?z_zip ?z_max
    (case a1 => k_is)
    (case l1 => k_is)
    (case c1 => k_is)
    (case k1 => k_is)
    (case a2 => k_is)
    (case l2 => k_is)
    (case c2 => k_is)
    (case k2 => k_is)
    (case a3 => k_is)
    (case l3 => k_is)
    (case c3 => k_is)
    (case k3 => k_is)
    (case a4 => k_is)
    (case l4 => k_is)
    (case c4 => k_is)
    (case k4 => k_is)
    (case a5 => k_is)
    (case l5 => k_is)
    (case c5 => k_is)
    (case k5 => k_is)
    (case a6 => k_is)
    (case l6 => k_is)
    (case c6 => k_is)
    (case k6 => k_is)
    (case a7 => k_is)
    (case l7 => k_is)
    (case c7 => k_is)
    (case k7 => k_is)
    (case a8 => k_is)
    (case l8 => k_is)
    (case c8 => k_is)
    (case k8 => k_is)
    (case a9 => k_is)
    (case l9 => k_is)
    (case c9 => k_is)
    (case k9 => k_is)
    (case a10 => k_is)
    (case l10 => k_is)
    (case c10 => k_is)
    (case k10 => k_is)
    (case a11 => k_is)
    (case l11 => k_is)
    (case c11 => k_is)
    (case k11 => k_is)
    (case a12 => k_is)
    (case l12 => k_is)
    (case c12 => k_is)
    (case k12 => k_is)
    (case a13 => k_is)
    (case l13 => k_is)
    (case c13 => k_is)
    (case k13 => k_is)
    (case a14 => k_is)
    (case l14 => k_is)
    (case c14 => k_is)
    (case k14 => k_is)
    (case z_len => k_is)
    (case z_range => k_is)
    (case z_min => k_is)
    (case z_isinstance => k_is)
    (case z_bool => k_is)
    (case z_int => k_is)
    (case z_str => k_is)
    (case z_tuple => k_is)
    (case z_list => k_is)
    (case z_zip => k_is)
    (case z_max => k_is)
#print axioms PySem.Challenge.cw_quillrun_k10_schemes_and_instances_holds
