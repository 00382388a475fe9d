import PyProof.Rows.All
import Wide.All
import OpenK.AllK
import Wide.FinOn
import HandS.ForMost
import HandS.ForExc
import HandS.IsInst
import HandS.Codes
import HandS.Walk
import HandS.Star
import HandS.TryOnly
import HandS.FStr
import HandS.StrMore
import HandS.ExcIs
import KE.KExcSuper
import KE.RegKIsAll
import PySem.Challenge.RW_quillrun_k21_tokens_read_back
set_option Elab.async false
set_option linter.all false
set_option maxRecDepth 100000
set_option maxHeartbeats 4000000
namespace Q21
/-! ## the mathematics of tokens -/
def isLow (c : Nat) : Bool := decide (97 ≤ c) && decide (c ≤ 122)
def isUp (c : Nat) : Bool := decide (65 ≤ c) && decide (c ≤ 90)
def isDig (c : Nat) : Bool := decide (48 ≤ c) && decide (c ≤ 57)
def isLet (c : Nat) : Bool := isLow c || isUp c
def isWord (c : Nat) : Bool := isLow c || isUp c || isDig c || decide (c = 95)
def isBlank (c : Nat) : Bool := decide (c = 32) || decide (c = 10)
def longs : List (List Nat) := [[43, 43], [58, 58], [45, 62], [58, 61]]
def shorts : List Nat := [40, 41, 91, 93, 44, 59, 124, 61, 60, 43, 45, 42, 47, 58]
def signs : List (List Nat) := shorts.map (fun c => [c]) ++ longs
/-- quotes doubled -/
def enc : List Nat → List Nat
  | [] => []
  | c :: r => if c = 39 then 39 :: 39 :: enc r else c :: enc r
/-- a value: a text or a number -/
inductive Val
  | s (l : List Nat)
  | n (k : Nat)
inductive Kind
  | keyword | name | maker | number | text | sign
/-- the kind of a word -/
def kindOf (kws : List (List Nat)) (w : List Nat) : Kind := if (w.head?.map isUp).getD false then .maker else if w ∈ kws then .keyword else .name
/-- a written token: its kind, its value -/
inductive Lex (kws : List (List Nat)) (dv : List Nat → Nat) : List Nat → Kind → Val → Prop
  | word (c : Nat) (s : List Nat) : isLet c = true → (∀ x ∈ s, isWord x = true) → Lex kws dv (c :: s) (kindOf kws (c :: s)) (.s (c :: s))
  | num (w : List Nat) : w ≠ [] → (∀ x ∈ w, isDig x = true) → w.length ≤ 18 → Lex kws dv w .number (.n (dv w))
  | quo (x : List Nat) : Lex kws dv (39 :: (enc x ++ [39])) .text (.s x)
  | sign (w : List Nat) : w ∈ signs → Lex kws dv w .sign (.s w)
/-- what may stand behind the token w -/
def Sep (w rest : List Nat) : Prop :=
  match w with
  | [] => True
  | c :: s => (isLet c = true → ∀ d, rest.head? = some d → isWord d = false) ∧ (isDig c = true → ∀ d, rest.head? = some d → isDig d = false) ∧ (c = 39 → rest.head? ≠ some 39) ∧
      (isLet c = false → isDig c = false → c ≠ 39 → s = [] → ∀ d, rest.head? = some d → [c, d] ∉ longs)
/-- nothing starts here -/
inductive BadAt : List Nat → Prop
  | num (w r : List Nat) : (∀ x ∈ w, isDig x = true) → 18 < w.length → BadAt (w ++ r)
  | quo (x : List Nat) : BadAt (39 :: enc x)
  | odd (c : Nat) (r : List Nat) : isLet c = false → isDig c = false → c ≠ 39 → isBlank c = false → c ∉ shorts → (∀ d, [c, d] ∉ longs) → BadAt (c :: r)
section
variable {kws : List (List Nat)} {dv : List Nat → Nat}
/-- the tokens of a text that begins at off -/
inductive Toks (kws : List (List Nat)) (dv : List Nat → Nat) : Nat → List Nat → List (Kind × Val × Nat) → Prop
  | nil (off : Nat) : Toks kws dv off [] []
  | blank {off c : Nat} {r : List Nat} {L : List (Kind × Val × Nat)} : isBlank c = true → Toks kws dv (off + 1) r L → Toks kws dv off (c :: r) L
  | tok {off : Nat} {w r : List Nat} {k : Kind} {v : Val} {L : List (Kind × Val × Nat)} : Lex kws dv w k v → Sep w r → Toks kws dv (off + w.length) r L → Toks kws dv off (w ++ r) ((k, v, off) :: L)
/-- a text that begins at off is refused at p -/
inductive Bad (kws : List (List Nat)) (dv : List Nat → Nat) : Nat → List Nat → Nat → Prop
  | here {off : Nat} {u : List Nat} : BadAt u → Bad kws dv off u off
  | blank {off c p : Nat} {r : List Nat} : isBlank c = true → Bad kws dv (off + 1) r p → Bad kws dv off (c :: r) p
  | tok {off p : Nat} {w r : List Nat} {k : Kind} {v : Val} : Lex kws dv w k v → Sep w r → Bad kws dv (off + w.length) r p → Bad kws dv off (w ++ r) p
theorem blanks_toks : ∀ (g : List Nat) (off : Nat) (r : List Nat) (L : List (Kind × Val × Nat)), (∀ c ∈ g, isBlank c = true) → Toks kws dv (off + g.length) r L → Toks kws dv off (g ++ r) L
  | [], off, r, L, _, h => h
  | c :: g, off, r, L, hg, h => by
    refine .blank (hg c (List.mem_cons_self ..)) (blanks_toks g (off + 1) r L (fun x hx => hg x (List.mem_cons_of_mem _ hx)) ?_)
    have e : off + 1 + g.length = off + (c :: g).length := by simp; omega
    rw [e]
    exact h
theorem blanks_bad : ∀ (g : List Nat) (off : Nat) (r : List Nat) (p : Nat), (∀ c ∈ g, isBlank c = true) → Bad kws dv (off + g.length) r p → Bad kws dv off (g ++ r) p
  | [], off, r, L, _, h => h
  | c :: g, off, r, L, hg, h => by
    refine .blank (hg c (List.mem_cons_self ..)) (blanks_bad g (off + 1) r L (fun x hx => hg x (List.mem_cons_of_mem _ hx)) ?_)
    have e : off + 1 + g.length = off + (c :: g).length := by simp; omega
    rw [e]
    exact h
theorem lex_ne {w : List Nat} {k : Kind} {v : Val} (h : Lex kws dv w k v) : w ≠ [] := by
  cases h with
  | word c s _ _ => simp
  | num w h1 _ _ => exact h1
  | quo x => simp
  | sign w h => intro e; subst e; revert h; decide
theorem blank_not {c : Nat} (h : isBlank c = true) : isWord c = false ∧ isDig c = false ∧ c ≠ 39 ∧ c ≠ 62 ∧ c ≠ 43 ∧ c ≠ 58 ∧ c ≠ 61 := by
  simp only [isBlank, Bool.or_eq_true, decide_eq_true_eq] at h
  rcases h with rfl | rfl <;> decide
theorem longs_snd {c d : Nat} (h : [c, d] ∈ longs) : (c = 43 ∧ d = 43) ∨ (c = 58 ∧ d = 58) ∨ (c = 45 ∧ d = 62) ∨ (c = 58 ∧ d = 61) := by
  simp only [longs, List.mem_cons, List.cons.injEq, List.not_mem_nil, or_false, and_true] at h
  omega
/-- a blank may stand behind everything -/
theorem sep_blank (w : List Nat) {c : Nat} {r : List Nat} (h : isBlank c = true) : Sep w (c :: r) := by
  obtain ⟨b1, b2, b3, b4, b5, b6, b7⟩ := blank_not h
  cases w with
  | nil => trivial
  | cons x s =>
    refine ⟨fun _ d hd => ?_, fun _ d hd => ?_, fun _ hd => ?_, fun _ _ _ _ d hd hl => ?_⟩
    · cases hd; exact b1
    · cases hd; exact b2
    · cases hd; exact b3 rfl
    · cases hd
      have := longs_snd hl
      omega
theorem sep_nil (w : List Nat) : Sep w [] := by
  cases w with
  | nil => trivial
  | cons x s => exact ⟨fun _ d hd => by simp at hd, fun _ d hd => by simp at hd, fun _ => by simp, fun _ _ _ _ d hd => by simp at hd⟩
/-- would two tokens be read as one -/
def joinsC (c d : Nat) (b : Bool) : Bool := if isLet c = true then isWord d else if isDig c = true then isDig d else if c = 39 then decide (d = 39) else b && decide (d = 43 ∨ d = 58 ∨ d = 61)
def joins (p w : List Nat) : Bool := joinsC (p.headD 0) (w.headD 0) (decide (p = [43] ∨ p = [58]))
theorem lex_head {w : List Nat} {k : Kind} {v : Val} (h : Lex kws dv w k v) : w.headD 0 ≠ 62 := by
  cases h with
  | word c s h1 _ =>
    intro e
    simp only [List.headD_cons] at e
    subst e
    revert h1
    decide
  | num w h1 h2 _ =>
    cases w with
    | nil => exact absurd rfl h1
    | cons c s =>
      intro e
      simp only [List.headD_cons] at e
      subst e
      have := h2 62 (List.mem_cons_self ..)
      revert this
      decide
  | quo x => simp
  | sign w h => revert w; decide
theorem sep_of_joins {p w : List Nat} {k : Kind} {v : Val} (h : Lex kws dv w k v) (hj : joins p w = false) (r : List Nat) : Sep p (w ++ r) := by
  have hw := lex_ne h
  have h62 := lex_head h
  obtain ⟨d, s, rfl⟩ := List.exists_cons_of_ne_nil hw
  cases p with
  | nil => trivial
  | cons c t =>
    have hj : joinsC c d (decide (c :: t = [43] ∨ c :: t = [58])) = false := hj
    unfold joinsC at hj
    simp only [List.headD_cons] at h62
    refine ⟨fun h1 x hx => ?_, fun h1 x hx => ?_, fun h1 hx => ?_, fun h1 h2 h3 h4 x hx hl => ?_⟩
    · cases hx
      rw [if_pos h1] at hj
      exact hj
    · cases hx
      have h0 : ¬ isLet c = true := by
        simp only [isLet, isLow, isUp, isDig, Bool.or_eq_true, Bool.and_eq_true, decide_eq_true_eq] at h1 ⊢
        omega
      rw [if_neg h0, if_pos h1] at hj
      exact hj
    · cases hx
      subst h1
      rw [if_neg (by decide), if_neg (by decide), if_pos rfl] at hj
      revert hj
      decide
    · cases hx
      subst h4
      rw [if_neg (by rw [h1]; decide), if_neg (by rw [h2]; decide), if_neg h3] at hj
      have := longs_snd hl
      rcases this with ⟨rfl, rfl⟩ | ⟨rfl, rfl⟩ | ⟨rfl, rfl⟩ | ⟨rfl, rfl⟩
      · revert hj; decide
      · revert hj; decide
      · exact h62 rfl
      · revert hj; decide
/-- so far: the text, its tokens, the last token -/
def SoFar (kws : List (List Nat)) (dv : List Nat → Nat) (T : List Nat) (L : List (Kind × Val × Nat)) (p : List Nat) : Prop :=
  (∀ r M, Sep p r → Toks kws dv T.length r M → Toks kws dv 0 (T ++ r) (L ++ M)) ∧ ∀ r q, Sep p r → Bad kws dv T.length r q → Bad kws dv 0 (T ++ r) q
theorem sofar_start (g : List Nat) (hg : ∀ c ∈ g, isBlank c = true) : SoFar kws dv g [] [32] :=
  ⟨fun r M _ h => blanks_toks g 0 r M hg (by simpa using h), fun r q _ h => blanks_bad g 0 r q hg (by simpa using h)⟩
theorem sep_gap {p g w : List Nat} {k : Kind} {v : Val} (r : List Nat) (hg : ∀ c ∈ g, isBlank c = true) (hw : Lex kws dv w k v) (hj : joins p w = true → g ≠ []) : Sep p (g ++ (w ++ r)) := by
  cases g with
  | nil =>
    cases hb : joins p w with
    | true => exact absurd rfl (hj hb)
    | false => exact sep_of_joins hw hb r
  | cons c g => exact sep_blank p (hg c (List.mem_cons_self ..))
theorem sofar_step {T g w p : List Nat} {L : List (Kind × Val × Nat)} {k : Kind} {v : Val} (h : SoFar kws dv T L p) (hg : ∀ c ∈ g, isBlank c = true) (hw : Lex kws dv w k v) (hj : joins p w = true → g ≠ []) :
    SoFar kws dv (T ++ g ++ w) (L ++ [(k, v, (T ++ g).length)]) w := by
  refine ⟨fun r M hs ht => ?_, fun r q hs ht => ?_⟩
  · have e1 : T ++ g ++ w ++ r = T ++ (g ++ (w ++ r)) := by simp
    have e2 : L ++ [(k, v, (T ++ g).length)] ++ M = L ++ ((k, v, (T ++ g).length) :: M) := by simp
    rw [e1, e2]
    refine h.1 _ _ (sep_gap r hg hw hj) (blanks_toks g _ _ _ hg ?_)
    have e3 : T.length + g.length = (T ++ g).length := by simp
    rw [e3]
    refine .tok hw hs ?_
    have e4 : (T ++ g).length + w.length = (T ++ g ++ w).length := by simp; omega
    rw [e4]
    exact ht
  · have e1 : T ++ g ++ w ++ r = T ++ (g ++ (w ++ r)) := by simp
    rw [e1]
    refine h.2 _ _ (sep_gap r hg hw hj) (blanks_bad g _ _ _ hg ?_)
    have e3 : T.length + g.length = (T ++ g).length := by simp
    rw [e3]
    refine .tok hw hs ?_
    have e4 : (T ++ g).length + w.length = (T ++ g ++ w).length := by simp; omega
    rw [e4]
    exact ht
theorem sep_blanks (p g : List Nat) (hg : ∀ c ∈ g, isBlank c = true) : Sep p g := by
  cases g with
  | nil => exact sep_nil p
  | cons c g => exact sep_blank p (hg c (List.mem_cons_self ..))
theorem sofar_end {T g p : List Nat} {L : List (Kind × Val × Nat)} (h : SoFar kws dv T L p) (hg : ∀ c ∈ g, isBlank c = true) : Toks kws dv 0 (T ++ g) L := by
  have := h.1 g [] (sep_blanks p g hg) (by
    have := blanks_toks (kws := kws) (dv := dv) g T.length [] [] hg (.nil _)
    simpa using this)
  simpa using this
theorem sofar_bad {T g p u : List Nat} {L : List (Kind × Val × Nat)} (h : SoFar kws dv T L p) (hg : ∀ c ∈ g, isBlank c = true) (hb : BadAt u) : Bad kws dv 0 (T ++ g ++ [32] ++ u) (T ++ g ++ [32]).length := by
  have e : T ++ g ++ [32] ++ u = T ++ ((g ++ [32]) ++ u) := by simp
  rw [e]
  have hg' : ∀ c ∈ g ++ [32], isBlank c = true := fun c hc => by
    rcases List.mem_append.mp hc with hc | hc
    · exact hg c hc
    · rw [List.mem_singleton.mp hc]; decide
  refine h.2 _ _ ?_ (blanks_bad _ _ _ _ hg' ?_)
  · cases g with
    | nil => exact sep_blank p (by decide)
    | cons c g => exact sep_blank p (hg c (List.mem_cons_self ..))
  · have e3 : T.length + (g ++ [32]).length = (T ++ g ++ [32]).length := by simp [Nat.add_assoc]
    rw [e3]
    exact .here hb
/-! ### runs -/
theorem run_take {f : Nat → Bool} : ∀ (w r : List Nat), (∀ x ∈ w, f x = true) → (∀ d, r.head? = some d → f d = false) → (w ++ r).takeWhile f = w
  | [], [], _, _ => rfl
  | [], d :: r, _, h => by
    have := h d rfl
    simp [this]
  | c :: w, r, hw, h => by
    have hc := hw c (List.mem_cons_self ..)
    simp only [List.cons_append, List.takeWhile_cons, hc, if_true]
    rw [run_take w r (fun x hx => hw x (List.mem_cons_of_mem _ hx)) h]
theorem run_ge {f : Nat → Bool} : ∀ (w r : List Nat), (∀ x ∈ w, f x = true) → w.length ≤ ((w ++ r).takeWhile f).length
  | [], r, _ => Nat.zero_le _
  | c :: w, r, hw => by
    have hc := hw c (List.mem_cons_self ..)
    simp only [List.cons_append, List.takeWhile_cons, hc, if_true, List.length_cons]
    have := run_ge w r (fun x hx => hw x (List.mem_cons_of_mem _ hx))
    omega
end
end Q21
namespace HL
open PySem PySem.Spec PyProof.Rows L2 SX
/-! ## short words of my own, over the hand layer -/
theorem boot_isinstance : bootBuiltins "isinstance" = some (.builtin "isinstance") := by decide +kernel
theorem boot_bool : bootBuiltins "bool" = some (.type "bool") := by decide +kernel
theorem boot_int : bootBuiltins "int" = some (.type "int") := by decide +kernel
theorem boot_str : bootBuiltins "str" = some (.type "str") := by decide +kernel
theorem boot_tuple : bootBuiltins "tuple" = some (.type "tuple") := by decide +kernel
theorem boot_list : bootBuiltins "list" = some (.type "list") := by decide +kernel
theorem boot_dict : bootBuiltins "dict" = some (.type "dict") := by decide +kernel
/-- a def of the module: its body, its arguments, its name -/
structure DefN (K : PySem.W.Frag) (mg : Str → Option Value) (x : Str) (st : Stmt) (ps : List Str) (f : Addr) (fd : FuncData) : Prop where
  F : Fun K x x st f fd
  b : Binds K fd ps []
  g : mg x = some (.ref f)
theorem small (n : Nat) (h : n ≤ 1000000) : n ≤ sizeLine := Nat.le_trans h (by decide)
theorem same_upd {H : Hp} {p : Addr} {o : HO} (h : H p = none) : Same H (upd H p o) := fun b x e => by
  rw [upd_ne (ne_of_none e h)]
  exact e
theorem S_app (a b : List Nat) : (S a ++ S b : Str) = S (a ++ b) := S_cat a b
theorem sign_at {t : List Nat} {k : Nat} (h : k < t.length) : atI (S t).cps.toList (k : Int) = some (t.getD k 0) := by
  show atI t.toArray.toList (k : Int) = _
  refine atI_nat ?_
  simp [List.getD_eq_getElem?_getD, h]
theorem cutS_nat (t : List Nat) (a b : Nat) (h : a ≤ b) (h2 : b ≤ t.length) : cutS (S t) (some (a : Int)) (some (b : Int)) = S ((t.drop a).take (b - a)) := by
  unfold cutS
  rw [S_len, HT.sIx_nat, HT.sIx_nat]
  have e1 : min a t.length = a := by omega
  have e2 : min b t.length = b := by omega
  rw [e1, e2]
/-- ends beyond the end -/
theorem cutS_any (t : List Nat) (a b : Nat) : cutS (S t) (some (a : Int)) (some (b : Int)) = S ((t.drop a).take (b - a)) := by
  unfold cutS
  rw [S_len, HT.sIx_nat, HT.sIx_nat]
  congr 2
  show List.take _ (List.drop _ t) = _
  by_cases ha : a ≤ t.length
  · have e1 : min a t.length = a := by omega
    rw [e1]
    by_cases hb : b ≤ t.length
    · have e2 : min b t.length = b := by omega
      rw [e2]
    · have e2 : min b t.length = t.length := by omega
      rw [e2, List.take_of_length_le (by rw [List.length_drop]; omega), List.take_of_length_le (by rw [List.length_drop]; omega)]
  · have e1 : min a t.length = t.length := by omega
    rw [e1, List.drop_of_length_le (Nat.le_refl _), List.drop_of_length_le (show t.length ≤ a by omega)]
    simp
theorem joinL_nil : ∀ C : List (List Nat), TL.joinL [] C = C.flatten
  | [] => rfl
  | [c] => by simp [TL.joinL]
  | c :: d :: r => by
    show c ++ ([] ++ TL.joinL [] (d :: r)) = _
    rw [joinL_nil (d :: r)]
    simp
/-- a test whose answer is known -/
theorem iteNo {c A B : Prop} [Decidable c] (h : ¬ c) (hb : B) : if c then A else B := by
  rw [if_neg h]
  exact hb
theorem iteYes {c A B : Prop} [Decidable c] (h : c) (ha : A) : if c then A else B := by
  rw [if_pos h]
  exact ha
/-- a comprehension without a test -/
theorem lc_yes {te : TE} {σ : L2.St} {H : Hp} {R : VK} {B : Hp → Prop} (h : te σ H R) : tYes σ H (fun b H3 => if b = true then te σ H3 R else B H3) := by
  show (if true = true then te σ H R else B H)
  rw [if_pos rfl]
  exact h
/-- all but p is as it was -/
def But (H H' : Hp) (p : Addr) : Prop := ∀ b, b ≠ p → H' b = H b
theorem but_upd {H : Hp} {p : Addr} {o : HO} : But H (upd H p o) p := fun _ h => upd_ne h
theorem But.refl {H : Hp} {p : Addr} : But H H p := fun _ _ => rfl
theorem But.trans {H H1 H2 : Hp} {p : Addr} (a : But H H1 p) (b : But H1 H2 p) : But H H2 p := fun c h => (b c h).trans (a c h)
/-- all but p, and what is new, is as it was -/
def Kept (H H' : Hp) (p : Addr) : Prop := ∀ b o, b ≠ p → H b = some o → H' b = some o
theorem Kept.refl {H : Hp} {p : Addr} : Kept H H p := fun _ _ _ h => h
theorem Kept.trans {H H1 H2 : Hp} {p : Addr} (a : Kept H H1 p) (b : Kept H1 H2 p) : Kept H H2 p := fun c o n h => b c o n (a c o n h)
theorem But.kept {H H' : Hp} {p : Addr} (b : But H H' p) : Kept H H' p := fun c o n h => (b c n).trans h
theorem _root_.L2.Same.kept {H H' : Hp} (s : Same H H') (p : Addr) : Kept H H' p := fun c o _ h => s c o h
section
variable {X : Cx}
/-- a constant of the module: a text, a number -/
theorem pe_gstr {x z : Str} {pos : Pos} (hg : Gl X x) (hm : ∃ t, X.mg x = some (.str z t)) (hd : (x == ("__debug__" : Str)) = false := by decide) : PE X (.Name x pos) (tC (.str z)) := by
  obtain ⟨t, h⟩ := hm
  exact pe_glob hg h ⟨t, rfl⟩ hd
theorem pe_gint {x : Str} {i : Int} {pos : Pos} (hg : Gl X x) (hm : ∃ t, X.mg x = some (.int i t)) (hd : (x == ("__debug__" : Str)) = false := by decide) : PE X (.Name x pos) (tC (.int i)) := by
  obtain ⟨t, h⟩ := hm
  exact pe_glob hg h ⟨t, rfl⟩ hd
/-- o[i] of a list, for o[i] op= e -/
def rGetL (K : PySem.W.Frag) : V → V → Hp → VK → Prop := fun x y H Q => ∃ p xs i v, x = .ref p ∧ y = .int i ∧ SqL K H p xs ∧ 0 ≤ i ∧ atI xs i = some v ∧ Q v H
theorem pget_list : PGet X (rGetL X.K) := by
  intro pins s σ H x y v u Q I rx ry h
  obtain ⟨p, xs, i, z, rfl, rfl, hq, h0, he, q⟩ := h
  cases rx
  obtain ⟨t, rfl⟩ := ry
  obtain ⟨its, r, pl, hz⟩ := I.list hq
  obtain ⟨j, h1, h2, h3, h4, h5⟩ := atI_get he
  obtain ⟨w, ew, rw'⟩ := r.get h2
  have hl := r.length
  have hn := line63
  have hj : i.toNat = j := by
    rw [seqIndex_of h0 h5] at h1
    exact Option.some.inj h1
  exact wpAny_getItem_list pl.isList h0 (by omega) (by rw [hj]; simpa using ew) ⟨z, H, I, rw', q⟩
/-- isinstance(x, T), T a built-in class -/
def rIsB (K : PySem.W.Frag) : List V → Hp → VK → Prop := fun xs H Q => ∃ (x : V) (T n : String) (b : Bool), xs = [x, .ty n] ∧ TyX K H x (.type T) ∧ kitB T n = some b ∧ Q (.bl b) H
theorem call_isB : CallR X (.builtin "isinstance") (rIsB X.K) := by
  intro pins s σ H xs us Q I r h
  obtain ⟨x, T, n, b, rfl, ty, e, q⟩ := h
  exact call_isi pins s σ H _ us Q I r ⟨x, .ty n, .type T, .type n, b, rfl, .ty n, ty, kit_ty e, q⟩
/-- a text, n times -/
theorem rep_fold (z : Str) : ∀ n : Nat, ((List.replicate n z.cps).foldl (· ++ ·) (#[] : Array Nat)).toList = (List.replicate n z.cps.toList).flatten := by
  have h : ∀ (l : List (Array Nat)) (a : Array Nat), (l.foldl (· ++ ·) a).toList = a.toList ++ (l.map (·.toList)).flatten := by
    intro l
    induction l with
    | nil => intro a; simp
    | cons x l ih => intro a; rw [List.foldl_cons, ih]; simp
  intro n
  rw [h]
  simp
theorem op_mul_strR : OpR X (binaryOp .Mult) (fun x y H Q => ∃ (l : List Nat) (n : Nat), x = .str (S l) ∧ y = .int (n : Int) ∧ 2 ≤ n ∧ n ≤ 1000 ∧ 1 ≤ l.length ∧ l.length ≤ 1000 ∧ Q (.str (S (List.replicate n l).flatten)) H) := by
  intro pins s σ H x y v u Q I rx ry h
  obtain ⟨l, n, rfl, rfl, h2, h3, h4, h5, q⟩ := h
  obtain ⟨t, rfl⟩ := rx
  obtain ⟨t', rfl⟩ := ry
  have hl : (S l).length = l.length := S_len l
  have e1 : ((n : Int) == 1 || (S l).length == 0) = false := by
    rw [hl]
    have a1 : ((n : Int) == 1) = false := by simp; omega
    have a2 : (l.length == 0) = false := by simp; intro z; rw [z] at h4; simp at h4
    rw [a1, a2]; rfl
  have hsz : l.length * n ≤ 1000000 := Nat.le_trans (Nat.mul_le_mul h5 h3) (by decide)
  refine PySem.P.mul_str ?_ (fun _ _ => ?_) (fun _ _ => ?_) ?_
  · have b1 : decide ((n : Int) < -(2 ^ 63 : Int)) = false := decide_eq_false (by omega)
    have b2 : decide ((n : Int) ≥ 2 ^ 63) = false := decide_eq_false (by omega)
    rw [b1, b2]; rfl
  · rw [hl]
    have hp : (l.length : Int) * (n : Int) ≤ 1000000 := by
      have := Int.ofNat_le.mpr hsz
      rw [Int.natCast_mul] at this
      exact this
    have := Int.le_ediv_of_mul_le (show (0 : Int) < (n : Int) by omega) (show (l.length : Int) * (n : Int) ≤ 2 ^ 63 - 1 from Int.le_trans hp (by decide))
    omega
  · rw [hl]
    exact decide_eq_false (by rw [sizeLine_eq, Int.toNat_natCast]; omega)
  · rw [if_neg (by omega), if_neg (by rw [e1]; simp)]
    have ef : (⟨(List.replicate (n : Int).toNat (S l).cps).foldl (· ++ ·) #[]⟩ : Str) = S (List.replicate n l).flatten := by
      have : ((List.replicate (n : Int).toNat (S l).cps).foldl (· ++ ·) (#[] : Array Nat)) = ((List.replicate n l).flatten).toArray := by
        apply Array.ext'
        rw [rep_fold]
        simp
      rw [this]
    rw [ef]
    refine ⟨?_, .str _, H, I.tok _, ⟨_, rfl⟩, q⟩
    rw [S_len, sizeLine_eq]
    simp
    rw [Nat.mul_comm]
    omega
end
/-! ### data that are told the same: _law_same -/
/-- the type of a list or a tuple that is read -/
def IsSeq (K : PySem.W.Frag) (H : Hp) (t : String) (a : Addr) (xs : List V) : Prop := (t = "tuple" ∧ SqT K H a xs ∧ TyX K H (.ref a) (.type "tuple")) ∨ (t = "list" ∧ SqL K H a xs ∧ TyX K H (.ref a) (.type "list"))
theorem IsSeq.tup {K : PySem.W.Frag} {H : Hp} {a : Addr} {xs : List V} (h : H a = some (.tup xs)) : IsSeq K H "tuple" a xs := .inl ⟨rfl, SqT.of h, .base (.tup h)⟩
theorem IsSeq.lst {K : PySem.W.Frag} {H : Hp} {a : Addr} {xs : List V} (h : H a = some (.lst xs)) : IsSeq K H "list" a xs := .inr ⟨rfl, SqL.of h, .base (.lst h)⟩
/-- a number, a text, a truth, None -/
def Leaf : V → Prop
  | .int _ => True
  | .str _ => True
  | .bl _ => True
  | .non => True
  | _ => False
def SameD (K : PySem.W.Frag) (H : Hp) : Nat → V → V → Prop
  | 0, x, y => Leaf x ∧ x = y
  | n + 1, x, y => (Leaf x ∧ x = y) ∨ ∃ (t : String) (a b : Addr) (xs ys : List V), x = .ref a ∧ y = .ref b ∧ IsSeq K H t a xs ∧ IsSeq K H t b ys ∧ xs.length = ys.length ∧ ys.length ≤ 1000000 ∧
      ∀ (i : Nat) (u v : V), xs[i]? = some u → ys[i]? = some v → SameD K H n u v
theorem SameD.leaf {K : PySem.W.Frag} {H : Hp} {n : Nat} {x : V} (h : Leaf x) : SameD K H n x x := by
  cases n with
  | zero => exact ⟨h, rfl⟩
  | succ n => exact .inl ⟨h, rfl⟩
theorem SameD.seq {K : PySem.W.Frag} {H : Hp} {n : Nat} {t : String} {a b : Addr} {xs ys : List V} (h1 : IsSeq K H t a xs) (h2 : IsSeq K H t b ys) (hl : xs.length = ys.length) (hz : ys.length ≤ 1000000)
    (h : ∀ (i : Nat) (u v : V), xs[i]? = some u → ys[i]? = some v → SameD K H n u v) : SameD K H (n + 1) (.ref a) (.ref b) := .inr ⟨t, a, b, xs, ys, rfl, rfl, h1, h2, hl, hz, h⟩
/-- rows of leaves -/
theorem SameD.row {K : PySem.W.Frag} {H : Hp} {n : Nat} {a b : Addr} {xs : List V} (h1 : H a = some (.tup xs)) (h2 : H b = some (.tup xs)) (hz : xs.length ≤ 1000000) (h : ∀ x ∈ xs, Leaf x) : SameD K H (n + 1) (.ref a) (.ref b) :=
  .seq (.tup h1) (.tup h2) rfl hz fun i u v hu hv => by
    rw [hu] at hv
    cases hv
    exact .leaf (h u (List.mem_of_getElem? hu))
def spSame (K : PySem.W.Frag) (n : Nat) : Sp := fun vs H Q _ => ∃ x y : V, vs = [x, y] ∧ SameD K H n x y ∧ Q (.bl true) H
end HL
namespace RC
open PySem PySem.W PySem.Calls PyProof.Rows PySem.HandSPX
/-! ## RefusedChunk(position): its __init__ asks super().__init__ with a text, then keeps the position -/
/-- the text of __init__, by its places -/
def rA : Arguments := { posonlyargs := [], args := [{ arg := "self", annotation := none, pos := ⟨7, 17, 7, 21⟩ }, { arg := "position", annotation := none, pos := ⟨7, 23, 7, 31⟩ }], vararg := none, kwonlyargs := [], kw_defaults := [], kwarg := none, defaults := [] }
def rB : List Stmt :=
  [.Expr (.Call (.Attribute (.Call (.Name "super" ⟨8, 8, 8, 13⟩) [] [] ⟨8, 8, 8, 15⟩) "__init__" ⟨8, 8, 8, 24⟩) [.JoinedStr [.Constant (.str "refused at ") 0 ⟨8, 27, 8, 38⟩, .FormattedValue (.Name "position" ⟨8, 39, 8, 47⟩) (-1) none ⟨8, 38, 8, 48⟩] ⟨8, 25, 8, 49⟩] [] ⟨8, 8, 8, 50⟩) ⟨8, 8, 8, 50⟩,
   .Assign [.Attribute (.Name "self" ⟨9, 8, 9, 12⟩) "position" ⟨9, 8, 9, 21⟩] (.Name "position" ⟨9, 24, 9, 32⟩) ⟨9, 8, 9, 32⟩]
def rS : Scope := { kind := .function, names := [(PySem.Str.ofString "self", .local), (PySem.Str.ofString "position", .local), (PySem.Str.ofString "__class__", .free), (PySem.Str.ofString "super", .globalImplicit)], isGenerator := false, isCoroutine := false, more := [] }
/-- what the written part says of the class at C and of its __init__ at fI -/
structure Facts (prog : Program) (K : Frag) (mg : Str → Option Value) (C fI : Addr) : Prop where
  gC : mg "RefusedChunk" = some (.ref C)
  cls : ∃ nm q N bs bm sn sub ab col dd k0 k1 k2 k3 k5, K.lookup C = some (excClassObj nm q C N bs bm true sn sub ab col dd k0 k1 k2 k3 k5 "ValueError.__new__") ∧ refsVE bm = true
  sa : findIn K (.ref C) "__setattr__" = some (some (.builtin "object.__setattr__"))
  ga : findIn K (.ref C) "__getattribute__" = some (some (.builtin "BaseException.__getattribute__"))
  gg : findIn K (.ref C) "__getattr__" = some none
  noN : findIn K (.ref C) "position" = some none
  iC : findIn K (.ref C) "__init__" = some (some (.ref fI))
  tC : typeIn K (.ref fI) = some (.type "function")
  kC : keepIn K (.ref C) = true
  exC : subIn K (.ref C) (.type "BaseException") = some true
  veC : subIn K (.ref C) (.type "ValueError") = some true
  tyC : typeIn K (.ref C) = some (.type "type")
  hdC : hasDictIn K C = true
  te : exmOne K (.ref C) (.ref C) = some true
  sup : ks_superIn K C C "__init__" = some (some (.builtin "ValueError.__init__"))
  mro : mroIn K C (.ref C) = some true
  any : nsIn K cStatics "thirdparty.any" = some none
  noS : mg "super" = none
  fn : ∃ (oc : Value) (od : Option Addr) (doc pm : Value) (an : Option Addr) (ct : Value) (osl : Array (Option Value)) (cda cc : Addr) (ccl cl : Value) (cdd cld : Option Addr) (vs : Array Value) (ccs csl : Array (Option Value)) (file : Str) (tf : Tok),
    K.lookup fI = some ⟨oc, od, .func (ksFn "__init__" "RefusedChunk.__init__" rA rB rS .none .none doc pm an (.ref cda) ct cc), osl⟩ ∧ codeIn K (.ref cda) "RefusedChunk.__init__" = true ∧
      K.lookup cda = some ⟨ccl, cdd, .fields vs, ccs⟩ ∧ vs[2]? = some (.str file tf) ∧ ((prog.main.file : Str) == file) = true ∧ K.lookup cc = some ⟨cl, cld, .cell (some (.ref C)), csl⟩
  top : (prog.main.scope.names.lookup ("super" : Str)).isSome = false
/-- what is known of the module where the exception is made -/
structure Mods (mg : Str → Option Value) (h : Heap) : Prop where
  g : h.Ns mainGlobals mg
  b : ∃ mb, h.Ns builtinsNs mb ∧ mb "super" = bootBuiltins "super"
theorem Mods.keeps {mg : Str → Option Value} {h h' : Heap} (m : Mods mg h) (k : ∀ b o, h.get? b = some o → h'.get? b = some o) : Mods mg h' := by
  obtain ⟨mb, h1, h2⟩ := m.b
  exact ⟨m.g.keeps k, mb, h1.keeps k, h2⟩
/-- what __init__ leaves of a fresh exception at x -/
structure Done (h h' : Heap) (x C dx : Addr) (v : Value) : Prop where
  keep : ∀ b o, b ≠ x → h.get? b = some o → h'.get? b = some o
  obj : ∃ t1, h'.get? x = some { cls := .ref C, dict := some dx, data := .fields #[.ref t1, .none, .none, .none, .bool false, .none] }
  dbig : h.objs.size ≤ dx
  dne : dx ≠ x
  ns : h'.Ns1 dx (fun y => if y = "position" then some v else none)
theorem one_size (v : Value) : [v].length ≤ sizeLine := by
  rw [sizeLine_eq]
  exact (by decide : 1 ≤ 16777216)
section
variable {prog : Program} {w : World} {A : Around} {E : Value → Shared → Prop} {R : Result → Shared → Prop} {s : Shared} {K : Frag} {mg : Str → Option Value} {C fI : Addr}
theorem init_ok (T : Facts prog K mg C fI) {x t0 : Addr} {i : Int} {tk : Tok} (hi : i.natAbs.log2 < 1920) (X : K.In s.heap) (G : Mods mg s.heap) (hlim : s.heap.NoLimit) (hx : s.heap.get? x = some (excO C t0)) (hnx : K.lookup x = none) (hroom : A.depth < recursionLimit)
    (hq : ∀ h' tk' dx, Done s.heap h' x C dx (.int i tk) → R (.ok (.ret .none)) { s with heap := h', toks := tk' }) :
    codeAny (model prog w) A (.call (.ref fI) ⟨[.ref x, .int i tk], []⟩) R s := by
  obtain ⟨oc, od, doc, pm, an, ct, osl, cda, cc, ccl, cl, cdd, cld, vs, ccs, csl, file, tf, ho, hcd, hcode, hvs, hfile, hcell⟩ := T.fn
  obtain ⟨nm, q, N, bs, bm, sn, sub, ab, col, dd, k0, k1, k2, k3, k5, hC, hbm⟩ := T.cls
  have hcl : clsIn K C = some { name := nm, bases := bs, mro := .ref C :: bm, ns := N, qualname := q, hasDict := true, slotNames := sn, subclasses := sub, abstract := ab, collection := col, hasDel := false } := by unfold clsIn; rw [hC] <;> rfl
  refine ks_codeAny_call_defAt (fd := ksFn "__init__" "RefusedChunk.__init__" rA rB rS .none .none doc pm an (.ref cda) ct cc) (binds := [("self", .ref x), ("position", .int i tk)]) hroom (X _ _ ho) rfl hlim (codeRec_of X hcd) rfl (BindsTo.of_eq (by first | rfl | with_unfolding_all rfl)) (show ∀ x ∈ rS.names, x.2 ≠ .cell by decide) (locs rfl) (fun h1 hn kk => ?_) rfl rfl rfl
  have X1 : K.In h1 := X.keeps kk
  have G1 := G.keeps kk
  have hx1 := kk _ _ hx
  have hI : InstAt h1 x (excO C t0) C none := ⟨hx1, rfl, rfl, trivial⟩
  show _root_.PySem.wpAt (model prog w) (A.deeper (ksEnv "RefusedChunk.__init__" rS s.heap.objs.size fI (.ref cda) cc)) (.func rB (ksEnv "RefusedChunk.__init__" rS s.heap.objs.size fI (.ref cda) cc)) (execs rB (ksEnv "RefusedChunk.__init__" rS s.heap.objs.size fI (.ref cda) cc)) _ _ _
  obtain ⟨oD, hD1, hD2⟩ : ∃ oD, h1.get? C = some oD ∧ oD.data = .cls { name := nm, bases := bs, mro := .ref C :: bm, ns := N, qualname := q, hasDict := true, slotNames := sn, subclasses := sub, abstract := ab, collection := col, hasDel := false } := ⟨_, X1 _ _ hC, rfl⟩
  obtain ⟨mb, gb, gs⟩ := G1.b
  obtain ⟨hp, g, dr, tks, os⟩ := s
  refine ks_wpAt_execs_cons (ks_wpAt_Expr_any (ks_wpAt_MethodCall ?_))
  refine ks_wpAt_super_base (env := ksEnv "RefusedChunk.__init__" rS hp.objs.size fI (.ref cda) cc) rfl rfl (by decide +kernel) rfl (X1 _ _ ho) rfl rfl rfl (X1 _ _ hcode) rfl hvs hfile T.top ?_
  refine ks_loadName_global rfl rfl (loadGlobal_builtin (env := ksEnv "RefusedChunk.__init__" rS hp.objs.size fI (.ref cda) cc) G1.g T.noS gb (gs.trans (by first | rfl | kernel_rfl)) ⟨rfl, ?_⟩)
  refine wpAny_loadName_free rfl rfl rfl ⟨_, X1 _ _ hcell, rfl⟩ ?_
  refine wpAny_loadName_local rfl rfl hn (by first | rfl | with_unfolding_all rfl) ?_
  refine ks_wpAny_isType_cls hD1 hD2 ⟨rfl, ?_⟩
  refine ks_wpAny_call_super hD1 hD2 hI.at_ hI.cls (fun c e => by cases e) (looks_mroIn X1 T.mro) (fun h2 so k2 => ?_)
  have X2 : K.In h2 := X1.keeps k2
  have hx2 := k2 _ _ hx1
  have hI2 : InstAt h2 x (excO C t0) C none := ⟨hx2, rfl, rfl, trivial⟩
  have hm : alongIn K "__init__" (((Value.ref C :: bm).dropWhile (· != .ref C)).drop 1) = some (some (.builtin "ValueError.__init__")) := by
    have q := T.sup
    unfold ks_superIn at q
    rw [hcl] at q
    exact q
  have hxC : x ≠ C := ks_ne X1 hI hcl
  refine kxs_getMethod kxs_ValueError so (looks_opaque X2 T.any) (l₀ := .ref C :: bm) ((looks_clsIn X2 hcl).andThen .now) rfl X2 hm (hI2.type.andThen (looks_subIn X2 T.veC)) hxC (by decide +kernel) ?_
  -- the argument, a text
  have ku : ∀ b o, h2.get? b = some o → (h2.push (kxs_mw "ValueError.__init__" x)).get? b = some o := fun b o e => Heap.get?_push_of_some _ e
  have hu : (h2.push (kxs_mw "ValueError.__init__" x)).get? h2.objs.size = some (kxs_mw "ValueError.__init__" x) := Heap.get?_push_at rfl rfl
  have hn3 := (hn.keeps k2).keeps ku
  refine kxs_callWith (i := "ValueError.__init__") (x := x) rfl (evalArgs_plain (Calls.spliced_cons ?_))
  refine wpAny_JoinedStr (pos := ⟨8, 25, 8, 49⟩) (Calls.Constant_str ⟨_, _, rfl, by decide +kernel, ?_⟩)
  refine wpAny_FormattedValue_plain (wpAny_Name (wpAny_loadName_local rfl rfl hn3 (by first | rfl | with_unfolding_all rfl) ?_) (by decide))
  have hlen := int_text_len_1921 hi
  have hsum : (Str.empty ++ ("refused at " : Str) ++ (Str.ofString (toString i))).length ≤ 2000 := by
    have e : ∀ a b : Str, (a ++ b).length = a.length + b.length := fun a b => Array.size_append ..
    rw [e]
    have : (Str.empty ++ ("refused at " : Str)).length = 11 := by decide +kernel
    omega
  have hfit : (Str.empty ++ ("refused at " : Str) ++ (Str.ofString (toString i))).length ≤ sizeLine := Nat.le_trans hsum (by decide)
  refine wpAny_formatField_int hi ⟨_, _, rfl, hfit, hfit, Calls.spliced_nil ⟨hu, ?_⟩⟩
  -- ValueError.__init__, bound to the exception
  have he3 : (h2.push (kxs_mw "ValueError.__init__" x)).get? x = some (excO C t0) := ku _ _ hx2
  have hC3 := ku _ _ (X2 _ _ hC)
  refine wpAny_call (codeAny_of_tree (show wpAny _ (Around.in1 _) (callAny (.ref h2.objs.size) ⟨[_], []⟩) _ _ _ from ?_))
  simp only [callAny]; refine wpAny_bind (wpAny_load hu ?_)
  simp only [show (Value.type "method-wrapper" == Value.type "method" || Value.type "method-wrapper" == Value.type "builtin_function_or_method" || Value.type "method-wrapper" == Value.type "method-wrapper") = true from by decide, if_true]
  refine KFB.if_so (by decide) (wpAny_bind (check_bound_init F.excBase_ValueError.toExcCallFacts hC3 he3 rfl (wpAny_bind (wpAny_pure (wpAny_pure ⟨plainId_quiet F.excBase_ValueError.init.plain _, codeAny_builtin F.excBase_ValueError.initEntry ?_⟩)))))
  refine exc_init_tree (cls := .ref C) (t0 := t0) (dv := none) (c2 := .none) (c3 := .none) (b4 := .bool false) he3 (one_size _) (fun h4 k4 e4 _ => ?_)
  -- self.position = position
  show _root_.PySem.wpAt _ _ _ (execs _ _) _ _ _
  have hL : hp.objs.size ≠ x := Nat.ne_of_gt (Heap.lt_size hx)
  have hn4 : h4.Ns hp.objs.size _ := hn3.at fun o q => k4 _ _ hL q
  have X4 : K.In h4 := fun a o e => k4 a o (fun z => by rw [z, hnx] at e; cases e) (ku _ _ (X2 _ _ e))
  refine wpAt_of_wpAny (wpAny_execs_cons (plainObj_wpAny_Assign_Attribute ?_))
  refine wpAny_Name (wpAny_loadName_local rfl rfl hn4 (by first | rfl | with_unfolding_all rfl) ?_) (by decide)
  refine wpAny_Name (wpAny_loadName_local rfl rfl hn4 (by first | rfl | with_unfolding_all rfl) ?_) (by decide)
  refine set_plain X4 (ox := excO C (h2.push (kxs_mw "ValueError.__init__" x)).objs.size) (od := none) ⟨e4, rfl, rfl, trivial⟩ T.sa ?_
  refine exc_osa X4 e4 hcl (show refsVE (.ref C :: bm) = true from hbm) rfl T.noN (fun h5 tk5 dx k5 dn dne hx5 hn5 => ?_)
  have z : hp.objs.size < h4.objs.size := hn4.lt
  exact wpAny_execs_nil (hq h5 tk5 dx ⟨fun b o hb e => k5 b o hb (k4 b o hb (ku _ _ (k2 _ _ (kk _ _ e)))), ⟨_, hx5⟩, Nat.le_of_lt (Nat.lt_of_lt_of_le z dn), dne, hn5⟩)
/-- a made exception -/
structure Made (h h' : Heap) (e C d : Addr) (v : Value) : Prop where
  keep : ∀ b o, h.get? b = some o → h'.get? b = some o
  new : h.objs.size ≤ e
  obj : ∃ oe vs, h'.get? e = some oe ∧ oe.cls = .ref C ∧ oe.dict = some d ∧ oe.data = .fields vs ∧ vs[1]? = some .none
  dbig : h.objs.size ≤ d
  dne : d ≠ e
  ns : h'.Ns1 d (fun y => if y = "position" then some v else none)
theorem made_ok (T : Facts prog K mg C fI) {i : Int} {tk : Tok} (hi : i.natAbs.log2 < 1920) (X : K.In s.heap) (G : Mods mg s.heap) (hlim : s.heap.NoLimit) (hroom : A.depth + 1 < recursionLimit)
    (hq : ∀ h' tk' e d, Made s.heap h' e C d (.int i tk) → R (.ok (.ret (.ref e))) { s with heap := h', toks := tk' }) :
    codeAny (model prog w) A (.call (.ref C) ⟨[.int i tk], []⟩) R s := by
  obtain ⟨nm, q, N, bs, bm, sn, sub, ab, col, dd, k0, k1, k2, k3, k5, hC, hbm⟩ := T.cls
  obtain ⟨hp, g, dr, tks, os⟩ := s
  have k : ∀ b o, hp.get? b = some o → ((hp.push (kdv_tup [.int i tk])).push (excO C hp.objs.size)).get? b = some o := fun b o e => Heap.get?_push_of_some _ (Heap.get?_push_of_some _ e)
  have hget : ((hp.push (kdv_tup [.int i tk])).push (excO C hp.objs.size)).get? (hp.objs.size + 1) = some (excO C hp.objs.size) := by heap_get
  have hnx : K.lookup (hp.objs.size + 1) = none := by
    cases e : K.lookup (hp.objs.size + 1) with
    | none => rfl
    | some o =>
      have z : hp.get? (hp.objs.size + 1) = some o := X _ _ e
      exact absurd (Nat.lt_of_succ_lt (Heap.lt_size z)) (Nat.lt_irrefl _)
  refine call_own F.excBase_ValueError (fun X => refsVE_contains X bm hbm) (X _ _ hC) (looks_findIn X T.iC) (fun self => bind_fn X self T.tC) (one_size _) ?_
  refine init_ok (s := ⟨(hp.push (kdv_tup [.int i tk])).push (excO C hp.objs.size), g, dr, tks, os⟩) T hi (X.keeps k) (G.keeps k) (hlim.keeps k) hget hnx ?_ fun h' tk' dx D => ?_
  · show A.depth + 1 < recursionLimit
    exact hroom
  · obtain ⟨kd, ⟨t1, hx⟩, dn, dne, hns⟩ := D
    have old : ∀ b o, hp.get? b = some o → h'.get? b = some o := fun b o e => kd b o (Nat.ne_of_lt (Nat.lt_succ_of_lt (Heap.lt_size e))) (k b o e)
    have z : hp.objs.size + 1 + 1 ≤ dx := by
      first
        | (simpa only [Heap.size_push] using dn)
        | exact dn
        | (have q := dn; rw [Heap.size_push, Heap.size_push] at q; exact q)
    exact ⟨rfl, hq h' tk' (hp.objs.size + 1) dx ⟨old, Nat.le_succ _, ⟨_, _, hx, rfl, rfl, rfl, rfl⟩, Nat.le_trans (Nat.le_trans (Nat.le_succ _) (Nat.le_succ _)) z, dne, hns⟩⟩
end
end RC
namespace L2
open PySem PySem.Spec PyProof.Rows
theorem relO_pos {v : V} {v' : Value} (r : RelV v v') (f : Str) : RelO (List.lookup f [(("position" : Str), v)]) (if f = "position" then some v' else none) := by
  by_cases hw : f = "position"
  · subst hw
    rw [if_pos rfl]
    have q : List.lookup ("position" : Str) [(("position" : Str), v)] = some v := by simp [List.lookup]
    rw [q]
    exact r
  · rw [if_neg hw]
    have qw : (f == ("position" : Str)) = false := by simpa using hw
    have q2 : List.lookup f [(("position" : Str), v)] = none := by simp [List.lookup, qw]
    rw [q2]
    trivial
section
variable {X : Cx} {C fI : Addr}
/-- RefusedChunk(e), e a number -/
def tMkRC (C : Addr) (ta : TA) : St → Hp → XK → Prop := fun σ H Q => ta σ H fun vs H1 => ∃ i : Int, vs = [.int i] ∧ i.natAbs.log2 < 1920 ∧ ∀ d, H1 d = none → Q (.ref C) (some d) (upd H1 d (.xd [(("position" : Str), .int i)]))
theorem pmk_rc {a : Expr} {ta : TA} {p pos : Pos} {k : Nat} (T : RC.Facts X.prog X.K X.mg C fI) (hr : Room k X.A) (ha : PA X [a] ta) (hg : Gl X "RefusedChunk" := by rfl)
    (he : starEach (a :: []) X.env = (false, eval a X.env) :: starEach [] X.env := by rfl) (hpl : (backTo pos (starEach [] X.env)).any (·.1) = false := by rfl) :
    PMk X (.Call (.Name "RefusedChunk" p) [a] [] pos) (tMkRC C ta) := by
  intro pins s σ H Q I h
  refine wpAny_Call_Name_kw (ld_glob I hg T.gC ?_)
  refine PySem.W.callWith_K (h₀ := X.base) I.ok.mod.kin T.kC (thn (ha.run pos pins s σ H _ I h) fun us s1 hh => ?_) he hpl
  obtain ⟨vs, H1, I1, r1, i, ev, hi, q1⟩ := hh
  subst ev
  refine ⟨I1.kIn, ?_⟩
  cases r1 with
  | cons rv rn =>
    rename_i v' us'
    cases rn
    obtain ⟨tk, rfl⟩ := (show ∃ t, v' = Value.int i t from rv)
    show wpAny _ _ (call (.ref C) [.int i tk]) _ _ _
    have hlim := I1.nolimit
    have G1 : RC.Mods X.mg s1.heap := by
      obtain ⟨mb, h1, h2⟩ := I1.mod.blt
      exact ⟨I1.mod.glob.keeps I1.bk, mb, h1.keeps I1.bk, h2 _ (by decide)⟩
    obtain ⟨hp, g, dr, tks, os⟩ := s1
    refine wpAny_call (RC.made_ok T hi I1.kIn G1 hlim (by have := hr.dp; omega) fun h' tk' e d M => ?_)
    show MkP X pins σ Q (.ref e) ⟨h', g, dr, tk', os⟩
    obtain ⟨oe, fv, hoe, hc, hd, hdat, h1⟩ := M.obj
    have hns := M.ns
    obtain ⟨G', g1, g2⟩ := restrict h' fun b => decide (b ≠ e)
    have gk : ∀ b, b ≠ e → G'.get? b = h'.get? b := fun b hb => g1 b (decide_eq_true hb)
    have ge : G'.get? e = none := g2 e (by simp)
    have old : ∀ b o, hp.get? b = some o → G'.get? b = some o := fun b o q => (gk b (Nat.ne_of_lt (Nat.lt_of_lt_of_le (Heap.lt_size q) M.new))).trans (M.keep b o q)
    have ob : ObjOk X.prog X.w (upd H1 d (.xd [(("position" : Str), .int i)])) G' d (.xd [(("position" : Str), .int i)]) :=
      ⟨_, hns.at (fun o q => (gk d M.dne).trans q), fun f => relO_pos (v := .int i) ⟨tk, rfl⟩ f⟩
    have J : Inv X pins σ (upd H1 d (.xd [(("position" : Str), .int i)])) ⟨G', g, dr, tk', os⟩ := I1.laid (t' := tk') old M.dbig ob
    refine ⟨e, oe, fv, ⟨G', g, dr, tk', os⟩, _, .ref C, some d, rfl, J, fun b o q => ?_, ge, hoe, ⟨hc, hd⟩, hdat, h1, ?_, rfl, I1.bare, raises_own T.exC T.tyC, q1 d (I1.hok.fresh M.dbig)⟩
    · by_cases hb : b = e
      · have q' : G'.get? b = some o := q
        rw [hb, ge] at q'; cases q'
      · exact (gk b hb).symm.trans q
    · rw [upd_ne (Ne.symm M.dne)]
      exact I1.hok.fresh M.new
/-- raise RefusedChunk(e) -/
def tRaiseRC (C : Addr) (W : WX) (ta : TA) : TS := fun _ σ H => tMkRC C ta σ H fun cls d H' => W cls d σ H'
theorem ps_raiseRC {a : Expr} {ta : TA} {W : WX} {p pos pos2 : Pos} {k : Nat} (hc : X.calm = true) (T : RC.Facts X.prog X.K X.mg C fI) (hr : Room k X.A) (tk : Takes X W) (ha : PA X [a] ta) (hg : Gl X "RefusedChunk" := by rfl)
    (he : starEach (a :: []) X.env = (false, eval a X.env) :: starEach [] X.env := by rfl) (hpl : (backTo pos (starEach [] X.env)).any (·.1) = false := by rfl) :
    PS X (.Raise (some (.Call (.Name "RefusedChunk" p) [a] [] pos)) none pos2) (tRaiseRC C W ta) := ps_raise hc tk (pmk_rc T hr ha hg he hpl)
/-- e.position, e the exception that the suite holds (at a; its class cls, its dict d) -/
def tPosRC (C : Addr) (a : Addr) (cls : Value) (d : Option Addr) (te : TE) : TE := fun σ H Q => te σ H fun x H1 => x = .ref a ∧ cls = .ref C ∧ ∃ (dd : Addr) (v : V), d = some dd ∧ H1 dd = some (.xd [(("position" : Str), v)]) ∧ Q v H1
theorem pe_posRC {a : Addr} {oe : Obj} {cls : Value} {d : Option Addr} {pn : List (Addr × Obj)} {e : Expr} {te : TE} {pos : Pos} (T : RC.Facts X.prog X.K X.mg C fI) (hz : Zc cls d oe) (hf : ∃ vs, oe.data = .fields vs) (he : PE (X.suite a ((a, oe) :: pn)) e te)
    (hb : attributeBase e "position" X.env (eval e X.env) = eval e X.env := by rfl) :
    PE (X.suite a ((a, oe) :: pn)) (.Attribute e "position" pos) (tPosRC C a cls d te) := by
  refine ⟨fun pins s σ H Q I h => ?_⟩
  refine attr_of hb (thn (he.run pins s σ H _ I h) fun u s1 hh => ?_)
  obtain ⟨x, H1, I1, rx, ex, ec, dd, v, ed, ea, q⟩ := hh
  subst ex
  obtain rfl : u = Value.ref a := rx
  subst ec
  subst ed
  obtain ⟨ha, _⟩ := I1.pin (a, oe) (List.mem_append_left _ List.mem_cons_self)
  obtain ⟨vs, hd⟩ := hf
  have hx : ObjOk X.prog X.w H1 s1.heap dd (.xd [(("position" : Str), v)]) := I1.hok dd _ ea
  obtain ⟨mA, hns, hr⟩ := hx
  obtain ⟨od, ho, hl⟩ := lookIn_ns hns
  have l : List.lookup ("position" : Str) [(("position" : Str), v)] = some v := by simp [List.lookup]
  obtain ⟨u, hu, ru⟩ := RelO.some_of (v := v) (o := mA "position") (by rw [← l]; exact hr "position")
  have J : PySem.W.InstAt s1.heap a oe C (some od) := ⟨ha, hz.1, by unfold PySem.W.notCls; rw [hd] <;> rfl, by rw [hz.2]; exact ho⟩
  exact HandSPX.exc_get I1.kIn J T.ga T.gg T.exC (PySem.W.findObj_own T.hdC T.noN rfl (by rw [hl, hu])) (handed_of ru) ⟨v, H1, I1.tok _, ru, q⟩
end
end L2
namespace PySem.W
open PySem PySem.Spec PySem.Calls PyProof.Rows
section
variable {prog : Program} {w : World} {A : Around} {E : Value → Shared → Prop} {s : Shared} {K : Frag} {x D : Addr} {ox : Obj} {od : Option Obj}
/-! isinstance of a caught error that has fields -/
/-- where the class of the caught error says that __class__ is found -/
theorem rc_found (c : L2.ExcC K D) : findObj K D od "__class__" = some (.bind (.builtin "getset_descriptor.__get__") (.builtin "object.__class__")) := by
  obtain ⟨cd, hcd, -⟩ := any_some c.hd
  simp [findObj, hcd, c.ha, c.hn, c.ht]
/-- the two questions of the way by its own __getattribute__ -/
theorem rc_no : (Value.builtin "BaseException.__getattribute__" == Value.builtin "object.__getattribute__") = false := by decide +kernel
/-- object.__getattribute__(x, "__class__") -/
theorem rc_slot {tk : Tok} {Q : Fin → Shared → Prop} (c : L2.ExcC K D) (X : K.In s.heap) (I : InstAt s.heap x ox D od) (h : Q (.done (.ret (.ref D))) s) : wpAny (model prog w) A (Builtin.«object.__getattribute__» ⟨[.ref x, .str "__class__" tk], []⟩) Q E s := by
  have ty := I.type (M := model prog w)
  have fd := looks_find (M := model prog w) X I (rc_found c)
  cases s
  simp only [Builtin.«object.__getattribute__»]
  apply wpAny_bind; apply wpAny_of_eq (a := ((Value.ref x : Value), [Value.str "__class__" tk])) (by simp only [slotArgs]; rfl)
  apply wpAny_bind; apply wpAny_pure; apply wpAny_bind; apply ty.at; apply wpAny_bind; apply fd.at
  apply wpAny_bind (m := holding [Value.builtin "object.__class__"] (call (.builtin "getset_descriptor.__get__") [.builtin "object.__class__", .ref x, .ref D]))
  apply wpAny_holding; apply wpAny_call; apply class_get X I c.hm
  exact wpAny_pure h
/-- the same by BaseException.__getattribute__ -/
theorem rc_code {tk : Tok} {R : Result → Shared → Prop} (c : L2.ExcC K D) (X : K.In s.heap) (I : InstAt s.heap x ox D od) (h : R (.ok (.ret (.ref D))) s) : codeAny (model prog w) A (.call (.builtin "BaseException.__getattribute__") ⟨[.ref x, .str "__class__" tk], []⟩) R s := by
  have sb : Looks (model prog w) s.heap (isInstance (.ref x) (.type "BaseException")) true := (I.type (M := model prog w)).andThen (looks_subIn X c.hs)
  obtain ⟨hp, gs, dr, ts, o⟩ := s
  apply codeAny_call_builtin PySem.F.excAttr_ValueError.ga.plain PySem.F.entry_bexc_ga
  exact @check_slot _ _ _ ⟨hp, gs, dr, ts, o⟩ "BaseException.__getattribute__" "BaseException" "__getattribute__" _ [.str "__class__" tk] [] _ (by decide +kernel) (by decide +kernel) sb (PySem.F.args_bexc_ga _ _) (rc_slot c X I h)
/-- x.__class__ -/
theorem rc_classE {Q : Option Value → Shared → Prop} (c : L2.ExcC K D) (X : K.In s.heap) (I : InstAt s.heap x ox D od) (h : Q (some (.ref D)) { s with toks := s.toks + 1 }) : wpAny (model prog w) A (getAttr? (.ref x) "__class__") Q E s := by
  obtain ⟨hp, gs, dr, ts, o⟩ := s
  have ty : Looks (model prog w) hp _ _ := I.type
  have ga := looks_findIn (M := model prog w) X c.hg
  have gt := looks_findIn (M := model prog w) X c.hk
  simp only [getAttr?, getAttrBy?, getAttrBy]
  apply wpAny_bind; apply wpAny_mkText; apply wpAny_bind; apply wpAny_attempt; apply wpAny_holding
  apply wpAny_bind; apply ty.at; apply wpAny_bind; apply ga.at
  dsimp only
  rw [rc_no, Bool.and_false, if_neg Bool.false_ne_true]
  simp only [getAttrByItsOwn, hookBefore]
  apply wpAny_bind; rw [if_pos (by rfl)]; apply gt.at
  apply wpAny_bind; apply wpAny_attempt; apply wpAny_holding
  simp only [callGetattribute, boundAndCalled]
  rw [PySem.F.excAttr_ValueError.ga.bind (.ref x)]
  rw [Bool.false_and, if_neg Bool.false_ne_true]
  apply wpAny_bind; apply wpAny_pure
  apply wpAny_call (pos := [Value.ref x, Value.str "__class__" ts])
  apply rc_code (s := ⟨hp, gs, dr, ts + 1, o⟩) c X I
  dsimp only
  rw [handedOut_of (v := Value.ref D) (by rfl)]
  exact wpAny_pure (wpAny_pure h)
/-- its instances asked -/
theorem rc_kit (c : L2.ExcC K D) : KitX K (.ref x) (.ref D) (fun h => ∃ od, InstAt h x ox D od) := by
  obtain ⟨cd, hcd, -⟩ := any_some c.hd
  obtain ⟨oD, ho, hdat⟩ : ∃ oD, K.lookup D = some oD ∧ ∃ c', oD.data = .cls c' := by
    unfold clsIn at hcd
    split at hcd
    · rename_i c' d' cd' sl' ho
      exact ⟨_, ho, _, rfl⟩
    · cases hcd
  obtain ⟨c', hdat⟩ := hdat
  refine ⟨fun _ _ _ ⟨_, I⟩ => I.type, fun _ _ X _ => ?_, fun h tp dd its n sl X ht => ?_, fun X ⟨_, I⟩ k => rc_classE c X I k⟩
  · intro A' Q' E' s' k q
    obtain ⟨oc, od, oda, osl⟩ := oD
    cases hdat
    simp only [isType, loadHead]
    apply wpAny_bind; apply wpAny_loadPart (k _ _ (X _ _ ho)); exact wpAny_pure q
  · by_cases e : D = tp
    · subst e
      rw [X _ _ ho] at ht
      cases ht
      cases hdat
    · simpa using e
end
end PySem.W
namespace L2
open PySem PySem.Spec PyProof.Rows
/-- isinstance(e, c), e the exception that the suite holds, which has fields -/
def rIsF (K : PySem.W.Frag) (D a : Addr) (cls : Value) (d : Option Addr) : List V → Hp → VK → Prop := fun xs H Q => ∃ (c : V) (cv : Value) (b : Bool) (dd : Addr) (fs : List (Str × V)), xs = [.ref a, c] ∧ cls = .ref D ∧ d = some dd ∧ H dd = some (.xd fs) ∧ (∀ u, RelV c u → u = cv) ∧ PySem.W.kitOne K (.ref D) cv = some b ∧ Q (.bl b) H
theorem call_isF {X : Cx} {a D : Addr} {oe : Obj} {cls : Value} {d : Option Addr} {pn : List (Addr × Obj)} (C : ExcC X.K D) (hz : Zc cls d oe) (hf : ∃ vs, oe.data = .fields vs) : CallR (X.suite a ((a, oe) :: pn)) (.builtin "isinstance") (rIsF X.K D a cls d) := by
  intro pins s σ H xs us Q I r h
  obtain ⟨c, cv, b, dd, fs, rfl, rfl, rfl, hd, hcv, e, q⟩ := h
  cases r with
  | cons rx rr =>
    cases rr with
    | cons rt rr =>
      cases rr
      cases rx
      have ec := hcv _ rt
      subst ec
      have hget := (I.pin (a, oe) (List.mem_append_left pins List.mem_cons_self)).1
      obtain ⟨vs, hv⟩ := hf
      have hx : ObjOk X.prog X.w H s.heap dd (.xd fs) := I.hok dd _ hd
      obtain ⟨mA, hns, hr⟩ := hx
      obtain ⟨od, ho, hl⟩ := lookIn_ns hns
      have J : PySem.W.InstAt s.heap a oe D (some od) := ⟨hget, hz.1, by unfold PySem.W.notCls; rw [hv] <;> rfl, by rw [hz.2]; exact ho⟩
      exact PySem.W.kia_one (PySem.W.rc_kit C) I.kIn ⟨_, J⟩ e (fun z => nomatch z) fun tk => ⟨.bl b, H, I.kept (t' := tk) fun _ _ z => z, rfl, q⟩
end L2
namespace Q21
open PySem PySem.Spec PyProof.Rows L2 SX HL
def topS (i : Nat) : Stmt := PySem.Challenge.pw_quillrun_k21_tokens_read_back.main.body.getD i (.Pass ⟨0, 0, 0, 0⟩)
abbrev sTokenize : Stmt := topS 13
theorem scTokenize : FnScope ["chunk", "tokens", "position", "kind", "value", "end"] ["chunk"] (defScope sTokenize) := ⟨rfl, rfl, rfl, by decide +kernel, rfl, by decide +kernel, by decide +kernel⟩
abbrev sTokenAt : Stmt := topS 14
theorem scTokenAt : FnScope ["chunk", "start", "first"] ["chunk", "start"] (defScope sTokenAt) := ⟨rfl, rfl, rfl, by decide +kernel, rfl, by decide +kernel, by decide +kernel⟩
abbrev sWordAt : Stmt := topS 15
theorem scWordAt : FnScope ["chunk", "start", "end", "word"] ["chunk", "start"] (defScope sWordAt) := ⟨rfl, rfl, rfl, by decide +kernel, rfl, by decide +kernel, by decide +kernel⟩
abbrev sNumberAt : Stmt := topS 16
theorem scNumberAt : FnScope ["chunk", "start", "end"] ["chunk", "start"] (defScope sNumberAt) := ⟨rfl, rfl, rfl, by decide +kernel, rfl, by decide +kernel, by decide +kernel⟩
abbrev sTextAt : Stmt := topS 17
theorem scTextAt : FnScope ["chunk", "start", "characters", "position"] ["chunk", "start"] (defScope sTextAt) := ⟨rfl, rfl, rfl, by decide +kernel, rfl, by decide +kernel, by decide +kernel⟩
abbrev sSignAt : Stmt := topS 18
theorem scSignAt : FnScope ["chunk", "start"] ["chunk", "start"] (defScope sSignAt) := ⟨rfl, rfl, rfl, by decide +kernel, rfl, by decide +kernel, by decide +kernel⟩
abbrev sEndOfRun : Stmt := topS 19
theorem scEndOfRun : FnScope ["chunk", "start", "allowed", "end"] ["chunk", "start", "allowed"] (defScope sEndOfRun) := ⟨rfl, rfl, rfl, by decide +kernel, rfl, by decide +kernel, by decide +kernel⟩
abbrev sLawNext : Stmt := topS 21
theorem scLawNext : FnScope ["state", "limit", "cell", "value"] ["state", "limit"] (defScope sLawNext) := ⟨rfl, rfl, rfl, by decide +kernel, rfl, by decide +kernel, by decide +kernel⟩
abbrev sLawSame : Stmt := topS 22
theorem scLawSame : FnScope ["actual", "expected", "k"] ["actual", "expected"] (defScope sLawSame) := ⟨rfl, rfl, rfl, by decide +kernel, rfl, by decide +kernel, by decide +kernel⟩
abbrev sLawKeywords : Stmt := topS 23
theorem scLawKeywords : FnScope ["words"] [] (defScope sLawKeywords) := ⟨rfl, rfl, rfl, by decide +kernel, rfl, by decide +kernel, by decide +kernel⟩
abbrev sLawWord : Stmt := topS 24
theorem scLawWord : FnScope ["state", "first", "following", "word", "k"] ["state", "first"] (defScope sLawWord) := ⟨rfl, rfl, rfl, by decide +kernel, rfl, by decide +kernel, by decide +kernel⟩
abbrev sLawName : Stmt := topS 25
theorem scLawName : FnScope ["state"] ["state"] (defScope sLawName) := ⟨rfl, rfl, rfl, by decide +kernel, rfl, by decide +kernel, by decide +kernel⟩
abbrev sLawMaker : Stmt := topS 26
theorem scLawMaker : FnScope ["state"] ["state"] (defScope sLawMaker) := ⟨rfl, rfl, rfl, by decide +kernel, rfl, by decide +kernel, by decide +kernel⟩
abbrev sLawChar : Stmt := topS 27
theorem scLawChar : FnScope ["index", "chars"] ["index"] (defScope sLawChar) := ⟨rfl, rfl, rfl, by decide +kernel, rfl, by decide +kernel, by decide +kernel⟩
abbrev sLawDigits : Stmt := topS 28
theorem scLawDigits : FnScope ["state", "count", "k"] ["state", "count"] (defScope sLawDigits) := ⟨rfl, rfl, rfl, by decide +kernel, rfl, by decide +kernel, by decide +kernel⟩
abbrev sLawQuoted : Stmt := topS 29
theorem scLawQuoted : FnScope ["text"] ["text"] (defScope sLawQuoted) := ⟨rfl, rfl, rfl, by decide +kernel, rfl, by decide +kernel, by decide +kernel⟩
abbrev sLawToken : Stmt := topS 30
theorem scLawToken : FnScope ["state", "pick", "word", "name", "maker", "digits", "text", "signs", "sign", "k"] ["state"] (defScope sLawToken) := ⟨rfl, rfl, rfl, by decide +kernel, rfl, by decide +kernel, by decide +kernel⟩
abbrev sLawJoins : Stmt := topS 31
theorem scLawJoins : FnScope ["written", "other", "letters", "first", "begin"] ["written", "other"] (defScope sLawJoins) := ⟨rfl, rfl, rfl, by decide +kernel, rfl, by decide +kernel, by decide +kernel⟩
abbrev sLawGap : Stmt := topS 32
theorem scLawGap : FnScope ["state", "needed", "gap", "k"] ["state", "needed"] (defScope sLawGap) := ⟨rfl, rfl, rfl, by decide +kernel, rfl, by decide +kernel, by decide +kernel⟩
abbrev sLawRead : Stmt := topS 33
theorem scLawRead : FnScope ["text", "e"] ["text"] (defScope sLawRead) := ⟨rfl, rfl, rfl, by decide +kernel, rfl, by decide +kernel, by decide +kernel⟩
abbrev sLaw : Stmt := topS 34
theorem scLaw : FnScope ["script", "state", "count", "text", "tokens", "previous", "k", "kind", "value", "written", "pick", "place", "strange"] ["script"] (defScope sLaw) := ⟨rfl, rfl, rfl, by decide +kernel, rfl, by decide +kernel, by decide +kernel⟩
def cBlanks : Str := " \n"
def cLower : Str := "abcdefghijklmnopqrstuvwxyz"
def cUpper : Str := "ABCDEFGHIJKLMNOPQRSTUVWXYZ"
def cDigits : Str := "0123456789"
def cWord : Str := "abcdefghijklmnopqrstuvwxyzABCDEFGHIJKLMNOPQRSTUVWXYZ0123456789_"
def kws : List (List Nat) := ["data", "fun", "cell", "view", "act", "turn", "then", "true", "false", "not", "and", "or", "if", "else", "let", "in", "case", "of", "end", "num", "text", "bool", "list", "mod"].map fun (x : String) => (Str.ofString x).cps.toList
structure Txt (prog : Program) (K : PySem.W.Frag) (mg : Str → Option Value) (C fI aK aL aS : Addr) : Prop where
  rc : RC.Facts prog K mg C fI
  len : mg "len" = none
  range : mg "range" = none
  isinstance : mg "isinstance" = none
  bool : mg "bool" = none
  int : mg "int" = none
  str : mg "str" = none
  tuple : mg "tuple" = none
  list : mg "list" = none
  g_BLANKS : ∃ t, mg "BLANKS" = some (.str " \n" t)
  g_LOWER : ∃ t, mg "LOWER" = some (.str "abcdefghijklmnopqrstuvwxyz" t)
  g_UPPER : ∃ t, mg "UPPER" = some (.str "ABCDEFGHIJKLMNOPQRSTUVWXYZ" t)
  g_DIGITS : ∃ t, mg "DIGITS" = some (.str "0123456789" t)
  g_WORD : ∃ t, mg "WORD_CHARACTERS" = some (.str "abcdefghijklmnopqrstuvwxyzABCDEFGHIJKLMNOPQRSTUVWXYZ0123456789_" t)
  g_KEYWORDS : mg "KEYWORDS" = some (.ref aK)
  g_LONG_SIGNS : mg "LONG_SIGNS" = some (.ref aL)
  g_SHORT_SIGNS : mg "SHORT_SIGNS" = some (.ref aS)
  g_MOST : ∃ t, mg "MOST_DIGITS" = some (.int 18 t)
  sK : ∀ H, SqT K H aK (kws.map fun x => V.str (S x))
  sL : ∀ H, SqT K H aL (longs.map fun x => V.str (S x))
  sS : ∀ H, SqT K H aS (shorts.map fun x => V.str (S [x]))
  tK : ∀ H, TyX K H (.ref aK) (.type "tuple")
end Q21
namespace Q21
open PySem PySem.Spec PyProof.Rows L2 SX HL
section
variable {P : Program} {w : World} {K : PySem.W.Frag} {mg : Str → Option Value} {base : Heap} {C fI aK aL aS : Addr}
/-! ### _law_next -/
def StAt (H : Hp) (p q : Addr) (ns : List Int) : Prop := H q = some (.lst (ns.map V.int)) ∧ ns.length ≤ 63 ∧ ∃ (i c z : Int), H p = some (.lst [.ref q, .int i, .int c, .int z]) ∧ 0 ≤ i ∧ 0 ≤ c ∧ 0 ≤ z ∧ z < 2147483648
theorem StAt.upd {H : Hp} {p q : Addr} {ns : List Int} (h : StAt H p q ns) {i c z : Int} (hi : 0 ≤ i) (hc : 0 ≤ c) (hz : 0 ≤ z) (hz2 : z < 2147483648) : StAt (upd H p (.lst [.ref q, .int i, .int c, .int z])) p q ns := by
  obtain ⟨h1, hl, i0, c0, z0, h2, _⟩ := h
  have ne : q ≠ p := by
    intro e
    subst e
    rw [h1] at h2
    have e2 := HO.lst.inj (Option.some.inj h2)
    cases ns with
    | nil => cases e2
    | cons x r => cases e2
  exact ⟨by rw [upd_ne ne]; exact h1, hl, i, c, z, upd_same, hi, hc, hz, hz2⟩
def spNext : Sp := fun vs H Q _ => ∃ (p q : Addr) (ns : List Int) (lim : Int), vs = [.ref p, .int lim] ∧ StAt H p q ns ∧ 0 < lim ∧ lim < 1000 ∧
  ∀ H' v, StAt H' p q ns → But H H' p → 0 ≤ v → v < lim → Q (.int v) H'
theorem ok_next {f : Addr} {fd : FuncData} {k : Nat} (D : DefN K mg "_law_next" sLawNext ["state", "limit"] f fd) (T : Txt P K mg C fI aK aL aS) : FnOk P w K mg base CX0 (k + 1) f fd ["state", "limit"] spNext := by
  refine D.F.ok scLawNext (fun vs H Q E h => ?_) (fun cdv A outer s H vs Q E hr h => ?_)
  · obtain ⟨p, q, ns, lim, rfl, _⟩ := h
    rfl
  · obtain ⟨p, q, ns, lim, rfl, hS, l0, l1, qq⟩ := h
    refine ⟨_, (C8.pss_cut (ps_if (PW.pt (pw_and (pt_cmpR op_eq (pe_ix ix_list (pv 0) pe_int (fun _ _ => rfl)) pe_int (nomark _)) (pw_and1 (pt_cmpR op_lt (pe_ix ix_list (pv 0) pe_int (fun _ _ => rfl)) (pe_callB call_len_seq (by rfl) T.len PySem.boot_len (pa_cons (pe_ix ix_list (pv 0) pe_int (fun _ _ => rfl)) pa_nil)) (nomark _))))) (pss_cons (ps_set (i := 2) scLawNext.nd rfl (.inl rfl) (pe_ix ix_list (pe_ix ix_list (pv 0) pe_int (fun _ _ => rfl)) (pe_ix ix_list (pv 0) pe_int (fun _ _ => rfl)) (fun _ _ => rfl)))
        (pss_cons (ps_augS (pv 0) pe_int pget_list pe_int ip_add set_list)
        (pss_one (ps_if (pt_cmpR op_ge (pv 2) (pe_op op_pow pe_int pe_int) (nomark _)) (pss_one (ps_asg (pv 2) (pg_sub (pv 0) pe_int set_list))) (pss_one (ps_asg (pe_op op_mod (pe_callTy call_int1 (by rfl) T.int HL.boot_int (pa_cons (pe_op op_add (pe_op op_add (pe_op op_mul (pe_ix ix_list (pv 0) pe_int (fun _ _ => rfl)) pe_int) (pe_op op_mod (pe_callTy call_int1 (by rfl) T.int HL.boot_int (pa_cons (pv 2) pa_nil)) pe_int)) pe_int) pa_nil)) pe_int) (pg_sub (pv 0) pe_int set_list))))))) pss_nil)
        (pss_cons (ps_if (pt_cmpR op_gt (pe_ix ix_list (pv 0) pe_int (fun _ _ => rfl)) pe_int (nomark _)) (pss_cons (ps_set (i := 3) scLawNext.nd rfl (.inl rfl) (pe_op op_mod (pe_callTy call_int1 (by rfl) T.int HL.boot_int (pa_cons (pe_ix ix_list (pv 0) pe_int (fun _ _ => rfl)) pa_nil)) (pv 1)))
        (pss_cons (ps_asg (pe_op op_fdiv (pe_ix ix_list (pv 0) pe_int (fun _ _ => rfl)) (pv 1)) (pg_sub (pv 0) pe_int set_list))
        (pss_one (ps_ret (pv 3))))) pss_nil)
        (pss_cons (ps_asg (pe_op op_mod (pe_callTy call_int1 (by rfl) T.int HL.boot_int (pa_cons (pe_op op_add (pe_op op_mul (pe_ix ix_list (pv 0) pe_int (fun _ _ => rfl)) pe_int) pe_int) pa_nil)) pe_int) (pg_sub (pv 0) pe_int set_list))
        (pss_one (ps_ret (pe_op op_mod (pe_callTy call_int1 (by rfl) T.int HL.boot_int (pa_cons (pe_op op_fdiv (pe_ix ix_list (pv 0) pe_int (fun _ _ => rfl)) pe_int) pa_nil)) (pv 1))))))), ?_⟩
    obtain ⟨hq, hlen, i, c, z, hp, hi, hc, hz, hz2⟩ := id hS
    refine ⟨fun σ' H' => StAt H' p q ns ∧ But H H' p ∧ ∃ y, σ' = [some (.ref p), some (.int lim), y, none], ?_, ?_⟩
    · refine ⟨.ref p, rfl, p, _, 2, .int c, rfl, rfl, SqL.of hp, rfl, rfl, _, rfl, ite2 (fun e => ?_) (fun e => iteF ⟨hS, But.refl, _, rfl⟩)⟩
      refine ⟨.ref p, rfl, p, _, 1, .int i, rfl, rfl, SqL.of hp, rfl, .ref p, rfl, p, _, 0, .ref q, rfl, rfl, SqL.of hp, rfl, q, _, rfl, .inl (SqL.of hq), _, _, rfl, rfl, _, rfl, ite2 (fun e2 => ?_) (fun e2 => ⟨hS, But.refl, _, rfl⟩)⟩
      have h2 : i < (ns.map V.int).length := of_decide_eq_true e2
      rw [List.length_map] at h2
      have hg : (ns.map V.int)[i.toNat]? = some (.int (ns.getD i.toNat 0)) := by
        have : i.toNat < ns.length := by omega
        simp [this]
      have hat : atI (ns.map V.int) i = some (.int (ns.getD i.toNat 0)) := by
        have : i = (i.toNat : Int) := by omega
        rw [this]
        exact atI_nat hg
      generalize ns.getD i.toNat 0 = x at hat
      refine ⟨.ref p, rfl, p, _, 0, .ref q, rfl, rfl, SqL.of hp, rfl, .ref p, rfl, p, _, 1, .int i, rfl, rfl, SqL.of hp, rfl, q, _, i, _, rfl, rfl, SqL.of hq, hat, ?_⟩
      refine ⟨.ref p, rfl, p, _, 1, .int i, rfl, rfl, SqL.of hp, by decide, rfl, i, 1, rfl, rfl, p, _, 1, 1, rfl, rfl, hp, rfl, ?_⟩
      have s1 := hS.upd (i := i + 1) (c := c) (z := z) (by omega) hc hz hz2
      refine ⟨_, rfl, _, _, rfl, rfl, ⟨by decide, by decide, by decide⟩, _, _, rfl, rfl, _, rfl, ite2 (fun e3 => ?_) (fun e3 => ?_)⟩
      · have h3 : (10 : Int) ^ 18 ≤ x := of_decide_eq_true e3
        have h4 : (0 : Int) ≤ x := Int.le_trans (by decide) h3
        refine ⟨_, rfl, .ref p, rfl, p, _, 2, 2, rfl, rfl, upd_same, rfl, ?_⟩
        rw [upd_upd]
        exact ⟨hS.upd (by show (0 : Int) ≤ i + 1; omega) h4 hz hz2, but_upd, _, rfl⟩
      · refine ⟨.ref p, rfl, p, _, 3, .int z, rfl, rfl, SqL.of upd_same, rfl, z, 48271, rfl, rfl, .inl ⟨by omega, by omega⟩, _, rfl, .inl ⟨x, rfl, x, _, rfl, rfl, (by show (0 : Int) < 2147483647; decide), _, _, rfl, rfl, _, _, rfl, rfl, .inl ⟨_, rfl, _, _, rfl, rfl, (by show (0 : Int) < 2147483647; decide), .ref p, rfl, p, _, 3, 3, rfl, rfl, upd_same, rfl, ?_⟩⟩⟩
        rw [upd_upd]
        refine ⟨hS.upd (by show (0 : Int) ≤ i + 1; omega) hc ?_ ?_, but_upd, _, rfl⟩
        · exact Int.emod_nonneg _ (by decide)
        · have := Int.emod_lt_of_pos (z * 48271 + x % 2147483647 + 7) (b := 2147483647) (by decide)
          omega
    · rintro σ' H' ⟨hS', hB, y, rfl⟩
      obtain ⟨hq', hlen', i', c', z', hp', hi', hc', hz', hz2'⟩ := id hS'
      refine ⟨.ref p, rfl, p, _, 2, .int c', rfl, rfl, SqL.of hp', rfl, c', 0, rfl, rfl, _, rfl, ite2 (fun e => ?_) (fun e => ?_)⟩
      · refine ⟨.ref p, rfl, p, _, 2, .int c', rfl, rfl, SqL.of hp', rfl, .inl ⟨c', rfl, .int lim, rfl, c', lim, rfl, rfl, l0, ?_⟩⟩
        refine ⟨.ref p, rfl, p, _, 2, .int c', rfl, rfl, SqL.of hp', rfl, .int lim, rfl, c', lim, rfl, rfl, ⟨l0, by omega⟩, .ref p, rfl, p, _, 2, 2, rfl, rfl, hp', rfl, _, rfl, ?_⟩
        refine qq _ _ (hS'.upd hi' (Int.ediv_nonneg hc' (by omega)) hz' hz2') (hB.trans but_upd) (Int.emod_nonneg _ (by omega)) (Int.emod_lt_of_pos _ l0)
      · refine ⟨.ref p, rfl, p, _, 3, .int z', rfl, rfl, SqL.of hp', rfl, z', 69621, rfl, rfl, .inl ⟨by omega, by omega⟩, _, _, rfl, rfl, .inl ⟨_, rfl, _, _, rfl, rfl, (by show (0 : Int) < 2147483647; decide), .ref p, rfl, p, _, 3, 3, rfl, rfl, hp', rfl, ?_⟩⟩
        have b1 : 0 ≤ (z' * 69621 + 12345) % 2147483647 := Int.emod_nonneg _ (by decide)
        have b2 := Int.emod_lt_of_pos (z' * 69621 + 12345) (b := 2147483647) (by decide)
        refine ⟨.ref p, rfl, p, _, 3, .int ((z' * 69621 + 12345) % 2147483647), rfl, rfl, SqL.of upd_same, rfl, _, 7, rfl, rfl, ⟨by decide, by decide⟩, .inl ⟨_, rfl, .int lim, rfl, _, lim, rfl, rfl, l0, ?_⟩⟩
        exact qq _ _ (hS'.upd hi' hc' b1 (by omega)) (hB.trans but_upd) (Int.emod_nonneg _ (by omega)) (Int.emod_lt_of_pos _ l0)
/-! ### _law_char -/
def spChar : Sp := fun vs H Q _ => ∃ (i : Int), vs = [.int i] ∧ 0 ≤ i ∧ i < 95 ∧ ∀ c : Nat, (i ≤ 93 → c ≠ 10) → (1 ≤ i → c ≠ 32) → Q (.str (S [c])) H
def tableA : Str := " '!\"#$&()*+,-./0123456789:;<=>?@ABCDEFGHIJKLMNOPQRSTUVWXYZ[\\]^_`"
def tableB : Str := "abcdefghijklmnopqrstuvwxyz{|}~\n"
def codesT : List Nat := (tableA ++ tableB).cps.toList
theorem codes_ok : codesT.length = 95 ∧ ∀ k, k < 95 → (k ≤ 93 → codesT.getD k 0 ≠ 10) ∧ (1 ≤ k → codesT.getD k 0 ≠ 32) := by decide +kernel
theorem tab_len : (tableA ++ tableB).length = 95 ∧ tableA.length + tableB.length = 95 := by decide +kernel
theorem ok_char {f : Addr} {fd : FuncData} {k : Nat} (D : DefN K mg "_law_char" sLawChar ["index"] f fd) (T : Txt P K mg C fI aK aL aS) : FnOk P w K mg base CX0 (k + 1) f fd ["index"] spChar := by
  refine D.F.ok scLawChar (fun vs H Q E h => ?_) (fun cdv A outer s H vs Q E hr h => ?_)
  · obtain ⟨i, rfl, _⟩ := h
    rfl
  · obtain ⟨i, rfl, h0, h1, q⟩ := h
    refine ⟨_, (pss_cons (ps_set (i := 1) scLawChar.nd rfl (.inl rfl) pe_str)
        (pss_cons (ps_set (i := 1) scLawChar.nd rfl (.inl rfl) (pe_op op_add_str (pv 1) pe_str))
        (pss_one (ps_ret (pe_ix ix_str (pv 1) (pe_op op_mod (pe_callTy call_int1 (by rfl) T.int HL.boot_int (pa_cons (pv 0) pa_nil)) pe_int) (fun _ _ => rfl)))))), ?_⟩
    refine ⟨.str tableA, rfl, tableA, tableB, rfl, rfl, ?_, .str (tableA ++ tableB), rfl, .int i, rfl, .inl ⟨i, rfl, i, 95, rfl, rfl, (by show (0 : Int) < 95; decide), tableA ++ tableB, i % 95, codesT.getD i.toNat 0, rfl, rfl, ?_, ?_, ?_⟩⟩
    · rw [tab_len.2]; decide
    · rw [tab_len.1]; decide
    · have e : i % 95 = (i.toNat : Int) := by
        rw [Int.emod_eq_of_lt h0 h1]; omega
      rw [e]
      refine atI_nat ?_
      show codesT[i.toNat]? = _
      have : i.toNat < codesT.length := by rw [codes_ok.1]; omega
      rw [List.getD_eq_getElem?_getD, List.getElem?_eq_getElem this]
      rfl
    · obtain ⟨c1, c2⟩ := codes_ok.2 i.toNat (by omega)
      exact q _ (fun h => c1 (by omega)) (fun h => c2 (by omega))
/-! ### _law_same -/
theorem same_zero {f : Addr} {fd : FuncData} (DLawSame : DefN K mg "_law_same" sLawSame ["actual", "expected"] f fd) (T : Txt P K mg C fI aK aL aS) : FnOk P w K mg base CX0 1 f fd ["actual", "expected"] (spSame K 0) := by
  refine DLawSame.F.ok scLawSame (fun vs H Q E h => ?_) (fun cdv A outer s H vs Q E hr h => ?_)
  · obtain ⟨x, y, rfl, _⟩ := h
    rfl
  · obtain ⟨x, y, rfl, ⟨lf, rfl⟩, q⟩ := h
    refine ⟨_, (pss_cons (ps_if (pt_cmp (pc_isN (pv 1))) (pss_one (ps_ret (pe_cmp (pc_isN (pv 0)) rfl))) pss_nil)
        (pss_cons (ps_if (pt_val (pe_callB call_isB (by rfl) T.isinstance HL.boot_isinstance (pa_cons (pv 1) (pa_cons (pe_bltn (v := .ty "bool") (by rfl) T.bool HL.boot_bool rfl) pa_nil)))) (pss_one (ps_ret (pe_and (pe_callB call_isB (by rfl) T.isinstance HL.boot_isinstance (pa_cons (pv 0) (pa_cons (pe_bltn (v := .ty "bool") (by rfl) T.bool HL.boot_bool rfl) pa_nil))) (pe_one (pe_cmpR op_eq (pv 0) (pv 1) (nomark _)))))) pss_nil)
        (pss_cons (ps_if (pt_val (pe_callB call_isB (by rfl) T.isinstance HL.boot_isinstance (pa_cons (pv 1) (pa_cons (pe_bltn (v := .ty "int") (by rfl) T.int HL.boot_int rfl) pa_nil)))) (pss_one (ps_ret (pe_and (pe_callB call_isB (by rfl) T.isinstance HL.boot_isinstance (pa_cons (pv 0) (pa_cons (pe_bltn (v := .ty "int") (by rfl) T.int HL.boot_int rfl) pa_nil))) (pe_and (pe_not (pe_callB call_isB (by rfl) T.isinstance HL.boot_isinstance (pa_cons (pv 0) (pa_cons (pe_bltn (v := .ty "bool") (by rfl) T.bool HL.boot_bool rfl) pa_nil)))) (pe_one (pe_cmpR op_eq (pv 0) (pv 1) (nomark _))))))) pss_nil)
        (pss_cons (ps_if (pt_val (pe_callB call_isB (by rfl) T.isinstance HL.boot_isinstance (pa_cons (pv 1) (pa_cons (pe_bltn (v := .ty "str") (by rfl) T.str HL.boot_str rfl) pa_nil)))) (pss_one (ps_ret (pe_and (pe_callB call_isB (by rfl) T.isinstance HL.boot_isinstance (pa_cons (pv 0) (pa_cons (pe_bltn (v := .ty "str") (by rfl) T.str HL.boot_str rfl) pa_nil))) (pe_one (pe_cmpR op_eq (pv 0) (pv 1) (nomark _)))))) pss_nil) pss_never)))), ?_⟩
    cases x with
    | int i =>
      refine ⟨_, rfl, _, rfl, iteF ?_⟩
      refine ⟨_, rfl, _, "int", "bool", false, rfl, .base (.int i), by decide +kernel, false, rfl, iteF ?_⟩
      refine ⟨_, rfl, _, "int", "int", true, rfl, .base (.int i), by decide +kernel, true, rfl, iteT ?_⟩
      refine ⟨_, rfl, _, "int", "int", true, rfl, .base (.int i), by decide +kernel, true, rfl, iteT ?_⟩
      refine ⟨_, rfl, _, "int", "bool", false, rfl, .base (.int i), by decide +kernel, false, rfl, true, rfl, iteT ?_⟩
      refine ⟨_, rfl, _, rfl, rfl, ?_⟩
      rw [decide_eq_true rfl]
      exact q
    | str z =>
      refine ⟨_, rfl, _, rfl, iteF ?_⟩
      refine ⟨_, rfl, _, "str", "bool", false, rfl, .base (.str z), by decide +kernel, false, rfl, iteF ?_⟩
      refine ⟨_, rfl, _, "str", "int", false, rfl, .base (.str z), by decide +kernel, false, rfl, iteF ?_⟩
      refine ⟨_, rfl, _, "str", "str", true, rfl, .base (.str z), by decide +kernel, true, rfl, iteT ?_⟩
      refine ⟨_, rfl, _, "str", "str", true, rfl, .base (.str z), by decide +kernel, true, rfl, iteT ?_⟩
      refine ⟨_, rfl, _, rfl, rfl, ?_⟩
      rw [decide_eq_true rfl]
      exact q
    | bl b =>
      refine ⟨_, rfl, _, rfl, iteF ?_⟩
      refine ⟨_, rfl, _, "bool", "bool", true, rfl, .base (.bl b), by decide +kernel, true, rfl, iteT ?_⟩
      refine ⟨_, rfl, _, "bool", "bool", true, rfl, .base (.bl b), by decide +kernel, true, rfl, iteT ?_⟩
      refine ⟨_, rfl, _, rfl, rfl, ?_⟩
      rw [decide_eq_true rfl]
      exact q
    | non =>
      refine ⟨_, rfl, _, rfl, iteT ?_⟩
      exact ⟨_, rfl, q⟩
    | _ => exact (show False from lf).elim
theorem same_step {f : Addr} {fd : FuncData} {k n : Nat} (DLawSame : DefN K mg "_law_same" sLawSame ["actual", "expected"] f fd) (T : Txt P K mg C fI aK aL aS) (GLawSame : FnOk P w K mg base CX0 k f fd ["actual", "expected"] (spSame K n)) : FnOk P w K mg base CX0 (k + 1) f fd ["actual", "expected"] (spSame K (n + 1)) := by
  refine DLawSame.F.ok scLawSame (fun vs H Q E h => ?_) (fun cdv A outer s H vs Q E hr h => ?_)
  · obtain ⟨x, y, rfl, _⟩ := h
    rfl
  · obtain ⟨x, y, rfl, hs, q⟩ := h
    refine ⟨_, (pss_cons (ps_if (pt_cmp (pc_isN (pv 1))) (pss_one (ps_ret (pe_cmp (pc_isN (pv 0)) rfl))) pss_nil)
        (pss_cons (ps_if (pt_val (pe_callB call_isB (by rfl) T.isinstance HL.boot_isinstance (pa_cons (pv 1) (pa_cons (pe_bltn (v := .ty "bool") (by rfl) T.bool HL.boot_bool rfl) pa_nil)))) (pss_one (ps_ret (pe_and (pe_callB call_isB (by rfl) T.isinstance HL.boot_isinstance (pa_cons (pv 0) (pa_cons (pe_bltn (v := .ty "bool") (by rfl) T.bool HL.boot_bool rfl) pa_nil))) (pe_one (pe_cmpR op_eq (pv 0) (pv 1) (nomark _)))))) pss_nil)
        (pss_cons (ps_if (pt_val (pe_callB call_isB (by rfl) T.isinstance HL.boot_isinstance (pa_cons (pv 1) (pa_cons (pe_bltn (v := .ty "int") (by rfl) T.int HL.boot_int rfl) pa_nil)))) (pss_one (ps_ret (pe_and (pe_callB call_isB (by rfl) T.isinstance HL.boot_isinstance (pa_cons (pv 0) (pa_cons (pe_bltn (v := .ty "int") (by rfl) T.int HL.boot_int rfl) pa_nil))) (pe_and (pe_not (pe_callB call_isB (by rfl) T.isinstance HL.boot_isinstance (pa_cons (pv 0) (pa_cons (pe_bltn (v := .ty "bool") (by rfl) T.bool HL.boot_bool rfl) pa_nil)))) (pe_one (pe_cmpR op_eq (pv 0) (pv 1) (nomark _))))))) pss_nil)
        (pss_cons (ps_if (pt_val (pe_callB call_isB (by rfl) T.isinstance HL.boot_isinstance (pa_cons (pv 1) (pa_cons (pe_bltn (v := .ty "str") (by rfl) T.str HL.boot_str rfl) pa_nil)))) (pss_one (ps_ret (pe_and (pe_callB call_isB (by rfl) T.isinstance HL.boot_isinstance (pa_cons (pv 0) (pa_cons (pe_bltn (v := .ty "str") (by rfl) T.str HL.boot_str rfl) pa_nil))) (pe_one (pe_cmpR op_eq (pv 0) (pv 1) (nomark _)))))) pss_nil)
        (pss_cons (ps_if (PW.pt (pw_and (pt_val (pe_callB call_isB (by rfl) T.isinstance HL.boot_isinstance (pa_cons (pv 1) (pa_cons (pe_bltn (v := .ty "tuple") (by rfl) T.tuple HL.boot_tuple rfl) pa_nil)))) (pw_and1 (pt_not (pt_val (pe_callB call_isB (by rfl) T.isinstance HL.boot_isinstance (pa_cons (pv 0) (pa_cons (pe_bltn (v := .ty "tuple") (by rfl) T.tuple HL.boot_tuple rfl) pa_nil)))))))) (pss_one (ps_ret pe_bl)) pss_nil)
        (pss_cons (ps_if (PW.pt (pw_and (pt_val (pe_callB call_isB (by rfl) T.isinstance HL.boot_isinstance (pa_cons (pv 1) (pa_cons (pe_bltn (v := .ty "list") (by rfl) T.list HL.boot_list rfl) pa_nil)))) (pw_and1 (pt_not (pt_val (pe_callB call_isB (by rfl) T.isinstance HL.boot_isinstance (pa_cons (pv 0) (pa_cons (pe_bltn (v := .ty "list") (by rfl) T.list HL.boot_list rfl) pa_nil)))))))) (pss_one (ps_ret pe_bl)) pss_nil)
        (pss_cons (ps_if (pt_cmpR op_ne (pe_callB call_len_seq (by rfl) T.len PySem.boot_len (pa_cons (pv 0) pa_nil)) (pe_callB call_len_seq (by rfl) T.len PySem.boot_len (pa_cons (pv 1) pa_nil)) (nomark _)) (pss_one (ps_ret pe_bl)) pss_nil)
        (pss_cons (ps_for PassesOwn.never rfl (pi_range1 (by rfl) T.range (pa_cons (pe_callB call_len_seq (by rfl) T.len PySem.boot_len (pa_cons (pv 1) pa_nil)) pa_nil)) (pg_name (i := 2) scLawSame.nd rfl (.inl rfl)) (pss_one (ps_if (pt_not (pt_val (pe_call GLawSame (hr.mono (by omega)) (by rfl) DLawSame.g DLawSame.F.kp DLawSame.b .nil pass0 (pa_cons (pe_ix ix_seq (pv 0) (pv 2) (fun _ _ => rfl)) (pa_cons (pe_ix ix_seq (pv 1) (pv 2) (fun _ _ => rfl)) pa_nil))))) (pss_one (ps_ret pe_bl)) pss_nil)))
        (pss_one (ps_ret pe_bl)))))))))), ?_⟩
    rcases hs with ⟨lf, rfl⟩ | ⟨t, a, b, xs, ys, rfl, rfl, h1, h2, el, hz, hh⟩
    · cases x with
      | int i =>
        refine ⟨_, rfl, _, rfl, iteF ?_⟩
        refine ⟨_, rfl, _, "int", "bool", false, rfl, .base (.int i), by decide +kernel, false, rfl, iteF ?_⟩
        refine ⟨_, rfl, _, "int", "int", true, rfl, .base (.int i), by decide +kernel, true, rfl, iteT ?_⟩
        refine ⟨_, rfl, _, "int", "int", true, rfl, .base (.int i), by decide +kernel, true, rfl, iteT ?_⟩
        refine ⟨_, rfl, _, "int", "bool", false, rfl, .base (.int i), by decide +kernel, false, rfl, true, rfl, iteT ?_⟩
        refine ⟨_, rfl, _, rfl, rfl, ?_⟩
        rw [decide_eq_true rfl]
        exact q
      | str z =>
        refine ⟨_, rfl, _, rfl, iteF ?_⟩
        refine ⟨_, rfl, _, "str", "bool", false, rfl, .base (.str z), by decide +kernel, false, rfl, iteF ?_⟩
        refine ⟨_, rfl, _, "str", "int", false, rfl, .base (.str z), by decide +kernel, false, rfl, iteF ?_⟩
        refine ⟨_, rfl, _, "str", "str", true, rfl, .base (.str z), by decide +kernel, true, rfl, iteT ?_⟩
        refine ⟨_, rfl, _, "str", "str", true, rfl, .base (.str z), by decide +kernel, true, rfl, iteT ?_⟩
        refine ⟨_, rfl, _, rfl, rfl, ?_⟩
        rw [decide_eq_true rfl]
        exact q
      | bl b =>
        refine ⟨_, rfl, _, rfl, iteF ?_⟩
        refine ⟨_, rfl, _, "bool", "bool", true, rfl, .base (.bl b), by decide +kernel, true, rfl, iteT ?_⟩
        refine ⟨_, rfl, _, "bool", "bool", true, rfl, .base (.bl b), by decide +kernel, true, rfl, iteT ?_⟩
        refine ⟨_, rfl, _, rfl, rfl, ?_⟩
        rw [decide_eq_true rfl]
        exact q
      | non =>
        refine ⟨_, rfl, _, rfl, iteT ?_⟩
        exact ⟨_, rfl, q⟩
      | _ => exact (show False from lf).elim
    · have rest : ∀ (i : Nat) (u v : V), xs[i]? = some u → ys[i]? = some v → atI xs ((0 : Int) + (i : Int)) = some u ∧ atI ys ((0 : Int) + (i : Int)) = some v := fun i u v hu hv => by
        rw [Int.zero_add]
        exact ⟨atI_nat hu, atI_nat hv⟩
      have turn : ∀ i : Nat, i < (ys.length : Int).toNat → ∃ u v, xs[i]? = some u ∧ ys[i]? = some v := fun i hi => by
        have i1 : i < ys.length := by omega
        have i2 : i < xs.length := by omega
        exact ⟨_, _, List.getElem?_eq_getElem i2, List.getElem?_eq_getElem i1⟩
      rcases h1 with ⟨rfl, s1, t1⟩ | ⟨rfl, s1, t1⟩
      · rcases h2 with ⟨_, s2, t2⟩ | ⟨z, _⟩
        · refine ⟨_, rfl, _, rfl, iteF ?_⟩
          refine ⟨_, rfl, _, "tuple", "bool", false, rfl, t2, by decide +kernel, false, rfl, iteF ?_⟩
          refine ⟨_, rfl, _, "tuple", "int", false, rfl, t2, by decide +kernel, false, rfl, iteF ?_⟩
          refine ⟨_, rfl, _, "tuple", "str", false, rfl, t2, by decide +kernel, false, rfl, iteF ?_⟩
          refine ⟨_, rfl, _, "tuple", "tuple", true, rfl, t2, by decide +kernel, true, rfl, iteT ?_⟩
          refine ⟨_, rfl, _, "tuple", "tuple", true, rfl, t1, by decide +kernel, true, rfl, iteF ?_⟩
          refine ⟨_, rfl, _, "tuple", "list", false, rfl, t2, by decide +kernel, false, rfl, iteF (iteF ?_)⟩
          refine ⟨_, rfl, a, xs, rfl, .inr s1, _, rfl, b, ys, rfl, .inr s2, rfl, _, rfl, iteNS (by rw [el]) ?_⟩
          refine ⟨_, rfl, b, ys, rfl, .inr s2, _, rfl, by omega, by omega, ?_⟩
          refine for_range (lo := 0) (n := (ys.length : Int).toNat) (fun i σ H' => H' = H ∧ ∃ y, σ = [some (.ref a), some (.ref b), y]) ⟨rfl, none, rfl⟩ ?_ ?_
          · rintro i σ H' hi ⟨rfl, y, rfl⟩
            obtain ⟨u, v, hu, hv⟩ := turn i hi
            obtain ⟨r1, r2⟩ := rest i u v hu hv
            exact ⟨_, rfl, _, rfl, .inr (.inl ⟨a, xs, _, u, rfl, rfl, s1, r1, _, rfl, _, rfl, .inr (.inl ⟨b, ys, _, v, rfl, rfl, s2, r2, u, v, rfl, hh i u v hu hv, true, rfl, iteF ⟨rfl, _, rfl⟩⟩)⟩)⟩
          · rintro σ H' ⟨rfl, y, rfl⟩
            exact q
        · exact absurd z (by decide)
      · rcases h2 with ⟨z, _⟩ | ⟨_, s2, t2⟩
        · exact absurd z (by decide)
        · refine ⟨_, rfl, _, rfl, iteF ?_⟩
          refine ⟨_, rfl, _, "list", "bool", false, rfl, t2, by decide +kernel, false, rfl, iteF ?_⟩
          refine ⟨_, rfl, _, "list", "int", false, rfl, t2, by decide +kernel, false, rfl, iteF ?_⟩
          refine ⟨_, rfl, _, "list", "str", false, rfl, t2, by decide +kernel, false, rfl, iteF ?_⟩
          refine ⟨_, rfl, _, "list", "tuple", false, rfl, t2, by decide +kernel, false, rfl, iteF (iteF ?_)⟩
          refine ⟨_, rfl, _, "list", "list", true, rfl, t2, by decide +kernel, true, rfl, iteT ?_⟩
          refine ⟨_, rfl, _, "list", "list", true, rfl, t1, by decide +kernel, true, rfl, iteF ?_⟩
          refine ⟨_, rfl, a, xs, rfl, .inl s1, _, rfl, b, ys, rfl, .inl s2, rfl, _, rfl, iteNS (by rw [el]) ?_⟩
          refine ⟨_, rfl, b, ys, rfl, .inl s2, _, rfl, by omega, by omega, ?_⟩
          refine for_range (lo := 0) (n := (ys.length : Int).toNat) (fun i σ H' => H' = H ∧ ∃ y, σ = [some (.ref a), some (.ref b), y]) ⟨rfl, none, rfl⟩ ?_ ?_
          · rintro i σ H' hi ⟨rfl, y, rfl⟩
            obtain ⟨u, v, hu, hv⟩ := turn i hi
            obtain ⟨r1, r2⟩ := rest i u v hu hv
            exact ⟨_, rfl, _, rfl, .inl ⟨a, xs, _, u, rfl, rfl, s1, r1, _, rfl, _, rfl, .inl ⟨b, ys, _, v, rfl, rfl, s2, r2, u, v, rfl, hh i u v hu hv, true, rfl, iteF ⟨rfl, _, rfl⟩⟩⟩⟩
          · rintro σ H' ⟨rfl, y, rfl⟩
            exact q
theorem ok_same {f : Addr} {fd : FuncData} (DLawSame : DefN K mg "_law_same" sLawSame ["actual", "expected"] f fd) (T : Txt P K mg C fI aK aL aS) : ∀ n, FnOk P w K mg base CX0 (n + 1) f fd ["actual", "expected"] (spSame K n)
  | 0 => same_zero DLawSame T
  | n + 1 => same_step DLawSame T (ok_same DLawSame T n)
end
end Q21
namespace Q21
open PySem PySem.Spec PyProof.Rows L2 SX HL
theorem drop_cons {t : List Nat} {e : Nat} (he : e < t.length) : t.drop e = t.getD e 0 :: t.drop (e + 1) := by
  rw [List.drop_eq_getElem_cons he]
  simp [List.getD_eq_getElem?_getD, he]
theorem run_more (f : Nat → Bool) (t : List Nat) (s e : Nat) (hs : s ≤ e) (he : e < t.length) (hf : f (t.getD e 0) = true) (h : (t.drop s).takeWhile f = (t.drop s).take (e - s) ++ (t.drop e).takeWhile f) :
    (t.drop s).takeWhile f = (t.drop s).take (e + 1 - s) ++ (t.drop (e + 1)).takeWhile f := by
  rw [h, drop_cons he, List.takeWhile_cons, if_pos hf]
  have e1 : e + 1 - s = (e - s) + 1 := by omega
  have e2 : (t.drop s)[e - s]? = some (t.getD e 0) := by
    rw [List.getElem?_drop, show s + (e - s) = e by omega]
    simp [List.getD_eq_getElem?_getD, he]
  rw [e1, List.take_add_one, e2]
  simp
theorem run_stop (f : Nat → Bool) (t : List Nat) (s e : Nat) (hs : s ≤ e) (he : e ≤ t.length) (hf : e < t.length → f (t.getD e 0) = false) (h : (t.drop s).takeWhile f = (t.drop s).take (e - s) ++ (t.drop e).takeWhile f) :
    s + ((t.drop s).takeWhile f).length = e := by
  have z : (t.drop e).takeWhile f = [] := by
    by_cases hl : e < t.length
    · rw [drop_cons hl, List.takeWhile_cons, if_neg (by rw [hf hl]; decide)]
    · rw [List.drop_of_length_le (by omega)]
      rfl
  rw [h, z, List.append_nil, List.length_take, List.length_drop]
  omega
section
variable {P : Program} {w : World} {K : PySem.W.Frag} {mg : Str → Option Value} {base : Heap} {C fI aK aL aS : Addr}
/-! ### end_of_run -/
def spRun : Sp := fun vs H Q _ => ∃ (t : List Nat) (s : Nat) (al : Str), vs = [.str (S t), .int (s : Int), .str al] ∧ s ≤ t.length ∧ t.length ≤ 1000000 ∧
  Q (.int ((s + ((t.drop s).takeWhile (fun c => decide (c ∈ al.cps.toList))).length : Nat) : Int)) H
theorem ok_run {f : Addr} {fd : FuncData} {k : Nat} (D : DefN K mg "end_of_run" sEndOfRun ["chunk", "start", "allowed"] f fd) (T : Txt P K mg C fI aK aL aS) : FnOk P w K mg base CX0 (k + 1) f fd ["chunk", "start", "allowed"] spRun := by
  refine D.F.ok scEndOfRun (fun vs H Q E h => ?_) (fun cdv A outer s H vs Q E hr h => ?_)
  · obtain ⟨t, s, al, rfl, _⟩ := h
    rfl
  · obtain ⟨t, st, al, rfl, hs, hl, q⟩ := h
    refine ⟨_, (pss_cons (ps_set (i := 3) scEndOfRun.nd rfl (.inl rfl) (pv 1))
        (pss_cons (ps_while PassesOwn.never (PW.pt (pw_and (pt_cmpR op_lt (pv 3) (pe_callB call_len_str (by rfl) T.len PySem.boot_len (pa_cons (pv 0) pa_nil)) (nomark _)) (pw_and1 (pt_cmpR op_in_sign (pe_ix ix_str (pv 0) (pv 3) (fun _ _ => rfl)) (pv 2) rfl)))) (pss_one (ps_aug (i := 3) scEndOfRun.nd rfl (.inl rfl) pe_int ip_add)))
        (pss_one (ps_ret (pv 3))))), ?_⟩
    have hts : (S t).length ≤ sizeLine := by rw [S_len]; exact small _ hl
    refine ⟨.int (st : Int), rfl, ?_⟩
    refine ⟨fun m σ H' => H' = H ∧ ∃ e : Nat, m = t.length - e ∧ σ = [some (.str (S t)), some (.int (st : Int)), some (.str al), some (.int (e : Int))] ∧ st ≤ e ∧ e ≤ t.length ∧
      (t.drop st).takeWhile (fun c => decide (c ∈ al.cps.toList)) = (t.drop st).take (e - st) ++ (t.drop e).takeWhile (fun c => decide (c ∈ al.cps.toList)),
      ⟨t.length - st, rfl, st, rfl, rfl, Nat.le_refl _, hs, by simp⟩, ?_⟩
    rintro m σ H' ⟨rfl, e, rfl, rfl, h1, h2, h3⟩
    have out : (e < t.length → decide (t.getD e 0 ∈ al.cps.toList) = false) → Q (.int (e : Int)) H' := fun hf => by
      rw [run_stop _ t st e h1 h2 hf h3] at q
      exact q
    refine ⟨.int (e : Int), rfl, .str (S t), rfl, S t, rfl, hts, _, _, rfl, rfl, _, rfl, ite2 (fun hc => ?_) (fun hc => iteF ⟨_, rfl, out fun z => ?_⟩)⟩
    · have hlt : e < t.length := by
        have := of_decide_eq_true hc
        rw [S_len] at this
        omega
      refine ⟨.str (S t), rfl, .int (e : Int), rfl, S t, e, t.getD e 0, rfl, rfl, hts, sign_at hlt, .str al, rfl, t.getD e 0, al, rfl, rfl, _, rfl, ite2 (fun hc2 => ?_) (fun hc2 => ⟨_, rfl, out fun _ => ?_⟩)⟩
      · refine ⟨fun σ' H2 => H2 = H' ∧ σ' = [some (.str (S t)), some (.int (st : Int)), some (.str al), some (.int ((e + 1 : Nat) : Int))], fun σ' H2 ⟨e1, e2⟩ => ⟨t.length - (e + 1), by omega, e1, e + 1, rfl, e2, by omega, by omega, ?_⟩, ?_⟩
        · exact run_more _ t st e h1 hlt hc2 h3
        · exact ⟨.int (e : Int), rfl, e, 1, rfl, rfl, rfl, rfl⟩
      · simpa using hc2
    · exfalso
      apply hc
      rw [S_len]
      exact decide_eq_true (by omega)
end
end Q21
namespace Q21
open PySem PySem.Spec PyProof.Rows L2 SX HL
def kindS : Kind → Str
  | .keyword => "keyword"
  | .name => "name"
  | .maker => "maker"
  | .number => "number"
  | .text => "text"
  | .sign => "sign"
def vV : Val → V
  | .s l => .str (S l)
  | .n k => .int (k : Int)
abbrev dv : List Nat → Nat := NumText.digitsVal
theorem low_codes (c : Nat) : decide (c ∈ ("abcdefghijklmnopqrstuvwxyz" : Str).cps.toList) = isLow c := by
  have e : ("abcdefghijklmnopqrstuvwxyz" : Str).cps.toList = List.range' 97 26 := by decide +kernel
  rw [e, Bool.eq_iff_iff]
  simp only [isLow, List.mem_range'_1, decide_eq_true_eq, Bool.and_eq_true]
  omega
theorem up_codes (c : Nat) : decide (c ∈ ("ABCDEFGHIJKLMNOPQRSTUVWXYZ" : Str).cps.toList) = isUp c := by
  have e : ("ABCDEFGHIJKLMNOPQRSTUVWXYZ" : Str).cps.toList = List.range' 65 26 := by decide +kernel
  rw [e, Bool.eq_iff_iff]
  simp only [isUp, List.mem_range'_1, decide_eq_true_eq, Bool.and_eq_true]
  omega
theorem dig_codes (c : Nat) : decide (c ∈ ("0123456789" : Str).cps.toList) = isDig c := by
  have e : ("0123456789" : Str).cps.toList = List.range' 48 10 := by decide +kernel
  rw [e, Bool.eq_iff_iff]
  simp only [isDig, List.mem_range'_1, decide_eq_true_eq, Bool.and_eq_true]
  omega
theorem word_codes (c : Nat) : decide (c ∈ ("abcdefghijklmnopqrstuvwxyzABCDEFGHIJKLMNOPQRSTUVWXYZ0123456789_" : Str).cps.toList) = isWord c := by
  have e : ("abcdefghijklmnopqrstuvwxyzABCDEFGHIJKLMNOPQRSTUVWXYZ0123456789_" : Str).cps.toList = List.range' 97 26 ++ List.range' 65 26 ++ List.range' 48 10 ++ [95] := by decide +kernel
  rw [e, Bool.eq_iff_iff]
  simp only [isWord, isLow, isUp, isDig, List.mem_append, List.mem_range'_1, List.mem_singleton, decide_eq_true_eq, Bool.and_eq_true, Bool.or_eq_true]
  omega
theorem blank_codes (c : Nat) : decide (c ∈ (" \n" : Str).cps.toList) = isBlank c := by
  have e : (" \n" : Str).cps.toList = [32, 10] := by decide +kernel
  rw [e, Bool.eq_iff_iff]
  simp [isBlank]
theorem inV_str (w : List Nat) : ∀ l : List (List Nat), inV (.str (S w)) (l.map fun x => V.str (S x)) = decide (w ∈ l)
  | [] => rfl
  | x :: l => by
    have ih := inV_str w l
    unfold inV at ih ⊢
    rw [List.map_cons, List.any_cons, ih]
    have e : eqV (V.str (S x)) (V.str (S w)) = (S x == S w) := rfl
    rw [e, S_beq_eq, Bool.eq_iff_iff]
    simp only [Bool.or_eq_true, decide_eq_true_eq, List.mem_cons]
    constructor
    · rintro (rfl | h)
      · exact .inl rfl
      · exact .inr h
    · rintro (rfl | h)
      · exact .inl rfl
      · exact .inr h
theorem flat_strs (l : List (List Nat)) : (l.map fun x => V.str (S x)).all flatV = true := by
  rw [List.all_eq_true]
  intro x hx
  obtain ⟨y, _, rfl⟩ := List.mem_map.mp hx
  rfl
theorem mid_drop (pre w rest : List Nat) : (pre ++ (w ++ rest)).drop pre.length = w ++ rest := by simp
theorem mid_cut (pre w rest : List Nat) : cutS (S (pre ++ (w ++ rest))) (some (pre.length : Int)) (some ((pre.length + w.length : Nat) : Int)) = S w := by
  rw [cutS_nat _ _ _ (by omega) (by simp), mid_drop]
  congr 2
  simp
theorem mid_get (pre : List Nat) (c : Nat) (r : List Nat) : (pre ++ (c :: r)).getD pre.length 0 = c := by simp
section
variable {P : Program} {w : World} {K : PySem.W.Frag} {mg : Str → Option Value} {base : Heap} {C fI aK aL aS : Addr}
/-- what a reader of one token promises, for the tokens that E allows -/
def spTok (A : List Nat → Prop) : Sp := fun vs H Q _ => ∃ (pre u rest : List Nat) (k : Kind) (v : Val), vs = [.str (S (pre ++ (u ++ rest))), .int (pre.length : Int)] ∧ Lex kws dv u k v ∧ Sep u rest ∧ A u ∧ (pre ++ (u ++ rest)).length ≤ 1000000 ∧
  ∀ p, H p = none → ∀ H', Same H H' → H' p = some (.tup [.str (kindS k), vV v, .int ((pre.length + u.length : Nat) : Int)]) → Q (.ref p) H'
/-! ### word_at -/
theorem ok_word {f fR : Addr} {fd fdR : FuncData} {k : Nat} (D : DefN K mg "word_at" sWordAt ["chunk", "start"] f fd) (T : Txt P K mg C fI aK aL aS) (DEndOfRun : DefN K mg "end_of_run" sEndOfRun ["chunk", "start", "allowed"] fR fdR) :
    FnOk P w K mg base CX0 (k + 2) f fd ["chunk", "start"] (spTok fun u => ∃ c s, u = c :: s ∧ isLet c = true) := by
  have GEndOfRun : FnOk P w K mg base CX0 (k + 1) fR fdR ["chunk", "start", "allowed"] spRun := ok_run DEndOfRun T
  refine D.F.ok scWordAt (fun vs H Q E h => ?_) (fun cdv A outer s H vs Q E hr h => ?_)
  · obtain ⟨pre, u, rest, k, v, rfl, _⟩ := h
    rfl
  · obtain ⟨pre, u, rest, kd, v, rfl, lx, sp, ⟨c, s, rfl, hc⟩, hl, q⟩ := h
    obtain ⟨rfl, rfl, hs⟩ : kd = kindOf kws (c :: s) ∧ v = .s (c :: s) ∧ ∀ x ∈ s, isWord x = true := by
      cases lx with
      | word _ _ _ h2 => exact ⟨rfl, rfl, h2⟩
      | num _ _ h2 _ =>
        exfalso
        have := h2 c (List.mem_cons_self ..)
        simp only [isLet, isLow, isUp, isDig, Bool.or_eq_true, Bool.and_eq_true, decide_eq_true_eq] at hc this
        omega
      | quo x => exact absurd hc (by decide)
      | sign _ h2 =>
        exfalso
        have : ∀ u ∈ signs, isLet (u.headD 0) = false := by decide
        have := this _ h2
        rw [List.headD_cons, hc] at this
        cases this
    refine ⟨_, (pss_cons (ps_set (i := 2) scWordAt.nd rfl (.inl rfl) (pe_call GEndOfRun (hr.mono (by omega)) (by rfl) DEndOfRun.g DEndOfRun.F.kp DEndOfRun.b .nil pass0 (pa_cons (pv 0) (pa_cons (pv 1) (pa_cons (pe_gstr rfl T.g_WORD) pa_nil)))))
        (pss_cons (ps_set (i := 3) scWordAt.nd rfl (.inl rfl) (pe_slice sl_str (pv 0) (po_some (pv 1)) (po_some (pv 2))))
        (pss_cons (ps_if (pt_cmpR op_in_sign (pe_ix ix_str (pv 3) pe_int (fun _ _ => rfl)) (pe_gstr rfl T.g_UPPER) rfl) (pss_one (ps_ret (pe_tup (pa_cons pe_str (pa_cons (pv 3) (pa_cons (pv 2) pa_nil)))))) pss_nil)
        (pss_cons (ps_if (pt_cmpR op_in_seq (pv 3) (pe_glob (v := .ref aK) rfl T.g_KEYWORDS rfl) rfl) (pss_one (ps_ret (pe_tup (pa_cons pe_str (pa_cons (pv 3) (pa_cons (pv 2) pa_nil)))))) pss_nil)
        (pss_one (ps_ret (pe_tup (pa_cons pe_str (pa_cons (pv 3) (pa_cons (pv 2) pa_nil)))))))))), ?_⟩
    have hts : (S (pre ++ (c :: s ++ rest))).length ≤ sizeLine := by rw [S_len]; exact small _ hl
    have hrun : ((pre ++ (c :: s ++ rest)).drop pre.length).takeWhile (fun c => decide (c ∈ ("abcdefghijklmnopqrstuvwxyzABCDEFGHIJKLMNOPQRSTUVWXYZ0123456789_" : Str).cps.toList)) = c :: s := by
      rw [mid_drop, show (fun c => decide (c ∈ ("abcdefghijklmnopqrstuvwxyzABCDEFGHIJKLMNOPQRSTUVWXYZ0123456789_" : Str).cps.toList)) = isWord from funext word_codes]
      refine run_take _ _ (fun x hx => ?_) (sp.1 hc)
      rcases List.mem_cons.mp hx with rfl | hx
      · simp only [isLet, Bool.or_eq_true] at hc
        simp only [isWord, Bool.or_eq_true]
        rcases hc with h | h
        · exact .inl (.inl (.inl h))
        · exact .inl (.inl (.inr h))
      · exact hs x hx
    refine ⟨_, rfl, _, rfl, pre ++ (c :: s ++ rest), pre.length, _, rfl, by simp, hl, ?_⟩
    rw [hrun]
    refine ⟨_, rfl, _, rfl, _, rfl, _, rfl, _, rfl, _, rfl, hts, ?_⟩
    rw [mid_cut]
    have hws : (S (c :: s)).length ≤ sizeLine := by
      rw [S_len]
      refine small _ (Nat.le_trans ?_ hl)
      simp
      omega
    have fin : ∀ kk : Str, kk = kindS (kindOf kws (c :: s)) → ∀ p, H p = none → Q (.ref p) (upd H p (.tup [.str kk, .str (S (c :: s)), .int ((pre.length + (c :: s).length : Nat) : Int)])) := fun kk e p hp => by
      subst e
      exact q p hp _ (same_upd hp) upd_same
    refine ⟨.str (S (c :: s)), rfl, S (c :: s), 0, c, rfl, rfl, hws, atI_nat (j := 0) rfl, c, _, rfl, rfl, _, rfl, ite2 (fun h => ?_) (fun h => ?_)⟩
    · have hu : isUp c = true := by
        rw [up_codes] at h
        exact h
      refine ⟨_, rfl, _, rfl, (by show 3 ≤ sizeLine; decide), fin _ ?_⟩
      simp [kindOf, hu, kindS]
    · have hu : isUp c = false := by
        rw [up_codes] at h
        simpa using h
      refine ⟨.str (S (c :: s)), rfl, aK, _, rfl, .inr (T.sK H), rfl, flat_strs _, _, rfl, ite2 (fun h2 => ?_) (fun h2 => ?_)⟩
      · have hk : c :: s ∈ kws := by
          have h2' : inV (.str (S (c :: s))) (kws.map fun x => V.str (S x)) = true := h2
          rw [inV_str] at h2'
          exact of_decide_eq_true h2'
        refine ⟨_, rfl, _, rfl, (by show 3 ≤ sizeLine; decide), fin _ ?_⟩
        simp [kindOf, hu, hk, kindS]
      · have hk : c :: s ∉ kws := fun z => h2 (by
          show inV (.str (S (c :: s))) (kws.map fun x => V.str (S x)) = true
          rw [inV_str]
          exact decide_eq_true z)
        refine ⟨_, rfl, _, rfl, (by show 3 ≤ sizeLine; decide), fin _ ?_⟩
        simp [kindOf, hu, hk, kindS]
end
end Q21
namespace Q21
open PySem PySem.Spec PyProof.Rows L2 SX HL
theorem pos_small (n : Nat) (h : n ≤ 1000000) : ((n : Int)).natAbs.log2 < 1920 := by
  rw [Int.natAbs_natCast]
  by_cases h0 : n = 0
  · subst h0; decide
  · refine Nat.lt_trans ((Nat.log2_lt h0).mpr (Nat.lt_of_le_of_lt h (show 1000000 < 2 ^ 20 by decide))) (by decide)
theorem enc_append : ∀ x y : List Nat, enc (x ++ y) = enc x ++ enc y
  | [], _ => rfl
  | c :: r, y => by
    simp only [List.cons_append, enc, enc_append r y]
    split <;> simp
theorem enc_len : ∀ x : List Nat, x.length ≤ (enc x).length
  | [] => Nat.le_refl _
  | c :: r => by
    have := enc_len r
    simp only [enc]
    split <;> simp <;> omega
theorem ones_flat : ∀ x : List Nat, (x.map fun c => [c]).flatten = x
  | [] => rfl
  | c :: r => by simp [ones_flat r]
theorem quo_str : ("'" : Str) = S [39] := by decide +kernel
theorem nil_str : ("" : Str) = S [] := by decide +kernel
section
variable {P : Program} {w : World} {K : PySem.W.Frag} {mg : Str → Option Value} {base : Heap} {C fI aK aL aS : Addr}
/-- what a reader of one token promises that may refuse: A the tokens, B what is refused -/
def spTokX (C : Addr) (A B : List Nat → Prop) : Sp := fun vs H Q E => (∃ (pre u rest : List Nat) (k : Kind) (v : Val), vs = [.str (S (pre ++ (u ++ rest))), .int (pre.length : Int)] ∧ Lex kws dv u k v ∧ Sep u rest ∧ A u ∧ (pre ++ (u ++ rest)).length ≤ 1000000 ∧
    ∀ p, H p = none → ∀ H', Same H H' → H' p = some (.tup [.str (kindS k), vV v, .int ((pre.length + u.length : Nat) : Int)]) → Q (.ref p) H') ∨
  (∃ (pre u : List Nat), vs = [.str (S (pre ++ u)), .int (pre.length : Int)] ∧ BadAt u ∧ B u ∧ (pre ++ u).length ≤ 1000000 ∧
    ∀ d, H d = none → ∀ H', Same H H' → H' d = some (.xd [("position", .int (pre.length : Int))]) → E (.ref C) (some d) H')
/-! ### number_at -/
theorem ok_number {f fR : Addr} {fd fdR : FuncData} {k : Nat} (D : DefN K mg "number_at" sNumberAt ["chunk", "start"] f fd) (T : Txt P K mg C fI aK aL aS) (DEndOfRun : DefN K mg "end_of_run" sEndOfRun ["chunk", "start", "allowed"] fR fdR) :
    FnOk P w K mg base (L2.CX P w) (k + 2) f fd ["chunk", "start"] (spTokX C (fun u => isDig (u.headD 0) = true) (fun u => isDig (u.headD 0) = true)) := by
  have GEndOfRun : FnOk P w K mg base CX0 (k + 1) fR fdR ["chunk", "start", "allowed"] spRun := ok_run DEndOfRun T
  refine D.F.okX scNumberAt (fun vs H Q E h => ?_) (fun cdv A outer s H vs Q E hr h => ?_)
  · rcases h with ⟨pre, u, rest, k, v, rfl, _⟩ | ⟨pre, u, rfl, _⟩ <;> rfl
  · obtain ⟨t, st, rfl, hst, hl, hh⟩ : ∃ (t : List Nat) (st : Nat), vs = [.str (S t), .int (st : Int)] ∧ st ≤ t.length ∧ t.length ≤ 1000000 ∧
        ((∃ u rest, t.drop st = u ++ rest ∧ u ≠ [] ∧ (∀ x ∈ u, isDig x = true) ∧ u.length ≤ 18 ∧ (∀ d, rest.head? = some d → isDig d = false) ∧ (t.drop st).take u.length = u ∧
          ∀ p, H p = none → ∀ H', Same H H' → H' p = some (.tup [.str "number", .int (dv u : Int), .int ((st + u.length : Nat) : Int)]) → Q (.ref p) H') ∨
         (18 < ((t.drop st).takeWhile isDig).length ∧ ∀ d, H d = none → ∀ H', Same H H' → H' d = some (.xd [("position", .int (st : Int))]) → E (.ref C) (some d) H')) := by
      rcases h with ⟨pre, u, rest, kd, v, rfl, lx, sp, ha, hl, q⟩ | ⟨pre, u, rfl, bd, hb, hl, q⟩
      · refine ⟨_, _, rfl, by simp, hl, .inl ⟨u, rest, mid_drop pre u rest, lex_ne lx, ?_⟩⟩
        cases lx with
        | word c s h1 _ =>
          exfalso
          simp only [List.headD_cons] at ha
          simp only [isLet, isLow, isUp, isDig, Bool.or_eq_true, Bool.and_eq_true, decide_eq_true_eq] at h1 ha
          omega
        | num _ h1 h2 h3 =>
          refine ⟨h2, h3, ?_, ?_, q⟩
          · obtain ⟨c, s, rfl⟩ := List.exists_cons_of_ne_nil h1
            exact sp.2.1 (h2 c (List.mem_cons_self ..))
          · rw [mid_drop]
            simp
        | quo x => exact absurd ha (by show ¬ (isDig 39 = true); decide)
        | sign _ h2 =>
          exfalso
          have : ∀ u ∈ signs, isDig (u.headD 0) = false := by decide
          rw [this _ h2] at ha
          cases ha
      · refine ⟨_, _, rfl, by simp, hl, .inr ⟨?_, q⟩⟩
        rw [List.drop_left]
        cases bd with
        | num w r h1 h2 => exact Nat.lt_of_lt_of_le h2 (run_ge w r h1)
        | quo x => exact absurd hb (by show ¬ (isDig 39 = true); decide)
        | odd c r _ h2 => rw [List.headD_cons, h2] at hb; cases hb
    refine ⟨_, (pss_cons (ps_set (i := 2) scNumberAt.nd rfl (.inl rfl) (pe_call GEndOfRun (hr.mono (by omega)) (by rfl) DEndOfRun.g DEndOfRun.F.kp DEndOfRun.b .nil pass0 (pa_cons (pv 0) (pa_cons (pv 1) (pa_cons (pe_gstr rfl T.g_DIGITS) pa_nil)))))
        (pss_cons (ps_if (pt_cmpR op_gt (pe_op op_sub (pv 2) (pv 1)) (pe_gint rfl T.g_MOST) (nomark _)) (pss_one (ps_raiseRC rfl T.rc hr (takes_of rfl rfl rfl rfl) (pa_cons (pv 1) pa_nil))) pss_nil)
        (pss_one (ps_ret (pe_tup (pa_cons pe_str (pa_cons (pe_callTy call_int_str (by rfl) T.int HL.boot_int (pa_cons (pe_slice sl_str (pv 0) (po_some (pv 1)) (po_some (pv 2))) pa_nil)) (pa_cons (pv 2) pa_nil)))))))), ?_⟩
    have hts : (S t).length ≤ sizeLine := by rw [S_len]; exact small _ hl
    have ed : (fun c => decide (c ∈ ("0123456789" : Str).cps.toList)) = isDig := funext dig_codes
    refine ⟨_, rfl, _, rfl, t, st, _, rfl, hst, hl, ?_⟩
    rw [ed]
    refine ⟨_, rfl, _, rfl, _, _, rfl, rfl, _, _, rfl, rfl, _, rfl, ite2 (fun hc => ?_) (fun hc => ?_)⟩
    · rcases hh with ⟨u, rest, e1, h1, h2, h3, h4, h5, q⟩ | ⟨h1, q⟩
      · exfalso
        have := of_decide_eq_true hc
        rw [e1, run_take u rest h2 h4] at this
        have h6 : (18 : Int) < ((st + u.length : Nat) : Int) - (st : Int) := this
        omega
      · refine ⟨_, rfl, (st : Int), rfl, pos_small _ (by omega), fun d hd => ?_⟩
        exact q d hd _ (same_upd hd) upd_same
    · rcases hh with ⟨u, rest, e1, h1, h2, h3, h4, h5, q⟩ | ⟨h1, q⟩
      · rw [e1, run_take u rest h2 h4]
        have hle : st + u.length ≤ t.length := by
          have : (t.drop st).length = (u ++ rest).length := by rw [e1]
          rw [List.length_drop, List.length_append] at this
          omega
        refine ⟨_, rfl, _, rfl, _, rfl, _, rfl, _, rfl, S t, rfl, hts, _, (dv u : Int), rfl, ?_, ?_, _, rfl, (by show 3 ≤ sizeLine; decide), fun p hp => ?_⟩
        · rw [cutS_nat _ _ _ (by omega) hle, show st + u.length - st = u.length by omega, h5]
          refine int_S ?_ h1 (by omega)
          rw [List.all_eq_true]
          intro x hx
          have := h2 x hx
          exact this
        · rw [cutS_nat _ _ _ (by omega) hle, show st + u.length - st = u.length by omega, h5, S_len]
          omega
        · exact q p hp _ (same_upd hp) upd_same
      · exfalso
        apply hc
        refine decide_eq_true ?_
        show (18 : Int) < ((st + ((t.drop st).takeWhile isDig).length : Nat) : Int) - (st : Int)
        omega
end
end Q21
namespace Q21
open PySem PySem.Spec PyProof.Rows L2 SX HL
section
variable {P : Program} {w : World} {K : PySem.W.Frag} {mg : Str → Option Value} {base : Heap} {C fI aK aL aS : Addr}
theorem lex_quo {u : List Nat} {k : Kind} {v : Val} (h : Lex kws dv u k v) (h39 : u.headD 0 = 39) : ∃ x, u = 39 :: (enc x ++ [39]) ∧ k = .text ∧ v = .s x := by
  cases h with
  | word c s h1 _ => simp only [List.headD_cons] at h39; subst h39; exact absurd h1 (by decide)
  | num _ h1 h2 _ =>
    obtain ⟨c, s, rfl⟩ := List.exists_cons_of_ne_nil h1
    simp only [List.headD_cons] at h39
    subst h39
    exact absurd (h2 39 (List.mem_cons_self ..)) (by decide)
  | quo x => exact ⟨x, rfl, rfl, rfl⟩
  | sign _ h2 =>
    exfalso
    have : ∀ u ∈ signs, u.headD 0 ≠ 39 := by decide
    exact this _ h2 h39
theorem bad_quo {u : List Nat} (h : BadAt u) (h39 : u.headD 0 = 39) : ∃ x, u = 39 :: enc x := by
  cases h with
  | num w r h1 h2 =>
    cases w with
    | nil => simp at h2
    | cons c s =>
      simp only [List.cons_append, List.headD_cons] at h39
      subst h39
      exact absurd (h1 39 (List.mem_cons_self ..)) (by decide)
  | quo x => exact ⟨x, rfl⟩
  | odd c r _ _ h3 => exact absurd h39 h3
theorem get_mid {t a b : List Nat} {n : Nat} (e : t = a ++ b) (h : a.length = n) : t.drop n = b ∧ ∀ c r, b = c :: r → n < t.length ∧ t.getD n 0 = c := by
  subst e h
  refine ⟨by simp, fun c r h => ?_⟩
  subst h
  simp
/-! ### text_at -/
theorem ok_text {f : Addr} {fd : FuncData} {k : Nat} (D : DefN K mg "text_at" sTextAt ["chunk", "start"] f fd) (T : Txt P K mg C fI aK aL aS) :
    FnOk P w K mg base (L2.CX P w) (k + 1) f fd ["chunk", "start"] (spTokX C (fun u => u.headD 0 = 39) (fun u => u.headD 0 = 39)) := by
  refine D.F.okX scTextAt (fun vs H Q E h => ?_) (fun cdv A outer s H vs Q E hr h => ?_)
  · rcases h with ⟨pre, u, rest, k, v, rfl, _⟩ | ⟨pre, u, rfl, _⟩ <;> rfl
  · obtain ⟨pre, x, z, rfl, hl, hh⟩ : ∃ (pre x z : List Nat), vs = [.str (S (pre ++ (39 :: (enc x ++ z)))), .int (pre.length : Int)] ∧ (pre ++ (39 :: (enc x ++ z))).length ≤ 1000000 ∧
        ((∃ rest, z = 39 :: rest ∧ rest.head? ≠ some 39 ∧ ∀ p, H p = none → ∀ H', Same H H' → H' p = some (.tup [.str "text", .str (S x), .int ((pre.length + 1 + (enc x).length + 1 : Nat) : Int)]) → Q (.ref p) H') ∨
         (z = [] ∧ ∀ d, H d = none → ∀ H', Same H H' → H' d = some (.xd [("position", .int (pre.length : Int))]) → E (.ref C) (some d) H')) := by
      rcases h with ⟨pre, u, rest, kd, v, rfl, lx, sp, ha, hl, q⟩ | ⟨pre, u, rfl, bd, hb, hl, q⟩
      · obtain ⟨x, rfl, rfl, rfl⟩ := lex_quo lx ha
        have e : pre ++ (39 :: (enc x ++ [39]) ++ rest) = pre ++ (39 :: (enc x ++ (39 :: rest))) := by simp
        rw [e] at hl ⊢
        refine ⟨pre, x, 39 :: rest, rfl, hl, .inl ⟨rest, rfl, sp.2.2.1 rfl, ?_⟩⟩
        have e2 : pre.length + (39 :: (enc x ++ [39])).length = pre.length + 1 + (enc x).length + 1 := by simp; omega
        rw [e2] at q
        exact q
      · obtain ⟨x, rfl⟩ := bad_quo bd hb
        have e : pre ++ (39 :: enc x) = pre ++ (39 :: (enc x ++ [])) := by simp
        rw [e] at hl ⊢
        exact ⟨pre, x, [], rfl, hl, .inr ⟨rfl, q⟩⟩
    refine ⟨_, (pss_cons (ps_set (i := 2) scTextAt.nd rfl (.inl rfl) (pe_lst pa_nil))
        (pss_cons (ps_set (i := 3) scTextAt.nd rfl (.inl rfl) (pe_op op_add (pv 1) pe_int))
        (pss_cons (ps_while (passes_of rfl) (pt_cmpR op_lt (pv 3) (pe_callB call_len_str (by rfl) T.len PySem.boot_len (pa_cons (pv 0) pa_nil)) (nomark _)) (pss_one (ps_if (pt_cmpR op_ne (pe_ix ix_str (pv 0) (pv 3) (fun _ _ => rfl)) pe_str (nomark _)) (pss_cons (ps_expr (pe_bm PySem.F.plainAttrs_list PySem.F.slot_list_append PySem.F.type_list_append mt_append (pv 2) (pa_cons (pe_ix ix_str (pv 0) (pv 3) (fun _ _ => rfl)) pa_nil)))
        (pss_one (ps_aug (i := 3) scTextAt.nd rfl (.inl rfl) pe_int ip_add))) (pss_one (ps_if (pt_cmpR op_eq (pe_slice sl_str (pv 0) (po_some (pe_op op_add (pv 3) pe_int)) (po_some (pe_op op_add (pv 3) pe_int))) pe_str (nomark _)) (pss_cons (ps_expr (pe_bm PySem.F.plainAttrs_list PySem.F.slot_list_append PySem.F.type_list_append mt_append (pv 2) (pa_cons pe_str pa_nil)))
        (pss_one (ps_aug (i := 3) scTextAt.nd rfl (.inl rfl) pe_int ip_add))) (pss_one (ps_ret (pe_tup (pa_cons pe_str (pa_cons (pe_join pe_str (pv 2)) (pa_cons (pe_op op_add (pv 3) pe_int) pa_nil)))))))))))
        (pss_one (ps_raiseRC rfl T.rc hr (takes_of rfl rfl rfl rfl) (pa_cons (pv 1) pa_nil)))))), ?_⟩
    rw [quo_str, nil_str]
    generalize et : pre ++ (39 :: (enc x ++ z)) = t at hl ⊢
    have hts : (S t).length ≤ sizeLine := by rw [S_len]; exact small _ hl
    refine ⟨Nat.zero_le _, fun D0 hD => ?_⟩
    refine ⟨_, rfl, _, _, rfl, rfl, ?_⟩
    refine ⟨fun m σ H' => ∃ x1 x2 : List Nat, x = x1 ++ x2 ∧ m = x2.length ∧ σ = [some (.str (S t)), some (.int (pre.length : Int)), some (.ref D0), some (.int ((pre.length + 1 + (enc x1).length : Nat) : Int))] ∧ H' = upd H D0 (.lst (x1.map fun c => V.str (S [c]))),
      ⟨x.length, [], x, rfl, rfl, ?_, rfl⟩, ?_⟩
    · show _ = _
      simp [enc]
      rfl
    rintro m σ H' ⟨x1, x2, ex, rfl, rfl, rfl⟩
    have ht : t = (pre ++ (39 :: enc x1)) ++ (enc x2 ++ z) := by
      rw [← et, ex, enc_append]
      simp
    have hp : (pre ++ (39 :: enc x1)).length = pre.length + 1 + (enc x1).length := by simp; omega
    obtain ⟨hd, hg⟩ := get_mid ht hp
    have hlen : t.length = pre.length + 1 + (enc x1).length + (enc x2).length + z.length := by
      rw [ht]; simp; omega
    have hx1 : x1.length ≤ (enc x1).length := enc_len x1
    have sz1 : (x1.map fun c => V.str (S [c])).length < sizeLine := by
      rw [List.length_map]
      exact Nat.lt_of_le_of_lt (show x1.length ≤ 1000000 by omega) (by decide)
    generalize hq : pre.length + 1 + (enc x1).length = pos at *
    refine ⟨_, rfl, .str (S t), rfl, S t, rfl, hts, _, _, rfl, rfl, _, rfl, ite2 (fun hc => ?_) (fun hc => ?_)⟩
    · have hlt : pos < t.length := by
        have := of_decide_eq_true hc
        rw [S_len] at this
        omega
      refine ⟨fun σ' H2 => ∃ c x3 : _, x2 = c :: x3 ∧ σ' = [some (.str (S t)), some (.int (pre.length : Int)), some (.ref D0), some (.int ((pre.length + 1 + (enc (x1 ++ [c])).length : Nat) : Int))] ∧ H2 = upd H D0 (.lst ((x1 ++ [c]).map fun c => V.str (S [c]))), ?_, ?_⟩
      · rintro σ' H2 ⟨c, x3, rfl, e2, e3⟩
        exact ⟨x3.length, Nat.lt_succ_self _, x1 ++ [c], x3, by rw [ex]; simp, rfl, e2, e3⟩
      · refine ⟨.str (S t), rfl, .int (pos : Int), rfl, S t, pos, t.getD pos 0, rfl, rfl, hts, sign_at hlt, rfl, _, rfl, ?_⟩
        cases x2 with
        | cons c x3 =>
          by_cases c39 : c = 39
          · subst c39
            obtain ⟨_, g⟩ := hg 39 (39 :: enc x3 ++ z) (by simp [enc])
            rw [g]
            refine iteNS rfl ?_
            refine ⟨.str (S t), rfl, _, rfl, _, _, rfl, rfl, _, rfl, _, rfl, _, _, rfl, rfl, _, rfl, S t, rfl, hts, rfl, _, rfl, ?_⟩
            have ec : cutS (S t) (some ((pos : Int) + 1)) (some ((pos : Int) + 2)) = S [39] := by
              have := cutS_any t (pos + 1) (pos + 2)
              have e1 : ((pos + 1 : Nat) : Int) = (pos : Int) + 1 := by omega
              have e2 : ((pos + 2 : Nat) : Int) = (pos : Int) + 2 := by omega
              rw [e1, e2] at this
              rw [this, show pos + 2 - (pos + 1) = 1 by omega, show pos + 1 = pos + 1 from rfl, ← List.drop_drop, hd]
              simp [enc]
            show if (decide (V.str (cutS (S t) (some ((pos : Int) + 1)) (some ((pos : Int) + 2))) = V.str (S [39]))) = true then _ else _
            rw [ec, decide_eq_true rfl]
            refine iteT ?_
            refine ⟨.ref D0, rfl, .inl ⟨rfl, _, SqL.of upd_same⟩, D0, _, _, rfl, rfl, upd_same, sz1, ?_⟩
            refine ⟨_, rfl, _, _, rfl, rfl, 39, x3, rfl, ?_, ?_⟩
            · rw [enc_append]
              have e3 : pre.length + 1 + (enc x1 ++ enc [39]).length = pos + 2 := by simp [enc]; omega
              rw [e3]
              rfl
            · rw [upd_upd]; simp
          · obtain ⟨_, g⟩ := hg c (enc x3 ++ z) (by simp [enc, c39])
            rw [g]
            have ne : V.str (S [c]) ≠ V.str (S [39]) := fun z => c39 (by
              have := S_inj (V.str.inj z)
              simpa using this)
            show if (!decide (V.str (S [c]) = V.str (S [39]))) = true then _ else _
            rw [decide_eq_false ne]
            refine iteT ?_
            refine ⟨.ref D0, rfl, .inl ⟨rfl, _, SqL.of upd_same⟩, .str (S t), rfl, .int (pos : Int), rfl, S t, pos, c, rfl, rfl, hts, by rw [sign_at hlt, g], D0, _, _, rfl, rfl, upd_same, sz1, ?_⟩
            refine ⟨_, rfl, _, _, rfl, rfl, c, x3, rfl, ?_, ?_⟩
            · rw [enc_append]
              have e3 : pre.length + 1 + (enc x1 ++ enc [c]).length = pos + 1 := by simp [enc, c39]; omega
              rw [e3]
              rfl
            · rw [upd_upd]; simp
        | nil =>
          rcases hh with ⟨rest, rfl, hr39, q⟩ | ⟨rfl, q⟩
          · obtain ⟨_, g⟩ := hg 39 rest (by simp [enc])
            rw [g]
            refine iteNS rfl ?_
            refine ⟨.str (S t), rfl, _, rfl, _, _, rfl, rfl, _, rfl, _, rfl, _, _, rfl, rfl, _, rfl, S t, rfl, hts, rfl, _, rfl, ?_⟩
            have ec : cutS (S t) (some ((pos : Int) + 1)) (some ((pos : Int) + 2)) ≠ S [39] := by
              have := cutS_any t (pos + 1) (pos + 2)
              have e1 : ((pos + 1 : Nat) : Int) = (pos : Int) + 1 := by omega
              have e2 : ((pos + 2 : Nat) : Int) = (pos : Int) + 2 := by omega
              rw [e1, e2] at this
              rw [this, show pos + 2 - (pos + 1) = 1 by omega, ← List.drop_drop, hd]
              intro z
              have z2 := S_inj z
              simp only [enc, List.nil_append, List.drop_succ_cons, List.drop_zero] at z2
              cases rest with
              | nil => simp at z2
              | cons d r =>
                simp at z2
                subst z2
                exact hr39 rfl
            show if (decide (V.str (cutS (S t) (some ((pos : Int) + 1)) (some ((pos : Int) + 2))) = V.str (S [39]))) = true then _ else _
            rw [decide_eq_false (fun z => ec (V.str.inj z))]
            refine iteF ?_
            have ex1 : x = x1 := by rw [ex]; simp
            have esl : (x1.map fun c => V.str (S [c])) = ((x1.map fun c => [c]).map S).map V.str := by simp
            refine ⟨⟨_, rfl⟩, .ref D0, rfl, S [], D0, (x1.map fun c => [c]).map S, rfl, rfl, .inl (by rw [← esl]; exact SqL.of upd_same), ?_, ?_⟩
            · rw [SX.lens, S_len, List.length_nil, Nat.mul_zero, Nat.add_zero]
              have : ((x1.map fun c => [c]).map (·.length)).sum = x1.length := by
                have := congrArg List.length (ones_flat x1)
                rw [List.length_flatten] at this
                exact this
              rw [this]
              omega
            · rw [join_S, joinL_nil, ones_flat]
              refine ⟨_, rfl, _, _, rfl, rfl, (by show 3 ≤ sizeLine; decide), fun p hp => ?_⟩
              have hp0 : H p = none := (same_upd hD).free hp
              refine q p hp0 _ ((same_upd hD).trans (same_upd hp)) ?_
              rw [upd_same, ex1]
              have e3 : ((pre.length + 1 + (enc x1).length + 1 : Nat) : Int) = (pos : Int) + 1 := by rw [hq]; omega
              rw [e3]
          · exfalso
            simp [enc] at hlen
            omega
    · -- the end of the text
      rcases hh with ⟨rest, rfl, hr39, q⟩ | ⟨rfl, q⟩
      · exfalso
        apply hc
        rw [S_len]
        refine decide_eq_true ?_
        simp at hlen
        omega
      · refine ⟨_, rfl, (pre.length : Int), rfl, pos_small _ (by omega), fun d hd2 => ?_⟩
        exact q d ((same_upd hD).free hd2) _ ((same_upd hD).trans (same_upd hd2)) upd_same
end
end Q21
namespace Q21
open PySem PySem.Spec PyProof.Rows L2 SX HL
theorem take_two {t a b : List Nat} {n : Nat} (e : t = a ++ b) (h : a.length = n) : cutS (S t) (some (n : Int)) (some ((n : Int) + 2)) = S (b.take 2) := by
  have := cutS_any t n (n + 2)
  have e2 : ((n + 2 : Nat) : Int) = (n : Int) + 2 := by omega
  rw [e2] at this
  rw [this, show n + 2 - n = 2 by omega]
  subst e h
  simp
section
variable {P : Program} {w : World} {K : PySem.W.Frag} {mg : Str → Option Value} {base : Heap} {C fI aK aL aS : Addr}
def OtherHead (u : List Nat) : Prop := isLet (u.headD 0) = false ∧ isDig (u.headD 0) = false ∧ u.headD 0 ≠ 39
/-! ### sign_at -/
theorem ok_sign {f : Addr} {fd : FuncData} {k : Nat} (D : DefN K mg "sign_at" sSignAt ["chunk", "start"] f fd) (T : Txt P K mg C fI aK aL aS) :
    FnOk P w K mg base (L2.CX P w) (k + 1) f fd ["chunk", "start"] (spTokX C OtherHead OtherHead) := by
  refine D.F.okX scSignAt (fun vs H Q E h => ?_) (fun cdv A outer s H vs Q E hr h => ?_)
  · rcases h with ⟨pre, u, rest, k, v, rfl, _⟩ | ⟨pre, u, rfl, _⟩ <;> rfl
  · obtain ⟨pre, c, b, rfl, hl, hh⟩ : ∃ (pre : List Nat) (c : Nat) (b : List Nat), vs = [.str (S (pre ++ (c :: b))), .int (pre.length : Int)] ∧ (pre ++ (c :: b)).length ≤ 1000000 ∧
        ((∃ d r, b = d :: r ∧ [c, d] ∈ longs ∧ ∀ p, H p = none → ∀ H', Same H H' → H' p = some (.tup [.str "sign", .str (S [c, d]), .int ((pre.length + 2 : Nat) : Int)]) → Q (.ref p) H') ∨
         ((c :: b).take 2 ∉ longs ∧ c ∈ shorts ∧ ∀ p, H p = none → ∀ H', Same H H' → H' p = some (.tup [.str "sign", .str (S [c]), .int ((pre.length + 1 : Nat) : Int)]) → Q (.ref p) H') ∨
         ((c :: b).take 2 ∉ longs ∧ c ∉ shorts ∧ ∀ d, H d = none → ∀ H', Same H H' → H' d = some (.xd [("position", .int (pre.length : Int))]) → E (.ref C) (some d) H')) := by
      rcases h with ⟨pre, u, rest, kd, v, rfl, lx, sp, ⟨a1, a2, a3⟩, hl, q⟩ | ⟨pre, u, rfl, bd, ⟨b1, b2, b3⟩, hl, q⟩
      · cases lx with
        | word c s h1 _ => rw [List.headD_cons, h1] at a1; cases a1
        | num _ h1 h2 _ =>
          obtain ⟨c, s, rfl⟩ := List.exists_cons_of_ne_nil h1
          rw [List.headD_cons, h2 c (List.mem_cons_self ..)] at a2
          cases a2
        | quo x => exact absurd rfl a3
        | sign _ h2 =>
          rcases List.mem_append.mp h2 with h3 | h3
          · obtain ⟨c, hc, rfl⟩ := List.mem_map.mp h3
            refine ⟨pre, c, rest, rfl, hl, .inr (.inl ⟨?_, hc, q⟩)⟩
            cases rest with
            | nil => intro z; exact absurd z (by
                have : ∀ x ∈ longs, x.length = 2 := by decide
                intro z
                have := this _ z
                simp at this)
            | cons d r => exact sp.2.2.2 a1 a2 a3 rfl d rfl
          · have : ∀ x ∈ longs, ∃ c d, x = [c, d] := by
              intro x hx
              simp only [longs, List.mem_cons, List.not_mem_nil, or_false] at hx
              rcases hx with rfl | rfl | rfl | rfl <;> exact ⟨_, _, rfl⟩
            obtain ⟨c, d, rfl⟩ := this _ h3
            exact ⟨pre, c, d :: rest, rfl, hl, .inl ⟨d, rest, rfl, h3, q⟩⟩
      · cases bd with
        | num w r h1 h2 =>
          exfalso
          cases w with
          | nil => simp at h2
          | cons c s =>
            rw [List.cons_append, List.headD_cons, h1 c (List.mem_cons_self ..)] at b2
            cases b2
        | quo x => exact absurd rfl b3
        | odd c r h1 h2 h3 h4 h5 h6 =>
          refine ⟨pre, c, r, rfl, hl, .inr (.inr ⟨?_, h5, q⟩)⟩
          cases r with
          | nil => intro z; exact absurd z (by
              have : ∀ x ∈ longs, x.length = 2 := by decide
              intro z
              have := this _ z
              simp at this)
          | cons d r => exact h6 d
    refine ⟨_, (pss_cons (ps_if (pt_cmpR op_in_seq (pe_slice sl_str (pv 0) (po_some (pv 1)) (po_some (pe_op op_add (pv 1) pe_int))) (pe_glob (v := .ref aL) rfl T.g_LONG_SIGNS rfl) rfl) (pss_one (ps_ret (pe_tup (pa_cons pe_str (pa_cons (pe_slice sl_str (pv 0) (po_some (pv 1)) (po_some (pe_op op_add (pv 1) pe_int))) (pa_cons (pe_op op_add (pv 1) pe_int) pa_nil)))))) pss_nil)
        (pss_cons (ps_if (pt_cmpR op_in_seq (pe_ix ix_str (pv 0) (pv 1) (fun _ _ => rfl)) (pe_glob (v := .ref aS) rfl T.g_SHORT_SIGNS rfl) rfl) (pss_one (ps_ret (pe_tup (pa_cons pe_str (pa_cons (pe_ix ix_str (pv 0) (pv 1) (fun _ _ => rfl)) (pa_cons (pe_op op_add (pv 1) pe_int) pa_nil)))))) pss_nil)
        (pss_one (ps_raiseRC rfl T.rc hr (takes_of rfl rfl rfl rfl) (pa_cons (pv 1) pa_nil))))), ?_⟩
    generalize et : pre ++ (c :: b) = t at hl ⊢
    have hts : (S t).length ≤ sizeLine := by rw [S_len]; exact small _ hl
    have e2 := take_two et.symm (rfl : pre.length = pre.length)
    obtain ⟨_, hg⟩ := get_mid et.symm (rfl : pre.length = pre.length)
    obtain ⟨hlt, g⟩ := hg c b rfl
    have eS : (shorts.map fun x => V.str (S [x])) = (shorts.map fun x => [x]).map fun x => V.str (S x) := by simp
    refine ⟨.str (S t), rfl, _, rfl, _, rfl, _, rfl, _, _, rfl, rfl, _, rfl, S t, rfl, hts, aL, _, rfl, .inr (T.sL H), rfl, flat_strs _, _, rfl, ?_⟩
    show if inV (.str (cutS (S t) (some (pre.length : Int)) (some ((pre.length : Int) + 2)))) (longs.map fun x => V.str (S x)) = true then _ else _
    rw [e2, inV_str]
    refine ite2 (fun hc => ?_) (fun hc => ?_)
    · have hc := of_decide_eq_true hc
      rcases hh with ⟨d, r, rfl, h1, q⟩ | ⟨h1, _⟩ | ⟨h1, _⟩
      · refine ⟨.str (S t), rfl, _, rfl, _, rfl, _, rfl, _, _, rfl, rfl, _, rfl, S t, rfl, hts, _, rfl, _, _, rfl, rfl, (by show 3 ≤ sizeLine; decide), fun p hp => ?_⟩
        refine q p hp _ (same_upd hp) ?_
        show (upd H p (.tup [.str "sign", .str (cutS (S t) (some (pre.length : Int)) (some ((pre.length : Int) + 2))), .int ((pre.length : Int) + 2)])) p = _
        rw [upd_same, e2]
        rfl
      · exact absurd hc h1
      · exact absurd hc h1
    · have hc : (c :: b).take 2 ∉ longs := fun z => hc (decide_eq_true z)
      refine ⟨.str (S t), rfl, .int (pre.length : Int), rfl, S t, pre.length, c, rfl, rfl, hts, by rw [sign_at hlt, g], aS, _, rfl, .inr (T.sS H), rfl, ?_, _, rfl, ?_⟩
      · rw [eS]; exact flat_strs _
      show if inV (.str (S [c])) (shorts.map fun x => V.str (S [x])) = true then _ else _
      rw [eS, inV_str]
      have em : decide ([c] ∈ shorts.map fun x => [x]) = decide (c ∈ shorts) := by
        rw [Bool.eq_iff_iff]
        simp
      rw [em]
      refine ite2 (fun hs => ?_) (fun hs => ?_)
      · have hs := of_decide_eq_true hs
        rcases hh with ⟨d, r, rfl, h1, q⟩ | ⟨h1, h2, q⟩ | ⟨h1, h2, q⟩
        · exact absurd h1 hc
        · refine ⟨.str (S t), rfl, .int (pre.length : Int), rfl, S t, pre.length, c, rfl, rfl, hts, by rw [sign_at hlt, g], _, rfl, _, _, rfl, rfl, (by show 3 ≤ sizeLine; decide), fun p hp => ?_⟩
          exact q p hp _ (same_upd hp) upd_same
        · exact absurd hs h2
      · rcases hh with ⟨d, r, rfl, h1, q⟩ | ⟨h1, h2, q⟩ | ⟨h1, h2, q⟩
        · exact absurd h1 hc
        · exact absurd (decide_eq_true h2) hs
        · refine ⟨_, rfl, (pre.length : Int), rfl, pos_small _ (by omega), fun d hd => ?_⟩
          exact q d hd _ (same_upd hd) upd_same
end
end Q21
namespace Q21
open PySem PySem.Spec PyProof.Rows L2 SX HL
theorem head_cons {u rest pre : List Nat} (h : u ≠ []) : ∃ b, pre ++ (u ++ rest) = pre ++ (u.headD 0 :: b) := by
  obtain ⟨c, s, rfl⟩ := List.exists_cons_of_ne_nil h
  exact ⟨s ++ rest, by simp⟩
theorem bad_ne {u : List Nat} (h : BadAt u) : u ≠ [] := by
  cases h with
  | num w r _ h2 =>
    intro e
    have z := (List.append_eq_nil_iff.mp e).1
    subst z
    simp at h2
  | quo x => simp
  | odd c r _ _ _ => simp
theorem bad_let {u : List Nat} (h : BadAt u) : isLet (u.headD 0) = false := by
  cases h with
  | num w r h1 h2 =>
    cases w with
    | nil => simp at h2
    | cons c s =>
      have hd := h1 c (List.mem_cons_self ..)
      show isLet c = false
      cases hl : isLet c with
      | false => rfl
      | true =>
        exfalso
        simp only [isLet, isLow, isUp, isDig, Bool.or_eq_true, Bool.and_eq_true, decide_eq_true_eq] at hd hl
        omega
  | quo x => rfl
  | odd c r h1 _ _ => exact h1
section
variable {P : Program} {w : World} {K : PySem.W.Frag} {mg : Str → Option Value} {base : Heap} {C fI aK aL aS : Addr}
/-! ### token_at -/
theorem ok_token {f fR fW fN fT fS : Addr} {fd fdR fdW fdN fdT fdS : FuncData} {k : Nat} (D : DefN K mg "token_at" sTokenAt ["chunk", "start"] f fd) (T : Txt P K mg C fI aK aL aS) (DEndOfRun : DefN K mg "end_of_run" sEndOfRun ["chunk", "start", "allowed"] fR fdR)
    (DWordAt : DefN K mg "word_at" sWordAt ["chunk", "start"] fW fdW) (DNumberAt : DefN K mg "number_at" sNumberAt ["chunk", "start"] fN fdN) (DTextAt : DefN K mg "text_at" sTextAt ["chunk", "start"] fT fdT) (DSignAt : DefN K mg "sign_at" sSignAt ["chunk", "start"] fS fdS) :
    FnOk P w K mg base (L2.CX P w) (k + 3) f fd ["chunk", "start"] (spTokX C (fun _ => True) (fun _ => True)) := by
  have GWordAt : FnOk P w K mg base CX0 (k + 2) fW fdW ["chunk", "start"] (spTok fun u => ∃ c s, u = c :: s ∧ isLet c = true) := ok_word DWordAt T DEndOfRun
  have GNumberAt : FnOk P w K mg base (L2.CX P w) (k + 2) fN fdN ["chunk", "start"] (spTokX C (fun u => isDig (u.headD 0) = true) (fun u => isDig (u.headD 0) = true)) := ok_number DNumberAt T DEndOfRun
  have GTextAt : FnOk P w K mg base (L2.CX P w) (k + 1) fT fdT ["chunk", "start"] (spTokX C (fun u => u.headD 0 = 39) (fun u => u.headD 0 = 39)) := ok_text DTextAt T
  have GSignAt : FnOk P w K mg base (L2.CX P w) (k + 1) fS fdS ["chunk", "start"] (spTokX C OtherHead OtherHead) := ok_sign DSignAt T
  refine D.F.okX scTokenAt (fun vs H Q E h => ?_) (fun cdv A outer s H vs Q E hr h => ?_)
  · rcases h with ⟨pre, u, rest, k, v, rfl, _⟩ | ⟨pre, u, rfl, _⟩ <;> rfl
  · obtain ⟨pre, c, b, rfl, hl, hW, hN, hT, hS⟩ : ∃ (pre : List Nat) (c : Nat) (b : List Nat), vs = [.str (S (pre ++ (c :: b))), .int (pre.length : Int)] ∧ (pre ++ (c :: b)).length ≤ 1000000 ∧
        (isLet c = true → spTok (fun u => ∃ c s, u = c :: s ∧ isLet c = true) [.str (S (pre ++ (c :: b))), .int (pre.length : Int)] H Q E0) ∧
        (isDig c = true → spTokX C (fun u => isDig (u.headD 0) = true) (fun u => isDig (u.headD 0) = true) [.str (S (pre ++ (c :: b))), .int (pre.length : Int)] H Q E) ∧
        (c = 39 → spTokX C (fun u => u.headD 0 = 39) (fun u => u.headD 0 = 39) [.str (S (pre ++ (c :: b))), .int (pre.length : Int)] H Q E) ∧
        (isLet c = false → isDig c = false → c ≠ 39 → spTokX C OtherHead OtherHead [.str (S (pre ++ (c :: b))), .int (pre.length : Int)] H Q E) := by
      rcases h with ⟨pre, u, rest, kd, v, rfl, lx, sp, _, hl, q⟩ | ⟨pre, u, rfl, bd, _, hl, q⟩
      · obtain ⟨b, e⟩ := head_cons (rest := rest) (pre := pre) (lex_ne lx)
        have hl2 := hl
        rw [e] at hl2
        refine ⟨pre, u.headD 0, b, by rw [e], hl2, fun h => ?_, fun h => ?_, fun h => ?_, fun h1 h2 h3 => ?_⟩
        · obtain ⟨c, s, rfl⟩ := List.exists_cons_of_ne_nil (lex_ne lx)
          exact ⟨pre, c :: s, rest, kd, v, by rw [e], lx, sp, ⟨c, s, rfl, h⟩, hl, q⟩
        · exact .inl ⟨pre, u, rest, kd, v, by rw [e], lx, sp, h, hl, q⟩
        · exact .inl ⟨pre, u, rest, kd, v, by rw [e], lx, sp, h, hl, q⟩
        · exact .inl ⟨pre, u, rest, kd, v, by rw [e], lx, sp, ⟨h1, h2, h3⟩, hl, q⟩
      · obtain ⟨b, e⟩ := head_cons (rest := []) (pre := pre) (bad_ne bd)
        rw [List.append_nil] at e
        have hl2 := hl
        rw [e] at hl2
        refine ⟨pre, u.headD 0, b, by rw [e], hl2, fun h => ?_, fun h => ?_, fun h => ?_, fun h1 h2 h3 => ?_⟩
        · rw [bad_let bd] at h; cases h
        · exact .inr ⟨pre, u, by rw [e], bd, h, hl, q⟩
        · exact .inr ⟨pre, u, by rw [e], bd, h, hl, q⟩
        · exact .inr ⟨pre, u, by rw [e], bd, ⟨h1, h2, h3⟩, hl, q⟩
    clear h
    refine ⟨_, (pss_cons (ps_set (i := 2) scTokenAt.nd rfl (.inl rfl) (pe_ix ix_str (pv 0) (pv 1) (fun _ _ => rfl)))
        (pss_cons (ps_if (PW.pt (pw_or (pt_cmpR op_in_sign (pv 2) (pe_gstr rfl T.g_LOWER) rfl) (pw_or1 (pt_cmpR op_in_sign (pv 2) (pe_gstr rfl T.g_UPPER) rfl)))) (pss_one (ps_ret (pe_call GWordAt (hr.mono (by omega)) (by rfl) DWordAt.g DWordAt.F.kp DWordAt.b .nil pass0 (pa_cons (pv 0) (pa_cons (pv 1) pa_nil))))) pss_nil)
        (pss_cons (ps_if (pt_cmpR op_in_sign (pv 2) (pe_gstr rfl T.g_DIGITS) rfl) (pss_one (ps_ret (pe_call GNumberAt (hr.mono (by omega)) (by rfl) DNumberAt.g DNumberAt.F.kp DNumberAt.b .nil (passes_call (takes_of rfl rfl rfl rfl) (fun _ _ _ _ h => h)) (pa_cons (pv 0) (pa_cons (pv 1) pa_nil))))) pss_nil)
        (pss_cons (ps_if (pt_cmpR op_eq (pv 2) pe_str (nomark _)) (pss_one (ps_ret (pe_call GTextAt (hr.mono (by omega)) (by rfl) DTextAt.g DTextAt.F.kp DTextAt.b .nil (passes_call (takes_of rfl rfl rfl rfl) (fun _ _ _ _ h => h)) (pa_cons (pv 0) (pa_cons (pv 1) pa_nil))))) pss_nil)
        (pss_one (ps_ret (pe_call GSignAt (hr.mono (by omega)) (by rfl) DSignAt.g DSignAt.F.kp DSignAt.b .nil (passes_call (takes_of rfl rfl rfl rfl) (fun _ _ _ _ h => h)) (pa_cons (pv 0) (pa_cons (pv 1) pa_nil))))))))), ?_⟩
    generalize et : pre ++ (c :: b) = t at hl hW hN hT hS ⊢
    have hts : (S t).length ≤ sizeLine := by rw [S_len]; exact small _ hl
    obtain ⟨_, hg⟩ := get_mid et.symm (rfl : pre.length = pre.length)
    obtain ⟨hlt, g⟩ := hg c b rfl
    have eq39 : (decide (V.str (S [c]) = V.str (S [39])) = true) ↔ c = 39 := by
      constructor
      · intro z
        have := S_inj (V.str.inj (of_decide_eq_true z))
        simpa using this
      · rintro rfl
        exact decide_eq_true rfl
    rw [quo_str]
    refine ⟨.str (S t), rfl, .int (pre.length : Int), rfl, S t, pre.length, c, rfl, rfl, hts, by rw [sign_at hlt, g], ?_⟩
    refine ⟨_, rfl, c, _, rfl, rfl, _, rfl, ?_⟩
    rw [low_codes]
    have goLet : isLet c = true → (tRet (tCall (spTok fun u => ∃ c s, u = c :: s ∧ isLet c = true) [] E0 (tCons (tVar 0) (tCons (tVar 1) tNil)))) { nx := fun _ H' => Q .non H', rt := Q } [some (.str (S t)), some (.int (pre.length : Int)), some (.str (S [c]))] H := fun h =>
      ⟨_, rfl, _, rfl, hW h⟩
    cases hlow : isLow c with
    | true => exact iteT (iteT (goLet (by simp [isLet, hlow])))
    | false =>
      refine iteF ⟨_, rfl, c, _, rfl, rfl, _, rfl, ?_⟩
      rw [up_codes]
      cases hup : isUp c with
      | true => exact iteT (goLet (by simp [isLet, hup]))
      | false =>
        refine iteF ⟨_, rfl, c, _, rfl, rfl, _, rfl, ?_⟩
        rw [dig_codes]
        cases hdg : isDig c with
        | true => exact iteT ⟨_, rfl, _, rfl, hN hdg⟩
        | false =>
          refine iteF ⟨_, rfl, rfl, _, rfl, ?_⟩
          refine ite2 (fun h => ⟨_, rfl, _, rfl, hT (eq39.mp h)⟩) (fun h => ⟨_, rfl, _, rfl, hS (by simp [isLet, hlow, hup]) hdg (fun z => h (eq39.mpr z))⟩)
end
end Q21
namespace Q21
open PySem PySem.Spec PyProof.Rows L2 SX HL
/-- the told tokens -/
def Rows (H : Hp) (ps : List Addr) (L : List (Kind × Val × Nat)) : Prop := ps.length = L.length ∧ ∀ (i : Nat) (k : Kind) (v : Val) (o : Nat), L[i]? = some (k, v, o) → ∃ a : Addr, ps[i]? = some a ∧ H a = some (.tup [.str (kindS k), vV v, .int (o : Int)])
theorem Rows.keep {H H' : Hp} {ps : List Addr} {L : List (Kind × Val × Nat)} (h : Rows H ps L) (s : ∀ a xs, H a = some (.tup xs) → H' a = some (.tup xs)) : Rows H' ps L := by
  refine ⟨h.1, fun i k v o e => ?_⟩
  obtain ⟨a, h1, h2⟩ := h.2 i k v o e
  exact ⟨a, h1, s _ _ h2⟩
theorem Rows.snoc {H : Hp} {ps : List Addr} {L : List (Kind × Val × Nat)} {a : Addr} {k : Kind} {v : Val} {o : Nat} (h : Rows H ps L) (ha : H a = some (.tup [.str (kindS k), vV v, .int (o : Int)])) : Rows H (ps ++ [a]) (L ++ [(k, v, o)]) := by
  refine ⟨by simp [h.1], fun i k' v' o' e => ?_⟩
  by_cases hi : i < L.length
  · rw [List.getElem?_append_left hi] at e
    obtain ⟨b, h1, h2⟩ := h.2 i k' v' o' e
    refine ⟨b, ?_, h2⟩
    rw [List.getElem?_append_left (by rw [h.1]; exact hi)]
    exact h1
  · have hi2 : i = L.length := by
      have := (List.getElem?_eq_some_iff.mp e).1
      simp at this
      omega
    subst hi2
    have e' : (k, v, o) = (k', v', o') := by simpa using e
    cases e'
    refine ⟨a, ?_, ha⟩
    rw [← h.1]
    simp
theorem lex_blank {u : List Nat} {k : Kind} {v : Val} (h : Lex kws dv u k v) : isBlank (u.headD 0) = false := by
  cases h with
  | word c s h1 _ =>
    cases hb : isBlank c with
    | false => rw [List.headD_cons, hb]
    | true =>
      exfalso
      simp only [isLet, isLow, isUp, isBlank, Bool.or_eq_true, Bool.and_eq_true, decide_eq_true_eq] at h1 hb
      omega
  | num _ h1 h2 _ =>
    obtain ⟨c, s, rfl⟩ := List.exists_cons_of_ne_nil h1
    have hd := h2 c (List.mem_cons_self ..)
    cases hb : isBlank c with
    | false => rw [List.headD_cons, hb]
    | true =>
      exfalso
      simp only [isDig, isBlank, Bool.or_eq_true, Bool.and_eq_true, decide_eq_true_eq] at hd hb
      omega
  | quo x => rfl
  | sign _ h2 =>
    have : ∀ u ∈ signs, isBlank (u.headD 0) = false := by decide
    exact this _ h2
theorem bad_blank {u : List Nat} (h : BadAt u) : isBlank (u.headD 0) = false := by
  cases h with
  | num w r h1 h2 =>
    cases w with
    | nil => simp at h2
    | cons c s =>
      have hd := h1 c (List.mem_cons_self ..)
      show isBlank c = false
      cases hb : isBlank c with
      | false => rfl
      | true =>
        exfalso
        simp only [isDig, isBlank, Bool.or_eq_true, Bool.and_eq_true, decide_eq_true_eq] at hd hb
        omega
  | quo x => rfl
  | odd c r _ _ _ h4 => exact h4
theorem toks_cons {n c : Nat} {r : List Nat} {L : List (Kind × Val × Nat)} (h : Toks kws dv n (c :: r) L) : (isBlank c = true ∧ Toks kws dv (n + 1) r L) ∨
    (isBlank c = false ∧ ∃ u rest k v L2, c :: r = u ++ rest ∧ Lex kws dv u k v ∧ Sep u rest ∧ L = (k, v, n) :: L2 ∧ Toks kws dv (n + u.length) rest L2) := by
  generalize e : c :: r = x at h
  cases h with
  | nil => cases e
  | blank h1 h2 => cases e; exact .inl ⟨h1, h2⟩
  | @tok _ u rest k v L2 h1 h2 h3 =>
    refine .inr ⟨?_, u, rest, k, v, L2, rfl, h1, h2, rfl, h3⟩
    have := lex_blank h1
    obtain ⟨d, s, rfl⟩ := List.exists_cons_of_ne_nil (lex_ne h1)
    cases e
    exact this
theorem bad_cons {n c q : Nat} {r : List Nat} (h : Bad kws dv n (c :: r) q) : (isBlank c = true ∧ Bad kws dv (n + 1) r q) ∨
    (isBlank c = false ∧ ((q = n ∧ BadAt (c :: r)) ∨ ∃ u rest k v, c :: r = u ++ rest ∧ Lex kws dv u k v ∧ Sep u rest ∧ Bad kws dv (n + u.length) rest q)) := by
  generalize e : c :: r = x at h
  cases h with
  | here h1 =>
    subst e
    exact .inr ⟨bad_blank h1, .inl ⟨rfl, h1⟩⟩
  | blank h1 h2 => cases e; exact .inl ⟨h1, h2⟩
  | @tok _ _ u rest k v h1 h2 h3 =>
    refine .inr ⟨?_, .inr ⟨u, rest, k, v, rfl, h1, h2, h3⟩⟩
    have := lex_blank h1
    obtain ⟨d, s, rfl⟩ := List.exists_cons_of_ne_nil (lex_ne h1)
    cases e
    exact this
theorem toks_nil {n : Nat} {L : List (Kind × Val × Nat)} (h : Toks kws dv n [] L) : L = [] := by
  generalize e : ([] : List Nat) = x at h
  cases h with
  | nil => rfl
  | blank h1 h2 => cases e
  | tok h1 h2 h3 => exact absurd (List.append_eq_nil_iff.mp e.symm).1 (lex_ne h1)
theorem bad_nil {n q : Nat} (h : Bad kws dv n [] q) : False := by
  generalize e : ([] : List Nat) = x at h
  cases h with
  | here h1 => subst e; exact bad_ne h1 rfl
  | blank h1 h2 => cases e
  | tok h1 h2 h3 => exact absurd (List.append_eq_nil_iff.mp e.symm).1 (lex_ne h1)
section
variable {P : Program} {w : World} {K : PySem.W.Frag} {mg : Str → Option Value} {base : Heap} {C fI aK aL aS : Addr}
/-! ### tokenize -/
def spTokenize (C : Addr) : Sp := fun vs H Q E => ∃ t : List Nat, vs = [.str (S t)] ∧ t.length ≤ 1000000 ∧
  ((∃ L, Toks kws dv 0 t L ∧ ∀ p H' ps, Same H H' → H' p = some (.lst (ps.map V.ref)) → Rows H' ps L → Q (.ref p) H') ∨
   (∃ q, Bad kws dv 0 t q ∧ ∀ d H', Same H H' → H d = none → H' d = some (.xd [("position", .int (q : Int))]) → E (.ref C) (some d) H'))
theorem ok_tokenize {f fA fR fW fN fT fS : Addr} {fd fdA fdR fdW fdN fdT fdS : FuncData} {k : Nat} (D : DefN K mg "tokenize" sTokenize ["chunk"] f fd) (T : Txt P K mg C fI aK aL aS) (DTokenAt : DefN K mg "token_at" sTokenAt ["chunk", "start"] fA fdA)
    (DEndOfRun : DefN K mg "end_of_run" sEndOfRun ["chunk", "start", "allowed"] fR fdR)
    (DWordAt : DefN K mg "word_at" sWordAt ["chunk", "start"] fW fdW) (DNumberAt : DefN K mg "number_at" sNumberAt ["chunk", "start"] fN fdN) (DTextAt : DefN K mg "text_at" sTextAt ["chunk", "start"] fT fdT) (DSignAt : DefN K mg "sign_at" sSignAt ["chunk", "start"] fS fdS) :
    FnOk P w K mg base (L2.CX P w) (k + 4) f fd ["chunk"] (spTokenize C) := by
  have GTokenAt : FnOk P w K mg base (L2.CX P w) (k + 3) fA fdA ["chunk", "start"] (spTokX C (fun _ => True) (fun _ => True)) := ok_token DTokenAt T DEndOfRun DWordAt DNumberAt DTextAt DSignAt
  refine D.F.okX scTokenize (fun vs H Q E h => ?_) (fun cdv A outer s H vs Q E hr h => ?_)
  · obtain ⟨t, rfl, _⟩ := h
    rfl
  · obtain ⟨t, rfl, hl, hh⟩ := h
    refine ⟨_, (pss_cons (ps_set (i := 1) scTokenize.nd rfl (.inl rfl) (pe_lst pa_nil))
        (pss_cons (ps_set (i := 2) scTokenize.nd rfl (.inl rfl) pe_int)
        (pss_cons (ps_while (passes_of rfl) (pt_cmpR op_lt (pv 2) (pe_callB call_len_str (by rfl) T.len PySem.boot_len (pa_cons (pv 0) pa_nil)) (nomark _)) (pss_one (ps_if (pt_cmpR op_in_sign (pe_ix ix_str (pv 0) (pv 2) (fun _ _ => rfl)) (pe_gstr rfl T.g_BLANKS) rfl) (pss_one (ps_aug (i := 2) scTokenize.nd rfl (.inl rfl) pe_int ip_add)) (pss_cons (ps_asg (pe_call GTokenAt (hr.mono (by omega)) (by rfl) DTokenAt.g DTokenAt.F.kp DTokenAt.b .nil (passes_call (takes_of rfl rfl rfl rfl) (fun _ _ _ _ h => h)) (pa_cons (pv 0) (pa_cons (pv 2) pa_nil))) (pg_tup rfl (pgs_cons (pg_name (i := 3) scTokenize.nd rfl (.inl rfl)) (pgs_cons (pg_name (i := 4) scTokenize.nd rfl (.inl rfl)) (pgs_cons (pg_name (i := 5) scTokenize.nd rfl (.inl rfl)) pgs_nil)))))
        (pss_cons (ps_expr (pe_bm PySem.F.plainAttrs_list PySem.F.slot_list_append PySem.F.type_list_append mt_append (pv 1) (pa_cons (pe_tup (pa_cons (pv 3) (pa_cons (pv 4) (pa_cons (pv 2) pa_nil)))) pa_nil)))
        (pss_one (ps_set (i := 2) scTokenize.nd rfl (.inl rfl) (pv 5))))))))
        (pss_one (ps_ret (pv 1)))))), ?_⟩
    have hts : (S t).length ≤ sizeLine := by rw [S_len]; exact small _ hl
    refine ⟨Nat.zero_le _, fun D0 hD => ?_⟩
    refine ⟨fun m σ H' => ∃ (pre u : List Nat) (ps : List Addr) (L1 : List (Kind × Val × Nat)) (y3 y4 y5 : Option V), t = pre ++ u ∧ m = u.length ∧ σ = [some (.str (S t)), some (.ref D0), some (.int (pre.length : Int)), y3, y4, y5] ∧ Same H H' ∧ H' D0 = some (.lst (ps.map V.ref)) ∧ Rows H' ps L1 ∧ L1.length ≤ pre.length ∧
        ((∃ L L2, Toks kws dv pre.length u L2 ∧ L = L1 ++ L2 ∧ ∀ p H' ps, Same H H' → H' p = some (.lst (ps.map V.ref)) → Rows H' ps L → Q (.ref p) H') ∨
         (∃ q, Bad kws dv pre.length u q ∧ ∀ d H', Same H H' → H d = none → H' d = some (.xd [("position", .int (q : Int))]) → E (.ref C) (some d) H')),
      ⟨t.length, [], t, [], [], none, none, none, rfl, rfl, rfl, same_upd hD, upd_same, ⟨rfl, fun _ _ _ _ e => by simp at e⟩, Nat.le_refl _, ?_⟩, ?_⟩
    · rcases hh with ⟨L, h1, h2⟩ | ⟨q, h1, h2⟩
      · exact .inl ⟨L, L, h1, rfl, h2⟩
      · exact .inr ⟨q, h1, h2⟩
    rintro m σ H' ⟨pre, u, ps, L1, y3, y4, y5, et, rfl, rfl, sm, hps, hrows, hL1, hh⟩
    obtain ⟨_, hg⟩ := get_mid et (rfl : pre.length = pre.length)
    have htl : t.length = pre.length + u.length := by rw [et]; simp
    cases u with
    | nil =>
      refine ⟨_, rfl, .str (S t), rfl, S t, rfl, hts, _, _, rfl, rfl, _, rfl, iteNo (by
        rw [decide_eq_true_eq, S_len, htl]
        simp) ?_⟩
      refine ⟨_, rfl, ?_⟩
      rcases hh with ⟨L, L2, h1, rfl, h2⟩ | ⟨q, h1, _⟩
      · have := toks_nil h1
        subst this
        rw [List.append_nil] at h2
        exact h2 D0 H' ps sm hps hrows
      · exact (bad_nil h1).elim
    | cons c r =>
      obtain ⟨hlt, g⟩ := hg c r rfl
      refine ⟨_, rfl, .str (S t), rfl, S t, rfl, hts, _, _, rfl, rfl, _, rfl, iteYes (by
        rw [decide_eq_true_eq, S_len]
        omega) ?_⟩
      refine ⟨fun σ' H2 => ∃ (pre2 u2 : List Nat) (ps : List Addr) (L1 : List (Kind × Val × Nat)) (y3 y4 y5 : Option V), t = pre2 ++ u2 ∧ u2.length < (c :: r).length ∧ σ' = [some (.str (S t)), some (.ref D0), some (.int (pre2.length : Int)), y3, y4, y5] ∧ Same H H2 ∧ H2 D0 = some (.lst (ps.map V.ref)) ∧ Rows H2 ps L1 ∧ L1.length ≤ pre2.length ∧
        ((∃ L L2, Toks kws dv pre2.length u2 L2 ∧ L = L1 ++ L2 ∧ ∀ p H' ps, Same H H' → H' p = some (.lst (ps.map V.ref)) → Rows H' ps L → Q (.ref p) H') ∨
         (∃ q, Bad kws dv pre2.length u2 q ∧ ∀ d H', Same H H' → H d = none → H' d = some (.xd [("position", .int (q : Int))]) → E (.ref C) (some d) H')), ?_, ?_⟩
      · rintro σ' H2 ⟨pre2, u2, ps2, L12, z3, z4, z5, g1, g2, g3⟩
        exact ⟨u2.length, g2, pre2, u2, ps2, L12, z3, z4, z5, g1, rfl, g3⟩
      refine ⟨.str (S t), rfl, .int (pre.length : Int), rfl, S t, pre.length, c, rfl, rfl, hts, by rw [sign_at hlt, g], c, _, rfl, rfl, _, rfl, ?_⟩
      rw [blank_codes]
      have et2 : t = (pre ++ [c]) ++ r := by rw [et]; simp
      have el2 : (pre ++ [c]).length = pre.length + 1 := by simp
      cases hb : isBlank c with
      | true =>
        refine iteT ⟨_, rfl, _, _, rfl, rfl, pre ++ [c], r, ps, L1, y3, y4, y5, et2, by simp, ?_, sm, hps, hrows, by omega, ?_⟩
        · rw [el2]
          rfl
        · rw [el2]
          rcases hh with ⟨L, L2, h1, h2, h3⟩ | ⟨q, h1, h2⟩
          · rcases toks_cons h1 with ⟨_, h4⟩ | ⟨h4, _⟩
            · exact .inl ⟨L, L2, h4, h2, h3⟩
            · rw [hb] at h4; cases h4
          · rcases bad_cons h1 with ⟨_, h4⟩ | ⟨h4, _⟩
            · exact .inr ⟨q, h4, h2⟩
            · rw [hb] at h4; cases h4
      | false =>
        refine iteF ?_
        have hcase : (∃ (u rest : List Nat) (kd : Kind) (v : Val), c :: r = u ++ rest ∧ Lex kws dv u kd v ∧ Sep u rest ∧
            ((∃ L L2, Toks kws dv (pre.length + u.length) rest L2 ∧ L = (L1 ++ [(kd, v, pre.length)]) ++ L2 ∧ ∀ p H' ps, Same H H' → H' p = some (.lst (ps.map V.ref)) → Rows H' ps L → Q (.ref p) H') ∨
             (∃ q, Bad kws dv (pre.length + u.length) rest q ∧ ∀ d H', Same H H' → H d = none → H' d = some (.xd [("position", .int (q : Int))]) → E (.ref C) (some d) H'))) ∨
            (BadAt (c :: r) ∧ ∀ d H', Same H H' → H d = none → H' d = some (.xd [("position", .int (pre.length : Int))]) → E (.ref C) (some d) H') := by
          rcases hh with ⟨L, L2, h1, h2, h3⟩ | ⟨q, h1, h2⟩
          · rcases toks_cons h1 with ⟨h4, _⟩ | ⟨_, u, rest, kd, v, L3, e1, lx, sp, e2, h5⟩
            · rw [hb] at h4; cases h4
            · refine .inl ⟨u, rest, kd, v, e1, lx, sp, .inl ⟨L, L3, h5, ?_, h3⟩⟩
              rw [h2, e2]
              simp
          · rcases bad_cons h1 with ⟨h4, _⟩ | ⟨_, ⟨rfl, h5⟩ | ⟨u, rest, kd, v, e1, lx, sp, h5⟩⟩
            · rw [hb] at h4; cases h4
            · exact .inr ⟨h5, h2⟩
            · exact .inl ⟨u, rest, kd, v, e1, lx, sp, .inr ⟨q, h5, h2⟩⟩
        rcases hcase with ⟨u, rest, kd, v, e1, lx, sp, hn⟩ | ⟨h5, h2⟩
        · -- a token, and what follows it
          have et3 : t = pre ++ (u ++ rest) := by rw [et, e1]
          refine ⟨_, rfl, .int (pre.length : Int), rfl, .inl ⟨pre, u, rest, kd, v, (by rw [et3]; rfl), lx, sp, trivial, by rw [← et3]; exact hl, fun p hp H2 s2 hp2 => ?_⟩⟩
          refine ⟨p, _, rfl, SqT.of hp2, rfl, _, _, rfl, _, _, rfl, _, _, rfl, rfl, ?_⟩
          have hD2 : H2 D0 = some (.lst (ps.map V.ref)) := s2 _ _ hps
          refine ⟨.ref D0, rfl, .inl ⟨rfl, _, SqL.of hD2⟩, _, rfl, _, rfl, _, rfl, (by show 3 ≤ sizeLine; decide), fun p2 hn2 => ?_⟩
          have ne2 : D0 ≠ p2 := ne_of_none hD2 hn2
          refine ⟨D0, _, _, rfl, rfl, by rw [upd_ne ne2]; exact hD2, ?_, ?_⟩
          · rw [List.length_map, hrows.1]
            exact Nat.lt_of_le_of_lt (show L1.length ≤ 1000000 by omega) (by decide)
          · have eu : (c :: r).length = u.length + rest.length := by rw [e1]; simp
            have hu : 0 < u.length := List.length_pos_iff.mpr (lex_ne lx)
            have epr : (pre ++ u).length = pre.length + u.length := by simp
            refine ⟨_, rfl, pre ++ u, rest, ps ++ [p2], L1 ++ [(kd, v, pre.length)], some (.str (kindS kd)), some (vV v), some (.int ((pre.length + u.length : Nat) : Int)), (by rw [et3]; simp), (by omega), ?_, ?_, (by rw [upd_same]; simp), ?_, ?_, ?_⟩
            · rw [epr]
              rfl
            · intro b o hb2
              have nb : b ≠ D0 := ne_of_none hb2 hD
              rw [upd_ne nb, upd_ne (ne_of_none (s2 _ _ (sm _ _ hb2)) hn2)]
              exact s2 _ _ (sm _ _ hb2)
            · refine Rows.snoc (hrows.keep fun a xs ha => ?_) ?_
              · have ha2 := s2 _ _ ha
                rw [upd_ne (ne_of ha2 hD2 (by intro z; cases z)), upd_ne (ne_of_none ha2 hn2)]
                exact ha2
              · rw [upd_ne ne2.symm, upd_same]
            · simp; omega
            · rw [epr]
              exact hn
        · refine ⟨_, rfl, .int (pre.length : Int), rfl, .inr ⟨pre, c :: r, (by rw [et]; rfl), h5, trivial, by rw [← et]; exact hl, fun d hd H2 s2 hd2 => ?_⟩⟩
          exact h2 d H2 (sm.trans s2) (sm.free hd) hd2
end
end Q21
namespace Q21
open PySem PySem.Spec PyProof.Rows L2 SX HL
theorem spl_go {c : Nat} {acc r : List Nat} (h : c ≠ 39) : TL.spl [39] 0 acc (c :: r) = TL.spl [39] 0 (acc ++ [c]) r := by
  have hp : TL.pre [39] (c :: r) = false := by simp [TL.pre, h]
  show (if TL.pre [39] (c :: r) = true then _ else _) = _
  rw [hp]
  rfl
theorem spl_at {acc r : List Nat} : TL.spl [39] 0 acc (39 :: r) = acc :: TL.spl [39] 0 [] r := TL.spl_hit (by simp [TL.pre])
theorem spl_ne : ∀ (r acc : List Nat), TL.spl [39] 0 acc r ≠ []
  | [], acc => by simp [TL.spl]
  | c :: r, acc => by
    by_cases h : c = 39
    · subst h; rw [spl_at]; simp
    · rw [spl_go h]; exact spl_ne r _
theorem join_cons {S p : List Nat} {q : List (List Nat)} (h : q ≠ []) : TL.joinL S (p :: q) = p ++ (S ++ TL.joinL S q) := by
  cases q with
  | nil => exact absurd rfl h
  | cons a b => rfl
theorem spl_enc : ∀ (x acc : List Nat), TL.joinL [39, 39] (TL.spl [39] 0 acc x) = acc ++ enc x
  | [], acc => by simp [TL.spl, TL.joinL, enc]
  | c :: r, acc => by
    by_cases h : c = 39
    · subst h
      rw [spl_at, join_cons (spl_ne r []), spl_enc r []]
      simp [enc]
    · rw [spl_go h, spl_enc r (acc ++ [c])]
      simp [enc, h]
theorem repl_enc (x : List Nat) : PySem.Txt.replace (S x) (S [39]) (S [39, 39]) = S (enc x) := by
  cases x with
  | nil => decide +kernel
  | cons c r =>
    have hj : PySem.Txt.replace (S (c :: r)) (S [39]) (S [39, 39]) = PySem.Txt.join (S [39, 39]) (PySem.Txt.split (S (c :: r)) (S [39])) := by
      have h1 : (decide ((S (c :: r)).length < (S [39]).length) || decide (Builtin.Str.strKind (S (c :: r)) < Builtin.Str.strKind (S [39]))) = false := by
        have a1 : decide ((S (c :: r)).length < (S [39]).length) = false := decide_eq_false (by rw [S_len, S_len]; simp)
        have a2 : decide (Builtin.Str.strKind (S (c :: r)) < Builtin.Str.strKind (S [39])) = false := decide_eq_false (by
          have : Builtin.Str.strKind (S [39]) = 1 := by decide +kernel
          rw [this]
          unfold Builtin.Str.strKind
          split
          · omega
          · split <;> omega)
        rw [a1, a2]; rfl
      have h2 : ((S [39]).length == 0 && (S [39, 39]).length == 0) = false := by decide +kernel
      unfold PySem.Txt.replace PySem.Txt.split PySem.Txt.join
      rw [h1, h2]
      simp only [Bool.or_false, Bool.false_eq_true, if_false]
      split
      · show _ = (⟨_⟩ : Str)
        simp [Str.empty]
      · rfl
    rw [hj, split_S (by simp) (by decide), join_S, spl_enc]
    simp
section
variable {X : Cx}
/-- c + z.replace(a, b), a and b not the same -/
theorem pe_cat_repl {e : Expr} {te : TE} {c a b : Str} {k0 k1 k2 : Nat} {p0 p1 p2 ap cp pos : Pos} (he : PE X e te) (hab : (a == b) = false)
    (hs : starEach [.Constant (.str a) k1 p1, .Constant (.str b) k2 p2] X.env = (false, eval (.Constant (.str a) k1 p1) X.env) :: (false, eval (.Constant (.str b) k2 p2) X.env) :: [] := by rfl)
    (hbase : attributeBase e "replace" X.env (eval e X.env) = eval e X.env := by rfl)
    (hfew : ((backTo cp (starEach [.Constant (.str a) k1 p1, .Constant (.str b) k2 p2] X.env)).all (fun x => !x.1) && (backToKw cp (keywordEach [] X.env)).all (fun x => x.1.isSome)
      && decide (([.Constant (.str a) k1 p1, .Constant (.str b) k2 p2] : List Expr).length + ([] : List Keyword).length + (if ([] : List Keyword).isEmpty then 0 else 1) < 30)) = true := by rfl)
    (hline : (ap.endLine == cp.line) = true := by rfl) :
    PE X (.BinOp (.Constant (.str c) k0 p0) .Add (.Call (.Attribute e "replace" ap) [.Constant (.str a) k1 p1, .Constant (.str b) k2 p2] [] cp) pos)
      (fun σ H Q => te σ H fun x H1 => ∃ z : Str, x = .str z ∧ z.length + (z.length + 1) * b.length ≤ 16777216 ∧ c.length + (PySem.Txt.replace z a b).length ≤ sizeLine ∧ Q (.str (c ++ PySem.Txt.replace z a b)) H1) := by
  refine ⟨fun pins s σ H Q I h => ?_⟩
  refine wpAny_BinOp (Calls.Constant_str ?_)
  have I0 : L2.Inv X pins σ H { s with toks := s.toks + 1 } := I.tok _
  refine wpAny_Call_method_late hbase hfew hline rfl (wpAny_mono (PySem.wpAny_toks (he.run pins _ σ H _ I0 h)) (fun v s1 hh => ?_) fun _ _ x => x.2)
  obtain ⟨ht, x, H1, I1, r1, z, rfl, hz, hz2, q⟩ := hh
  obtain ⟨t, rfl⟩ := _root_.id r1
  refine ⟨"str", _, F.plainAttrs_str, F.slot_str_replace, F.type_str_replace, typeIs_str _ _ _, (fun _ e => nomatch e), ?_⟩
  rw [hs]
  refine Calls.callWith_builtin rfl (Calls.evalArgs_plain (Calls.spliced_cons (Calls.Constant_str (k := k1) (pos := p1) (Calls.spliced_cons (Calls.Constant_str (k := k2) (pos := p2) (Calls.spliced_nil ?_))))))
  have h1 : 1 ≤ s1.toks := Nat.le_trans (Nat.le_add_left 1 s.toks) ht
  refine PySem.SC.replace (show ¬ s1.toks = (0 : Nat) from by omega) (show ¬ s1.toks + 1 = (0 : Nat) from by omega) (show ¬ s1.toks = s1.toks + 1 from by omega) hab hz fun t' k => ?_
  exact op_add_str pins _ σ H1 (.str c) (.str (PySem.Txt.replace z a b)) _ _ Q (I1.tok _) ⟨_, rfl⟩ ⟨_, rfl⟩ ⟨_, _, rfl, rfl, hz2, q⟩
end
end Q21
namespace Q21
open PySem PySem.Spec PyProof.Rows L2 SX HL
def wordsS : Str := "data fun cell view act turn then true false not and or if else let in case of end num text bool list mod"
theorem split_kws : PySem.Txt.split wordsS " " = kws.map S := by decide +kernel
theorem kws_us : ∀ x ∈ kws, 95 ∉ x ∧ x ≠ [] ∧ x.length ≤ 6 := by decide +kernel
theorem kws_low : ∀ x ∈ kws, ∃ c s, x = c :: s ∧ isLow c = true ∧ ∀ y ∈ s, isWord y = true := by
  intro x hx
  have h : ∀ x ∈ kws, isLow (x.headD 0) = true ∧ ∀ y ∈ x.tail, isWord y = true := by decide +kernel
  obtain ⟨h1, h2⟩ := h x hx
  obtain ⟨c, s, rfl⟩ := List.exists_cons_of_ne_nil (kws_us x hx).2.1
  exact ⟨c, s, rfl, h1, h2⟩
theorem followS : ("abcdefghijklmnopqrstuvwxyzABCDEFGHIJKLMNOPQRSTUVWXYZ0123456789_" : Str) = S (List.range' 97 26 ++ List.range' 65 26 ++ List.range' 48 10 ++ [95]) := by decide +kernel
theorem lowS : ("abcdefghijklmnopqrstuvwxyz" : Str) = S (List.range' 97 26) := by decide +kernel
theorem upS : ("ABCDEFGHIJKLMNOPQRSTUVWXYZ" : Str) = S (List.range' 65 26) := by decide +kernel
section
variable {P : Program} {w : World} {K : PySem.W.Frag} {mg : Str → Option Value} {base : Heap} {C fI aK aL aS : Addr}
theorem _root_.Q21.StAt.kept {H H' : Hp} {p q : Addr} {ns : List Int} (h : StAt H p q ns) (hp : H' p = H p) (s : Kept H H' p) : StAt H' p q ns := by
  obtain ⟨a, l, i, c, z, b, r⟩ := h
  have ne : q ≠ p := by
    intro e
    subst e
    rw [a] at b
    have e2 := HO.lst.inj (Option.some.inj b)
    cases ns with
    | nil => cases e2
    | cons x r => cases e2
  exact ⟨s _ _ ne a, l, i, c, z, hp.trans b, r⟩
theorem StAt.same {H H' : Hp} {p q : Addr} {ns : List Int} (h : StAt H p q ns) (s : Same H H') : StAt H' p q ns := by
  obtain ⟨a, l, i, c, z, b, r⟩ := h
  exact ⟨s _ _ a, l, i, c, z, s _ _ b, r⟩
/-! ### _law_keywords -/
def spKw : Sp := fun vs H Q _ => vs = [] ∧ ∀ p, H p = none → Q (.ref p) (upd H p (.lst (kws.map fun x => V.str (S x))))
theorem ok_kw {f : Addr} {fd : FuncData} {k : Nat} (D : DefN K mg "_law_keywords" sLawKeywords [] f fd) (T : Txt P K mg C fI aK aL aS) : FnOk P w K mg base CX0 (k + 1) f fd [] spKw := by
  refine D.F.ok scLawKeywords (fun vs H Q E h => ?_) (fun cdv A outer s H vs Q E hr h => ?_)
  · obtain ⟨rfl, _⟩ := h
    rfl
  · obtain ⟨rfl, q⟩ := h
    refine ⟨_, (pss_cons (ps_set (i := 0) scLawKeywords.nd rfl (.inl rfl) pe_str)
        (pss_one (ps_ret (pe_split (pv 0) pe_str)))), ?_⟩
    refine ⟨_, rfl, ⟨_, rfl⟩, wordsS, " ", rfl, rfl, by decide +kernel, by decide +kernel, fun p hp => ?_⟩
    rw [split_kws]
    have e : (kws.map S).map V.str = kws.map fun x => V.str (S x) := by simp
    rw [e]
    exact q p hp
/-! ### _law_word -/
def spWord : Sp := fun vs H Q _ => ∃ (p q : Addr) (ns : List Int) (fs : List Nat), vs = [.ref p, .str (S fs)] ∧ StAt H p q ns ∧ fs.length = 26 ∧
  ∀ H' c s, StAt H' p q ns → Kept H H' p → c ∈ fs → (∀ x ∈ s, isWord x = true) → s.length ≤ 10 → c :: s ∉ kws → Q (.str (S (c :: s))) H'
theorem ok_lword {f fN fK : Addr} {fd fdN fdK : FuncData} {k : Nat} (D : DefN K mg "_law_word" sLawWord ["state", "first"] f fd) (T : Txt P K mg C fI aK aL aS) (DLawNext : DefN K mg "_law_next" sLawNext ["state", "limit"] fN fdN) (DLawKeywords : DefN K mg "_law_keywords" sLawKeywords [] fK fdK) :
    FnOk P w K mg base CX0 (k + 2) f fd ["state", "first"] spWord := by
  have GLawNext : FnOk P w K mg base CX0 (k + 1) fN fdN ["state", "limit"] spNext := ok_next DLawNext T
  have GLawKeywords : FnOk P w K mg base CX0 (k + 1) fK fdK [] spKw := ok_kw DLawKeywords T
  refine D.F.ok scLawWord (fun vs H Q E h => ?_) (fun cdv A outer s H vs Q E hr h => ?_)
  · obtain ⟨p, q, ns, fs, rfl, _⟩ := h
    rfl
  · obtain ⟨p, q, ns, fs, rfl, hS, hf, qq⟩ := h
    refine ⟨_, (pss_cons (ps_set (i := 2) scLawWord.nd rfl (.inl rfl) pe_str)
        (pss_cons (ps_set (i := 3) scLawWord.nd rfl (.inl rfl) (pe_ix ix_str (pv 1) (pe_call GLawNext (hr.mono (by omega)) (by rfl) DLawNext.g DLawNext.F.kp DLawNext.b .nil pass0 (pa_cons (pv 0) (pa_cons pe_int pa_nil))) (fun _ _ => rfl)))
        (pss_cons (ps_for PassesOwn.never rfl (pi_range1 (by rfl) T.range (pa_cons (pe_call GLawNext (hr.mono (by omega)) (by rfl) DLawNext.g DLawNext.F.kp DLawNext.b .nil pass0 (pa_cons (pv 0) (pa_cons pe_int pa_nil))) pa_nil)) (pg_name (i := 4) scLawWord.nd rfl (.inl rfl)) (pss_one (ps_set (i := 3) scLawWord.nd rfl (.inl rfl) (pe_op op_add_str (pv 3) (pe_ix ix_str (pv 2) (pe_call GLawNext (hr.mono (by omega)) (by rfl) DLawNext.g DLawNext.F.kp DLawNext.b .nil pass0 (pa_cons (pv 0) (pa_cons pe_int pa_nil))) (fun _ _ => rfl))))))
        (C8.pss_cut (ps_if (pt_cmpR op_in_seq (pv 3) (pe_call0 GLawKeywords (hr.mono (by omega)) (by rfl) DLawKeywords.g DLawKeywords.F.kp DLawKeywords.b .nil pass0) rfl) (pss_one (ps_set (i := 3) scLawWord.nd rfl (.inl rfl) (pe_op op_add_str (pv 3) pe_str))) pss_nil)
        (pss_one (ps_ret (pv 3))))))), ?_⟩
    rw [followS]
    have hfl : (S fs).length ≤ sizeLine := by rw [S_len, hf]; decide
    have hus : ("_" : Str) = S [95] := by decide +kernel
    rw [hus]
    refine ⟨_, rfl, _, rfl, p, q, ns, 26, rfl, hS, by decide, by decide, fun H1 v S1 B1 v0 v1 => ?_⟩
    have ev : v = (v.toNat : Int) := by omega
    have hvl : v.toNat < fs.length := by omega
    refine ⟨S fs, v, fs.getD v.toNat 0, rfl, rfl, hfl, by rw [ev]; exact sign_at hvl, ?_⟩
    have hc : fs.getD v.toNat 0 ∈ fs := by
      rw [List.getD_eq_getElem?_getD, List.getElem?_eq_getElem hvl]
      exact List.getElem_mem hvl
    generalize fs.getD v.toNat 0 = c at hc
    refine ⟨_, rfl, p, q, ns, 5, rfl, S1, by decide, by decide, fun H2 u S2 B2 u0 u1 => ⟨u, rfl, by omega, by omega, ?_⟩⟩
    refine for_range (lo := 0) (n := u.toNat) (fun i σ H' => StAt H' p q ns ∧ Kept H H' p ∧ ∃ (l : List Nat) (y : Option V), σ = [some (.ref p), some (.str (S fs)), some (.str (S (List.range' 97 26 ++ List.range' 65 26 ++ List.range' 48 10 ++ [95]))), some (.str (S (c :: l))), y] ∧ (∀ x ∈ l, isWord x = true) ∧ l.length = i)
      ⟨S2, (B1.trans B2).kept, [], none, rfl, (fun _ h => nomatch h), rfl⟩ ?_ ?_
    · rintro i σ H' hi ⟨S3, K3, l, y, rfl, hl, el⟩
      refine ⟨_, rfl, _, rfl, _, rfl, p, q, ns, 63, rfl, S3, by decide, by decide, fun H4 z S4 B4 z0 z1 => ?_⟩
      have ez : z = (z.toNat : Int) := by omega
      have hzl : z.toNat < (List.range' 97 26 ++ List.range' 65 26 ++ List.range' 48 10 ++ [95]).length := by simp; omega
      have hd : ∀ j, j < 63 → isWord ((List.range' 97 26 ++ List.range' 65 26 ++ List.range' 48 10 ++ [95]).getD j 0) = true := by decide +kernel
      have hd := hd z.toNat (by omega)
      refine ⟨_, z, (List.range' 97 26 ++ List.range' 65 26 ++ List.range' 48 10 ++ [95]).getD z.toNat 0, rfl, rfl, by rw [S_len]; exact small _ (by simp), by rw [ez]; exact sign_at hzl, S (c :: l), S [_], rfl, rfl, ?_, ?_⟩
      · rw [S_len, S_len]
        exact small _ (by simp; omega)
      · rw [S_app]
        refine ⟨S4, K3.trans B4.kept, l ++ [_], _, rfl, fun x hx => ?_, by simp [el]⟩
        rcases List.mem_append.mp hx with hx | hx
        · exact hl x hx
        · rw [List.mem_singleton.mp hx]
          exact hd
    · rintro σ H3 ⟨S3, K3, l, y, rfl, hl, el⟩
      refine ⟨fun σ' H' => ∃ s : List Nat, σ' = [some (.ref p), some (.str (S fs)), some (.str (S (List.range' 97 26 ++ List.range' 65 26 ++ List.range' 48 10 ++ [95]))), some (.str (S (c :: s))), y] ∧ StAt H' p q ns ∧ Kept H H' p ∧ (∀ x ∈ s, isWord x = true) ∧ s.length ≤ 10 ∧ c :: s ∉ kws, ?_, ?_⟩
      · refine ⟨_, rfl, rfl, fun d hd => ?_⟩
        have sm : Same H3 (upd H3 d (.lst (kws.map fun x => V.str (S x)))) := same_upd hd
        refine ⟨d, _, rfl, .inl (SqL.of upd_same), rfl, flat_strs _, _, rfl, ?_⟩
        show if inV (.str (S (c :: l))) (kws.map fun x => V.str (S x)) = true then _ else _
        rw [inV_str]
        refine ite2 (fun hk => ?_) (fun hk => ?_)
        · refine ⟨_, rfl, S (c :: l), S [95], rfl, rfl, ?_, ?_⟩
          · rw [S_len, S_len]
            exact small _ (by simp; omega)
          · rw [S_app]
            refine ⟨l ++ [95], rfl, S3.same sm, K3.trans (sm.kept p), fun x hx => ?_, by simp; omega, fun hk2 => ?_⟩
            · rcases List.mem_append.mp hx with hx | hx
              · exact hl x hx
              · rw [List.mem_singleton.mp hx]; decide
            · exact (kws_us _ hk2).1 (by simp)
        · exact ⟨l, rfl, S3.same sm, K3.trans (sm.kept p), hl, by omega, fun z => hk (decide_eq_true z)⟩
      · rintro σ' H' ⟨s, rfl, S5, K5, hs, sl, hk⟩
        exact ⟨_, rfl, qq _ _ _ S5 K5 hc hs sl hk⟩
/-! ### _law_name, _law_maker -/
def spLex (kd : Kind) : Sp := fun vs H Q _ => ∃ (p q : Addr) (ns : List Int), vs = [.ref p] ∧ StAt H p q ns ∧ ∀ H' u, StAt H' p q ns → Kept H H' p → Lex kws dv u kd (.s u) → u.length ≤ 700 → Q (.str (S u)) H'
theorem ok_lname {f fN fK fW : Addr} {fd fdN fdK fdW : FuncData} {k : Nat} (D : DefN K mg "_law_name" sLawName ["state"] f fd) (T : Txt P K mg C fI aK aL aS) (DLawNext : DefN K mg "_law_next" sLawNext ["state", "limit"] fN fdN) (DLawKeywords : DefN K mg "_law_keywords" sLawKeywords [] fK fdK)
    (DLawWord : DefN K mg "_law_word" sLawWord ["state", "first"] fW fdW) : FnOk P w K mg base CX0 (k + 3) f fd ["state"] (spLex .name) := by
  have GLawWord : FnOk P w K mg base CX0 (k + 2) fW fdW ["state", "first"] spWord := ok_lword DLawWord T DLawNext DLawKeywords
  refine D.F.ok scLawName (fun vs H Q E h => ?_) (fun cdv A outer s H vs Q E hr h => ?_)
  · obtain ⟨p, q, ns, rfl, _⟩ := h
    rfl
  · obtain ⟨p, q, ns, rfl, hS, qq⟩ := h
    refine ⟨_, (pss_one (ps_ret (pe_call GLawWord (hr.mono (by omega)) (by rfl) DLawWord.g DLawWord.F.kp DLawWord.b .nil pass0 (pa_cons (pv 0) (pa_cons pe_str pa_nil))))), ?_⟩
    rw [lowS]
    refine ⟨_, rfl, p, q, ns, _, rfl, hS, by simp, fun H' c s S1 K1 hc hs sl hk => qq H' (c :: s) S1 K1 ?_ (by simp; omega)⟩
    have hc2 : isLow c = true := by
      simp only [List.mem_range'_1] at hc
      simp only [isLow, Bool.and_eq_true, decide_eq_true_eq]
      omega
    have hu : isUp c = false := by
      simp only [isLow, isUp, Bool.and_eq_true, decide_eq_true_eq, Bool.and_eq_false_iff, decide_eq_false_iff_not] at hc2 ⊢
      omega
    have := Lex.word (kws := kws) (dv := dv) c s (by simp [isLet, hc2]) hs
    have e : kindOf kws (c :: s) = .name := by simp [kindOf, hu, hk]
    rw [e] at this
    exact this
theorem ok_lmaker {f fN fK fW : Addr} {fd fdN fdK fdW : FuncData} {k : Nat} (D : DefN K mg "_law_maker" sLawMaker ["state"] f fd) (T : Txt P K mg C fI aK aL aS) (DLawNext : DefN K mg "_law_next" sLawNext ["state", "limit"] fN fdN) (DLawKeywords : DefN K mg "_law_keywords" sLawKeywords [] fK fdK)
    (DLawWord : DefN K mg "_law_word" sLawWord ["state", "first"] fW fdW) : FnOk P w K mg base CX0 (k + 3) f fd ["state"] (spLex .maker) := by
  have GLawWord : FnOk P w K mg base CX0 (k + 2) fW fdW ["state", "first"] spWord := ok_lword DLawWord T DLawNext DLawKeywords
  refine D.F.ok scLawMaker (fun vs H Q E h => ?_) (fun cdv A outer s H vs Q E hr h => ?_)
  · obtain ⟨p, q, ns, rfl, _⟩ := h
    rfl
  · obtain ⟨p, q, ns, rfl, hS, qq⟩ := h
    refine ⟨_, (pss_one (ps_ret (pe_call GLawWord (hr.mono (by omega)) (by rfl) DLawWord.g DLawWord.F.kp DLawWord.b .nil pass0 (pa_cons (pv 0) (pa_cons pe_str pa_nil))))), ?_⟩
    rw [upS]
    refine ⟨_, rfl, p, q, ns, _, rfl, hS, by simp, fun H' c s S1 K1 hc hs sl hk => qq H' (c :: s) S1 K1 ?_ (by simp; omega)⟩
    have hc2 : isUp c = true := by
      simp only [List.mem_range'_1] at hc
      simp only [isUp, Bool.and_eq_true, decide_eq_true_eq]
      omega
    have := Lex.word (kws := kws) (dv := dv) c s (by simp [isLet, hc2]) hs
    have e : kindOf kws (c :: s) = .maker := by simp [kindOf, hc2]
    rw [e] at this
    exact this
/-! ### _law_quoted -/
def spQuoted : Sp := fun vs H Q _ => ∃ x : List Nat, vs = [.str (S x)] ∧ x.length ≤ 1000 ∧ Q (.str (S (39 :: (enc x ++ [39])))) H
theorem enc_le : ∀ x : List Nat, (enc x).length ≤ 2 * x.length
  | [] => Nat.le_refl _
  | c :: r => by
    have := enc_le r
    simp only [enc]
    split <;> simp <;> omega
theorem ok_quoted {f : Addr} {fd : FuncData} {k : Nat} (D : DefN K mg "_law_quoted" sLawQuoted ["text"] f fd) (T : Txt P K mg C fI aK aL aS) : FnOk P w K mg base CX0 (k + 1) f fd ["text"] spQuoted := by
  refine D.F.ok scLawQuoted (fun vs H Q E h => ?_) (fun cdv A outer s H vs Q E hr h => ?_)
  · obtain ⟨x, rfl, _⟩ := h
    rfl
  · obtain ⟨x, rfl, hl, q⟩ := h
    refine ⟨_, (pss_one (ps_ret (pe_op op_add_str (pe_cat_repl (pv 0) (by decide +kernel)) pe_str))), ?_⟩
    have e2 : ("''" : Str) = S [39, 39] := by decide +kernel
    rw [quo_str, e2]
    have := enc_le x
    refine ⟨_, rfl, S x, rfl, ?_, ?_, S [39] ++ PySem.Txt.replace (S x) (S [39]) (S [39, 39]), S [39], rfl, rfl, ?_, ?_⟩
    · rw [S_len, S_len]
      have : (x.length + 1) * [39, 39].length ≤ 2002 := by simp; omega
      omega
    · rw [repl_enc, S_len, S_len]
      exact small _ (by simp; omega)
    · rw [repl_enc, S_app, S_len, S_len]
      exact small _ (by simp; omega)
    · rw [repl_enc, S_app, S_app]
      exact q
end
end Q21
namespace Q21
open PySem PySem.Spec PyProof.Rows L2 SX HL
theorem digit_str (i : Int) (h0 : 0 ≤ i) (h1 : i < 10) : Str.ofString (toString i) = S [48 + i.toNat] := by
  have h : ∀ n, n < 10 → Str.ofString (toString ((n : Nat) : Int)) = S [48 + n] := by decide +kernel
  have e : i = (i.toNat : Int) := by omega
  rw [e]
  exact h i.toNat (by omega)
theorem StAt.ne {H : Hp} {p q D : Addr} {ns : List Int} (h : StAt H p q ns) (hD : H D = none) : D ≠ p ∧ D ≠ q := by
  obtain ⟨a, l, i, c, z, b, r⟩ := h
  exact ⟨(fun e => by
    rw [e, b] at hD
    cases hD), (fun e => by
    rw [e, a] at hD
    cases hD)⟩
theorem StAt.other {H : Hp} {p q D : Addr} {ns : List Int} {o : HO} (h : StAt H p q ns) (n1 : D ≠ p) (n2 : D ≠ q) : StAt (L2.upd H D o) p q ns := by
  obtain ⟨a, l, i, c, z, b, r⟩ := h
  exact ⟨by rw [upd_ne n2.symm]; exact a, l, i, c, z, by rw [upd_ne n1.symm]; exact b, r⟩
theorem _root_.HL.Kept.other {H H' : Hp} {p D : Addr} {o : HO} (h : Kept H H' p) (hD : H D = none) : Kept H (L2.upd H' D o) p := fun b x n e => by
  rw [upd_ne (ne_of_none e hD)]
  exact h b x n e
theorem one_sum (u : List Nat) : ((u.map fun c => [c]).map (·.length)).sum = u.length := by
  have := congrArg List.length (ones_flat u)
  rw [List.length_flatten] at this
  exact this
section
variable {P : Program} {w : World} {K : PySem.W.Frag} {mg : Str → Option Value} {base : Heap} {C fI aK aL aS : Addr}
/-! ### _law_digits -/
def spDigits : Sp := fun vs H Q _ => ∃ (p q : Addr) (ns : List Int) (n : Nat), vs = [.ref p, .int (n : Int)] ∧ StAt H p q ns ∧ 1 ≤ n ∧ n ≤ 100 ∧ ∀ H' u, StAt H' p q ns → Kept H H' p → u.length = n → (∀ x ∈ u, isDig x = true) → Q (.str (S u)) H'
theorem ok_digits {f fN : Addr} {fd fdN : FuncData} {k : Nat} (D : DefN K mg "_law_digits" sLawDigits ["state", "count"] f fd) (T : Txt P K mg C fI aK aL aS) (DLawNext : DefN K mg "_law_next" sLawNext ["state", "limit"] fN fdN) :
    FnOk P w K mg base CX0 (k + 2) f fd ["state", "count"] spDigits := by
  have GLawNext : FnOk P w K mg base CX0 (k + 1) fN fdN ["state", "limit"] spNext := ok_next DLawNext T
  refine D.F.ok scLawDigits (fun vs H Q E h => ?_) (fun cdv A outer s H vs Q E hr h => ?_)
  · obtain ⟨p, q, ns, n, rfl, _⟩ := h
    rfl
  · obtain ⟨p, q, ns, n, rfl, hS, n1, n2, qq⟩ := h
    refine ⟨_, (pss_one (ps_ret (pe_join pe_str (pe_lc (own := [("k", 2)]) (g := (gName 2)) (by rfl) scLawDigits.nd (pi_range1 (by rfl) T.range (pa_cons (pv 1) pa_nil)) (blkOk_by (own := [("k", 2)]) (N := ["state", "count", "k"]) (sc := defScope sLawDigits) (by decide +kernel)) (fun _ _ _ _ _ => (pg_name (i := 2) scLawDigits.nd rfl (Or.inl rfl))) (fun _ _ _ _ _ => pts_nil) (fun _ _ _ _ _ => (pe_callTy call_str_int (by rfl) T.str HL.boot_str (pa_cons (pe_call GLawNext (hr.mono (by omega)) (by rfl) DLawNext.g DLawNext.F.kp DLawNext.b .nil pass0 (pa_cons (pv 0) (pa_cons pe_int pa_nil))) pa_nil))))))), ?_⟩
    rw [nil_str]
    refine ⟨⟨_, rfl⟩, _, rfl, n, rfl, by omega, by omega, fun D0 hD => ?_⟩
    obtain ⟨nDp, nDq⟩ := hS.ne hD
    refine lc_range (lo := 0) (n := (n : Int).toNat) (fun i H' => ∃ u : List Nat, H' D0 = some (.lst (u.map fun c => V.str (S [c]))) ∧ u.length = i ∧ (∀ x ∈ u, isDig x = true) ∧ StAt H' p q ns ∧ Kept H H' p)
      ⟨[], upd_same, rfl, (fun _ h => nomatch h), hS.other nDp nDq, Kept.refl.other hD⟩ ?_ ?_
    · rintro i H' hi ⟨u, hu, el, hd, S1, K1⟩
      refine ⟨rfl, lc_yes ⟨_, rfl, p, q, ns, 10, rfl, S1, by decide, by decide, fun H2 v S2 B2 v0 v1 => ⟨v, rfl, ?_, ?_⟩⟩⟩
      · have : v = (v.toNat : Int) := by omega
        rw [this]
        exact pos_small _ (by omega)
      · have hu2 : H2 D0 = some (.lst (u.map fun c => V.str (S [c]))) := (B2 D0 nDp).trans hu
        refine ⟨_, hu2, ?_, u ++ [48 + v.toNat], ?_, by simp [el], fun x hx => ?_, S2.other nDp nDq, (K1.trans B2.kept).other hD⟩
        · rw [List.length_map, el]
          exact Nat.lt_of_le_of_lt (show i ≤ 100 by omega) (by decide)
        · rw [upd_same, digit_str v v0 v1]
          simp
        · rcases List.mem_append.mp hx with hx | hx
          · exact hd x hx
          · rw [List.mem_singleton.mp hx]
            simp only [isDig, Bool.and_eq_true, decide_eq_true_eq]
            omega
    · rintro H' ⟨u, hu, el, hd, S1, K1⟩
      have esl : (u.map fun c => V.str (S [c])) = ((u.map fun c => [c]).map S).map V.str := by simp
      refine ⟨S [], D0, (u.map fun c => [c]).map S, rfl, rfl, .inl (by rw [← esl]; exact SqL.of hu), ?_, ?_⟩
      · rw [SX.lens, one_sum, S_len, List.length_nil, Nat.mul_zero]
        omega
      · rw [join_S, joinL_nil, ones_flat]
        exact qq H' u S1 K1 (by omega) hd
/-! ### _law_joins -/
def spJoins : Sp := fun vs H Q _ => ∃ (c d : Nat) (a b : List Nat), vs = [.str (S (c :: a)), .str (S (d :: b))] ∧ (c :: a).length ≤ 2000 ∧ (d :: b).length ≤ 2000 ∧ ∀ H', Same H H' → Q (.bl (joins (c :: a) (d :: b))) H'
theorem ok_joins {f : Addr} {fd : FuncData} {k : Nat} (D : DefN K mg "_law_joins" sLawJoins ["written", "other"] f fd) (T : Txt P K mg C fI aK aL aS) : FnOk P w K mg base CX0 (k + 1) f fd ["written", "other"] spJoins := by
  refine D.F.ok scLawJoins (fun vs H Q E h => ?_) (fun cdv A outer s H vs Q E hr h => ?_)
  · obtain ⟨c, d, a, b, rfl, _⟩ := h
    rfl
  · obtain ⟨c, d, a, b, rfl, la, lb, q⟩ := h
    refine ⟨_, (pss_cons (ps_set (i := 2) scLawJoins.nd rfl (.inl rfl) pe_str)
        (pss_cons (ps_set (i := 3) scLawJoins.nd rfl (.inl rfl) (pe_ix ix_str (pv 0) pe_int (fun _ _ => rfl)))
        (pss_cons (ps_set (i := 4) scLawJoins.nd rfl (.inl rfl) (pe_ix ix_str (pv 1) pe_int (fun _ _ => rfl)))
        (pss_cons (ps_if (pt_cmpR op_in_sign (pv 3) (pv 2) rfl) (pss_one (ps_ret (pe_cmpR op_in_sign (pv 4) (pe_op op_add_str (pv 2) pe_str) rfl))) pss_nil)
        (pss_cons (ps_if (pt_cmpR op_in_sign (pv 3) pe_str rfl) (pss_one (ps_ret (pe_cmpR op_in_sign (pv 4) pe_str rfl))) pss_nil)
        (pss_cons (ps_if (pt_cmpR op_eq (pv 3) pe_str (nomark _)) (pss_one (ps_ret (pe_cmpR op_eq (pv 4) pe_str (nomark _)))) pss_nil)
        (pss_one (ps_ret (pe_and (pe_cmpR op_in_seq (pv 0) (pe_lst (pa_cons pe_str (pa_cons pe_str pa_nil))) rfl) (pe_one (pe_cmpR op_in_sign (pv 4) pe_str rfl))))))))))), ?_⟩
    have hla : (S (c :: a)).length ≤ sizeLine := by rw [S_len]; exact small _ (by omega)
    have hlb : (S (d :: b)).length ≤ sizeLine := by rw [S_len]; exact small _ (by omega)
    have letC : ∀ x : Nat, decide (x ∈ ("abcdefghijklmnopqrstuvwxyzABCDEFGHIJKLMNOPQRSTUVWXYZ" : Str).cps.toList) = isLet x := fun x => by
      have e : ("abcdefghijklmnopqrstuvwxyzABCDEFGHIJKLMNOPQRSTUVWXYZ" : Str).cps.toList = List.range' 97 26 ++ List.range' 65 26 := by decide +kernel
      rw [e, Bool.eq_iff_iff]
      simp only [isLet, isLow, isUp, List.mem_append, List.mem_range'_1, decide_eq_true_eq, Bool.and_eq_true, Bool.or_eq_true]
      omega
    have catS : ("abcdefghijklmnopqrstuvwxyzABCDEFGHIJKLMNOPQRSTUVWXYZ" : Str) ++ ("0123456789_" : Str) = ("abcdefghijklmnopqrstuvwxyzABCDEFGHIJKLMNOPQRSTUVWXYZ0123456789_" : Str) := by decide +kernel
    have eqC : ∀ x : Nat, decide (V.str (S [x]) = V.str (S [39])) = decide (x = 39) := fun x => by
      rw [Bool.eq_iff_iff, decide_eq_true_eq, decide_eq_true_eq]
      constructor
      · intro z
        have := S_inj (V.str.inj z)
        simpa using this
      · rintro rfl
        rfl
    have sgn : ∀ x : Nat, decide (x ∈ ("+:=" : Str).cps.toList) = decide (x = 43 ∨ x = 58 ∨ x = 61) := fun x => by
      have e : ("+:=" : Str).cps.toList = [43, 58, 61] := by decide +kernel
      rw [e, Bool.eq_iff_iff]
      simp
    have hj : joins (c :: a) (d :: b) = joinsC c d (decide (c :: a = [43] ∨ c :: a = [58])) := rfl
    rw [hj] at q
    unfold joinsC at q
    rw [quo_str]
    refine ⟨_, rfl, S (c :: a), 0, c, rfl, rfl, hla, atI_nat (j := 0) rfl, ?_⟩
    refine ⟨_, rfl, S (d :: b), 0, d, rfl, rfl, hlb, atI_nat (j := 0) rfl, ?_⟩
    refine ⟨_, rfl, _, rfl, c, _, rfl, rfl, _, rfl, ?_⟩
    rw [letC]
    cases h1 : isLet c with
    | true =>
      rw [h1] at q
      simp only [if_true] at q
      refine iteT ⟨_, rfl, _, rfl, _, _, rfl, rfl, by decide +kernel, d, _, rfl, rfl, ?_⟩
      rw [catS, word_codes]
      exact q H (Same.refl H)
    | false =>
      rw [h1] at q
      simp only [Bool.false_eq_true, if_false] at q
      refine iteF ⟨_, rfl, c, _, rfl, rfl, _, rfl, ?_⟩
      rw [dig_codes]
      cases h2 : isDig c with
      | true =>
        rw [h2] at q
        simp only [if_true] at q
        refine iteT ⟨_, rfl, d, _, rfl, rfl, ?_⟩
        rw [dig_codes]
        exact q H (Same.refl H)
      | false =>
        rw [h2] at q
        simp only [Bool.false_eq_true, if_false] at q
        refine iteF ⟨_, rfl, rfl, _, rfl, ?_⟩
        show if decide (V.str (S [c]) = V.str (S [39])) = true then _ else _
        rw [eqC]
        refine ite2 (fun h3 => ?_) (fun h3 => ?_)
        · have h3 := of_decide_eq_true h3
          rw [if_pos h3] at q
          refine ⟨_, rfl, rfl, ?_⟩
          show Q (.bl (decide (V.str (S [d]) = V.str (S [39])))) H
          rw [eqC]
          exact q H (Same.refl H)
        · have h3 : ¬ c = 39 := fun z => h3 (decide_eq_true z)
          rw [if_neg h3] at q
          refine ⟨_, rfl, (by show 2 ≤ sizeLine; decide), fun p hp => ?_⟩
          have es : ([.str "+", .str ":"] : List V) = [[43], [58]].map fun x => V.str (S x) := by decide +kernel
          refine ⟨p, _, rfl, .inl (SqL.of upd_same), rfl, rfl, ?_⟩
          show ∃ k, V.bl (inV (.str (S (c :: a))) [.str "+", .str ":"]) = .bl k ∧ _
          rw [es, inV_str]
          have em : decide (c :: a ∈ ([[43], [58]] : List (List Nat))) = decide (c :: a = [43] ∨ c :: a = [58]) := by
            rw [Bool.eq_iff_iff]
            simp
          rw [em]
          refine ⟨_, rfl, ?_⟩
          cases hb : decide (c :: a = [43] ∨ c :: a = [58]) with
          | true =>
            rw [hb] at q
            refine iteT ⟨_, rfl, d, _, rfl, rfl, ?_⟩
            rw [sgn]
            exact q _ (same_upd hp)
          | false =>
            rw [hb] at q
            exact iteF (q _ (same_upd hp))
/-! ### _law_gap -/
def spGap : Sp := fun vs H Q _ => ∃ (p q : Addr) (ns : List Int) (b : Bool), vs = [.ref p, .bl b] ∧ StAt H p q ns ∧ ∀ H' g, StAt H' p q ns → Kept H H' p → (∀ c ∈ g, isBlank c = true) → (b = true → g ≠ []) → g.length ≤ 3 → Q (.str (S g)) H'
theorem ok_gap {f fN : Addr} {fd fdN : FuncData} {k : Nat} (D : DefN K mg "_law_gap" sLawGap ["state", "needed"] f fd) (T : Txt P K mg C fI aK aL aS) (DLawNext : DefN K mg "_law_next" sLawNext ["state", "limit"] fN fdN) :
    FnOk P w K mg base CX0 (k + 2) f fd ["state", "needed"] spGap := by
  have GLawNext : FnOk P w K mg base CX0 (k + 1) fN fdN ["state", "limit"] spNext := ok_next DLawNext T
  refine D.F.ok scLawGap (fun vs H Q E h => ?_) (fun cdv A outer s H vs Q E hr h => ?_)
  · obtain ⟨p, q, ns, b, rfl, _⟩ := h
    rfl
  · obtain ⟨p, q, ns, b, rfl, hS, qq⟩ := h
    refine ⟨_, (pss_cons (ps_set (i := 2) scLawGap.nd rfl (.inl rfl) pe_str)
        (pss_cons (ps_for PassesOwn.never rfl (pi_range1 (by rfl) T.range (pa_cons (pe_call GLawNext (hr.mono (by omega)) (by rfl) DLawNext.g DLawNext.F.kp DLawNext.b .nil pass0 (pa_cons (pv 0) (pa_cons pe_int pa_nil))) pa_nil)) (pg_name (i := 3) scLawGap.nd rfl (.inl rfl)) (pss_one (ps_set (i := 2) scLawGap.nd rfl (.inl rfl) (pe_op op_add_str (pv 2) (pe_ix ix_str pe_str (pe_call GLawNext (hr.mono (by omega)) (by rfl) DLawNext.g DLawNext.F.kp DLawNext.b .nil pass0 (pa_cons (pv 0) (pa_cons pe_int pa_nil))) (fun _ _ => rfl))))))
        (pss_cons (ps_if (PW.pt (pw_and (pt_val (pv 1)) (pw_and1 (pt_cmpR op_eq (pv 2) pe_str (nomark _))))) (pss_one (ps_ret pe_str)) pss_nil)
        (pss_one (ps_ret (pv 2)))))), ?_⟩
    have eb : (" \n" : Str) = S [32, 10] := by decide +kernel
    have es : (" " : Str) = S [32] := by decide +kernel
    rw [nil_str, eb, es]
    refine ⟨_, rfl, p, q, ns, 3, rfl, hS, by decide, by decide, fun H1 v S1 B1 v0 v1 => ⟨v, rfl, by omega, by omega, ?_⟩⟩
    refine for_range (lo := 0) (n := v.toNat) (fun i σ H' => ∃ (g : List Nat) (y : Option V), σ = [some (.ref p), some (.bl b), some (.str (S g)), y] ∧ StAt H' p q ns ∧ Kept H H' p ∧ (∀ c ∈ g, isBlank c = true) ∧ g.length = i)
      ⟨[], none, rfl, S1, B1.kept, (fun _ h => nomatch h), rfl⟩ ?_ ?_
    · rintro i σ H' hi ⟨g, y, rfl, S2, K2, hg, el⟩
      refine ⟨_, rfl, _, rfl, p, q, ns, 2, rfl, S2, by decide, by decide, fun H3 u S3 B3 u0 u1 => ?_⟩
      have eu : u = (u.toNat : Int) := by omega
      have hul : u.toNat < [32, 10].length := by simp; omega
      have hbl : ∀ j, j < 2 → isBlank (([32, 10] : List Nat).getD j 0) = true := by decide
      have hbl := hbl u.toNat (by omega)
      refine ⟨S [32, 10], u, ([32, 10] : List Nat).getD u.toNat 0, rfl, rfl, by decide +kernel, by rw [eu]; exact sign_at hul, S g, S [_], rfl, rfl, ?_, ?_⟩
      · rw [S_len, S_len]
        exact small _ (by simp; omega)
      · rw [S_app]
        refine ⟨g ++ [_], _, rfl, S3, K2.trans B3.kept, fun x hx => ?_, by simp [el]⟩
        rcases List.mem_append.mp hx with hx | hx
        · exact hg x hx
        · rw [List.mem_singleton.mp hx]
          exact hbl
    · rintro σ H' ⟨g, y, rfl, S2, K2, hg, el⟩
      have out : (b = true → g ≠ []) → Q (.str (S g)) H' := fun hb => qq H' g S2 K2 hg hb (by omega)
      refine ⟨_, rfl, b, rfl, ?_⟩
      cases b with
      | false => exact iteF (iteF ⟨_, rfl, out (fun z => by cases z)⟩)
      | true =>
        refine iteT ⟨_, rfl, rfl, _, rfl, ite2 (fun h => ?_) (fun h => ⟨_, rfl, out fun _ z => h ?_⟩)⟩
        · have eg : g = [] := by
            have := S_inj (V.str.inj (of_decide_eq_true h))
            exact this
          exact qq H' [32] S2 K2 (by decide) (fun _ => by simp) (by decide)
        · subst z
          exact decide_eq_true rfl
end
end Q21
namespace Q21
open PySem PySem.Spec PyProof.Rows L2 SX HL
theorem lex_kw {x : List Nat} (h : x ∈ kws) : Lex kws dv x .keyword (.s x) := by
  obtain ⟨c, s, rfl, h1, h2⟩ := kws_low x h
  have hu : isUp c = false := by
    simp only [isLow, isUp, Bool.and_eq_true, decide_eq_true_eq, Bool.and_eq_false_iff, decide_eq_false_iff_not] at h1 ⊢
    omega
  have := Lex.word (kws := kws) (dv := dv) c s (by simp [isLet, h1]) h2
  have e : kindOf kws (c :: s) = .keyword := by simp [kindOf, hu, h]
  rw [e] at this
  exact this
theorem signs_list : ([.str "(", .str ")", .str "[", .str "]", .str ",", .str ";", .str "|", .str "=", .str "<", .str "+", .str "-", .str "*", .str "/", .str ":", .str "++", .str "::", .str "->", .str ":="] : List V) = signs.map fun x => V.str (S x) := by decide +kernel
section
variable {P : Program} {w : World} {K : PySem.W.Frag} {mg : Str → Option Value} {base : Heap} {C fI aK aL aS : Addr}
/-! ### _law_token -/
def spToken : Sp := fun vs H Q _ => ∃ (p q : Addr) (ns : List Int), vs = [.ref p] ∧ StAt H p q ns ∧
  ∀ H' t u kd v, StAt H' p q ns → Kept H H' p → H' t = some (.tup [.str (kindS kd), vV v, .str (S u)]) → Lex kws dv u kd v → u.length ≤ 700 → Q (.ref t) H'
theorem ok_ltoken {f fN fK fW fNm fM fC fD fQ : Addr} {fd fdN fdK fdW fdNm fdM fdC fdD fdQ : FuncData} {k : Nat} (D : DefN K mg "_law_token" sLawToken ["state"] f fd) (T : Txt P K mg C fI aK aL aS)
    (DLawNext : DefN K mg "_law_next" sLawNext ["state", "limit"] fN fdN) (DLawKeywords : DefN K mg "_law_keywords" sLawKeywords [] fK fdK) (DLawWord : DefN K mg "_law_word" sLawWord ["state", "first"] fW fdW) (DLawName : DefN K mg "_law_name" sLawName ["state"] fNm fdNm)
    (DLawMaker : DefN K mg "_law_maker" sLawMaker ["state"] fM fdM) (DLawChar : DefN K mg "_law_char" sLawChar ["index"] fC fdC) (DLawDigits : DefN K mg "_law_digits" sLawDigits ["state", "count"] fD fdD) (DLawQuoted : DefN K mg "_law_quoted" sLawQuoted ["text"] fQ fdQ) :
    FnOk P w K mg base CX0 (k + 4) f fd ["state"] spToken := by
  have GLawNext : FnOk P w K mg base CX0 (k + 1) fN fdN ["state", "limit"] spNext := ok_next DLawNext T
  have GLawKeywords : FnOk P w K mg base CX0 (k + 1) fK fdK [] spKw := ok_kw DLawKeywords T
  have GLawName : FnOk P w K mg base CX0 (k + 3) fNm fdNm ["state"] (spLex .name) := ok_lname DLawName T DLawNext DLawKeywords DLawWord
  have GLawMaker : FnOk P w K mg base CX0 (k + 3) fM fdM ["state"] (spLex .maker) := ok_lmaker DLawMaker T DLawNext DLawKeywords DLawWord
  have GLawChar : FnOk P w K mg base CX0 (k + 1) fC fdC ["index"] spChar := ok_char DLawChar T
  have GLawDigits : FnOk P w K mg base CX0 (k + 2) fD fdD ["state", "count"] spDigits := ok_digits DLawDigits T DLawNext
  have GLawQuoted : FnOk P w K mg base CX0 (k + 1) fQ fdQ ["text"] spQuoted := ok_quoted DLawQuoted T
  refine D.F.ok scLawToken (fun vs H Q E h => ?_) (fun cdv A outer s H vs Q E hr h => ?_)
  · obtain ⟨p, q, ns, rfl, _⟩ := h
    rfl
  · obtain ⟨p, q, ns, rfl, hS, qq⟩ := h
    refine ⟨_, (pss_cons (ps_set (i := 1) scLawToken.nd rfl (.inl rfl) (pe_call GLawNext (hr.mono (by omega)) (by rfl) DLawNext.g DLawNext.F.kp DLawNext.b .nil pass0 (pa_cons (pv 0) (pa_cons pe_int pa_nil))))
        (pss_cons (ps_if (pt_cmpR op_lt (pv 1) pe_int (nomark _)) (pss_cons (ps_set (i := 2) scLawToken.nd rfl (.inl rfl) (pe_ix ix_list (pe_call0 GLawKeywords (hr.mono (by omega)) (by rfl) DLawKeywords.g DLawKeywords.F.kp DLawKeywords.b .nil pass0) (pe_call GLawNext (hr.mono (by omega)) (by rfl) DLawNext.g DLawNext.F.kp DLawNext.b .nil pass0 (pa_cons (pv 0) (pa_cons pe_int pa_nil))) (fun _ _ => rfl)))
        (pss_one (ps_ret (pe_tup (pa_cons pe_str (pa_cons (pv 2) (pa_cons (pv 2) pa_nil))))))) pss_nil)
        (pss_cons (ps_if (pt_cmpR op_lt (pv 1) pe_int (nomark _)) (pss_cons (ps_set (i := 3) scLawToken.nd rfl (.inl rfl) (pe_call GLawName (hr.mono (by omega)) (by rfl) DLawName.g DLawName.F.kp DLawName.b .nil pass0 (pa_cons (pv 0) pa_nil)))
        (pss_one (ps_ret (pe_tup (pa_cons pe_str (pa_cons (pv 3) (pa_cons (pv 3) pa_nil))))))) pss_nil)
        (pss_cons (ps_if (pt_cmpR op_lt (pv 1) pe_int (nomark _)) (pss_cons (ps_set (i := 4) scLawToken.nd rfl (.inl rfl) (pe_call GLawMaker (hr.mono (by omega)) (by rfl) DLawMaker.g DLawMaker.F.kp DLawMaker.b .nil pass0 (pa_cons (pv 0) pa_nil)))
        (pss_one (ps_ret (pe_tup (pa_cons pe_str (pa_cons (pv 4) (pa_cons (pv 4) pa_nil))))))) pss_nil)
        (pss_cons (ps_if (pt_cmpR op_lt (pv 1) pe_int (nomark _)) (pss_cons (ps_set (i := 5) scLawToken.nd rfl (.inl rfl) (pe_call GLawDigits (hr.mono (by omega)) (by rfl) DLawDigits.g DLawDigits.F.kp DLawDigits.b .nil pass0 (pa_cons (pv 0) (pa_cons (pe_op op_add pe_int (pe_call GLawNext (hr.mono (by omega)) (by rfl) DLawNext.g DLawNext.F.kp DLawNext.b .nil pass0 (pa_cons (pv 0) (pa_cons pe_int pa_nil)))) pa_nil))))
        (pss_one (ps_ret (pe_tup (pa_cons pe_str (pa_cons (pe_callTy call_int_str (by rfl) T.int HL.boot_int (pa_cons (pv 5) pa_nil)) (pa_cons (pv 5) pa_nil))))))) pss_nil)
        (pss_cons (ps_if (pt_cmpR op_lt (pv 1) pe_int (nomark _)) (pss_cons (ps_set (i := 6) scLawToken.nd rfl (.inl rfl) (pe_join pe_str (pe_lc (own := [("k", 9)]) (g := (gName 9)) (by rfl) scLawToken.nd (pi_range1 (by rfl) T.range (pa_cons (pe_call GLawNext (hr.mono (by omega)) (by rfl) DLawNext.g DLawNext.F.kp DLawNext.b .nil pass0 (pa_cons (pv 0) (pa_cons pe_int pa_nil))) pa_nil)) (blkOk_by (own := [("k", 9)]) (N := ["state", "pick", "word", "name", "maker", "digits", "text", "signs", "sign", "k"]) (sc := defScope sLawToken) (by decide +kernel)) (fun _ _ _ _ _ => (pg_name (i := 9) scLawToken.nd rfl (Or.inl rfl))) (fun _ _ _ _ _ => pts_nil) (fun _ _ _ _ _ => (pe_call GLawChar (hr.mono (by omega)) (by rfl) DLawChar.g DLawChar.F.kp DLawChar.b .nil pass0 (pa_cons (pe_call GLawNext (hr.mono (by omega)) (by rfl) DLawNext.g DLawNext.F.kp DLawNext.b .nil pass0 (pa_cons (pv 0) (pa_cons pe_int pa_nil))) pa_nil))))))
        (C8.pss_cut (ps_if (pt_cmpR op_eq (pe_call GLawNext (hr.mono (by omega)) (by rfl) DLawNext.g DLawNext.F.kp DLawNext.b .nil pass0 (pa_cons (pv 0) (pa_cons pe_int pa_nil))) pe_int (nomark _)) (pss_one (ps_set (i := 6) scLawToken.nd rfl (.inl rfl) (pe_op op_add_str (pv 6) (pe_op op_mul_strR pe_str pe_int)))) pss_nil)
        (pss_one (ps_ret (pe_tup (pa_cons pe_str (pa_cons (pv 6) (pa_cons (pe_call GLawQuoted (hr.mono (by omega)) (by rfl) DLawQuoted.g DLawQuoted.F.kp DLawQuoted.b .nil pass0 (pa_cons (pv 6) pa_nil)) pa_nil)))))))) pss_nil)
        (pss_cons (ps_set (i := 7) scLawToken.nd rfl (.inl rfl) (pe_lst (pa_cons pe_str (pa_cons pe_str (pa_cons pe_str (pa_cons pe_str (pa_cons pe_str (pa_cons pe_str (pa_cons pe_str (pa_cons pe_str (pa_cons pe_str (pa_cons pe_str (pa_cons pe_str (pa_cons pe_str (pa_cons pe_str (pa_cons pe_str (pa_cons pe_str (pa_cons pe_str (pa_cons pe_str (pa_cons pe_str pa_nil))))))))))))))))))))
        (pss_cons (ps_set (i := 8) scLawToken.nd rfl (.inl rfl) (pe_ix ix_list (pv 7) (pe_call GLawNext (hr.mono (by omega)) (by rfl) DLawNext.g DLawNext.F.kp DLawNext.b .nil pass0 (pa_cons (pv 0) (pa_cons pe_int pa_nil))) (fun _ _ => rfl)))
        (pss_one (ps_ret (pe_tup (pa_cons pe_str (pa_cons (pv 8) (pa_cons (pv 8) pa_nil)))))))))))))), ?_⟩
    have fin : ∀ (H' : Hp) (u : List Nat) (kd : Kind) (v : Val), StAt H' p q ns → Kept H H' p → Lex kws dv u kd v → u.length ≤ 700 → ∀ t, H' t = none → Q (.ref t) (upd H' t (.tup [.str (kindS kd), vV v, .str (S u)])) := fun H' u kd v S' K' lx hl t ht =>
      qq _ t u kd v (S'.same (same_upd ht)) (K'.trans ((same_upd ht).kept p)) upd_same lx hl
    have t3 : 3 ≤ sizeLine := by decide
    refine ⟨_, rfl, p, q, ns, 12, rfl, hS, by decide, by decide, fun H1 pk S1 B1 _ _ => ?_⟩
    refine ⟨_, rfl, _, _, rfl, rfl, _, rfl, ite2 (fun _ => ?_) (fun _ => ?_)⟩
    · -- a keyword
      refine ⟨rfl, fun d hd => ?_⟩
      have S2 : StAt (upd H1 d (.lst (kws.map fun x => V.str (S x)))) p q ns := S1.same (same_upd hd)
      obtain ⟨ndp, _⟩ := S1.ne hd
      refine ⟨_, rfl, p, q, ns, 24, rfl, S2, by decide, by decide, fun H3 v S3 B3 v0 v1 => ?_⟩
      have ev : v = (v.toNat : Int) := by omega
      have hvl : v.toNat < kws.length := by
        have : kws.length = 24 := by decide +kernel
        omega
      have hd3 : H3 d = some (.lst (kws.map fun x => V.str (S x))) := (B3 d ndp).trans upd_same
      refine ⟨d, _, v, .str (S kws[v.toNat]), rfl, rfl, SqL.of hd3, ?_, ?_⟩
      · have h0 := atI_nat (xs := kws.map fun x => V.str (S x)) (j := v.toNat) (v := .str (S kws[v.toNat])) (by simp [hvl])
        rwa [← ev] at h0
      · have hm := List.getElem_mem hvl
        refine ⟨_, rfl, _, rfl, t3, fun t ht => ?_⟩
        exact fin H3 _ .keyword (.s _) S3 (B1.kept.trans (((same_upd hd).kept p).trans B3.kept)) (lex_kw hm) (by have := (kws_us _ hm).2.2; omega) t ht
    · refine ⟨_, rfl, _, _, rfl, rfl, _, rfl, ite2 (fun _ => ?_) (fun _ => ?_)⟩
      · refine ⟨_, rfl, p, q, ns, rfl, S1, fun H2 u S2 K2 lx hl => ⟨_, rfl, _, rfl, t3, fun t ht => ?_⟩⟩
        exact fin H2 u .name (.s u) S2 (B1.kept.trans K2) lx hl t ht
      · refine ⟨_, rfl, _, _, rfl, rfl, _, rfl, ite2 (fun _ => ?_) (fun _ => ?_)⟩
        · refine ⟨_, rfl, p, q, ns, rfl, S1, fun H2 u S2 K2 lx hl => ⟨_, rfl, _, rfl, t3, fun t ht => ?_⟩⟩
          exact fin H2 u .maker (.s u) S2 (B1.kept.trans K2) lx hl t ht
        · refine ⟨_, rfl, _, _, rfl, rfl, _, rfl, ite2 (fun _ => ?_) (fun _ => ?_)⟩
          · -- a number
            refine ⟨_, rfl, _, rfl, p, q, ns, 18, rfl, S1, by decide, by decide, fun H2 v S2 B2 v0 v1 => ⟨1, v, rfl, rfl, p, q, ns, v.toNat + 1, ?_, S2, by omega, by omega, fun H3 u S3 K3 el hd => ?_⟩⟩
            · have : (1 : Int) + v = ((v.toNat + 1 : Nat) : Int) := by omega
              show [V.ref p, V.int (1 + v)] = _
              rw [this]
            · have hne : u ≠ [] := fun z => by rw [z] at el; simp at el
              have hall : u.all (fun c => decide (48 ≤ c) && decide (c ≤ 57)) = true := by
                rw [List.all_eq_true]
                exact hd
              refine ⟨_, rfl, S u, (dv u : Int), rfl, int_S hall hne (by omega), by rw [S_len]; omega, _, rfl, t3, fun t ht => ?_⟩
              exact fin H3 u .number (.n (dv u)) S3 ((B1.trans B2).kept.trans K3) (.num u hne hd (by omega)) (by omega) t ht
          · refine ⟨_, rfl, _, _, rfl, rfl, _, rfl, ite2 (fun _ => ?_) (fun _ => ?_)⟩
            · -- a text
              rw [nil_str]
              refine ⟨⟨_, rfl⟩, _, rfl, p, q, ns, 6, rfl, S1, by decide, by decide, fun H2 n S2 B2 n0 n1 => ⟨n, rfl, by omega, by omega, fun D0 hD => ?_⟩⟩
              obtain ⟨nDp, nDq⟩ := S2.ne hD
              refine lc_range (lo := 0) (n := n.toNat) (fun i H' => ∃ x : List Nat, H' D0 = some (.lst (x.map fun c => V.str (S [c]))) ∧ x.length = i ∧ StAt H' p q ns ∧ Kept H2 H' p)
                ⟨[], upd_same, rfl, S2.other nDp nDq, Kept.refl.other hD⟩ ?_ ?_
              · rintro i H' hi ⟨x, hx, el, S3, K3⟩
                refine ⟨rfl, lc_yes ⟨_, rfl, p, q, ns, 95, rfl, S3, by decide, by decide, fun H4 v S4 B4 v0 v1 => ⟨v, rfl, v0, v1, fun c _ _ => ?_⟩⟩⟩
                have hx2 : H4 D0 = some (.lst (x.map fun c => V.str (S [c]))) := (B4 D0 nDp).trans hx
                refine ⟨_, hx2, ?_, x ++ [c], ?_, by simp [el], S4.other nDp nDq, (K3.trans B4.kept).other hD⟩
                · rw [List.length_map, el]
                  exact Nat.lt_of_le_of_lt (show i ≤ 100 by omega) (by decide)
                · rw [upd_same]
                  simp
              · rintro H' ⟨x, hx, el, S3, K3⟩
                have esl : (x.map fun c => V.str (S [c])) = ((x.map fun c => [c]).map S).map V.str := by simp
                refine ⟨S [], D0, (x.map fun c => [c]).map S, rfl, rfl, .inl (by rw [← esl]; exact SqL.of hx), ?_, ?_⟩
                · rw [SX.lens, one_sum, S_len, List.length_nil, Nat.mul_zero]
                  omega
                rw [join_S, joinL_nil, ones_flat]
                refine ⟨fun σ' H5 => ∃ x2 : List Nat, σ' = [some (.ref p), some (.int pk), none, none, none, none, some (.str (S x2)), none, none, none] ∧ x2.length ≤ 320 ∧ StAt H5 p q ns ∧ Kept H H5 p, ?_, ?_⟩
                · refine ⟨_, rfl, p, q, ns, 20, rfl, S3, by decide, by decide, fun H5 v S5 B5 _ _ => ⟨rfl, _, rfl, ite2 (fun _ => ?_) (fun _ => ?_)⟩⟩
                  · have eq : ("q'" : Str) = S [113, 39] := by decide +kernel
                    rw [eq]
                    refine ⟨_, rfl, [113, 39], 150, rfl, rfl, by decide, by decide, by decide, by decide, S x, S (List.replicate 150 [113, 39]).flatten, rfl, rfl, ?_, ?_⟩
                    · rw [S_len, S_len]
                      exact small _ (by simp; omega)
                    · rw [S_app]
                      refine ⟨_, rfl, ?_, S5, (B1.trans B2).kept.trans (K3.trans B5.kept)⟩
                      rw [List.length_append, show (List.replicate 150 [113, 39]).flatten.length = 300 from by decide +kernel]
                      omega
                  · exact ⟨x, rfl, by omega, S5, (B1.trans B2).kept.trans (K3.trans B5.kept)⟩
                · rintro σ' H5 ⟨x2, rfl, hl2, S5, K5⟩
                  have := enc_le x2
                  refine ⟨_, rfl, _, rfl, x2, rfl, by omega, t3, fun t ht => ?_⟩
                  exact fin H5 (39 :: (enc x2 ++ [39])) .text (.s x2) S5 K5 (.quo x2) (by simp; omega) t ht
            · -- a sign
              refine ⟨(by show 18 ≤ sizeLine; decide), fun d hd => ?_⟩
              have hs0 : (upd H1 d (.lst [.str "(", .str ")", .str "[", .str "]", .str ",", .str ";", .str "|", .str "=", .str "<", .str "+", .str "-", .str "*", .str "/", .str ":", .str "++", .str "::", .str "->", .str ":="])) d = some (.lst (signs.map fun x => V.str (S x))) := by
                rw [upd_same, signs_list]
              have sm0 : Same H1 (upd H1 d (.lst [.str "(", .str ")", .str "[", .str "]", .str ",", .str ";", .str "|", .str "=", .str "<", .str "+", .str "-", .str "*", .str "/", .str ":", .str "++", .str "::", .str "->", .str ":="])) := same_upd hd
              obtain ⟨ndp, _⟩ := S1.ne hd
              refine ⟨_, rfl, _, rfl, p, q, ns, 18, rfl, S1.same sm0, by decide, by decide, fun H3 v S3 B3 v0 v1 => ?_⟩
              have ev : v = (v.toNat : Int) := by omega
              have hvl : v.toNat < signs.length := by
                have : signs.length = 18 := by decide
                omega
              have hd3 : H3 d = some (.lst (signs.map fun x => V.str (S x))) := (B3 d ndp).trans hs0
              refine ⟨d, _, v, .str (S signs[v.toNat]), rfl, rfl, SqL.of hd3, ?_, ?_⟩
              · have h0 := atI_nat (xs := signs.map fun x => V.str (S x)) (j := v.toNat) (v := .str (S signs[v.toNat])) (by simp [hvl])
                rwa [← ev] at h0
              · have hm := List.getElem_mem hvl
                have hl2 : ∀ x ∈ signs, x.length ≤ 2 := by decide
                refine ⟨_, rfl, _, rfl, t3, fun t ht => ?_⟩
                exact fin H3 _ .sign (.s _) S3 (B1.kept.trans ((sm0.kept p).trans B3.kept)) (.sign _ hm) (by have := hl2 _ hm; omega) t ht
end
end Q21
namespace Q21
open PySem PySem.Spec PyProof.Rows L2 SX HL
/-- what the modules say of the errors' classes -/
structure TxtE (K : PySem.W.Frag) (mg : Str → Option Value) (C aQ : Addr) : Prop where
  g_Q : mg "QuillrunError" = some (.ref aQ)
  exc : ExcC K C
  kQ : PySem.W.kitOne K (.ref C) (.ref aQ) = some true
  kV : PySem.W.kitOne K (.ref C) (.type "ValueError") = some true
  noVE : mg "ValueError" = none
theorem boot_VE : bootBuiltins "ValueError" = some (.type "ValueError") := by decide +kernel
section
variable {P : Program} {w : World} {K : PySem.W.Frag} {mg : Str → Option Value} {base : Heap} {C fI aK aL aS aQ : Addr}
/-! ### _law_read -/
def spRead (C : Addr) : Sp := fun vs H Q _ => ∃ t : List Nat, vs = [.str (S t)] ∧ t.length ≤ 1000000 ∧
  ((∃ L, Toks kws dv 0 t L ∧ ∀ p r H' ps, Same H H' → H' p = some (.lst (ps.map V.ref)) → Rows H' ps L → H' r = some (.tup [.str "tokens", .ref p]) → Q (.ref r) H') ∨
   (∃ q, Bad kws dv 0 t q ∧ ∀ r H', Same H H' → H' r = some (.tup [.str "refused", .int (q : Int), .bl true]) → Q (.ref r) H'))
theorem ok_read {f fZ fA fR fW fN fT fS : Addr} {fd fdZ fdA fdR fdW fdN fdT fdS : FuncData} {k : Nat} (D : DefN K mg "_law_read" sLawRead ["text"] f fd) (T : Txt P K mg C fI aK aL aS) (TE : TxtE K mg C aQ)
    (DTokenize : DefN K mg "tokenize" sTokenize ["chunk"] fZ fdZ) (DTokenAt : DefN K mg "token_at" sTokenAt ["chunk", "start"] fA fdA)
    (DEndOfRun : DefN K mg "end_of_run" sEndOfRun ["chunk", "start", "allowed"] fR fdR)
    (DWordAt : DefN K mg "word_at" sWordAt ["chunk", "start"] fW fdW) (DNumberAt : DefN K mg "number_at" sNumberAt ["chunk", "start"] fN fdN) (DTextAt : DefN K mg "text_at" sTextAt ["chunk", "start"] fT fdT) (DSignAt : DefN K mg "sign_at" sSignAt ["chunk", "start"] fS fdS) :
    FnOk P w K mg base CX0 (k + 5) f fd ["text"] (spRead C) := by
  have GTokenize : FnOk P w K mg base (L2.CX P w) (k + 4) fZ fdZ ["chunk"] (spTokenize C) := ok_tokenize DTokenize T DTokenAt DEndOfRun DWordAt DNumberAt DTextAt DSignAt
  refine D.F.ok scLawRead (fun vs H Q E h => ?_) (fun cdv A outer s H vs Q E hr h => ?_)
  · obtain ⟨t, rfl, _⟩ := h
    rfl
  · obtain ⟨t, rfl, hl, hh⟩ := h
    refine ⟨_, pss_one (ps_try_as (i := 1) (Wout := fun _ _ _ _ => False) rfl rfl scLawRead.nd rfl rfl ⟨rfl, by decide, Or.inl T.rc.gC⟩ takes0
      (fun W pn xe tk _ => pss_one (ps_ret (pe_tup (pa_cons pe_str (pa_cons (pe_callS GTokenize (hr.mono (by omega)) rfl DTokenize.g DTokenize.F.kp DTokenize.b (fun σ => passAt tk σ) (pa_cons (pv 0) pa_nil)) pa_nil)))))
      (fun a oe cls d pn hz hf => pss_one (ps_ret (pe_tup (pa_cons pe_str (pa_cons (pe_posRC T.rc hz hf (pv 1)) (pa_cons (pe_and (pe_callB (call_isF TE.exc hz hf) (by rfl) T.isinstance HL.boot_isinstance (pa_cons (pv 1) (pa_cons (pe_glob (v := .ref aQ) rfl TE.g_Q rfl) pa_nil)))
        (pe_one (pe_callB (call_isF TE.exc hz hf) (by rfl) T.isinstance HL.boot_isinstance (pa_cons (pv 1) (pa_cons (pe_bltn (v := .ty "ValueError") (by rfl) TE.noVE boot_VE rfl) pa_nil))))) pa_nil))))))), ?_⟩
    rcases hh with ⟨L, h1, h2⟩ | ⟨q, h1, h2⟩
    · refine ⟨_, rfl, t, rfl, hl, .inl ⟨L, h1, fun p H1 ps sm hp hrows => ⟨(by show 2 ≤ sizeLine; decide), fun r hr0 => ?_⟩⟩⟩
      have ne : p ≠ r := ne_of_none hp hr0
      refine h2 p r _ ps (fun b o hb => ?_) (by rw [upd_ne ne]; exact hp) (hrows.keep fun a xs ha => by rw [upd_ne (ne_of_none ha hr0)]; exact ha) upd_same
      rw [upd_ne (ne_of_none (sm b o hb) hr0)]
      exact sm b o hb
    · refine ⟨_, rfl, t, rfl, hl, .inr ⟨q, h1, fun d H1 sm hd hx => ⟨true, T.rc.te, fun _ a ha => ?_, fun z => nomatch z⟩⟩⟩
      refine ⟨_, rfl, rfl, rfl, d, .int (q : Int), rfl, hx, _, rfl, .ref aQ, .ref aQ, true, d, _, rfl, rfl, rfl, hx, fun u hu => hu, TE.kQ, ?_⟩
      refine ⟨true, rfl, iteT ⟨_, rfl, .ty "ValueError", .type "ValueError", true, d, _, rfl, rfl, rfl, hx, fun u hu => hu, TE.kV, ?_⟩⟩
      refine ⟨(by show 3 ≤ sizeLine; decide), fun r hr0 => ?_⟩
      refine h2 r _ (fun b o hb => ?_) upd_same
      rw [upd_ne (ne_of_none (sm b o hb) hr0)]
      exact sm b o hb
end
end Q21
namespace Q21
open PySem PySem.Spec PyProof.Rows L2 SX HL
/-- tokens told again -/
theorem same_rows {K : PySem.W.Frag} {H : Hp} {ps qs : List Addr} {L : List (Kind × Val × Nat)} (h1 : Rows H ps L) (h2 : Rows H qs L) {n : Nat} (i : Nat) (u v : V) (hu : (ps.map V.ref)[i]? = some u) (hv : (qs.map V.ref)[i]? = some v) : SameD K H (n + 1) u v := by
  rw [List.getElem?_map] at hu hv
  have hi : i < L.length := by
    cases e : ps[i]? with
    | none => rw [e] at hu; cases hu
    | some a =>
      have := (List.getElem?_eq_some_iff.mp e).1
      rw [h1.1] at this
      exact this
  obtain ⟨kd, vl, o, e⟩ : ∃ kd vl o, L[i]? = some (kd, vl, o) := ⟨_, _, _, List.getElem?_eq_getElem hi⟩
  obtain ⟨a, ea, ha⟩ := h1.2 i kd vl o e
  obtain ⟨b, eb, hb⟩ := h2.2 i kd vl o e
  rw [ea] at hu
  rw [eb] at hv
  cases hu
  cases hv
  refine SameD.row ha hb (by simp) fun x hx => ?_
  rcases List.mem_cons.mp hx with rfl | hx
  · trivial
  rcases List.mem_cons.mp hx with rfl | hx
  · cases vl <;> trivial
  · rw [List.mem_singleton.mp hx]
    trivial
theorem odd_all : ∀ c ∈ ([33, 34, 35, 36, 38, 46, 62, 63, 64, 92, 94, 95, 96, 123, 125, 126] : List Nat), isLet c = false ∧ isDig c = false ∧ c ≠ 39 ∧ isBlank c = false ∧ c ∉ shorts ∧ ∀ x ∈ longs, x.head? ≠ some c := by decide +kernel
theorem odd_bad {c : Nat} (h : c ∈ ([33, 34, 35, 36, 38, 46, 62, 63, 64, 92, 94, 95, 96, 123, 125, 126] : List Nat)) (r : List Nat) : BadAt (c :: r) := by
  obtain ⟨h1, h2, h3, h4, h5, h6⟩ := odd_all c h
  exact .odd c r h1 h2 h3 h4 h5 fun d z => h6 _ z rfl
section
variable {P : Program} {w : World} {K : PySem.W.Frag} {mg : Str → Option Value} {base : Heap} {C fI aK aL aS aQ : Addr}
/-! ### law -/
def spLaw (K : PySem.W.Frag) : Sp := fun vs H Q _ => ∃ (a : Addr) (ns : List Int), vs = [.ref a] ∧ SqL K H a (ns.map V.int) ∧ ns.length ≤ 63 ∧ ∀ H', Q (.bl true) H'
theorem ok_law {f fX fY fZ fA fR fW fN fT fS fNx fK fWd fNm fM fC fD fQ fTk fJ fG : Addr} {fd fdX fdY fdZ fdA fdR fdW fdN fdT fdS fdNx fdK fdWd fdNm fdM fdC fdD fdQ fdTk fdJ fdG : FuncData} {k : Nat}
    (D : DefN K mg "law" sLaw ["script"] f fd) (T : Txt P K mg C fI aK aL aS) (TE : TxtE K mg C aQ)
    (DLawRead : DefN K mg "_law_read" sLawRead ["text"] fX fdX) (DLawSame : DefN K mg "_law_same" sLawSame ["actual", "expected"] fY fdY)
    (DTokenize : DefN K mg "tokenize" sTokenize ["chunk"] fZ fdZ) (DTokenAt : DefN K mg "token_at" sTokenAt ["chunk", "start"] fA fdA)
    (DEndOfRun : DefN K mg "end_of_run" sEndOfRun ["chunk", "start", "allowed"] fR fdR)
    (DWordAt : DefN K mg "word_at" sWordAt ["chunk", "start"] fW fdW) (DNumberAt : DefN K mg "number_at" sNumberAt ["chunk", "start"] fN fdN) (DTextAt : DefN K mg "text_at" sTextAt ["chunk", "start"] fT fdT) (DSignAt : DefN K mg "sign_at" sSignAt ["chunk", "start"] fS fdS)
    (DLawNext : DefN K mg "_law_next" sLawNext ["state", "limit"] fNx fdNx) (DLawKeywords : DefN K mg "_law_keywords" sLawKeywords [] fK fdK) (DLawWord : DefN K mg "_law_word" sLawWord ["state", "first"] fWd fdWd) (DLawName : DefN K mg "_law_name" sLawName ["state"] fNm fdNm)
    (DLawMaker : DefN K mg "_law_maker" sLawMaker ["state"] fM fdM) (DLawChar : DefN K mg "_law_char" sLawChar ["index"] fC fdC) (DLawDigits : DefN K mg "_law_digits" sLawDigits ["state", "count"] fD fdD) (DLawQuoted : DefN K mg "_law_quoted" sLawQuoted ["text"] fQ fdQ)
    (DLawToken : DefN K mg "_law_token" sLawToken ["state"] fTk fdTk) (DLawJoins : DefN K mg "_law_joins" sLawJoins ["written", "other"] fJ fdJ) (DLawGap : DefN K mg "_law_gap" sLawGap ["state", "needed"] fG fdG) :
    FnOk P w K mg base CX0 (k + 6) f fd ["script"] (spLaw K) := by
  have GLawNext : FnOk P w K mg base CX0 (k + 1) fNx fdNx ["state", "limit"] spNext := ok_next DLawNext T
  have GLawKeywords : FnOk P w K mg base CX0 (k + 1) fK fdK [] spKw := ok_kw DLawKeywords T
  have GLawGap : FnOk P w K mg base CX0 (k + 2) fG fdG ["state", "needed"] spGap := ok_gap DLawGap T DLawNext
  have GLawJoins : FnOk P w K mg base CX0 (k + 1) fJ fdJ ["written", "other"] spJoins := ok_joins DLawJoins T
  have GLawDigits : FnOk P w K mg base CX0 (k + 2) fD fdD ["state", "count"] spDigits := ok_digits DLawDigits T DLawNext
  have GLawToken : FnOk P w K mg base CX0 (k + 4) fTk fdTk ["state"] spToken := ok_ltoken DLawToken T DLawNext DLawKeywords DLawWord DLawName DLawMaker DLawChar DLawDigits DLawQuoted
  have GLawSame : FnOk P w K mg base CX0 4 fY fdY ["actual", "expected"] (spSame K 3) := ok_same DLawSame T 3
  have GLawRead : FnOk P w K mg base CX0 (k + 5) fX fdX ["text"] (spRead C) := ok_read DLawRead T TE DTokenize DTokenAt DEndOfRun DWordAt DNumberAt DTextAt DSignAt
  refine D.F.ok scLaw (fun vs H Q E h => ?_) (fun cdv A outer s H vs Q E hr h => ?_)
  · obtain ⟨a, ns, rfl, _⟩ := h
    rfl
  · obtain ⟨a, ns, rfl, hS, hlen, qq⟩ := h
    refine ⟨_, (pss_cons (ps_set (i := 1) scLaw.nd rfl (.inl rfl) (pe_lst (pa_cons (pe_callTy call_list_of (by rfl) T.list HL.boot_list (pa_cons (pv 0) pa_nil)) (pa_cons pe_int (pa_cons pe_int (pa_cons pe_int pa_nil))))))
        (pss_cons (ps_set (i := 2) scLaw.nd rfl (.inl rfl) (pe_call GLawNext (hr.mono (by omega)) (by rfl) DLawNext.g DLawNext.F.kp DLawNext.b .nil pass0 (pa_cons (pv 1) (pa_cons pe_int pa_nil))))
        (C8.pss_cut (ps_if (pt_cmpR op_eq (pe_call GLawNext (hr.mono (by omega)) (by rfl) DLawNext.g DLawNext.F.kp DLawNext.b .nil pass0 (pa_cons (pv 1) (pa_cons pe_int pa_nil))) pe_int (nomark _)) (pss_one (ps_set (i := 2) scLaw.nd rfl (.inl rfl) (pe_call GLawNext (hr.mono (by omega)) (by rfl) DLawNext.g DLawNext.F.kp DLawNext.b .nil pass0 (pa_cons (pv 1) (pa_cons pe_int pa_nil))))) pss_nil)
        (pss_cons (ps_set (i := 3) scLaw.nd rfl (.inl rfl) (pe_call GLawGap (hr.mono (by omega)) (by rfl) DLawGap.g DLawGap.F.kp DLawGap.b .nil pass0 (pa_cons (pv 1) (pa_cons pe_bl pa_nil))))
        (pss_cons (ps_set (i := 4) scLaw.nd rfl (.inl rfl) (pe_lst pa_nil))
        (pss_cons (ps_set (i := 5) scLaw.nd rfl (.inl rfl) pe_str)
        (pss_cons (ps_for PassesOwn.never rfl (pi_range1 (by rfl) T.range (pa_cons (pv 2) pa_nil)) (pg_name (i := 6) scLaw.nd rfl (.inl rfl)) (pss_cons (ps_asg (pe_call GLawToken (hr.mono (by omega)) (by rfl) DLawToken.g DLawToken.F.kp DLawToken.b .nil pass0 (pa_cons (pv 1) pa_nil)) (pg_tup rfl (pgs_cons (pg_name (i := 7) scLaw.nd rfl (.inl rfl)) (pgs_cons (pg_name (i := 8) scLaw.nd rfl (.inl rfl)) (pgs_cons (pg_name (i := 9) scLaw.nd rfl (.inl rfl)) pgs_nil)))))
        (pss_cons (ps_set (i := 3) scLaw.nd rfl (.inl rfl) (pe_op op_add_str (pv 3) (pe_call GLawGap (hr.mono (by omega)) (by rfl) DLawGap.g DLawGap.F.kp DLawGap.b .nil pass0 (pa_cons (pv 1) (pa_cons (pe_call GLawJoins (hr.mono (by omega)) (by rfl) DLawJoins.g DLawJoins.F.kp DLawJoins.b .nil pass0 (pa_cons (pv 5) (pa_cons (pv 9) pa_nil))) pa_nil)))))
        (pss_cons (ps_expr (pe_bm PySem.F.plainAttrs_list PySem.F.slot_list_append PySem.F.type_list_append mt_append (pv 4) (pa_cons (pe_tup (pa_cons (pv 7) (pa_cons (pv 8) (pa_cons (pe_callB call_len_str (by rfl) T.len PySem.boot_len (pa_cons (pv 3) pa_nil)) pa_nil)))) pa_nil)))
        (pss_cons (ps_set (i := 3) scLaw.nd rfl (.inl rfl) (pe_op op_add_str (pv 3) (pv 9)))
        (pss_one (ps_set (i := 5) scLaw.nd rfl (.inl rfl) (pv 9))))))))
        (pss_cons (ps_if (pt_not (pt_val (pe_call GLawSame (hr.mono (by omega)) (by rfl) DLawSame.g DLawSame.F.kp DLawSame.b .nil pass0 (pa_cons (pe_glob (v := .ref aK) rfl T.g_KEYWORDS rfl) (pa_cons (pe_callTy call_tuple_of (by rfl) T.tuple HL.boot_tuple (pa_cons (pe_call0 GLawKeywords (hr.mono (by omega)) (by rfl) DLawKeywords.g DLawKeywords.F.kp DLawKeywords.b .nil pass0) pa_nil)) pa_nil))))) (pss_one (ps_ret pe_bl)) pss_nil)
        (pss_cons (ps_set (i := 3) scLaw.nd rfl (.inl rfl) (pe_op op_add_str (pv 3) (pe_call GLawGap (hr.mono (by omega)) (by rfl) DLawGap.g DLawGap.F.kp DLawGap.b .nil pass0 (pa_cons (pv 1) (pa_cons pe_bl pa_nil)))))
        (pss_cons (ps_set (i := 10) scLaw.nd rfl (.inl rfl) (pe_call GLawNext (hr.mono (by omega)) (by rfl) DLawNext.g DLawNext.F.kp DLawNext.b .nil pass0 (pa_cons (pv 1) (pa_cons pe_int pa_nil))))
        (pss_cons (ps_if (pt_cmpR op_lt (pv 10) pe_int (nomark _)) (pss_one (ps_ret (pe_call GLawSame (hr.mono (by omega)) (by rfl) DLawSame.g DLawSame.F.kp DLawSame.b .nil pass0 (pa_cons (pe_call GLawRead (hr.mono (by omega)) (by rfl) DLawRead.g DLawRead.F.kp DLawRead.b .nil pass0 (pa_cons (pv 3) pa_nil)) (pa_cons (pe_tup (pa_cons pe_str (pa_cons (pv 4) pa_nil))) pa_nil))))) pss_nil)
        (pss_cons (ps_set (i := 3) scLaw.nd rfl (.inl rfl) (pe_op op_add_str (pv 3) pe_str))
        (pss_cons (ps_set (i := 11) scLaw.nd rfl (.inl rfl) (pe_callB call_len_str (by rfl) T.len PySem.boot_len (pa_cons (pv 3) pa_nil)))
        (C8.pss_cut (ps_if (pt_cmpR op_eq (pv 10) pe_int (nomark _)) (pss_one (ps_set (i := 3) scLaw.nd rfl (.inl rfl) (pe_op op_add_str (pe_op op_add_str (pv 3) pe_str) (pe_ix ix_str pe_str (pe_call GLawNext (hr.mono (by omega)) (by rfl) DLawNext.g DLawNext.F.kp DLawNext.b .nil pass0 (pa_cons (pv 1) (pa_cons pe_int pa_nil))) (fun _ _ => rfl))))) (pss_one (ps_if (pt_cmpR op_eq (pv 10) pe_int (nomark _)) (pss_one (ps_set (i := 3) scLaw.nd rfl (.inl rfl) (pe_op op_add_str (pe_op op_add_str (pe_op op_add_str (pv 3) (pe_call GLawDigits (hr.mono (by omega)) (by rfl) DLawDigits.g DLawDigits.F.kp DLawDigits.b .nil pass0 (pa_cons (pv 1) (pa_cons (pe_op op_add pe_int (pe_call GLawNext (hr.mono (by omega)) (by rfl) DLawNext.g DLawNext.F.kp DLawNext.b .nil pass0 (pa_cons (pv 1) (pa_cons pe_int pa_nil)))) pa_nil)))) pe_str) (pv 3)))) (pss_cons (ps_set (i := 12) scLaw.nd rfl (.inl rfl) pe_str)
        (pss_one (ps_set (i := 3) scLaw.nd rfl (.inl rfl) (pe_op op_add_str (pe_op op_add_str (pv 3) (pe_ix ix_str (pv 12) (pe_call GLawNext (hr.mono (by omega)) (by rfl) DLawNext.g DLawNext.F.kp DLawNext.b .nil pass0 (pa_cons (pv 1) (pa_cons (pe_callB call_len_str (by rfl) T.len PySem.boot_len (pa_cons (pv 12) pa_nil)) pa_nil))) (fun _ _ => rfl))) (pv 3))))))))
        (pss_one (ps_ret (pe_call GLawSame (hr.mono (by omega)) (by rfl) DLawSame.g DLawSame.F.kp DLawSame.b .nil pass0 (pa_cons (pe_call GLawRead (hr.mono (by omega)) (by rfl) DLawRead.g DLawRead.F.kp DLawRead.b .nil pass0 (pa_cons (pv 3) pa_nil)) (pa_cons (pe_tup (pa_cons pe_str (pa_cons (pv 11) (pa_cons pe_bl pa_nil)))) pa_nil))))))))))))))))))), ?_⟩
    have es : (" " : Str) = S [32] := by decide +kernel
    have eq1 : ("'a''b" : Str) = S [39, 97, 39, 39, 98] := by decide +kernel
    have ec1 : (" c" : Str) = S [32, 99] := by decide +kernel
    have eo1 : ("!\"#$&.>?@\\^_`{}~" : Str) = S [33, 34, 35, 36, 38, 46, 62, 63, 64, 92, 94, 95, 96, 123, 125, 126] := by decide +kernel
    rw [es, eq1, ec1, eo1]
    refine ⟨_, rfl, a, _, rfl, .inl hS, fun q hq => ⟨(by show 4 ≤ sizeLine; decide), fun p hp => ?_⟩⟩
    have nqp : q ≠ p := fun e => by
      rw [← e, upd_same] at hp
      cases hp
    have S0 : StAt (upd (upd H q (.lst (ns.map V.int))) p (.lst [.ref q, .int 0, .int 0, .int 1])) p q ns := ⟨by rw [upd_ne nqp]; exact upd_same, hlen, 0, 0, 1, upd_same, by decide, by decide, by decide, by decide⟩
    refine ⟨_, rfl, p, q, ns, 25, rfl, S0, by decide, by decide, fun H2 c S2 B2 c0 c1 => ?_⟩
    refine ⟨fun σ' H' => ∃ c : Int, 0 ≤ c ∧ c < 151 ∧ σ' = [some (.ref a), some (.ref p), some (.int c), none, none, none, none, none, none, none, none, none, none] ∧ StAt H' p q ns, ?_, ?_⟩
    · refine ⟨_, rfl, p, q, ns, 5, rfl, S2, by decide, by decide, fun H3 v S3 B3 _ _ => ⟨rfl, _, rfl, ite2 (fun _ => ?_) (fun _ => ?_)⟩⟩
      · exact ⟨_, rfl, p, q, ns, 151, rfl, S3, by decide, by decide, fun H4 v2 S4 B4 a0 a1 => ⟨v2, a0, a1, rfl, S4⟩⟩
      · exact ⟨c, c0, by omega, rfl, S3⟩
    rintro σ1 H1 ⟨c, c0, c1, rfl, S1⟩
    refine ⟨_, rfl, p, q, ns, false, rfl, S1, fun H5 g S5 K5 hg _ hgl => ?_⟩
    refine ⟨Nat.zero_le _, fun D0 hD => ?_⟩
    obtain ⟨nDp, nDq⟩ := S5.ne hD
    refine ⟨_, rfl, c, rfl, by omega, by omega, ?_⟩
    refine for_range (lo := 0) (n := c.toNat) (fun i σ H' => ∃ (Tx prev : List Nat) (ps : List Addr) (L : List (Kind × Val × Nat)) (y6 y7 y8 y9 : Option V),
        σ = [some (.ref a), some (.ref p), some (.int c), some (.str (S Tx)), some (.ref D0), some (.str (S prev)), y6, y7, y8, y9, none, none, none] ∧ StAt H' p q ns ∧ H' D0 = some (.lst (ps.map V.ref)) ∧ Rows H' ps L ∧ L.length = i ∧ Tx.length ≤ 3 + 703 * i ∧ prev ≠ [] ∧ prev.length ≤ 700 ∧ SoFar kws dv Tx L prev)
      ⟨g, [32], [], [], none, none, none, none, rfl, S5.other nDp nDq, upd_same, ⟨rfl, fun _ _ _ _ e => by simp at e⟩, rfl, by omega, by simp, by decide, sofar_start g hg⟩ ?_ ?_
    · rintro i σ H' hi ⟨Tx, prev, ps, L, y6, y7, y8, y9, rfl, S2, hD2, hrows, hL, hTx, hpn, hpl, sf⟩
      have hi2 : i < 151 := by omega
      refine ⟨_, rfl, p, q, ns, rfl, S2, fun H3 t u kd v S3 K3 ht lx hul => ?_⟩
      refine ⟨t, _, rfl, SqT.of ht, rfl, _, _, rfl, _, _, rfl, _, _, rfl, rfl, ?_⟩
      obtain ⟨cp, rp, rfl⟩ := List.exists_cons_of_ne_nil hpn
      obtain ⟨cu, ru, rfl⟩ := List.exists_cons_of_ne_nil (lex_ne lx)
      refine ⟨_, rfl, _, rfl, _, rfl, _, rfl, cp, cu, rp, ru, rfl, by omega, by omega, fun H4 s4 => ⟨p, q, ns, joins (cp :: rp) (cu :: ru), rfl, S3.same s4, fun H5 g2 S5 K5 hg2 hj hg2l => ⟨S Tx, S g2, rfl, rfl, ?_, ?_⟩⟩⟩
      · rw [S_len, S_len]
        exact small _ (by omega)
      rw [S_app]
      have hpD : ∀ {b : Addr} {o : HO}, b ≠ p → H' b = some o → H5 b = some o := fun nb hb => K5 _ _ nb (s4 _ _ (K3 _ _ nb hb))
      have hD5 : H5 D0 = some (.lst (ps.map V.ref)) := hpD nDp hD2
      have htl : (Tx ++ g2).length = Tx.length + g2.length := by simp
      refine ⟨.ref D0, rfl, .inl ⟨rfl, _, SqL.of hD5⟩, _, rfl, _, rfl, _, rfl, S (Tx ++ g2), rfl, by rw [S_len]; exact small _ (by omega), (by show 3 ≤ sizeLine; decide), fun p2 hn2 => ?_⟩
      rw [S_len]
      have ne2 : D0 ≠ p2 := ne_of_none hD5 hn2
      refine ⟨D0, _, _, rfl, rfl, by rw [upd_ne ne2]; exact hD5, ?_, ?_⟩
      · rw [List.length_map, hrows.1, hL]
        exact Nat.lt_of_lt_of_le hi2 (by decide)
      refine ⟨_, rfl, _, rfl, S (Tx ++ g2), S (cu :: ru), rfl, rfl, ?_, ?_⟩
      · rw [S_len, S_len]
        exact small _ (by omega)
      rw [S_app]
      obtain ⟨n2p, n2q⟩ := S5.ne hn2
      refine ⟨_, rfl, Tx ++ g2 ++ (cu :: ru), cu :: ru, ps ++ [p2], L ++ [(kd, v, (Tx ++ g2).length)], _, _, _, _, rfl, (S5.other n2p n2q).other nDp nDq, (by rw [upd_same]; simp), ?_, (by simp [hL]), (by rw [List.length_append, htl]; omega), by simp, hul, sofar_step sf hg2 lx hj⟩
      refine Rows.snoc (hrows.keep fun b xs hb => ?_) ?_
      · obtain ⟨_, _, _, _, _, hp2, _⟩ := S2
        have nb : b ≠ p := ne_of hb hp2 (by intro z; cases z)
        have hb2 := hpD nb hb
        rw [upd_ne (ne_of hb2 hD5 (by intro z; cases z)), upd_ne (ne_of_none hb2 hn2)]
        exact hb2
      · rw [upd_ne ne2.symm, upd_same]
    rintro σ H' ⟨Tx, prev, ps, L, y6, y7, y8, y9, rfl, S2, hD2, hrows, hL, hTx, hpn, hpl, sf⟩
    have hTl : Tx.length ≤ 120000 := by omega
    -- the keywords
    refine ⟨rfl, fun d hd => ⟨d, _, rfl, .inl ⟨SqL.of upd_same, fun e he => ⟨.ref aK, .ref e, rfl, ?_, ?_⟩⟩⟩⟩
    · refine SameD.seq (t := "tuple") (.inl ⟨rfl, T.sK _, T.tK _⟩) (.tup upd_same) rfl (by decide +kernel) fun i u v hu hv => ?_
      rw [hu] at hv
      cases hv
      obtain ⟨x, _, rfl⟩ := List.mem_map.mp (List.mem_of_getElem? hu)
      exact .leaf trivial
    have s3 : Same H' (upd (upd H' d (.lst (kws.map fun x => V.str (S x)))) e (.tup (kws.map fun x => V.str (S x)))) := fun b o hb => by
      rw [upd_ne (ne_of_none (same_upd hd _ _ hb) he)]
      exact same_upd hd _ _ hb
    refine ⟨true, rfl, iteF ?_⟩
    have hD3 := s3 _ _ hD2
    have hrows3 : Rows _ ps L := hrows.keep fun b xs hb => s3 _ _ hb
    refine ⟨_, rfl, _, rfl, p, q, ns, false, rfl, S2.same s3, fun H6 g2 S6 K6 hg2 _ hg2l => ⟨S Tx, S g2, rfl, rfl, ?_, ?_⟩⟩
    · rw [S_len, S_len]
      exact small _ (by omega)
    rw [S_app]
    refine ⟨_, rfl, p, q, ns, 9, rfl, S6, by decide, by decide, fun H7 pk S7 B7 k0 k1 => ?_⟩
    have htl : (Tx ++ g2).length = Tx.length + g2.length := by simp
    have hD7 : H7 D0 = some (.lst (ps.map V.ref)) := B7.kept _ _ nDp (K6 _ _ nDp hD3)
    refine ⟨_, rfl, _, _, rfl, rfl, _, rfl, ite2 (fun _ => ?_) (fun _ => ?_)⟩
    · -- read back
      refine ⟨_, rfl, Tx ++ g2, rfl, by omega, .inl ⟨L, sofar_end sf hg2, fun p1 r H8 qs sm hp1 hrows8 hr => ⟨_, rfl, (by show 2 ≤ sizeLine; decide), fun r2 hr2 => ⟨.ref r, .ref r2, rfl, ?_, qq _⟩⟩⟩⟩
      have hD8 := same_upd (o := .tup [.str "tokens", .ref D0]) hr2 _ _ (sm _ _ hD7)
      have hp8 := same_upd (o := .tup [.str "tokens", .ref D0]) hr2 _ _ hp1
      have hr8 := same_upd (o := .tup [.str "tokens", .ref D0]) hr2 _ _ hr
      have hrA := hrows8.keep fun b xs hb => same_upd (o := .tup [.str "tokens", .ref D0]) hr2 _ _ hb
      have hrB : Rows _ ps L := hrows3.keep fun b xs hb => by
        obtain ⟨_, _, _, _, _, hp2, _⟩ := S2.same s3
        have nb : b ≠ p := ne_of hb hp2 (by intro z; cases z)
        exact same_upd (o := .tup [.str "tokens", .ref D0]) hr2 _ _ (sm _ _ (B7.kept _ _ nb (K6 _ _ nb hb)))
      refine .seq (.tup hr8) (.tup upd_same) rfl (by simp) fun i u v hu hv => ?_
      match i, hu, hv with
      | 0, hu, hv =>
        cases hu
        cases hv
        exact .leaf trivial
      | 1, hu, hv =>
        cases hu
        cases hv
        refine .seq (.lst hp8) (.lst hD8) ?_ ?_ fun i u v hu hv => same_rows hrA hrB i u v hu hv
        · rw [List.length_map, List.length_map, hrA.1, hrB.1]
        · rw [List.length_map, hrB.1]
          omega
      | n + 2, hu, hv => simp at hu
    -- refused
    refine ⟨_, rfl, S (Tx ++ g2), S [32], rfl, rfl, ?_, ?_⟩
    · rw [S_len, S_len]
      exact small _ (by simp; omega)
    rw [S_app]
    refine ⟨_, rfl, S (Tx ++ g2 ++ [32]), rfl, by rw [S_len]; exact small _ (by simp; omega), ?_⟩
    rw [S_len]
    have htl2 : (Tx ++ g2 ++ [32]).length = Tx.length + g2.length + 1 := by simp; omega
    refine ⟨fun σ' H8 => ∃ (u : List Nat) (y12 : Option V), σ' = [some (.ref a), some (.ref p), some (.int c), some (.str (S (Tx ++ g2 ++ [32] ++ u))), some (.ref D0), some (.str (S prev)), y6, y7, y8, y9, some (.int pk), some (.int ((Tx ++ g2 ++ [32]).length : Int)), y12] ∧ BadAt u ∧ u.length ≤ 200000, ?_, ?_⟩
    · refine ⟨_, rfl, rfl, _, rfl, ite2 (fun _ => ?_) (fun _ => ?_)⟩
      · -- a text without its end
        refine ⟨_, rfl, S (Tx ++ g2 ++ [32]), S [39, 97, 39, 39, 98], rfl, rfl, ?_, _, rfl, p, q, ns, 2, rfl, S7, by decide, by decide, fun H8 v S8 B8 v0 v1 => ?_⟩
        · rw [S_len, S_len]
          exact small _ (by simp; omega)
        have eu : v = (v.toNat : Int) := by omega
        have hul : v.toNat < [32, 99].length := by simp; omega
        have hb : ∀ j, j < 2 → BadAt ([39, 97, 39, 39, 98] ++ [([32, 99] : List Nat).getD j 0]) := fun j hj => by
          match j, hj with
          | 0, _ => exact .quo [97, 39, 98, 32]
          | 1, _ => exact .quo [97, 39, 98, 99]
        refine ⟨S [32, 99], v, ([32, 99] : List Nat).getD v.toNat 0, rfl, rfl, by decide +kernel, by rw [eu]; exact sign_at hul, S _, S [_], by rw [S_app], rfl, ?_, ?_⟩
        · rw [S_len, S_len]
          exact small _ (by simp; omega)
        · rw [S_app]
          exact ⟨[39, 97, 39, 39, 98] ++ [([32, 99] : List Nat).getD v.toNat 0], none, by rw [← List.append_assoc]; rfl, hb _ (by omega), by simp⟩
      · refine ⟨_, rfl, rfl, _, rfl, ite2 (fun _ => ?_) (fun _ => ?_)⟩
        · -- too many digits
          refine ⟨_, rfl, _, rfl, _, rfl, p, q, ns, 30, rfl, S7, by decide, by decide, fun H8 v S8 B8 v0 v1 => ⟨19, v, rfl, rfl, p, q, ns, v.toNat + 19, ?_, S8, by omega, by omega, fun H9 u S9 K9 el hd => ?_⟩⟩
          · have : (19 : Int) + v = ((v.toNat + 19 : Nat) : Int) := by omega
            show [V.ref p, V.int (19 + v)] = _
            rw [this]
          refine ⟨S (Tx ++ g2 ++ [32]), S u, rfl, rfl, ?_, S _, S [32], by rw [S_app], rfl, ?_, _, rfl, S _, S (Tx ++ g2 ++ [32]), by rw [S_app], rfl, ?_, ?_⟩
          · rw [S_len, S_len]
            exact small _ (by omega)
          · rw [S_len, S_len]
            exact small _ (by simp; omega)
          · rw [S_len, S_len]
            exact small _ (by simp; omega)
          · rw [S_app]
            refine ⟨u ++ ([32] ++ (Tx ++ g2 ++ [32])), none, by simp, .num u _ hd (by omega), by simp; omega⟩
        · -- a strange sign
          refine ⟨_, rfl, _, rfl, _, rfl, _, rfl, S [33, 34, 35, 36, 38, 46, 62, 63, 64, 92, 94, 95, 96, 123, 125, 126], rfl, by decide +kernel, p, q, ns, 16, rfl, S7, by decide, by decide, fun H8 v S8 B8 v0 v1 => ?_⟩
          have eu : v = (v.toNat : Int) := by omega
          have hul : v.toNat < [33, 34, 35, 36, 38, 46, 62, 63, 64, 92, 94, 95, 96, 123, 125, 126].length := by simp; omega
          have hm : ([33, 34, 35, 36, 38, 46, 62, 63, 64, 92, 94, 95, 96, 123, 125, 126] : List Nat).getD v.toNat 0 ∈ ([33, 34, 35, 36, 38, 46, 62, 63, 64, 92, 94, 95, 96, 123, 125, 126] : List Nat) := by
            rw [List.getD_eq_getElem?_getD, List.getElem?_eq_getElem hul]
            exact List.getElem_mem _
          refine ⟨S [33, 34, 35, 36, 38, 46, 62, 63, 64, 92, 94, 95, 96, 123, 125, 126], v, ([33, 34, 35, 36, 38, 46, 62, 63, 64, 92, 94, 95, 96, 123, 125, 126] : List Nat).getD v.toNat 0, rfl, rfl, by decide +kernel, by rw [eu]; exact sign_at hul, S _, S [_], rfl, rfl, ?_, _, rfl, S _, S (Tx ++ g2 ++ [32]), by rw [S_app], rfl, ?_, ?_⟩
          · rw [S_len, S_len]
            exact small _ (by simp; omega)
          · rw [S_len, S_len]
            exact small _ (by simp; omega)
          · rw [S_app]
            exact ⟨[_] ++ (Tx ++ g2 ++ [32]), some (.str (S [33, 34, 35, 36, 38, 46, 62, 63, 64, 92, 94, 95, 96, 123, 125, 126])), by simp, odd_bad hm _, by simp; omega⟩
    · rintro σ8 H8 ⟨u, y12, rfl, hb, hul⟩
      refine ⟨_, rfl, Tx ++ g2 ++ [32] ++ u, rfl, by rw [List.length_append]; omega, .inr ⟨_, sofar_bad sf hg2 hb, fun r H9 sm hr => ⟨_, rfl, (by show 3 ≤ sizeLine; decide), fun r2 hr2 => ⟨.ref r, .ref r2, rfl, ?_, qq _⟩⟩⟩⟩
      refine SameD.row (same_upd hr2 _ _ hr) upd_same (by simp) fun x hx => ?_
      rcases List.mem_cons.mp hx with rfl | hx
      · trivial
      rcases List.mem_cons.mp hx with rfl | hx
      · trivial
      · rw [List.mem_singleton.mp hx]
        trivial
end
end Q21
namespace Q21
open PySem PySem.Spec PyProof.Rows L2 SX HL
/-- an error of the class at S is what «except S» names -/
theorem exm_own {K : PySem.W.Frag} {S : Addr} (h1 : PySem.W.subIn K (.ref S) (.type "BaseException") = some true) (h2 : PySem.W.isClsIn K S = true) (h3 : PySem.W.typeIn K (.ref S) = some (.type "type")) (h4 : PySem.W.subIn K (.ref S) (.ref S) = some true) :
    PySem.W.exmOne K (.ref S) (.ref S) = some true := by
  have e1 : (PySem.W.subIn K (.ref S) (.type "BaseException") == some true) = true := by rw [h1] <;> rfl
  have e2 : ((PySem.W.clsIn K S).isSome && PySem.W.typeIn K (.ref S) == some (.type "type")) = true := by
    have h2' : (PySem.W.clsIn K S).isSome = true := h2
    rw [h2', h3] <;> rfl
  show (if (PySem.W.subIn K (.ref S) (.type "BaseException") == some true) = true then (if ((PySem.W.clsIn K S).isSome && PySem.W.typeIn K (.ref S) == some (.type "type")) = true then PySem.W.subIn K (.ref S) (.ref S) else none) else none) = some true
  rw [if_pos e1, if_pos e2]
  exact h4
theorem sqt_tup {K : PySem.W.Frag} {a : Addr} {od : Option Addr} {its : List Value} {n : Nat} {sl : Array (Option Value)} {xs : List V} (h : K.lookup a = some ⟨.type "tuple", od, .seq its.toArray n, sl⟩) (hs : its.toArray.size ≤ sizeLine) (hv : Vals xs its.toArray.toList) (H : Hp) : SqT K H a xs :=
  .inr ⟨_, its.toArray, n, h, rfl, rfl, hs, hv⟩
theorem all_mk {l : PySem.W.OpenLaw} {w : World} {K : PySem.W.Frag} {h : Heap} {mg : Str → Option Value} {fa C aQ f0 aK aL aS cda cc f1 f2 f3 f4 f5 f6 f7 f8 f9 f10 f11 f12 f13 f14 f15 f16 f17 f18 f19 f20 f21 : Addr} (X : K.In h) (G : h.Ns mainGlobals mg) (hfa : mg "law" = some (.ref fa))
    {od0 an0 od1 an1 od2 an2 od3 an3 od4 an4 od5 an5 od6 an6 od7 an7 od8 an8 od9 an9 od10 an10 od11 an11 od12 an12 od13 an13 od14 an14 od15 an15 od16 an16 od17 an17 od18 an18 od19 an19 od20 an20 od21 an21 : Option Addr} {sl0 sl1 sl2 sl3 sl4 sl5 sl6 sl7 sl8 sl9 sl10 sl11 sl12 sl13 sl14 sl15 sl16 sl17 sl18 sl19 sl20 sl21 : Array (Option Value)} {oc0 dc0 pm0 ct0 oc1 kV1 dc1 pm1 cd1 ct1 oc2 kV2 dc2 pm2 cd2 ct2 oc3 kV3 dc3 pm3 cd3 ct3 oc4 kV4 dc4 pm4 cd4 ct4 oc5 kV5 dc5 pm5 cd5 ct5 oc6 kV6 dc6 pm6 cd6 ct6 oc7 kV7 dc7 pm7 cd7 ct7 oc8 kV8 dc8 pm8 cd8 ct8 oc9 kV9 dc9 pm9 cd9 ct9 oc10 kV10 dc10 pm10 cd10 ct10 oc11 kV11 dc11 pm11 cd11 ct11 oc12 kV12 dc12 pm12 cd12 ct12 oc13 kV13 dc13 pm13 cd13 ct13 oc14 kV14 dc14 pm14 cd14 ct14 oc15 kV15 dc15 pm15 cd15 ct15 oc16 kV16 dc16 pm16 cd16 ct16 oc17 kV17 dc17 pm17 cd17 ct17 oc18 kV18 dc18 pm18 cd18 ct18 oc19 kV19 dc19 pm19 cd19 ct19 oc20 kV20 dc20 pm20 cd20 ct20 oc21 kV21 dc21 pm21 cd21 ct21 : Value} {t0 t1 t2 t3 t4 t5 uK0 uK1 uK2 uK3 uK4 uK5 uK6 uK7 uK8 uK9 uK10 uK11 uK12 uK13 uK14 uK15 uK16 uK17 uK18 uK19 uK20 uK21 uK22 uK23 uL0 uL1 uL2 uL3 uS0 uS1 uS2 uS3 uS4 uS5 uS6 uS7 uS8 uS9 uS10 uS11 uS12 uS13 : Tok}
    {nm q : Str} {N : Addr} {bs : List Value} {sn : List Str} {sub : List Value} {ab : Bool} {col : Option Bool} {dd : Option Addr} {m0 m1 m2 m3 m5 : Option Value} {ccl ccl2 : Value} {cdd cdd2 odK odL odS : Option Addr} {vs : Array Value} {ccs ccs2 slK slL slS : Array (Option Value)} {file : Str} {tf : Tok} {nK nL nS : Nat}
    (a1 : PySem.W.nsIn K mainGlobals "tokenize" = some (some (.ref f1)))
    (l1 : K.lookup f1 = some ⟨oc1, od1, .func (PySem.W.fnOf "tokenize" "tokenize" (defArgs sTokenize) (defBody sTokenize) (defScope sTokenize) .none kV1 dc1 pm1 an1 cd1 ct1), sl1⟩)
    (c1 : PySem.W.codeIn K cd1 "tokenize" = true)
    (k1 : PySem.W.keepIn K (.ref f1) = true)
    (a2 : PySem.W.nsIn K mainGlobals "token_at" = some (some (.ref f2)))
    (l2 : K.lookup f2 = some ⟨oc2, od2, .func (PySem.W.fnOf "token_at" "token_at" (defArgs sTokenAt) (defBody sTokenAt) (defScope sTokenAt) .none kV2 dc2 pm2 an2 cd2 ct2), sl2⟩)
    (c2 : PySem.W.codeIn K cd2 "token_at" = true)
    (k2 : PySem.W.keepIn K (.ref f2) = true)
    (a3 : PySem.W.nsIn K mainGlobals "word_at" = some (some (.ref f3)))
    (l3 : K.lookup f3 = some ⟨oc3, od3, .func (PySem.W.fnOf "word_at" "word_at" (defArgs sWordAt) (defBody sWordAt) (defScope sWordAt) .none kV3 dc3 pm3 an3 cd3 ct3), sl3⟩)
    (c3 : PySem.W.codeIn K cd3 "word_at" = true)
    (k3 : PySem.W.keepIn K (.ref f3) = true)
    (a4 : PySem.W.nsIn K mainGlobals "number_at" = some (some (.ref f4)))
    (l4 : K.lookup f4 = some ⟨oc4, od4, .func (PySem.W.fnOf "number_at" "number_at" (defArgs sNumberAt) (defBody sNumberAt) (defScope sNumberAt) .none kV4 dc4 pm4 an4 cd4 ct4), sl4⟩)
    (c4 : PySem.W.codeIn K cd4 "number_at" = true)
    (k4 : PySem.W.keepIn K (.ref f4) = true)
    (a5 : PySem.W.nsIn K mainGlobals "text_at" = some (some (.ref f5)))
    (l5 : K.lookup f5 = some ⟨oc5, od5, .func (PySem.W.fnOf "text_at" "text_at" (defArgs sTextAt) (defBody sTextAt) (defScope sTextAt) .none kV5 dc5 pm5 an5 cd5 ct5), sl5⟩)
    (c5 : PySem.W.codeIn K cd5 "text_at" = true)
    (k5 : PySem.W.keepIn K (.ref f5) = true)
    (a6 : PySem.W.nsIn K mainGlobals "sign_at" = some (some (.ref f6)))
    (l6 : K.lookup f6 = some ⟨oc6, od6, .func (PySem.W.fnOf "sign_at" "sign_at" (defArgs sSignAt) (defBody sSignAt) (defScope sSignAt) .none kV6 dc6 pm6 an6 cd6 ct6), sl6⟩)
    (c6 : PySem.W.codeIn K cd6 "sign_at" = true)
    (k6 : PySem.W.keepIn K (.ref f6) = true)
    (a7 : PySem.W.nsIn K mainGlobals "end_of_run" = some (some (.ref f7)))
    (l7 : K.lookup f7 = some ⟨oc7, od7, .func (PySem.W.fnOf "end_of_run" "end_of_run" (defArgs sEndOfRun) (defBody sEndOfRun) (defScope sEndOfRun) .none kV7 dc7 pm7 an7 cd7 ct7), sl7⟩)
    (c7 : PySem.W.codeIn K cd7 "end_of_run" = true)
    (k7 : PySem.W.keepIn K (.ref f7) = true)
    (a8 : PySem.W.nsIn K mainGlobals "_law_next" = some (some (.ref f8)))
    (l8 : K.lookup f8 = some ⟨oc8, od8, .func (PySem.W.fnOf "_law_next" "_law_next" (defArgs sLawNext) (defBody sLawNext) (defScope sLawNext) .none kV8 dc8 pm8 an8 cd8 ct8), sl8⟩)
    (c8 : PySem.W.codeIn K cd8 "_law_next" = true)
    (k8 : PySem.W.keepIn K (.ref f8) = true)
    (a9 : PySem.W.nsIn K mainGlobals "_law_same" = some (some (.ref f9)))
    (l9 : K.lookup f9 = some ⟨oc9, od9, .func (PySem.W.fnOf "_law_same" "_law_same" (defArgs sLawSame) (defBody sLawSame) (defScope sLawSame) .none kV9 dc9 pm9 an9 cd9 ct9), sl9⟩)
    (c9 : PySem.W.codeIn K cd9 "_law_same" = true)
    (k9 : PySem.W.keepIn K (.ref f9) = true)
    (a10 : PySem.W.nsIn K mainGlobals "_law_keywords" = some (some (.ref f10)))
    (l10 : K.lookup f10 = some ⟨oc10, od10, .func (PySem.W.fnOf "_law_keywords" "_law_keywords" (defArgs sLawKeywords) (defBody sLawKeywords) (defScope sLawKeywords) .none kV10 dc10 pm10 an10 cd10 ct10), sl10⟩)
    (c10 : PySem.W.codeIn K cd10 "_law_keywords" = true)
    (k10 : PySem.W.keepIn K (.ref f10) = true)
    (a11 : PySem.W.nsIn K mainGlobals "_law_word" = some (some (.ref f11)))
    (l11 : K.lookup f11 = some ⟨oc11, od11, .func (PySem.W.fnOf "_law_word" "_law_word" (defArgs sLawWord) (defBody sLawWord) (defScope sLawWord) .none kV11 dc11 pm11 an11 cd11 ct11), sl11⟩)
    (c11 : PySem.W.codeIn K cd11 "_law_word" = true)
    (k11 : PySem.W.keepIn K (.ref f11) = true)
    (a12 : PySem.W.nsIn K mainGlobals "_law_name" = some (some (.ref f12)))
    (l12 : K.lookup f12 = some ⟨oc12, od12, .func (PySem.W.fnOf "_law_name" "_law_name" (defArgs sLawName) (defBody sLawName) (defScope sLawName) .none kV12 dc12 pm12 an12 cd12 ct12), sl12⟩)
    (c12 : PySem.W.codeIn K cd12 "_law_name" = true)
    (k12 : PySem.W.keepIn K (.ref f12) = true)
    (a13 : PySem.W.nsIn K mainGlobals "_law_maker" = some (some (.ref f13)))
    (l13 : K.lookup f13 = some ⟨oc13, od13, .func (PySem.W.fnOf "_law_maker" "_law_maker" (defArgs sLawMaker) (defBody sLawMaker) (defScope sLawMaker) .none kV13 dc13 pm13 an13 cd13 ct13), sl13⟩)
    (c13 : PySem.W.codeIn K cd13 "_law_maker" = true)
    (k13 : PySem.W.keepIn K (.ref f13) = true)
    (a14 : PySem.W.nsIn K mainGlobals "_law_char" = some (some (.ref f14)))
    (l14 : K.lookup f14 = some ⟨oc14, od14, .func (PySem.W.fnOf "_law_char" "_law_char" (defArgs sLawChar) (defBody sLawChar) (defScope sLawChar) .none kV14 dc14 pm14 an14 cd14 ct14), sl14⟩)
    (c14 : PySem.W.codeIn K cd14 "_law_char" = true)
    (k14 : PySem.W.keepIn K (.ref f14) = true)
    (a15 : PySem.W.nsIn K mainGlobals "_law_digits" = some (some (.ref f15)))
    (l15 : K.lookup f15 = some ⟨oc15, od15, .func (PySem.W.fnOf "_law_digits" "_law_digits" (defArgs sLawDigits) (defBody sLawDigits) (defScope sLawDigits) .none kV15 dc15 pm15 an15 cd15 ct15), sl15⟩)
    (c15 : PySem.W.codeIn K cd15 "_law_digits" = true)
    (k15 : PySem.W.keepIn K (.ref f15) = true)
    (a16 : PySem.W.nsIn K mainGlobals "_law_quoted" = some (some (.ref f16)))
    (l16 : K.lookup f16 = some ⟨oc16, od16, .func (PySem.W.fnOf "_law_quoted" "_law_quoted" (defArgs sLawQuoted) (defBody sLawQuoted) (defScope sLawQuoted) .none kV16 dc16 pm16 an16 cd16 ct16), sl16⟩)
    (c16 : PySem.W.codeIn K cd16 "_law_quoted" = true)
    (k16 : PySem.W.keepIn K (.ref f16) = true)
    (a17 : PySem.W.nsIn K mainGlobals "_law_token" = some (some (.ref f17)))
    (l17 : K.lookup f17 = some ⟨oc17, od17, .func (PySem.W.fnOf "_law_token" "_law_token" (defArgs sLawToken) (defBody sLawToken) (defScope sLawToken) .none kV17 dc17 pm17 an17 cd17 ct17), sl17⟩)
    (c17 : PySem.W.codeIn K cd17 "_law_token" = true)
    (k17 : PySem.W.keepIn K (.ref f17) = true)
    (a18 : PySem.W.nsIn K mainGlobals "_law_joins" = some (some (.ref f18)))
    (l18 : K.lookup f18 = some ⟨oc18, od18, .func (PySem.W.fnOf "_law_joins" "_law_joins" (defArgs sLawJoins) (defBody sLawJoins) (defScope sLawJoins) .none kV18 dc18 pm18 an18 cd18 ct18), sl18⟩)
    (c18 : PySem.W.codeIn K cd18 "_law_joins" = true)
    (k18 : PySem.W.keepIn K (.ref f18) = true)
    (a19 : PySem.W.nsIn K mainGlobals "_law_gap" = some (some (.ref f19)))
    (l19 : K.lookup f19 = some ⟨oc19, od19, .func (PySem.W.fnOf "_law_gap" "_law_gap" (defArgs sLawGap) (defBody sLawGap) (defScope sLawGap) .none kV19 dc19 pm19 an19 cd19 ct19), sl19⟩)
    (c19 : PySem.W.codeIn K cd19 "_law_gap" = true)
    (k19 : PySem.W.keepIn K (.ref f19) = true)
    (a20 : PySem.W.nsIn K mainGlobals "_law_read" = some (some (.ref f20)))
    (l20 : K.lookup f20 = some ⟨oc20, od20, .func (PySem.W.fnOf "_law_read" "_law_read" (defArgs sLawRead) (defBody sLawRead) (defScope sLawRead) .none kV20 dc20 pm20 an20 cd20 ct20), sl20⟩)
    (c20 : PySem.W.codeIn K cd20 "_law_read" = true)
    (k20 : PySem.W.keepIn K (.ref f20) = true)
    (a21 : PySem.W.nsIn K mainGlobals "law" = some (some (.ref f21)))
    (l21 : K.lookup f21 = some ⟨oc21, od21, .func (PySem.W.fnOf "law" "law" (defArgs sLaw) (defBody sLaw) (defScope sLaw) .none kV21 dc21 pm21 an21 cd21 ct21), sl21⟩)
    (c21 : PySem.W.codeIn K cd21 "law" = true)
    (k21 : PySem.W.keepIn K (.ref f21) = true)
    (z_len : PySem.W.nsIn K mainGlobals "len" = some none)
    (z_range : PySem.W.nsIn K mainGlobals "range" = some none)
    (z_isinstance : PySem.W.nsIn K mainGlobals "isinstance" = some none)
    (z_bool : PySem.W.nsIn K mainGlobals "bool" = some none)
    (z_int : PySem.W.nsIn K mainGlobals "int" = some none)
    (z_str : PySem.W.nsIn K mainGlobals "str" = some none)
    (z_tuple : PySem.W.nsIn K mainGlobals "tuple" = some none)
    (z_list : PySem.W.nsIn K mainGlobals "list" = some none)
    (z_super : PySem.W.nsIn K mainGlobals "super" = some none)
    (z_ValueError : PySem.W.nsIn K mainGlobals "ValueError" = some none)
    (g_BLANKS : PySem.W.nsIn K mainGlobals "BLANKS" = some (some (.str " \n" t0)))
    (g_LOWER : PySem.W.nsIn K mainGlobals "LOWER" = some (some (.str "abcdefghijklmnopqrstuvwxyz" t1)))
    (g_UPPER : PySem.W.nsIn K mainGlobals "UPPER" = some (some (.str "ABCDEFGHIJKLMNOPQRSTUVWXYZ" t2)))
    (g_DIGITS : PySem.W.nsIn K mainGlobals "DIGITS" = some (some (.str "0123456789" t3)))
    (g_WORD_CHARACTERS : PySem.W.nsIn K mainGlobals "WORD_CHARACTERS" = some (some (.str "abcdefghijklmnopqrstuvwxyzABCDEFGHIJKLMNOPQRSTUVWXYZ0123456789_" t4)))
    (g_MOST_DIGITS : PySem.W.nsIn K mainGlobals "MOST_DIGITS" = some (some (.int 18 t5)))
    (g_KEYWORDS : PySem.W.nsIn K mainGlobals "KEYWORDS" = some (some (.ref aK)))
    (x_KEYWORDS : K.lookup aK = some ⟨.type "tuple", odK, .seq (List.toArray [.str "data" uK0, .str "fun" uK1, .str "cell" uK2, .str "view" uK3, .str "act" uK4, .str "turn" uK5, .str "then" uK6, .str "true" uK7, .str "false" uK8, .str "not" uK9, .str "and" uK10, .str "or" uK11, .str "if" uK12, .str "else" uK13, .str "let" uK14, .str "in" uK15, .str "case" uK16, .str "of" uK17, .str "end" uK18, .str "num" uK19, .str "text" uK20, .str "bool" uK21, .str "list" uK22, .str "mod" uK23]) nK, slK⟩)
    (g_LONG_SIGNS : PySem.W.nsIn K mainGlobals "LONG_SIGNS" = some (some (.ref aL)))
    (x_LONG_SIGNS : K.lookup aL = some ⟨.type "tuple", odL, .seq (List.toArray [.str "++" uL0, .str "::" uL1, .str "->" uL2, .str ":=" uL3]) nL, slL⟩)
    (g_SHORT_SIGNS : PySem.W.nsIn K mainGlobals "SHORT_SIGNS" = some (some (.ref aS)))
    (x_SHORT_SIGNS : K.lookup aS = some ⟨.type "tuple", odS, .seq (List.toArray [.str "(" uS0, .str ")" uS1, .str "[" uS2, .str "]" uS3, .str "," uS4, .str ";" uS5, .str "|" uS6, .str "=" uS7, .str "<" uS8, .str "+" uS9, .str "-" uS10, .str "*" uS11, .str "/" uS12, .str ":" uS13]) nS, slS⟩)
    (aC : PySem.W.nsIn K mainGlobals "RefusedChunk" = some (some (.ref C)))
    (aQe : PySem.W.nsIn K mainGlobals "QuillrunError" = some (some (.ref aQ)))
    (xC : K.lookup C = some (excClassObj nm q C N bs [.ref aQ, .type "ValueError", .type "Exception", .type "BaseException", .type "object"] true sn sub ab col dd m0 m1 m2 m3 m5 "ValueError.__new__"))
    (sa : PySem.W.findIn K (.ref C) "__setattr__" = some (some (.builtin "object.__setattr__")))
    (ga : PySem.W.findIn K (.ref C) "__getattribute__" = some (some (.builtin "BaseException.__getattribute__")))
    (gg : PySem.W.findIn K (.ref C) "__getattr__" = some none)
    (np : PySem.W.findIn K (.ref C) "position" = some none)
    (iC : PySem.W.findIn K (.ref C) "__init__" = some (some (.ref f0)))
    (tC : PySem.W.typeIn K (.ref f0) = some (.type "function"))
    (kC : PySem.W.keepIn K (.ref C) = true)
    (eC : PySem.W.subIn K (.ref C) (.type "BaseException") = some true)
    (vC : PySem.W.subIn K (.ref C) (.type "ValueError") = some true)
    (yC : PySem.W.typeIn K (.ref C) = some (.type "type"))
    (hC : PySem.W.hasDictIn K C = true)
    (isC : PySem.W.isClsIn K C = true)
    (sC : PySem.W.subIn K (.ref C) (.ref C) = some true)
    (supC : PySem.W.ks_superIn K C C "__init__" = some (some (.builtin "ValueError.__init__")))
    (mroC : PySem.W.mroIn K C (.ref C) = some true)
    (anyC : PySem.W.nsIn K cStatics "thirdparty.any" = some none)
    (l0 : K.lookup f0 = some ⟨oc0, od0, .func (PySem.W.ksFn "__init__" "RefusedChunk.__init__" RC.rA RC.rB RC.rS .none .none dc0 pm0 an0 (.ref cda) ct0 cc), sl0⟩)
    (c0 : PySem.W.codeIn K (.ref cda) "RefusedChunk.__init__" = true)
    (lcd : K.lookup cda = some ⟨ccl, cdd, .fields vs, ccs⟩)
    (vs2 : vs[2]? = some (.str file tf))
    (fil : ((l.prog.main.file : Str) == file) = true)
    (lcc : K.lookup cc = some ⟨ccl2, cdd2, .cell (some (.ref C)), ccs2⟩)
    (topS : (l.prog.main.scope.names.lookup ("super" : Str)).isSome = false)
    (e_ha : PySem.W.findIn K (.ref C) "__class__" = some (some (.builtin "object.__class__")))
    (e_hn : PySem.W.specialIn K (.builtin "object.__class__") "__get__" = some (some (.builtin "getset_descriptor.__get__")))
    (e_ht : PySem.W.takesIn K (.builtin "object.__class__") = some true)
    (e_hm : PySem.W.mroIn K C (.type "object") = some true)
    (kitQ : PySem.W.kitOne K (.ref C) (.ref aQ) = some true)
    (kitV : PySem.W.kitOne K (.ref C) (.type "ValueError") = some true)
    : ∃ fd : FuncData, (∀ (s : Shared) (v : Value), BindsTo s fd ⟨[v], []⟩ [("script", v)]) ∧ ∀ base : Heap, K.In base → base.Ns mainGlobals mg → FnOk l.prog w K mg base CX0 6 fa fd ["script"] (spLaw K) := by
  have e := hfa.symm.trans (PySem.W.mg_of X G a21)
  cases e
  have R : RC.Facts l.prog K mg C f0 :=
    { gC := PySem.W.mg_of X G aC, cls := ⟨nm, q, N, bs, _, sn, sub, ab, col, dd, m0, m1, m2, m3, m5, xC, by first | rfl | decide +kernel⟩, sa := sa, ga := ga, gg := gg, noN := np, iC := iC, tC := tC, kC := kC, exC := eC, veC := vC, tyC := yC, hdC := hC, te := exm_own eC isC yC sC, sup := supC, mro := mroC, any := anyC, noS := PySem.W.mg_none_of X G z_super,
      fn := ⟨_, _, _, _, _, _, _, _, _, _, _, _, _, _, _, _, _, _, l0, c0, lcd, vs2, fil, lcc⟩, top := topS }
  have T : Txt l.prog K mg C f0 aK aL aS :=
    { rc := R, len := PySem.W.mg_none_of X G z_len, range := PySem.W.mg_none_of X G z_range, isinstance := PySem.W.mg_none_of X G z_isinstance, bool := PySem.W.mg_none_of X G z_bool, int := PySem.W.mg_none_of X G z_int, str := PySem.W.mg_none_of X G z_str, tuple := PySem.W.mg_none_of X G z_tuple, list := PySem.W.mg_none_of X G z_list,
      g_BLANKS := ⟨_, PySem.W.mg_of X G g_BLANKS⟩, g_LOWER := ⟨_, PySem.W.mg_of X G g_LOWER⟩, g_UPPER := ⟨_, PySem.W.mg_of X G g_UPPER⟩, g_DIGITS := ⟨_, PySem.W.mg_of X G g_DIGITS⟩, g_WORD := ⟨_, PySem.W.mg_of X G g_WORD_CHARACTERS⟩, g_MOST := ⟨_, PySem.W.mg_of X G g_MOST_DIGITS⟩,
      g_KEYWORDS := PySem.W.mg_of X G g_KEYWORDS, g_LONG_SIGNS := PySem.W.mg_of X G g_LONG_SIGNS, g_SHORT_SIGNS := PySem.W.mg_of X G g_SHORT_SIGNS,
      sK := fun H => sqt_tup x_KEYWORDS (by show 24 ≤ sizeLine; decide) (by repeat (first | exact .nil | refine .cons ⟨_, rfl⟩ ?_)) H, sL := fun H => sqt_tup x_LONG_SIGNS (by show 4 ≤ sizeLine; decide) (by repeat (first | exact .nil | refine .cons ⟨_, rfl⟩ ?_)) H, sS := fun H => sqt_tup x_SHORT_SIGNS (by show 14 ≤ sizeLine; decide) (by repeat (first | exact .nil | refine .cons ⟨_, rfl⟩ ?_)) H, tK := fun H => .kTuple x_KEYWORDS rfl }
  have TE : TxtE K mg C aQ := ⟨PySem.W.mg_of X G aQe, ⟨ga, gg, eC, hC, e_ha, e_hn, e_ht, e_hm⟩, kitQ, kitV, PySem.W.mg_none_of X G z_ValueError⟩
  have F1 := fun_mk (st := sTokenize) l1 c1 k1
  have b1 := F1.binds (ps := ["chunk"]) fun _ _ _ _ _ _ us hl => match us, hl with | [_], _ => rfl
  have DTokenize : DefN K mg "tokenize" sTokenize ["chunk"] f1 _ := ⟨F1, b1, PySem.W.mg_of X G a1⟩
  have F2 := fun_mk (st := sTokenAt) l2 c2 k2
  have b2 := F2.binds (ps := ["chunk", "start"]) fun _ _ _ _ _ _ us hl => match us, hl with | [_, _], _ => rfl
  have DTokenAt : DefN K mg "token_at" sTokenAt ["chunk", "start"] f2 _ := ⟨F2, b2, PySem.W.mg_of X G a2⟩
  have F3 := fun_mk (st := sWordAt) l3 c3 k3
  have b3 := F3.binds (ps := ["chunk", "start"]) fun _ _ _ _ _ _ us hl => match us, hl with | [_, _], _ => rfl
  have DWordAt : DefN K mg "word_at" sWordAt ["chunk", "start"] f3 _ := ⟨F3, b3, PySem.W.mg_of X G a3⟩
  have F4 := fun_mk (st := sNumberAt) l4 c4 k4
  have b4 := F4.binds (ps := ["chunk", "start"]) fun _ _ _ _ _ _ us hl => match us, hl with | [_, _], _ => rfl
  have DNumberAt : DefN K mg "number_at" sNumberAt ["chunk", "start"] f4 _ := ⟨F4, b4, PySem.W.mg_of X G a4⟩
  have F5 := fun_mk (st := sTextAt) l5 c5 k5
  have b5 := F5.binds (ps := ["chunk", "start"]) fun _ _ _ _ _ _ us hl => match us, hl with | [_, _], _ => rfl
  have DTextAt : DefN K mg "text_at" sTextAt ["chunk", "start"] f5 _ := ⟨F5, b5, PySem.W.mg_of X G a5⟩
  have F6 := fun_mk (st := sSignAt) l6 c6 k6
  have b6 := F6.binds (ps := ["chunk", "start"]) fun _ _ _ _ _ _ us hl => match us, hl with | [_, _], _ => rfl
  have DSignAt : DefN K mg "sign_at" sSignAt ["chunk", "start"] f6 _ := ⟨F6, b6, PySem.W.mg_of X G a6⟩
  have F7 := fun_mk (st := sEndOfRun) l7 c7 k7
  have b7 := F7.binds (ps := ["chunk", "start", "allowed"]) fun _ _ _ _ _ _ us hl => match us, hl with | [_, _, _], _ => rfl
  have DEndOfRun : DefN K mg "end_of_run" sEndOfRun ["chunk", "start", "allowed"] f7 _ := ⟨F7, b7, PySem.W.mg_of X G a7⟩
  have F8 := fun_mk (st := sLawNext) l8 c8 k8
  have b8 := F8.binds (ps := ["state", "limit"]) fun _ _ _ _ _ _ us hl => match us, hl with | [_, _], _ => rfl
  have DLawNext : DefN K mg "_law_next" sLawNext ["state", "limit"] f8 _ := ⟨F8, b8, PySem.W.mg_of X G a8⟩
  have F9 := fun_mk (st := sLawSame) l9 c9 k9
  have b9 := F9.binds (ps := ["actual", "expected"]) fun _ _ _ _ _ _ us hl => match us, hl with | [_, _], _ => rfl
  have DLawSame : DefN K mg "_law_same" sLawSame ["actual", "expected"] f9 _ := ⟨F9, b9, PySem.W.mg_of X G a9⟩
  have F10 := fun_mk (st := sLawKeywords) l10 c10 k10
  have b10 := F10.binds (ps := []) fun _ _ _ _ _ _ us hl => match us, hl with | [], _ => rfl
  have DLawKeywords : DefN K mg "_law_keywords" sLawKeywords [] f10 _ := ⟨F10, b10, PySem.W.mg_of X G a10⟩
  have F11 := fun_mk (st := sLawWord) l11 c11 k11
  have b11 := F11.binds (ps := ["state", "first"]) fun _ _ _ _ _ _ us hl => match us, hl with | [_, _], _ => rfl
  have DLawWord : DefN K mg "_law_word" sLawWord ["state", "first"] f11 _ := ⟨F11, b11, PySem.W.mg_of X G a11⟩
  have F12 := fun_mk (st := sLawName) l12 c12 k12
  have b12 := F12.binds (ps := ["state"]) fun _ _ _ _ _ _ us hl => match us, hl with | [_], _ => rfl
  have DLawName : DefN K mg "_law_name" sLawName ["state"] f12 _ := ⟨F12, b12, PySem.W.mg_of X G a12⟩
  have F13 := fun_mk (st := sLawMaker) l13 c13 k13
  have b13 := F13.binds (ps := ["state"]) fun _ _ _ _ _ _ us hl => match us, hl with | [_], _ => rfl
  have DLawMaker : DefN K mg "_law_maker" sLawMaker ["state"] f13 _ := ⟨F13, b13, PySem.W.mg_of X G a13⟩
  have F14 := fun_mk (st := sLawChar) l14 c14 k14
  have b14 := F14.binds (ps := ["index"]) fun _ _ _ _ _ _ us hl => match us, hl with | [_], _ => rfl
  have DLawChar : DefN K mg "_law_char" sLawChar ["index"] f14 _ := ⟨F14, b14, PySem.W.mg_of X G a14⟩
  have F15 := fun_mk (st := sLawDigits) l15 c15 k15
  have b15 := F15.binds (ps := ["state", "count"]) fun _ _ _ _ _ _ us hl => match us, hl with | [_, _], _ => rfl
  have DLawDigits : DefN K mg "_law_digits" sLawDigits ["state", "count"] f15 _ := ⟨F15, b15, PySem.W.mg_of X G a15⟩
  have F16 := fun_mk (st := sLawQuoted) l16 c16 k16
  have b16 := F16.binds (ps := ["text"]) fun _ _ _ _ _ _ us hl => match us, hl with | [_], _ => rfl
  have DLawQuoted : DefN K mg "_law_quoted" sLawQuoted ["text"] f16 _ := ⟨F16, b16, PySem.W.mg_of X G a16⟩
  have F17 := fun_mk (st := sLawToken) l17 c17 k17
  have b17 := F17.binds (ps := ["state"]) fun _ _ _ _ _ _ us hl => match us, hl with | [_], _ => rfl
  have DLawToken : DefN K mg "_law_token" sLawToken ["state"] f17 _ := ⟨F17, b17, PySem.W.mg_of X G a17⟩
  have F18 := fun_mk (st := sLawJoins) l18 c18 k18
  have b18 := F18.binds (ps := ["written", "other"]) fun _ _ _ _ _ _ us hl => match us, hl with | [_, _], _ => rfl
  have DLawJoins : DefN K mg "_law_joins" sLawJoins ["written", "other"] f18 _ := ⟨F18, b18, PySem.W.mg_of X G a18⟩
  have F19 := fun_mk (st := sLawGap) l19 c19 k19
  have b19 := F19.binds (ps := ["state", "needed"]) fun _ _ _ _ _ _ us hl => match us, hl with | [_, _], _ => rfl
  have DLawGap : DefN K mg "_law_gap" sLawGap ["state", "needed"] f19 _ := ⟨F19, b19, PySem.W.mg_of X G a19⟩
  have F20 := fun_mk (st := sLawRead) l20 c20 k20
  have b20 := F20.binds (ps := ["text"]) fun _ _ _ _ _ _ us hl => match us, hl with | [_], _ => rfl
  have DLawRead : DefN K mg "_law_read" sLawRead ["text"] f20 _ := ⟨F20, b20, PySem.W.mg_of X G a20⟩
  have F21 := fun_mk (st := sLaw) l21 c21 k21
  have b21 := F21.binds (ps := ["script"]) fun _ _ _ _ _ _ us hl => match us, hl with | [_], _ => rfl
  have DLaw : DefN K mg "law" sLaw ["script"] fa _ := ⟨F21, b21, PySem.W.mg_of X G a21⟩
  exact ⟨PySem.W.fnOf "law" "law" (defArgs sLaw) (defBody sLaw) (defScope sLaw) .none kV21 dc21 pm21 an21 cd21 ct21, fun s v => .of_eq rfl, fun base _ _ => ok_law (k := 0) DLaw T TE DLawRead DLawSame DTokenize DTokenAt DEndOfRun DWordAt DNumberAt DTextAt DSignAt DLawNext DLawKeywords DLawWord DLawName DLawMaker DLawChar DLawDigits DLawQuoted DLawToken DLawJoins DLawGap⟩
end Q21
open PySem PySem.W PyProof.Rows
set_option maxHeartbeats 0 in
theorem PySem.Challenge.cw_quillrun_k21_tokens_read_back_holds : PySem.Challenge.rw_quillrun_k21_tokens_read_back.Holds := by
  w_on; o_law; k_head; (case hw => w_witness2)
  k_fill
  refine L2.walk_of (l := PySem.Challenge.rw_quillrun_k21_tokens_read_back) (n := 63) (k := 6) (x := "script") (CX := fun _ => L2.CX0) (sp := fun w => Q21.spLaw _) rfl (by decide) rfl ⟨rfl, by decide, by decide⟩ (fun w h Y => PySem.W.kIn_of Y) ?F (fun _ _ a ns hl _ hS => ⟨a, ns, rfl, hS, hl, fun _ => rfl⟩) (fun _ _ _ _ _ h => h)
  case F =>
    intro w mg fa h KX G hmg
    refine' Q21.all_mk KX G hmg ?a1 ?l1 ?c1 ?k1 ?a2 ?l2 ?c2 ?k2 ?a3 ?l3 ?c3 ?k3 ?a4 ?l4 ?c4 ?k4 ?a5 ?l5 ?c5 ?k5 ?a6 ?l6 ?c6 ?k6 ?a7 ?l7 ?c7 ?k7 ?a8 ?l8 ?c8 ?k8 ?a9 ?l9 ?c9 ?k9 ?a10 ?l10 ?c10 ?k10 ?a11 ?l11 ?c11 ?k11 ?a12 ?l12 ?c12 ?k12 ?a13 ?l13 ?c13 ?k13 ?a14 ?l14 ?c14 ?k14 ?a15 ?l15 ?c15 ?k15 ?a16 ?l16 ?c16 ?k16 ?a17 ?l17 ?c17 ?k17 ?a18 ?l18 ?c18 ?k18 ?a19 ?l19 ?c19 ?k19 ?a20 ?l20 ?c20 ?k20 ?a21 ?l21 ?c21 ?k21 ?z_len ?z_range ?z_isinstance ?z_bool ?z_int ?z_str ?z_tuple ?z_list ?z_super ?z_ValueError ?g_BLANKS ?g_LOWER ?g_UPPER ?g_DIGITS ?g_WORD_CHARACTERS ?g_MOST_DIGITS ?g_KEYWORDS ?x_KEYWORDS ?g_LONG_SIGNS ?x_LONG_SIGNS ?g_SHORT_SIGNS ?x_SHORT_SIGNS ?aC ?aQe ?xC ?sa ?ga ?gg ?np ?iC ?tC ?kC ?eC ?vC ?yC ?hC ?isC ?sC ?supC ?mroC ?anyC ?l0 ?c0 ?lcd ?vs2 ?fil ?lcc ?topS ?e_ha ?e_hn ?e_ht ?e_hm ?kitQ ?kitV
    (case a1 => k_is)
    (case l1 => k_is)
    (case c1 => k_is)
    (case k1 => k_is)
    (case a2 => k_is)
    (case l2 => k_is)
    (case c2 => k_is)
    (case k2 => k_is)
    (case a3 => k_is)
    (case l3 => k_is)
    (case c3 => k_is)
    (case k3 => k_is)
    (case a4 => k_is)
    (case l4 => k_is)
    (case c4 => k_is)
    (case k4 => k_is)
    (case a5 => k_is)
    (case l5 => k_is)
    (case c5 => k_is)
    (case k5 => k_is)
    (case a6 => k_is)
    (case l6 => k_is)
    (case c6 => k_is)
    (case k6 => k_is)
    (case a7 => k_is)
    (case l7 => k_is)
    (case c7 => k_is)
    (case k7 => k_is)
    (case a8 => k_is)
    (case l8 => k_is)
    (case c8 => k_is)
    (case k8 => k_is)
    (case a9 => k_is)
    (case l9 => k_is)
    (case c9 => k_is)
    (case k9 => k_is)
    (case a10 => k_is)
    (case l10 => k_is)
    (case c10 => k_is)
    (case k10 => k_is)
    (case a11 => k_is)
    (case l11 => k_is)
    (case c11 => k_is)
    (case k11 => k_is)
    (case a12 => k_is)
    (case l12 => k_is)
    (case c12 => k_is)
    (case k12 => k_is)
    (case a13 => k_is)
    (case l13 => k_is)
    (case c13 => k_is)
    (case k13 => k_is)
    (case a14 => k_is)
    (case l14 => k_is)
    (case c14 => k_is)
    (case k14 => k_is)
    (case a15 => k_is)
    (case l15 => k_is)
    (case c15 => k_is)
    (case k15 => k_is)
    (case a16 => k_is)
    (case l16 => k_is)
    (case c16 => k_is)
    (case k16 => k_is)
    (case a17 => k_is)
    (case l17 => k_is)
    (case c17 => k_is)
    (case k17 => k_is)
    (case a18 => k_is)
    (case l18 => k_is)
    (case c18 => k_is)
    (case k18 => k_is)
    (case a19 => k_is)
    (case l19 => k_is)
    (case c19 => k_is)
    (case k19 => k_is)
    (case a20 => k_is)
    (case l20 => k_is)
    (case c20 => k_is)
    (case k20 => k_is)
    (case a21 => k_is)
    (case l21 => k_is)
    (case c21 => k_is)
    (case k21 => k_is)
    (case z_len => k_is)
    (case z_range => k_is)
    (case z_isinstance => k_is)
    (case z_bool => k_is)
    (case z_int => k_is)
    (case z_str => k_is)
    (case z_tuple => k_is)
    (case z_list => k_is)
    (case z_super => k_is)
    (case z_ValueError => k_is)
    (case g_BLANKS => k_is)
    (case g_LOWER => k_is)
    (case g_UPPER => k_is)
    (case g_DIGITS => k_is)
    (case g_WORD_CHARACTERS => k_is)
    (case g_MOST_DIGITS => k_is)
    (case g_KEYWORDS => k_is)
    (case x_KEYWORDS => k_is)
    (case g_LONG_SIGNS => k_is)
    (case x_LONG_SIGNS => k_is)
    (case g_SHORT_SIGNS => k_is)
    (case x_SHORT_SIGNS => k_is)
    (case aC => k_is)
    (case aQe => k_is)
    (case xC => k_is)
    (case sa => k_is)
    (case ga => k_is)
    (case gg => k_is)
    (case np => k_is)
    (case iC => k_is)
    (case tC => k_is)
    (case kC => k_is)
    (case eC => k_is)
    (case vC => k_is)
    (case yC => k_is)
    (case hC => k_is)
    (case isC => k_is)
    (case sC => k_is)
    (case supC => ks_is)
    (case mroC => k_is)
    (case anyC => k_is)
    (case l0 => k_is)
    (case c0 => k_is)
    (case lcd => k_is)
    (case vs2 => rfl)
    (case fil => first | rfl | decide +kernel)
    (case lcc => k_is)
    (case topS => first | rfl | decide +kernel)
    (case e_ha => k_is)
    (case e_hn => k_is)
    (case e_ht => k_is)
    (case e_hm => k_is)
    (case kitQ => kit_is)
    (case kitV => kit_is)
#print axioms PySem.Challenge.cw_quillrun_k21_tokens_read_back_holds
