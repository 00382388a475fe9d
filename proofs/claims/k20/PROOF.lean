import PyProof.Rows.All
import Wide.All
import OpenK.AllK
import Wide.FinOn
import HandS.ForMost
import HandS.IsInst
import HandS.Codes
import HandS.Walk
import HandS.Star
import PySem.Challenge.RW_quillrun_k20_chunks_of_a_text
set_option Elab.async false
set_option linter.all false
set_option maxRecDepth 100000
set_option maxHeartbeats 4000000
namespace Q20
/-! ## the mathematics of chunks -/
/-- a line starts at this place, and its first sign is no blank -/
def isStart (t : List Nat) (p : Nat) : Bool := (p == 0 || t.getD (p - 1) 0 == 10) && !(t.getD p 0 == 32 || t.getD p 0 == 10)
/-- the places behind off at which a chunk starts; b: a line starts here -/
def starts (b : Bool) (off : Nat) : List Nat → List Nat
  | [] => []
  | c :: r => if b && !(c == 32 || c == 10) then off :: starts (c == 10) (off + 1) r else starts (c == 10) (off + 1) r
/-- does a line start behind this text -/
def endb (b : Bool) : List Nat → Bool
  | [] => b
  | c :: r => endb (c == 10) r
theorem starts_append : ∀ (x y : List Nat) (b : Bool) (off : Nat), starts b off (x ++ y) = starts b off x ++ starts (endb b x) (off + x.length) y
  | [], y, b, off => by simp [starts, endb]
  | c :: r, y, b, off => by
    have ih := starts_append r y (c == 10) (off + 1)
    have e : off + (c :: r).length = off + 1 + r.length := by simp; omega
    simp only [List.cons_append, starts, endb, ih, e]
    split <;> simp
theorem endb_append : ∀ (x y : List Nat) (b : Bool), endb b (x ++ y) = endb (endb b x) y
  | [], _, _ => rfl
  | c :: r, y, b => endb_append r y (c == 10)
/-- the filter over all places is starts -/
theorem filter_starts_aux : ∀ (t pre : List Nat) (b : Bool), (b = (pre.length == 0 || (pre ++ t).getD (pre.length - 1) 0 == 10)) →
    ((List.range' pre.length t.length).filter (isStart (pre ++ t))) = starts b pre.length t
  | [], pre, b, h => by simp [starts]
  | c :: r, pre, b, h => by
    have ih := filter_starts_aux r (pre ++ [c]) (c == 10) (by simp)
    have e1 : pre ++ [c] ++ r = pre ++ c :: r := by simp
    rw [e1] at ih
    have e2 : (pre ++ [c]).length = pre.length + 1 := by simp
    rw [e2] at ih
    have e3 : isStart (pre ++ c :: r) pre.length = (b && !(c == 32 || c == 10)) := by
      unfold isStart
      rw [h]
      have g : (pre ++ c :: r).getD pre.length 0 = c := by simp
      rw [g]
    rw [List.length_cons, List.range'_succ, List.filter_cons, e3, ih]
    simp only [starts]
theorem filter_starts (t : List Nat) : (List.range t.length).filter (isStart t) = starts true 0 t := by
  have h := filter_starts_aux t [] true (by simp)
  rw [List.range_eq_range']
  exact h
/-! ### the law's own texts -/
/-- no newline within -/
def NoNl (l : List Nat) : Prop := ∀ c ∈ l, c ≠ 10
theorem starts_noNl : ∀ (l : List Nat) (off : Nat), NoNl l → starts false off l = [] ∧ endb false l = false
  | [], _, _ => ⟨rfl, rfl⟩
  | c :: r, off, h => by
    have hc : c ≠ 10 := h c (List.mem_cons_self ..)
    have e : (c == 10) = false := by simp [hc]
    obtain ⟨i1, i2⟩ := starts_noNl r (off + 1) (fun x hx => h x (List.mem_cons_of_mem _ hx))
    exact ⟨by simp [starts, e, i1], by simp [endb, e, i2]⟩
/-- lines that are empty or start with a space, each with its newline -/
inductive Tail : List Nat → Prop
  | nil : Tail []
  | blank {t : List Nat} : Tail t → Tail (t ++ [10])
  | line {t l : List Nat} : Tail t → NoNl l → Tail (t ++ (32 :: l) ++ [10])
theorem tail_ok {t : List Nat} (h : Tail t) : (∀ off, starts true off t = []) ∧ endb true t = true := by
  induction h with
  | nil => exact ⟨fun _ => rfl, rfl⟩
  | @blank t _ ih =>
    refine ⟨fun off => ?_, ?_⟩
    · rw [starts_append, ih.1, ih.2]; simp [starts]
    · rw [endb_append, ih.2]; rfl
  | @line t l _ hl ih =>
    have s : ∀ off, starts false off l = [] := fun off => (starts_noNl l off hl).1
    have e := (starts_noNl l 0 hl).2
    refine ⟨fun off => ?_, ?_⟩
    · rw [starts_append, starts_append, ih.1, ih.2]
      simp [starts, endb, s, e]
    · rw [endb_append, endb_append, ih.2]
      simp [endb]
/-- a chunk as the law writes it -/
def Chunk (t : List Nat) : Prop := ∃ c l m, t = c :: (l ++ [10] ++ m) ∧ c ≠ 32 ∧ c ≠ 10 ∧ NoNl l ∧ Tail m
theorem chunk_ok {t : List Nat} (h : Chunk t) : (∀ off, starts true off t = [off]) ∧ endb true t = true := by
  obtain ⟨c, l, m, rfl, h1, h2, hl, hm⟩ := h
  have e1 : (c == 32) = false := by simp [h1]
  have e2 : (c == 10) = false := by simp [h2]
  have s : ∀ off, starts false off l = [] := fun off => (starts_noNl l off hl).1
  have e := (starts_noNl l 0 hl).2
  obtain ⟨t1, t2⟩ := tail_ok hm
  refine ⟨fun off => ?_, ?_⟩
  · simp only [starts, e1, e2]
    rw [starts_append, starts_append, endb_append, s, e]
    simp [starts, endb, t1]
  · simp only [endb, e2]
    rw [endb_append, endb_append, e]
    simp [endb, t2]
theorem chunk_ne {t : List Nat} (h : Chunk t) : t ≠ [] := by
  obtain ⟨c, l, m, rfl, _⟩ := h
  simp
/-- all of a text whose only start is the first sign, less its last sign -/
theorem starts_take {t : List Nat} {off n : Nat} (h : starts true off t = [off]) (hn : 0 < n) : starts true off (t.take n) = [off] := by
  cases t with
  | nil => simp [starts] at h
  | cons c r =>
    obtain ⟨n, rfl⟩ : ∃ m, n = m + 1 := ⟨n - 1, by omega⟩
    have hs := starts_append ((c :: r).take (n + 1)) ((c :: r).drop (n + 1)) true off
    rw [List.take_append_drop, h] at hs
    rw [List.take_succ_cons] at hs ⊢
    by_cases hb : (c == 32 || c == 10) = true
    · simp only [starts, hb] at h
      have : ∀ (l : List Nat) (b : Bool) (o : Nat), ∀ x ∈ starts b o l, o ≤ x := by
        intro l
        induction l with
        | nil => intro b o x hx; simp [starts] at hx
        | cons c r ih =>
          intro b o x hx
          simp only [starts] at hx
          split at hx
          · rcases List.mem_cons.mp hx with rfl | hx
            · exact Nat.le_refl _
            · have := ih _ _ x hx; omega
          · have := ih _ _ x hx; omega
      have := this r (c == 10) (off + 1) off (by simp at h; rw [h]; simp)
      omega
    · have hb' : (c == 32 || c == 10) = false := by simpa using hb
      simp only [starts, hb', Bool.not_false, Bool.and_true, if_true] at hs ⊢
      have := List.append_eq_singleton_iff.mp hs.symm
      simp at this
      rw [this.1]
/-- a list of chunks, the last one perhaps cut -/
def Part (t : List Nat) : Prop := ∀ off, starts true off t = [off]
theorem part_ne {t : List Nat} (h : Part t) : t ≠ [] := by
  intro e
  have := h 0
  rw [e] at this
  simp [starts] at this
/-- where the chunks start -/
def offs (o : Nat) : List (List Nat) → List Nat
  | [] => []
  | c :: r => o :: offs (o + c.length) r
theorem offs_len : ∀ (C : List (List Nat)) (o : Nat), (offs o C).length = C.length
  | [], _ => rfl
  | _ :: r, o => by simp [offs, offs_len r]
theorem offs_append : ∀ (C D : List (List Nat)) (o : Nat), offs o (C ++ D) = offs o C ++ offs (o + C.flatten.length) D
  | [], D, o => by simp [offs]
  | c :: r, D, o => by
    simp only [List.cons_append, offs, offs_append r D, List.flatten_cons, List.length_append]
    rw [Nat.add_assoc]
theorem starts_all : ∀ (C : List (List Nat)) (o : Nat), (∀ c ∈ C, Part c ) → (∀ c ∈ C.dropLast, endb true c = true) → starts true o C.flatten = offs o C
  | [], _, _, _ => rfl
  | [c], o, h, _ => by
    simp only [List.flatten_cons, List.flatten_nil, List.append_nil, offs]
    exact h c (List.mem_singleton.mpr rfl) o
  | c :: d :: r, o, h, he => by
    have ih := starts_all (d :: r) (o + c.length) (fun x hx => h x (List.mem_cons_of_mem _ hx)) (fun x hx => he x (by
      rw [List.dropLast_cons_of_ne_nil (by simp)]
      exact List.mem_cons_of_mem _ hx))
    rw [List.flatten_cons, starts_append, h c (List.mem_cons_self ..), he c (by rw [List.dropLast_cons_of_ne_nil (by simp)]; exact List.mem_cons_self ..), ih]
    rfl
/-- the whole text's starts -/
theorem starts_text {before : List Nat} {C : List (List Nat)} (hb : Tail before) (h : ∀ c ∈ C, Part c) (he : ∀ c ∈ C.dropLast, endb true c = true) :
    (List.range (before ++ C.flatten).length).filter (isStart (before ++ C.flatten)) = offs before.length C := by
  rw [filter_starts, starts_append, (tail_ok hb).1, (tail_ok hb).2, starts_all C _ h he]
  simp
/-- the k-th slice is the k-th chunk -/
theorem slice_at : ∀ (C : List (List Nat)) (pre : List Nat) (k : Nat) (c : List Nat), C[k]? = some c →
    ∃ s e, (offs pre.length C)[k]? = some s ∧ ((offs pre.length C).drop 1 ++ [(pre ++ C.flatten).length])[k]? = some e ∧ s ≤ e ∧ e ≤ (pre ++ C.flatten).length ∧ ((pre ++ C.flatten).drop s).take (e - s) = c
  | [], _, _, _, h => by simp at h
  | c :: r, pre, 0, d, h => by
    have e : c = d := Option.some.inj h
    subst e
    refine ⟨pre.length, pre.length + c.length, rfl, ?_, by omega, by simp, ?_⟩
    · cases r with
      | nil => simp [offs]
      | cons x y => simp [offs]
    · simp
  | c :: r, pre, k + 1, d, h => by
    obtain ⟨s, e, h1, h2, h3, h4, h5⟩ := slice_at r (pre ++ c) k d h
    have ef : pre ++ c ++ r.flatten = pre ++ (c :: r).flatten := by simp
    have el : (pre ++ c).length = pre.length + c.length := by simp
    rw [ef] at h2 h4 h5
    rw [el] at h1 h2
    refine ⟨s, e, by simpa [offs] using h1, ?_, h3, h4, h5⟩
    have hr : offs (pre.length + c.length) r ≠ [] := by
      intro z
      rw [z] at h1
      simp at h1
    obtain ⟨a, l, ea⟩ := List.exists_cons_of_ne_nil hr
    rw [ea] at h2
    simp only [offs, List.drop_succ_cons, List.drop_zero] at h2 ⊢
    rw [ea, List.cons_append, List.getElem?_cons_succ]
    exact h2
theorem offs_bound : ∀ (C : List (List Nat)) (o : Nat), ∀ x ∈ offs o C, x ≤ o + C.flatten.length
  | [], _, x, h => by simp [offs] at h
  | c :: r, o, x, h => by
    simp only [offs] at h
    rcases List.mem_cons.mp h with rfl | h
    · omega
    · have := offs_bound r _ x h
      simp only [List.flatten_cons, List.length_append]
      omega
end Q20
namespace Q20
open PySem PySem.Spec PyProof.Rows L2 SX
def topS (i : Nat) : Stmt := PySem.Challenge.pw_quillrun_k20_chunks_of_a_text.main.body.getD i (.Pass ⟨0, 0, 0, 0⟩)
abbrev sChunks : Stmt := topS 2
abbrev sStart : Stmt := topS 3
abbrev sNext : Stmt := topS 5
abbrev sSame : Stmt := topS 6
abbrev sChar : Stmt := topS 7
abbrev sLine : Stmt := topS 8
abbrev sLines : Stmt := topS 9
abbrev sLaw : Stmt := topS 10
theorem scChunks : FnScope ["text", "starts", "ends", "position", "start", "end"] ["text"] (defScope sChunks) := ⟨rfl, rfl, rfl, by decide +kernel, rfl, by decide +kernel, by decide +kernel⟩
theorem scStart : FnScope ["text", "position", "starts_line"] ["text", "position"] (defScope sStart) := ⟨rfl, rfl, rfl, by decide +kernel, rfl, by decide +kernel, by decide +kernel⟩
theorem scNext : FnScope ["state", "limit", "cell", "value"] ["state", "limit"] (defScope sNext) := ⟨rfl, rfl, rfl, by decide +kernel, rfl, by decide +kernel, by decide +kernel⟩
theorem scSame : FnScope ["actual", "expected", "k"] ["actual", "expected"] (defScope sSame) := ⟨rfl, rfl, rfl, by decide +kernel, rfl, by decide +kernel, by decide +kernel⟩
theorem scChar : FnScope ["index", "chars"] ["index"] (defScope sChar) := ⟨rfl, rfl, rfl, by decide +kernel, rfl, by decide +kernel, by decide +kernel⟩
theorem scLine : FnScope ["state", "line", "k"] ["state"] (defScope sLine) := ⟨rfl, rfl, rfl, by decide +kernel, rfl, by decide +kernel, by decide +kernel⟩
theorem scLines : FnScope ["state", "count", "text", "k"] ["state", "count"] (defScope sLines) := ⟨rfl, rfl, rfl, by decide +kernel, rfl, by decide +kernel, by decide +kernel⟩
theorem scLaw : FnScope ["script", "state", "text", "expected", "before", "count", "k", "chunk", "actual", "position"] ["script"] (defScope sLaw) := ⟨rfl, rfl, rfl, by decide +kernel, rfl, by decide +kernel, by decide +kernel⟩
structure Txt (mg : Str → Option Value) : Prop where
  len : mg "len" = none
  range : mg "range" = none
  zip : mg "zip" = none
  int : mg "int" = none
  isi : mg "isinstance" = none
  bool : mg "bool" = none
  str : mg "str" = none
  tuple : mg "tuple" = none
  list : mg "list" = none
  blanks : ∃ t, mg "BLANKS" = some (.str " \n" t)
theorem same_upd {H : Hp} {p : Addr} {o : HO} (h : H p = none) : Same H (upd H p o) := fun b x e => by
  rw [upd_ne (ne_of_none e h)]
  exact e
section
variable {P : Program} {w : World} {K : PySem.W.Frag} {mg : Str → Option Value} {base : Heap}
theorem small (n : Nat) (h : n ≤ 100000) : n ≤ sizeLine := Nat.le_trans h (by decide)
/-! ### is_start -/
def spStart : Sp := fun vs H Q _ => ∃ (t : List Nat) (k : Nat), vs = [.str (S t), .int (k : Int)] ∧ k < t.length ∧ t.length ≤ 100000 ∧ Q (.bl (isStart t k)) H
theorem blank_dec (c : Nat) : decide (c ∈ [32, 10]) = (c == 32 || c == 10) := by
  rw [Bool.eq_iff_iff]
  simp
theorem sign_at {t : List Nat} {k : Nat} (h : k < t.length) : atI (S t).cps.toList (k : Int) = some (t.getD k 0) := by
  show atI t.toArray.toList (k : Int) = _
  refine atI_nat ?_
  simp [List.getD_eq_getElem?_getD, h]
theorem ok_start {f : Addr} {fd : FuncData} {k : Nat} (F : Fun K "is_start" "is_start" sStart f fd) (T : Txt mg) : FnOk P w K mg base CX0 (k + 1) f fd ["text", "position"] spStart := by
  refine F.ok scStart (fun vs H Q E h => ?_) (fun cdv A outer s H vs Q E hr h => ?_)
  · obtain ⟨t, k, rfl, _⟩ := h
    rfl
  · obtain ⟨t, k, rfl, hk, hl, q⟩ := h
    obtain ⟨tb, hB⟩ := T.blanks
    refine ⟨_, C8.pss_cut (ps_set (i := 2) scStart.nd rfl (.inl rfl) (pe_or (pe_cmpR op_eq (pv 1) pe_int (nomark _)) (pe_one (pe_cmpR op_eq (pe_ix ix_str (pv 0) (pe_op op_sub (pv 1) pe_int) (fun _ _ => rfl)) pe_str (nomark _)))))
      (pss_one (ps_ret (pe_and (pv 2) (pe_one (pe_cmpR op_notIn_sign (pe_ix ix_str (pv 0) (pv 1) (fun _ _ => rfl)) (pe_glob (v := .str " \n") rfl hB ⟨_, rfl⟩) rfl))))), ?_⟩
    have hlen : (S t).length ≤ sizeLine := by rw [S_len]; exact small _ hl
    refine ⟨fun σ' H' => H' = H ∧ σ' = [some (.str (S t)), some (.int k), some (.bl (k == 0 || t.getD (k - 1) 0 == 10))], ?_, ?_⟩
    · refine ⟨.int k, rfl, rfl, _, rfl, ite2 (fun e => ?_) (fun e => ?_)⟩
      · have e0 : (k : Int) = 0 := V.int.inj (of_decide_eq_true e)
        have e1 : k = 0 := by omega
        exact ⟨rfl, by rw [e1]; rfl⟩
      · have e0 : ¬ k = 0 := fun z => e (decide_eq_true (by rw [z]; rfl))
        have h1 : k - 1 < t.length := by omega
        refine ⟨.str (S t), rfl, .int k, rfl, _, _, rfl, rfl, S t, _, t.getD (k - 1) 0, rfl, rfl, hlen, ?_, rfl, ?_⟩
        · have : (k : Int) - 1 = ((k - 1 : Nat) : Int) := by omega
          rw [this]
          exact sign_at h1
        · have e2 : (k == 0) = false := by simp [e0]
          have e3 : ("\n" : Str) = S [10] := by decide +kernel
          refine ⟨rfl, ?_⟩
          rw [e2, Bool.false_or, dec_str, e3]
          show ([some (V.str (S t)), some (V.int k), some (V.bl (S [t.getD (k - 1) 0] == S [10]))] : L2.St) = _
          rw [S_beq]
          simp
    · rintro σ' H' ⟨rfl, rfl⟩
      refine ⟨_, rfl, _, rfl, ?_⟩
      unfold isStart at q
      cases hb : (k == 0 || t.getD (k - 1) 0 == 10) with
      | false =>
        rw [hb] at q
        exact iteF q
      | true =>
        rw [hb, Bool.true_and] at q
        refine iteT ?_
        refine ⟨.str (S t), rfl, .int k, rfl, S t, k, t.getD k 0, rfl, rfl, hlen, sign_at hk, t.getD k 0, " \n", rfl, rfl, ?_⟩
        have e : (!decide (t.getD k 0 ∈ (" \n" : Str).cps.toList)) = (!(t.getD k 0 == 32 || t.getD k 0 == 10)) := by
          have : (" \n" : Str).cps.toList = [32, 10] := by decide +kernel
          rw [this]
          rw [blank_dec]
        rw [e]
        exact q
end
end Q20
namespace Q20
open PySem PySem.Spec PyProof.Rows L2 SX
section
variable {X : Cx}
/-- o[i] of a list, for o[i] op= e -/
def rGetL (K : PySem.W.Frag) : V → V → Hp → VK → Prop := fun x y H Q => ∃ p xs i v, x = .ref p ∧ y = .int i ∧ SqL K H p xs ∧ 0 ≤ i ∧ atI xs i = some v ∧ Q v H
theorem pget_list : PGet X (rGetL X.K) := by
  intro pins s σ H x y v u Q I rx ry h
  obtain ⟨p, xs, i, z, rfl, rfl, hq, h0, he, q⟩ := h
  cases rx
  obtain ⟨t, rfl⟩ := ry
  obtain ⟨its, r, pl, hz⟩ := I.list hq
  obtain ⟨j, h1, h2, h3, h4, h5⟩ := atI_get he
  obtain ⟨w, ew, rw'⟩ := r.get h2
  have hl := r.length
  have hn := line63
  have hj : i.toNat = j := by
    rw [seqIndex_of h0 h5] at h1
    exact Option.some.inj h1
  exact wpAny_getItem_list pl.isList h0 (by omega) (by rw [hj]; simpa using ew) ⟨z, H, I, rw', q⟩
end
section
variable {P : Program} {w : World} {K : PySem.W.Frag} {mg : Str → Option Value} {base : Heap}
/-! ### _law_next -/
def StAt (H : Hp) (p q : Addr) (ns : List Int) : Prop := H q = some (.lst (ns.map V.int)) ∧ ns.length ≤ 63 ∧ ∃ (i c z : Int), H p = some (.lst [.ref q, .int i, .int c, .int z]) ∧ 0 ≤ i ∧ 0 ≤ c ∧ 0 ≤ z ∧ z < 2147483648
/-- all but p is as it was -/
def But (H H' : Hp) (p : Addr) : Prop := ∀ b, b ≠ p → H' b = H b
theorem StAt.upd {H : Hp} {p q : Addr} {ns : List Int} (h : StAt H p q ns) {i c z : Int} (hi : 0 ≤ i) (hc : 0 ≤ c) (hz : 0 ≤ z) (hz2 : z < 2147483648) : StAt (upd H p (.lst [.ref q, .int i, .int c, .int z])) p q ns := by
  obtain ⟨h1, hl, i0, c0, z0, h2, _⟩ := h
  have ne : q ≠ p := by
    intro e
    subst e
    rw [h1] at h2
    have e2 := HO.lst.inj (Option.some.inj h2)
    cases ns with
    | nil => cases e2
    | cons x r => cases e2
  exact ⟨by rw [upd_ne ne]; exact h1, hl, i, c, z, upd_same, hi, hc, hz, hz2⟩
theorem but_upd {H : Hp} {p : Addr} {o : HO} : But H (upd H p o) p := fun _ h => upd_ne h
theorem But.refl {H : Hp} {p : Addr} : But H H p := fun _ _ => rfl
theorem But.trans {H H1 H2 : Hp} {p : Addr} (a : But H H1 p) (b : But H1 H2 p) : But H H2 p := fun c h => (b c h).trans (a c h)
def spNext : Sp := fun vs H Q _ => ∃ (p q : Addr) (ns : List Int) (lim : Int), vs = [.ref p, .int lim] ∧ StAt H p q ns ∧ 0 < lim ∧ lim < 1000 ∧
  ∀ H' v, StAt H' p q ns → But H H' p → 0 ≤ v → v < lim → Q (.int v) H'
theorem ok_next {f : Addr} {fd : FuncData} {k : Nat} (F : Fun K "_law_next" "_law_next" sNext f fd) (T : Txt mg) : FnOk P w K mg base CX0 (k + 1) f fd ["state", "limit"] spNext := by
  refine F.ok scNext (fun vs H Q E h => ?_) (fun cdv A outer s H vs Q E hr h => ?_)
  · obtain ⟨p, q, ns, lim, rfl, _⟩ := h
    rfl
  · obtain ⟨p, q, ns, lim, rfl, hS, l0, l1, qq⟩ := h
    refine ⟨_, C8.pss_cut (ps_if (PW.pt (pw_and (pt_cmpR op_eq (pe_ix ix_list (pv 0) pe_int (fun _ _ => rfl)) pe_int (nomark _))
          (pw_and1 (pt_cmpR op_lt (pe_ix ix_list (pv 0) pe_int (fun _ _ => rfl)) (pe_callB call_len_seq (by rfl) T.len PySem.boot_len (pa_cons (pe_ix ix_list (pv 0) pe_int (fun _ _ => rfl)) pa_nil)) (nomark _)))))
        (pss_cons (ps_set (i := 2) scNext.nd rfl (.inl rfl) (pe_ix ix_list (pe_ix ix_list (pv 0) pe_int (fun _ _ => rfl)) (pe_ix ix_list (pv 0) pe_int (fun _ _ => rfl)) (fun _ _ => rfl)))
        (pss_cons (ps_augS (pv 0) pe_int pget_list pe_int ip_add set_list)
        (pss_one (ps_if (pt_cmpR op_ge (pv 2) (pe_op op_pow pe_int pe_int) (nomark _))
          (pss_one (ps_asg (pv 2) (pg_sub (pv 0) pe_int set_list)))
          (pss_one (ps_asg (pe_op op_mod (pe_callTy call_int1 (by rfl) T.int (by decide +kernel) (pa_cons (pe_op op_add (pe_op op_add (pe_op op_mul (pe_ix ix_list (pv 0) pe_int (fun _ _ => rfl)) pe_int) (pe_op op_mod (pe_callTy call_int1 (by rfl) T.int (by decide +kernel) (pa_cons (pv 2) pa_nil)) pe_int)) pe_int) pa_nil)) pe_int) (pg_sub (pv 0) pe_int set_list)))))))
        pss_nil)
      (pss_cons (ps_if (pt_cmpR op_gt (pe_ix ix_list (pv 0) pe_int (fun _ _ => rfl)) pe_int (nomark _))
        (pss_cons (ps_set (i := 3) scNext.nd rfl (.inl rfl) (pe_op op_mod (pe_callTy call_int1 (by rfl) T.int (by decide +kernel) (pa_cons (pe_ix ix_list (pv 0) pe_int (fun _ _ => rfl)) pa_nil)) (pv 1)))
        (pss_cons (ps_asg (pe_op op_fdiv (pe_ix ix_list (pv 0) pe_int (fun _ _ => rfl)) (pv 1)) (pg_sub (pv 0) pe_int set_list))
        (pss_one (ps_ret (pv 3)))))
        pss_nil)
      (pss_cons (ps_asg (pe_op op_mod (pe_callTy call_int1 (by rfl) T.int (by decide +kernel) (pa_cons (pe_op op_add (pe_op op_mul (pe_ix ix_list (pv 0) pe_int (fun _ _ => rfl)) pe_int) pe_int) pa_nil)) pe_int) (pg_sub (pv 0) pe_int set_list))
      (pss_one (ps_ret (pe_op op_mod (pe_callTy call_int1 (by rfl) T.int (by decide +kernel) (pa_cons (pe_op op_fdiv (pe_ix ix_list (pv 0) pe_int (fun _ _ => rfl)) pe_int) pa_nil)) (pv 1)))))), ?_⟩
    obtain ⟨hq, hlen, i, c, z, hp, hi, hc, hz, hz2⟩ := id hS
    refine ⟨fun σ' H' => StAt H' p q ns ∧ But H H' p ∧ ∃ y, σ' = [some (.ref p), some (.int lim), y, none], ?_, ?_⟩
    · refine ⟨.ref p, rfl, p, _, 2, .int c, rfl, rfl, SqL.of hp, rfl, rfl, _, rfl, ite2 (fun e => ?_) (fun e => iteF ⟨hS, But.refl, _, rfl⟩)⟩
      refine ⟨.ref p, rfl, p, _, 1, .int i, rfl, rfl, SqL.of hp, rfl, .ref p, rfl, p, _, 0, .ref q, rfl, rfl, SqL.of hp, rfl, q, _, rfl, .inl (SqL.of hq), _, _, rfl, rfl, _, rfl, ite2 (fun e2 => ?_) (fun e2 => ⟨hS, But.refl, _, rfl⟩)⟩
      have h2 : i < (ns.map V.int).length := of_decide_eq_true e2
      rw [List.length_map] at h2
      have hg : (ns.map V.int)[i.toNat]? = some (.int (ns.getD i.toNat 0)) := by
        have : i.toNat < ns.length := by omega
        simp [this]
      have hat : atI (ns.map V.int) i = some (.int (ns.getD i.toNat 0)) := by
        have : i = (i.toNat : Int) := by omega
        rw [this]
        exact atI_nat hg
      generalize ns.getD i.toNat 0 = x at hat
      refine ⟨.ref p, rfl, p, _, 0, .ref q, rfl, rfl, SqL.of hp, rfl, .ref p, rfl, p, _, 1, .int i, rfl, rfl, SqL.of hp, rfl, q, _, i, _, rfl, rfl, SqL.of hq, hat, ?_⟩
      refine ⟨.ref p, rfl, p, _, 1, .int i, rfl, rfl, SqL.of hp, by decide, rfl, i, 1, rfl, rfl, p, _, 1, 1, rfl, rfl, hp, rfl, ?_⟩
      have s1 := hS.upd (i := i + 1) (c := c) (z := z) (by omega) hc hz hz2
      refine ⟨_, rfl, _, _, rfl, rfl, ⟨by decide, by decide, by decide⟩, _, _, rfl, rfl, _, rfl, ite2 (fun e3 => ?_) (fun e3 => ?_)⟩
      · have h3 : (10 : Int) ^ 18 ≤ x := of_decide_eq_true e3
        have h4 : (0 : Int) ≤ x := Int.le_trans (by decide) h3
        refine ⟨_, rfl, .ref p, rfl, p, _, 2, 2, rfl, rfl, upd_same, rfl, ?_⟩
        rw [upd_upd]
        exact ⟨hS.upd (by show (0 : Int) ≤ i + 1; omega) h4 hz hz2, but_upd, _, rfl⟩
      · refine ⟨.ref p, rfl, p, _, 3, .int z, rfl, rfl, SqL.of upd_same, rfl, z, 48271, rfl, rfl, .inl ⟨by omega, by omega⟩, _, rfl, .inl ⟨x, rfl, x, _, rfl, rfl, (by show (0 : Int) < 2147483647; decide), _, _, rfl, rfl, _, _, rfl, rfl, .inl ⟨_, rfl, _, _, rfl, rfl, (by show (0 : Int) < 2147483647; decide), .ref p, rfl, p, _, 3, 3, rfl, rfl, upd_same, rfl, ?_⟩⟩⟩
        rw [upd_upd]
        refine ⟨hS.upd (by show (0 : Int) ≤ i + 1; omega) hc ?_ ?_, but_upd, _, rfl⟩
        · exact Int.emod_nonneg _ (by decide)
        · have := Int.emod_lt_of_pos (z * 48271 + x % 2147483647 + 7) (b := 2147483647) (by decide)
          omega
    · rintro σ' H' ⟨hS', hB, y, rfl⟩
      obtain ⟨hq', hlen', i', c', z', hp', hi', hc', hz', hz2'⟩ := id hS'
      refine ⟨.ref p, rfl, p, _, 2, .int c', rfl, rfl, SqL.of hp', rfl, c', 0, rfl, rfl, _, rfl, ite2 (fun e => ?_) (fun e => ?_)⟩
      · refine ⟨.ref p, rfl, p, _, 2, .int c', rfl, rfl, SqL.of hp', rfl, .inl ⟨c', rfl, .int lim, rfl, c', lim, rfl, rfl, l0, ?_⟩⟩
        refine ⟨.ref p, rfl, p, _, 2, .int c', rfl, rfl, SqL.of hp', rfl, .int lim, rfl, c', lim, rfl, rfl, ⟨l0, by omega⟩, .ref p, rfl, p, _, 2, 2, rfl, rfl, hp', rfl, _, rfl, ?_⟩
        refine qq _ _ (hS'.upd hi' (Int.ediv_nonneg hc' (by omega)) hz' hz2') (hB.trans but_upd) (Int.emod_nonneg _ (by omega)) (Int.emod_lt_of_pos _ l0)
      · refine ⟨.ref p, rfl, p, _, 3, .int z', rfl, rfl, SqL.of hp', rfl, z', 69621, rfl, rfl, .inl ⟨by omega, by omega⟩, _, _, rfl, rfl, .inl ⟨_, rfl, _, _, rfl, rfl, (by show (0 : Int) < 2147483647; decide), .ref p, rfl, p, _, 3, 3, rfl, rfl, hp', rfl, ?_⟩⟩
        have b1 : 0 ≤ (z' * 69621 + 12345) % 2147483647 := Int.emod_nonneg _ (by decide)
        have b2 := Int.emod_lt_of_pos (z' * 69621 + 12345) (b := 2147483647) (by decide)
        refine ⟨.ref p, rfl, p, _, 3, .int ((z' * 69621 + 12345) % 2147483647), rfl, rfl, SqL.of upd_same, rfl, _, 7, rfl, rfl, ⟨by decide, by decide⟩, .inl ⟨_, rfl, .int lim, rfl, _, lim, rfl, rfl, l0, ?_⟩⟩
        exact qq _ _ (hS'.upd hi' hc' b1 (by omega)) (hB.trans but_upd) (Int.emod_nonneg _ (by omega)) (Int.emod_lt_of_pos _ l0)
end
end Q20
namespace Q20
open PySem PySem.Spec PyProof.Rows L2 SX
section
variable {P : Program} {w : World} {K : PySem.W.Frag} {mg : Str → Option Value} {base : Heap}
/-! ### _law_char -/
def spChar : Sp := fun vs H Q _ => ∃ (i : Int), vs = [.int i] ∧ 0 ≤ i ∧ i < 95 ∧ ∀ c : Nat, (i ≤ 93 → c ≠ 10) → (1 ≤ i → c ≠ 32) → Q (.str (S [c])) H
def tableA : Str := " '!\"#$&()*+,-./0123456789:;<=>?@ABCDEFGHIJKLMNOPQRSTUVWXYZ[\\]^_`"
def tableB : Str := "abcdefghijklmnopqrstuvwxyz{|}~\n"
def codesT : List Nat := (tableA ++ tableB).cps.toList
theorem codes_ok : codesT.length = 95 ∧ ∀ k, k < 95 → (k ≤ 93 → codesT.getD k 0 ≠ 10) ∧ (1 ≤ k → codesT.getD k 0 ≠ 32) := by decide +kernel
theorem tab_len : (tableA ++ tableB).length = 95 ∧ tableA.length + tableB.length = 95 := by decide +kernel
theorem ok_char {f : Addr} {fd : FuncData} {k : Nat} (F : Fun K "_law_char" "_law_char" sChar f fd) (T : Txt mg) : FnOk P w K mg base CX0 (k + 1) f fd ["index"] spChar := by
  refine F.ok scChar (fun vs H Q E h => ?_) (fun cdv A outer s H vs Q E hr h => ?_)
  · obtain ⟨i, rfl, _⟩ := h
    rfl
  · obtain ⟨i, rfl, h0, h1, q⟩ := h
    refine ⟨_, pss_cons (ps_set (i := 1) scChar.nd rfl (.inl rfl) pe_str) (pss_cons (ps_set (i := 1) scChar.nd rfl (.inl rfl) (pe_op op_add_str (pv 1) pe_str))
      (pss_one (ps_ret (pe_ix ix_str (pv 1) (pe_op op_mod (pe_callTy call_int1 (by rfl) T.int (by decide +kernel) (pa_cons (pv 0) pa_nil)) pe_int) (fun _ _ => rfl))))), ?_⟩
    refine ⟨.str tableA, rfl, tableA, tableB, rfl, rfl, ?_, .str (tableA ++ tableB), rfl, .int i, rfl, .inl ⟨i, rfl, i, 95, rfl, rfl, (by show (0 : Int) < 95; decide), tableA ++ tableB, i % 95, codesT.getD i.toNat 0, rfl, rfl, ?_, ?_, ?_⟩⟩
    · rw [tab_len.2]; decide
    · rw [tab_len.1]; decide
    · have e : i % 95 = (i.toNat : Int) := by
        rw [Int.emod_eq_of_lt h0 h1]; omega
      rw [e]
      refine atI_nat ?_
      show codesT[i.toNat]? = _
      have : i.toNat < codesT.length := by rw [codes_ok.1]; omega
      rw [List.getD_eq_getElem?_getD, List.getElem?_eq_getElem this]
      rfl
    · obtain ⟨c1, c2⟩ := codes_ok.2 i.toNat (by omega)
      exact q _ (fun h => c1 (by omega)) (fun h => c2 (by omega))
/-! ### _law_line -/
def spLine : Sp := fun vs H Q _ => ∃ (p q : Addr) (ns : List Int), vs = [.ref p] ∧ StAt H p q ns ∧ ∀ H' l, StAt H' p q ns → But H H' p → NoNl l → l.length ≤ 8 → Q (.str (S l)) H'
theorem S_app (a b : List Nat) : (S a ++ S b : Str) = S (a ++ b) := S_cat a b
theorem ok_line {f fN fC : Addr} {fd fdN fdC : FuncData} {k : Nat} (F : Fun K "_law_line" "_law_line" sLine f fd) (T : Txt mg)
    (FN : Fun K "_law_next" "_law_next" sNext fN fdN) (bN : Binds K fdN ["state", "limit"] []) (gN : mg "_law_next" = some (.ref fN))
    (FC : Fun K "_law_char" "_law_char" sChar fC fdC) (bC : Binds K fdC ["index"] []) (gC : mg "_law_char" = some (.ref fC)) : FnOk P w K mg base CX0 (k + 2) f fd ["state"] spLine := by
  have GN : FnOk P w K mg base CX0 (k + 1) fN fdN ["state", "limit"] spNext := ok_next FN T
  have GC : FnOk P w K mg base CX0 (k + 1) fC fdC ["index"] spChar := ok_char FC T
  refine F.ok scLine (fun vs H Q E h => ?_) (fun cdv A outer s H vs Q E hr h => ?_)
  · obtain ⟨p, q, ns, rfl, _⟩ := h
    rfl
  · obtain ⟨p, q, ns, rfl, hS, qq⟩ := h
    refine ⟨_, pss_cons (ps_set (i := 1) scLine.nd rfl (.inl rfl) pe_str)
      (pss_cons (ps_for PassesOwn.never rfl (pi_range1 (by rfl) T.range (pa_cons (pe_call GN hr (by rfl) gN FN.kp bN .nil pass0 (pa_cons (pv 0) (pa_cons pe_int pa_nil))) pa_nil)) (pg_name (i := 2) scLine.nd rfl (.inl rfl))
        (pss_one (ps_set (i := 1) scLine.nd rfl (.inl rfl) (pe_op op_add_str (pv 1) (pe_call GC hr (by rfl) gC FC.kp bC .nil pass0 (pa_cons (pe_call GN hr (by rfl) gN FN.kp bN .nil pass0 (pa_cons (pv 0) (pa_cons pe_int pa_nil))) pa_nil))))))
      (pss_one (ps_ret (pv 1)))), ?_⟩
    refine ⟨.ref p, rfl, p, q, ns, 9, rfl, hS, by decide, by decide, fun H1 v S1 B1 v0 v1 => ⟨v, rfl, by omega, by omega, ?_⟩⟩
    have e0 : ("" : Str) = S [] := by decide +kernel
    rw [e0]
    refine for_range (lo := 0) (n := v.toNat) (fun i σ H' => StAt H' p q ns ∧ But H H' p ∧ ∃ l y, σ = [some (.ref p), some (.str (S l)), y] ∧ NoNl l ∧ l.length = i) ⟨S1, B1, [], none, rfl, (fun _ h => nomatch h), rfl⟩ ?_ ?_
    · rintro i σ H2 hi ⟨S2, B2, l, y, rfl, hl, el⟩
      refine ⟨.str (S l), rfl, .ref p, rfl, p, q, ns, 94, rfl, S2, by decide, by decide, fun H3 u S3 B3 u0 u1 => ⟨u, rfl, u0, by omega, fun c c1 c2 => ⟨S l, S [c], rfl, rfl, ?_, ?_⟩⟩⟩
      · rw [S_len, S_len]
        exact Nat.le_trans (show l.length + [c].length ≤ 100 by simp; omega) (by decide)
      · rw [S_app]
        refine ⟨S3, B2.trans B3, l ++ [c], _, rfl, ?_, by simp [el]⟩
        intro x hx
        rcases List.mem_append.mp hx with hx | hx
        · exact hl x hx
        · rw [List.mem_singleton.mp hx]
          exact c1 (by omega)
    · rintro σ H2 ⟨S2, B2, l, y, rfl, hl, el⟩
      exact ⟨.str (S l), rfl, qq _ _ S2 B2 hl (by omega)⟩
/-! ### _law_lines -/
def spLines : Sp := fun vs H Q _ => ∃ (p q : Addr) (ns : List Int) (n : Int), vs = [.ref p, .int n] ∧ StAt H p q ns ∧ 0 ≤ n ∧ n ≤ 4 ∧ ∀ H' t, StAt H' p q ns → But H H' p → Tail t → t.length ≤ 40 → Q (.str (S t)) H'
theorem ok_lines {f fN fL fC : Addr} {fd fdN fdL fdC : FuncData} {k : Nat} (F : Fun K "_law_lines" "_law_lines" sLines f fd) (T : Txt mg)
    (FN : Fun K "_law_next" "_law_next" sNext fN fdN) (bN : Binds K fdN ["state", "limit"] []) (gN : mg "_law_next" = some (.ref fN))
    (FC : Fun K "_law_char" "_law_char" sChar fC fdC) (bC : Binds K fdC ["index"] []) (gC : mg "_law_char" = some (.ref fC))
    (FL : Fun K "_law_line" "_law_line" sLine fL fdL) (bL : Binds K fdL ["state"] []) (gL : mg "_law_line" = some (.ref fL)) : FnOk P w K mg base CX0 (k + 3) f fd ["state", "count"] spLines := by
  have GN : FnOk P w K mg base CX0 (k + 1) fN fdN ["state", "limit"] spNext := ok_next FN T
  have GL : FnOk P w K mg base CX0 (k + 2) fL fdL ["state"] spLine := ok_line FL T FN bN gN FC bC gC
  refine F.ok scLines (fun vs H Q E h => ?_) (fun cdv A outer s H vs Q E hr h => ?_)
  · obtain ⟨p, q, ns, n, rfl, _⟩ := h
    rfl
  · obtain ⟨p, q, ns, n, rfl, hS, n0, n1, qq⟩ := h
    have hr1 : Room (k + 1) _ := hr.mono (by omega)
    refine ⟨_, pss_cons (ps_set (i := 2) scLines.nd rfl (.inl rfl) pe_str)
      (pss_cons (ps_for PassesOwn.never rfl (pi_range1 (by rfl) T.range (pa_cons (pv 1) pa_nil)) (pg_name (i := 3) scLines.nd rfl (.inl rfl))
        (C8.pss_cut (ps_if (pt_cmpR op_gt (pe_call GN hr1 (by rfl) gN FN.kp bN .nil pass0 (pa_cons (pv 0) (pa_cons pe_int pa_nil))) pe_int (nomark _))
            (pss_one (ps_set (i := 2) scLines.nd rfl (.inl rfl) (pe_op op_add_str (pe_op op_add_str (pv 2) pe_str) (pe_call GL hr (by rfl) gL FL.kp bL .nil pass0 (pa_cons (pv 0) pa_nil)))))
            pss_nil)
        (pss_one (ps_set (i := 2) scLines.nd rfl (.inl rfl) (pe_op op_add_str (pv 2) pe_str)))))
      (pss_one (ps_ret (pv 2)))), ?_⟩
    have e0 : ("" : Str) = S [] := by decide +kernel
    have e1 : (" " : Str) = S [32] := by decide +kernel
    have e2 : ("\n" : Str) = S [10] := by decide +kernel
    have sz : ∀ n : Nat, n ≤ 1000 → n ≤ sizeLine := fun n h => Nat.le_trans h (by decide)
    refine ⟨.int n, rfl, n, rfl, by omega, by omega, ?_⟩
    rw [e0, e1, e2]
    refine for_range (lo := 0) (n := n.toNat) (fun i σ H' => StAt H' p q ns ∧ But H H' p ∧ ∃ t y, σ = [some (.ref p), some (.int n), some (.str (S t)), y] ∧ Tail t ∧ t.length ≤ 10 * i) ⟨hS, But.refl, [], none, rfl, .nil, Nat.zero_le _⟩ ?_ ?_
    · rintro i σ H2 hi ⟨S2, B2, t, y, rfl, ht, el⟩
      refine ⟨fun σ' H' => StAt H' p q ns ∧ But H H' p ∧ ∃ t y, σ' = [some (.ref p), some (.int n), some (.str (S t)), y] ∧ t.length ≤ 10 * i + 9 ∧ Tail (t ++ [10]), ?_, ?_⟩
      · refine ⟨.ref p, rfl, p, q, ns, 3, rfl, S2, by decide, by decide, fun H3 u S3 B3 u0 u1 => ⟨u, 0, rfl, rfl, _, rfl, ite2 (fun e => ?_) (fun e => ?_)⟩⟩
        · refine ⟨.str (S t), rfl, S t, S [32], rfl, rfl, ?_, .ref p, rfl, p, q, ns, rfl, S3, fun H4 l S4 B4 hl ll => ⟨S t ++ S [32], S l, rfl, rfl, ?_, ?_⟩⟩
          · rw [S_len, S_len]
            exact sz _ (by simp; omega)
          · rw [S_app, S_len, S_len]
            exact sz _ (by simp; omega)
          · rw [S_app, S_app]
            refine ⟨S4, (B2.trans B3).trans B4, t ++ [32] ++ l, _, rfl, by simp; omega, ?_⟩
            have := Tail.line ht hl
            simpa using this
        · exact ⟨S3, B2.trans B3, t, _, rfl, by omega, .blank ht⟩
      · rintro σ' H' ⟨S3, B3, t, y, rfl, hl, ht⟩
        refine ⟨.str (S t), rfl, S t, S [10], rfl, rfl, ?_, ?_⟩
        · rw [S_len, S_len]
          exact sz _ (by simp; omega)
        · rw [S_app]
          exact ⟨S3, B3, t ++ [10], _, rfl, ht, by simp; omega⟩
    · rintro σ H2 ⟨S2, B2, t, y, rfl, ht, el⟩
      exact ⟨.str (S t), rfl, qq _ _ S2 B2 ht (by omega)⟩
end
end Q20
namespace Q20
open PySem PySem.Spec PyProof.Rows L2 SX
theorem boot_isi : bootBuiltins "isinstance" = some (.builtin "isinstance") := by decide +kernel
theorem boot_bool : bootBuiltins "bool" = some (.type "bool") := by decide +kernel
theorem boot_int' : bootBuiltins "int" = some (.type "int") := by decide +kernel
theorem boot_str' : bootBuiltins "str" = some (.type "str") := by decide +kernel
theorem boot_tuple' : bootBuiltins "tuple" = some (.type "tuple") := by decide +kernel
theorem boot_list' : bootBuiltins "list" = some (.type "list") := by decide +kernel
section
variable {X : Cx}
/-- isinstance(x, T), T a built-in class -/
def rIsB (K : PySem.W.Frag) : List V → Hp → VK → Prop := fun xs H Q => ∃ (x : V) (T n : String) (b : Bool), xs = [x, .ty n] ∧ TyX K H x (.type T) ∧ kitB T n = some b ∧ Q (.bl b) H
theorem call_isB : CallR X (.builtin "isinstance") (rIsB X.K) := by
  intro pins s σ H xs us Q I r h
  obtain ⟨x, T, n, b, rfl, ty, e, q⟩ := h
  exact call_isi pins s σ H _ us Q I r ⟨x, .ty n, .type T, .type n, b, rfl, .ty n, ty, kit_ty e, q⟩
end
section
variable {P : Program} {w : World} {K : PySem.W.Frag} {mg : Str → Option Value} {base : Heap}
/-! ### _law_same -/
def Leaf (x : V) : Prop := (∃ i, x = .int i) ∨ ∃ z, x = .str z
def spLeaf : Sp := fun vs H Q _ => ∃ x : V, Leaf x ∧ vs = [x, x] ∧ Q (.bl true) H
theorem ok_leaf {f : Addr} {fd : FuncData} {k : Nat} (F : Fun K "_law_same" "_law_same" sSame f fd) (T : Txt mg) : FnOk P w K mg base CX0 (k + 1) f fd ["actual", "expected"] spLeaf := by
  refine F.ok scSame (fun vs H Q E h => ?_) (fun cdv A outer s H vs Q E hr h => ?_)
  · obtain ⟨x, _, rfl, _⟩ := h
    rfl
  · obtain ⟨x, lf, rfl, q⟩ := h
    refine ⟨_, pss_cons (ps_if (pt_cmp (pc_isN (pv 1))) pss_never pss_nil)
      (pss_cons (ps_if (pt_val (pe_callB call_isB (by rfl) T.isi boot_isi (pa_cons (pv 1) (pa_cons (pe_bltn (v := .ty "bool") (by rfl) T.bool boot_bool rfl) pa_nil)))) pss_never pss_nil)
      (pss_cons (ps_if (pt_val (pe_callB call_isB (by rfl) T.isi boot_isi (pa_cons (pv 1) (pa_cons (pe_bltn (v := .ty "int") (by rfl) T.int boot_int' rfl) pa_nil))))
        (pss_one (ps_ret (pe_and (pe_callB call_isB (by rfl) T.isi boot_isi (pa_cons (pv 0) (pa_cons (pe_bltn (v := .ty "int") (by rfl) T.int boot_int' rfl) pa_nil)))
          (pe_and (pe_not (pe_callB call_isB (by rfl) T.isi boot_isi (pa_cons (pv 0) (pa_cons (pe_bltn (v := .ty "bool") (by rfl) T.bool boot_bool rfl) pa_nil)))) (pe_one (pe_cmpR op_eq (pv 0) (pv 1) (nomark _))))))) pss_nil)
      (pss_cons (ps_if (pt_val (pe_callB call_isB (by rfl) T.isi boot_isi (pa_cons (pv 1) (pa_cons (pe_bltn (v := .ty "str") (by rfl) T.str boot_str' rfl) pa_nil))))
        (pss_one (ps_ret (pe_and (pe_callB call_isB (by rfl) T.isi boot_isi (pa_cons (pv 0) (pa_cons (pe_bltn (v := .ty "str") (by rfl) T.str boot_str' rfl) pa_nil))) (pe_one (pe_cmpR op_eq (pv 0) (pv 1) (nomark _)))))) pss_nil)
      pss_never))), ?_⟩
    rcases lf with ⟨i, rfl⟩ | ⟨z, rfl⟩
    · refine ⟨.int i, rfl, _, rfl, ?_⟩
      refine iteF ?_
      refine ⟨.int i, rfl, .int i, "int", "bool", false, rfl, .base (.int i), by decide +kernel, false, rfl, iteF ?_⟩
      refine ⟨.int i, rfl, .int i, "int", "int", true, rfl, .base (.int i), by decide +kernel, true, rfl, iteT ?_⟩
      refine ⟨.int i, rfl, .int i, "int", "int", true, rfl, .base (.int i), by decide +kernel, true, rfl, iteT ?_⟩
      refine ⟨.int i, rfl, .int i, "int", "bool", false, rfl, .base (.int i), by decide +kernel, false, rfl, true, rfl, iteT ?_⟩
      refine ⟨.int i, rfl, .int i, rfl, rfl, ?_⟩
      rw [decide_eq_true rfl]
      exact q
    · refine ⟨.str z, rfl, _, rfl, ?_⟩
      refine iteF ?_
      refine ⟨.str z, rfl, .str z, "str", "bool", false, rfl, .base (.str z), by decide +kernel, false, rfl, iteF ?_⟩
      refine ⟨.str z, rfl, .str z, "str", "int", false, rfl, .base (.str z), by decide +kernel, false, rfl, iteF ?_⟩
      refine ⟨.str z, rfl, .str z, "str", "str", true, rfl, .base (.str z), by decide +kernel, true, rfl, iteT ?_⟩
      refine ⟨.str z, rfl, .str z, "str", "str", true, rfl, .base (.str z), by decide +kernel, true, rfl, iteT ?_⟩
      refine ⟨.str z, rfl, .str z, rfl, rfl, ?_⟩
      rw [decide_eq_true rfl]
      exact q
/-- two tuples of the same leaves -/
def spTup : Sp := fun vs H Q _ => ∃ (a b : Addr) (xs : List V), vs = [.ref a, .ref b] ∧ H a = some (.tup xs) ∧ H b = some (.tup xs) ∧ xs.length ≤ 100000 ∧ (∀ x ∈ xs, Leaf x) ∧ Q (.bl true) H
/-- two lists of such tuples -/
def spLst : Sp := fun vs H Q _ => ∃ (a b : Addr) (ps qs : List Addr), vs = [.ref a, .ref b] ∧ H a = some (.lst (ps.map V.ref)) ∧ H b = some (.lst (qs.map V.ref)) ∧ ps.length = qs.length ∧ ps.length ≤ 100000 ∧
  (∀ (i : Nat) (p q : Addr), ps[i]? = some p → qs[i]? = some q → ∃ xs, H p = some (.tup xs) ∧ H q = some (.tup xs) ∧ xs.length ≤ 100000 ∧ ∀ x ∈ xs, Leaf x) ∧ Q (.bl true) H
theorem ok_tup {f : Addr} {fd : FuncData} {k : Nat} (F : Fun K "_law_same" "_law_same" sSame f fd) (T : Txt mg) (bS : Binds K fd ["actual", "expected"] []) (gS : mg "_law_same" = some (.ref f)) : FnOk P w K mg base CX0 (k + 2) f fd ["actual", "expected"] spTup := by
  have G : FnOk P w K mg base CX0 (k + 1) f fd ["actual", "expected"] spLeaf := ok_leaf F T
  refine F.ok scSame (fun vs H Q E h => ?_) (fun cdv A outer s H vs Q E hr h => ?_)
  · obtain ⟨a, b, xs, rfl, _⟩ := h
    rfl
  · obtain ⟨a, b, xs, rfl, ha, hb, hl, lf, q⟩ := h
    refine ⟨_, pss_cons (ps_if (pt_cmp (pc_isN (pv 1))) pss_never pss_nil)
      (pss_cons (ps_if (pt_val (pe_callB call_isB (by rfl) T.isi boot_isi (pa_cons (pv 1) (pa_cons (pe_bltn (v := .ty "bool") (by rfl) T.bool boot_bool rfl) pa_nil)))) pss_never pss_nil)
      (pss_cons (ps_if (pt_val (pe_callB call_isB (by rfl) T.isi boot_isi (pa_cons (pv 1) (pa_cons (pe_bltn (v := .ty "int") (by rfl) T.int boot_int' rfl) pa_nil)))) pss_never pss_nil)
      (pss_cons (ps_if (pt_val (pe_callB call_isB (by rfl) T.isi boot_isi (pa_cons (pv 1) (pa_cons (pe_bltn (v := .ty "str") (by rfl) T.str boot_str' rfl) pa_nil)))) pss_never pss_nil)
      (pss_cons (ps_if (PW.pt (pw_and (pt_val (pe_callB call_isB (by rfl) T.isi boot_isi (pa_cons (pv 1) (pa_cons (pe_bltn (v := .ty "tuple") (by rfl) T.tuple boot_tuple' rfl) pa_nil)))) (pw_and1 (pt_not (pt_val (pe_callB call_isB (by rfl) T.isi boot_isi (pa_cons (pv 0) (pa_cons (pe_bltn (v := .ty "tuple") (by rfl) T.tuple boot_tuple' rfl) pa_nil)))))))) pss_never pss_nil)
      (pss_cons (ps_if (PW.pt (pw_and (pt_val (pe_callB call_isB (by rfl) T.isi boot_isi (pa_cons (pv 1) (pa_cons (pe_bltn (v := .ty "list") (by rfl) T.list boot_list' rfl) pa_nil)))) (pw_and1 (pt_not (pt_val (pe_callB call_isB (by rfl) T.isi boot_isi (pa_cons (pv 0) (pa_cons (pe_bltn (v := .ty "list") (by rfl) T.list boot_list' rfl) pa_nil)))))))) pss_never pss_nil)
      (pss_cons (ps_if (pt_cmpR op_ne (pe_callB call_len_seq (by rfl) T.len PySem.boot_len (pa_cons (pv 0) pa_nil)) (pe_callB call_len_seq (by rfl) T.len PySem.boot_len (pa_cons (pv 1) pa_nil)) (nomark _)) pss_never pss_nil)
      (pss_cons (ps_for PassesOwn.never rfl (pi_range1 (by rfl) T.range (pa_cons (pe_callB call_len_seq (by rfl) T.len PySem.boot_len (pa_cons (pv 1) pa_nil)) pa_nil)) (pg_name (i := 2) scSame.nd rfl (.inl rfl))
        (pss_one (ps_if (pt_not (pt_val (pe_call G hr (by rfl) gS F.kp bS .nil pass0 (pa_cons (pe_ix ix_tup (pv 0) (pv 2) (fun _ _ => rfl)) (pa_cons (pe_ix ix_tup (pv 1) (pv 2) (fun _ _ => rfl)) pa_nil))))) pss_never pss_nil)))
      (pss_one (ps_ret pe_bl))))))))), ?_⟩
    have ta : TyX K H (.ref a) (.type "tuple") := .base (.tup ha)
    have tb : TyX K H (.ref b) (.type "tuple") := .base (.tup hb)
    refine ⟨_, rfl, _, rfl, iteF ?_⟩
    refine ⟨_, rfl, _, "tuple", "bool", false, rfl, tb, by decide +kernel, false, rfl, iteF ?_⟩
    refine ⟨_, rfl, _, "tuple", "int", false, rfl, tb, by decide +kernel, false, rfl, iteF ?_⟩
    refine ⟨_, rfl, _, "tuple", "str", false, rfl, tb, by decide +kernel, false, rfl, iteF ?_⟩
    refine ⟨_, rfl, _, "tuple", "tuple", true, rfl, tb, by decide +kernel, true, rfl, iteT ?_⟩
    refine ⟨_, rfl, _, "tuple", "tuple", true, rfl, ta, by decide +kernel, true, rfl, iteF ?_⟩
    refine ⟨_, rfl, _, "tuple", "list", false, rfl, tb, by decide +kernel, false, rfl, iteF (iteF ?_)⟩
    refine ⟨_, rfl, a, xs, rfl, .inr (SqT.of ha), _, rfl, b, xs, rfl, .inr (SqT.of hb), rfl, _, rfl, iteNS rfl ?_⟩
    refine ⟨_, rfl, b, xs, rfl, .inr (SqT.of hb), _, rfl, by omega, by omega, ?_⟩
    refine for_range (lo := 0) (n := (xs.length : Int).toNat) (fun i σ H' => H' = H ∧ ∃ y, σ = [some (.ref a), some (.ref b), y]) ⟨rfl, none, rfl⟩ ?_ ?_
    · rintro i σ H' hi ⟨rfl, y, rfl⟩
      have hi' : i < xs.length := by omega
      have e : atI xs ((0 : Int) + i) = some xs[i] := by
        rw [Int.zero_add]
        exact atI_nat (List.getElem?_eq_getElem hi')
      refine ⟨_, rfl, _, rfl, a, xs, _, xs[i], rfl, rfl, SqT.of ha, e, _, rfl, _, rfl, b, xs, _, xs[i], rfl, rfl, SqT.of hb, e, xs[i], lf _ (List.getElem_mem hi'), rfl, true, rfl, iteF ⟨rfl, _, rfl⟩⟩
    · rintro σ H' ⟨rfl, y, rfl⟩
      exact q
theorem ok_lst {f : Addr} {fd : FuncData} {k : Nat} (F : Fun K "_law_same" "_law_same" sSame f fd) (T : Txt mg) (bS : Binds K fd ["actual", "expected"] []) (gS : mg "_law_same" = some (.ref f)) : FnOk P w K mg base CX0 (k + 3) f fd ["actual", "expected"] spLst := by
  have G : FnOk P w K mg base CX0 (k + 2) f fd ["actual", "expected"] spTup := ok_tup F T bS gS
  refine F.ok scSame (fun vs H Q E h => ?_) (fun cdv A outer s H vs Q E hr h => ?_)
  · obtain ⟨a, b, ps, qs, rfl, _⟩ := h
    rfl
  · obtain ⟨a, b, ps, qs, rfl, ha, hb, el, hl, lf, q⟩ := h
    refine ⟨_, pss_cons (ps_if (pt_cmp (pc_isN (pv 1))) pss_never pss_nil)
      (pss_cons (ps_if (pt_val (pe_callB call_isB (by rfl) T.isi boot_isi (pa_cons (pv 1) (pa_cons (pe_bltn (v := .ty "bool") (by rfl) T.bool boot_bool rfl) pa_nil)))) pss_never pss_nil)
      (pss_cons (ps_if (pt_val (pe_callB call_isB (by rfl) T.isi boot_isi (pa_cons (pv 1) (pa_cons (pe_bltn (v := .ty "int") (by rfl) T.int boot_int' rfl) pa_nil)))) pss_never pss_nil)
      (pss_cons (ps_if (pt_val (pe_callB call_isB (by rfl) T.isi boot_isi (pa_cons (pv 1) (pa_cons (pe_bltn (v := .ty "str") (by rfl) T.str boot_str' rfl) pa_nil)))) pss_never pss_nil)
      (pss_cons (ps_if (PW.pt (pw_and (pt_val (pe_callB call_isB (by rfl) T.isi boot_isi (pa_cons (pv 1) (pa_cons (pe_bltn (v := .ty "tuple") (by rfl) T.tuple boot_tuple' rfl) pa_nil)))) (pw_and1 (pt_not (pt_val (pe_callB call_isB (by rfl) T.isi boot_isi (pa_cons (pv 0) (pa_cons (pe_bltn (v := .ty "tuple") (by rfl) T.tuple boot_tuple' rfl) pa_nil)))))))) pss_never pss_nil)
      (pss_cons (ps_if (PW.pt (pw_and (pt_val (pe_callB call_isB (by rfl) T.isi boot_isi (pa_cons (pv 1) (pa_cons (pe_bltn (v := .ty "list") (by rfl) T.list boot_list' rfl) pa_nil)))) (pw_and1 (pt_not (pt_val (pe_callB call_isB (by rfl) T.isi boot_isi (pa_cons (pv 0) (pa_cons (pe_bltn (v := .ty "list") (by rfl) T.list boot_list' rfl) pa_nil)))))))) pss_never pss_nil)
      (pss_cons (ps_if (pt_cmpR op_ne (pe_callB call_len_seq (by rfl) T.len PySem.boot_len (pa_cons (pv 0) pa_nil)) (pe_callB call_len_seq (by rfl) T.len PySem.boot_len (pa_cons (pv 1) pa_nil)) (nomark _)) pss_never pss_nil)
      (pss_cons (ps_for PassesOwn.never rfl (pi_range1 (by rfl) T.range (pa_cons (pe_callB call_len_seq (by rfl) T.len PySem.boot_len (pa_cons (pv 1) pa_nil)) pa_nil)) (pg_name (i := 2) scSame.nd rfl (.inl rfl))
        (pss_one (ps_if (pt_not (pt_val (pe_call G hr (by rfl) gS F.kp bS .nil pass0 (pa_cons (pe_ix ix_list (pv 0) (pv 2) (fun _ _ => rfl)) (pa_cons (pe_ix ix_list (pv 1) (pv 2) (fun _ _ => rfl)) pa_nil))))) pss_never pss_nil)))
      (pss_one (ps_ret pe_bl))))))))), ?_⟩
    have ta : TyX K H (.ref a) (.type "list") := .base (.lst ha)
    have tb : TyX K H (.ref b) (.type "list") := .base (.lst hb)
    refine ⟨_, rfl, _, rfl, iteF ?_⟩
    refine ⟨_, rfl, _, "list", "bool", false, rfl, tb, by decide +kernel, false, rfl, iteF ?_⟩
    refine ⟨_, rfl, _, "list", "int", false, rfl, tb, by decide +kernel, false, rfl, iteF ?_⟩
    refine ⟨_, rfl, _, "list", "str", false, rfl, tb, by decide +kernel, false, rfl, iteF ?_⟩
    refine ⟨_, rfl, _, "list", "tuple", false, rfl, tb, by decide +kernel, false, rfl, iteF (iteF ?_)⟩
    refine ⟨_, rfl, _, "list", "list", true, rfl, tb, by decide +kernel, true, rfl, iteT ?_⟩
    refine ⟨_, rfl, _, "list", "list", true, rfl, ta, by decide +kernel, true, rfl, iteF ?_⟩
    refine ⟨_, rfl, a, _, rfl, .inl (SqL.of ha), _, rfl, b, _, rfl, .inl (SqL.of hb), rfl, _, rfl, iteNS (by rw [List.length_map, List.length_map, el]) ?_⟩
    refine ⟨_, rfl, b, _, rfl, .inl (SqL.of hb), _, rfl, (by rw [List.length_map]; omega), (by rw [List.length_map]; omega), ?_⟩
    refine for_range (lo := 0) (n := ((qs.map V.ref).length : Int).toNat) (fun i σ H' => H' = H ∧ ∃ y, σ = [some (.ref a), some (.ref b), y]) ⟨rfl, none, rfl⟩ ?_ ?_
    · rintro i σ H' hi ⟨rfl, y, rfl⟩
      rw [List.length_map] at hi
      have hi' : i < qs.length := by omega
      have hi2 : i < ps.length := by omega
      have e : atI (ps.map V.ref) ((0 : Int) + i) = some (.ref ps[i]) := by
        rw [Int.zero_add]
        exact atI_nat (by rw [List.getElem?_map, List.getElem?_eq_getElem hi2]; rfl)
      have e' : atI (qs.map V.ref) ((0 : Int) + i) = some (.ref qs[i]) := by
        rw [Int.zero_add]
        exact atI_nat (by rw [List.getElem?_map, List.getElem?_eq_getElem hi']; rfl)
      obtain ⟨xs, h1, h2, h3, h4⟩ := lf i _ _ (List.getElem?_eq_getElem hi2) (List.getElem?_eq_getElem hi')
      refine ⟨_, rfl, _, rfl, a, _, _, _, rfl, rfl, SqL.of ha, e, _, rfl, _, rfl, b, _, _, _, rfl, rfl, SqL.of hb, e', _, _, xs, rfl, h1, h2, h3, h4, true, rfl, iteF ⟨rfl, _, rfl⟩⟩
    · rintro σ H' ⟨rfl, y, rfl⟩
      exact q
end
end Q20
namespace Q20
open PySem PySem.Spec PyProof.Rows L2 SX
theorem cut1 (xs : List V) : cutV xs (some 1) none = xs.drop 1 := by
  unfold cutV
  rw [show HT.sIx xs.length 0 (some 1) = min 1 xs.length from HT.sIx_nat xs.length 0 1, HT.sIx_none]
  cases xs with
  | nil => rfl
  | cons x r =>
    rw [show min 1 (x :: r).length = 1 by
      rw [List.length_cons]
      omega]
    show (List.take ((x :: r).length - 1) r) = r
    rw [List.length_cons, Nat.add_sub_cancel]
    exact List.take_length
theorem cutS_nat (t : List Nat) (a b : Nat) (h : a ≤ b) (h2 : b ≤ t.length) : cutS (S t) (some (a : Int)) (some (b : Int)) = S ((t.drop a).take (b - a)) := by
  unfold cutS
  rw [S_len, HT.sIx_nat, HT.sIx_nat]
  have e1 : min a t.length = a := by omega
  have e2 : min b t.length = b := by omega
  rw [e1, e2]
/-- a comprehension without a test -/
theorem lc_yes {te : TE} {σ : L2.St} {H : Hp} {R : VK} {B : Hp → Prop} (h : te σ H R) : tYes σ H (fun b H3 => if b = true then te σ H3 R else B H3) := by
  show (if true = true then te σ H R else B H)
  rw [if_pos rfl]
  exact h
/-- the told pairs -/
def Pairs (H : Hp) (ps : List Addr) (o : Nat) (C : List (List Nat)) : Prop := ps.length = C.length ∧ ∀ (k : Nat) (c : List Nat), C[k]? = some c → ∃ (a : Addr) (s : Nat), ps[k]? = some a ∧ (offs o C)[k]? = some s ∧ H a = some (.tup [.int (s : Int), .str (S c)])
section
variable {P : Program} {w : World} {K : PySem.W.Frag} {mg : Str → Option Value} {base : Heap}
/-! ### chunks -/
def spChunks : Sp := fun vs H Q _ => ∃ (b : List Nat) (C : List (List Nat)), vs = [.str (S (b ++ C.flatten))] ∧ Tail b ∧ (∀ c ∈ C, Part c) ∧ (∀ c ∈ C.dropLast, endb true c = true) ∧ (b ++ C.flatten).length ≤ 100000 ∧ C.length ≤ 1000 ∧
  ∀ H' p ps, Same H H' → H' p = some (.lst (ps.map V.ref)) → Pairs H' ps b.length C → Q (.ref p) H'
theorem ok_chunks {f fS : Addr} {fd fdS : FuncData} {k : Nat} (F : Fun K "chunks" "chunks" sChunks f fd) (T : Txt mg)
    (FS : Fun K "is_start" "is_start" sStart fS fdS) (bS : Binds K fdS ["text", "position"] []) (gS : mg "is_start" = some (.ref fS)) : FnOk P w K mg base CX0 (k + 2) f fd ["text"] spChunks := by
  have GS : FnOk P w K mg base CX0 (k + 1) fS fdS ["text", "position"] spStart := ok_start FS T
  refine F.ok scChunks (fun vs H Q E h => ?_) (fun cdv A outer s H vs Q E hr h => ?_)
  · obtain ⟨b, C, rfl, _⟩ := h
    rfl
  · obtain ⟨b, C, rfl, hb, hC, hE, hl, hn, q⟩ := h
    refine ⟨_, pss_cons (ps_setLc (i := 1) (own := [("position", 3)]) (g := gName 3) (by rfl) scChunks.nd rfl rfl (sw_true rfl rfl rfl (by decide +kernel))
        (pi_range1 (by rfl) T.range (pa_cons (pe_callB call_len_str (by rfl) T.len PySem.boot_len (pa_cons (pv 0) pa_nil)) pa_nil))
        (blkOk_by (own := [("position", 3)]) (N := ["text", "starts", "ends", "position", "start", "end"]) (sc := defScope sChunks) (by decide +kernel)) (fun _ _ _ _ _ => pg_name (i := 3) scChunks.nd rfl (Or.inl rfl))
        (fun _ _ _ _ _ => pts_one (pt_val (pe_call GS hr (by rfl) gS FS.kp bS .nil pass0 (pa_cons (pv 0) (pa_cons (pv 3) pa_nil)))))
        (fun _ _ _ _ _ => pv 3))
      (pss_cons (ps_set (i := 2) scChunks.nd rfl (.inl rfl) (pe_lst (StX.pa_star (pe_slice sl_list (pv 1) (po_some pe_int) po_none) (pa_cons (pe_callB call_len_str (by rfl) T.len PySem.boot_len (pa_cons (pv 0) pa_nil)) pa_nil))))
      (pss_one (ps_ret (pe_lc (own := [("start", 4), ("end", 5)]) (g := gTup K 2 (gCons (gName 4) (gCons (gName 5) gNil))) (by rfl) scChunks.nd
        (pi_zip (by rfl) T.zip (pa_cons (pv 1) (pa_cons (pv 2) pa_nil)))
        (blkOk_by (own := [("start", 4), ("end", 5)]) (N := ["text", "starts", "ends", "position", "start", "end"]) (sc := defScope sChunks) (by decide +kernel))
        (fun _ _ _ _ _ => pg_tup rfl (pgs_cons (pg_name (i := 4) scChunks.nd rfl (.inl rfl)) (pgs_cons (pg_name (i := 5) scChunks.nd rfl (.inl rfl)) pgs_nil)))
        (fun _ _ _ _ _ => pts_nil)
        (fun _ _ _ _ _ => pe_tup (pa_cons (pv 4) (pa_cons (pe_slice sl_str (pv 0) (po_some (pv 4)) (po_some (pv 5))) pa_nil))))))), ?_⟩
    have ht : (S (b ++ C.flatten)).length = (b ++ C.flatten).length := S_len _
    have hts : (S (b ++ C.flatten)).length ≤ sizeLine := by rw [ht]; exact small _ hl
    have hst := starts_text hb hC hE
    have hsl := fun (k : Nat) (c : List Nat) (h : C[k]? = some c) => slice_at C b k c h
    have hob : (offs b.length C).length = C.length := offs_len C _
    generalize et : b ++ C.flatten = t at *
    refine ⟨.str (S t), rfl, S t, rfl, hts, (S t).length, rfl, (by rw [ht]; omega), (by rw [ht]; omega), fun D hD => ?_⟩
    refine lc_range (lo := 0) (n := ((S t).length : Int).toNat) (fun i H' => H' = upd H D (.lst (((List.range i).filter (isStart t)).map fun (s : Nat) => V.int (s : Int)))) rfl ?_ ?_
    · rintro i H' hi rfl
      have hi' : i < t.length := by rw [ht] at hi; omega
      refine ⟨rfl, .str (S t), rfl, .int ((0 : Int) + (i : Int)), rfl, t, i, (by rw [Int.zero_add]; rfl), hi', hl, isStart t i, rfl, ?_⟩
      have er : (List.range (i + 1)).filter (isStart t) = (List.range i).filter (isStart t) ++ (if isStart t i = true then [i] else []) := by
        rw [List.range_succ, List.filter_append, List.filter_cons, List.filter_nil]
      cases hb : isStart t i with
      | true =>
        rw [hb] at er
        refine iteT ⟨.int ((0 : Int) + (i : Int)), rfl, _, upd_same, ?_, ?_⟩
        · rw [List.length_map]
          exact Nat.lt_of_le_of_lt (Nat.le_trans (List.length_filter_le _ _) (by rw [List.length_range]; exact Nat.le_trans (Nat.le_of_lt hi') hl)) (by decide)
        · rw [upd_upd, er, Int.zero_add]
          simp
      | false =>
        rw [hb] at er
        refine iteF ?_
        rw [er]
        simp
    · rintro H1 e1
      have en : ((S t).length : Int).toNat = t.length := by rw [ht]; omega
      rw [en, hst] at e1
      subst e1
      -- ends
      refine ⟨.ref D, rfl, 1, rfl, D, _, rfl, SqL.of upd_same, fun p hp => ?_⟩
      have npD : D ≠ p := ne_of_none upd_same hp
      refine ⟨p, _, rfl, .inr (SqL.of upd_same), .str (S t), rfl, S t, rfl, hts, ?_, fun e he => ?_⟩
      · rw [cut1]
        refine Nat.le_trans (show _ ≤ 1002 from ?_) (by decide)
        simp [hob]
        omega
      rw [cut1] at he ⊢
      rw [ht]
      have nep : p ≠ e := fun z => by
        rw [← z, upd_same] at he
        cases he
      have neD : D ≠ e := fun z => by
        rw [← z, upd_ne npD, upd_same] at he
        cases he
      have sH : Same H (upd (upd (upd H D (.lst ((offs b.length C).map fun (s : Nat) => V.int (s : Int)))) p (.lst (((offs b.length C).map fun (s : Nat) => V.int (s : Int)).drop 1))) e (.lst (((offs b.length C).map fun (s : Nat) => V.int (s : Int)).drop 1 ++ [V.int (t.length : Int)]))) :=
        ((same_upd hD).trans (same_upd hp)).trans (same_upd he)
      have gD : (upd (upd (upd H D (.lst ((offs b.length C).map fun (s : Nat) => V.int (s : Int)))) p (.lst (((offs b.length C).map fun (s : Nat) => V.int (s : Int)).drop 1))) e (.lst (((offs b.length C).map fun (s : Nat) => V.int (s : Int)).drop 1 ++ [V.int (t.length : Int)]))) D = some (.lst ((offs b.length C).map fun (s : Nat) => V.int (s : Int))) := by
        rw [upd_ne neD, upd_ne npD, upd_same]
      have gE : (upd (upd (upd H D (.lst ((offs b.length C).map fun (s : Nat) => V.int (s : Int)))) p (.lst (((offs b.length C).map fun (s : Nat) => V.int (s : Int)).drop 1))) e (.lst (((offs b.length C).map fun (s : Nat) => V.int (s : Int)).drop 1 ++ [V.int (t.length : Int)]))) e = some (.lst (((offs b.length C).drop 1 ++ [t.length]).map fun (s : Nat) => V.int (s : Int))) := by
        rw [upd_same]
        simp
      have gE' : ((offs b.length C).map fun (s : Nat) => V.int (s : Int)).drop 1 ++ [V.int (t.length : Int)] = ((offs b.length C).drop 1 ++ [t.length]).map fun (s : Nat) => V.int (s : Int) := by simp
      generalize (upd (upd (upd H D (.lst ((offs b.length C).map fun (s : Nat) => V.int (s : Int)))) p (.lst (((offs b.length C).map fun (s : Nat) => V.int (s : Int)).drop 1))) e (.lst (((offs b.length C).map fun (s : Nat) => V.int (s : Int)).drop 1 ++ [V.int (t.length : Int)]))) = H3 at *
      refine ⟨.ref D, rfl, .ref e, rfl, D, e, _, _, rfl, SqL.of gD, SqL.of gE, fun D2 hD2 => ?_⟩
      refine lc_it (walk_zip (K := K) (a := D) (b := e) (xs := (offs b.length C).map fun (s : Nat) => V.int (s : Int)) (ys := ((offs b.length C).drop 1 ++ [t.length]).map fun (s : Nat) => V.int (s : Int)) (n := C.length) ?_)
        (fun i H' => Same H3 H' ∧ ∃ ps : List Addr, H' D2 = some (.lst (ps.map V.ref)) ∧ ps.length = i ∧ ∀ (k : Nat) (c : List Nat), k < i → C[k]? = some c → ∃ (a : Addr) (s : Nat), ps[k]? = some a ∧ (offs b.length C)[k]? = some s ∧ H' a = some (.tup [.int (s : Int), .str (S c)]))
        ⟨same_upd hD2, [], upd_same, rfl, fun _ _ h => absurd h (Nat.not_lt_zero _)⟩ (fun i H' _ h => ⟨SqL.of (h.1 _ _ gD), SqL.of (h.1 _ _ gE)⟩) ?_ ?_
      · simp [hob]
        omega
      · rintro i v H4 H5 hi ⟨sm, ps, hps, el, hk⟩ ⟨T1, x, y, rfl, nT, rfl, hx, hy⟩
        dsimp only at hx hy
        obtain ⟨s0, e0, c1, c2, c3, c4, c5⟩ := hsl i _ (List.getElem?_eq_getElem hi)
        have ex : V.int (s0 : Int) = x := by
          rw [List.getElem?_map, c1] at hx
          exact Option.some.inj hx
        have ey : V.int (e0 : Int) = y := by
          rw [List.getElem?_map, c2] at hy
          exact Option.some.inj hy
        subst ex ey
        refine ⟨T1, [_, _], rfl, .inl (.inl upd_same), rfl, _, [_], rfl, _, [], rfl, rfl, rfl, ?_⟩
        refine lc_yes ?_
        refine ⟨.int (s0 : Int), rfl, .str (S t), rfl, .int (s0 : Int), rfl, s0, rfl, .int (e0 : Int), rfl, e0, rfl, S t, rfl, hts, (by show 2 ≤ sizeLine; decide), fun q1 hq1 => ?_⟩
        have nDT : D2 ≠ T1 := ne_of_none hps nT
        have nDq : D2 ≠ q1 := ne_of_none (by rw [upd_ne nDT]; exact hps) hq1
        refine ⟨ps.map V.ref, by rw [upd_ne nDq, upd_ne nDT]; exact hps, ?_, ?_⟩
        · rw [List.length_map]
          exact Nat.lt_of_le_of_lt (show ps.length ≤ 1000 by omega) (by decide)
        · have nq : ∀ a o, H4 a = some o → a ≠ q1 := fun a o h => by
            have n1 : a ≠ T1 := ne_of_none h nT
            exact ne_of_none (by rw [upd_ne n1]; exact h) hq1
          refine ⟨fun a o h => ?_, ps ++ [q1], by rw [upd_same]; simp, by simp [el], fun k c hk1 hc => ?_⟩
          · have nD : a ≠ D2 := ne_of_none h hD2
            rw [upd_ne nD, upd_ne (nq _ _ (sm _ _ h)), upd_ne (ne_of_none (sm _ _ h) nT)]
            exact sm _ _ h
          · by_cases hki : k < i
            · obtain ⟨a, s, h1, h2, h3⟩ := hk k c hki hc
              refine ⟨a, s, ?_, h2, ?_⟩
              · rw [List.getElem?_append_left (by omega)]
                exact h1
              · have nD : a ≠ D2 := ne_of h3 hps (by intro z; cases z)
                rw [upd_ne nD, upd_ne (nq _ _ h3), upd_ne (ne_of_none h3 nT)]
                exact h3
            · have : k = i := by omega
              subst this
              refine ⟨q1, s0, ?_, c1, ?_⟩
              · rw [List.getElem?_append_right (by omega), el]
                simp
              · rw [upd_ne nDq.symm, upd_same, cutS_nat _ _ _ c3 c4, c5]
                rw [List.getElem?_eq_getElem hi] at hc
                rw [Option.some.inj hc]
      · rintro H' ⟨sm, ps, hps, el, hk⟩
        refine q _ _ ps (sH.trans sm) hps ⟨el, fun k c hc => ?_⟩
        exact hk k c (List.getElem?_eq_some_iff.mp hc).1 hc
end
end Q20
namespace Q20
open PySem PySem.Spec PyProof.Rows L2 SX
theorem StAt.move {H H' : Hp} {p q : Addr} {ns : List Int} (h : StAt H p q ns) (h1 : H' p = H p) (h2 : H' q = H q) : StAt H' p q ns := by
  obtain ⟨a, l, i, c, z, b, r⟩ := h
  exact ⟨h2.trans a, l, i, c, z, h1.trans b, r⟩
theorem StAt.same {H H' : Hp} {p q : Addr} {ns : List Int} (h : StAt H p q ns) (s : Same H H') : StAt H' p q ns := by
  obtain ⟨a, l, i, c, z, b, r⟩ := h
  exact ⟨s _ _ a, l, i, c, z, s _ _ b, r⟩
theorem Pairs.but {H H' : Hp} {p q : Addr} {ns : List Int} {ps : List Addr} {o : Nat} {C : List (List Nat)} (h : Pairs H ps o C) (hS : StAt H p q ns) (b : But H H' p) : Pairs H' ps o C := by
  refine ⟨h.1, fun k c hc => ?_⟩
  obtain ⟨a, s, h1, h2, h3⟩ := h.2 k c hc
  obtain ⟨_, _, i, c', z, hp, _⟩ := hS
  have ne : a ≠ p := ne_of h3 hp (by intro z; cases z)
  exact ⟨a, s, h1, h2, (b a ne).trans h3⟩
theorem Pairs.same {H H' : Hp} {ps : List Addr} {o : Nat} {C : List (List Nat)} (h : Pairs H ps o C) (s : Same H H') : Pairs H' ps o C := by
  refine ⟨h.1, fun k c hc => ?_⟩
  obtain ⟨a, s', h1, h2, h3⟩ := h.2 k c hc
  exact ⟨a, s', h1, h2, s _ _ h3⟩
theorem Pairs.keepT {H H' : Hp} {ps : List Addr} {o : Nat} {C : List (List Nat)} (h : Pairs H ps o C) (s : ∀ a xs, H a = some (.tup xs) → H' a = some (.tup xs)) : Pairs H' ps o C := by
  refine ⟨h.1, fun k c hc => ?_⟩
  obtain ⟨a, s', h1, h2, h3⟩ := h.2 k c hc
  exact ⟨a, s', h1, h2, s _ _ h3⟩
theorem Pairs.snoc {H : Hp} {ps : List Addr} {o : Nat} {C : List (List Nat)} {a : Addr} {c : List Nat} (h : Pairs H ps o C) (ha : H a = some (.tup [.int ((o + C.flatten.length : Nat) : Int), .str (S c)])) : Pairs H (ps ++ [a]) o (C ++ [c]) := by
  refine ⟨by simp [h.1], fun k d hd => ?_⟩
  have ho : offs o (C ++ [c]) = offs o C ++ [o + C.flatten.length] := by rw [offs_append]; rfl
  have hl := offs_len C o
  by_cases hk : k < C.length
  · rw [List.getElem?_append_left hk] at hd
    obtain ⟨a', s, h1, h2, h3⟩ := h.2 k d hd
    refine ⟨a', s, ?_, ?_, h3⟩
    · rw [List.getElem?_append_left (by rw [h.1]; exact hk)]; exact h1
    · rw [ho, List.getElem?_append_left (by rw [hl]; exact hk)]; exact h2
  · have hk2 : k = C.length := by
      have := (List.getElem?_eq_some_iff.mp hd).1
      simp at this
      omega
    subst hk2
    have e : c = d := by simpa using hd
    subst e
    refine ⟨a, _, ?_, ?_, ha⟩
    · rw [List.getElem?_append_right (by rw [h.1]; exact Nat.le_refl _), h.1]; simp
    · rw [ho, List.getElem?_append_right (by rw [hl]; exact Nat.le_refl _), hl]; simp
theorem cut_last (t : List Nat) (h : t ≠ []) : cutS (S t) none (some ((t.length : Int) - 1)) = S (t.take (t.length - 1)) := by
  have hp := List.length_pos_iff.mpr h
  have e : (t.length : Int) - 1 = ((t.length - 1 : Nat) : Int) := by omega
  unfold cutS
  rw [S_len, e, HT.sIx_none, HT.sIx_nat]
  have e1 : min (t.length - 1) t.length = t.length - 1 := by omega
  rw [e1]
  simp
theorem joinL_nil : ∀ C : List (List Nat), TL.joinL [] C = C.flatten
  | [] => rfl
  | [c] => by simp [TL.joinL]
  | c :: d :: r => by
    show c ++ ([] ++ TL.joinL [] (d :: r)) = _
    rw [joinL_nil (d :: r)]
    simp
section
variable {P : Program} {w : World} {K : PySem.W.Frag} {mg : Str → Option Value} {base : Heap}
def spLaw (K : PySem.W.Frag) : Sp := fun vs H Q _ => ∃ (a : Addr) (ns : List Int), vs = [.ref a] ∧ SqL K H a (ns.map V.int) ∧ ns.length ≤ 63 ∧ ∀ H', Q (.bl true) H'
theorem ok_law {f fN fL fC fLs fCh fS fE : Addr} {fd fdN fdL fdC fdLs fdCh fdS fdE : FuncData} (F : Fun K "law" "law" sLaw f fd) (T : Txt mg)
    (FN : Fun K "_law_next" "_law_next" sNext fN fdN) (bN : Binds K fdN ["state", "limit"] []) (gN : mg "_law_next" = some (.ref fN))
    (FC : Fun K "_law_char" "_law_char" sChar fC fdC) (bC : Binds K fdC ["index"] []) (gC : mg "_law_char" = some (.ref fC))
    (FL : Fun K "_law_line" "_law_line" sLine fL fdL) (bL : Binds K fdL ["state"] []) (gL : mg "_law_line" = some (.ref fL))
    (FLs : Fun K "_law_lines" "_law_lines" sLines fLs fdLs) (bLs : Binds K fdLs ["state", "count"] []) (gLs : mg "_law_lines" = some (.ref fLs))
    (FCh : Fun K "chunks" "chunks" sChunks fCh fdCh) (bCh : Binds K fdCh ["text"] []) (gCh : mg "chunks" = some (.ref fCh))
    (FS : Fun K "is_start" "is_start" sStart fS fdS) (bS : Binds K fdS ["text", "position"] []) (gS : mg "is_start" = some (.ref fS))
    (FE : Fun K "_law_same" "_law_same" sSame fE fdE) (bE : Binds K fdE ["actual", "expected"] []) (gE : mg "_law_same" = some (.ref fE)) : FnOk P w K mg base CX0 4 f fd ["script"] (spLaw K) := by
  have GN : FnOk P w K mg base CX0 1 fN fdN ["state", "limit"] spNext := ok_next FN T
  have GC : FnOk P w K mg base CX0 1 fC fdC ["index"] spChar := ok_char FC T
  have GL : FnOk P w K mg base CX0 2 fL fdL ["state"] spLine := ok_line FL T FN bN gN FC bC gC
  have GLs : FnOk P w K mg base CX0 3 fLs fdLs ["state", "count"] spLines := ok_lines FLs T FN bN gN FC bC gC FL bL gL
  have GCh : FnOk P w K mg base CX0 2 fCh fdCh ["text"] spChunks := ok_chunks FCh T FS bS gS
  have GE : FnOk P w K mg base CX0 3 fE fdE ["actual", "expected"] spLst := ok_lst FE T bE gE
  refine F.ok scLaw (fun vs H Q E h => ?_) (fun cdv A outer s H vs Q E hr h => ?_)
  · obtain ⟨a, ns, rfl, _⟩ := h
    rfl
  · obtain ⟨a, ns, rfl, hA, hlen, q⟩ := h
    have hr1 : Room 1 _ := hr.mono (by decide)
    have hr2 : Room 2 _ := hr.mono (by decide)
    refine ⟨_, pss_cons (ps_set (i := 1) scLaw.nd rfl (.inl rfl) (pe_lst (pa_cons (pe_callTy call_list_of (by rfl) T.list boot_list' (pa_cons (pv 0) pa_nil)) (pa_cons pe_int (pa_cons pe_int (pa_cons pe_int pa_nil))))))
      (pss_cons (ps_set (i := 2) scLaw.nd rfl (.inl rfl) (pe_call GLs hr (by rfl) gLs FLs.kp bLs .nil pass0 (pa_cons (pv 1) (pa_cons (pe_call GN hr1 (by rfl) gN FN.kp bN .nil pass0 (pa_cons (pv 1) (pa_cons pe_int pa_nil))) pa_nil))))
      (pss_cons (ps_set (i := 3) scLaw.nd rfl (.inl rfl) (pe_lst pa_nil))
      (pss_cons (ps_set (i := 4) scLaw.nd rfl (.inl rfl) (pv 2))
      (pss_cons (ps_set (i := 5) scLaw.nd rfl (.inl rfl) (pe_call GN hr1 (by rfl) gN FN.kp bN .nil pass0 (pa_cons (pv 1) (pa_cons pe_int pa_nil))))
      (C8.pss_cut (ps_if (pt_cmpR op_eq (pe_call GN hr1 (by rfl) gN FN.kp bN .nil pass0 (pa_cons (pv 1) (pa_cons pe_int pa_nil))) pe_int (nomark _)) (pss_one (ps_set (i := 5) scLaw.nd rfl (.inl rfl) pe_int)) pss_nil)
      (pss_cons (ps_for PassesOwn.never rfl (pi_range1 (by rfl) T.range (pa_cons (pv 5) pa_nil)) (pg_name (i := 6) scLaw.nd rfl (.inl rfl))
        (pss_cons (ps_set (i := 7) scLaw.nd rfl (.inl rfl) (pe_op op_add_str (pe_op op_add_str (pe_op op_add_str
            (pe_call GC hr1 (by rfl) gC FC.kp bC .nil pass0 (pa_cons (pe_op op_add pe_int (pe_call GN hr1 (by rfl) gN FN.kp bN .nil pass0 (pa_cons (pv 1) (pa_cons pe_int pa_nil)))) pa_nil))
            (pe_call GL hr2 (by rfl) gL FL.kp bL .nil pass0 (pa_cons (pv 1) pa_nil))) pe_str)
            (pe_call GLs hr (by rfl) gLs FLs.kp bLs .nil pass0 (pa_cons (pv 1) (pa_cons (pe_call GN hr1 (by rfl) gN FN.kp bN .nil pass0 (pa_cons (pv 1) (pa_cons pe_int pa_nil))) pa_nil)))))
        (C8.pss_cut (ps_if (PW.pt (pw_and (pt_cmpR op_eq (pv 6) (pe_op op_sub (pv 5) pe_int) (nomark _)) (pw_and1 (pt_cmpR op_eq (pe_call GN hr1 (by rfl) gN FN.kp bN .nil pass0 (pa_cons (pv 1) (pa_cons pe_int pa_nil))) pe_int (nomark _)))))
            (pss_one (ps_set (i := 7) scLaw.nd rfl (.inl rfl) (pe_slice sl_str (pv 7) po_none (po_some (pe_op op_sub (pe_callB call_len_str (by rfl) T.len PySem.boot_len (pa_cons (pv 7) pa_nil)) pe_int))))) pss_nil)
        (pss_cons (ps_expr (pe_bm PySem.F.plainAttrs_list PySem.F.slot_list_append PySem.F.type_list_append mt_append (pv 3) (pa_cons (pe_tup (pa_cons (pe_callB call_len_str (by rfl) T.len PySem.boot_len (pa_cons (pv 2) pa_nil)) (pa_cons (pv 7) pa_nil))) pa_nil)))
        (pss_one (ps_set (i := 2) scLaw.nd rfl (.inl rfl) (pe_op op_add_str (pv 2) (pv 7))))))))
      (pss_cons (ps_set (i := 8) scLaw.nd rfl (.inl rfl) (pe_call GCh hr2 (by rfl) gCh FCh.kp bCh .nil pass0 (pa_cons (pv 2) pa_nil)))
      (pss_cons (ps_if (pt_not (pt_val (pe_call GE hr (by rfl) gE FE.kp bE .nil pass0 (pa_cons (pv 8) (pa_cons (pv 3) pa_nil))))) pss_never pss_nil)
      (pss_one (ps_ret (pe_cmpR op_eq (pe_op op_add_str (pv 4) (pe_join pe_str
          (pe_lc (own := [("position", 9), ("chunk", 7)]) (g := gTup K 2 (gCons (gName 9) (gCons (gName 7) gNil))) (by rfl) scLaw.nd (pi_list (pv 8))
            (blkOk_by (own := [("position", 9), ("chunk", 7)]) (N := ["script", "state", "text", "expected", "before", "count", "k", "chunk", "actual", "position"]) (sc := defScope sLaw) (by decide +kernel))
            (fun _ _ _ _ _ => pg_tup rfl (pgs_cons (pg_name (i := 9) scLaw.nd rfl (.inl rfl)) (pgs_cons (pg_name (i := 7) scLaw.nd rfl (.inl rfl)) pgs_nil)))
            (fun _ _ _ _ _ => pts_nil) (fun _ _ _ _ _ => pv 7)))) (pv 2) (nomark _)))))))))))), ?_⟩
    have e0 : ("" : Str) = S [] := by decide +kernel
    have enl : ("\n" : Str) = S [10] := by decide +kernel
    have sz : ∀ n : Nat, n ≤ 100000 → n ≤ sizeLine := fun n h => Nat.le_trans h (by decide)
    rw [e0, enl]
    -- state = [list(script), 0, 0, 1]
    refine ⟨.ref a, rfl, a, _, rfl, .inl hA, fun l hl => ⟨(by show 4 ≤ sizeLine; decide), fun p hp => ?_⟩⟩
    have S0 : StAt (upd (upd H l (.lst (ns.map V.int))) p (.lst [.ref l, .int 0, .int 0, .int 1])) p l ns := by
      refine ⟨?_, hlen, 0, 0, 1, upd_same, by decide, by decide, by decide, by decide⟩
      rw [upd_ne (ne_of_none upd_same hp), upd_same]
    generalize upd (upd H l (.lst (ns.map V.int))) p (.lst [.ref l, .int 0, .int 0, .int 1]) = H0 at S0
    -- text = _law_lines(state, _law_next(state, 4))
    refine ⟨.ref p, rfl, .ref p, rfl, p, l, ns, 4, rfl, S0, by decide, by decide, fun H1 v S1 B1 v0 v1 => ⟨p, l, ns, v, rfl, S1, v0, by omega, fun H2 b S2 B2 hb lb => ?_⟩⟩
    -- expected = []; before = text; count
    refine ⟨Nat.zero_le _, fun e he => ?_⟩
    have nep : e ≠ p := fun z => by
      obtain ⟨_, _, i, c, zz, hp2, _⟩ := S2
      rw [z, hp2] at he
      cases he
    have nel : e ≠ l := fun z => by
      rw [z, S2.1] at he
      cases he
    have S3 : StAt (upd H2 e (.lst [])) p l ns := S2.same (same_upd he)
    have E3 : (upd H2 e (.lst [])) e = some (.lst []) := upd_same
    generalize upd H2 e (.lst []) = H3 at S3 E3
    refine ⟨.str (S b), rfl, .ref p, rfl, p, l, ns, 13, rfl, S3, by decide, by decide, fun H4 n S4 B4 n0 n1 => ?_⟩
    have E4 : H4 e = some (.lst []) := (B4 e nep).trans E3
    refine ⟨fun σ' H' => ∃ n : Int, 0 ≤ n ∧ n ≤ 60 ∧ σ' = [some (.ref a), some (.ref p), some (.str (S b)), some (.ref e), some (.str (S b)), some (.int n), none, none, none, none] ∧ StAt H' p l ns ∧ H' e = some (.lst []), ?_, ?_⟩
    · refine ⟨.ref p, rfl, p, l, ns, 6, rfl, S4, by decide, by decide, fun H5 u S5 B5 u0 u1 => ⟨rfl, _, rfl, ite2 (fun z => ?_) (fun z => ?_)⟩⟩
      · exact ⟨60, by decide, by decide, rfl, S5, (B5 e nep).trans E4⟩
      · exact ⟨n, n0, by omega, rfl, S5, (B5 e nep).trans E4⟩
    clear S0 S1 S2 S3 S4 E3 E4 B1 B2 B4 n0 n1 v0 v1 he hl hp
    rintro σ' H5 ⟨n, n0, n1, rfl, S5, E5⟩
    refine ⟨.int n, rfl, n, rfl, by omega, by omega, ?_⟩
    refine for_range (lo := 0) (n := n.toNat) (fun i σ H' => ∃ (C : List (List Nat)) (ps : List Addr) (y6 y7 : Option V), σ = [some (.ref a), some (.ref p), some (.str (S (b ++ C.flatten))), some (.ref e), some (.str (S b)), some (.int n), y6, y7, none, none] ∧
      StAt H' p l ns ∧ H' e = some (.lst (ps.map V.ref)) ∧ Pairs H' ps b.length C ∧ C.length = i ∧ (∀ c ∈ C, Part c) ∧ (∀ c ∈ C.dropLast, endb true c = true) ∧ ((i : Int) < n → ∀ c ∈ C, endb true c = true) ∧ (b ++ C.flatten).length ≤ 40 + 60 * i)
      ⟨[], [], none, none, by simp, S5, E5, ⟨rfl, fun k c h => by simp at h⟩, rfl, by simp, by simp, by simp, by simpa using lb⟩ ?_ ?_
    · rintro i σ H6 hi ⟨C, ps, y6, y7, rfl, S6, E6, P6, el, hP, hE, hE2, ln⟩
      have hi' : (i : Int) < n := by omega
      -- chunk = ..
      refine ⟨.ref p, rfl, p, l, ns, 93, rfl, S6, by decide, by decide, fun H7 u S7 B7 u0 u1 => ⟨1, u, rfl, rfl, 1 + u, rfl, by omega, by omega, fun c c1 c2 => ?_⟩⟩
      refine ⟨.ref p, rfl, p, l, ns, rfl, S7, fun H8 t S8 B8 ht lt => ⟨S [c], S t, rfl, rfl, ?_, S [c] ++ S t, S [10], rfl, rfl, ?_, ?_⟩⟩
      · rw [S_len, S_len]
        exact sz _ (by simp; omega)
      · rw [S_app, S_len, S_len]
        exact sz _ (by simp; omega)
      refine ⟨.ref p, rfl, .ref p, rfl, p, l, ns, 4, rfl, S8, by decide, by decide, fun H9 u' S9 B9 u0' u1' => ⟨p, l, ns, u', rfl, S9, u0', by omega, fun H10 m S10 B10 hm lm => ⟨_, S m, rfl, rfl, ?_, ?_⟩⟩⟩
      · rw [S_app, S_app, S_len, S_len]
        exact sz _ (by simp; omega)
      rw [S_app, S_app, S_app]
      have hch : Chunk ([c] ++ t ++ [10] ++ m) := ⟨c, t, m, by simp, c2 (by omega), c1 (by omega), ht, hm⟩
      have lch : ([c] ++ t ++ [10] ++ m).length ≤ 50 := by simp; omega
      generalize [c] ++ t ++ [10] ++ m = ch at hch lch
      obtain ⟨k1, k2⟩ := chunk_ok hch
      have kne := chunk_ne hch
      have B6 : But H6 H10 p := ((B7.trans B8).trans B9).trans B10
      refine ⟨fun σ' H' => ∃ d : List Nat, σ' = [some (.ref a), some (.ref p), some (.str (S (b ++ C.flatten))), some (.ref e), some (.str (S b)), some (.int n), some (.int ((0 : Int) + (i : Int))), some (.str (S d)), none, none] ∧ StAt H' p l ns ∧ But H6 H' p ∧ Part d ∧ ((i : Int) + 1 < n → endb true d = true) ∧ d.length ≤ 50, ?_, ?_⟩
      · refine ⟨.int ((0 : Int) + (i : Int)), rfl, .int n, rfl, n, 1, rfl, rfl, rfl, _, rfl, ite2 (fun z => ?_) (fun z => iteF ⟨ch, rfl, S10, B6, k1, fun _ => k2, lch⟩)⟩
        have ei : (0 : Int) + (i : Int) = n - 1 := V.int.inj (of_decide_eq_true z)
        refine ⟨.ref p, rfl, p, l, ns, 2, rfl, S10, by decide, by decide, fun H11 u2 S11 B11 _ _ => ⟨rfl, _, rfl, ite2 (fun z2 => ?_) (fun z2 => ⟨ch, rfl, S11, B6.trans B11, k1, fun _ => k2, lch⟩)⟩⟩
        refine ⟨.str (S ch), rfl, .str (S ch), rfl, S ch, rfl, by rw [S_len]; exact sz _ (by omega), _, 1, rfl, rfl, _, rfl, S ch, rfl, by rw [S_len]; exact sz _ (by omega), ?_⟩
        rw [S_len]
        refine ⟨ch.take (ch.length - 1), ?_, S11, B6.trans B11, fun off => ?_, fun z => by omega, ?_⟩
        · rw [cut_last ch kne]
          rfl
        · refine starts_take (k1 off) ?_
          obtain ⟨c', t', m', eq', _⟩ := hch
          rw [eq']
          simp
          omega
        · rw [List.length_take]
          omega
      · rintro σ' H11 ⟨d, rfl, S11, B11, hd, hd2, ld⟩
        have E11 : H11 e = some (.lst (ps.map V.ref)) := (B11 e nep).trans E6
        have P11 := P6.but S6 B11
        have lt' : (S (b ++ C.flatten)).length ≤ sizeLine := by rw [S_len]; exact sz _ (by omega)
        refine ⟨.ref e, rfl, .inl ⟨rfl, _, SqL.of E11⟩, .str (S (b ++ C.flatten)), rfl, S (b ++ C.flatten), rfl, lt', .str (S d), rfl, (by show 2 ≤ sizeLine; decide), fun T1 nT => ?_⟩
        have nTe : e ≠ T1 := ne_of_none E11 nT
        refine ⟨e, _, _, rfl, rfl, by rw [upd_ne nTe]; exact E11, ?_, .str (S (b ++ C.flatten)), rfl, .str (S d), rfl, S (b ++ C.flatten), S d, rfl, rfl, ?_, ?_⟩
        · rw [List.length_map, P11.1, el]
          exact Nat.lt_of_le_of_lt (show i ≤ 60 by omega) (by decide)
        · rw [S_len, S_len]
          exact sz _ (by omega)
        · rw [S_app, S_len]
          have eC : b ++ C.flatten ++ d = b ++ (C ++ [d]).flatten := by simp
          have eL : (b ++ (C ++ [d]).flatten).length ≤ 40 + 60 * (i + 1) := by
            rw [← eC, List.length_append]
            omega
          rw [eC]
          refine ⟨C ++ [d], ps ++ [T1], _, _, rfl, ?_, by rw [upd_same]; simp, ?_, by simp [el], ?_, ?_, ?_, eL⟩
          · refine S11.move ?_ ?_
            · rw [upd_ne nep.symm]
              obtain ⟨_, _, i', c', z', hp', _⟩ := S11
              rw [upd_ne (ne_of_none hp' nT)]
            · rw [upd_ne nel.symm, upd_ne (ne_of_none S11.1 nT)]
          · refine Pairs.snoc (P11.keepT fun a' xs h => ?_) ?_
            · rw [upd_ne (ne_of h E11 (by intro z; cases z)), upd_ne (ne_of_none h nT)]
              exact h
            · rw [upd_ne nTe.symm, upd_same, List.length_append]
          · intro x hx
            rcases List.mem_append.mp hx with hx | hx
            · exact hP x hx
            · rw [List.mem_singleton.mp hx]
              exact hd
          · rw [List.dropLast_concat]
            exact hE2 hi'
          · intro z x hx
            rcases List.mem_append.mp hx with hx | hx
            · exact hE2 hi' x hx
            · rw [List.mem_singleton.mp hx]
              exact hd2 (by omega)
    · rintro σ H6 ⟨C, ps, y6, y7, rfl, S6, E6, P6, el, hP, hE, hE2, ln⟩
      have hn60 : n.toNat ≤ 60 := by omega
      -- actual = chunks(text)
      refine ⟨.str (S (b ++ C.flatten)), rfl, b, C, rfl, hb, hP, hE, by omega, by omega, fun H7 o ps7 sm ho P7 => ?_⟩
      refine ⟨.ref o, rfl, .ref e, rfl, o, e, ps7, ps, rfl, ho, sm _ _ E6, by rw [P7.1, P6.1], by rw [P7.1]; omega, ?_, true, rfl, iteF ?_⟩
      · intro k a1 a2 h1 h2
        have hk : k < C.length := by
          have := (List.getElem?_eq_some_iff.mp h1).1
          rw [P7.1] at this
          exact this
        obtain ⟨b1, s1, g1, g2, g3⟩ := P7.2 k _ (List.getElem?_eq_getElem hk)
        obtain ⟨b2, s2, f1, f2, f3⟩ := P6.2 k _ (List.getElem?_eq_getElem hk)
        rw [h1] at g1
        rw [h2] at f1
        cases g1
        cases f1
        rw [g2] at f2
        cases f2
        refine ⟨_, g3, sm _ _ f3, (by show 2 ≤ 100000; decide), fun x hx => ?_⟩
        simp only [List.mem_cons, List.not_mem_nil, or_false] at hx
        rcases hx with rfl | rfl
        · exact .inl ⟨_, rfl⟩
        · exact .inr ⟨_, rfl⟩
      · refine ⟨.str (S b), rfl, ⟨_, rfl⟩, .ref o, rfl, o, rfl, ⟨_, SqL.of ho⟩, fun D hD => ?_⟩
        have noD : o ≠ D := ne_of_none ho hD
        refine lc_list (K := K) (a := o) (xs := ps7.map V.ref) (fun i H' => H' = upd H7 D (.lst ((C.take i).map fun c => V.str (S c)))) (by simp) (fun i H' _ h => ?_) ?_ ?_
        · rw [h]
          exact SqL.of (by rw [upd_ne noD]; exact ho)
        · rintro i x H' hx rfl
          have hi : i < C.length := by
            have := (List.getElem?_eq_some_iff.mp hx).1
            rw [List.length_map, P7.1] at this
            exact this
          obtain ⟨b1, s1, g1, g2, g3⟩ := P7.2 i _ (List.getElem?_eq_getElem hi)
          have ex : V.ref b1 = x := by
            rw [List.getElem?_map, g1] at hx
            exact Option.some.inj hx
          subst ex
          have nbD : b1 ≠ D := ne_of_none g3 hD
          refine ⟨b1, [_, _], rfl, SqT.of (by rw [upd_ne nbD]; exact g3), rfl, _, [_], rfl, _, [], rfl, rfl, rfl, ?_⟩
          refine lc_yes ⟨.str (S C[i]), rfl, _, upd_same, ?_, ?_⟩
          · rw [List.length_map, List.length_take]
            exact Nat.lt_of_le_of_lt (show min i C.length ≤ 60 by omega) (by decide)
          · rw [upd_upd, List.take_add_one, List.getElem?_eq_getElem hi, List.map_append]
            rfl
        · rintro H' rfl
          rw [List.length_map, P7.1, List.take_length]
          have es : C.map (fun c => V.str (S c)) = (C.map S).map V.str := by simp
          refine ⟨S [], D, C.map S, rfl, rfl, .inl (by rw [es]; exact SqL.of upd_same), ?_, ?_⟩
          · have h1 : ((C.map S).map (·.length)).sum = C.flatten.length := by rw [SX.lens, List.length_flatten]
            rw [h1, S_len, List.length_nil, Nat.mul_zero, Nat.add_zero]
            have : C.flatten.length ≤ (b ++ C.flatten).length := by simp
            omega
          · rw [join_S, joinL_nil]
            refine ⟨S b, S C.flatten, rfl, rfl, ?_, .str (S (b ++ C.flatten)), rfl, rfl, ?_⟩
            · rw [S_len, S_len, ← List.length_append]
              exact sz _ (by omega)
            · rw [S_app, decide_eq_true rfl]
              exact q _
end
end Q20
namespace Q20
open PySem PySem.Spec PyProof.Rows L2 SX
theorem all_mk {l : PySem.W.OpenLaw} {w : World} {K : PySem.W.Frag} {h : Heap} {mg : Str → Option Value} {fa f1 f2 f3 f4 f5 f6 f7 f8 : Addr} (X : K.In h) (G : h.Ns mainGlobals mg) (hfa : mg "law" = some (.ref fa))
    {od1 an1 od2 an2 od3 an3 od4 an4 od5 an5 od6 an6 od7 an7 od8 an8 : Option Addr} {sl1 sl2 sl3 sl4 sl5 sl6 sl7 sl8 : Array (Option Value)} {oc1 kV1 dc1 pm1 cd1 ct1 oc2 kV2 dc2 pm2 cd2 ct2 oc3 kV3 dc3 pm3 cd3 ct3 oc4 kV4 dc4 pm4 cd4 ct4 oc5 kV5 dc5 pm5 cd5 ct5 oc6 kV6 dc6 pm6 cd6 ct6 oc7 kV7 dc7 pm7 cd7 ct7 oc8 kV8 dc8 pm8 cd8 ct8 : Value} {tB : Tok}
    (a1 : PySem.W.nsIn K mainGlobals "chunks" = some (some (.ref f1))) (l1 : K.lookup f1 = some ⟨oc1, od1, .func (PySem.W.fnOf "chunks" "chunks" (defArgs sChunks) (defBody sChunks) (defScope sChunks) .none kV1 dc1 pm1 an1 cd1 ct1), sl1⟩) (c1 : PySem.W.codeIn K cd1 "chunks" = true) (k1 : PySem.W.keepIn K (.ref f1) = true)
    (a2 : PySem.W.nsIn K mainGlobals "is_start" = some (some (.ref f2))) (l2 : K.lookup f2 = some ⟨oc2, od2, .func (PySem.W.fnOf "is_start" "is_start" (defArgs sStart) (defBody sStart) (defScope sStart) .none kV2 dc2 pm2 an2 cd2 ct2), sl2⟩) (c2 : PySem.W.codeIn K cd2 "is_start" = true) (k2 : PySem.W.keepIn K (.ref f2) = true)
    (a3 : PySem.W.nsIn K mainGlobals "_law_next" = some (some (.ref f3))) (l3 : K.lookup f3 = some ⟨oc3, od3, .func (PySem.W.fnOf "_law_next" "_law_next" (defArgs sNext) (defBody sNext) (defScope sNext) .none kV3 dc3 pm3 an3 cd3 ct3), sl3⟩) (c3 : PySem.W.codeIn K cd3 "_law_next" = true) (k3 : PySem.W.keepIn K (.ref f3) = true)
    (a4 : PySem.W.nsIn K mainGlobals "_law_same" = some (some (.ref f4))) (l4 : K.lookup f4 = some ⟨oc4, od4, .func (PySem.W.fnOf "_law_same" "_law_same" (defArgs sSame) (defBody sSame) (defScope sSame) .none kV4 dc4 pm4 an4 cd4 ct4), sl4⟩) (c4 : PySem.W.codeIn K cd4 "_law_same" = true) (k4 : PySem.W.keepIn K (.ref f4) = true)
    (a5 : PySem.W.nsIn K mainGlobals "_law_char" = some (some (.ref f5))) (l5 : K.lookup f5 = some ⟨oc5, od5, .func (PySem.W.fnOf "_law_char" "_law_char" (defArgs sChar) (defBody sChar) (defScope sChar) .none kV5 dc5 pm5 an5 cd5 ct5), sl5⟩) (c5 : PySem.W.codeIn K cd5 "_law_char" = true) (k5 : PySem.W.keepIn K (.ref f5) = true)
    (a6 : PySem.W.nsIn K mainGlobals "_law_line" = some (some (.ref f6))) (l6 : K.lookup f6 = some ⟨oc6, od6, .func (PySem.W.fnOf "_law_line" "_law_line" (defArgs sLine) (defBody sLine) (defScope sLine) .none kV6 dc6 pm6 an6 cd6 ct6), sl6⟩) (c6 : PySem.W.codeIn K cd6 "_law_line" = true) (k6 : PySem.W.keepIn K (.ref f6) = true)
    (a7 : PySem.W.nsIn K mainGlobals "_law_lines" = some (some (.ref f7))) (l7 : K.lookup f7 = some ⟨oc7, od7, .func (PySem.W.fnOf "_law_lines" "_law_lines" (defArgs sLines) (defBody sLines) (defScope sLines) .none kV7 dc7 pm7 an7 cd7 ct7), sl7⟩) (c7 : PySem.W.codeIn K cd7 "_law_lines" = true) (k7 : PySem.W.keepIn K (.ref f7) = true)
    (a8 : PySem.W.nsIn K mainGlobals "law" = some (some (.ref f8))) (l8 : K.lookup f8 = some ⟨oc8, od8, .func (PySem.W.fnOf "law" "law" (defArgs sLaw) (defBody sLaw) (defScope sLaw) .none kV8 dc8 pm8 an8 cd8 ct8), sl8⟩) (c8 : PySem.W.codeIn K cd8 "law" = true) (k8 : PySem.W.keepIn K (.ref f8) = true)
    (z_len : PySem.W.nsIn K mainGlobals "len" = some none)
    (z_range : PySem.W.nsIn K mainGlobals "range" = some none)
    (z_zip : PySem.W.nsIn K mainGlobals "zip" = some none)
    (z_int : PySem.W.nsIn K mainGlobals "int" = some none)
    (z_isinstance : PySem.W.nsIn K mainGlobals "isinstance" = some none)
    (z_bool : PySem.W.nsIn K mainGlobals "bool" = some none)
    (z_str : PySem.W.nsIn K mainGlobals "str" = some none)
    (z_tuple : PySem.W.nsIn K mainGlobals "tuple" = some none)
    (z_list : PySem.W.nsIn K mainGlobals "list" = some none)
    (zB : PySem.W.nsIn K mainGlobals "BLANKS" = some (some (.str " \n" tB))) :
    ∃ fd : FuncData, (∀ (s : Shared) (v : Value), BindsTo s fd ⟨[v], []⟩ [("script", v)]) ∧ ∀ base : Heap, K.In base → base.Ns mainGlobals mg → FnOk l.prog w K mg base CX0 4 fa fd ["script"] (spLaw K) := by
  have e := hfa.symm.trans (PySem.W.mg_of X G a8)
  cases e
  have T : Txt mg := ⟨PySem.W.mg_none_of X G z_len, PySem.W.mg_none_of X G z_range, PySem.W.mg_none_of X G z_zip, PySem.W.mg_none_of X G z_int, PySem.W.mg_none_of X G z_isinstance, PySem.W.mg_none_of X G z_bool, PySem.W.mg_none_of X G z_str, PySem.W.mg_none_of X G z_tuple, PySem.W.mg_none_of X G z_list, ⟨tB, PySem.W.mg_of X G zB⟩⟩
  have F1 := fun_mk (st := sChunks) l1 c1 k1
  have b1 := F1.binds (ps := ["text"]) fun _ _ _ _ _ _ us hl => match us, hl with | [_], _ => rfl
  have F2 := fun_mk (st := sStart) l2 c2 k2
  have b2 := F2.binds (ps := ["text", "position"]) fun _ _ _ _ _ _ us hl => match us, hl with | [_, _], _ => rfl
  have F3 := fun_mk (st := sNext) l3 c3 k3
  have b3 := F3.binds (ps := ["state", "limit"]) fun _ _ _ _ _ _ us hl => match us, hl with | [_, _], _ => rfl
  have F4 := fun_mk (st := sSame) l4 c4 k4
  have b4 := F4.binds (ps := ["actual", "expected"]) fun _ _ _ _ _ _ us hl => match us, hl with | [_, _], _ => rfl
  have F5 := fun_mk (st := sChar) l5 c5 k5
  have b5 := F5.binds (ps := ["index"]) fun _ _ _ _ _ _ us hl => match us, hl with | [_], _ => rfl
  have F6 := fun_mk (st := sLine) l6 c6 k6
  have b6 := F6.binds (ps := ["state"]) fun _ _ _ _ _ _ us hl => match us, hl with | [_], _ => rfl
  have F7 := fun_mk (st := sLines) l7 c7 k7
  have b7 := F7.binds (ps := ["state", "count"]) fun _ _ _ _ _ _ us hl => match us, hl with | [_, _], _ => rfl
  have F8 := fun_mk (st := sLaw) l8 c8 k8
  exact ⟨PySem.W.fnOf "law" "law" (defArgs sLaw) (defBody sLaw) (defScope sLaw) .none kV8 dc8 pm8 an8 cd8 ct8, fun s v => .of_eq rfl, fun base _ _ => ok_law F8 T F3 b3 (PySem.W.mg_of X G a3) F5 b5 (PySem.W.mg_of X G a5) F6 b6 (PySem.W.mg_of X G a6) F7 b7 (PySem.W.mg_of X G a7) F1 b1 (PySem.W.mg_of X G a1) F2 b2 (PySem.W.mg_of X G a2) F4 b4 (PySem.W.mg_of X G a4)⟩
end Q20
open PySem PySem.W PyProof.Rows
set_option maxHeartbeats 0 in
theorem PySem.Challenge.cw_quillrun_k20_chunks_of_a_text_holds : PySem.Challenge.rw_quillrun_k20_chunks_of_a_text.Holds := by
  w_on; o_law; k_head; (case hw => w_witness2)
  k_fill
  refine L2.walk_of (l := PySem.Challenge.rw_quillrun_k20_chunks_of_a_text) (n := 63) (k := 4) (x := "script") (CX := fun _ => L2.CX0) (sp := fun w => Q20.spLaw _) rfl (by decide) rfl ⟨rfl, by decide, by decide⟩ (fun w h Y => PySem.W.kIn_of Y) ?F (fun _ _ a ns hl _ hS => ⟨a, ns, rfl, hS, hl, fun _ => rfl⟩) (fun _ _ _ _ _ h => h)
  case F =>
    intro w mg fa h KX G hmg
    refine' Q20.all_mk KX G hmg ?a1 ?l1 ?c1 ?k1 ?a2 ?l2 ?c2 ?k2 ?a3 ?l3 ?c3 ?k3 ?a4 ?l4 ?c4 ?k4 ?a5 ?l5 ?c5 ?k5 ?a6 ?l6 ?c6 ?k6 ?a7 ?l7 ?c7 ?k7 ?a8 ?l8 ?c8 ?k8 ?z_len ?z_range ?z_zip ?z_int ?z_isinstance ?z_bool ?z_str ?z_tuple ?z_list ?zB
    (case a1 => k_is)
    (case l1 => k_is)
    (case c1 => k_is)
    (case k1 => k_is)
    (case a2 => k_is)
    (case l2 => k_is)
    (case c2 => k_is)
    (case k2 => k_is)
    (case a3 => k_is)
    (case l3 => k_is)
    (case c3 => k_is)
    (case k3 => k_is)
    (case a4 => k_is)
    (case l4 => k_is)
    (case c4 => k_is)
    (case k4 => k_is)
    (case a5 => k_is)
    (case l5 => k_is)
    (case c5 => k_is)
    (case k5 => k_is)
    (case a6 => k_is)
    (case l6 => k_is)
    (case c6 => k_is)
    (case k6 => k_is)
    (case a7 => k_is)
    (case l7 => k_is)
    (case c7 => k_is)
    (case k7 => k_is)
    (case a8 => k_is)
    (case l8 => k_is)
    (case c8 => k_is)
    (case k8 => k_is)
    (case z_len => k_is)
    (case z_range => k_is)
    (case z_zip => k_is)
    (case z_int => k_is)
    (case z_isinstance => k_is)
    (case z_bool => k_is)
    (case z_str => k_is)
    (case z_tuple => k_is)
    (case z_list => k_is)
    (case zB => k_is)
#print axioms PySem.Challenge.cw_quillrun_k20_chunks_of_a_text_holds
