/-
  My own: Sq.
-/
import Derived.Test.YtbceafpodamnfabGreatA30
import Derived.Test.YtbceafpodamnfabGreatA18
import Derived.Test.YtbceafpodamnfabGreatA08
set_option linter.unusedVariables false
set_option linter.unusedSimpArgs false
/-
  My own. What the program asks for is what the specification asks for.
-/
namespace Go.Proofs.YtbceafpodamnfabGreat
open Go.RowKit Go.Sort

/-! ### Live copies, by place and by themselves -/

theorem map_range_cpD (B : Bk) : (List.range B.cps.length).map (cpD B) = B.cps := by
  apply List.ext_getElem?
  intro i
  rw [List.getElem?_map]
  rcases Nat.lt_or_ge i B.cps.length with h | h
  · rw [List.getElem?_range h, cpD_some h]; rfl
  · rw [List.getElem?_eq_none (by simpa using h), List.getElem?_eq_none h]; rfl

theorem live_map (B : Bk) (sv : ByteArray) : (liveTo B sv B.cps.length).map (cpD B) = (ofS sv B.cps).filter fun c => !c.ending := by
  have h : (liveTo B sv B.cps.length).map (cpD B) = B.cps.filter (liveP sv) := by
    unfold liveTo
    have e : (fun i => liveP sv (cpD B i)) = liveP sv ∘ cpD B := rfl
    rw [e, ← List.filter_map, map_range_cpD]
  rw [h]
  unfold ofS liveP
  rw [List.filter_filter]
  congr 1
  funext c
  rw [Bool.and_comm]

def fS (B : Bk) (s : Svc) (i : Nat) : Sn := seenOf B s (cpD B i)
theorem liveS_map (B : Bk) (s : Svc) : liveS B s (ofS s.name B.cps) = (liveTo B s.name B.cps.length).map (fS B s) := by
  unfold liveS
  rw [← live_map, List.map_map]
  rfl
theorem filter_fS (B : Bk) (s : Svc) (p : Sn → Bool) (l : List Nat) : (l.map (fS B s)).filter p = (l.filter fun i => p (fS B s i)).map (fS B s) := by
  rw [List.filter_map]; rfl
theorem endsS_map (B : Bk) (s : Svc) (l : List Nat) : endsS (l.map (fS B s)) = endsL B l := by
  unfold endsS endsL
  rw [List.map_map]; rfl

theorem soonS_seen (B : Bk) (s : Svc) (x y : Cp) : soonS (seenOf B s x) (seenOf B s y) = soonerB B x y s.image := rfl
theorem stepS_seen (B : Bk) (s : Svc) (b : Cp) (i : Nat) : stepS (seenOf B s b) (fS B s i) = seenOf B s (bestStep B s.image b i) := by
  unfold stepS bestStep fS
  rw [soonS_seen]
  cases soonerB B (cpD B i) b s.image <;> rfl
theorem fold_seen (B : Bk) (s : Svc) : ∀ (r : List Nat) (b : Cp), (r.map (fS B s)).foldl stepS (seenOf B s b) = seenOf B s (r.foldl (bestStep B s.image) b)
  | [], _ => rfl
  | i :: r, b => by rw [List.map_cons, List.foldl_cons, List.foldl_cons, stepS_seen, fold_seen B s r]
theorem firstS_map (B : Bk) (s : Svc) (i0 : Nat) (r : List Nat) : (firstS ((i0 :: r).map (fS B s))).c = bestTo B s.image i0 (i0 :: r) (i0 :: r).length := by
  have h : firstS ((i0 :: r).map (fS B s)) = seenOf B s (r.foldl (bestStep B s.image) (cpD B i0)) := fold_seen B s r (cpD B i0)
  rw [h]
  unfold bestTo
  rw [List.take_length]
  rfl
theorem best_mem (B : Bk) (img : Int) : ∀ (r : List Nat) (b : Cp) (p : Cp → Prop), p b → (∀ i ∈ r, p (cpD B i)) → p (r.foldl (bestStep B img) b)
  | [], _, _, hb, _ => hb
  | i :: r, b, p, hb, h => by
    rw [List.foldl_cons]
    refine best_mem B img r _ p ?_ fun j hj => h j (List.mem_cons_of_mem _ hj)
    unfold bestStep
    split
    · exact h i (List.mem_cons_self ..)
    · exact hb

/-! ### Counts -/

theorem cnt_eq (B : Bk) (s : Svc) : cntTo s.image s.name B.cps B.cps.length = cntF s.image (ofS s.name B.cps) := by
  unfold cntF cntTo
  rw [cntF_ofS, List.take_length]
structure CntIs (img : Int) (l : List Cp) (n : Cnt) : Prop where
  live : n.live = ((l.filter fun c => !c.ending).length : Int)
  old : n.old = (((l.filter fun c => !c.ending).filter fun c => c.image != img).length : Int)
  r : n.ready ≤ n.live
  f : n.failed ≤ n.live
  o : n.old ≤ n.live
  r0 : 0 ≤ n.ready
  f0 : 0 ≤ n.failed
  o0 : 0 ≤ n.old
  e0 : 0 ≤ n.ending
theorem cntIs (img : Int) (l : List Cp) : CntIs img l (cntF img l) := by
  suffices h : ∀ (k : Nat), k ≤ l.length → CntIs img (l.take k) (cntF img (l.take k)) by
    have := h l.length (Nat.le_refl _); rwa [List.take_length] at this
  intro k
  induction k with
  | zero => intro _; exact ⟨rfl, rfl, Int.le_refl _, Int.le_refl _, Int.le_refl _, Int.le_refl _, Int.le_refl _, Int.le_refl _, Int.le_refl _⟩
  | succ k ih =>
    intro hk
    have h := ih (by omega)
    obtain ⟨c, hc⟩ : ∃ c, l[k]? = some c := ⟨l[k], by simp [show k < l.length by omega]⟩
    rw [List.take_add_one, hc, show (some c).toList = [c] from rfl, cntF_snoc]
    have h1 := h.live; have h2 := h.old; have h3 := h.r; have h4 := h.f; have h5 := h.o; have h6 := h.r0; have h7 := h.f0; have h8 := h.o0; have h9 := h.e0
    generalize cntF img (l.take k) = n at *
    unfold cntAdd
    cases he : c.ending
    · rw [if_neg (by simp)]
      cases h3' : (c.state == 3) <;> cases h4' : (c.state == 4) <;> cases h5' : (c.image != img)
      all_goals
        refine ⟨?_, ?_, ?_, ?_, ?_, ?_, ?_, ?_, ?_⟩ <;> simp only [addB, List.filter_append, List.length_append, List.filter, he, h5', Bool.not_false, List.length_cons, List.length_nil, if_true, if_false, Bool.false_eq_true] <;> omega
    · rw [if_pos rfl]
      refine ⟨?_, ?_, ?_, ?_, ?_, ?_, ?_, ?_, ?_⟩ <;> simp only [List.filter_append, List.length_append, List.filter, he, Bool.not_true, List.length_nil] <;> omega

theorem live_eq (B : Bk) (s : Svc) : (cntTo s.image s.name B.cps B.cps.length).live = ((liveTo B s.name B.cps.length).length : Int) := by
  rw [cnt_eq, (cntIs s.image (ofS s.name B.cps)).live, ← live_map, List.length_map]
theorem old_eq (B : Bk) (s : Svc) : (cntTo s.image s.name B.cps B.cps.length).old = ((someL B s fun c => c.image != s.image).length : Int) := by
  rw [cnt_eq, (cntIs s.image (ofS s.name B.cps)).old, ← live_map, List.filter_map, List.length_map]
  rfl
theorem drained_eq (B : Bk) (s : Svc) : (drained (liveS B s (ofS s.name B.cps)) : Int) = ((someL B s fun c => drainsB B c).length : Int) := by
  rw [liveS_map]
  unfold drained
  rw [List.countP_eq_length_filter, filter_fS, List.length_map]
  rfl

/-! ### What may end -/

theorem svcOf_self {B : Bk} (hV : Valid B) {s : Svc} (hs : s ∈ B.svcs) : svcOf B s.name = some s := by
  have hu := uniq_of hV.svcs
  obtain ⟨i, hi⟩ := List.getElem?_of_mem hs
  cases h : svcOf B s.name with
  | none => exact absurd rfl (svcOf_none h i s (List.getElem?_eq_some_iff.1 hi).1 hi)
  | some t =>
    obtain ⟨j, _, hj, e⟩ := svcOf_some h
    rcases Nat.lt_trichotomy i j with h' | h' | h'
    · exact absurd e.symm (hu i j s t h' hi hj)
    · subst h'; rw [hi] at hj; cases hj; rfl
    · exact absurd e (hu j i t s h' hj hi)
theorem find_self {B : Bk} (hV : Valid B) {c : Cp} (hc : c ∈ B.cps) : B.cps.find? (isC c.service c.number) = some c := by
  have hu := uniqC_of hV.cps
  obtain ⟨i, hi⟩ := List.getElem?_of_mem hc
  cases h : B.cps.find? (isC c.service c.number) with
  | none => rw [List.find?_eq_none] at h; exact absurd (isC_iff.2 ⟨rfl, rfl⟩) (h c hc)
  | some d =>
    have hd := isC_iff.1 (List.find?_some h)
    obtain ⟨j, hj⟩ := List.getElem?_of_mem (List.mem_of_find?_eq_some h)
    rcases Nat.lt_trichotomy i j with h' | h' | h'
    · exact absurd ⟨hd.1.symm, hd.2.symm⟩ (hu i j c d h' hi hj)
    · subst h'; rw [hi] at hj; cases hj; rfl
    · exact absurd hd (hu j i d c h' hj hi)
theorem may_eq {B : Bk} (hV : Valid B) {s : Svc} (hs : s ∈ B.svcs) {c : Cp} (hc : c ∈ B.cps) (hsv : c.service = s.name) : mayOf B c.service c.number = mayR s c (cntTo s.image s.name B.cps B.cps.length).ready := by
  unfold mayOf
  rw [find_self hV hc, hsv, svcOf_self hV hs, validB_iff.2 hV]
  simp only [Bool.true_and]
  exact mayL_R B s s.name c
theorem liveTo_mem {B : Bk} {sv : ByteArray} {i : Nat} (h : i ∈ liveTo B sv B.cps.length) : cpD B i ∈ B.cps ∧ (cpD B i).service = sv := by
  have hlt := liveTo_lt h
  refine ⟨List.mem_of_getElem? (cpD_some hlt), ?_⟩
  unfold liveTo liveP at h
  have := (List.mem_filter.1 h).2
  simp only [Bool.and_eq_true] at this
  exact same_nm.1 this.1

theorem filter_may {B : Bk} (hV : Valid B) {s : Svc} (hs : s ∈ B.svcs) (l : List Nat) (hl : ∀ i ∈ l, i ∈ liveTo B s.name B.cps.length) :
    (l.map (fS B s)).filter (fun x => mayR s x.c (cntTo s.image s.name B.cps B.cps.length).ready) = (l.filter (mayP B)).map (fS B s) := by
  rw [filter_fS]
  congr 1
  refine List.filter_congr fun i hi => ?_
  obtain ⟨h1, h2⟩ := liveTo_mem (hl i hi)
  unfold mayP
  rw [may_eq hV hs h1 h2]
  rfl

/-- The first to end, where all of them may. -/
theorem endFirst_all {B : Bk} (s : Svc) (r : Int) (l : List Nat) (hl : ∀ i ∈ l, mayR s (cpD B i) r = true) :
    endFirstO s r (l.map (fS B s)) = if l = [] then none else some { a0 s with ends := firstL B s.image l } := by
  cases l with
  | nil => rw [if_pos rfl]; exact endFirstO_nil s r _ rfl
  | cons i0 q =>
    rw [if_neg (by simp)]
    have hb : mayR s (firstS ((i0 :: q).map (fS B s))).c r = true := by
      rw [firstS_map]
      unfold bestTo
      rw [List.take_length]
      exact best_mem B s.image q _ (fun c => mayR s c r = true) (hl i0 (by simp)) fun i hi => hl i (List.mem_cons_of_mem _ hi)
    rw [endFirstO_yes s r _ _ (by simp) rfl hb, firstS_map]
    rfl
theorem endFirst_one {B : Bk} (hV : Valid B) {s : Svc} (hs : s ∈ B.svcs) (l : List Nat) (hl : ∀ i ∈ l, i ∈ liveTo B s.name B.cps.length) :
    endFirstO s (cntTo s.image s.name B.cps B.cps.length).ready (l.map (fS B s)) = if l ≠ [] ∧ mayOf B s.name (numOf (firstL B s.image l)) = true then some { a0 s with ends := firstL B s.image l } else none := by
  cases l with
  | nil => rw [if_neg (by simp)]; exact endFirstO_nil _ _ _ rfl
  | cons i0 q =>
    have hm : ∃ i, i ∈ liveTo B s.name B.cps.length ∧ bestTo B s.image i0 (i0 :: q) (i0 :: q).length = cpD B i := by
      unfold bestTo
      rw [List.take_length]
      exact best_mem B s.image q _ (fun c => ∃ i, i ∈ liveTo B s.name B.cps.length ∧ c = cpD B i) ⟨i0, hl i0 (by simp), rfl⟩ fun i hi => ⟨i, hl i (List.mem_cons_of_mem _ hi), rfl⟩
    obtain ⟨i, hi, he⟩ := hm
    obtain ⟨h1, h2⟩ := liveTo_mem hi
    have hmay := may_eq hV hs h1 h2
    rw [h2] at hmay
    have hf : firstL B s.image (i0 :: q) = [endOf (bestTo B s.image i0 (i0 :: q) (i0 :: q).length)] := rfl
    have hn : numOf (firstL B s.image (i0 :: q)) = (cpD B i).number := by rw [hf, he]; rfl
    rw [hn, hmay]
    have hb : (firstS ((i0 :: q).map (fS B s))).c = cpD B i := by rw [firstS_map, he]
    cases hc : mayR s (cpD B i) (cntTo s.image s.name B.cps B.cps.length).ready
    · rw [if_neg (by simp)]
      exact endFirstO_not s _ _ _ rfl (by rw [hb]; exact hc)
    · rw [if_pos ⟨by simp, rfl⟩, endFirstO_yes s _ _ _ (by simp) rfl (by rw [hb]; exact hc), hb, hf, he]

def keepO (A : Ac) : Option Ac := if keepA A = true then some A else none
theorem keepO_a0 (s : Svc) : keepO (a0 s) = none := rfl

theorem endO_eq (B : Bk) (s : Svc) (l : List Nat) : endO s (l.map (fS B s)) = keepO { a0 s with ends := endsL B l } := by
  unfold endO keepO keepA
  rw [List.length_map, endsS_map]
  cases l with
  | nil => rfl
  | cons i q => simp [endsL]

theorem replace_eq {B : Bk} (hV : Valid B) {s : Svc} (hs : s ∈ B.svcs) (hg : s.gone = false) (l : List Nat) (hl : ∀ i ∈ l, i ∈ liveTo B s.name B.cps.length) :
    replaceO s (cntTo s.image s.name B.cps B.cps.length) (l.map (fS B s)) = keepO (replaceA B s l) := by
  unfold replaceO replaceA
  rw [live_eq, List.length_map]
  by_cases h1 : (l.length : Int) = 0 ∨ ((liveTo B s.name B.cps.length).length : Int) < s.want
  · rw [if_pos h1, if_pos (by rcases h1 with h | h; exact .inr (.inl (by omega)); exact .inr (.inr h))]
    rfl
  · rw [if_neg h1, if_neg (by intro h; rcases h with h | h | h; rw [hg] at h; cases h; exact h1 (.inl (by omega)); exact h1 (.inr h))]
    by_cases h2 : ((liveTo B s.name B.cps.length).length : Int) < s.want + s.over
    · rw [if_pos h2, if_pos h2]; rfl
    · rw [if_neg h2, if_neg h2, filter_may hV hs l hl, endFirst_all (B := B) s _ _ fun i hi => ?_]
      · cases hm : l.filter (mayP B) with
        | nil => rfl
        | cons i q => rw [if_neg (by simp)]; unfold keepO keepA firstL; simp
      · obtain ⟨hi1, hi2⟩ := List.mem_filter.1 hi
        obtain ⟨h3, h4⟩ := liveTo_mem (hl i hi1)
        rw [← may_eq hV hs h3 h4]
        exact hi2

theorem counter_eq {B : Bk} (hV : Valid B) {s : Svc} (hs : s ∈ B.svcs) (hg : s.gone = false) :
    counterO s (cntTo s.image s.name B.cps B.cps.length) (drained (liveS B s (ofS s.name B.cps)) : Int) (liveS B s (ofS s.name B.cps)) = keepO (counterA B s) := by
  have hw := (hV.svcIn hs).want0
  unfold counterO counterA
  rw [if_neg (by rw [hg]; simp), live_eq, old_eq, drained_eq, liveS_map, endFirst_one hV hs _ fun i hi => hi]
  by_cases h1 : ((liveTo B s.name B.cps.length).length : Int) < s.want
  · rw [if_pos h1, if_pos h1]
    unfold keepO keepA
    rw [if_pos]
    simp only [Bool.or_eq_true, decide_eq_true_eq]
    exact .inl (.inl (.inl (by omega)))
  · rw [if_neg h1, if_neg h1]
    have hcalm : calmB B s = true ↔ ((someL B s fun c => c.image != s.image).length = 0 ∧ (someL B s fun c => drainsB B c).length = 0) := by
      unfold calmB
      simp only [Bool.and_eq_true, beq_iff_eq]
      omega
    by_cases hm : mayOf B s.name (numOf (firstL B s.image (liveTo B s.name B.cps.length))) = true
    · by_cases h2 : ((liveTo B s.name B.cps.length).length : Int) = s.want ∨ ((0 < ((someL B s fun c => c.image != s.image).length : Int) ∨ 0 < ((someL B s fun c => drainsB B c).length : Int)) ∧ ((liveTo B s.name B.cps.length).length : Int) ≤ s.want + s.over)
      · rw [if_pos h2, if_neg (fun h => by
          rcases h.2.1 with hc | hc
          · have := hcalm.1 hc; omega
          · omega)]
        rfl
      · have hpos : 0 < (liveTo B s.name B.cps.length).length := by omega
        have hc : calmB B s = true ∨ s.want + s.over < ((liveTo B s.name B.cps.length).length : Int) := by
          by_cases hov : s.want + s.over < ((liveTo B s.name B.cps.length).length : Int)
          · exact .inr hov
          · exact .inl (hcalm.2 (by omega))
        rw [if_neg h2, if_pos ⟨by intro h; rw [h] at hpos; simp at hpos, hm⟩, if_pos ⟨by omega, hc, hm⟩]
        unfold keepO
        rw [if_pos]
        unfold keepA
        cases hl : liveTo B s.name B.cps.length with
        | nil => rw [hl] at hpos; simp at hpos
        | cons i q => simp [firstL]
    · have e1 : ∀ A : Ac, (if liveTo B s.name B.cps.length ≠ [] ∧ mayOf B s.name (numOf (firstL B s.image (liveTo B s.name B.cps.length))) = true then some A else none) = none := fun A => if_neg (fun h => hm h.2)
      rw [e1]
      have e2 : ∀ A : Ac, (if s.want < ((liveTo B s.name B.cps.length).length : Int) ∧ (calmB B s = true ∨ s.want + s.over < ((liveTo B s.name B.cps.length).length : Int)) ∧ mayOf B s.name (numOf (firstL B s.image (liveTo B s.name B.cps.length))) = true then A else a0 s) = a0 s := fun A => if_neg (fun h => hm h.2.2)
      rw [e2]
      split <;> rfl

theorem ask_eq (kind : Int) (hk1 : 1 ≤ kind) (hk6 : kind ≤ 6) {B : Bk} (hV : Valid B) {s : Svc} (hs : s ∈ B.svcs) : askI kind B s = keepO (actOf kind B s) := by
  unfold askI stewO actOf
  by_cases h3 : kind = 3
  · subst h3
    simp only [show ¬(3 : Int) = 1 by omega, show ¬(3 : Int) = 2 by omega, if_false, if_true]
    unfold menderO
    rw [liveS_map, filter_fS, endO_eq]
    rfl
  rw [if_neg h3, if_neg h3]
  cases hg : s.gone
  · rw [if_neg (show ¬(false = true) by simp)]
    by_cases h1 : kind = 1
    · rw [if_pos h1, if_pos h1]; exact counter_eq hV hs hg
    rw [if_neg h1, if_neg h1]
    by_cases h2 : kind = 2
    · rw [if_pos h2, if_pos h2]
      unfold waverO
      rw [liveS_map, filter_fS]
      exact replace_eq hV hs hg _ fun i hi => (List.mem_filter.1 hi).1
    rw [if_neg h2, if_neg h2]
    by_cases h4 : kind = 4
    · subst h4
      simp only [show ¬(4 : Int) = 6 by omega, if_false, if_true]
      unfold scalerO
      rw [hg]
      by_cases hp : s.per = 0
      · rw [if_pos (.inr hp), if_neg (by omega)]; rfl
      · have hp0 := (perIn_of hV hs hp).1
        rw [if_neg (by simp [hp]), if_pos hp0]
        unfold keepO keepA
        have hsc : ∀ d, (scalerA s d).create = 0 ∧ (scalerA s d).ends = [] ∧ (scalerA s d).drop = false := fun d => by
          unfold scalerA a0
          (repeat' split) <;> exact ⟨rfl, rfl, rfl⟩
        obtain ⟨e1, e2, e3⟩ := hsc (desired s)
        rw [e1, e2, e3]
        simp
    rw [if_neg h4]
    by_cases h5 : kind = 5
    · subst h5
      simp only [show ¬(5 : Int) = 6 by omega, show ¬(5 : Int) = 4 by omega, if_false, if_true]
      unfold sweeperO
      rw [hg]; rfl
    rw [if_neg h5, if_pos (show kind = 6 by omega)]
    unfold drainerO
    rw [old_eq]
    by_cases ho : ((someL B s fun c => c.image != s.image).length : Int) = 0
    · rw [if_neg (by omega), if_pos (by simpa using ho), liveS_map, filter_fS]
      exact replace_eq hV hs hg _ fun i hi => (List.mem_filter.1 hi).1
    · rw [if_pos (by omega), if_neg (by simpa using ho)]; rfl
  · rw [if_pos rfl]
    have hone : ∀ (F : List Sn), replaceO s (cntTo s.image s.name B.cps B.cps.length) F = none := fun F => replaceO_no3 s _ F hg
    by_cases h5 : kind = 5
    · subst h5
      simp only [show ¬(5 : Int) = 1 by omega, show ¬(5 : Int) = 2 by omega, show ¬(5 : Int) = 4 by omega, if_false, if_true]
      unfold sweeperO
      rw [if_pos hg]
      have hcb : cntB B s.name = cntTo s.image s.name B.cps B.cps.length := by unfold cntB; rw [svcOf_self hV hs]
      rw [hcb]
      have hc := cntIs s.image (ofS s.name B.cps)
      rw [← cnt_eq] at hc
      have h1 := hc.r; have h2 := hc.f; have h3 := hc.o; have h4 := hc.r0; have h6 := hc.f0; have h7 := hc.o0; have h8 := hc.e0
      have hlv := live_eq B s
      generalize cntTo s.image s.name B.cps B.cps.length = n at *
      have hn : noneC n = (n.live + n.ending == 0) := by
        rw [Bool.eq_iff_iff]
        unfold noneC
        simp only [Bool.and_eq_true, beq_iff_eq]
        omega
      rw [hn]
      cases hz : (n.live + n.ending == 0)
      · rw [if_neg (by simp), liveS_map, endO_eq]
        rfl
      · rw [if_pos rfl]
        have hz' : n.live + n.ending = 0 := by simpa using hz
        have hl0 : liveTo B s.name B.cps.length = [] := List.length_eq_zero_iff.1 (by omega)
        rw [hl0]
        rfl
    · have hr : keepO (if kind = 5 then { a0 s with ends := endsL B (liveTo B s.name B.cps.length), drop := ((cntB B s.name).live + (cntB B s.name).ending == 0) } else a0 s) = none := by rw [if_neg h5]; rfl
      rw [hr]
      by_cases h1 : kind = 1
      · rw [if_pos h1]; exact counterO_gone s _ _ _ hg
      rw [if_neg h1]
      by_cases h2 : kind = 2
      · rw [if_pos h2]; exact hone _
      rw [if_neg h2]
      by_cases h4 : kind = 4
      · rw [if_pos h4]; unfold scalerO; rw [if_pos (.inl hg)]
      rw [if_neg h4, if_neg h5]
      unfold drainerO
      split
      · rfl
      · exact hone _

theorem askP_eq (kind : Int) (B : Bk) : askP kind B = askOf kind B := by
  unfold askP askOf
  cases hv : validB B
  · simp
  have hV := validB_iff.1 hv
  rw [if_pos rfl]
  cases hk : inB kind 1 6
  · rw [if_neg (by simp)]
    symm
    rw [List.filter_eq_nil_iff]
    intro A hA
    obtain ⟨s, _, rfl⟩ := List.mem_map.1 hA
    have h : ¬(1 ≤ kind ∧ kind ≤ 6) := fun h => by rw [inB_iff.2 h] at hk; cases hk
    have e : actOf kind B s = a0 s := by
      unfold actOf
      rw [if_neg (by omega)]
      split
      · rw [if_neg (by omega)]
      · rw [if_neg (by omega), if_neg (by omega), if_neg (by omega), if_neg (by omega)]
    rw [e]
    simp [keepA, a0]
  · obtain ⟨hk1, hk6⟩ := inB_iff.1 hk
    rw [if_pos ⟨rfl, rfl⟩]
    have : ∀ (l : List Svc), (∀ s ∈ l, s ∈ B.svcs) → l.filterMap (askI kind B) = (l.map (actOf kind B)).filter keepA := by
      intro l
      induction l with
      | nil => intro _; rfl
      | cons s l ih =>
        intro hl
        have h1 := ask_eq kind hk1 hk6 hV (hl s (by simp))
        have h2 := ih fun t ht => hl t (List.mem_cons_of_mem _ ht)
        rw [List.map_cons, List.filter_cons]
        unfold keepO at h1
        by_cases hc : keepA (actOf kind B s) = true
        · rw [if_pos hc] at h1
          rw [if_pos hc, List.filterMap_cons, h1, h2]
        · rw [if_neg hc] at h1
          rw [if_neg hc, List.filterMap_cons, h1, h2]
    exact this B.svcs fun s hs => hs

end Go.Proofs.YtbceafpodamnfabGreat
