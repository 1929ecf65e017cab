/-
  My own: Vx, Vq.
-/
import Derived.Test.YtbceafpodamnfabG13
import Derived.Test.YtbceafpodamnfabG15
import Derived.Deep.RegionWith
/-
  My own. Done by the specification is done by the program.
-/
namespace Go.Proofs.Ytbceafpodamnfab
open Go.RowKit

theorem svcOf_selfV {B : Bk} (hV : Valid B) {s : Svc} (hs : s ∈ B.svcs) : svcOf B s.name = some s := by
  cases hf : svcOf B s.name with
  | none =>
    unfold svcOf at hf
    rw [List.find?_eq_none] at hf
    exact absurd (same_nm.2 rfl) (hf s hs)
  | some t =>
    obtain ⟨i, hi⟩ := List.getElem?_of_mem (svcOf_mem hf)
    obtain ⟨j, hj⟩ := List.getElem?_of_mem hs
    have hn : t.name = s.name := same_nm.1 (List.find?_some (p := fun x : Svc => x.name.toList == s.name.toList) hf)
    have hu := uniq_of hV.svcs
    rcases Nat.lt_trichotomy i j with h | h | h
    · exact absurd hn (hu i j t s h hi hj)
    · rw [h, hj] at hi
      exact hi.symm
    · exact absurd hn.symm (hu j i s t h hj hi)

theorem fold_ending (img : Int) (sv : ByteArray) : ∀ (l : List Cp) (n : Cnt), 0 ≤ n.ending → 0 ≤ (l.foldl (fun n c => cntOne img sv c n) n).ending ∧ ((l.foldl (fun n c => cntOne img sv c n) n).ending = 0 ↔ n.ending = 0 ∧ ∀ c ∈ l, c.service = sv → c.ending = false)
  | [], n, h => ⟨h, by simp⟩
  | c :: l, n, h => by
    have e : (cntOne img sv c n).ending = if c.service = sv ∧ c.ending = true then n.ending + 1 else n.ending := by
      unfold cntOne cntAdd
      by_cases h1 : c.service = sv
      · rw [if_pos (same_nm.2 h1)]
        cases h2 : c.ending
        · simp
        · simp [h1]
      · rw [if_neg (fun h' => h1 (same_nm.1 h')), if_neg (fun h' => h1 h'.1)]
    have hp : 0 ≤ (cntOne img sv c n).ending := by rw [e]; split <;> omega
    obtain ⟨q1, q2⟩ := fold_ending img sv l _ hp
    rw [List.foldl_cons]
    refine ⟨q1, q2.trans ?_⟩
    rw [e, List.forall_mem_cons]
    by_cases h' : c.service = sv ∧ c.ending = true
    · rw [if_pos h']
      constructor
      · intro h2; omega
      · intro h2; exact absurd (h2.2.1 h'.1) (by rw [h'.2]; simp)
    · rw [if_neg h']
      have hc : c.service = sv → c.ending = false := fun h1 => by
        cases h2 : c.ending
        · rfl
        · exact absurd ⟨h1, h2⟩ h'
      exact ⟨fun h2 => ⟨h2.1, hc, h2.2⟩, fun h2 => ⟨h2.1, h2.2.2⟩⟩

theorem cntS_B {B : Bk} (hV : Valid B) {s : Svc} (hs : s ∈ B.svcs) : cntB B s.name = cntS B s := by
  unfold cntB
  rw [svcOf_selfV hV hs]
  rfl

theorem ending_zero {B : Bk} (hV : Valid B) {s : Svc} (hs : s ∈ B.svcs) : (cntB B s.name).ending = 0 ↔ ∀ c ∈ B.cps, c.service = s.name → c.ending = false := by
  rw [cntS_B hV hs]
  unfold cntS cntTo
  rw [List.take_length]
  have := (fold_ending s.image s.name B.cps Cnt.none (Int.le_refl _)).2
  rw [this]
  exact ⟨fun h => h.2, fun h => ⟨rfl, h⟩⟩

theorem offS_zero (B : Bk) : ∀ (l : List Svc) (x : Int), (∀ s ∈ l, s.gone = false) → 0 ≤ x → 0 ≤ l.foldl (offS B) x ∧ (l.foldl (offS B) x = 0 ↔ x = 0 ∧ ∀ s ∈ l, (cntS B s).live = s.want)
  | [], x, _, h => ⟨h, by simp⟩
  | s :: l, x, hg, h => by
    have e : offS B x s = x + absI ((cntS B s).live - s.want) := by unfold offS; rw [if_neg (by rw [hg s (List.mem_cons_self ..)]; simp)]
    have hp := absI_pos ((cntS B s).live - s.want)
    have hz := absI_zero ((cntS B s).live - s.want)
    rw [List.foldl_cons, e]
    obtain ⟨q1, q2⟩ := offS_zero B l (x + absI ((cntS B s).live - s.want)) (fun t ht => hg t (List.mem_cons_of_mem _ ht)) (by omega)
    refine ⟨q1, q2.trans ?_⟩
    rw [List.forall_mem_cons]
    constructor
    · rintro ⟨h1, h2⟩
      exact ⟨by omega, by have := hz.1 (by omega); omega, h2⟩
    · rintro ⟨h1, h2, h3⟩
      exact ⟨by have := hz.2 (by omega); omega, h3⟩

theorem filter_zero {α : Type} (p : α → Bool) (l : List α) : ((l.filter p).length : Int) = 0 ↔ ∀ x ∈ l, p x = false := by
  rw [show ((l.filter p).length : Int) = 0 ↔ (l.filter p).length = 0 by omega, List.length_eq_zero_iff, List.filter_eq_nil_iff]
  exact ⟨fun h x hx => by simpa using h x hx, fun h x hx => by rw [h x hx]; simp⟩

theorem mem_live {B : Bk} {sv : ByteArray} {i : Nat} : i ∈ liveTo B sv B.cps.length ↔ i < B.cps.length ∧ (cpD B i).service = sv ∧ (cpD B i).ending = false := by
  unfold liveTo
  rw [List.mem_filter, List.mem_range]
  unfold liveP
  rw [Bool.and_eq_true, same_nm]
  simp

theorem zero_same {B : Bk} (hV : Valid B) : zeroR (rkTo B B.svcs.length) = zeroR (rkI B) := by
  have et : rkTo B B.svcs.length = B.svcs.foldl (rkS B) r0 := by unfold rkTo; rw [List.take_length]; rfl
  rw [et]
  by_cases hg : ∀ s ∈ B.svcs, s.gone = false
  · rw [Bool.eq_iff_iff, (foldS_zero B.svcs r0 hg ⟨Int.le_refl _, Int.le_refl _, Int.le_refl _, Int.le_refl _, Int.le_refl _⟩).2, zeroR_iff (r := rkI B)]
    have ho := (offS_zero B B.svcs 0 hg (Int.le_refl _)).2
    have eo : offTo B B.svcs.length = B.svcs.foldl (offS B) 0 := by unfold offTo; rw [List.take_length]
    show _ ↔ ((B.svcs.filter fun s => s.gone).length : Int) = 0 ∧ ((B.cps.filter (goneQ B)).length : Int) = 0 ∧ offTo B B.svcs.length = 0 ∧ (((liveL B).filter (oldQ B)).length : Int) = 0 ∧ (((liveL B).filter fun c => c.state != 3).length : Int) = 0
    rw [filter_zero, filter_zero, filter_zero, filter_zero, eo, ho]
    constructor
    · rintro ⟨_, h⟩
      have hend : ∀ c ∈ B.cps, c.ending = false := fun c hc => by
        obtain ⟨s, hs, _⟩ := hV.svc hc
        have hn : s.name = c.service := same_nm.1 (List.find?_some (p := fun x : Svc => x.name.toList == c.service.toList) hs)
        exact (ending_zero hV (svcOf_mem hs)).1 (h s (svcOf_mem hs)).1 c hc hn.symm
      refine ⟨hg, fun c hc => ?_, ⟨rfl, fun s hs => ?_⟩, fun c hc => ?_, fun c hc => ?_⟩
      · obtain ⟨s, hs, _⟩ := hV.svc hc
        rw [goneQ_of hs, hend c hc, hg s (svcOf_mem hs)]
        rfl
      · rw [← cntS_B hV hs]
        exact (h s hs).2.1
      · obtain ⟨hc1, hc2⟩ := List.mem_filter.1 hc
        obtain ⟨s, hs, _⟩ := hV.svc hc1
        have hn : s.name = c.service := same_nm.1 (List.find?_some (p := fun x : Svc => x.name.toList == c.service.toList) hs)
        obtain ⟨i, hi⟩ := List.getElem?_of_mem hc1
        have hl := (List.getElem?_eq_some_iff.1 hi).1
        have he := cpD_of hi
        rw [oldQ_of hs]
        have := (h s (svcOf_mem hs)).2.2.1 i (mem_live.2 ⟨hl, by rw [he]; exact hn.symm, by rw [he]; simpa using hc2⟩)
        rw [he] at this
        exact this
      · obtain ⟨hc1, hc2⟩ := List.mem_filter.1 hc
        obtain ⟨s, hs, _⟩ := hV.svc hc1
        have hn : s.name = c.service := same_nm.1 (List.find?_some (p := fun x : Svc => x.name.toList == c.service.toList) hs)
        obtain ⟨i, hi⟩ := List.getElem?_of_mem hc1
        have hl := (List.getElem?_eq_some_iff.1 hi).1
        have he := cpD_of hi
        have := (h s (svcOf_mem hs)).2.2.2 i (mem_live.2 ⟨hl, by rw [he]; exact hn.symm, by rw [he]; simpa using hc2⟩)
        rw [he] at this
        exact this
    · rintro ⟨_, hb, ⟨_, hc⟩, hd, he⟩
      have hend : ∀ c ∈ B.cps, c.ending = false := fun c hcm => by
        have := hb c hcm
        unfold goneQ at this
        rw [Bool.or_eq_false_iff] at this
        exact this.1
      refine ⟨rfl, fun s hs => ⟨(ending_zero hV hs).2 fun c hcm _ => hend c hcm, by rw [cntS_B hV hs]; exact hc s hs, fun i hi => ?_, fun i hi => ?_⟩⟩
      · obtain ⟨h1, h2, h3⟩ := mem_live.1 hi
        have hm := List.mem_of_getElem? (cpD_some h1)
        have := hd (cpD B i) (List.mem_filter.2 ⟨hm, by rw [h3]; rfl⟩)
        rw [oldQ_of (s := s) (by rw [h2]; exact svcOf_selfV hV hs)] at this
        exact this
      · obtain ⟨h1, h2, h3⟩ := mem_live.1 hi
        have hm := List.mem_of_getElem? (cpD_some h1)
        exact he (cpD B i) (List.mem_filter.2 ⟨hm, by rw [h3]; rfl⟩)
  · have hne : ((B.svcs.filter fun s => s.gone).length : Int) ≠ 0 := fun h => hg ((filter_zero _ _).1 h)
    have h1 : zeroR (B.svcs.foldl (rkS B) r0) = false := by
      rw [Bool.eq_false_iff]
      intro h
      have := (zeroR_iff.1 h).1
      rw [foldS_a] at this
      have e0 : r0.a = 0 := rfl
      omega
    have h2 : zeroR (rkI B) = false := by
      rw [Bool.eq_false_iff]
      intro h
      exact hne (zeroR_iff.1 h).1
    rw [h1, h2]

theorem done_same (B : Bk) : doneS B = doneI B := by
  unfold doneS doneI
  cases hv : validB B
  · rfl
  · have hV := validB_iff.1 hv
    unfold rankOf
    rw [hv, if_pos rfl, zero_same hV]
    rfl

end Go.Proofs.Ytbceafpodamnfab

/-
  My own. The law on StewDone: its walk.
-/
namespace Go.Proofs.Ytbceafpodamnfab
open Go.RowKit Go.Sort

theorem BkAt.drew {w : World} {a1 a2 a3 : Option Addr} {B : Bk} (h : BkAt w a1 a2 a3 B) : BkAt w.drew a1 a2 a3 B := h.below ((Below.refl _ _).drew)

set_option maxHeartbeats 4000000 in
theorem lawDone_any (B : Bk) (a1 a2 a3 : Option Addr) (c1 c2 c3 : Nat) (w : World) (hZ : B.sized) (hB : BkAt w a1 a2 a3 B) :
    Calls Try.prog 3 #[.agg #[.int .i64 B.now, .slice a1 B.svcs.length c1, .slice a2 B.cps.length c2, .slice a3 B.bts.length c3]] w fun e w' => e = .returned (.bool true) ∧ Below w.heap.size w w' := by
  have hb0 := below_box w (.cells #[.int .i64 B.now, .slice a1 B.svcs.length c1, .slice a2 B.cps.length c2, .slice a3 B.bts.length c3] 26)
  have T0 : Hid _ := heap_alloc_new w (.cells #[.int .i64 B.now, .slice a1 B.svcs.length c1, .slice a2 B.cps.length c2, .slice a3 B.bts.length c3] 26)
  have HS0 : Hid ((w.alloc (.cells #[.int .i64 B.now, .slice a1 B.svcs.length c1, .slice a2 B.cps.length c2, .slice a3 B.bts.length c3] 26)).heap.size = w.heap.size + 1) := by show (w.heap.push _).size = _; simp
  go_enter Try.func3, Try.ntmps3
  go_wp2_with fail
  refine (szBook_any B a1 a2 a3 c1 c2 c3 1048576 _ (by omega) (by omega) (hB.below hb0) hZ).mono ?_
  rintro e w1 ⟨r, rfl, hr0, hr1, hsm, hb1⟩
  have hbb1 := hb0.trans (hb1.mono hb0.size)
  have T1 : Hid _ := below_blk hb1 T0.out (by rw [HS0.out]; omega)
  have hz1 : w.heap.size < w1.heap.size := by have := hb1.size; rw [HS0.out] at this; omega
  have hB1 := hB.below hbb1
  clear hb1 hb0 T0 HS0
  by_cases hneg : r < 0
  · go_wp2
    go_ret
    exact ⟨rfl, hbb1⟩
  have hS : B.small := hsm.out (by omega)
  clear hsm
  have e0 := blk_cell T1.out 0 rfl
  have e1 := blk_cell T1.out 1 rfl
  have e2 := blk_cell T1.out 2 rfl
  have e3 := blk_cell T1.out 3 rfl
  go_wp2_with fail
  clear e0 e1 e2 e3 hneg hr0 hr1
  refine (toBook_any B a1 a2 a3 c1 c2 c3 _ hB1 hS).mono ?_
  rintro e w2 ⟨x1, x2, x3, rfl, hX, hb2⟩
  go_wp2_with fail
  refine (specDone_any B x1 x2 x3 _ _ _ _ hS hZ hX).mono ?_
  rintro e w3 ⟨rfl, hb3⟩
  have hbb3 := hb2.trans (hb3.mono hb2.size)
  have T3 : Hid _ := below_blk hbb3 T1.out hz1
  have hB3 := hB1.below hbb3
  have hbw3 := hbb1.trans (hbb3.mono hbb1.size)
  have hz3 : w.heap.size < w3.heap.size := Nat.lt_of_lt_of_le hz1 hbb3.size
  clear hX hb2 hb3 hbb3 T1 hbb1 hB1 hz1
  have e0 := blk_cell T3.out 0 rfl
  have e1 := blk_cell T3.out 1 rfl
  have e2 := blk_cell T3.out 2 rfl
  have e3 := blk_cell T3.out 3 rfl
  go_wp2_with fail
  clear e0 e1 e2 e3
  refine (toBook_any B a1 a2 a3 c1 c2 c3 _ hB3 hS).mono ?_
  rintro e w4 ⟨y1, y2, y3, rfl, hY, hb4⟩
  have hbw4 := hbw3.trans (hb4.mono hbw3.size)
  have T4 : Hid _ := below_blk hb4 T3.out hz3
  have hz4 : w.heap.size < w4.heap.size := Nat.lt_of_lt_of_le hz3 hb4.size
  have hB4 := hB3.below hb4
  clear hb4 hbw3 T3 hz3 hB3
  have hb5 := below_box w4 (.cells #[.int .i64 B.now, .slice y1 B.svcs.length B.svcs.length, .slice y2 B.cps.length B.cps.length, .slice y3 B.bts.length B.bts.length] 33)
  have U5 : Hid _ := heap_alloc_new w4 (.cells #[.int .i64 B.now, .slice y1 B.svcs.length B.svcs.length, .slice y2 B.cps.length B.cps.length, .slice y3 B.bts.length B.bts.length] 33)
  have HS5 : Hid ((w4.alloc (.cells #[.int .i64 B.now, .slice y1 B.svcs.length B.svcs.length, .slice y2 B.cps.length B.cps.length, .slice y3 B.bts.length B.bts.length] 33)).heap.size = w4.heap.size + 1) := by show (w4.heap.push _).size = _; simp
  go_wp2_with fail
  refine (implDone_any B y1 y2 y3 _ _ _ _ (Nat.le_refl _) hS hZ (hY.below hb5)).mono ?_
  rintro e w6 ⟨rfl, hb6⟩
  have hbb6 := hb5.trans (hb6.mono hb5.size)
  have hbw6 := hbw4.trans (hbb6.mono hbw4.size)
  have T6 : Hid _ := below_blk hbb6 T4.out hz4
  have U6 : Hid _ := below_blk hb6 U5.out (by rw [HS5.out]; omega)
  have hzM : w4.heap.size < w6.heap.size := by have := hb6.size; rw [HS5.out] at this; omega
  have hzN : w.heap.size < w6.heap.size := by omega
  have hB6 := (hB4.below hbb6).drew
  have hY6 := (hY.below hbb6).drew
  clear hb5 hb6 hbb6 hbw4 T4 U5 HS5 hB4 hY hB
  have e0 := blk_cell T6.out 0 rfl
  have e1 := blk_cell T6.out 1 rfl
  have e2 := blk_cell T6.out 2 rfl
  have e3 := blk_cell T6.out 3 rfl
  have u0 := blk_cell U6.out 0 rfl
  have u1 := blk_cell U6.out 1 rfl
  have u2 := blk_cell U6.out 2 rfl
  have u3 := blk_cell U6.out 3 rfl
  rw [← done_same B]
  generalize doneS B = v
  have hvv : (v != v) = false := by simp
  go_wp2
  go_region_with (first
    | (go_at_call 8; refine (toBook_any B a1 a2 a3 c1 c2 c3 _ hB6 hS).mono ?_; rintro e w7 ⟨x1, x2, x3, rfl, hX7, hb7⟩; have hc7 : ∀ o, w7.cell? ⟨w4.heap.size, o, none⟩ = w6.cell? ⟨w4.heap.size, o, none⟩ := fun o => hb7.cell (p := ⟨w4.heap.size, o, none⟩) hzM; have hB7 := hY6.below hb7)
    | (go_at_call 10; refine (eqBook_same B y1 y2 y3 x1 x2 x3 _ _ _ _ _ _ _ hS hB7 hX7).mono ?_; rintro e w8 ⟨rfl, hb8⟩))
  all_goals
    go_wp2
    go_ret
    exact ⟨rfl, (hbw6.drew.trans (hb7.mono hbw6.size)).trans (hb8.mono (Nat.le_trans hbw6.size hb7.size))⟩

end Go.Proofs.Ytbceafpodamnfab
