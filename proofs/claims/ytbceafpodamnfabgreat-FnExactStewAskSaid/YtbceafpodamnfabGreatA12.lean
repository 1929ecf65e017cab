/-
  My own: Pg, Ph.
-/
import Derived.Test.YtbceafpodamnfabGreatA09
import Derived.Test.YtbceafpodamnfabGreatA11
set_option linter.unusedVariables false
set_option linter.unusedSimpArgs false
/-
  My own. The first to end of some copies, by the specification.
-/
namespace Go.Proofs.YtbceafpodamnfabGreat
open Go.RowKit Go.Sort

def bestStep (B : Bk) (img : Int) (best : Cp) (i : Nat) : Cp := if soonerB B (cpD B i) best img then cpD B i else best
def bestTo (B : Bk) (img : Int) (i0 : Nat) (L : List Nat) (k : Nat) : Cp := ((L.take k).drop 1).foldl (bestStep B img) (cpD B i0)
def firstL (B : Bk) (img : Int) (L : List Nat) : List En := match L with
  | [] => []
  | i0 :: r => [endOf (bestTo B img i0 (i0 :: r) (i0 :: r).length)]
theorem bestTo_step {B : Bk} {img : Int} {i0 : Nat} {L : List Nat} {k i : Nat} (hk : 1 ≤ k) (h : L[k]? = some i) : bestTo B img i0 L (k + 1) = bestStep B img (bestTo B img i0 L k) i := by
  unfold bestTo
  have hlt : k < L.length := (List.getElem?_eq_some_iff.1 h).1
  rw [List.take_add_one, h]
  simp only [Option.toList]
  rw [List.drop_append_of_le_length (by simp; omega), List.foldl_append]
  rfl
theorem firstL_of {B : Bk} {img : Int} {L : List Nat} {i0 : Nat} (h : L[0]? = some i0) : firstL B img L = [endOf (bestTo B img i0 L L.length)] := by
  cases L with
  | nil => simp at h
  | cons a r => simp at h; subst h; rfl

set_option maxRecDepth 100000 in
set_option maxHeartbeats 8000000 in
theorem l5First_nil (B : Bk) (s : Svc) (gL capL : Nat) (a1 a2 a3 : Option Addr) (c1 c2 c3 : Nat) (w : World) :
    Calls Tryz.prog 93 #[.agg #[.int .i64 B.now, .slice a1 B.svcs.length c1, .slice a2 B.cps.length c2, .slice a3 B.bts.length c3], .agg #[.string s.name, .int .i64 s.version, .bool s.gone, .int .i64 s.image, .int .i64 s.want, .int .i64 s.down, .int .i64 s.over, .int .i64 s.next, .int .i64 s.per, .int .i64 s.least, .int .i64 s.most, .int .i64 s.load, .int .i64 s.cool], .slice (some ⟨gL, 0, none⟩) 0 capL] w fun e w' => ∃ g cap, e = .returned (.slice (some ⟨g, 0, none⟩) 0 cap) ∧ w.heap.size ≤ g ∧ RowIs w' 118 2 g 0 cap [] ∧ Below w.heap.size w w' := by
  obtain ⟨t0, t1, t2, t3⟩ := three_new w (.cells #[.int .i64 B.now, .slice a1 B.svcs.length c1, .slice a2 B.cps.length c2, .slice a3 B.bts.length c3] 34) (.cells #[.string s.name, .int .i64 s.version, .bool s.gone, .int .i64 s.image, .int .i64 s.want, .int .i64 s.down, .int .i64 s.over, .int .i64 s.next, .int .i64 s.per, .int .i64 s.least, .int .i64 s.most, .int .i64 s.load, .int .i64 s.cool] 48) (.cells #[] 118)
  have T2 : Hid _ := t2
  clear t0 t1 t2 t3
  have hbb : Below w.heap.size w (((w.alloc (.cells #[.int .i64 B.now, .slice a1 B.svcs.length c1, .slice a2 B.cps.length c2, .slice a3 B.bts.length c3] 34)).alloc (.cells #[.string s.name, .int .i64 s.version, .bool s.gone, .int .i64 s.image, .int .i64 s.want, .int .i64 s.down, .int .i64 s.over, .int .i64 s.next, .int .i64 s.per, .int .i64 s.least, .int .i64 s.most, .int .i64 s.load, .int .i64 s.cool] 48)).alloc (.cells #[] 118)) := (((Below.refl _ _).alloc (Nat.le_refl _) _).alloc (by simp) _).alloc (by simp; omega) _
  go_enter Tryz.func93, Tryz.ntmps93
  go_wp2
  go_ret
  exact ⟨w.heap.size + 1 + 1, 0, rfl, by omega, ⟨rfl, Nat.le_refl _, #[], T2.out, rfl, rfl⟩, hbb⟩

set_option maxRecDepth 100000 in
set_option maxHeartbeats 16000000 in
theorem l5First_cons (B : Bk) (s : Svc) (L : List Nat) (i0 : Nat) (gL capL : Nat) (a1 a2 a3 : Option Addr) (c1 c2 c3 : Nat) (w : World) (hS : B.small) (hB : BkAt w a1 a2 a3 B) (h0 : L[0]? = some i0) (hL : ∀ i ∈ L, i < B.cps.length) (hLn : L.length ≤ 1048576) (hLr : RowIs w 3 1 gL L.length capL (intsV L)) :
    Calls Tryz.prog 93 #[.agg #[.int .i64 B.now, .slice a1 B.svcs.length c1, .slice a2 B.cps.length c2, .slice a3 B.bts.length c3], .agg #[.string s.name, .int .i64 s.version, .bool s.gone, .int .i64 s.image, .int .i64 s.want, .int .i64 s.down, .int .i64 s.over, .int .i64 s.next, .int .i64 s.per, .int .i64 s.least, .int .i64 s.most, .int .i64 s.load, .int .i64 s.cool], .slice (some ⟨gL, 0, none⟩) L.length capL] w fun e w' => ∃ g cap, e = .returned (.slice (some ⟨g, 0, none⟩) 1 cap) ∧ w.heap.size ≤ g ∧ RowIs w' 118 2 g 1 cap (ensV [endOf (bestTo B s.image i0 L L.length)]) ∧ Below w.heap.size w w' := by
  obtain ⟨t0, t1, t2⟩ := two_new w (.cells #[.int .i64 B.now, .slice a1 B.svcs.length c1, .slice a2 B.cps.length c2, .slice a3 B.bts.length c3] 34) (.cells #[.string s.name, .int .i64 s.version, .bool s.gone, .int .i64 s.image, .int .i64 s.want, .int .i64 s.down, .int .i64 s.over, .int .i64 s.next, .int .i64 s.per, .int .i64 s.least, .int .i64 s.most, .int .i64 s.load, .int .i64 s.cool] 48)
  have T0 : Hid _ := t0
  have T1 : Hid _ := t1
  have HS2 : Hid _ := t2
  have hLrow : Hid (RowIs w 3 1 gL L.length capL (intsV L)) := hLr
  have hgL : gL < w.heap.size := hLr.lt
  clear t0 t1 t2 hLr
  have hbb : Below w.heap.size w ((w.alloc (.cells #[.int .i64 B.now, .slice a1 B.svcs.length c1, .slice a2 B.cps.length c2, .slice a3 B.bts.length c3] 34)).alloc (.cells #[.string s.name, .int .i64 s.version, .bool s.gone, .int .i64 s.image, .int .i64 s.want, .int .i64 s.down, .int .i64 s.over, .int .i64 s.next, .int .i64 s.per, .int .i64 s.least, .int .i64 s.most, .int .i64 s.load, .int .i64 s.cool] 48)) := ((Below.refl _ _).alloc (Nat.le_refl _) _).alloc (by simp) _
  have hl0 : 0 < L.length := (List.getElem?_eq_some_iff.1 h0).1
  have hi0 := hL i0 (List.mem_of_getElem? h0)
  have HL0 : Hid _ := intsV_at h0
  have hl := hS
  obtain ⟨hl1, hl2, hl3⟩ := hl
  have hne : B.cps ≠ [] := by intro h; rw [h] at hi0; simp at hi0
  have hB0 := hB
  obtain ⟨b, off, ea, hbs, hat⟩ := hB.2.1 hne
  subst ea
  obtain ⟨s0, hs0⟩ : ∃ s0, cpD B i0 = s0 := ⟨_, rfl⟩
  have hcx := hat i0 s0 (by rw [cpD_some hi0, hs0])
  have HS00 : Hid _ := hs0
  clear h0 hne hs0
  have hle0 : ((L.length : Int) == 0) = false := by rw [beq_eq_false_iff_ne]; omega
  go_enter Tryz.func93, Tryz.ntmps93
  go_wp2
  refine wp_region_grows 8 (by kernel_rfl) (by kernel_rfl) ?_
  apply grow_eq
  · intro V W K A hW hd hA hK
    simp only [putAll, List.getElem?_toArray, List.getElem?_cons_succ, List.getElem?_cons_zero, Option.bind_some, Act.put, List.setIfInBounds_toArray, List.set_cons_succ, List.set_cons_zero] at hA
    clear hd
    generalize V 0 = x0 at hA
    generalize V 1 = x1 at hA
    generalize V 2 = x2 at hA
    generalize V 3 = x3 at hA
    generalize V 4 = x4 at hA
    generalize V 5 = x5 at hA
    generalize V 6 = x6 at hA
    generalize V 7 = x7 at hA
    obtain rfl := hA
    go_wp2
    exact hK.out _ (Below.refl _ _)
  apply grow_eq
  · intro V W K A hW hd hA hK
    have d0 : V 0 = _ := hd 0 (by kernel_rfl)
    simp only [putAll, List.getElem?_toArray, List.getElem?_cons_succ, List.getElem?_cons_zero, Option.bind_some, Act.put, List.setIfInBounds_toArray, List.set_cons_succ, List.set_cons_zero] at hA
    clear hd
    generalize V 0 = x0 at d0 hA
    generalize V 1 = x1 at hA
    generalize V 2 = x2 at hA
    generalize V 3 = x3 at hA
    generalize V 4 = x4 at hA
    generalize V 5 = x5 at hA
    generalize V 6 = x6 at hA
    generalize V 7 = x7 at hA
    subst d0
    obtain rfl := hA
    have e2 := blk_cell (below_blk hW T0.out (by rw [HS2.out]; omega)) 2 rfl
    go_wp2
    exact hK.out _ (Below.refl _ _)
  apply grow_eq
  · intro V W K A hW hd hA hK
    simp only [putAll, List.getElem?_toArray, List.getElem?_cons_succ, List.getElem?_cons_zero, Option.bind_some, Act.put, List.setIfInBounds_toArray, List.set_cons_succ, List.set_cons_zero] at hA
    clear hd
    generalize V 0 = x0 at hA
    generalize V 1 = x1 at hA
    generalize V 2 = x2 at hA
    generalize V 3 = x3 at hA
    generalize V 4 = x4 at hA
    generalize V 5 = x5 at hA
    generalize V 6 = x6 at hA
    generalize V 7 = x7 at hA
    obtain rfl := hA
    go_wp2
    exact hK.out _ (Below.refl _ _)
  apply grow_eq
  · intro V W K A hW hd hA hK
    have d2 : V 2 = _ := hd 2 (by kernel_rfl)
    simp only [putAll, List.getElem?_toArray, List.getElem?_cons_succ, List.getElem?_cons_zero, Option.bind_some, Act.put, List.setIfInBounds_toArray, List.set_cons_succ, List.set_cons_zero] at hA
    clear hd
    generalize V 0 = x0 at hA
    generalize V 1 = x1 at hA
    generalize V 2 = x2 at d2 hA
    generalize V 3 = x3 at hA
    generalize V 4 = x4 at hA
    generalize V 5 = x5 at hA
    generalize V 6 = x6 at hA
    generalize V 7 = x7 at hA
    subst d2
    obtain rfl := hA
    go_wp2
    exact hK.out _ (Below.refl _ _)
  apply grow_eq
  · intro V W K A hW hd hA hK
    have d3 : V 3 = _ := hd 3 (by kernel_rfl)
    simp only [putAll, List.getElem?_toArray, List.getElem?_cons_succ, List.getElem?_cons_zero, Option.bind_some, Act.put, List.setIfInBounds_toArray, List.set_cons_succ, List.set_cons_zero] at hA
    clear hd
    generalize V 0 = x0 at hA
    generalize V 1 = x1 at hA
    generalize V 2 = x2 at hA
    generalize V 3 = x3 at d3 hA
    generalize V 4 = x4 at hA
    generalize V 5 = x5 at hA
    generalize V 6 = x6 at hA
    generalize V 7 = x7 at hA
    subst d3
    obtain rfl := hA
    have y0 := (hLrow.out.below (hbb.trans (hW.mono hbb.size)) hgL).cell HL0.out
    go_wp2
    exact hK.out _ (Below.refl _ _)
  apply grow_eq
  · intro V W K A hW hd hA hK
    have d1 : V 1 = _ := hd 1 (by kernel_rfl)
    have d4 : V 4 = _ := hd 4 (by kernel_rfl)
    simp only [putAll, List.getElem?_toArray, List.getElem?_cons_succ, List.getElem?_cons_zero, Option.bind_some, Act.put, List.setIfInBounds_toArray, List.set_cons_succ, List.set_cons_zero] at hA
    clear hd
    generalize V 0 = x0 at hA
    generalize V 1 = x1 at d1 hA
    generalize V 2 = x2 at hA
    generalize V 3 = x3 at hA
    generalize V 4 = x4 at d4 hA
    generalize V 5 = x5 at hA
    generalize V 6 = x6 at hA
    generalize V 7 = x7 at hA
    subst d1
    subst d4
    obtain rfl := hA
    go_wp2
    exact hK.out _ (Below.refl _ _)
  apply grow_eq
  · intro V W K A hW hd hA hK
    have d5 : V 5 = _ := hd 5 (by kernel_rfl)
    simp only [putAll, List.getElem?_toArray, List.getElem?_cons_succ, List.getElem?_cons_zero, Option.bind_some, Act.put, List.setIfInBounds_toArray, List.set_cons_succ, List.set_cons_zero] at hA
    clear hd
    generalize V 0 = x0 at hA
    generalize V 1 = x1 at hA
    generalize V 2 = x2 at hA
    generalize V 3 = x3 at hA
    generalize V 4 = x4 at hA
    generalize V 5 = x5 at d5 hA
    generalize V 6 = x6 at hA
    generalize V 7 = x7 at hA
    subst d5
    obtain rfl := hA
    have hq := hcx.below (hbb.trans (hW.mono hbb.size)) hbs
    unfold CpAt at hq
    obtain ⟨q0, q1, q2, q3, q4, q5, q6⟩ := hq
    go_wp2
    exact hK.out _ (Below.refl _ _)
  refine grow_op (fun v W => ∃ p, v = .pointer (some ⟨p, 0, none⟩) ∧ w.heap.size + 1 + 1 ≤ p ∧ W.heap[p]? = some (.cells #[.string ⟨#[]⟩, .int .i64 0, .int .i64 0, .int .i64 0, .int .i64 0, .bool false, .string ⟨#[]⟩] 88 (0, 0))) (fun v W W2 ⟨p, h1, h2, h3⟩ hb => ⟨p, h1, h2, below_blk hb h3 (Array.getElem?_eq_some_iff.1 h3).1⟩) ?_ ?_
  · intro V W K A hW hd hA hK
    simp only [putAll, List.getElem?_toArray, List.getElem?_cons_succ, List.getElem?_cons_zero, Option.bind_some, Act.put, List.setIfInBounds_toArray, List.set_cons_succ, List.set_cons_zero] at hA
    clear hd
    generalize V 0 = x0 at hA
    generalize V 1 = x1 at hA
    generalize V 2 = x2 at hA
    generalize V 3 = x3 at hA
    generalize V 4 = x4 at hA
    generalize V 5 = x5 at hA
    generalize V 6 = x6 at hA
    generalize V 7 = x7 at hA
    obtain rfl := hA
    go_wp2
    exact hK.out _ _ (below_box W _) ⟨_, rfl, (by have := hW.size; rw [HS2.out] at this; exact this), heap_alloc_new W _⟩
  intro V W A hW hS hA
  have d0 : V 0 = _ := hS 0 (by omega)
  have d1 : V 1 = _ := hS 1 (by omega)
  have d2 : V 2 = _ := hS 2 (by omega)
  have d3 : V 3 = _ := hS 3 (by omega)
  have d4 : V 4 = _ := hS 4 (by omega)
  have d5 : V 5 = _ := hS 5 (by omega)
  have d6 : V 6 = _ := hS 6 (by omega)
  have d7 : (fun v W => ∃ p, v = .pointer (some ⟨p, 0, none⟩) ∧ w.heap.size + 1 + 1 ≤ p ∧ W.heap[p]? = some (.cells #[.string ⟨#[]⟩, .int .i64 0, .int .i64 0, .int .i64 0, .int .i64 0, .bool false, .string ⟨#[]⟩] 88 (0, 0))) (V 7) W := hS 7 (by omega)
  simp only [putAll, List.getElem?_toArray, List.getElem?_cons_succ, List.getElem?_cons_zero, Option.bind_some, Act.put, List.setIfInBounds_toArray, List.set_cons_succ, List.set_cons_zero] at hA
  clear hS
  generalize V 0 = x0 at d0 hA
  generalize V 1 = x1 at d1 hA
  generalize V 2 = x2 at d2 hA
  generalize V 3 = x3 at d3 hA
  generalize V 4 = x4 at d4 hA
  generalize V 5 = x5 at d5 hA
  generalize V 6 = x6 at d6 hA
  generalize V 7 = x7 at d7 hA
  subst d0
  subst d1
  subst d2
  subst d3
  subst d4
  subst d5
  subst d6
  obtain rfl := hA
  simp only [List.drop_succ_cons, List.drop_zero]
  obtain ⟨p, rfl, hp, hpz⟩ := d7
  refine wpList_store_at rfl 88 (.tmp 7) (.tmp 19) rfl p 0 #[.string s0.service, .int .i64 s0.number, .int .i64 s0.version, .int .i64 s0.image, .int .i64 s0.state, .bool s0.ending, .string s0.berth] rfl rfl 88 #[.string ⟨#[]⟩, .int .i64 0, .int .i64 0, .int .i64 0, .int .i64 0, .bool false, .string ⟨#[]⟩] hpz Tryz.infosCopy (Nat.le_refl 7) (one_Cp s0) ?_
  intro w2 hrow2 hsz2 hb2
  have hbest0 : Hid (w2.heap[p]? = some (.cells #[.string s0.service, .int .i64 s0.number, .int .i64 s0.version, .int .i64 s0.image, .int .i64 s0.state, .bool s0.ending, .string s0.berth] 88 (0, 0))) := hrow2
  have hbW : Below (w.heap.size + 1 + 1) ((w.alloc (.cells #[.int .i64 B.now, .slice a1 B.svcs.length c1, .slice (some ⟨b, off, none⟩) B.cps.length c2, .slice a3 B.bts.length c3] 34)).alloc (.cells #[.string s.name, .int .i64 s.version, .bool s.gone, .int .i64 s.image, .int .i64 s.want, .int .i64 s.down, .int .i64 s.over, .int .i64 s.next, .int .i64 s.per, .int .i64 s.least, .int .i64 s.most, .int .i64 s.load, .int .i64 s.cool] 48)) w2 := by rw [HS2.out] at hW; exact hW.trans (hb2.mono (by omega))
  have hbox0 : Hid _ := below_blk hbW T0.out (by omega)
  have hsv0 : Hid _ := below_blk hbW T1.out (by omega)
  have hbw2 : Below w.heap.size w w2 := hbb.trans (hbW.mono (by omega))
  clear hW hb2 hsz2 hrow2 hpz T0 T1 HS2 hbb hbW HL0 hcx
  go_wp2
  go_loopw [8] (fun iv wr => ∃ (k : Nat) (best : Cp), 1 ≤ k ∧ k ≤ L.length ∧ iv = .int .i64 k ∧ Hid (best = bestTo B s.image i0 L k) ∧ Below w.heap.size w wr ∧ Hid (wr.heap[w.heap.size]? = some (.cells #[.int .i64 B.now, .slice a1 B.svcs.length c1, .slice (some ⟨b, off, none⟩) B.cps.length c2, .slice a3 B.bts.length c3] 34 (0, 0))) ∧ Hid (wr.heap[w.heap.size + 1]? = some (.cells #[.string s.name, .int .i64 s.version, .bool s.gone, .int .i64 s.image, .int .i64 s.want, .int .i64 s.down, .int .i64 s.over, .int .i64 s.next, .int .i64 s.per, .int .i64 s.least, .int .i64 s.most, .int .i64 s.load, .int .i64 s.cool] 48 (0, 0))) ∧ Hid (wr.heap[p]? = some (.cells #[.string best.service, .int .i64 best.number, .int .i64 best.version, .int .i64 best.image, .int .i64 best.state, .bool best.ending, .string best.berth] 88 (0, 0)))) (fun i _ => L.length - (intOf i).toNat)
  case atStart => exact ⟨1, s0, by omega, by omega, rfl, by unfold Hid bestTo; rw [← HS00.out]; cases L with | nil => simp at hl0 | cons a r => simp, hbw2, hbox0, hsv0, hbest0⟩
  case round =>
    clear hbw2 hbox0 hsv0 hbest0 HS00
    obtain ⟨k, best, hk1, hk, rfl, HBT, hb, hbox, hsv, hbest⟩ := hrel
    have hbl : w.heap.size < wr.heap.size := (Array.getElem?_eq_some_iff.1 hbox.out).1
    have hsl : w.heap.size + 1 < wr.heap.size := (Array.getElem?_eq_some_iff.1 hsv.out).1
    have hpl : p < wr.heap.size := (Array.getElem?_eq_some_iff.1 hbest.out).1
    by_cases hlt : k < L.length
    · obtain ⟨i, hik⟩ : ∃ i, L[k]? = some i := ⟨L[k], by simp [hlt]⟩
      have hilt := hL i (List.mem_of_getElem? hik)
      have HLK : Hid _ := intsV_at hik
      obtain ⟨x, hx⟩ : ∃ x, cpD B i = x := ⟨_, rfl⟩
      have hcx := hat i x (by rw [cpD_some hilt, hx])
      obtain ⟨m, HM⟩ : ∃ m, Hid (soonerB B x best s.image = m) := ⟨_, rfl⟩
      have HST : Hid (bestTo B s.image i0 L (k + 1) = if m then x else best) := by
        unfold Hid
        rw [bestTo_step hk1 hik, ← HBT.out]
        unfold bestStep
        rw [hx, HM.out]
      have HC : Hid (∀ W : World, BkAt W a1 (some ⟨b, off, none⟩) a3 B → Calls Tryz.prog 133 #[.agg #[.int .i64 B.now, .slice a1 B.svcs.length c1, .slice (some ⟨b, off, none⟩) B.cps.length c2, .slice a3 B.bts.length c3], .agg #[.string x.service, .int .i64 x.number, .int .i64 x.version, .int .i64 x.image, .int .i64 x.state, .bool x.ending, .string x.berth], .agg #[.string best.service, .int .i64 best.number, .int .i64 best.version, .int .i64 best.image, .int .i64 best.state, .bool best.ending, .string best.berth], .int .i64 s.image] W fun e w' => e = .returned (.bool m) ∧ Below W.heap.size W w') := fun W h => by
        rw [← HM.out]; exact l5Sooner_any B x best s.image a1 _ a3 c1 c2 c3 W hS h
      have hz := hb.size
      clear hik hx
      go_wp2
      refine wp_region_grows 12 (by kernel_rfl) (by kernel_rfl) ?_
      apply grow_eq
      · intro V W K A hW hd hA hK
        simp only [putAll, List.getElem?_toArray, List.getElem?_cons_succ, List.getElem?_cons_zero, Option.bind_some, Act.put, List.setIfInBounds_toArray, List.set_cons_succ, List.set_cons_zero] at hA
        clear hd
        generalize V 0 = x0 at hA
        generalize V 1 = x1 at hA
        generalize V 2 = x2 at hA
        generalize V 3 = x3 at hA
        generalize V 4 = x4 at hA
        generalize V 5 = x5 at hA
        generalize V 6 = x6 at hA
        generalize V 7 = x7 at hA
        generalize V 8 = x8 at hA
        generalize V 9 = x9 at hA
        generalize V 10 = x10 at hA
        generalize V 11 = x11 at hA
        obtain rfl := hA
        have e0 := blk_cell (below_blk hW hbox.out hbl) 0 rfl
        have e1 := blk_cell (below_blk hW hbox.out hbl) 1 rfl
        have e2 := blk_cell (below_blk hW hbox.out hbl) 2 rfl
        have e3 := blk_cell (below_blk hW hbox.out hbl) 3 rfl
        go_wp2
        exact hK.out _ (Below.refl _ _)
      apply grow_eq
      · intro V W K A hW hd hA hK
        simp only [putAll, List.getElem?_toArray, List.getElem?_cons_succ, List.getElem?_cons_zero, Option.bind_some, Act.put, List.setIfInBounds_toArray, List.set_cons_succ, List.set_cons_zero] at hA
        clear hd
        generalize V 0 = x0 at hA
        generalize V 1 = x1 at hA
        generalize V 2 = x2 at hA
        generalize V 3 = x3 at hA
        generalize V 4 = x4 at hA
        generalize V 5 = x5 at hA
        generalize V 6 = x6 at hA
        generalize V 7 = x7 at hA
        generalize V 8 = x8 at hA
        generalize V 9 = x9 at hA
        generalize V 10 = x10 at hA
        generalize V 11 = x11 at hA
        obtain rfl := hA
        go_wp2
        exact hK.out _ (Below.refl _ _)
      apply grow_eq
      · intro V W K A hW hd hA hK
        have d1 : V 1 = _ := hd 1 (by kernel_rfl)
        simp only [putAll, List.getElem?_toArray, List.getElem?_cons_succ, List.getElem?_cons_zero, Option.bind_some, Act.put, List.setIfInBounds_toArray, List.set_cons_succ, List.set_cons_zero] at hA
        clear hd
        generalize V 0 = x0 at hA
        generalize V 1 = x1 at d1 hA
        generalize V 2 = x2 at hA
        generalize V 3 = x3 at hA
        generalize V 4 = x4 at hA
        generalize V 5 = x5 at hA
        generalize V 6 = x6 at hA
        generalize V 7 = x7 at hA
        generalize V 8 = x8 at hA
        generalize V 9 = x9 at hA
        generalize V 10 = x10 at hA
        generalize V 11 = x11 at hA
        subst d1
        obtain rfl := hA
        have e2 := blk_cell (below_blk hW hbox.out hbl) 2 rfl
        go_wp2
        exact hK.out _ (Below.refl _ _)
      apply grow_eq
      · intro V W K A hW hd hA hK
        simp only [putAll, List.getElem?_toArray, List.getElem?_cons_succ, List.getElem?_cons_zero, Option.bind_some, Act.put, List.setIfInBounds_toArray, List.set_cons_succ, List.set_cons_zero] at hA
        clear hd
        generalize V 0 = x0 at hA
        generalize V 1 = x1 at hA
        generalize V 2 = x2 at hA
        generalize V 3 = x3 at hA
        generalize V 4 = x4 at hA
        generalize V 5 = x5 at hA
        generalize V 6 = x6 at hA
        generalize V 7 = x7 at hA
        generalize V 8 = x8 at hA
        generalize V 9 = x9 at hA
        generalize V 10 = x10 at hA
        generalize V 11 = x11 at hA
        obtain rfl := hA
        go_wp2
        exact hK.out _ (Below.refl _ _)
      apply grow_eq
      · intro V W K A hW hd hA hK
        simp only [putAll, List.getElem?_toArray, List.getElem?_cons_succ, List.getElem?_cons_zero, Option.bind_some, Act.put, List.setIfInBounds_toArray, List.set_cons_succ, List.set_cons_zero] at hA
        clear hd
        generalize V 0 = x0 at hA
        generalize V 1 = x1 at hA
        generalize V 2 = x2 at hA
        generalize V 3 = x3 at hA
        generalize V 4 = x4 at hA
        generalize V 5 = x5 at hA
        generalize V 6 = x6 at hA
        generalize V 7 = x7 at hA
        generalize V 8 = x8 at hA
        generalize V 9 = x9 at hA
        generalize V 10 = x10 at hA
        generalize V 11 = x11 at hA
        obtain rfl := hA
        go_wp2
        exact hK.out _ (Below.refl _ _)
      apply grow_eq
      · intro V W K A hW hd hA hK
        have d3 : V 3 = _ := hd 3 (by kernel_rfl)
        have d4 : V 4 = _ := hd 4 (by kernel_rfl)
        simp only [putAll, List.getElem?_toArray, List.getElem?_cons_succ, List.getElem?_cons_zero, Option.bind_some, Act.put, List.setIfInBounds_toArray, List.set_cons_succ, List.set_cons_zero] at hA
        clear hd
        generalize V 0 = x0 at hA
        generalize V 1 = x1 at hA
        generalize V 2 = x2 at hA
        generalize V 3 = x3 at d3 hA
        generalize V 4 = x4 at d4 hA
        generalize V 5 = x5 at hA
        generalize V 6 = x6 at hA
        generalize V 7 = x7 at hA
        generalize V 8 = x8 at hA
        generalize V 9 = x9 at hA
        generalize V 10 = x10 at hA
        generalize V 11 = x11 at hA
        subst d3
        subst d4
        obtain rfl := hA
        go_wp2
        exact hK.out _ (Below.refl _ _)
      apply grow_eq
      · intro V W K A hW hd hA hK
        have d5 : V 5 = _ := hd 5 (by kernel_rfl)
        simp only [putAll, List.getElem?_toArray, List.getElem?_cons_succ, List.getElem?_cons_zero, Option.bind_some, Act.put, List.setIfInBounds_toArray, List.set_cons_succ, List.set_cons_zero] at hA
        clear hd
        generalize V 0 = x0 at hA
        generalize V 1 = x1 at hA
        generalize V 2 = x2 at hA
        generalize V 3 = x3 at hA
        generalize V 4 = x4 at hA
        generalize V 5 = x5 at d5 hA
        generalize V 6 = x6 at hA
        generalize V 7 = x7 at hA
        generalize V 8 = x8 at hA
        generalize V 9 = x9 at hA
        generalize V 10 = x10 at hA
        generalize V 11 = x11 at hA
        subst d5
        obtain rfl := hA
        have y0 := (hLrow.out.below (hb.trans (hW.mono hb.size)) hgL).cell HLK.out
        go_wp2
        exact hK.out _ (Below.refl _ _)
      apply grow_eq
      · intro V W K A hW hd hA hK
        have d2 : V 2 = _ := hd 2 (by kernel_rfl)
        have d6 : V 6 = _ := hd 6 (by kernel_rfl)
        simp only [putAll, List.getElem?_toArray, List.getElem?_cons_succ, List.getElem?_cons_zero, Option.bind_some, Act.put, List.setIfInBounds_toArray, List.set_cons_succ, List.set_cons_zero] at hA
        clear hd
        generalize V 0 = x0 at hA
        generalize V 1 = x1 at hA
        generalize V 2 = x2 at d2 hA
        generalize V 3 = x3 at hA
        generalize V 4 = x4 at hA
        generalize V 5 = x5 at hA
        generalize V 6 = x6 at d6 hA
        generalize V 7 = x7 at hA
        generalize V 8 = x8 at hA
        generalize V 9 = x9 at hA
        generalize V 10 = x10 at hA
        generalize V 11 = x11 at hA
        subst d2
        subst d6
        obtain rfl := hA
        go_wp2
        exact hK.out _ (Below.refl _ _)
      apply grow_eq
      · intro V W K A hW hd hA hK
        have d7 : V 7 = _ := hd 7 (by kernel_rfl)
        simp only [putAll, List.getElem?_toArray, List.getElem?_cons_succ, List.getElem?_cons_zero, Option.bind_some, Act.put, List.setIfInBounds_toArray, List.set_cons_succ, List.set_cons_zero] at hA
        clear hd
        generalize V 0 = x0 at hA
        generalize V 1 = x1 at hA
        generalize V 2 = x2 at hA
        generalize V 3 = x3 at hA
        generalize V 4 = x4 at hA
        generalize V 5 = x5 at hA
        generalize V 6 = x6 at hA
        generalize V 7 = x7 at d7 hA
        generalize V 8 = x8 at hA
        generalize V 9 = x9 at hA
        generalize V 10 = x10 at hA
        generalize V 11 = x11 at hA
        subst d7
        obtain rfl := hA
        have hq := hcx.below (hb.trans (hW.mono hb.size)) hbs
        unfold CpAt at hq
        obtain ⟨q0, q1, q2, q3, q4, q5, q6⟩ := hq
        go_wp2
        exact hK.out _ (Below.refl _ _)
      apply grow_eq
      · intro V W K A hW hd hA hK
        simp only [putAll, List.getElem?_toArray, List.getElem?_cons_succ, List.getElem?_cons_zero, Option.bind_some, Act.put, List.setIfInBounds_toArray, List.set_cons_succ, List.set_cons_zero] at hA
        clear hd
        generalize V 0 = x0 at hA
        generalize V 1 = x1 at hA
        generalize V 2 = x2 at hA
        generalize V 3 = x3 at hA
        generalize V 4 = x4 at hA
        generalize V 5 = x5 at hA
        generalize V 6 = x6 at hA
        generalize V 7 = x7 at hA
        generalize V 8 = x8 at hA
        generalize V 9 = x9 at hA
        generalize V 10 = x10 at hA
        generalize V 11 = x11 at hA
        obtain rfl := hA
        have z0 := blk_cell (below_blk hW hbest.out hpl) 0 rfl
        have z1 := blk_cell (below_blk hW hbest.out hpl) 1 rfl
        have z2 := blk_cell (below_blk hW hbest.out hpl) 2 rfl
        have z3 := blk_cell (below_blk hW hbest.out hpl) 3 rfl
        have z4 := blk_cell (below_blk hW hbest.out hpl) 4 rfl
        have z5 := blk_cell (below_blk hW hbest.out hpl) 5 rfl
        have z6 := blk_cell (below_blk hW hbest.out hpl) 6 rfl
        go_wp2
        exact hK.out _ (Below.refl _ _)
      apply grow_eq
      · intro V W K A hW hd hA hK
        simp only [putAll, List.getElem?_toArray, List.getElem?_cons_succ, List.getElem?_cons_zero, Option.bind_some, Act.put, List.setIfInBounds_toArray, List.set_cons_succ, List.set_cons_zero] at hA
        clear hd
        generalize V 0 = x0 at hA
        generalize V 1 = x1 at hA
        generalize V 2 = x2 at hA
        generalize V 3 = x3 at hA
        generalize V 4 = x4 at hA
        generalize V 5 = x5 at hA
        generalize V 6 = x6 at hA
        generalize V 7 = x7 at hA
        generalize V 8 = x8 at hA
        generalize V 9 = x9 at hA
        generalize V 10 = x10 at hA
        generalize V 11 = x11 at hA
        obtain rfl := hA
        go_wp2
        exact hK.out _ (Below.refl _ _)
      apply grow_eq
      · intro V W K A hW hd hA hK
        have d10 : V 10 = _ := hd 10 (by kernel_rfl)
        simp only [putAll, List.getElem?_toArray, List.getElem?_cons_succ, List.getElem?_cons_zero, Option.bind_some, Act.put, List.setIfInBounds_toArray, List.set_cons_succ, List.set_cons_zero] at hA
        clear hd
        generalize V 0 = x0 at hA
        generalize V 1 = x1 at hA
        generalize V 2 = x2 at hA
        generalize V 3 = x3 at hA
        generalize V 4 = x4 at hA
        generalize V 5 = x5 at hA
        generalize V 6 = x6 at hA
        generalize V 7 = x7 at hA
        generalize V 8 = x8 at hA
        generalize V 9 = x9 at hA
        generalize V 10 = x10 at d10 hA
        generalize V 11 = x11 at hA
        subst d10
        obtain rfl := hA
        have v3 := blk_cell (below_blk hW hsv.out hsl) 3 rfl
        go_wp2
        exact hK.out _ (Below.refl _ _)
      intro V W A hW hS hA
      have d0 : V 0 = _ := hS 0 (by omega)
      have d1 : V 1 = _ := hS 1 (by omega)
      have d2 : V 2 = _ := hS 2 (by omega)
      have d3 : V 3 = _ := hS 3 (by omega)
      have d4 : V 4 = _ := hS 4 (by omega)
      have d5 : V 5 = _ := hS 5 (by omega)
      have d6 : V 6 = _ := hS 6 (by omega)
      have d7 : V 7 = _ := hS 7 (by omega)
      have d8 : V 8 = _ := hS 8 (by omega)
      have d9 : V 9 = _ := hS 9 (by omega)
      have d10 : V 10 = _ := hS 10 (by omega)
      have d11 : V 11 = _ := hS 11 (by omega)
      simp only [putAll, List.getElem?_toArray, List.getElem?_cons_succ, List.getElem?_cons_zero, Option.bind_some, Act.put, List.setIfInBounds_toArray, List.set_cons_succ, List.set_cons_zero] at hA
      clear hS
      generalize V 0 = x0 at d0 hA
      generalize V 1 = x1 at d1 hA
      generalize V 2 = x2 at d2 hA
      generalize V 3 = x3 at d3 hA
      generalize V 4 = x4 at d4 hA
      generalize V 5 = x5 at d5 hA
      generalize V 6 = x6 at d6 hA
      generalize V 7 = x7 at d7 hA
      generalize V 8 = x8 at d8 hA
      generalize V 9 = x9 at d9 hA
      generalize V 10 = x10 at d10 hA
      generalize V 11 = x11 at d11 hA
      subst d0
      subst d1
      subst d2
      subst d3
      subst d4
      subst d5
      subst d6
      subst d7
      subst d8
      subst d9
      subst d10
      subst d11
      obtain rfl := hA
      simp only [List.drop_succ_cons, List.drop_zero]
      have hbW := hb.trans (hW.mono hb.size)
      go_wp2_with fail
      refine (HC.out _ (hB0.below hbW)).mono ?_
      rintro e w3 ⟨rfl, hb3⟩
      have hbWr : Below wr.heap.size wr w3 := hW.trans (hb3.mono hW.size)
      have hbw3 := hb.trans (hbWr.mono hb.size)
      have hbox3 : Hid _ := below_blk hbWr hbox.out hbl
      have hsv3 : Hid _ := below_blk hbWr hsv.out hsl
      have hbest3 : Hid _ := below_blk hbWr hbest.out hpl
      have hbl3 := Nat.lt_of_lt_of_le hbl hbWr.size
      have hpl3 := Nat.lt_of_lt_of_le hpl hbWr.size
      clear hW hb3 HC hbW hbox hsv hbest HM
      cases m
      · go_wp2
        go_roundw
        case rel => exact ⟨k + 1, best, by omega, by omega, by go_num, by unfold Hid; rw [HST.out]; rfl, hbw3, hbox3, hsv3, hbest3⟩
        case measure => simp [intOf]; omega
      · go_wp2
        refine wp_region_grows 8 (by kernel_rfl) (by kernel_rfl) ?_
        apply grow_eq
        · intro V W K A hW hd hA hK
          simp only [putAll, List.getElem?_toArray, List.getElem?_cons_succ, List.getElem?_cons_zero, Option.bind_some, Act.put, List.setIfInBounds_toArray, List.set_cons_succ, List.set_cons_zero] at hA
          clear hd
          generalize V 0 = x0 at hA
          generalize V 1 = x1 at hA
          generalize V 2 = x2 at hA
          generalize V 3 = x3 at hA
          generalize V 4 = x4 at hA
          generalize V 5 = x5 at hA
          generalize V 6 = x6 at hA
          generalize V 7 = x7 at hA
          obtain rfl := hA
          go_wp2
          exact hK.out _ (Below.refl _ _)
        apply grow_eq
        · intro V W K A hW hd hA hK
          have d0 : V 0 = _ := hd 0 (by kernel_rfl)
          simp only [putAll, List.getElem?_toArray, List.getElem?_cons_succ, List.getElem?_cons_zero, Option.bind_some, Act.put, List.setIfInBounds_toArray, List.set_cons_succ, List.set_cons_zero] at hA
          clear hd
          generalize V 0 = x0 at d0 hA
          generalize V 1 = x1 at hA
          generalize V 2 = x2 at hA
          generalize V 3 = x3 at hA
          generalize V 4 = x4 at hA
          generalize V 5 = x5 at hA
          generalize V 6 = x6 at hA
          generalize V 7 = x7 at hA
          subst d0
          obtain rfl := hA
          have e2 := blk_cell (below_blk hW hbox3.out hbl3) 2 rfl
          go_wp2
          exact hK.out _ (Below.refl _ _)
        apply grow_eq
        · intro V W K A hW hd hA hK
          simp only [putAll, List.getElem?_toArray, List.getElem?_cons_succ, List.getElem?_cons_zero, Option.bind_some, Act.put, List.setIfInBounds_toArray, List.set_cons_succ, List.set_cons_zero] at hA
          clear hd
          generalize V 0 = x0 at hA
          generalize V 1 = x1 at hA
          generalize V 2 = x2 at hA
          generalize V 3 = x3 at hA
          generalize V 4 = x4 at hA
          generalize V 5 = x5 at hA
          generalize V 6 = x6 at hA
          generalize V 7 = x7 at hA
          obtain rfl := hA
          go_wp2
          exact hK.out _ (Below.refl _ _)
        apply grow_eq
        · intro V W K A hW hd hA hK
          simp only [putAll, List.getElem?_toArray, List.getElem?_cons_succ, List.getElem?_cons_zero, Option.bind_some, Act.put, List.setIfInBounds_toArray, List.set_cons_succ, List.set_cons_zero] at hA
          clear hd
          generalize V 0 = x0 at hA
          generalize V 1 = x1 at hA
          generalize V 2 = x2 at hA
          generalize V 3 = x3 at hA
          generalize V 4 = x4 at hA
          generalize V 5 = x5 at hA
          generalize V 6 = x6 at hA
          generalize V 7 = x7 at hA
          obtain rfl := hA
          go_wp2
          exact hK.out _ (Below.refl _ _)
        apply grow_eq
        · intro V W K A hW hd hA hK
          have d2 : V 2 = _ := hd 2 (by kernel_rfl)
          have d3 : V 3 = _ := hd 3 (by kernel_rfl)
          simp only [putAll, List.getElem?_toArray, List.getElem?_cons_succ, List.getElem?_cons_zero, Option.bind_some, Act.put, List.setIfInBounds_toArray, List.set_cons_succ, List.set_cons_zero] at hA
          clear hd
          generalize V 0 = x0 at hA
          generalize V 1 = x1 at hA
          generalize V 2 = x2 at d2 hA
          generalize V 3 = x3 at d3 hA
          generalize V 4 = x4 at hA
          generalize V 5 = x5 at hA
          generalize V 6 = x6 at hA
          generalize V 7 = x7 at hA
          subst d2
          subst d3
          obtain rfl := hA
          go_wp2
          exact hK.out _ (Below.refl _ _)
        apply grow_eq
        · intro V W K A hW hd hA hK
          have d4 : V 4 = _ := hd 4 (by kernel_rfl)
          simp only [putAll, List.getElem?_toArray, List.getElem?_cons_succ, List.getElem?_cons_zero, Option.bind_some, Act.put, List.setIfInBounds_toArray, List.set_cons_succ, List.set_cons_zero] at hA
          clear hd
          generalize V 0 = x0 at hA
          generalize V 1 = x1 at hA
          generalize V 2 = x2 at hA
          generalize V 3 = x3 at hA
          generalize V 4 = x4 at d4 hA
          generalize V 5 = x5 at hA
          generalize V 6 = x6 at hA
          generalize V 7 = x7 at hA
          subst d4
          obtain rfl := hA
          have y0 := (hLrow.out.below (hbw3.trans (hW.mono hbw3.size)) hgL).cell HLK.out
          go_wp2
          exact hK.out _ (Below.refl _ _)
        apply grow_eq
        · intro V W K A hW hd hA hK
          have d1 : V 1 = _ := hd 1 (by kernel_rfl)
          have d5 : V 5 = _ := hd 5 (by kernel_rfl)
          simp only [putAll, List.getElem?_toArray, List.getElem?_cons_succ, List.getElem?_cons_zero, Option.bind_some, Act.put, List.setIfInBounds_toArray, List.set_cons_succ, List.set_cons_zero] at hA
          clear hd
          generalize V 0 = x0 at hA
          generalize V 1 = x1 at d1 hA
          generalize V 2 = x2 at hA
          generalize V 3 = x3 at hA
          generalize V 4 = x4 at hA
          generalize V 5 = x5 at d5 hA
          generalize V 6 = x6 at hA
          generalize V 7 = x7 at hA
          subst d1
          subst d5
          obtain rfl := hA
          go_wp2
          exact hK.out _ (Below.refl _ _)
        apply grow_eq
        · intro V W K A hW hd hA hK
          have d6 : V 6 = _ := hd 6 (by kernel_rfl)
          simp only [putAll, List.getElem?_toArray, List.getElem?_cons_succ, List.getElem?_cons_zero, Option.bind_some, Act.put, List.setIfInBounds_toArray, List.set_cons_succ, List.set_cons_zero] at hA
          clear hd
          generalize V 0 = x0 at hA
          generalize V 1 = x1 at hA
          generalize V 2 = x2 at hA
          generalize V 3 = x3 at hA
          generalize V 4 = x4 at hA
          generalize V 5 = x5 at hA
          generalize V 6 = x6 at d6 hA
          generalize V 7 = x7 at hA
          subst d6
          obtain rfl := hA
          have hq := hcx.below (hbw3.trans (hW.mono hbw3.size)) hbs
          unfold CpAt at hq
          obtain ⟨q0, q1, q2, q3, q4, q5, q6⟩ := hq
          go_wp2
          exact hK.out _ (Below.refl _ _)
        intro V W A hW hS hA
        have d0 : V 0 = _ := hS 0 (by omega)
        have d1 : V 1 = _ := hS 1 (by omega)
        have d2 : V 2 = _ := hS 2 (by omega)
        have d3 : V 3 = _ := hS 3 (by omega)
        have d4 : V 4 = _ := hS 4 (by omega)
        have d5 : V 5 = _ := hS 5 (by omega)
        have d6 : V 6 = _ := hS 6 (by omega)
        have d7 : V 7 = _ := hS 7 (by omega)
        simp only [putAll, List.getElem?_toArray, List.getElem?_cons_succ, List.getElem?_cons_zero, Option.bind_some, Act.put, List.setIfInBounds_toArray, List.set_cons_succ, List.set_cons_zero] at hA
        clear hS
        generalize V 0 = x0 at d0 hA
        generalize V 1 = x1 at d1 hA
        generalize V 2 = x2 at d2 hA
        generalize V 3 = x3 at d3 hA
        generalize V 4 = x4 at d4 hA
        generalize V 5 = x5 at d5 hA
        generalize V 6 = x6 at d6 hA
        generalize V 7 = x7 at d7 hA
        subst d0
        subst d1
        subst d2
        subst d3
        subst d4
        subst d5
        subst d6
        subst d7
        obtain rfl := hA
        simp only [List.drop_succ_cons, List.drop_zero]
        have hbest4 : Hid _ := below_blk hW hbest3.out hpl3
        refine wpList_store_at rfl 88 (.tmp 7) (.tmp 46) rfl p 0 #[.string x.service, .int .i64 x.number, .int .i64 x.version, .int .i64 x.image, .int .i64 x.state, .bool x.ending, .string x.berth] rfl rfl 88 #[.string best.service, .int .i64 best.number, .int .i64 best.version, .int .i64 best.image, .int .i64 best.state, .bool best.ending, .string best.berth] hbest4.out Tryz.infosCopy (Nat.le_refl 7) (one_Cp x) ?_
        intro w5 hrow5 hsz5 hb5
        have hbest5 : Hid (w5.heap[p]? = some (.cells #[.string x.service, .int .i64 x.number, .int .i64 x.version, .int .i64 x.image, .int .i64 x.state, .bool x.ending, .string x.berth] 88 (0, 0))) := hrow5
        have hbW5 : Below (w.heap.size + 1 + 1) w3 w5 := (hW.mono (by omega)).trans (hb5.mono (by omega))
        have hbox5 : Hid _ := below_blk hbW5 hbox3.out (by omega)
        have hsv5 : Hid _ := below_blk hbW5 hsv3.out (by omega)
        have hbw5 : Below w.heap.size w w5 := hbw3.trans (hbW5.mono (by omega))
        clear hW hb5 hsz5 hrow5 hbest4 hbW5 hbox3 hsv3 hbest3 hbw3
        go_wp2
        go_roundw
        case rel => exact ⟨k + 1, x, by omega, by omega, by go_num, by unfold Hid; rw [HST.out]; rfl, hbw5, hbox5, hsv5, hbest5⟩
        case measure => simp [intOf]; omega
    · have z1 := blk_cell hbest.out 1 rfl
      have z2 := blk_cell hbest.out 2 rfl
      go_wp2
      go_ret
      have hkl : k = L.length := by omega
      subst hkl
      refine ⟨wr.heap.size, 1, rfl, hb.size, ⟨rfl, Nat.le_refl _, #[.int .i64 best.number, .int .i64 best.version], heap_alloc_new wr _, rfl, ?_⟩, hb.alloc hb.size _⟩
      rw [← HBT.out]
      rfl

end Go.Proofs.YtbceafpodamnfabGreat

/-
  My own. The scaler, by the specification.
-/
namespace Go.Proofs.YtbceafpodamnfabGreat
open Go.RowKit Go.Sort

def clampD (s : Svc) (d : Int) : Int := if s.most < (if d < s.least then s.least else d) then s.most else if d < s.least then s.least else d
def desired (s : Svc) : Int := clampD s (Int.tdiv (s.load + s.per - 1) s.per)

set_option maxHeartbeats 2000000 in
theorem l5Desired_any (s : Svc) (w : World) (h0 : 0 ≤ s.load) (h1 : s.load ≤ 1000000) (h2 : 1 ≤ s.per) (h3 : s.per ≤ 1000000) (_h4 : 0 ≤ s.least) (_h5 : s.least ≤ 10) (_h6 : 0 ≤ s.most) (_h7 : s.most ≤ 10) :
    Calls Tryz.prog 96 #[.agg #[.string s.name, .int .i64 s.version, .bool s.gone, .int .i64 s.image, .int .i64 s.want, .int .i64 s.down, .int .i64 s.over, .int .i64 s.next, .int .i64 s.per, .int .i64 s.least, .int .i64 s.most, .int .i64 s.load, .int .i64 s.cool]] w fun e w' => e = .returned (.int .i64 (desired s)) ∧ Below w.heap.size w w' := by
  have hd0 : 0 ≤ Int.tdiv (s.load + s.per - 1) s.per := Int.tdiv_nonneg (by omega) (by omega)
  have hd1 : Int.tdiv (s.load + s.per - 1) s.per ≤ s.load + s.per - 1 := Int.tdiv_le_self s.per (by omega)
  have hp0 : ¬ s.per = 0 := by omega
  obtain ⟨d, hd⟩ : ∃ d, Int.tdiv (s.load + s.per - 1) s.per = d := ⟨_, rfl⟩
  have HO : Hid (desired s = clampD s d) := by unfold Hid desired; rw [hd]
  rw [hd] at hd0 hd1
  by_cases hl : d < s.least
  · by_cases hm : s.most < s.least
    · have HE : Hid (clampD s d = s.most) := by unfold Hid clampD; rw [if_pos hl, if_pos hm]
      go_enter Tryz.func96, Tryz.ntmps96
      go_wp2
      go_ret
      exact ⟨ret_int (by rw [HO.out, HE.out]), below_box _ _⟩
    · have HE : Hid (clampD s d = s.least) := by unfold Hid clampD; rw [if_pos hl, if_neg hm]
      go_enter Tryz.func96, Tryz.ntmps96
      go_wp2
      go_ret
      exact ⟨ret_int (by rw [HO.out, HE.out]), below_box _ _⟩
  · by_cases hm : s.most < d
    · have HE : Hid (clampD s d = s.most) := by unfold Hid clampD; rw [if_neg hl, if_pos hm]
      go_enter Tryz.func96, Tryz.ntmps96
      go_wp2
      go_ret
      exact ⟨ret_int (by rw [HO.out, HE.out]), below_box _ _⟩
    · have HE : Hid (clampD s d = d) := by unfold Hid clampD; rw [if_neg hl, if_neg hm]
      go_enter Tryz.func96, Tryz.ntmps96
      go_wp2
      go_ret
      exact ⟨ret_int (by rw [HO.out, HE.out]), below_box _ _⟩

end Go.Proofs.YtbceafpodamnfabGreat
