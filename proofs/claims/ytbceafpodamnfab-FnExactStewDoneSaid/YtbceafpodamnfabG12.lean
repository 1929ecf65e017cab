/-
  My own: Vl.
-/
import Derived.Test.YtbceafpodamnfabG10
import Derived.Test.YtbceafpodamnfabG09
/-
  My own. The rank by the program: old or on a berth that is to be drained; a load that is missed.
-/
namespace Go.Proofs.Ytbceafpodamnfab
open Go.RowKit Go.Sort Go.Maps

set_option maxRecDepth 100000 in
set_option maxHeartbeats 32000000 in
theorem loadMissed_any (s : Svc) (w : World) (hper : s.per ≠ 0 → 0 < s.per ∧ PerV s ∧ s.least ≤ s.most) :
    Calls Try.prog 68 #[.agg #[.string s.name, .int .i64 s.version, .bool s.gone, .int .i64 s.image, .int .i64 s.want, .int .i64 s.down, .int .i64 s.over, .int .i64 s.next, .int .i64 s.per, .int .i64 s.least, .int .i64 s.most, .int .i64 s.load, .int .i64 s.cool]] w fun e w' => e = .returned (.bool (missB s)) ∧ Below w.heap.size w w' := by
  have hb0 := below_box w (.cells #[.string s.name, .int .i64 s.version, .bool s.gone, .int .i64 s.image, .int .i64 s.want, .int .i64 s.down, .int .i64 s.over, .int .i64 s.next, .int .i64 s.per, .int .i64 s.least, .int .i64 s.most, .int .i64 s.load, .int .i64 s.cool] 57)
  have T0 : Hid _ := heap_alloc_new w (.cells #[.string s.name, .int .i64 s.version, .bool s.gone, .int .i64 s.image, .int .i64 s.want, .int .i64 s.down, .int .i64 s.over, .int .i64 s.next, .int .i64 s.per, .int .i64 s.least, .int .i64 s.most, .int .i64 s.load, .int .i64 s.cool] 57)
  obtain ⟨W0, hW0⟩ : ∃ W, w.alloc (.cells #[.string s.name, .int .i64 s.version, .bool s.gone, .int .i64 s.image, .int .i64 s.want, .int .i64 s.down, .int .i64 s.over, .int .i64 s.next, .int .i64 s.per, .int .i64 s.least, .int .i64 s.most, .int .i64 s.load, .int .i64 s.cool] 57) = W := ⟨_, rfl⟩
  have hz0 : w.heap.size < (w.alloc (.cells #[.string s.name, .int .i64 s.version, .bool s.gone, .int .i64 s.image, .int .i64 s.want, .int .i64 s.down, .int .i64 s.over, .int .i64 s.next, .int .i64 s.per, .int .i64 s.least, .int .i64 s.most, .int .i64 s.load, .int .i64 s.cool] 57)).heap.size := by simp
  rw [hW0] at hb0 T0 hz0
  obtain ⟨mb, HMB⟩ : ∃ m, Hid (missB s = m) := ⟨_, rfl⟩
  rw [HMB.out]
  go_enter Try.func68, Try.ntmps68
  go_upto_region 1 with fail
  clear hW0
  by_cases hp : 0 < s.per
  · obtain ⟨_, hpi, hlm⟩ := hper (by omega)
    obtain ⟨D, HD, HC⟩ : ∃ d, Hid (desV s = d) ∧ Hid (∀ W, Calls Try.prog 105 #[.agg #[.string s.name, .int .i64 s.version, .bool s.gone, .int .i64 s.image, .int .i64 s.want, .int .i64 s.down, .int .i64 s.over, .int .i64 s.next, .int .i64 s.per, .int .i64 s.least, .int .i64 s.most, .int .i64 s.load, .int .i64 s.cool]] W fun e w' => e = .returned (.int .i64 d) ∧ Below W.heap.size W w') := ⟨_, rfl, fun W => dueWantV_any s W hpi.load0 hpi.load1 (by omega) hpi.per1 hpi.least0 hpi.least1 hpi.most0 hpi.most1 hlm⟩
    have hpd : decide (0 < s.per) = true := decide_eq_true hp
    clear hpi hlm hper
    obtain ⟨wd, HWD⟩ : ∃ b, Hid ((s.want != D) = b) := ⟨_, rfl⟩
    cases wd
    · refine wp_region_grows 15 (by kernel_rfl) (by kernel_rfl) ?_
      apply grow_eq
      · intro V W K A hW hd hA hK
        simp only [putAll, List.getElem?_toArray, List.getElem?_cons_succ, List.getElem?_cons_zero, Option.bind_some, Act.put, List.setIfInBounds_toArray, List.set_cons_succ, List.set_cons_zero] at hA
        clear hd
        generalize V 0 = x0 at hA
        generalize V 1 = x1 at hA
        generalize V 2 = x2 at hA
        generalize V 3 = x3 at hA
        generalize V 4 = x4 at hA
        generalize V 5 = x5 at hA
        generalize V 6 = x6 at hA
        generalize V 7 = x7 at hA
        generalize V 8 = x8 at hA
        generalize V 9 = x9 at hA
        generalize V 10 = x10 at hA
        generalize V 11 = x11 at hA
        generalize V 12 = x12 at hA
        generalize V 13 = x13 at hA
        generalize V 14 = x14 at hA
        obtain rfl := hA
        go_wp2
        exact hK.out _ (Below.refl _ _)
      apply grow_eq
      · intro V W K A hW hd hA hK
        have d0 : V 0 = _ := hd 0 (by kernel_rfl)
        simp only [putAll, List.getElem?_toArray, List.getElem?_cons_succ, List.getElem?_cons_zero, Option.bind_some, Act.put, List.setIfInBounds_toArray, List.set_cons_succ, List.set_cons_zero] at hA
        clear hd
        generalize V 0 = x0 at d0 hA
        generalize V 1 = x1 at hA
        generalize V 2 = x2 at hA
        generalize V 3 = x3 at hA
        generalize V 4 = x4 at hA
        generalize V 5 = x5 at hA
        generalize V 6 = x6 at hA
        generalize V 7 = x7 at hA
        generalize V 8 = x8 at hA
        generalize V 9 = x9 at hA
        generalize V 10 = x10 at hA
        generalize V 11 = x11 at hA
        generalize V 12 = x12 at hA
        generalize V 13 = x13 at hA
        generalize V 14 = x14 at hA
        subst d0
        obtain rfl := hA
        have y8 := blk_cell (below_blk hW T0.out (by omega)) 8 rfl
        go_wp2
        exact hK.out _ (Below.refl _ _)
      apply grow_eq
      · intro V W K A hW hd hA hK
        have d1 : V 1 = _ := hd 1 (by kernel_rfl)
        simp only [putAll, List.getElem?_toArray, List.getElem?_cons_succ, List.getElem?_cons_zero, Option.bind_some, Act.put, List.setIfInBounds_toArray, List.set_cons_succ, List.set_cons_zero] at hA
        clear hd
        generalize V 0 = x0 at hA
        generalize V 1 = x1 at d1 hA
        generalize V 2 = x2 at hA
        generalize V 3 = x3 at hA
        generalize V 4 = x4 at hA
        generalize V 5 = x5 at hA
        generalize V 6 = x6 at hA
        generalize V 7 = x7 at hA
        generalize V 8 = x8 at hA
        generalize V 9 = x9 at hA
        generalize V 10 = x10 at hA
        generalize V 11 = x11 at hA
        generalize V 12 = x12 at hA
        generalize V 13 = x13 at hA
        generalize V 14 = x14 at hA
        subst d1
        obtain rfl := hA
        go_wp2
        exact hK.out _ (Below.refl _ _)
      apply grow_eq
      · intro V W K A hW hd hA hK
        have d2 : V 2 = _ := hd 2 (by kernel_rfl)
        simp only [putAll, List.getElem?_toArray, List.getElem?_cons_succ, List.getElem?_cons_zero, Option.bind_some, Act.put, List.setIfInBounds_toArray, List.set_cons_succ, List.set_cons_zero] at hA
        clear hd
        generalize V 0 = x0 at hA
        generalize V 1 = x1 at hA
        generalize V 2 = x2 at d2 hA
        generalize V 3 = x3 at hA
        generalize V 4 = x4 at hA
        generalize V 5 = x5 at hA
        generalize V 6 = x6 at hA
        generalize V 7 = x7 at hA
        generalize V 8 = x8 at hA
        generalize V 9 = x9 at hA
        generalize V 10 = x10 at hA
        generalize V 11 = x11 at hA
        generalize V 12 = x12 at hA
        generalize V 13 = x13 at hA
        generalize V 14 = x14 at hA
        subst d2
        obtain rfl := hA
        go_wp2
        exact hK.out _ (Below.refl _ _)
      apply grow_eq
      · intro V W K A hW hd hA hK
        have d3 : V 3 = _ := hd 3 (by kernel_rfl)
        simp only [putAll, List.getElem?_toArray, List.getElem?_cons_succ, List.getElem?_cons_zero, Option.bind_some, Act.put, List.setIfInBounds_toArray, List.set_cons_succ, List.set_cons_zero] at hA
        clear hd
        generalize V 0 = x0 at hA
        generalize V 1 = x1 at hA
        generalize V 2 = x2 at hA
        generalize V 3 = x3 at d3 hA
        generalize V 4 = x4 at hA
        generalize V 5 = x5 at hA
        generalize V 6 = x6 at hA
        generalize V 7 = x7 at hA
        generalize V 8 = x8 at hA
        generalize V 9 = x9 at hA
        generalize V 10 = x10 at hA
        generalize V 11 = x11 at hA
        generalize V 12 = x12 at hA
        generalize V 13 = x13 at hA
        generalize V 14 = x14 at hA
        subst d3
        obtain rfl := hA
        go_wp2
        exact hK.out _ (Below.refl _ _)
      apply grow_eq
      · intro V W K A hW hd hA hK
        have d3 : V 3 = _ := hd 3 (by kernel_rfl)
        have d4 : V 4 = _ := hd 4 (by kernel_rfl)
        simp only [putAll, List.getElem?_toArray, List.getElem?_cons_succ, List.getElem?_cons_zero, Option.bind_some, Act.put, List.setIfInBounds_toArray, List.set_cons_succ, List.set_cons_zero] at hA
        clear hd
        generalize V 0 = x0 at hA
        generalize V 1 = x1 at hA
        generalize V 2 = x2 at hA
        generalize V 3 = x3 at d3 hA
        generalize V 4 = x4 at d4 hA
        generalize V 5 = x5 at hA
        generalize V 6 = x6 at hA
        generalize V 7 = x7 at hA
        generalize V 8 = x8 at hA
        generalize V 9 = x9 at hA
        generalize V 10 = x10 at hA
        generalize V 11 = x11 at hA
        generalize V 12 = x12 at hA
        generalize V 13 = x13 at hA
        generalize V 14 = x14 at hA
        subst d3
        subst d4
        obtain rfl := hA
        have y4 := blk_cell (below_blk hW T0.out (by omega)) 4 rfl
        go_wp2
        exact hK.out _ (Below.refl _ _)
      apply grow_eq
      · intro V W K A hW hd hA hK
        have d3 : V 3 = _ := hd 3 (by kernel_rfl)
        simp only [putAll, List.getElem?_toArray, List.getElem?_cons_succ, List.getElem?_cons_zero, Option.bind_some, Act.put, List.setIfInBounds_toArray, List.set_cons_succ, List.set_cons_zero] at hA
        clear hd
        generalize V 0 = x0 at hA
        generalize V 1 = x1 at hA
        generalize V 2 = x2 at hA
        generalize V 3 = x3 at d3 hA
        generalize V 4 = x4 at hA
        generalize V 5 = x5 at hA
        generalize V 6 = x6 at hA
        generalize V 7 = x7 at hA
        generalize V 8 = x8 at hA
        generalize V 9 = x9 at hA
        generalize V 10 = x10 at hA
        generalize V 11 = x11 at hA
        generalize V 12 = x12 at hA
        generalize V 13 = x13 at hA
        generalize V 14 = x14 at hA
        subst d3
        obtain rfl := hA
        have y0 := blk_cell (below_blk hW T0.out (by omega)) 0 rfl
        have y1 := blk_cell (below_blk hW T0.out (by omega)) 1 rfl
        have y2 := blk_cell (below_blk hW T0.out (by omega)) 2 rfl
        have y3 := blk_cell (below_blk hW T0.out (by omega)) 3 rfl
        have y4 := blk_cell (below_blk hW T0.out (by omega)) 4 rfl
        have y5 := blk_cell (below_blk hW T0.out (by omega)) 5 rfl
        have y6 := blk_cell (below_blk hW T0.out (by omega)) 6 rfl
        have y7 := blk_cell (below_blk hW T0.out (by omega)) 7 rfl
        have y8 := blk_cell (below_blk hW T0.out (by omega)) 8 rfl
        have y9 := blk_cell (below_blk hW T0.out (by omega)) 9 rfl
        have y10 := blk_cell (below_blk hW T0.out (by omega)) 10 rfl
        have y11 := blk_cell (below_blk hW T0.out (by omega)) 11 rfl
        have y12 := blk_cell (below_blk hW T0.out (by omega)) 12 rfl
        go_wp2
        exact hK.out _ (Below.refl _ _)
      apply grow_eq
      · intro V W K A hW hd hA hK
        have d3 : V 3 = _ := hd 3 (by kernel_rfl)
        have d6 : V 6 = _ := hd 6 (by kernel_rfl)
        simp only [putAll, List.getElem?_toArray, List.getElem?_cons_succ, List.getElem?_cons_zero, Option.bind_some, Act.put, List.setIfInBounds_toArray, List.set_cons_succ, List.set_cons_zero] at hA
        clear hd
        generalize V 0 = x0 at hA
        generalize V 1 = x1 at hA
        generalize V 2 = x2 at hA
        generalize V 3 = x3 at d3 hA
        generalize V 4 = x4 at hA
        generalize V 5 = x5 at hA
        generalize V 6 = x6 at d6 hA
        generalize V 7 = x7 at hA
        generalize V 8 = x8 at hA
        generalize V 9 = x9 at hA
        generalize V 10 = x10 at hA
        generalize V 11 = x11 at hA
        generalize V 12 = x12 at hA
        generalize V 13 = x13 at hA
        generalize V 14 = x14 at hA
        subst d3
        subst d6
        obtain rfl := hA
        go_wp2_with fail
        refine (HC.out _).mono ?_
        rintro e w3 ⟨rfl, hb3⟩
        go_wp2
        exact hK.out _ hb3
      apply grow_eq
      · intro V W K A hW hd hA hK
        have d3 : V 3 = _ := hd 3 (by kernel_rfl)
        have d5 : V 5 = _ := hd 5 (by kernel_rfl)
        have d7 : V 7 = _ := hd 7 (by kernel_rfl)
        simp only [putAll, List.getElem?_toArray, List.getElem?_cons_succ, List.getElem?_cons_zero, Option.bind_some, Act.put, List.setIfInBounds_toArray, List.set_cons_succ, List.set_cons_zero] at hA
        clear hd
        generalize V 0 = x0 at hA
        generalize V 1 = x1 at hA
        generalize V 2 = x2 at hA
        generalize V 3 = x3 at d3 hA
        generalize V 4 = x4 at hA
        generalize V 5 = x5 at d5 hA
        generalize V 6 = x6 at hA
        generalize V 7 = x7 at d7 hA
        generalize V 8 = x8 at hA
        generalize V 9 = x9 at hA
        generalize V 10 = x10 at hA
        generalize V 11 = x11 at hA
        generalize V 12 = x12 at hA
        generalize V 13 = x13 at hA
        generalize V 14 = x14 at hA
        subst d3
        subst d5
        subst d7
        obtain rfl := hA
        have HWD0 := HWD.out
        go_wp2
        exact hK.out _ (Below.refl _ _)
      apply grow_eq
      · intro V W K A hW hd hA hK
        have d3 : V 3 = _ := hd 3 (by kernel_rfl)
        have d8 : V 8 = _ := hd 8 (by kernel_rfl)
        simp only [putAll, List.getElem?_toArray, List.getElem?_cons_succ, List.getElem?_cons_zero, Option.bind_some, Act.put, List.setIfInBounds_toArray, List.set_cons_succ, List.set_cons_zero] at hA
        clear hd
        generalize V 0 = x0 at hA
        generalize V 1 = x1 at hA
        generalize V 2 = x2 at hA
        generalize V 3 = x3 at d3 hA
        generalize V 4 = x4 at hA
        generalize V 5 = x5 at hA
        generalize V 6 = x6 at hA
        generalize V 7 = x7 at hA
        generalize V 8 = x8 at d8 hA
        generalize V 9 = x9 at hA
        generalize V 10 = x10 at hA
        generalize V 11 = x11 at hA
        generalize V 12 = x12 at hA
        generalize V 13 = x13 at hA
        generalize V 14 = x14 at hA
        subst d3
        subst d8
        obtain rfl := hA
        go_wp2
        exact hK.out _ (Below.refl _ _)
      apply grow_eq
      · intro V W K A hW hd hA hK
        have d9 : V 9 = _ := hd 9 (by kernel_rfl)
        simp only [putAll, List.getElem?_toArray, List.getElem?_cons_succ, List.getElem?_cons_zero, Option.bind_some, Act.put, List.setIfInBounds_toArray, List.set_cons_succ, List.set_cons_zero] at hA
        clear hd
        generalize V 0 = x0 at hA
        generalize V 1 = x1 at hA
        generalize V 2 = x2 at hA
        generalize V 3 = x3 at hA
        generalize V 4 = x4 at hA
        generalize V 5 = x5 at hA
        generalize V 6 = x6 at hA
        generalize V 7 = x7 at hA
        generalize V 8 = x8 at hA
        generalize V 9 = x9 at d9 hA
        generalize V 10 = x10 at hA
        generalize V 11 = x11 at hA
        generalize V 12 = x12 at hA
        generalize V 13 = x13 at hA
        generalize V 14 = x14 at hA
        subst d9
        obtain rfl := hA
        go_wp2
        exact hK.out _ (Below.refl _ _)
      apply grow_eq
      · intro V W K A hW hd hA hK
        have d9 : V 9 = _ := hd 9 (by kernel_rfl)
        have d10 : V 10 = _ := hd 10 (by kernel_rfl)
        simp only [putAll, List.getElem?_toArray, List.getElem?_cons_succ, List.getElem?_cons_zero, Option.bind_some, Act.put, List.setIfInBounds_toArray, List.set_cons_succ, List.set_cons_zero] at hA
        clear hd
        generalize V 0 = x0 at hA
        generalize V 1 = x1 at hA
        generalize V 2 = x2 at hA
        generalize V 3 = x3 at hA
        generalize V 4 = x4 at hA
        generalize V 5 = x5 at hA
        generalize V 6 = x6 at hA
        generalize V 7 = x7 at hA
        generalize V 8 = x8 at hA
        generalize V 9 = x9 at d9 hA
        generalize V 10 = x10 at d10 hA
        generalize V 11 = x11 at hA
        generalize V 12 = x12 at hA
        generalize V 13 = x13 at hA
        generalize V 14 = x14 at hA
        subst d9
        subst d10
        obtain rfl := hA
        have y12 := blk_cell (below_blk hW T0.out (by omega)) 12 rfl
        go_wp2
        exact hK.out _ (Below.refl _ _)
      apply grow_eq
      · intro V W K A hW hd hA hK
        have d9 : V 9 = _ := hd 9 (by kernel_rfl)
        have d11 : V 11 = _ := hd 11 (by kernel_rfl)
        simp only [putAll, List.getElem?_toArray, List.getElem?_cons_succ, List.getElem?_cons_zero, Option.bind_some, Act.put, List.setIfInBounds_toArray, List.set_cons_succ, List.set_cons_zero] at hA
        clear hd
        generalize V 0 = x0 at hA
        generalize V 1 = x1 at hA
        generalize V 2 = x2 at hA
        generalize V 3 = x3 at hA
        generalize V 4 = x4 at hA
        generalize V 5 = x5 at hA
        generalize V 6 = x6 at hA
        generalize V 7 = x7 at hA
        generalize V 8 = x8 at hA
        generalize V 9 = x9 at d9 hA
        generalize V 10 = x10 at hA
        generalize V 11 = x11 at d11 hA
        generalize V 12 = x12 at hA
        generalize V 13 = x13 at hA
        generalize V 14 = x14 at hA
        subst d9
        subst d11
        obtain rfl := hA
        go_wp2
        exact hK.out _ (Below.refl _ _)
      apply grow_eq
      · intro V W K A hW hd hA hK
        have d3 : V 3 = _ := hd 3 (by kernel_rfl)
        have d9 : V 9 = _ := hd 9 (by kernel_rfl)
        have d12 : V 12 = _ := hd 12 (by kernel_rfl)
        simp only [putAll, List.getElem?_toArray, List.getElem?_cons_succ, List.getElem?_cons_zero, Option.bind_some, Act.put, List.setIfInBounds_toArray, List.set_cons_succ, List.set_cons_zero] at hA
        clear hd
        generalize V 0 = x0 at hA
        generalize V 1 = x1 at hA
        generalize V 2 = x2 at hA
        generalize V 3 = x3 at d3 hA
        generalize V 4 = x4 at hA
        generalize V 5 = x5 at hA
        generalize V 6 = x6 at hA
        generalize V 7 = x7 at hA
        generalize V 8 = x8 at hA
        generalize V 9 = x9 at d9 hA
        generalize V 10 = x10 at hA
        generalize V 11 = x11 at hA
        generalize V 12 = x12 at d12 hA
        generalize V 13 = x13 at hA
        generalize V 14 = x14 at hA
        subst d3
        subst d9
        subst d12
        obtain rfl := hA
        go_wp2
        exact hK.out _ (Below.refl _ _)
      apply grow_eq
      · intro V W K A hW hd hA hK
        have d3 : V 3 = _ := hd 3 (by kernel_rfl)
        have d13 : V 13 = _ := hd 13 (by kernel_rfl)
        simp only [putAll, List.getElem?_toArray, List.getElem?_cons_succ, List.getElem?_cons_zero, Option.bind_some, Act.put, List.setIfInBounds_toArray, List.set_cons_succ, List.set_cons_zero] at hA
        clear hd
        generalize V 0 = x0 at hA
        generalize V 1 = x1 at hA
        generalize V 2 = x2 at hA
        generalize V 3 = x3 at d3 hA
        generalize V 4 = x4 at hA
        generalize V 5 = x5 at hA
        generalize V 6 = x6 at hA
        generalize V 7 = x7 at hA
        generalize V 8 = x8 at hA
        generalize V 9 = x9 at hA
        generalize V 10 = x10 at hA
        generalize V 11 = x11 at hA
        generalize V 12 = x12 at hA
        generalize V 13 = x13 at d13 hA
        generalize V 14 = x14 at hA
        subst d3
        subst d13
        obtain rfl := hA
        go_wp2
        exact hK.out _ (Below.refl _ _)
      intro V W A hW hS hA
      have d0 : V 0 = _ := hS 0 (by omega)
      have d1 : V 1 = _ := hS 1 (by omega)
      have d2 : V 2 = _ := hS 2 (by omega)
      have d3 : V 3 = _ := hS 3 (by omega)
      have d4 : V 4 = _ := hS 4 (by omega)
      have d5 : V 5 = _ := hS 5 (by omega)
      have d6 : V 6 = _ := hS 6 (by omega)
      have d7 : V 7 = _ := hS 7 (by omega)
      have d8 : V 8 = _ := hS 8 (by omega)
      have d9 : V 9 = _ := hS 9 (by omega)
      have d10 : V 10 = _ := hS 10 (by omega)
      have d11 : V 11 = _ := hS 11 (by omega)
      have d12 : V 12 = _ := hS 12 (by omega)
      have d13 : V 13 = _ := hS 13 (by omega)
      have d14 : V 14 = _ := hS 14 (by omega)
      simp only [putAll, List.getElem?_toArray, List.getElem?_cons_succ, List.getElem?_cons_zero, Option.bind_some, Act.put, List.setIfInBounds_toArray, List.set_cons_succ, List.set_cons_zero] at hA
      clear hS
      generalize V 0 = x0 at d0 hA
      generalize V 1 = x1 at d1 hA
      generalize V 2 = x2 at d2 hA
      generalize V 3 = x3 at d3 hA
      generalize V 4 = x4 at d4 hA
      generalize V 5 = x5 at d5 hA
      generalize V 6 = x6 at d6 hA
      generalize V 7 = x7 at d7 hA
      generalize V 8 = x8 at d8 hA
      generalize V 9 = x9 at d9 hA
      generalize V 10 = x10 at d10 hA
      generalize V 11 = x11 at d11 hA
      generalize V 12 = x12 at d12 hA
      generalize V 13 = x13 at d13 hA
      generalize V 14 = x14 at d14 hA
      subst d0
      subst d1
      subst d2
      subst d3
      subst d4
      subst d5
      subst d6
      subst d7
      subst d8
      subst d9
      subst d10
      subst d11
      subst d12
      subst d13
      subst d14
      obtain rfl := hA
      simp only [List.drop_succ_cons, List.drop_zero]
      have hbw := hb0.trans (hW.mono (by omega))
      go_wp2
      go_ret
      exact ⟨by rw [← HMB.out]; unfold missB; rw [HD.out, HWD.out, hpd]; simp, hbw⟩
    · refine wp_region_grows 15 (by kernel_rfl) (by kernel_rfl) ?_
      apply grow_eq
      · intro V W K A hW hd hA hK
        simp only [putAll, List.getElem?_toArray, List.getElem?_cons_succ, List.getElem?_cons_zero, Option.bind_some, Act.put, List.setIfInBounds_toArray, List.set_cons_succ, List.set_cons_zero] at hA
        clear hd
        generalize V 0 = x0 at hA
        generalize V 1 = x1 at hA
        generalize V 2 = x2 at hA
        generalize V 3 = x3 at hA
        generalize V 4 = x4 at hA
        generalize V 5 = x5 at hA
        generalize V 6 = x6 at hA
        generalize V 7 = x7 at hA
        generalize V 8 = x8 at hA
        generalize V 9 = x9 at hA
        generalize V 10 = x10 at hA
        generalize V 11 = x11 at hA
        generalize V 12 = x12 at hA
        generalize V 13 = x13 at hA
        generalize V 14 = x14 at hA
        obtain rfl := hA
        go_wp2
        exact hK.out _ (Below.refl _ _)
      apply grow_eq
      · intro V W K A hW hd hA hK
        have d0 : V 0 = _ := hd 0 (by kernel_rfl)
        simp only [putAll, List.getElem?_toArray, List.getElem?_cons_succ, List.getElem?_cons_zero, Option.bind_some, Act.put, List.setIfInBounds_toArray, List.set_cons_succ, List.set_cons_zero] at hA
        clear hd
        generalize V 0 = x0 at d0 hA
        generalize V 1 = x1 at hA
        generalize V 2 = x2 at hA
        generalize V 3 = x3 at hA
        generalize V 4 = x4 at hA
        generalize V 5 = x5 at hA
        generalize V 6 = x6 at hA
        generalize V 7 = x7 at hA
        generalize V 8 = x8 at hA
        generalize V 9 = x9 at hA
        generalize V 10 = x10 at hA
        generalize V 11 = x11 at hA
        generalize V 12 = x12 at hA
        generalize V 13 = x13 at hA
        generalize V 14 = x14 at hA
        subst d0
        obtain rfl := hA
        have y8 := blk_cell (below_blk hW T0.out (by omega)) 8 rfl
        go_wp2
        exact hK.out _ (Below.refl _ _)
      apply grow_eq
      · intro V W K A hW hd hA hK
        have d1 : V 1 = _ := hd 1 (by kernel_rfl)
        simp only [putAll, List.getElem?_toArray, List.getElem?_cons_succ, List.getElem?_cons_zero, Option.bind_some, Act.put, List.setIfInBounds_toArray, List.set_cons_succ, List.set_cons_zero] at hA
        clear hd
        generalize V 0 = x0 at hA
        generalize V 1 = x1 at d1 hA
        generalize V 2 = x2 at hA
        generalize V 3 = x3 at hA
        generalize V 4 = x4 at hA
        generalize V 5 = x5 at hA
        generalize V 6 = x6 at hA
        generalize V 7 = x7 at hA
        generalize V 8 = x8 at hA
        generalize V 9 = x9 at hA
        generalize V 10 = x10 at hA
        generalize V 11 = x11 at hA
        generalize V 12 = x12 at hA
        generalize V 13 = x13 at hA
        generalize V 14 = x14 at hA
        subst d1
        obtain rfl := hA
        go_wp2
        exact hK.out _ (Below.refl _ _)
      apply grow_eq
      · intro V W K A hW hd hA hK
        have d2 : V 2 = _ := hd 2 (by kernel_rfl)
        simp only [putAll, List.getElem?_toArray, List.getElem?_cons_succ, List.getElem?_cons_zero, Option.bind_some, Act.put, List.setIfInBounds_toArray, List.set_cons_succ, List.set_cons_zero] at hA
        clear hd
        generalize V 0 = x0 at hA
        generalize V 1 = x1 at hA
        generalize V 2 = x2 at d2 hA
        generalize V 3 = x3 at hA
        generalize V 4 = x4 at hA
        generalize V 5 = x5 at hA
        generalize V 6 = x6 at hA
        generalize V 7 = x7 at hA
        generalize V 8 = x8 at hA
        generalize V 9 = x9 at hA
        generalize V 10 = x10 at hA
        generalize V 11 = x11 at hA
        generalize V 12 = x12 at hA
        generalize V 13 = x13 at hA
        generalize V 14 = x14 at hA
        subst d2
        obtain rfl := hA
        go_wp2
        exact hK.out _ (Below.refl _ _)
      apply grow_eq
      · intro V W K A hW hd hA hK
        have d3 : V 3 = _ := hd 3 (by kernel_rfl)
        simp only [putAll, List.getElem?_toArray, List.getElem?_cons_succ, List.getElem?_cons_zero, Option.bind_some, Act.put, List.setIfInBounds_toArray, List.set_cons_succ, List.set_cons_zero] at hA
        clear hd
        generalize V 0 = x0 at hA
        generalize V 1 = x1 at hA
        generalize V 2 = x2 at hA
        generalize V 3 = x3 at d3 hA
        generalize V 4 = x4 at hA
        generalize V 5 = x5 at hA
        generalize V 6 = x6 at hA
        generalize V 7 = x7 at hA
        generalize V 8 = x8 at hA
        generalize V 9 = x9 at hA
        generalize V 10 = x10 at hA
        generalize V 11 = x11 at hA
        generalize V 12 = x12 at hA
        generalize V 13 = x13 at hA
        generalize V 14 = x14 at hA
        subst d3
        obtain rfl := hA
        go_wp2
        exact hK.out _ (Below.refl _ _)
      apply grow_eq
      · intro V W K A hW hd hA hK
        have d3 : V 3 = _ := hd 3 (by kernel_rfl)
        have d4 : V 4 = _ := hd 4 (by kernel_rfl)
        simp only [putAll, List.getElem?_toArray, List.getElem?_cons_succ, List.getElem?_cons_zero, Option.bind_some, Act.put, List.setIfInBounds_toArray, List.set_cons_succ, List.set_cons_zero] at hA
        clear hd
        generalize V 0 = x0 at hA
        generalize V 1 = x1 at hA
        generalize V 2 = x2 at hA
        generalize V 3 = x3 at d3 hA
        generalize V 4 = x4 at d4 hA
        generalize V 5 = x5 at hA
        generalize V 6 = x6 at hA
        generalize V 7 = x7 at hA
        generalize V 8 = x8 at hA
        generalize V 9 = x9 at hA
        generalize V 10 = x10 at hA
        generalize V 11 = x11 at hA
        generalize V 12 = x12 at hA
        generalize V 13 = x13 at hA
        generalize V 14 = x14 at hA
        subst d3
        subst d4
        obtain rfl := hA
        have y4 := blk_cell (below_blk hW T0.out (by omega)) 4 rfl
        go_wp2
        exact hK.out _ (Below.refl _ _)
      apply grow_eq
      · intro V W K A hW hd hA hK
        have d3 : V 3 = _ := hd 3 (by kernel_rfl)
        simp only [putAll, List.getElem?_toArray, List.getElem?_cons_succ, List.getElem?_cons_zero, Option.bind_some, Act.put, List.setIfInBounds_toArray, List.set_cons_succ, List.set_cons_zero] at hA
        clear hd
        generalize V 0 = x0 at hA
        generalize V 1 = x1 at hA
        generalize V 2 = x2 at hA
        generalize V 3 = x3 at d3 hA
        generalize V 4 = x4 at hA
        generalize V 5 = x5 at hA
        generalize V 6 = x6 at hA
        generalize V 7 = x7 at hA
        generalize V 8 = x8 at hA
        generalize V 9 = x9 at hA
        generalize V 10 = x10 at hA
        generalize V 11 = x11 at hA
        generalize V 12 = x12 at hA
        generalize V 13 = x13 at hA
        generalize V 14 = x14 at hA
        subst d3
        obtain rfl := hA
        have y0 := blk_cell (below_blk hW T0.out (by omega)) 0 rfl
        have y1 := blk_cell (below_blk hW T0.out (by omega)) 1 rfl
        have y2 := blk_cell (below_blk hW T0.out (by omega)) 2 rfl
        have y3 := blk_cell (below_blk hW T0.out (by omega)) 3 rfl
        have y4 := blk_cell (below_blk hW T0.out (by omega)) 4 rfl
        have y5 := blk_cell (below_blk hW T0.out (by omega)) 5 rfl
        have y6 := blk_cell (below_blk hW T0.out (by omega)) 6 rfl
        have y7 := blk_cell (below_blk hW T0.out (by omega)) 7 rfl
        have y8 := blk_cell (below_blk hW T0.out (by omega)) 8 rfl
        have y9 := blk_cell (below_blk hW T0.out (by omega)) 9 rfl
        have y10 := blk_cell (below_blk hW T0.out (by omega)) 10 rfl
        have y11 := blk_cell (below_blk hW T0.out (by omega)) 11 rfl
        have y12 := blk_cell (below_blk hW T0.out (by omega)) 12 rfl
        go_wp2
        exact hK.out _ (Below.refl _ _)
      apply grow_eq
      · intro V W K A hW hd hA hK
        have d3 : V 3 = _ := hd 3 (by kernel_rfl)
        have d6 : V 6 = _ := hd 6 (by kernel_rfl)
        simp only [putAll, List.getElem?_toArray, List.getElem?_cons_succ, List.getElem?_cons_zero, Option.bind_some, Act.put, List.setIfInBounds_toArray, List.set_cons_succ, List.set_cons_zero] at hA
        clear hd
        generalize V 0 = x0 at hA
        generalize V 1 = x1 at hA
        generalize V 2 = x2 at hA
        generalize V 3 = x3 at d3 hA
        generalize V 4 = x4 at hA
        generalize V 5 = x5 at hA
        generalize V 6 = x6 at d6 hA
        generalize V 7 = x7 at hA
        generalize V 8 = x8 at hA
        generalize V 9 = x9 at hA
        generalize V 10 = x10 at hA
        generalize V 11 = x11 at hA
        generalize V 12 = x12 at hA
        generalize V 13 = x13 at hA
        generalize V 14 = x14 at hA
        subst d3
        subst d6
        obtain rfl := hA
        go_wp2_with fail
        refine (HC.out _).mono ?_
        rintro e w3 ⟨rfl, hb3⟩
        go_wp2
        exact hK.out _ hb3
      apply grow_eq
      · intro V W K A hW hd hA hK
        have d3 : V 3 = _ := hd 3 (by kernel_rfl)
        have d5 : V 5 = _ := hd 5 (by kernel_rfl)
        have d7 : V 7 = _ := hd 7 (by kernel_rfl)
        simp only [putAll, List.getElem?_toArray, List.getElem?_cons_succ, List.getElem?_cons_zero, Option.bind_some, Act.put, List.setIfInBounds_toArray, List.set_cons_succ, List.set_cons_zero] at hA
        clear hd
        generalize V 0 = x0 at hA
        generalize V 1 = x1 at hA
        generalize V 2 = x2 at hA
        generalize V 3 = x3 at d3 hA
        generalize V 4 = x4 at hA
        generalize V 5 = x5 at d5 hA
        generalize V 6 = x6 at hA
        generalize V 7 = x7 at d7 hA
        generalize V 8 = x8 at hA
        generalize V 9 = x9 at hA
        generalize V 10 = x10 at hA
        generalize V 11 = x11 at hA
        generalize V 12 = x12 at hA
        generalize V 13 = x13 at hA
        generalize V 14 = x14 at hA
        subst d3
        subst d5
        subst d7
        obtain rfl := hA
        have HWD0 := HWD.out
        go_wp2
        exact hK.out _ (Below.refl _ _)
      apply grow_eq
      · intro V W K A hW hd hA hK
        have d3 : V 3 = _ := hd 3 (by kernel_rfl)
        have d8 : V 8 = _ := hd 8 (by kernel_rfl)
        simp only [putAll, List.getElem?_toArray, List.getElem?_cons_succ, List.getElem?_cons_zero, Option.bind_some, Act.put, List.setIfInBounds_toArray, List.set_cons_succ, List.set_cons_zero] at hA
        clear hd
        generalize V 0 = x0 at hA
        generalize V 1 = x1 at hA
        generalize V 2 = x2 at hA
        generalize V 3 = x3 at d3 hA
        generalize V 4 = x4 at hA
        generalize V 5 = x5 at hA
        generalize V 6 = x6 at hA
        generalize V 7 = x7 at hA
        generalize V 8 = x8 at d8 hA
        generalize V 9 = x9 at hA
        generalize V 10 = x10 at hA
        generalize V 11 = x11 at hA
        generalize V 12 = x12 at hA
        generalize V 13 = x13 at hA
        generalize V 14 = x14 at hA
        subst d3
        subst d8
        obtain rfl := hA
        go_wp2
        exact hK.out _ (Below.refl _ _)
      apply grow_eq
      · intro V W K A hW hd hA hK
        have d9 : V 9 = _ := hd 9 (by kernel_rfl)
        simp only [putAll, List.getElem?_toArray, List.getElem?_cons_succ, List.getElem?_cons_zero, Option.bind_some, Act.put, List.setIfInBounds_toArray, List.set_cons_succ, List.set_cons_zero] at hA
        clear hd
        generalize V 0 = x0 at hA
        generalize V 1 = x1 at hA
        generalize V 2 = x2 at hA
        generalize V 3 = x3 at hA
        generalize V 4 = x4 at hA
        generalize V 5 = x5 at hA
        generalize V 6 = x6 at hA
        generalize V 7 = x7 at hA
        generalize V 8 = x8 at hA
        generalize V 9 = x9 at d9 hA
        generalize V 10 = x10 at hA
        generalize V 11 = x11 at hA
        generalize V 12 = x12 at hA
        generalize V 13 = x13 at hA
        generalize V 14 = x14 at hA
        subst d9
        obtain rfl := hA
        go_wp2
        exact hK.out _ (Below.refl _ _)
      apply grow_eq
      · intro V W K A hW hd hA hK
        have d9 : V 9 = _ := hd 9 (by kernel_rfl)
        simp only [putAll, List.getElem?_toArray, List.getElem?_cons_succ, List.getElem?_cons_zero, Option.bind_some, Act.put, List.setIfInBounds_toArray, List.set_cons_succ, List.set_cons_zero] at hA
        clear hd
        generalize V 0 = x0 at hA
        generalize V 1 = x1 at hA
        generalize V 2 = x2 at hA
        generalize V 3 = x3 at hA
        generalize V 4 = x4 at hA
        generalize V 5 = x5 at hA
        generalize V 6 = x6 at hA
        generalize V 7 = x7 at hA
        generalize V 8 = x8 at hA
        generalize V 9 = x9 at d9 hA
        generalize V 10 = x10 at hA
        generalize V 11 = x11 at hA
        generalize V 12 = x12 at hA
        generalize V 13 = x13 at hA
        generalize V 14 = x14 at hA
        subst d9
        obtain rfl := hA
        go_wp2
        exact hK.out _ (Below.refl _ _)
      apply grow_eq
      · intro V W K A hW hd hA hK
        have d9 : V 9 = _ := hd 9 (by kernel_rfl)
        simp only [putAll, List.getElem?_toArray, List.getElem?_cons_succ, List.getElem?_cons_zero, Option.bind_some, Act.put, List.setIfInBounds_toArray, List.set_cons_succ, List.set_cons_zero] at hA
        clear hd
        generalize V 0 = x0 at hA
        generalize V 1 = x1 at hA
        generalize V 2 = x2 at hA
        generalize V 3 = x3 at hA
        generalize V 4 = x4 at hA
        generalize V 5 = x5 at hA
        generalize V 6 = x6 at hA
        generalize V 7 = x7 at hA
        generalize V 8 = x8 at hA
        generalize V 9 = x9 at d9 hA
        generalize V 10 = x10 at hA
        generalize V 11 = x11 at hA
        generalize V 12 = x12 at hA
        generalize V 13 = x13 at hA
        generalize V 14 = x14 at hA
        subst d9
        obtain rfl := hA
        go_wp2
        exact hK.out _ (Below.refl _ _)
      apply grow_eq
      · intro V W K A hW hd hA hK
        have d3 : V 3 = _ := hd 3 (by kernel_rfl)
        have d9 : V 9 = _ := hd 9 (by kernel_rfl)
        simp only [putAll, List.getElem?_toArray, List.getElem?_cons_succ, List.getElem?_cons_zero, Option.bind_some, Act.put, List.setIfInBounds_toArray, List.set_cons_succ, List.set_cons_zero] at hA
        clear hd
        generalize V 0 = x0 at hA
        generalize V 1 = x1 at hA
        generalize V 2 = x2 at hA
        generalize V 3 = x3 at d3 hA
        generalize V 4 = x4 at hA
        generalize V 5 = x5 at hA
        generalize V 6 = x6 at hA
        generalize V 7 = x7 at hA
        generalize V 8 = x8 at hA
        generalize V 9 = x9 at d9 hA
        generalize V 10 = x10 at hA
        generalize V 11 = x11 at hA
        generalize V 12 = x12 at hA
        generalize V 13 = x13 at hA
        generalize V 14 = x14 at hA
        subst d3
        subst d9
        obtain rfl := hA
        go_wp2
        exact hK.out _ (Below.refl _ _)
      apply grow_eq
      · intro V W K A hW hd hA hK
        have d3 : V 3 = _ := hd 3 (by kernel_rfl)
        have d13 : V 13 = _ := hd 13 (by kernel_rfl)
        simp only [putAll, List.getElem?_toArray, List.getElem?_cons_succ, List.getElem?_cons_zero, Option.bind_some, Act.put, List.setIfInBounds_toArray, List.set_cons_succ, List.set_cons_zero] at hA
        clear hd
        generalize V 0 = x0 at hA
        generalize V 1 = x1 at hA
        generalize V 2 = x2 at hA
        generalize V 3 = x3 at d3 hA
        generalize V 4 = x4 at hA
        generalize V 5 = x5 at hA
        generalize V 6 = x6 at hA
        generalize V 7 = x7 at hA
        generalize V 8 = x8 at hA
        generalize V 9 = x9 at hA
        generalize V 10 = x10 at hA
        generalize V 11 = x11 at hA
        generalize V 12 = x12 at hA
        generalize V 13 = x13 at d13 hA
        generalize V 14 = x14 at hA
        subst d3
        subst d13
        obtain rfl := hA
        go_wp2
        exact hK.out _ (Below.refl _ _)
      intro V W A hW hS hA
      have d0 : V 0 = _ := hS 0 (by omega)
      have d1 : V 1 = _ := hS 1 (by omega)
      have d2 : V 2 = _ := hS 2 (by omega)
      have d3 : V 3 = _ := hS 3 (by omega)
      have d4 : V 4 = _ := hS 4 (by omega)
      have d5 : V 5 = _ := hS 5 (by omega)
      have d6 : V 6 = _ := hS 6 (by omega)
      have d7 : V 7 = _ := hS 7 (by omega)
      have d8 : V 8 = _ := hS 8 (by omega)
      have d9 : V 9 = _ := hS 9 (by omega)
      have d10 : V 10 = _ := hS 10 (by omega)
      have d11 : V 11 = _ := hS 11 (by omega)
      have d12 : V 12 = _ := hS 12 (by omega)
      have d13 : V 13 = _ := hS 13 (by omega)
      have d14 : V 14 = _ := hS 14 (by omega)
      simp only [putAll, List.getElem?_toArray, List.getElem?_cons_succ, List.getElem?_cons_zero, Option.bind_some, Act.put, List.setIfInBounds_toArray, List.set_cons_succ, List.set_cons_zero] at hA
      clear hS
      generalize V 0 = x0 at d0 hA
      generalize V 1 = x1 at d1 hA
      generalize V 2 = x2 at d2 hA
      generalize V 3 = x3 at d3 hA
      generalize V 4 = x4 at d4 hA
      generalize V 5 = x5 at d5 hA
      generalize V 6 = x6 at d6 hA
      generalize V 7 = x7 at d7 hA
      generalize V 8 = x8 at d8 hA
      generalize V 9 = x9 at d9 hA
      generalize V 10 = x10 at d10 hA
      generalize V 11 = x11 at d11 hA
      generalize V 12 = x12 at d12 hA
      generalize V 13 = x13 at d13 hA
      generalize V 14 = x14 at d14 hA
      subst d0
      subst d1
      subst d2
      subst d3
      subst d4
      subst d5
      subst d6
      subst d7
      subst d8
      subst d9
      subst d10
      subst d11
      subst d12
      subst d13
      subst d14
      obtain rfl := hA
      simp only [List.drop_succ_cons, List.drop_zero]
      have hbw := hb0.trans (hW.mono (by omega))
      go_wp2
      go_ret
      exact ⟨by rw [← HMB.out]; unfold missB; rw [HD.out, HWD.out, hpd]; simp, hbw⟩
  · have HP0 : Hid (s.per = 0) := by
      unfold Hid
      by_cases h : s.per = 0
      · exact h
      · exact absurd (hper h).1 hp
    clear hper hp
    refine wp_region_grows 15 (by kernel_rfl) (by kernel_rfl) ?_
    apply grow_eq
    · intro V W K A hW hd hA hK
      simp only [putAll, List.getElem?_toArray, List.getElem?_cons_succ, List.getElem?_cons_zero, Option.bind_some, Act.put, List.setIfInBounds_toArray, List.set_cons_succ, List.set_cons_zero] at hA
      clear hd
      generalize V 0 = x0 at hA
      generalize V 1 = x1 at hA
      generalize V 2 = x2 at hA
      generalize V 3 = x3 at hA
      generalize V 4 = x4 at hA
      generalize V 5 = x5 at hA
      generalize V 6 = x6 at hA
      generalize V 7 = x7 at hA
      generalize V 8 = x8 at hA
      generalize V 9 = x9 at hA
      generalize V 10 = x10 at hA
      generalize V 11 = x11 at hA
      generalize V 12 = x12 at hA
      generalize V 13 = x13 at hA
      generalize V 14 = x14 at hA
      obtain rfl := hA
      go_wp2
      exact hK.out _ (Below.refl _ _)
    apply grow_eq
    · intro V W K A hW hd hA hK
      have d0 : V 0 = _ := hd 0 (by kernel_rfl)
      simp only [putAll, List.getElem?_toArray, List.getElem?_cons_succ, List.getElem?_cons_zero, Option.bind_some, Act.put, List.setIfInBounds_toArray, List.set_cons_succ, List.set_cons_zero] at hA
      clear hd
      generalize V 0 = x0 at d0 hA
      generalize V 1 = x1 at hA
      generalize V 2 = x2 at hA
      generalize V 3 = x3 at hA
      generalize V 4 = x4 at hA
      generalize V 5 = x5 at hA
      generalize V 6 = x6 at hA
      generalize V 7 = x7 at hA
      generalize V 8 = x8 at hA
      generalize V 9 = x9 at hA
      generalize V 10 = x10 at hA
      generalize V 11 = x11 at hA
      generalize V 12 = x12 at hA
      generalize V 13 = x13 at hA
      generalize V 14 = x14 at hA
      subst d0
      obtain rfl := hA
      have y8 := blk_cell (below_blk hW T0.out (by omega)) 8 rfl
      rw [HP0.out] at y8
      go_wp2
      exact hK.out _ (Below.refl _ _)
    apply grow_eq
    · intro V W K A hW hd hA hK
      have d1 : V 1 = _ := hd 1 (by kernel_rfl)
      simp only [putAll, List.getElem?_toArray, List.getElem?_cons_succ, List.getElem?_cons_zero, Option.bind_some, Act.put, List.setIfInBounds_toArray, List.set_cons_succ, List.set_cons_zero] at hA
      clear hd
      generalize V 0 = x0 at hA
      generalize V 1 = x1 at d1 hA
      generalize V 2 = x2 at hA
      generalize V 3 = x3 at hA
      generalize V 4 = x4 at hA
      generalize V 5 = x5 at hA
      generalize V 6 = x6 at hA
      generalize V 7 = x7 at hA
      generalize V 8 = x8 at hA
      generalize V 9 = x9 at hA
      generalize V 10 = x10 at hA
      generalize V 11 = x11 at hA
      generalize V 12 = x12 at hA
      generalize V 13 = x13 at hA
      generalize V 14 = x14 at hA
      subst d1
      obtain rfl := hA
      go_wp2
      exact hK.out _ (Below.refl _ _)
    apply grow_eq
    · intro V W K A hW hd hA hK
      have d2 : V 2 = _ := hd 2 (by kernel_rfl)
      simp only [putAll, List.getElem?_toArray, List.getElem?_cons_succ, List.getElem?_cons_zero, Option.bind_some, Act.put, List.setIfInBounds_toArray, List.set_cons_succ, List.set_cons_zero] at hA
      clear hd
      generalize V 0 = x0 at hA
      generalize V 1 = x1 at hA
      generalize V 2 = x2 at d2 hA
      generalize V 3 = x3 at hA
      generalize V 4 = x4 at hA
      generalize V 5 = x5 at hA
      generalize V 6 = x6 at hA
      generalize V 7 = x7 at hA
      generalize V 8 = x8 at hA
      generalize V 9 = x9 at hA
      generalize V 10 = x10 at hA
      generalize V 11 = x11 at hA
      generalize V 12 = x12 at hA
      generalize V 13 = x13 at hA
      generalize V 14 = x14 at hA
      subst d2
      obtain rfl := hA
      go_wp2
      exact hK.out _ (Below.refl _ _)
    apply grow_eq
    · intro V W K A hW hd hA hK
      have d3 : V 3 = _ := hd 3 (by kernel_rfl)
      simp only [putAll, List.getElem?_toArray, List.getElem?_cons_succ, List.getElem?_cons_zero, Option.bind_some, Act.put, List.setIfInBounds_toArray, List.set_cons_succ, List.set_cons_zero] at hA
      clear hd
      generalize V 0 = x0 at hA
      generalize V 1 = x1 at hA
      generalize V 2 = x2 at hA
      generalize V 3 = x3 at d3 hA
      generalize V 4 = x4 at hA
      generalize V 5 = x5 at hA
      generalize V 6 = x6 at hA
      generalize V 7 = x7 at hA
      generalize V 8 = x8 at hA
      generalize V 9 = x9 at hA
      generalize V 10 = x10 at hA
      generalize V 11 = x11 at hA
      generalize V 12 = x12 at hA
      generalize V 13 = x13 at hA
      generalize V 14 = x14 at hA
      subst d3
      obtain rfl := hA
      go_wp2
      exact hK.out _ (Below.refl _ _)
    apply grow_eq
    · intro V W K A hW hd hA hK
      have d3 : V 3 = _ := hd 3 (by kernel_rfl)
      simp only [putAll, List.getElem?_toArray, List.getElem?_cons_succ, List.getElem?_cons_zero, Option.bind_some, Act.put, List.setIfInBounds_toArray, List.set_cons_succ, List.set_cons_zero] at hA
      clear hd
      generalize V 0 = x0 at hA
      generalize V 1 = x1 at hA
      generalize V 2 = x2 at hA
      generalize V 3 = x3 at d3 hA
      generalize V 4 = x4 at hA
      generalize V 5 = x5 at hA
      generalize V 6 = x6 at hA
      generalize V 7 = x7 at hA
      generalize V 8 = x8 at hA
      generalize V 9 = x9 at hA
      generalize V 10 = x10 at hA
      generalize V 11 = x11 at hA
      generalize V 12 = x12 at hA
      generalize V 13 = x13 at hA
      generalize V 14 = x14 at hA
      subst d3
      obtain rfl := hA
      go_wp2
      exact hK.out _ (Below.refl _ _)
    apply grow_eq
    · intro V W K A hW hd hA hK
      have d3 : V 3 = _ := hd 3 (by kernel_rfl)
      simp only [putAll, List.getElem?_toArray, List.getElem?_cons_succ, List.getElem?_cons_zero, Option.bind_some, Act.put, List.setIfInBounds_toArray, List.set_cons_succ, List.set_cons_zero] at hA
      clear hd
      generalize V 0 = x0 at hA
      generalize V 1 = x1 at hA
      generalize V 2 = x2 at hA
      generalize V 3 = x3 at d3 hA
      generalize V 4 = x4 at hA
      generalize V 5 = x5 at hA
      generalize V 6 = x6 at hA
      generalize V 7 = x7 at hA
      generalize V 8 = x8 at hA
      generalize V 9 = x9 at hA
      generalize V 10 = x10 at hA
      generalize V 11 = x11 at hA
      generalize V 12 = x12 at hA
      generalize V 13 = x13 at hA
      generalize V 14 = x14 at hA
      subst d3
      obtain rfl := hA
      go_wp2
      exact hK.out _ (Below.refl _ _)
    apply grow_eq
    · intro V W K A hW hd hA hK
      have d3 : V 3 = _ := hd 3 (by kernel_rfl)
      simp only [putAll, List.getElem?_toArray, List.getElem?_cons_succ, List.getElem?_cons_zero, Option.bind_some, Act.put, List.setIfInBounds_toArray, List.set_cons_succ, List.set_cons_zero] at hA
      clear hd
      generalize V 0 = x0 at hA
      generalize V 1 = x1 at hA
      generalize V 2 = x2 at hA
      generalize V 3 = x3 at d3 hA
      generalize V 4 = x4 at hA
      generalize V 5 = x5 at hA
      generalize V 6 = x6 at hA
      generalize V 7 = x7 at hA
      generalize V 8 = x8 at hA
      generalize V 9 = x9 at hA
      generalize V 10 = x10 at hA
      generalize V 11 = x11 at hA
      generalize V 12 = x12 at hA
      generalize V 13 = x13 at hA
      generalize V 14 = x14 at hA
      subst d3
      obtain rfl := hA
      go_wp2
      exact hK.out _ (Below.refl _ _)
    apply grow_eq
    · intro V W K A hW hd hA hK
      have d3 : V 3 = _ := hd 3 (by kernel_rfl)
      simp only [putAll, List.getElem?_toArray, List.getElem?_cons_succ, List.getElem?_cons_zero, Option.bind_some, Act.put, List.setIfInBounds_toArray, List.set_cons_succ, List.set_cons_zero] at hA
      clear hd
      generalize V 0 = x0 at hA
      generalize V 1 = x1 at hA
      generalize V 2 = x2 at hA
      generalize V 3 = x3 at d3 hA
      generalize V 4 = x4 at hA
      generalize V 5 = x5 at hA
      generalize V 6 = x6 at hA
      generalize V 7 = x7 at hA
      generalize V 8 = x8 at hA
      generalize V 9 = x9 at hA
      generalize V 10 = x10 at hA
      generalize V 11 = x11 at hA
      generalize V 12 = x12 at hA
      generalize V 13 = x13 at hA
      generalize V 14 = x14 at hA
      subst d3
      obtain rfl := hA
      go_wp2
      exact hK.out _ (Below.refl _ _)
    apply grow_eq
    · intro V W K A hW hd hA hK
      have d3 : V 3 = _ := hd 3 (by kernel_rfl)
      simp only [putAll, List.getElem?_toArray, List.getElem?_cons_succ, List.getElem?_cons_zero, Option.bind_some, Act.put, List.setIfInBounds_toArray, List.set_cons_succ, List.set_cons_zero] at hA
      clear hd
      generalize V 0 = x0 at hA
      generalize V 1 = x1 at hA
      generalize V 2 = x2 at hA
      generalize V 3 = x3 at d3 hA
      generalize V 4 = x4 at hA
      generalize V 5 = x5 at hA
      generalize V 6 = x6 at hA
      generalize V 7 = x7 at hA
      generalize V 8 = x8 at hA
      generalize V 9 = x9 at hA
      generalize V 10 = x10 at hA
      generalize V 11 = x11 at hA
      generalize V 12 = x12 at hA
      generalize V 13 = x13 at hA
      generalize V 14 = x14 at hA
      subst d3
      obtain rfl := hA
      go_wp2
      exact hK.out _ (Below.refl _ _)
    apply grow_eq
    · intro V W K A hW hd hA hK
      have d9 : V 9 = _ := hd 9 (by kernel_rfl)
      simp only [putAll, List.getElem?_toArray, List.getElem?_cons_succ, List.getElem?_cons_zero, Option.bind_some, Act.put, List.setIfInBounds_toArray, List.set_cons_succ, List.set_cons_zero] at hA
      clear hd
      generalize V 0 = x0 at hA
      generalize V 1 = x1 at hA
      generalize V 2 = x2 at hA
      generalize V 3 = x3 at hA
      generalize V 4 = x4 at hA
      generalize V 5 = x5 at hA
      generalize V 6 = x6 at hA
      generalize V 7 = x7 at hA
      generalize V 8 = x8 at hA
      generalize V 9 = x9 at d9 hA
      generalize V 10 = x10 at hA
      generalize V 11 = x11 at hA
      generalize V 12 = x12 at hA
      generalize V 13 = x13 at hA
      generalize V 14 = x14 at hA
      subst d9
      obtain rfl := hA
      go_wp2
      exact hK.out _ (Below.refl _ _)
    apply grow_eq
    · intro V W K A hW hd hA hK
      have d9 : V 9 = _ := hd 9 (by kernel_rfl)
      simp only [putAll, List.getElem?_toArray, List.getElem?_cons_succ, List.getElem?_cons_zero, Option.bind_some, Act.put, List.setIfInBounds_toArray, List.set_cons_succ, List.set_cons_zero] at hA
      clear hd
      generalize V 0 = x0 at hA
      generalize V 1 = x1 at hA
      generalize V 2 = x2 at hA
      generalize V 3 = x3 at hA
      generalize V 4 = x4 at hA
      generalize V 5 = x5 at hA
      generalize V 6 = x6 at hA
      generalize V 7 = x7 at hA
      generalize V 8 = x8 at hA
      generalize V 9 = x9 at d9 hA
      generalize V 10 = x10 at hA
      generalize V 11 = x11 at hA
      generalize V 12 = x12 at hA
      generalize V 13 = x13 at hA
      generalize V 14 = x14 at hA
      subst d9
      obtain rfl := hA
      go_wp2
      exact hK.out _ (Below.refl _ _)
    apply grow_eq
    · intro V W K A hW hd hA hK
      have d9 : V 9 = _ := hd 9 (by kernel_rfl)
      simp only [putAll, List.getElem?_toArray, List.getElem?_cons_succ, List.getElem?_cons_zero, Option.bind_some, Act.put, List.setIfInBounds_toArray, List.set_cons_succ, List.set_cons_zero] at hA
      clear hd
      generalize V 0 = x0 at hA
      generalize V 1 = x1 at hA
      generalize V 2 = x2 at hA
      generalize V 3 = x3 at hA
      generalize V 4 = x4 at hA
      generalize V 5 = x5 at hA
      generalize V 6 = x6 at hA
      generalize V 7 = x7 at hA
      generalize V 8 = x8 at hA
      generalize V 9 = x9 at d9 hA
      generalize V 10 = x10 at hA
      generalize V 11 = x11 at hA
      generalize V 12 = x12 at hA
      generalize V 13 = x13 at hA
      generalize V 14 = x14 at hA
      subst d9
      obtain rfl := hA
      go_wp2
      exact hK.out _ (Below.refl _ _)
    apply grow_eq
    · intro V W K A hW hd hA hK
      have d3 : V 3 = _ := hd 3 (by kernel_rfl)
      simp only [putAll, List.getElem?_toArray, List.getElem?_cons_succ, List.getElem?_cons_zero, Option.bind_some, Act.put, List.setIfInBounds_toArray, List.set_cons_succ, List.set_cons_zero] at hA
      clear hd
      generalize V 0 = x0 at hA
      generalize V 1 = x1 at hA
      generalize V 2 = x2 at hA
      generalize V 3 = x3 at d3 hA
      generalize V 4 = x4 at hA
      generalize V 5 = x5 at hA
      generalize V 6 = x6 at hA
      generalize V 7 = x7 at hA
      generalize V 8 = x8 at hA
      generalize V 9 = x9 at hA
      generalize V 10 = x10 at hA
      generalize V 11 = x11 at hA
      generalize V 12 = x12 at hA
      generalize V 13 = x13 at hA
      generalize V 14 = x14 at hA
      subst d3
      obtain rfl := hA
      go_wp2
      exact hK.out _ (Below.refl _ _)
    apply grow_eq
    · intro V W K A hW hd hA hK
      have d3 : V 3 = _ := hd 3 (by kernel_rfl)
      simp only [putAll, List.getElem?_toArray, List.getElem?_cons_succ, List.getElem?_cons_zero, Option.bind_some, Act.put, List.setIfInBounds_toArray, List.set_cons_succ, List.set_cons_zero] at hA
      clear hd
      generalize V 0 = x0 at hA
      generalize V 1 = x1 at hA
      generalize V 2 = x2 at hA
      generalize V 3 = x3 at d3 hA
      generalize V 4 = x4 at hA
      generalize V 5 = x5 at hA
      generalize V 6 = x6 at hA
      generalize V 7 = x7 at hA
      generalize V 8 = x8 at hA
      generalize V 9 = x9 at hA
      generalize V 10 = x10 at hA
      generalize V 11 = x11 at hA
      generalize V 12 = x12 at hA
      generalize V 13 = x13 at hA
      generalize V 14 = x14 at hA
      subst d3
      obtain rfl := hA
      go_wp2
      exact hK.out _ (Below.refl _ _)
    intro V W A hW hS hA
    have d0 : V 0 = _ := hS 0 (by omega)
    have d1 : V 1 = _ := hS 1 (by omega)
    have d2 : V 2 = _ := hS 2 (by omega)
    have d3 : V 3 = _ := hS 3 (by omega)
    have d4 : V 4 = _ := hS 4 (by omega)
    have d5 : V 5 = _ := hS 5 (by omega)
    have d6 : V 6 = _ := hS 6 (by omega)
    have d7 : V 7 = _ := hS 7 (by omega)
    have d8 : V 8 = _ := hS 8 (by omega)
    have d9 : V 9 = _ := hS 9 (by omega)
    have d10 : V 10 = _ := hS 10 (by omega)
    have d11 : V 11 = _ := hS 11 (by omega)
    have d12 : V 12 = _ := hS 12 (by omega)
    have d13 : V 13 = _ := hS 13 (by omega)
    have d14 : V 14 = _ := hS 14 (by omega)
    simp only [putAll, List.getElem?_toArray, List.getElem?_cons_succ, List.getElem?_cons_zero, Option.bind_some, Act.put, List.setIfInBounds_toArray, List.set_cons_succ, List.set_cons_zero] at hA
    clear hS
    generalize V 0 = x0 at d0 hA
    generalize V 1 = x1 at d1 hA
    generalize V 2 = x2 at d2 hA
    generalize V 3 = x3 at d3 hA
    generalize V 4 = x4 at d4 hA
    generalize V 5 = x5 at d5 hA
    generalize V 6 = x6 at d6 hA
    generalize V 7 = x7 at d7 hA
    generalize V 8 = x8 at d8 hA
    generalize V 9 = x9 at d9 hA
    generalize V 10 = x10 at d10 hA
    generalize V 11 = x11 at d11 hA
    generalize V 12 = x12 at d12 hA
    generalize V 13 = x13 at d13 hA
    generalize V 14 = x14 at d14 hA
    subst d0
    subst d1
    subst d2
    subst d3
    subst d4
    subst d5
    subst d6
    subst d7
    subst d8
    subst d9
    subst d10
    subst d11
    subst d12
    subst d13
    subst d14
    obtain rfl := hA
    simp only [List.drop_succ_cons, List.drop_zero]
    have hbw := hb0.trans (hW.mono (by omega))
    go_wp2
    go_ret
    exact ⟨by rw [← HMB.out]; unfold missB; rw [HP0.out]; simp, hbw⟩

end Go.Proofs.Ytbceafpodamnfab
