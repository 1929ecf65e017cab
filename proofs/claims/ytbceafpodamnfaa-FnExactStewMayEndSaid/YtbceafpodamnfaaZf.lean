/-
  My own. The program's mayEnd.
-/
import Derived.Test.YtbceafpodamnfaaZe
import Derived.Test.YtbceafpodamnfaaLg
namespace Go.Proofs.Ytbceafpodamnfaa
open Go.RowKit Go.Sort

def mayR (s : Svc) (c : Cp) (r : Int) : Bool := !c.ending && (s.gone || (c.state != 3 || decide (s.want - s.down ≤ r - 1)))

set_option maxRecDepth 100000 in
set_option maxHeartbeats 2000000 in
theorem mayEnd_any (s : Svc) (c : Cp) (r : Int) (w : World) (hr0 : 0 ≤ r) (hr1 : r ≤ 1048576) (hw0 : 0 ≤ s.want) (hw1 : s.want ≤ 10) (hd0 : 0 ≤ s.down) (hd1 : s.down ≤ 10) :
    Calls Try.prog 25 #[.agg #[.string s.name, .int .i64 s.version, .bool s.gone, .int .i64 s.image, .int .i64 s.want, .int .i64 s.down, .int .i64 s.over, .int .i64 s.next, .int .i64 s.per, .int .i64 s.least, .int .i64 s.most, .int .i64 s.load, .int .i64 s.cool], .agg #[.string c.service, .int .i64 c.number, .int .i64 c.version, .int .i64 c.image, .int .i64 c.state, .bool c.ending, .string c.berth], .int .i64 r] w fun e w' => e = .returned (.bool (mayR s c r)) ∧ Below w.heap.size w w' := by
  have hbb : Below w.heap.size w ((w.alloc (.cells #[.string s.name, .int .i64 s.version, .bool s.gone, .int .i64 s.image, .int .i64 s.want, .int .i64 s.down, .int .i64 s.over, .int .i64 s.next, .int .i64 s.per, .int .i64 s.least, .int .i64 s.most, .int .i64 s.load, .int .i64 s.cool] 63)).alloc (.cells #[.string c.service, .int .i64 c.number, .int .i64 c.version, .int .i64 c.image, .int .i64 c.state, .bool c.ending, .string c.berth] 35)) := ((Below.refl _ _).alloc (Nat.le_refl _) _).alloc (by simp) _
  obtain ⟨t0, t1, t2⟩ := two_new w (.cells #[.string s.name, .int .i64 s.version, .bool s.gone, .int .i64 s.image, .int .i64 s.want, .int .i64 s.down, .int .i64 s.over, .int .i64 s.next, .int .i64 s.per, .int .i64 s.least, .int .i64 s.most, .int .i64 s.load, .int .i64 s.cool] 63) (.cells #[.string c.service, .int .i64 c.number, .int .i64 c.version, .int .i64 c.image, .int .i64 c.state, .bool c.ending, .string c.berth] 35)
  have HF : Hid (mayR s c r = (!c.ending && (s.gone || (c.state != 3 || decide (s.want - s.down ≤ r - 1))))) := rfl
  have HR1 : Hid _ := fun W => ruleOf_gone s W
  have HR2 : Hid _ := fun W h => ruleOf_keep s W h hw0 hw1 hd0 hd1
  have HA1 : Hid _ := fun W => allowsAll_any c r W
  have HA2 : Hid _ := fun W => allowsKeep_any (s.want - s.down) c r W hr0 hr1
  have hm1 : ∀ w : World, (method 191 124 (.agg #[]) "loop.example/wharfsteward/impl.allows").run Try.prog w = .ok (131, .agg #[]) w := fun _ => by kernel_rfl
  have hm2 : ∀ (w : World) (x : Int), (method 191 126 (.agg #[.int .i64 x]) "loop.example/wharfsteward/impl.allows").run Try.prog w = .ok (132, .agg #[.int .i64 x]) w := fun _ _ => by kernel_rfl
  generalize c.ending = en at *
  generalize s.gone = go at *
  have T0 : Hid _ := t0
  have T1 : Hid _ := t1
  have HS : Hid _ := t2
  clear t0 t1 t2
  cases en
  · cases go
    · have HR : Hid _ := fun W => HR2.out W rfl
      clear HR1 HR2
      go_enter Try.func25, Try.ntmps25
      go_wp2
      refine wp_region_grows 10 (by kernel_rfl) (by kernel_rfl) ?_
      apply grow_eq
      · intro V W K A hW hd hA hK
        simp only [putAll, List.getElem?_toArray, List.getElem?_cons_succ, List.getElem?_cons_zero, Option.bind_some, Act.put, List.setIfInBounds_toArray, List.set_cons_succ, List.set_cons_zero] at hA
        clear hd
        generalize V 0 = x0 at hA
        generalize V 1 = x1 at hA
        generalize V 2 = x2 at hA
        generalize V 3 = x3 at hA
        generalize V 4 = x4 at hA
        generalize V 5 = x5 at hA
        generalize V 6 = x6 at hA
        generalize V 7 = x7 at hA
        generalize V 8 = x8 at hA
        generalize V 9 = x9 at hA
        obtain rfl := hA
        go_wp2
        exact hK.out _ (Below.refl _ _)
      apply grow_eq
      · intro V W K A hW hd hA hK
        have d0 : V 0 = _ := hd 0 (by kernel_rfl)
        simp only [putAll, List.getElem?_toArray, List.getElem?_cons_succ, List.getElem?_cons_zero, Option.bind_some, Act.put, List.setIfInBounds_toArray, List.set_cons_succ, List.set_cons_zero] at hA
        clear hd
        generalize V 0 = x0 at d0 hA
        generalize V 1 = x1 at hA
        generalize V 2 = x2 at hA
        generalize V 3 = x3 at hA
        generalize V 4 = x4 at hA
        generalize V 5 = x5 at hA
        generalize V 6 = x6 at hA
        generalize V 7 = x7 at hA
        generalize V 8 = x8 at hA
        generalize V 9 = x9 at hA
        subst d0
        obtain rfl := hA
        have y0 := blk_cell (below_blk hW T1.out (by rw [HS.out]; omega)) 0 rfl
        have y1 := blk_cell (below_blk hW T1.out (by rw [HS.out]; omega)) 1 rfl
        have y2 := blk_cell (below_blk hW T1.out (by rw [HS.out]; omega)) 2 rfl
        have y3 := blk_cell (below_blk hW T1.out (by rw [HS.out]; omega)) 3 rfl
        have y4 := blk_cell (below_blk hW T1.out (by rw [HS.out]; omega)) 4 rfl
        have y5 := blk_cell (below_blk hW T1.out (by rw [HS.out]; omega)) 5 rfl
        have y6 := blk_cell (below_blk hW T1.out (by rw [HS.out]; omega)) 6 rfl
        go_wp2
        exact hK.out _ (Below.refl _ _)
      apply grow_eq
      · intro V W K A hW hd hA hK
        have d1 : V 1 = _ := hd 1 (by kernel_rfl)
        simp only [putAll, List.getElem?_toArray, List.getElem?_cons_succ, List.getElem?_cons_zero, Option.bind_some, Act.put, List.setIfInBounds_toArray, List.set_cons_succ, List.set_cons_zero] at hA
        clear hd
        generalize V 0 = x0 at hA
        generalize V 1 = x1 at d1 hA
        generalize V 2 = x2 at hA
        generalize V 3 = x3 at hA
        generalize V 4 = x4 at hA
        generalize V 5 = x5 at hA
        generalize V 6 = x6 at hA
        generalize V 7 = x7 at hA
        generalize V 8 = x8 at hA
        generalize V 9 = x9 at hA
        subst d1
        obtain rfl := hA
        go_wp2
        exact hK.out _ (Below.refl _ _)
      apply grow_eq
      · intro V W K A hW hd hA hK
        have d2 : V 2 = _ := hd 2 (by kernel_rfl)
        simp only [putAll, List.getElem?_toArray, List.getElem?_cons_succ, List.getElem?_cons_zero, Option.bind_some, Act.put, List.setIfInBounds_toArray, List.set_cons_succ, List.set_cons_zero] at hA
        clear hd
        generalize V 0 = x0 at hA
        generalize V 1 = x1 at hA
        generalize V 2 = x2 at d2 hA
        generalize V 3 = x3 at hA
        generalize V 4 = x4 at hA
        generalize V 5 = x5 at hA
        generalize V 6 = x6 at hA
        generalize V 7 = x7 at hA
        generalize V 8 = x8 at hA
        generalize V 9 = x9 at hA
        subst d2
        obtain rfl := hA
        go_wp2
        exact hK.out _ (Below.refl _ _)
      apply grow_eq
      · intro V W K A hW hd hA hK
        have d3 : V 3 = _ := hd 3 (by kernel_rfl)
        simp only [putAll, List.getElem?_toArray, List.getElem?_cons_succ, List.getElem?_cons_zero, Option.bind_some, Act.put, List.setIfInBounds_toArray, List.set_cons_succ, List.set_cons_zero] at hA
        clear hd
        generalize V 0 = x0 at hA
        generalize V 1 = x1 at hA
        generalize V 2 = x2 at hA
        generalize V 3 = x3 at d3 hA
        generalize V 4 = x4 at hA
        generalize V 5 = x5 at hA
        generalize V 6 = x6 at hA
        generalize V 7 = x7 at hA
        generalize V 8 = x8 at hA
        generalize V 9 = x9 at hA
        subst d3
        obtain rfl := hA
        have z0 := blk_cell (below_blk hW T0.out (by rw [HS.out]; omega)) 0 rfl
        have z1 := blk_cell (below_blk hW T0.out (by rw [HS.out]; omega)) 1 rfl
        have z2 := blk_cell (below_blk hW T0.out (by rw [HS.out]; omega)) 2 rfl
        have z3 := blk_cell (below_blk hW T0.out (by rw [HS.out]; omega)) 3 rfl
        have z4 := blk_cell (below_blk hW T0.out (by rw [HS.out]; omega)) 4 rfl
        have z5 := blk_cell (below_blk hW T0.out (by rw [HS.out]; omega)) 5 rfl
        have z6 := blk_cell (below_blk hW T0.out (by rw [HS.out]; omega)) 6 rfl
        have z7 := blk_cell (below_blk hW T0.out (by rw [HS.out]; omega)) 7 rfl
        have z8 := blk_cell (below_blk hW T0.out (by rw [HS.out]; omega)) 8 rfl
        have z9 := blk_cell (below_blk hW T0.out (by rw [HS.out]; omega)) 9 rfl
        have z10 := blk_cell (below_blk hW T0.out (by rw [HS.out]; omega)) 10 rfl
        have z11 := blk_cell (below_blk hW T0.out (by rw [HS.out]; omega)) 11 rfl
        have z12 := blk_cell (below_blk hW T0.out (by rw [HS.out]; omega)) 12 rfl
        go_wp2
        exact hK.out _ (Below.refl _ _)
      apply grow_eq
      · intro V W K A hW hd hA hK
        have d3 : V 3 = _ := hd 3 (by kernel_rfl)
        have d4 : V 4 = _ := hd 4 (by kernel_rfl)
        simp only [putAll, List.getElem?_toArray, List.getElem?_cons_succ, List.getElem?_cons_zero, Option.bind_some, Act.put, List.setIfInBounds_toArray, List.set_cons_succ, List.set_cons_zero] at hA
        clear hd
        generalize V 0 = x0 at hA
        generalize V 1 = x1 at hA
        generalize V 2 = x2 at hA
        generalize V 3 = x3 at d3 hA
        generalize V 4 = x4 at d4 hA
        generalize V 5 = x5 at hA
        generalize V 6 = x6 at hA
        generalize V 7 = x7 at hA
        generalize V 8 = x8 at hA
        generalize V 9 = x9 at hA
        subst d3
        subst d4
        obtain rfl := hA
        go_wp2_with fail
        refine (HR.out _).mono ?_
        rintro e w3 ⟨rfl, hb3⟩
        go_wp2
        exact hK.out _ hb3
      apply grow_eq
      · intro V W K A hW hd hA hK
        have d3 : V 3 = _ := hd 3 (by kernel_rfl)
        simp only [putAll, List.getElem?_toArray, List.getElem?_cons_succ, List.getElem?_cons_zero, Option.bind_some, Act.put, List.setIfInBounds_toArray, List.set_cons_succ, List.set_cons_zero] at hA
        clear hd
        generalize V 0 = x0 at hA
        generalize V 1 = x1 at hA
        generalize V 2 = x2 at hA
        generalize V 3 = x3 at d3 hA
        generalize V 4 = x4 at hA
        generalize V 5 = x5 at hA
        generalize V 6 = x6 at hA
        generalize V 7 = x7 at hA
        generalize V 8 = x8 at hA
        generalize V 9 = x9 at hA
        subst d3
        obtain rfl := hA
        have y0 := blk_cell (below_blk hW T1.out (by rw [HS.out]; omega)) 0 rfl
        have y1 := blk_cell (below_blk hW T1.out (by rw [HS.out]; omega)) 1 rfl
        have y2 := blk_cell (below_blk hW T1.out (by rw [HS.out]; omega)) 2 rfl
        have y3 := blk_cell (below_blk hW T1.out (by rw [HS.out]; omega)) 3 rfl
        have y4 := blk_cell (below_blk hW T1.out (by rw [HS.out]; omega)) 4 rfl
        have y5 := blk_cell (below_blk hW T1.out (by rw [HS.out]; omega)) 5 rfl
        have y6 := blk_cell (below_blk hW T1.out (by rw [HS.out]; omega)) 6 rfl
        go_wp2
        exact hK.out _ (Below.refl _ _)
      apply grow_eq
      · intro V W K A hW hd hA hK
        have d3 : V 3 = _ := hd 3 (by kernel_rfl)
        simp only [putAll, List.getElem?_toArray, List.getElem?_cons_succ, List.getElem?_cons_zero, Option.bind_some, Act.put, List.setIfInBounds_toArray, List.set_cons_succ, List.set_cons_zero] at hA
        clear hd
        generalize V 0 = x0 at hA
        generalize V 1 = x1 at hA
        generalize V 2 = x2 at hA
        generalize V 3 = x3 at d3 hA
        generalize V 4 = x4 at hA
        generalize V 5 = x5 at hA
        generalize V 6 = x6 at hA
        generalize V 7 = x7 at hA
        generalize V 8 = x8 at hA
        generalize V 9 = x9 at hA
        subst d3
        obtain rfl := hA
        go_wp2
        exact hK.out _ (Below.refl _ _)
      apply grow_eq
      · intro V W K A hW hd hA hK
        have d3 : V 3 = _ := hd 3 (by kernel_rfl)
        have d5 : V 5 = _ := hd 5 (by kernel_rfl)
        have d6 : V 6 = _ := hd 6 (by kernel_rfl)
        have d7 : V 7 = _ := hd 7 (by kernel_rfl)
        simp only [putAll, List.getElem?_toArray, List.getElem?_cons_succ, List.getElem?_cons_zero, Option.bind_some, Act.put, List.setIfInBounds_toArray, List.set_cons_succ, List.set_cons_zero] at hA
        clear hd
        generalize V 0 = x0 at hA
        generalize V 1 = x1 at hA
        generalize V 2 = x2 at hA
        generalize V 3 = x3 at d3 hA
        generalize V 4 = x4 at hA
        generalize V 5 = x5 at d5 hA
        generalize V 6 = x6 at d6 hA
        generalize V 7 = x7 at d7 hA
        generalize V 8 = x8 at hA
        generalize V 9 = x9 at hA
        subst d3
        subst d5
        subst d6
        subst d7
        obtain rfl := hA
        go_wp2_with fail
        refine (HA2.out _).mono ?_
        rintro e w3 ⟨rfl, hb3⟩
        go_wp2
        exact hK.out _ hb3
      apply grow_eq
      · intro V W K A hW hd hA hK
        have d3 : V 3 = _ := hd 3 (by kernel_rfl)
        have d8 : V 8 = _ := hd 8 (by kernel_rfl)
        simp only [putAll, List.getElem?_toArray, List.getElem?_cons_succ, List.getElem?_cons_zero, Option.bind_some, Act.put, List.setIfInBounds_toArray, List.set_cons_succ, List.set_cons_zero] at hA
        clear hd
        generalize V 0 = x0 at hA
        generalize V 1 = x1 at hA
        generalize V 2 = x2 at hA
        generalize V 3 = x3 at d3 hA
        generalize V 4 = x4 at hA
        generalize V 5 = x5 at hA
        generalize V 6 = x6 at hA
        generalize V 7 = x7 at hA
        generalize V 8 = x8 at d8 hA
        generalize V 9 = x9 at hA
        subst d3
        subst d8
        obtain rfl := hA
        go_wp2
        exact hK.out _ (Below.refl _ _)
      intro V W A hW hS hA
      have d0 : V 0 = _ := hS 0 (by omega)
      have d1 : V 1 = _ := hS 1 (by omega)
      have d2 : V 2 = _ := hS 2 (by omega)
      have d3 : V 3 = _ := hS 3 (by omega)
      have d4 : V 4 = _ := hS 4 (by omega)
      have d5 : V 5 = _ := hS 5 (by omega)
      have d6 : V 6 = _ := hS 6 (by omega)
      have d7 : V 7 = _ := hS 7 (by omega)
      have d8 : V 8 = _ := hS 8 (by omega)
      have d9 : V 9 = _ := hS 9 (by omega)
      simp only [putAll, List.getElem?_toArray, List.getElem?_cons_succ, List.getElem?_cons_zero, Option.bind_some, Act.put, List.setIfInBounds_toArray, List.set_cons_succ, List.set_cons_zero] at hA
      clear hS
      generalize V 0 = x0 at d0 hA
      generalize V 1 = x1 at d1 hA
      generalize V 2 = x2 at d2 hA
      generalize V 3 = x3 at d3 hA
      generalize V 4 = x4 at d4 hA
      generalize V 5 = x5 at d5 hA
      generalize V 6 = x6 at d6 hA
      generalize V 7 = x7 at d7 hA
      generalize V 8 = x8 at d8 hA
      generalize V 9 = x9 at d9 hA
      subst d0
      subst d1
      subst d2
      subst d3
      subst d4
      subst d5
      subst d6
      subst d7
      subst d8
      subst d9
      obtain rfl := hA
      simp only [List.drop_succ_cons, List.drop_zero]
      go_wp2
      go_ret
      exact ⟨ret_bool (by rw [HF.out]; simp), hbb.trans (hW.mono hbb.size)⟩
    · have HR : Hid _ := fun W => HR1.out W rfl
      clear HR1 HR2
      go_enter Try.func25, Try.ntmps25
      go_wp2
      refine wp_region_grows 10 (by kernel_rfl) (by kernel_rfl) ?_
      apply grow_eq
      · intro V W K A hW hd hA hK
        simp only [putAll, List.getElem?_toArray, List.getElem?_cons_succ, List.getElem?_cons_zero, Option.bind_some, Act.put, List.setIfInBounds_toArray, List.set_cons_succ, List.set_cons_zero] at hA
        clear hd
        generalize V 0 = x0 at hA
        generalize V 1 = x1 at hA
        generalize V 2 = x2 at hA
        generalize V 3 = x3 at hA
        generalize V 4 = x4 at hA
        generalize V 5 = x5 at hA
        generalize V 6 = x6 at hA
        generalize V 7 = x7 at hA
        generalize V 8 = x8 at hA
        generalize V 9 = x9 at hA
        obtain rfl := hA
        go_wp2
        exact hK.out _ (Below.refl _ _)
      apply grow_eq
      · intro V W K A hW hd hA hK
        have d0 : V 0 = _ := hd 0 (by kernel_rfl)
        simp only [putAll, List.getElem?_toArray, List.getElem?_cons_succ, List.getElem?_cons_zero, Option.bind_some, Act.put, List.setIfInBounds_toArray, List.set_cons_succ, List.set_cons_zero] at hA
        clear hd
        generalize V 0 = x0 at d0 hA
        generalize V 1 = x1 at hA
        generalize V 2 = x2 at hA
        generalize V 3 = x3 at hA
        generalize V 4 = x4 at hA
        generalize V 5 = x5 at hA
        generalize V 6 = x6 at hA
        generalize V 7 = x7 at hA
        generalize V 8 = x8 at hA
        generalize V 9 = x9 at hA
        subst d0
        obtain rfl := hA
        have y0 := blk_cell (below_blk hW T1.out (by rw [HS.out]; omega)) 0 rfl
        have y1 := blk_cell (below_blk hW T1.out (by rw [HS.out]; omega)) 1 rfl
        have y2 := blk_cell (below_blk hW T1.out (by rw [HS.out]; omega)) 2 rfl
        have y3 := blk_cell (below_blk hW T1.out (by rw [HS.out]; omega)) 3 rfl
        have y4 := blk_cell (below_blk hW T1.out (by rw [HS.out]; omega)) 4 rfl
        have y5 := blk_cell (below_blk hW T1.out (by rw [HS.out]; omega)) 5 rfl
        have y6 := blk_cell (below_blk hW T1.out (by rw [HS.out]; omega)) 6 rfl
        go_wp2
        exact hK.out _ (Below.refl _ _)
      apply grow_eq
      · intro V W K A hW hd hA hK
        have d1 : V 1 = _ := hd 1 (by kernel_rfl)
        simp only [putAll, List.getElem?_toArray, List.getElem?_cons_succ, List.getElem?_cons_zero, Option.bind_some, Act.put, List.setIfInBounds_toArray, List.set_cons_succ, List.set_cons_zero] at hA
        clear hd
        generalize V 0 = x0 at hA
        generalize V 1 = x1 at d1 hA
        generalize V 2 = x2 at hA
        generalize V 3 = x3 at hA
        generalize V 4 = x4 at hA
        generalize V 5 = x5 at hA
        generalize V 6 = x6 at hA
        generalize V 7 = x7 at hA
        generalize V 8 = x8 at hA
        generalize V 9 = x9 at hA
        subst d1
        obtain rfl := hA
        go_wp2
        exact hK.out _ (Below.refl _ _)
      apply grow_eq
      · intro V W K A hW hd hA hK
        have d2 : V 2 = _ := hd 2 (by kernel_rfl)
        simp only [putAll, List.getElem?_toArray, List.getElem?_cons_succ, List.getElem?_cons_zero, Option.bind_some, Act.put, List.setIfInBounds_toArray, List.set_cons_succ, List.set_cons_zero] at hA
        clear hd
        generalize V 0 = x0 at hA
        generalize V 1 = x1 at hA
        generalize V 2 = x2 at d2 hA
        generalize V 3 = x3 at hA
        generalize V 4 = x4 at hA
        generalize V 5 = x5 at hA
        generalize V 6 = x6 at hA
        generalize V 7 = x7 at hA
        generalize V 8 = x8 at hA
        generalize V 9 = x9 at hA
        subst d2
        obtain rfl := hA
        go_wp2
        exact hK.out _ (Below.refl _ _)
      apply grow_eq
      · intro V W K A hW hd hA hK
        have d3 : V 3 = _ := hd 3 (by kernel_rfl)
        simp only [putAll, List.getElem?_toArray, List.getElem?_cons_succ, List.getElem?_cons_zero, Option.bind_some, Act.put, List.setIfInBounds_toArray, List.set_cons_succ, List.set_cons_zero] at hA
        clear hd
        generalize V 0 = x0 at hA
        generalize V 1 = x1 at hA
        generalize V 2 = x2 at hA
        generalize V 3 = x3 at d3 hA
        generalize V 4 = x4 at hA
        generalize V 5 = x5 at hA
        generalize V 6 = x6 at hA
        generalize V 7 = x7 at hA
        generalize V 8 = x8 at hA
        generalize V 9 = x9 at hA
        subst d3
        obtain rfl := hA
        have z0 := blk_cell (below_blk hW T0.out (by rw [HS.out]; omega)) 0 rfl
        have z1 := blk_cell (below_blk hW T0.out (by rw [HS.out]; omega)) 1 rfl
        have z2 := blk_cell (below_blk hW T0.out (by rw [HS.out]; omega)) 2 rfl
        have z3 := blk_cell (below_blk hW T0.out (by rw [HS.out]; omega)) 3 rfl
        have z4 := blk_cell (below_blk hW T0.out (by rw [HS.out]; omega)) 4 rfl
        have z5 := blk_cell (below_blk hW T0.out (by rw [HS.out]; omega)) 5 rfl
        have z6 := blk_cell (below_blk hW T0.out (by rw [HS.out]; omega)) 6 rfl
        have z7 := blk_cell (below_blk hW T0.out (by rw [HS.out]; omega)) 7 rfl
        have z8 := blk_cell (below_blk hW T0.out (by rw [HS.out]; omega)) 8 rfl
        have z9 := blk_cell (below_blk hW T0.out (by rw [HS.out]; omega)) 9 rfl
        have z10 := blk_cell (below_blk hW T0.out (by rw [HS.out]; omega)) 10 rfl
        have z11 := blk_cell (below_blk hW T0.out (by rw [HS.out]; omega)) 11 rfl
        have z12 := blk_cell (below_blk hW T0.out (by rw [HS.out]; omega)) 12 rfl
        go_wp2
        exact hK.out _ (Below.refl _ _)
      apply grow_eq
      · intro V W K A hW hd hA hK
        have d3 : V 3 = _ := hd 3 (by kernel_rfl)
        have d4 : V 4 = _ := hd 4 (by kernel_rfl)
        simp only [putAll, List.getElem?_toArray, List.getElem?_cons_succ, List.getElem?_cons_zero, Option.bind_some, Act.put, List.setIfInBounds_toArray, List.set_cons_succ, List.set_cons_zero] at hA
        clear hd
        generalize V 0 = x0 at hA
        generalize V 1 = x1 at hA
        generalize V 2 = x2 at hA
        generalize V 3 = x3 at d3 hA
        generalize V 4 = x4 at d4 hA
        generalize V 5 = x5 at hA
        generalize V 6 = x6 at hA
        generalize V 7 = x7 at hA
        generalize V 8 = x8 at hA
        generalize V 9 = x9 at hA
        subst d3
        subst d4
        obtain rfl := hA
        go_wp2_with fail
        refine (HR.out _).mono ?_
        rintro e w3 ⟨rfl, hb3⟩
        go_wp2
        exact hK.out _ hb3
      apply grow_eq
      · intro V W K A hW hd hA hK
        have d3 : V 3 = _ := hd 3 (by kernel_rfl)
        simp only [putAll, List.getElem?_toArray, List.getElem?_cons_succ, List.getElem?_cons_zero, Option.bind_some, Act.put, List.setIfInBounds_toArray, List.set_cons_succ, List.set_cons_zero] at hA
        clear hd
        generalize V 0 = x0 at hA
        generalize V 1 = x1 at hA
        generalize V 2 = x2 at hA
        generalize V 3 = x3 at d3 hA
        generalize V 4 = x4 at hA
        generalize V 5 = x5 at hA
        generalize V 6 = x6 at hA
        generalize V 7 = x7 at hA
        generalize V 8 = x8 at hA
        generalize V 9 = x9 at hA
        subst d3
        obtain rfl := hA
        have y0 := blk_cell (below_blk hW T1.out (by rw [HS.out]; omega)) 0 rfl
        have y1 := blk_cell (below_blk hW T1.out (by rw [HS.out]; omega)) 1 rfl
        have y2 := blk_cell (below_blk hW T1.out (by rw [HS.out]; omega)) 2 rfl
        have y3 := blk_cell (below_blk hW T1.out (by rw [HS.out]; omega)) 3 rfl
        have y4 := blk_cell (below_blk hW T1.out (by rw [HS.out]; omega)) 4 rfl
        have y5 := blk_cell (below_blk hW T1.out (by rw [HS.out]; omega)) 5 rfl
        have y6 := blk_cell (below_blk hW T1.out (by rw [HS.out]; omega)) 6 rfl
        go_wp2
        exact hK.out _ (Below.refl _ _)
      apply grow_eq
      · intro V W K A hW hd hA hK
        have d3 : V 3 = _ := hd 3 (by kernel_rfl)
        simp only [putAll, List.getElem?_toArray, List.getElem?_cons_succ, List.getElem?_cons_zero, Option.bind_some, Act.put, List.setIfInBounds_toArray, List.set_cons_succ, List.set_cons_zero] at hA
        clear hd
        generalize V 0 = x0 at hA
        generalize V 1 = x1 at hA
        generalize V 2 = x2 at hA
        generalize V 3 = x3 at d3 hA
        generalize V 4 = x4 at hA
        generalize V 5 = x5 at hA
        generalize V 6 = x6 at hA
        generalize V 7 = x7 at hA
        generalize V 8 = x8 at hA
        generalize V 9 = x9 at hA
        subst d3
        obtain rfl := hA
        go_wp2
        exact hK.out _ (Below.refl _ _)
      apply grow_eq
      · intro V W K A hW hd hA hK
        have d3 : V 3 = _ := hd 3 (by kernel_rfl)
        have d5 : V 5 = _ := hd 5 (by kernel_rfl)
        have d6 : V 6 = _ := hd 6 (by kernel_rfl)
        have d7 : V 7 = _ := hd 7 (by kernel_rfl)
        simp only [putAll, List.getElem?_toArray, List.getElem?_cons_succ, List.getElem?_cons_zero, Option.bind_some, Act.put, List.setIfInBounds_toArray, List.set_cons_succ, List.set_cons_zero] at hA
        clear hd
        generalize V 0 = x0 at hA
        generalize V 1 = x1 at hA
        generalize V 2 = x2 at hA
        generalize V 3 = x3 at d3 hA
        generalize V 4 = x4 at hA
        generalize V 5 = x5 at d5 hA
        generalize V 6 = x6 at d6 hA
        generalize V 7 = x7 at d7 hA
        generalize V 8 = x8 at hA
        generalize V 9 = x9 at hA
        subst d3
        subst d5
        subst d6
        subst d7
        obtain rfl := hA
        go_wp2_with fail
        refine (HA1.out _).mono ?_
        rintro e w3 ⟨rfl, hb3⟩
        go_wp2
        exact hK.out _ hb3
      apply grow_eq
      · intro V W K A hW hd hA hK
        have d3 : V 3 = _ := hd 3 (by kernel_rfl)
        have d8 : V 8 = _ := hd 8 (by kernel_rfl)
        simp only [putAll, List.getElem?_toArray, List.getElem?_cons_succ, List.getElem?_cons_zero, Option.bind_some, Act.put, List.setIfInBounds_toArray, List.set_cons_succ, List.set_cons_zero] at hA
        clear hd
        generalize V 0 = x0 at hA
        generalize V 1 = x1 at hA
        generalize V 2 = x2 at hA
        generalize V 3 = x3 at d3 hA
        generalize V 4 = x4 at hA
        generalize V 5 = x5 at hA
        generalize V 6 = x6 at hA
        generalize V 7 = x7 at hA
        generalize V 8 = x8 at d8 hA
        generalize V 9 = x9 at hA
        subst d3
        subst d8
        obtain rfl := hA
        go_wp2
        exact hK.out _ (Below.refl _ _)
      intro V W A hW hS hA
      have d0 : V 0 = _ := hS 0 (by omega)
      have d1 : V 1 = _ := hS 1 (by omega)
      have d2 : V 2 = _ := hS 2 (by omega)
      have d3 : V 3 = _ := hS 3 (by omega)
      have d4 : V 4 = _ := hS 4 (by omega)
      have d5 : V 5 = _ := hS 5 (by omega)
      have d6 : V 6 = _ := hS 6 (by omega)
      have d7 : V 7 = _ := hS 7 (by omega)
      have d8 : V 8 = _ := hS 8 (by omega)
      have d9 : V 9 = _ := hS 9 (by omega)
      simp only [putAll, List.getElem?_toArray, List.getElem?_cons_succ, List.getElem?_cons_zero, Option.bind_some, Act.put, List.setIfInBounds_toArray, List.set_cons_succ, List.set_cons_zero] at hA
      clear hS
      generalize V 0 = x0 at d0 hA
      generalize V 1 = x1 at d1 hA
      generalize V 2 = x2 at d2 hA
      generalize V 3 = x3 at d3 hA
      generalize V 4 = x4 at d4 hA
      generalize V 5 = x5 at d5 hA
      generalize V 6 = x6 at d6 hA
      generalize V 7 = x7 at d7 hA
      generalize V 8 = x8 at d8 hA
      generalize V 9 = x9 at d9 hA
      subst d0
      subst d1
      subst d2
      subst d3
      subst d4
      subst d5
      subst d6
      subst d7
      subst d8
      subst d9
      obtain rfl := hA
      simp only [List.drop_succ_cons, List.drop_zero]
      go_wp2
      go_ret
      exact ⟨ret_bool (by rw [HF.out]; rfl), hbb.trans (hW.mono hbb.size)⟩
  · clear HR1 HR2
    go_enter Try.func25, Try.ntmps25
    go_wp2
    refine wp_region_grows 10 (by kernel_rfl) (by kernel_rfl) ?_
    apply grow_eq
    · intro V W K A hW hd hA hK
      simp only [putAll, List.getElem?_toArray, List.getElem?_cons_succ, List.getElem?_cons_zero, Option.bind_some, Act.put, List.setIfInBounds_toArray, List.set_cons_succ, List.set_cons_zero] at hA
      clear hd
      generalize V 0 = x0 at hA
      generalize V 1 = x1 at hA
      generalize V 2 = x2 at hA
      generalize V 3 = x3 at hA
      generalize V 4 = x4 at hA
      generalize V 5 = x5 at hA
      generalize V 6 = x6 at hA
      generalize V 7 = x7 at hA
      generalize V 8 = x8 at hA
      generalize V 9 = x9 at hA
      obtain rfl := hA
      go_wp2
      exact hK.out _ (Below.refl _ _)
    apply grow_eq
    · intro V W K A hW hd hA hK
      have d0 : V 0 = _ := hd 0 (by kernel_rfl)
      simp only [putAll, List.getElem?_toArray, List.getElem?_cons_succ, List.getElem?_cons_zero, Option.bind_some, Act.put, List.setIfInBounds_toArray, List.set_cons_succ, List.set_cons_zero] at hA
      clear hd
      generalize V 0 = x0 at d0 hA
      generalize V 1 = x1 at hA
      generalize V 2 = x2 at hA
      generalize V 3 = x3 at hA
      generalize V 4 = x4 at hA
      generalize V 5 = x5 at hA
      generalize V 6 = x6 at hA
      generalize V 7 = x7 at hA
      generalize V 8 = x8 at hA
      generalize V 9 = x9 at hA
      subst d0
      obtain rfl := hA
      have y0 := blk_cell (below_blk hW T1.out (by rw [HS.out]; omega)) 0 rfl
      have y1 := blk_cell (below_blk hW T1.out (by rw [HS.out]; omega)) 1 rfl
      have y2 := blk_cell (below_blk hW T1.out (by rw [HS.out]; omega)) 2 rfl
      have y3 := blk_cell (below_blk hW T1.out (by rw [HS.out]; omega)) 3 rfl
      have y4 := blk_cell (below_blk hW T1.out (by rw [HS.out]; omega)) 4 rfl
      have y5 := blk_cell (below_blk hW T1.out (by rw [HS.out]; omega)) 5 rfl
      have y6 := blk_cell (below_blk hW T1.out (by rw [HS.out]; omega)) 6 rfl
      go_wp2
      exact hK.out _ (Below.refl _ _)
    apply grow_eq
    · intro V W K A hW hd hA hK
      have d1 : V 1 = _ := hd 1 (by kernel_rfl)
      simp only [putAll, List.getElem?_toArray, List.getElem?_cons_succ, List.getElem?_cons_zero, Option.bind_some, Act.put, List.setIfInBounds_toArray, List.set_cons_succ, List.set_cons_zero] at hA
      clear hd
      generalize V 0 = x0 at hA
      generalize V 1 = x1 at d1 hA
      generalize V 2 = x2 at hA
      generalize V 3 = x3 at hA
      generalize V 4 = x4 at hA
      generalize V 5 = x5 at hA
      generalize V 6 = x6 at hA
      generalize V 7 = x7 at hA
      generalize V 8 = x8 at hA
      generalize V 9 = x9 at hA
      subst d1
      obtain rfl := hA
      go_wp2
      exact hK.out _ (Below.refl _ _)
    apply grow_eq
    · intro V W K A hW hd hA hK
      have d2 : V 2 = _ := hd 2 (by kernel_rfl)
      simp only [putAll, List.getElem?_toArray, List.getElem?_cons_succ, List.getElem?_cons_zero, Option.bind_some, Act.put, List.setIfInBounds_toArray, List.set_cons_succ, List.set_cons_zero] at hA
      clear hd
      generalize V 0 = x0 at hA
      generalize V 1 = x1 at hA
      generalize V 2 = x2 at d2 hA
      generalize V 3 = x3 at hA
      generalize V 4 = x4 at hA
      generalize V 5 = x5 at hA
      generalize V 6 = x6 at hA
      generalize V 7 = x7 at hA
      generalize V 8 = x8 at hA
      generalize V 9 = x9 at hA
      subst d2
      obtain rfl := hA
      go_wp2
      exact hK.out _ (Below.refl _ _)
    apply grow_eq
    · intro V W K A hW hd hA hK
      have d3 : V 3 = _ := hd 3 (by kernel_rfl)
      simp only [putAll, List.getElem?_toArray, List.getElem?_cons_succ, List.getElem?_cons_zero, Option.bind_some, Act.put, List.setIfInBounds_toArray, List.set_cons_succ, List.set_cons_zero] at hA
      clear hd
      generalize V 0 = x0 at hA
      generalize V 1 = x1 at hA
      generalize V 2 = x2 at hA
      generalize V 3 = x3 at d3 hA
      generalize V 4 = x4 at hA
      generalize V 5 = x5 at hA
      generalize V 6 = x6 at hA
      generalize V 7 = x7 at hA
      generalize V 8 = x8 at hA
      generalize V 9 = x9 at hA
      subst d3
      obtain rfl := hA
      go_wp2
      exact hK.out _ (Below.refl _ _)
    apply grow_eq
    · intro V W K A hW hd hA hK
      have d3 : V 3 = _ := hd 3 (by kernel_rfl)
      simp only [putAll, List.getElem?_toArray, List.getElem?_cons_succ, List.getElem?_cons_zero, Option.bind_some, Act.put, List.setIfInBounds_toArray, List.set_cons_succ, List.set_cons_zero] at hA
      clear hd
      generalize V 0 = x0 at hA
      generalize V 1 = x1 at hA
      generalize V 2 = x2 at hA
      generalize V 3 = x3 at d3 hA
      generalize V 4 = x4 at hA
      generalize V 5 = x5 at hA
      generalize V 6 = x6 at hA
      generalize V 7 = x7 at hA
      generalize V 8 = x8 at hA
      generalize V 9 = x9 at hA
      subst d3
      obtain rfl := hA
      go_wp2
      exact hK.out _ (Below.refl _ _)
    apply grow_eq
    · intro V W K A hW hd hA hK
      have d3 : V 3 = _ := hd 3 (by kernel_rfl)
      simp only [putAll, List.getElem?_toArray, List.getElem?_cons_succ, List.getElem?_cons_zero, Option.bind_some, Act.put, List.setIfInBounds_toArray, List.set_cons_succ, List.set_cons_zero] at hA
      clear hd
      generalize V 0 = x0 at hA
      generalize V 1 = x1 at hA
      generalize V 2 = x2 at hA
      generalize V 3 = x3 at d3 hA
      generalize V 4 = x4 at hA
      generalize V 5 = x5 at hA
      generalize V 6 = x6 at hA
      generalize V 7 = x7 at hA
      generalize V 8 = x8 at hA
      generalize V 9 = x9 at hA
      subst d3
      obtain rfl := hA
      go_wp2
      exact hK.out _ (Below.refl _ _)
    apply grow_eq
    · intro V W K A hW hd hA hK
      have d3 : V 3 = _ := hd 3 (by kernel_rfl)
      simp only [putAll, List.getElem?_toArray, List.getElem?_cons_succ, List.getElem?_cons_zero, Option.bind_some, Act.put, List.setIfInBounds_toArray, List.set_cons_succ, List.set_cons_zero] at hA
      clear hd
      generalize V 0 = x0 at hA
      generalize V 1 = x1 at hA
      generalize V 2 = x2 at hA
      generalize V 3 = x3 at d3 hA
      generalize V 4 = x4 at hA
      generalize V 5 = x5 at hA
      generalize V 6 = x6 at hA
      generalize V 7 = x7 at hA
      generalize V 8 = x8 at hA
      generalize V 9 = x9 at hA
      subst d3
      obtain rfl := hA
      go_wp2
      exact hK.out _ (Below.refl _ _)
    apply grow_eq
    · intro V W K A hW hd hA hK
      have d3 : V 3 = _ := hd 3 (by kernel_rfl)
      simp only [putAll, List.getElem?_toArray, List.getElem?_cons_succ, List.getElem?_cons_zero, Option.bind_some, Act.put, List.setIfInBounds_toArray, List.set_cons_succ, List.set_cons_zero] at hA
      clear hd
      generalize V 0 = x0 at hA
      generalize V 1 = x1 at hA
      generalize V 2 = x2 at hA
      generalize V 3 = x3 at d3 hA
      generalize V 4 = x4 at hA
      generalize V 5 = x5 at hA
      generalize V 6 = x6 at hA
      generalize V 7 = x7 at hA
      generalize V 8 = x8 at hA
      generalize V 9 = x9 at hA
      subst d3
      obtain rfl := hA
      go_wp2
      exact hK.out _ (Below.refl _ _)
    apply grow_eq
    · intro V W K A hW hd hA hK
      have d3 : V 3 = _ := hd 3 (by kernel_rfl)
      have d8 : V 8 = _ := hd 8 (by kernel_rfl)
      simp only [putAll, List.getElem?_toArray, List.getElem?_cons_succ, List.getElem?_cons_zero, Option.bind_some, Act.put, List.setIfInBounds_toArray, List.set_cons_succ, List.set_cons_zero] at hA
      clear hd
      generalize V 0 = x0 at hA
      generalize V 1 = x1 at hA
      generalize V 2 = x2 at hA
      generalize V 3 = x3 at d3 hA
      generalize V 4 = x4 at hA
      generalize V 5 = x5 at hA
      generalize V 6 = x6 at hA
      generalize V 7 = x7 at hA
      generalize V 8 = x8 at d8 hA
      generalize V 9 = x9 at hA
      subst d3
      subst d8
      obtain rfl := hA
      go_wp2
      exact hK.out _ (Below.refl _ _)
    intro V W A hW hS hA
    have d0 : V 0 = _ := hS 0 (by omega)
    have d1 : V 1 = _ := hS 1 (by omega)
    have d2 : V 2 = _ := hS 2 (by omega)
    have d3 : V 3 = _ := hS 3 (by omega)
    have d4 : V 4 = _ := hS 4 (by omega)
    have d5 : V 5 = _ := hS 5 (by omega)
    have d6 : V 6 = _ := hS 6 (by omega)
    have d7 : V 7 = _ := hS 7 (by omega)
    have d8 : V 8 = _ := hS 8 (by omega)
    have d9 : V 9 = _ := hS 9 (by omega)
    simp only [putAll, List.getElem?_toArray, List.getElem?_cons_succ, List.getElem?_cons_zero, Option.bind_some, Act.put, List.setIfInBounds_toArray, List.set_cons_succ, List.set_cons_zero] at hA
    clear hS
    generalize V 0 = x0 at d0 hA
    generalize V 1 = x1 at d1 hA
    generalize V 2 = x2 at d2 hA
    generalize V 3 = x3 at d3 hA
    generalize V 4 = x4 at d4 hA
    generalize V 5 = x5 at d5 hA
    generalize V 6 = x6 at d6 hA
    generalize V 7 = x7 at d7 hA
    generalize V 8 = x8 at d8 hA
    generalize V 9 = x9 at d9 hA
    subst d0
    subst d1
    subst d2
    subst d3
    subst d4
    subst d5
    subst d6
    subst d7
    subst d8
    subst d9
    obtain rfl := hA
    simp only [List.drop_succ_cons, List.drop_zero]
    go_wp2
    go_ret
    exact ⟨ret_bool (by rw [HF.out]; rfl), hbb.trans (hW.mono hbb.size)⟩

end Go.Proofs.Ytbceafpodamnfaa
