/-
  My own: Zf, Dg, Ta, Td, La, Lb, Pa.
-/
import Derived.Test.YtbceafpodamnfabGreatA07
import Derived.Test.YtbceafpodamnfabGreatA03
import Derived.Test.YtbceafpodamnfabGreatA01
import Derived.Test.YtbceafpodamnfabGreatA00
import Derived.Laws.AppendOwn
import Derived.Test.YtbceafpodamnfabGreatA05
/-
  My own. The program's mayEnd.
-/
namespace Go.Proofs.YtbceafpodamnfabGreat
open Go.RowKit Go.Sort

def mayR (s : Svc) (c : Cp) (r : Int) : Bool := !c.ending && (s.gone || (c.state != 3 || decide (s.want - s.down ≤ r - 1)))

set_option maxRecDepth 100000 in
set_option maxHeartbeats 2000000 in
theorem mayEnd_any (s : Svc) (c : Cp) (r : Int) (w : World) (hr0 : 0 ≤ r) (hr1 : r ≤ 1048576) (hw0 : 0 ≤ s.want) (hw1 : s.want ≤ 10) (hd0 : 0 ≤ s.down) (hd1 : s.down ≤ 10) :
    Calls Tryz.prog 159 #[.agg #[.string s.name, .int .i64 s.version, .bool s.gone, .int .i64 s.image, .int .i64 s.want, .int .i64 s.down, .int .i64 s.over, .int .i64 s.next, .int .i64 s.per, .int .i64 s.least, .int .i64 s.most, .int .i64 s.load, .int .i64 s.cool], .agg #[.string c.service, .int .i64 c.number, .int .i64 c.version, .int .i64 c.image, .int .i64 c.state, .bool c.ending, .string c.berth], .int .i64 r] w fun e w' => e = .returned (.bool (mayR s c r)) ∧ Below w.heap.size w w' := by
  have hbb : Below w.heap.size w ((w.alloc (.cells #[.string s.name, .int .i64 s.version, .bool s.gone, .int .i64 s.image, .int .i64 s.want, .int .i64 s.down, .int .i64 s.over, .int .i64 s.next, .int .i64 s.per, .int .i64 s.least, .int .i64 s.most, .int .i64 s.load, .int .i64 s.cool] 48)).alloc (.cells #[.string c.service, .int .i64 c.number, .int .i64 c.version, .int .i64 c.image, .int .i64 c.state, .bool c.ending, .string c.berth] 88)) := ((Below.refl _ _).alloc (Nat.le_refl _) _).alloc (by simp) _
  obtain ⟨t0, t1, t2⟩ := two_new w (.cells #[.string s.name, .int .i64 s.version, .bool s.gone, .int .i64 s.image, .int .i64 s.want, .int .i64 s.down, .int .i64 s.over, .int .i64 s.next, .int .i64 s.per, .int .i64 s.least, .int .i64 s.most, .int .i64 s.load, .int .i64 s.cool] 48) (.cells #[.string c.service, .int .i64 c.number, .int .i64 c.version, .int .i64 c.image, .int .i64 c.state, .bool c.ending, .string c.berth] 88)
  have HF : Hid (mayR s c r = (!c.ending && (s.gone || (c.state != 3 || decide (s.want - s.down ≤ r - 1))))) := rfl
  have HR1 : Hid _ := fun W => ruleOf_gone s W
  have HR2 : Hid _ := fun W h => ruleOf_keep s W h hw0 hw1 hd0 hd1
  have HA1 : Hid _ := fun W => allowsAll_any c r W
  have HA2 : Hid _ := fun W => allowsKeep_any (s.want - s.down) c r W hr0 hr1
  have hm1 : ∀ w : World, (method 237 216 (.agg #[]) "loop.example/wharfsteward/impl.allows").run Tryz.prog w = .ok (194, .agg #[]) w := fun _ => by kernel_rfl
  have hm2 : ∀ (w : World) (x : Int), (method 237 218 (.agg #[.int .i64 x]) "loop.example/wharfsteward/impl.allows").run Tryz.prog w = .ok (195, .agg #[.int .i64 x]) w := fun _ _ => by kernel_rfl
  generalize c.ending = en at *
  generalize s.gone = go at *
  have T0 : Hid _ := t0
  have T1 : Hid _ := t1
  have HS : Hid _ := t2
  clear t0 t1 t2
  cases en
  · cases go
    · have HR : Hid _ := fun W => HR2.out W rfl
      clear HR1 HR2
      go_enter Tryz.func159, Tryz.ntmps159
      go_wp2
      refine wp_region_grows 10 (by kernel_rfl) (by kernel_rfl) ?_
      apply grow_eq
      · intro V W K A hW hd hA hK
        simp only [putAll, List.getElem?_toArray, List.getElem?_cons_succ, List.getElem?_cons_zero, Option.bind_some, Act.put, List.setIfInBounds_toArray, List.set_cons_succ, List.set_cons_zero] at hA
        clear hd
        generalize V 0 = x0 at hA
        generalize V 1 = x1 at hA
        generalize V 2 = x2 at hA
        generalize V 3 = x3 at hA
        generalize V 4 = x4 at hA
        generalize V 5 = x5 at hA
        generalize V 6 = x6 at hA
        generalize V 7 = x7 at hA
        generalize V 8 = x8 at hA
        generalize V 9 = x9 at hA
        obtain rfl := hA
        go_wp2
        exact hK.out _ (Below.refl _ _)
      apply grow_eq
      · intro V W K A hW hd hA hK
        have d0 : V 0 = _ := hd 0 (by kernel_rfl)
        simp only [putAll, List.getElem?_toArray, List.getElem?_cons_succ, List.getElem?_cons_zero, Option.bind_some, Act.put, List.setIfInBounds_toArray, List.set_cons_succ, List.set_cons_zero] at hA
        clear hd
        generalize V 0 = x0 at d0 hA
        generalize V 1 = x1 at hA
        generalize V 2 = x2 at hA
        generalize V 3 = x3 at hA
        generalize V 4 = x4 at hA
        generalize V 5 = x5 at hA
        generalize V 6 = x6 at hA
        generalize V 7 = x7 at hA
        generalize V 8 = x8 at hA
        generalize V 9 = x9 at hA
        subst d0
        obtain rfl := hA
        have y0 := blk_cell (below_blk hW T1.out (by rw [HS.out]; omega)) 0 rfl
        have y1 := blk_cell (below_blk hW T1.out (by rw [HS.out]; omega)) 1 rfl
        have y2 := blk_cell (below_blk hW T1.out (by rw [HS.out]; omega)) 2 rfl
        have y3 := blk_cell (below_blk hW T1.out (by rw [HS.out]; omega)) 3 rfl
        have y4 := blk_cell (below_blk hW T1.out (by rw [HS.out]; omega)) 4 rfl
        have y5 := blk_cell (below_blk hW T1.out (by rw [HS.out]; omega)) 5 rfl
        have y6 := blk_cell (below_blk hW T1.out (by rw [HS.out]; omega)) 6 rfl
        go_wp2
        exact hK.out _ (Below.refl _ _)
      apply grow_eq
      · intro V W K A hW hd hA hK
        have d1 : V 1 = _ := hd 1 (by kernel_rfl)
        simp only [putAll, List.getElem?_toArray, List.getElem?_cons_succ, List.getElem?_cons_zero, Option.bind_some, Act.put, List.setIfInBounds_toArray, List.set_cons_succ, List.set_cons_zero] at hA
        clear hd
        generalize V 0 = x0 at hA
        generalize V 1 = x1 at d1 hA
        generalize V 2 = x2 at hA
        generalize V 3 = x3 at hA
        generalize V 4 = x4 at hA
        generalize V 5 = x5 at hA
        generalize V 6 = x6 at hA
        generalize V 7 = x7 at hA
        generalize V 8 = x8 at hA
        generalize V 9 = x9 at hA
        subst d1
        obtain rfl := hA
        go_wp2
        exact hK.out _ (Below.refl _ _)
      apply grow_eq
      · intro V W K A hW hd hA hK
        have d2 : V 2 = _ := hd 2 (by kernel_rfl)
        simp only [putAll, List.getElem?_toArray, List.getElem?_cons_succ, List.getElem?_cons_zero, Option.bind_some, Act.put, List.setIfInBounds_toArray, List.set_cons_succ, List.set_cons_zero] at hA
        clear hd
        generalize V 0 = x0 at hA
        generalize V 1 = x1 at hA
        generalize V 2 = x2 at d2 hA
        generalize V 3 = x3 at hA
        generalize V 4 = x4 at hA
        generalize V 5 = x5 at hA
        generalize V 6 = x6 at hA
        generalize V 7 = x7 at hA
        generalize V 8 = x8 at hA
        generalize V 9 = x9 at hA
        subst d2
        obtain rfl := hA
        go_wp2
        exact hK.out _ (Below.refl _ _)
      apply grow_eq
      · intro V W K A hW hd hA hK
        have d3 : V 3 = _ := hd 3 (by kernel_rfl)
        simp only [putAll, List.getElem?_toArray, List.getElem?_cons_succ, List.getElem?_cons_zero, Option.bind_some, Act.put, List.setIfInBounds_toArray, List.set_cons_succ, List.set_cons_zero] at hA
        clear hd
        generalize V 0 = x0 at hA
        generalize V 1 = x1 at hA
        generalize V 2 = x2 at hA
        generalize V 3 = x3 at d3 hA
        generalize V 4 = x4 at hA
        generalize V 5 = x5 at hA
        generalize V 6 = x6 at hA
        generalize V 7 = x7 at hA
        generalize V 8 = x8 at hA
        generalize V 9 = x9 at hA
        subst d3
        obtain rfl := hA
        have z0 := blk_cell (below_blk hW T0.out (by rw [HS.out]; omega)) 0 rfl
        have z1 := blk_cell (below_blk hW T0.out (by rw [HS.out]; omega)) 1 rfl
        have z2 := blk_cell (below_blk hW T0.out (by rw [HS.out]; omega)) 2 rfl
        have z3 := blk_cell (below_blk hW T0.out (by rw [HS.out]; omega)) 3 rfl
        have z4 := blk_cell (below_blk hW T0.out (by rw [HS.out]; omega)) 4 rfl
        have z5 := blk_cell (below_blk hW T0.out (by rw [HS.out]; omega)) 5 rfl
        have z6 := blk_cell (below_blk hW T0.out (by rw [HS.out]; omega)) 6 rfl
        have z7 := blk_cell (below_blk hW T0.out (by rw [HS.out]; omega)) 7 rfl
        have z8 := blk_cell (below_blk hW T0.out (by rw [HS.out]; omega)) 8 rfl
        have z9 := blk_cell (below_blk hW T0.out (by rw [HS.out]; omega)) 9 rfl
        have z10 := blk_cell (below_blk hW T0.out (by rw [HS.out]; omega)) 10 rfl
        have z11 := blk_cell (below_blk hW T0.out (by rw [HS.out]; omega)) 11 rfl
        have z12 := blk_cell (below_blk hW T0.out (by rw [HS.out]; omega)) 12 rfl
        go_wp2
        exact hK.out _ (Below.refl _ _)
      apply grow_eq
      · intro V W K A hW hd hA hK
        have d3 : V 3 = _ := hd 3 (by kernel_rfl)
        have d4 : V 4 = _ := hd 4 (by kernel_rfl)
        simp only [putAll, List.getElem?_toArray, List.getElem?_cons_succ, List.getElem?_cons_zero, Option.bind_some, Act.put, List.setIfInBounds_toArray, List.set_cons_succ, List.set_cons_zero] at hA
        clear hd
        generalize V 0 = x0 at hA
        generalize V 1 = x1 at hA
        generalize V 2 = x2 at hA
        generalize V 3 = x3 at d3 hA
        generalize V 4 = x4 at d4 hA
        generalize V 5 = x5 at hA
        generalize V 6 = x6 at hA
        generalize V 7 = x7 at hA
        generalize V 8 = x8 at hA
        generalize V 9 = x9 at hA
        subst d3
        subst d4
        obtain rfl := hA
        go_wp2_with fail
        refine (HR.out _).mono ?_
        rintro e w3 ⟨rfl, hb3⟩
        go_wp2
        exact hK.out _ hb3
      apply grow_eq
      · intro V W K A hW hd hA hK
        have d3 : V 3 = _ := hd 3 (by kernel_rfl)
        simp only [putAll, List.getElem?_toArray, List.getElem?_cons_succ, List.getElem?_cons_zero, Option.bind_some, Act.put, List.setIfInBounds_toArray, List.set_cons_succ, List.set_cons_zero] at hA
        clear hd
        generalize V 0 = x0 at hA
        generalize V 1 = x1 at hA
        generalize V 2 = x2 at hA
        generalize V 3 = x3 at d3 hA
        generalize V 4 = x4 at hA
        generalize V 5 = x5 at hA
        generalize V 6 = x6 at hA
        generalize V 7 = x7 at hA
        generalize V 8 = x8 at hA
        generalize V 9 = x9 at hA
        subst d3
        obtain rfl := hA
        have y0 := blk_cell (below_blk hW T1.out (by rw [HS.out]; omega)) 0 rfl
        have y1 := blk_cell (below_blk hW T1.out (by rw [HS.out]; omega)) 1 rfl
        have y2 := blk_cell (below_blk hW T1.out (by rw [HS.out]; omega)) 2 rfl
        have y3 := blk_cell (below_blk hW T1.out (by rw [HS.out]; omega)) 3 rfl
        have y4 := blk_cell (below_blk hW T1.out (by rw [HS.out]; omega)) 4 rfl
        have y5 := blk_cell (below_blk hW T1.out (by rw [HS.out]; omega)) 5 rfl
        have y6 := blk_cell (below_blk hW T1.out (by rw [HS.out]; omega)) 6 rfl
        go_wp2
        exact hK.out _ (Below.refl _ _)
      apply grow_eq
      · intro V W K A hW hd hA hK
        have d3 : V 3 = _ := hd 3 (by kernel_rfl)
        simp only [putAll, List.getElem?_toArray, List.getElem?_cons_succ, List.getElem?_cons_zero, Option.bind_some, Act.put, List.setIfInBounds_toArray, List.set_cons_succ, List.set_cons_zero] at hA
        clear hd
        generalize V 0 = x0 at hA
        generalize V 1 = x1 at hA
        generalize V 2 = x2 at hA
        generalize V 3 = x3 at d3 hA
        generalize V 4 = x4 at hA
        generalize V 5 = x5 at hA
        generalize V 6 = x6 at hA
        generalize V 7 = x7 at hA
        generalize V 8 = x8 at hA
        generalize V 9 = x9 at hA
        subst d3
        obtain rfl := hA
        go_wp2
        exact hK.out _ (Below.refl _ _)
      apply grow_eq
      · intro V W K A hW hd hA hK
        have d3 : V 3 = _ := hd 3 (by kernel_rfl)
        have d5 : V 5 = _ := hd 5 (by kernel_rfl)
        have d6 : V 6 = _ := hd 6 (by kernel_rfl)
        have d7 : V 7 = _ := hd 7 (by kernel_rfl)
        simp only [putAll, List.getElem?_toArray, List.getElem?_cons_succ, List.getElem?_cons_zero, Option.bind_some, Act.put, List.setIfInBounds_toArray, List.set_cons_succ, List.set_cons_zero] at hA
        clear hd
        generalize V 0 = x0 at hA
        generalize V 1 = x1 at hA
        generalize V 2 = x2 at hA
        generalize V 3 = x3 at d3 hA
        generalize V 4 = x4 at hA
        generalize V 5 = x5 at d5 hA
        generalize V 6 = x6 at d6 hA
        generalize V 7 = x7 at d7 hA
        generalize V 8 = x8 at hA
        generalize V 9 = x9 at hA
        subst d3
        subst d5
        subst d6
        subst d7
        obtain rfl := hA
        go_wp2_with fail
        refine (HA2.out _).mono ?_
        rintro e w3 ⟨rfl, hb3⟩
        go_wp2
        exact hK.out _ hb3
      apply grow_eq
      · intro V W K A hW hd hA hK
        have d3 : V 3 = _ := hd 3 (by kernel_rfl)
        have d8 : V 8 = _ := hd 8 (by kernel_rfl)
        simp only [putAll, List.getElem?_toArray, List.getElem?_cons_succ, List.getElem?_cons_zero, Option.bind_some, Act.put, List.setIfInBounds_toArray, List.set_cons_succ, List.set_cons_zero] at hA
        clear hd
        generalize V 0 = x0 at hA
        generalize V 1 = x1 at hA
        generalize V 2 = x2 at hA
        generalize V 3 = x3 at d3 hA
        generalize V 4 = x4 at hA
        generalize V 5 = x5 at hA
        generalize V 6 = x6 at hA
        generalize V 7 = x7 at hA
        generalize V 8 = x8 at d8 hA
        generalize V 9 = x9 at hA
        subst d3
        subst d8
        obtain rfl := hA
        go_wp2
        exact hK.out _ (Below.refl _ _)
      intro V W A hW hS hA
      have d0 : V 0 = _ := hS 0 (by omega)
      have d1 : V 1 = _ := hS 1 (by omega)
      have d2 : V 2 = _ := hS 2 (by omega)
      have d3 : V 3 = _ := hS 3 (by omega)
      have d4 : V 4 = _ := hS 4 (by omega)
      have d5 : V 5 = _ := hS 5 (by omega)
      have d6 : V 6 = _ := hS 6 (by omega)
      have d7 : V 7 = _ := hS 7 (by omega)
      have d8 : V 8 = _ := hS 8 (by omega)
      have d9 : V 9 = _ := hS 9 (by omega)
      simp only [putAll, List.getElem?_toArray, List.getElem?_cons_succ, List.getElem?_cons_zero, Option.bind_some, Act.put, List.setIfInBounds_toArray, List.set_cons_succ, List.set_cons_zero] at hA
      clear hS
      generalize V 0 = x0 at d0 hA
      generalize V 1 = x1 at d1 hA
      generalize V 2 = x2 at d2 hA
      generalize V 3 = x3 at d3 hA
      generalize V 4 = x4 at d4 hA
      generalize V 5 = x5 at d5 hA
      generalize V 6 = x6 at d6 hA
      generalize V 7 = x7 at d7 hA
      generalize V 8 = x8 at d8 hA
      generalize V 9 = x9 at d9 hA
      subst d0
      subst d1
      subst d2
      subst d3
      subst d4
      subst d5
      subst d6
      subst d7
      subst d8
      subst d9
      obtain rfl := hA
      simp only [List.drop_succ_cons, List.drop_zero]
      go_wp2
      go_ret
      exact ⟨ret_bool (by rw [HF.out]; simp), hbb.trans (hW.mono hbb.size)⟩
    · have HR : Hid _ := fun W => HR1.out W rfl
      clear HR1 HR2
      go_enter Tryz.func159, Tryz.ntmps159
      go_wp2
      refine wp_region_grows 10 (by kernel_rfl) (by kernel_rfl) ?_
      apply grow_eq
      · intro V W K A hW hd hA hK
        simp only [putAll, List.getElem?_toArray, List.getElem?_cons_succ, List.getElem?_cons_zero, Option.bind_some, Act.put, List.setIfInBounds_toArray, List.set_cons_succ, List.set_cons_zero] at hA
        clear hd
        generalize V 0 = x0 at hA
        generalize V 1 = x1 at hA
        generalize V 2 = x2 at hA
        generalize V 3 = x3 at hA
        generalize V 4 = x4 at hA
        generalize V 5 = x5 at hA
        generalize V 6 = x6 at hA
        generalize V 7 = x7 at hA
        generalize V 8 = x8 at hA
        generalize V 9 = x9 at hA
        obtain rfl := hA
        go_wp2
        exact hK.out _ (Below.refl _ _)
      apply grow_eq
      · intro V W K A hW hd hA hK
        have d0 : V 0 = _ := hd 0 (by kernel_rfl)
        simp only [putAll, List.getElem?_toArray, List.getElem?_cons_succ, List.getElem?_cons_zero, Option.bind_some, Act.put, List.setIfInBounds_toArray, List.set_cons_succ, List.set_cons_zero] at hA
        clear hd
        generalize V 0 = x0 at d0 hA
        generalize V 1 = x1 at hA
        generalize V 2 = x2 at hA
        generalize V 3 = x3 at hA
        generalize V 4 = x4 at hA
        generalize V 5 = x5 at hA
        generalize V 6 = x6 at hA
        generalize V 7 = x7 at hA
        generalize V 8 = x8 at hA
        generalize V 9 = x9 at hA
        subst d0
        obtain rfl := hA
        have y0 := blk_cell (below_blk hW T1.out (by rw [HS.out]; omega)) 0 rfl
        have y1 := blk_cell (below_blk hW T1.out (by rw [HS.out]; omega)) 1 rfl
        have y2 := blk_cell (below_blk hW T1.out (by rw [HS.out]; omega)) 2 rfl
        have y3 := blk_cell (below_blk hW T1.out (by rw [HS.out]; omega)) 3 rfl
        have y4 := blk_cell (below_blk hW T1.out (by rw [HS.out]; omega)) 4 rfl
        have y5 := blk_cell (below_blk hW T1.out (by rw [HS.out]; omega)) 5 rfl
        have y6 := blk_cell (below_blk hW T1.out (by rw [HS.out]; omega)) 6 rfl
        go_wp2
        exact hK.out _ (Below.refl _ _)
      apply grow_eq
      · intro V W K A hW hd hA hK
        have d1 : V 1 = _ := hd 1 (by kernel_rfl)
        simp only [putAll, List.getElem?_toArray, List.getElem?_cons_succ, List.getElem?_cons_zero, Option.bind_some, Act.put, List.setIfInBounds_toArray, List.set_cons_succ, List.set_cons_zero] at hA
        clear hd
        generalize V 0 = x0 at hA
        generalize V 1 = x1 at d1 hA
        generalize V 2 = x2 at hA
        generalize V 3 = x3 at hA
        generalize V 4 = x4 at hA
        generalize V 5 = x5 at hA
        generalize V 6 = x6 at hA
        generalize V 7 = x7 at hA
        generalize V 8 = x8 at hA
        generalize V 9 = x9 at hA
        subst d1
        obtain rfl := hA
        go_wp2
        exact hK.out _ (Below.refl _ _)
      apply grow_eq
      · intro V W K A hW hd hA hK
        have d2 : V 2 = _ := hd 2 (by kernel_rfl)
        simp only [putAll, List.getElem?_toArray, List.getElem?_cons_succ, List.getElem?_cons_zero, Option.bind_some, Act.put, List.setIfInBounds_toArray, List.set_cons_succ, List.set_cons_zero] at hA
        clear hd
        generalize V 0 = x0 at hA
        generalize V 1 = x1 at hA
        generalize V 2 = x2 at d2 hA
        generalize V 3 = x3 at hA
        generalize V 4 = x4 at hA
        generalize V 5 = x5 at hA
        generalize V 6 = x6 at hA
        generalize V 7 = x7 at hA
        generalize V 8 = x8 at hA
        generalize V 9 = x9 at hA
        subst d2
        obtain rfl := hA
        go_wp2
        exact hK.out _ (Below.refl _ _)
      apply grow_eq
      · intro V W K A hW hd hA hK
        have d3 : V 3 = _ := hd 3 (by kernel_rfl)
        simp only [putAll, List.getElem?_toArray, List.getElem?_cons_succ, List.getElem?_cons_zero, Option.bind_some, Act.put, List.setIfInBounds_toArray, List.set_cons_succ, List.set_cons_zero] at hA
        clear hd
        generalize V 0 = x0 at hA
        generalize V 1 = x1 at hA
        generalize V 2 = x2 at hA
        generalize V 3 = x3 at d3 hA
        generalize V 4 = x4 at hA
        generalize V 5 = x5 at hA
        generalize V 6 = x6 at hA
        generalize V 7 = x7 at hA
        generalize V 8 = x8 at hA
        generalize V 9 = x9 at hA
        subst d3
        obtain rfl := hA
        have z0 := blk_cell (below_blk hW T0.out (by rw [HS.out]; omega)) 0 rfl
        have z1 := blk_cell (below_blk hW T0.out (by rw [HS.out]; omega)) 1 rfl
        have z2 := blk_cell (below_blk hW T0.out (by rw [HS.out]; omega)) 2 rfl
        have z3 := blk_cell (below_blk hW T0.out (by rw [HS.out]; omega)) 3 rfl
        have z4 := blk_cell (below_blk hW T0.out (by rw [HS.out]; omega)) 4 rfl
        have z5 := blk_cell (below_blk hW T0.out (by rw [HS.out]; omega)) 5 rfl
        have z6 := blk_cell (below_blk hW T0.out (by rw [HS.out]; omega)) 6 rfl
        have z7 := blk_cell (below_blk hW T0.out (by rw [HS.out]; omega)) 7 rfl
        have z8 := blk_cell (below_blk hW T0.out (by rw [HS.out]; omega)) 8 rfl
        have z9 := blk_cell (below_blk hW T0.out (by rw [HS.out]; omega)) 9 rfl
        have z10 := blk_cell (below_blk hW T0.out (by rw [HS.out]; omega)) 10 rfl
        have z11 := blk_cell (below_blk hW T0.out (by rw [HS.out]; omega)) 11 rfl
        have z12 := blk_cell (below_blk hW T0.out (by rw [HS.out]; omega)) 12 rfl
        go_wp2
        exact hK.out _ (Below.refl _ _)
      apply grow_eq
      · intro V W K A hW hd hA hK
        have d3 : V 3 = _ := hd 3 (by kernel_rfl)
        have d4 : V 4 = _ := hd 4 (by kernel_rfl)
        simp only [putAll, List.getElem?_toArray, List.getElem?_cons_succ, List.getElem?_cons_zero, Option.bind_some, Act.put, List.setIfInBounds_toArray, List.set_cons_succ, List.set_cons_zero] at hA
        clear hd
        generalize V 0 = x0 at hA
        generalize V 1 = x1 at hA
        generalize V 2 = x2 at hA
        generalize V 3 = x3 at d3 hA
        generalize V 4 = x4 at d4 hA
        generalize V 5 = x5 at hA
        generalize V 6 = x6 at hA
        generalize V 7 = x7 at hA
        generalize V 8 = x8 at hA
        generalize V 9 = x9 at hA
        subst d3
        subst d4
        obtain rfl := hA
        go_wp2_with fail
        refine (HR.out _).mono ?_
        rintro e w3 ⟨rfl, hb3⟩
        go_wp2
        exact hK.out _ hb3
      apply grow_eq
      · intro V W K A hW hd hA hK
        have d3 : V 3 = _ := hd 3 (by kernel_rfl)
        simp only [putAll, List.getElem?_toArray, List.getElem?_cons_succ, List.getElem?_cons_zero, Option.bind_some, Act.put, List.setIfInBounds_toArray, List.set_cons_succ, List.set_cons_zero] at hA
        clear hd
        generalize V 0 = x0 at hA
        generalize V 1 = x1 at hA
        generalize V 2 = x2 at hA
        generalize V 3 = x3 at d3 hA
        generalize V 4 = x4 at hA
        generalize V 5 = x5 at hA
        generalize V 6 = x6 at hA
        generalize V 7 = x7 at hA
        generalize V 8 = x8 at hA
        generalize V 9 = x9 at hA
        subst d3
        obtain rfl := hA
        have y0 := blk_cell (below_blk hW T1.out (by rw [HS.out]; omega)) 0 rfl
        have y1 := blk_cell (below_blk hW T1.out (by rw [HS.out]; omega)) 1 rfl
        have y2 := blk_cell (below_blk hW T1.out (by rw [HS.out]; omega)) 2 rfl
        have y3 := blk_cell (below_blk hW T1.out (by rw [HS.out]; omega)) 3 rfl
        have y4 := blk_cell (below_blk hW T1.out (by rw [HS.out]; omega)) 4 rfl
        have y5 := blk_cell (below_blk hW T1.out (by rw [HS.out]; omega)) 5 rfl
        have y6 := blk_cell (below_blk hW T1.out (by rw [HS.out]; omega)) 6 rfl
        go_wp2
        exact hK.out _ (Below.refl _ _)
      apply grow_eq
      · intro V W K A hW hd hA hK
        have d3 : V 3 = _ := hd 3 (by kernel_rfl)
        simp only [putAll, List.getElem?_toArray, List.getElem?_cons_succ, List.getElem?_cons_zero, Option.bind_some, Act.put, List.setIfInBounds_toArray, List.set_cons_succ, List.set_cons_zero] at hA
        clear hd
        generalize V 0 = x0 at hA
        generalize V 1 = x1 at hA
        generalize V 2 = x2 at hA
        generalize V 3 = x3 at d3 hA
        generalize V 4 = x4 at hA
        generalize V 5 = x5 at hA
        generalize V 6 = x6 at hA
        generalize V 7 = x7 at hA
        generalize V 8 = x8 at hA
        generalize V 9 = x9 at hA
        subst d3
        obtain rfl := hA
        go_wp2
        exact hK.out _ (Below.refl _ _)
      apply grow_eq
      · intro V W K A hW hd hA hK
        have d3 : V 3 = _ := hd 3 (by kernel_rfl)
        have d5 : V 5 = _ := hd 5 (by kernel_rfl)
        have d6 : V 6 = _ := hd 6 (by kernel_rfl)
        have d7 : V 7 = _ := hd 7 (by kernel_rfl)
        simp only [putAll, List.getElem?_toArray, List.getElem?_cons_succ, List.getElem?_cons_zero, Option.bind_some, Act.put, List.setIfInBounds_toArray, List.set_cons_succ, List.set_cons_zero] at hA
        clear hd
        generalize V 0 = x0 at hA
        generalize V 1 = x1 at hA
        generalize V 2 = x2 at hA
        generalize V 3 = x3 at d3 hA
        generalize V 4 = x4 at hA
        generalize V 5 = x5 at d5 hA
        generalize V 6 = x6 at d6 hA
        generalize V 7 = x7 at d7 hA
        generalize V 8 = x8 at hA
        generalize V 9 = x9 at hA
        subst d3
        subst d5
        subst d6
        subst d7
        obtain rfl := hA
        go_wp2_with fail
        refine (HA1.out _).mono ?_
        rintro e w3 ⟨rfl, hb3⟩
        go_wp2
        exact hK.out _ hb3
      apply grow_eq
      · intro V W K A hW hd hA hK
        have d3 : V 3 = _ := hd 3 (by kernel_rfl)
        have d8 : V 8 = _ := hd 8 (by kernel_rfl)
        simp only [putAll, List.getElem?_toArray, List.getElem?_cons_succ, List.getElem?_cons_zero, Option.bind_some, Act.put, List.setIfInBounds_toArray, List.set_cons_succ, List.set_cons_zero] at hA
        clear hd
        generalize V 0 = x0 at hA
        generalize V 1 = x1 at hA
        generalize V 2 = x2 at hA
        generalize V 3 = x3 at d3 hA
        generalize V 4 = x4 at hA
        generalize V 5 = x5 at hA
        generalize V 6 = x6 at hA
        generalize V 7 = x7 at hA
        generalize V 8 = x8 at d8 hA
        generalize V 9 = x9 at hA
        subst d3
        subst d8
        obtain rfl := hA
        go_wp2
        exact hK.out _ (Below.refl _ _)
      intro V W A hW hS hA
      have d0 : V 0 = _ := hS 0 (by omega)
      have d1 : V 1 = _ := hS 1 (by omega)
      have d2 : V 2 = _ := hS 2 (by omega)
      have d3 : V 3 = _ := hS 3 (by omega)
      have d4 : V 4 = _ := hS 4 (by omega)
      have d5 : V 5 = _ := hS 5 (by omega)
      have d6 : V 6 = _ := hS 6 (by omega)
      have d7 : V 7 = _ := hS 7 (by omega)
      have d8 : V 8 = _ := hS 8 (by omega)
      have d9 : V 9 = _ := hS 9 (by omega)
      simp only [putAll, List.getElem?_toArray, List.getElem?_cons_succ, List.getElem?_cons_zero, Option.bind_some, Act.put, List.setIfInBounds_toArray, List.set_cons_succ, List.set_cons_zero] at hA
      clear hS
      generalize V 0 = x0 at d0 hA
      generalize V 1 = x1 at d1 hA
      generalize V 2 = x2 at d2 hA
      generalize V 3 = x3 at d3 hA
      generalize V 4 = x4 at d4 hA
      generalize V 5 = x5 at d5 hA
      generalize V 6 = x6 at d6 hA
      generalize V 7 = x7 at d7 hA
      generalize V 8 = x8 at d8 hA
      generalize V 9 = x9 at d9 hA
      subst d0
      subst d1
      subst d2
      subst d3
      subst d4
      subst d5
      subst d6
      subst d7
      subst d8
      subst d9
      obtain rfl := hA
      simp only [List.drop_succ_cons, List.drop_zero]
      go_wp2
      go_ret
      exact ⟨ret_bool (by rw [HF.out]; rfl), hbb.trans (hW.mono hbb.size)⟩
  · clear HR1 HR2
    go_enter Tryz.func159, Tryz.ntmps159
    go_wp2
    refine wp_region_grows 10 (by kernel_rfl) (by kernel_rfl) ?_
    apply grow_eq
    · intro V W K A hW hd hA hK
      simp only [putAll, List.getElem?_toArray, List.getElem?_cons_succ, List.getElem?_cons_zero, Option.bind_some, Act.put, List.setIfInBounds_toArray, List.set_cons_succ, List.set_cons_zero] at hA
      clear hd
      generalize V 0 = x0 at hA
      generalize V 1 = x1 at hA
      generalize V 2 = x2 at hA
      generalize V 3 = x3 at hA
      generalize V 4 = x4 at hA
      generalize V 5 = x5 at hA
      generalize V 6 = x6 at hA
      generalize V 7 = x7 at hA
      generalize V 8 = x8 at hA
      generalize V 9 = x9 at hA
      obtain rfl := hA
      go_wp2
      exact hK.out _ (Below.refl _ _)
    apply grow_eq
    · intro V W K A hW hd hA hK
      have d0 : V 0 = _ := hd 0 (by kernel_rfl)
      simp only [putAll, List.getElem?_toArray, List.getElem?_cons_succ, List.getElem?_cons_zero, Option.bind_some, Act.put, List.setIfInBounds_toArray, List.set_cons_succ, List.set_cons_zero] at hA
      clear hd
      generalize V 0 = x0 at d0 hA
      generalize V 1 = x1 at hA
      generalize V 2 = x2 at hA
      generalize V 3 = x3 at hA
      generalize V 4 = x4 at hA
      generalize V 5 = x5 at hA
      generalize V 6 = x6 at hA
      generalize V 7 = x7 at hA
      generalize V 8 = x8 at hA
      generalize V 9 = x9 at hA
      subst d0
      obtain rfl := hA
      have y0 := blk_cell (below_blk hW T1.out (by rw [HS.out]; omega)) 0 rfl
      have y1 := blk_cell (below_blk hW T1.out (by rw [HS.out]; omega)) 1 rfl
      have y2 := blk_cell (below_blk hW T1.out (by rw [HS.out]; omega)) 2 rfl
      have y3 := blk_cell (below_blk hW T1.out (by rw [HS.out]; omega)) 3 rfl
      have y4 := blk_cell (below_blk hW T1.out (by rw [HS.out]; omega)) 4 rfl
      have y5 := blk_cell (below_blk hW T1.out (by rw [HS.out]; omega)) 5 rfl
      have y6 := blk_cell (below_blk hW T1.out (by rw [HS.out]; omega)) 6 rfl
      go_wp2
      exact hK.out _ (Below.refl _ _)
    apply grow_eq
    · intro V W K A hW hd hA hK
      have d1 : V 1 = _ := hd 1 (by kernel_rfl)
      simp only [putAll, List.getElem?_toArray, List.getElem?_cons_succ, List.getElem?_cons_zero, Option.bind_some, Act.put, List.setIfInBounds_toArray, List.set_cons_succ, List.set_cons_zero] at hA
      clear hd
      generalize V 0 = x0 at hA
      generalize V 1 = x1 at d1 hA
      generalize V 2 = x2 at hA
      generalize V 3 = x3 at hA
      generalize V 4 = x4 at hA
      generalize V 5 = x5 at hA
      generalize V 6 = x6 at hA
      generalize V 7 = x7 at hA
      generalize V 8 = x8 at hA
      generalize V 9 = x9 at hA
      subst d1
      obtain rfl := hA
      go_wp2
      exact hK.out _ (Below.refl _ _)
    apply grow_eq
    · intro V W K A hW hd hA hK
      have d2 : V 2 = _ := hd 2 (by kernel_rfl)
      simp only [putAll, List.getElem?_toArray, List.getElem?_cons_succ, List.getElem?_cons_zero, Option.bind_some, Act.put, List.setIfInBounds_toArray, List.set_cons_succ, List.set_cons_zero] at hA
      clear hd
      generalize V 0 = x0 at hA
      generalize V 1 = x1 at hA
      generalize V 2 = x2 at d2 hA
      generalize V 3 = x3 at hA
      generalize V 4 = x4 at hA
      generalize V 5 = x5 at hA
      generalize V 6 = x6 at hA
      generalize V 7 = x7 at hA
      generalize V 8 = x8 at hA
      generalize V 9 = x9 at hA
      subst d2
      obtain rfl := hA
      go_wp2
      exact hK.out _ (Below.refl _ _)
    apply grow_eq
    · intro V W K A hW hd hA hK
      have d3 : V 3 = _ := hd 3 (by kernel_rfl)
      simp only [putAll, List.getElem?_toArray, List.getElem?_cons_succ, List.getElem?_cons_zero, Option.bind_some, Act.put, List.setIfInBounds_toArray, List.set_cons_succ, List.set_cons_zero] at hA
      clear hd
      generalize V 0 = x0 at hA
      generalize V 1 = x1 at hA
      generalize V 2 = x2 at hA
      generalize V 3 = x3 at d3 hA
      generalize V 4 = x4 at hA
      generalize V 5 = x5 at hA
      generalize V 6 = x6 at hA
      generalize V 7 = x7 at hA
      generalize V 8 = x8 at hA
      generalize V 9 = x9 at hA
      subst d3
      obtain rfl := hA
      go_wp2
      exact hK.out _ (Below.refl _ _)
    apply grow_eq
    · intro V W K A hW hd hA hK
      have d3 : V 3 = _ := hd 3 (by kernel_rfl)
      simp only [putAll, List.getElem?_toArray, List.getElem?_cons_succ, List.getElem?_cons_zero, Option.bind_some, Act.put, List.setIfInBounds_toArray, List.set_cons_succ, List.set_cons_zero] at hA
      clear hd
      generalize V 0 = x0 at hA
      generalize V 1 = x1 at hA
      generalize V 2 = x2 at hA
      generalize V 3 = x3 at d3 hA
      generalize V 4 = x4 at hA
      generalize V 5 = x5 at hA
      generalize V 6 = x6 at hA
      generalize V 7 = x7 at hA
      generalize V 8 = x8 at hA
      generalize V 9 = x9 at hA
      subst d3
      obtain rfl := hA
      go_wp2
      exact hK.out _ (Below.refl _ _)
    apply grow_eq
    · intro V W K A hW hd hA hK
      have d3 : V 3 = _ := hd 3 (by kernel_rfl)
      simp only [putAll, List.getElem?_toArray, List.getElem?_cons_succ, List.getElem?_cons_zero, Option.bind_some, Act.put, List.setIfInBounds_toArray, List.set_cons_succ, List.set_cons_zero] at hA
      clear hd
      generalize V 0 = x0 at hA
      generalize V 1 = x1 at hA
      generalize V 2 = x2 at hA
      generalize V 3 = x3 at d3 hA
      generalize V 4 = x4 at hA
      generalize V 5 = x5 at hA
      generalize V 6 = x6 at hA
      generalize V 7 = x7 at hA
      generalize V 8 = x8 at hA
      generalize V 9 = x9 at hA
      subst d3
      obtain rfl := hA
      go_wp2
      exact hK.out _ (Below.refl _ _)
    apply grow_eq
    · intro V W K A hW hd hA hK
      have d3 : V 3 = _ := hd 3 (by kernel_rfl)
      simp only [putAll, List.getElem?_toArray, List.getElem?_cons_succ, List.getElem?_cons_zero, Option.bind_some, Act.put, List.setIfInBounds_toArray, List.set_cons_succ, List.set_cons_zero] at hA
      clear hd
      generalize V 0 = x0 at hA
      generalize V 1 = x1 at hA
      generalize V 2 = x2 at hA
      generalize V 3 = x3 at d3 hA
      generalize V 4 = x4 at hA
      generalize V 5 = x5 at hA
      generalize V 6 = x6 at hA
      generalize V 7 = x7 at hA
      generalize V 8 = x8 at hA
      generalize V 9 = x9 at hA
      subst d3
      obtain rfl := hA
      go_wp2
      exact hK.out _ (Below.refl _ _)
    apply grow_eq
    · intro V W K A hW hd hA hK
      have d3 : V 3 = _ := hd 3 (by kernel_rfl)
      simp only [putAll, List.getElem?_toArray, List.getElem?_cons_succ, List.getElem?_cons_zero, Option.bind_some, Act.put, List.setIfInBounds_toArray, List.set_cons_succ, List.set_cons_zero] at hA
      clear hd
      generalize V 0 = x0 at hA
      generalize V 1 = x1 at hA
      generalize V 2 = x2 at hA
      generalize V 3 = x3 at d3 hA
      generalize V 4 = x4 at hA
      generalize V 5 = x5 at hA
      generalize V 6 = x6 at hA
      generalize V 7 = x7 at hA
      generalize V 8 = x8 at hA
      generalize V 9 = x9 at hA
      subst d3
      obtain rfl := hA
      go_wp2
      exact hK.out _ (Below.refl _ _)
    apply grow_eq
    · intro V W K A hW hd hA hK
      have d3 : V 3 = _ := hd 3 (by kernel_rfl)
      have d8 : V 8 = _ := hd 8 (by kernel_rfl)
      simp only [putAll, List.getElem?_toArray, List.getElem?_cons_succ, List.getElem?_cons_zero, Option.bind_some, Act.put, List.setIfInBounds_toArray, List.set_cons_succ, List.set_cons_zero] at hA
      clear hd
      generalize V 0 = x0 at hA
      generalize V 1 = x1 at hA
      generalize V 2 = x2 at hA
      generalize V 3 = x3 at d3 hA
      generalize V 4 = x4 at hA
      generalize V 5 = x5 at hA
      generalize V 6 = x6 at hA
      generalize V 7 = x7 at hA
      generalize V 8 = x8 at d8 hA
      generalize V 9 = x9 at hA
      subst d3
      subst d8
      obtain rfl := hA
      go_wp2
      exact hK.out _ (Below.refl _ _)
    intro V W A hW hS hA
    have d0 : V 0 = _ := hS 0 (by omega)
    have d1 : V 1 = _ := hS 1 (by omega)
    have d2 : V 2 = _ := hS 2 (by omega)
    have d3 : V 3 = _ := hS 3 (by omega)
    have d4 : V 4 = _ := hS 4 (by omega)
    have d5 : V 5 = _ := hS 5 (by omega)
    have d6 : V 6 = _ := hS 6 (by omega)
    have d7 : V 7 = _ := hS 7 (by omega)
    have d8 : V 8 = _ := hS 8 (by omega)
    have d9 : V 9 = _ := hS 9 (by omega)
    simp only [putAll, List.getElem?_toArray, List.getElem?_cons_succ, List.getElem?_cons_zero, Option.bind_some, Act.put, List.setIfInBounds_toArray, List.set_cons_succ, List.set_cons_zero] at hA
    clear hS
    generalize V 0 = x0 at d0 hA
    generalize V 1 = x1 at d1 hA
    generalize V 2 = x2 at d2 hA
    generalize V 3 = x3 at d3 hA
    generalize V 4 = x4 at d4 hA
    generalize V 5 = x5 at d5 hA
    generalize V 6 = x6 at d6 hA
    generalize V 7 = x7 at d7 hA
    generalize V 8 = x8 at d8 hA
    generalize V 9 = x9 at d9 hA
    subst d0
    subst d1
    subst d2
    subst d3
    subst d4
    subst d5
    subst d6
    subst d7
    subst d8
    subst d9
    obtain rfl := hA
    simp only [List.drop_succ_cons, List.drop_zero]
    go_wp2
    go_ret
    exact ⟨ret_bool (by rw [HF.out]; rfl), hbb.trans (hW.mono hbb.size)⟩

end Go.Proofs.YtbceafpodamnfabGreat

/-
  My own. What may end: the two ways to say it; copies of a valid book.
-/
namespace Go.Proofs.YtbceafpodamnfabGreat
open Go.RowKit Go.Sort

theorem mayL_R (B : Bk) (s : Svc) (sv : ByteArray) (c : Cp) : mayL B s sv c = mayR s c (cntTo s.image sv B.cps B.cps.length).ready := by
  unfold mayL mayR
  cases c.ending <;> cases (c.state != 3) <;> cases s.gone <;> rfl

theorem Valid.wfC {B : Bk} (h : Valid B) : wfC B := fun c hc => by
  obtain ⟨s, hs, hok⟩ := h.svc hc
  have hi := h.svcIn (svcOf_mem hs)
  have h0 := hi.next0
  have h1 := hi.next1
  unfold cpOk at hok
  simp only [Bool.and_eq_true, inB_iff] at hok
  have e : wrap64 (s.next - 1) = s.next - 1 := by unfold wrap64; omega
  rw [e] at hok
  exact WalkArith.wf_i64 (by omega)

end Go.Proofs.YtbceafpodamnfabGreat

/-
  My own. Acts: data, what lies where, copied, held against themselves.
-/
namespace Go.Proofs.YtbceafpodamnfabGreat
open Go.RowKit Go.Sort

structure En where
  number : Int
  seen : Int

structure Ac where
  service : ByteArray
  seen : Int
  create : Int
  want : Int
  cool : Int
  scale : Bool
  ends : List En
  drop : Bool

def EnAt (w : World) (b o : Nat) (s : En) : Prop := w.cell? ⟨b, o, none⟩ = some (.int .i64 s.number) ∧ w.cell? ⟨b, o + 1, none⟩ = some (.int .i64 s.seen)

def EnsAt (w : World) (b off : Nat) (l : List En) : Prop := ∀ i s, l[i]? = some s → EnAt w b (off + i * 2) s

theorem EnAt.below {B : Nat} {w w' : World} {b o : Nat} {s : En} (h : EnAt w b o s) (hb : Below B w w') (hB : b < B) : EnAt w' b o s := by
  unfold EnAt at *
  simp only [fun o => hb.cell (p := ⟨b, o, none⟩) hB]
  exact h

theorem EnAt.blk {w w' : World} {b o : Nat} {s : En} (h : EnAt w b o s) (hb : w'.heap[b]? = w.heap[b]?) : EnAt w' b o s := by
  unfold EnAt at *
  simp only [fun o => World.cell?_of_block (w := w) (w' := w') (a := ⟨b, o, none⟩) hb]
  exact h

def En.cells (s : En) : List Value := (#[.int .i64 s.number, .int .i64 s.seen] : Array Value).toList

theorem one_En (s : En) : (#[.int .i64 s.number, .int .i64 s.seen] : Array Value).all (·.oneCell') = true := by simp [Value.oneCell']

theorem ensAt_of_filled {w : World} {b : Nat} {cur : Array Value} {t : TypeId} {fr : Nat × Nat} {l : List En} (h : w.heap[b]? = some (.cells cur t fr)) (hf : Filled En.cells 2 l l.length cur.toList) : EnsAt w b 0 l := by
  intro i s hs
  have hi : i < l.length := by
    rcases Nat.lt_or_ge i l.length with h | h
    · exact h
    · rw [List.getElem?_eq_none h] at hs; cases hs
  have := hf.2 i s hi hs
  unfold EnAt
  simp only [cell_row h, Nat.zero_add]
  refine ⟨?_, ?_⟩
  · exact this 0 (by omega)
  · exact this 1 (by omega)

def SlE (w : World) (ao : Option Addr) (l : List En) : Prop := l ≠ [] → ∃ b off, ao = some ⟨b, off, none⟩ ∧ b < w.heap.size ∧ EnsAt w b off l

theorem SlE.below {w w' : World} {ao : Option Addr} {l : List En} (h : SlE w ao l) (hb : Below w.heap.size w w') : SlE w' ao l := fun hl =>
  let ⟨b, off, e, hlt, hat⟩ := h hl
  ⟨b, off, e, Nat.lt_of_lt_of_le hlt hb.size, fun i s hs => (hat i s hs).below hb hlt⟩

theorem EnAt.grown {w : World} {b o : Nat} {s : En} (h : EnAt w b o s) : (∀ p : Regrown, (grow (redrawn w p.d) p.os).cell? ⟨b, o, none⟩ = some (.int .i64 s.number)) ∧ (∀ p : Regrown, (grow (redrawn w p.d) p.os).cell? ⟨b, o + 1, none⟩ = some (.int .i64 s.seen)) := by
  unfold EnAt at h
  obtain ⟨c0, c1⟩ := h
  exact ⟨fun p => cell_regrown c0 p.d p.os, fun p => cell_regrown c1 p.d p.os⟩

theorem SlE.grown {w : World} {ao : Option Addr} {l : List En} (h : SlE w ao l) (d : Nat) (os : Array Obj) : SlE (grow (redrawn w d) os) ao l := h.below (below_regrown w d os)

theorem Tryz.infoEnd : (Tryz.prog.info? 118).map (fun i => (i.zero, i.size, i.bytes)) = some (some (.agg #[.int .i64 0, .int .i64 0]), 2, 16) := by kernel_rfl
theorem Tryz.infosEnd : (Tryz.prog.info? 118).map (·.size) = some 2 := by kernel_rfl

end Go.Proofs.YtbceafpodamnfabGreat

/-
  My own. Rows of acts: data, what lies where.
-/
namespace Go.Proofs.YtbceafpodamnfabGreat
open Go.RowKit Go.Sort

abbrev ActR := Ac × Option Addr × Nat
def actCells (r : ActR) : List Value := (#[.string r.1.service, .int .i64 r.1.seen, .int .i64 r.1.create, .int .i64 r.1.want, .int .i64 r.1.cool, .bool r.1.scale, .slice r.2.1 r.1.ends.length r.2.2, .bool r.1.drop] : Array Value).toList
def actsV (R : List ActR) : List Value := R.flatMap actCells
theorem actsV_add (R : List ActR) (r : ActR) : actsV (R ++ [r]) = actsV R ++ actCells r := by simp [actsV]

def AcAt (w : World) (b o : Nat) (r : ActR) : Prop := w.cell? ⟨b, o, none⟩ = some (.string r.1.service) ∧ w.cell? ⟨b, o + 1, none⟩ = some (.int .i64 r.1.seen) ∧ w.cell? ⟨b, o + 2, none⟩ = some (.int .i64 r.1.create) ∧ w.cell? ⟨b, o + 3, none⟩ = some (.int .i64 r.1.want) ∧ w.cell? ⟨b, o + 4, none⟩ = some (.int .i64 r.1.cool) ∧ w.cell? ⟨b, o + 5, none⟩ = some (.bool r.1.scale) ∧ w.cell? ⟨b, o + 6, none⟩ = some (.slice r.2.1 r.1.ends.length r.2.2) ∧ w.cell? ⟨b, o + 7, none⟩ = some (.bool r.1.drop)
theorem AcAt.below {N : Nat} {w w' : World} {b o : Nat} {r : ActR} (h : AcAt w b o r) (hb : Below N w w') (hB : b < N) : AcAt w' b o r := by
  unfold AcAt at *
  simp only [fun o => hb.cell (p := ⟨b, o, none⟩) hB]
  exact h
theorem AcAt.blk {w w' : World} {b o : Nat} {r : ActR} (h : AcAt w b o r) (hb : w'.heap[b]? = w.heap[b]?) : AcAt w' b o r := by
  unfold AcAt at *
  simp only [fun o => World.cell?_of_block (w := w) (w' := w') (a := ⟨b, o, none⟩) hb]
  exact h

/-- A slice of acts, and their ends. -/
def SlA (w : World) (ao : Option Addr) (R : List ActR) : Prop := R ≠ [] → ∃ b off, ao = some ⟨b, off, none⟩ ∧ b < w.heap.size ∧ ∀ i r, R[i]? = some r → AcAt w b (off + i * 8) r ∧ SlE w r.2.1 r.1.ends
theorem SlA.below {w w' : World} {ao : Option Addr} {R : List ActR} (h : SlA w ao R) (hb : Below w.heap.size w w') : SlA w' ao R := fun hn =>
  let ⟨b, off, e, hlt, hat⟩ := h hn
  ⟨b, off, e, Nat.lt_of_lt_of_le hlt hb.size, fun i r hr => ⟨(hat i r hr).1.below hb hlt, (hat i r hr).2.below hb⟩⟩

end Go.Proofs.YtbceafpodamnfabGreat

/-
  My own. Rows that a call has made for itself; 'append' onto them.
-/
namespace Go.Proofs.YtbceafpodamnfabGreat
open Go.RowKit

/-- At block g lie cap places of this size, of which the first n hold xs. -/
def RowIs (w : World) (e : TypeId) (size g n cap : Nat) (xs : List Value) : Prop :=
  xs.length = n * size ∧ n ≤ cap ∧ ∃ cur : Array Value, w.heap[g]? = some (.cells cur e (0, 0)) ∧ cur.size = cap * size ∧ cur.toList.take (n * size) = xs

theorem RowIs.lt {w : World} {e : TypeId} {size g n cap : Nat} {xs : List Value} (h : RowIs w e size g n cap xs) : g < w.heap.size := by
  obtain ⟨_, _, cur, hg, _⟩ := h
  exact (Array.getElem?_eq_some_iff.1 hg).1
theorem RowIs.blk {w w' : World} {e : TypeId} {size g n cap : Nat} {xs : List Value} (h : RowIs w e size g n cap xs) (hb : w'.heap[g]? = w.heap[g]?) : RowIs w' e size g n cap xs := by
  obtain ⟨h1, h2, cur, hg, r⟩ := h
  exact ⟨h1, h2, cur, hb.trans hg, r⟩
theorem RowIs.below {w w' : World} {e : TypeId} {size g n cap N : Nat} {xs : List Value} (h : RowIs w e size g n cap xs) (hb : Below N w w') (hN : g < N) : RowIs w' e size g n cap xs := h.blk (hb.block g hN)
theorem RowIs.grown {w w' : World} {e : TypeId} {size g n cap : Nat} {xs : List Value} {r : Option Nat} (h : RowIs w e size g n cap xs) (hb : w.grownBy w' r) (hr : some g ≠ r) : RowIs w' e size g n cap xs := h.blk (hb.block g h.lt hr)
theorem RowIs.cell {w : World} {e : TypeId} {size g n cap : Nat} {xs : List Value} (h : RowIs w e size g n cap xs) {j : Nat} {u : Value} (hu : xs[j]? = some u) : w.cell? ⟨g, j, none⟩ = some u := by
  obtain ⟨h1, h2, cur, hg, hs, ht⟩ := h
  rw [cell_row hg]
  rw [← ht, List.getElem?_take] at hu
  split at hu
  · exact hu
  · cases hu
theorem RowIs.new (w : World) (e : TypeId) (size : Nat) : RowIs (w.alloc (.cells #[] e)) e size w.heap.size 0 0 [] :=
  ⟨by simp, Nat.le_refl _, #[], heap_alloc_new w _, by simp, by simp⟩

theorem below_of_grown {w w' : World} {g N : Nat} (h : w.grownBy w' (some g)) (hN : N ≤ g) (hs : N ≤ w.heap.size) : Below N w w' :=
  ⟨h.os, h.tape, h.output, h.size, fun k hk => h.block k (by omega) (fun e => by have := Option.some.inj e; omega)⟩
theorem grown_refl (w : World) (r : Option Nat) : w.grownBy w r := ⟨rfl, rfl, rfl, Nat.le_refl _, fun _ _ _ => rfl⟩

/-- What a slice of just these cells holds. -/
theorem news_row {w : World} {b : Nat} {cs : Array Value} {t : TypeId} {fr : Nat × Nat} (h : w.heap[b]? = some (.cells cs t fr)) : ∀ j u, cs.toList[j]? = some u → w.cell? ((⟨b, 0, none⟩ : Addr).add j) = some u := fun j u hu => by
  rw [Addr.add_lit, cell_row h, Nat.zero_add]
  exact hu

section
variable {P : Program}

theorem run_append_row (w : World) (t ty e : TypeId) (z : Value) (size bytes : Nat) (ht : P.underlying t = some (.slice e)) (hinfo : (P.info? e).map (fun i => (i.zero, i.size, i.bytes)) = some (some z, size, bytes)) (hzs : z.cells.size = size)
    (g n cap : Nat) (xs : List Value) (hrow : RowIs w e size g n cap xs)
    (ad : Addr) (m c : Nat) (news : List Value) (hl : news.length = m * size) (hnews : ∀ j u, news[j]? = some u → w.cell? (ad.add j) = some u) (h1 : ∀ u ∈ news, u.oneCell' = true)
    (h63 : n + m ≤ maxLen) (hbytes : (n + m) * bytes ≤ 140737488355328) :
    ∃ g' cap' w', (Builtin.append_ #[t, t] ty #[.slice (some ⟨g, 0, none⟩) n cap, .slice (some ad) m c]).run P w = .ok (.slice (some ⟨g', 0, none⟩) (n + m) cap') w' ∧ (g' = g ∨ g' = w.heap.size) ∧
      RowIs w' e size g' (n + m) cap' (xs ++ news) ∧ w.grownBy w' (some g) := by
  obtain ⟨i, hi, hz, hs, hb⟩ := info_parts hinfo
  subst hs hb
  have hr0 := hrow
  obtain ⟨hx, hnc, cur, hg, hcs, htake⟩ := hrow
  have hlen : (xs ++ news).length = (n + m) * i.size := by rw [List.length_append, hx, hl, Nat.add_mul]
  have hsmall : n + m ≤ 9223372036854775807 := by simp only [maxLen] at h63; omega
  by_cases hroom : n + m ≤ cap
  · have hfit : n * i.size + news.length ≤ cur.size := by rw [hl, hcs, ← Nat.add_mul]; exact Nat.mul_le_mul_right _ hroom
    have hr := run_append_room (P := P) w t ty e i ht hi g n cap cur hg ad m c news hl hnews h1 hroom hfit
    refine ⟨g, cap, _, hr, .inl rfl, ⟨hlen, hroom, _, setRow_heap w g cur _ e _ hg, ?_, ?_⟩, ⟨rfl, rfl, rfl, by simp, fun k _ hk => setRow_other w g k _ (fun e => hk (by rw [e]))⟩⟩
    · simp only [List.size_toArray, List.length_append, List.length_take, List.length_drop, Array.length_toList]
      omega
    · rw [htake, ← hlen]
      exact List.take_left
  · have holds : ∀ j u, xs[j]? = some u → w.cell? ((⟨g, 0, none⟩ : Addr).add j) = some u := fun j u hu => by
      have := hr0.cell hu
      simpa [Addr.add_lit] using this
    have hr := run_append_grow (P := P) w t ty e i z ht hi hz ⟨g, 0, none⟩ n cap xs hx holds ad m c news hl hnews (by omega) (by omega) (growslice_fits (by omega) hbytes)
    have hge := grownCap_ge w (n + m) cap e
    refine ⟨w.heap.size, _, _, hr, .inr rfl, ⟨hlen, hge, _, heap_alloc_new w.drew _, ?_, ?_⟩, ⟨rfl, rfl, rfl, by simp, fun k hk _ => by show (w.heap.push _)[k]? = _; rw [Array.getElem?_push, if_neg (by omega)]⟩⟩
    · simp only [Array.size_append, List.size_toArray, size_zeroCells, hzs, hx, hl, ← Nat.add_mul]
      congr 1
      omega
    · simp only [Array.toList_append, List.append_assoc]
      rw [← List.append_assoc, ← hlen]
      exact List.take_left

theorem wpList_append_row {ops : Array Oper} {rest : List Oper} {o : Oper} {a : Act} {w : World} {Q : Exit → Act → World → Prop} (hgd : o.guard = none) (s x : Operand) (t : TypeId)
    (ho : o.op = .call { callee := .builtin .append, args := #[s, x], argTypes := #[t, t] })
    (e : TypeId) (z : Value) (size bytes : Nat) (ht : P.underlying t = some (.slice e)) (hinfo : (P.info? e).map (fun i => (i.zero, i.size, i.bytes)) = some (some z, size, bytes)) (hzs : z.cells.size = size)
    (g n cap : Nat) (xs : List Value) (hs : a.eval s = .slice (some ⟨g, 0, none⟩) n cap) (hrow : RowIs w e size g n cap xs)
    (ad : Addr) (m c : Nat) (news : List Value) (hx : a.eval x = .slice (some ad) m c) (hl : news.length = m * size) (hnews : ∀ j u, news[j]? = some u → w.cell? (ad.add j) = some u) (h1 : ∀ u ∈ news, u.oneCell' = true)
    (h63 : n + m ≤ maxLen) (hbytes : (n + m) * bytes ≤ 140737488355328)
    (h : ∀ g' cap' w', (g' = g ∨ g' = w.heap.size) → Hid (RowIs w' e size g' (n + m) cap' (xs ++ news)) → w.grownBy w' (some g) → wpList P ops Q rest (a.put o.dst (.slice (some ⟨g', 0, none⟩) (n + m) cap')) w') : wpList P ops Q (o :: rest) a w := by
  refine wpList_plain hgd fun K hK => ?_
  obtain ⟨g', cap', w', hr, h2, h3, h4⟩ := run_append_row (P := P) w t o.type e z size bytes ht hinfo hzs g n cap xs hrow ad m c news hl hnews h1 h63 hbytes
  unfold Oper.wp execOp
  simp only [ho, resolve, invoke, builtin, Sem.run_bind, Sem.run_pure, Result.andThen_ok, List.map_toArray, List.map_cons, List.map_nil, hs, hx, hr]
  exact hK _ _ (h g' cap' w' h2 h3 h4)
end

end Go.Proofs.YtbceafpodamnfabGreat

/-
  My own. Stores into rows: just one block turns.
-/
namespace Go.Proofs.YtbceafpodamnfabGreat
open Go.RowKit

section
variable {P : Program}

/-- Of all blocks just this one has turned. -/
structure Only (g : Nat) (w w' : World) : Prop where
  other : ∀ k, k ≠ g → w'.heap[k]? = w.heap[k]?
  below : Below g w w'
  size : w'.heap.size = w.heap.size

theorem only_setRow (w : World) (g : Nat) (cs : Array Value) : Only g w (w.setRow g cs) := ⟨fun k hk => setRow_block w g k cs hk, below_setRow' w g cs, setRow_size w g cs⟩

theorem run_storeVar_one (w : World) (g off : Nat) (t ty : TypeId) (cur : Array Value) (v : Value) (hg : w.heap[g]? = some (.cells cur t (0, 0))) (hi : (P.info? ty).map (·.size) = some 1) (hv : v.cells = #[v])
    (hfit : off + 1 ≤ cur.size) (h1 : v.oneCell' = true) :
    (storeVar ty ⟨g, off, none⟩ v).run P w = .ok () (w.setRow g (splice cur.toList off [v]).toArray) := by
  have := run_storeCells_at P g off t [v] 0 cur w hg (by simpa using hfit) (fun u hu => by simp at hu; subst hu; exact h1)
  cases hq : P.info? ty with
  | none => simp [hq] at hi
  | some i =>
    have hs : i.size = 1 := by simpa [hq] using hi
    simp only [Nat.add_zero, List.append_assoc] at this
    simp [storeVar, sizeOf, typeInfo, hq, hv, hs, this, splice]

/-- One cell stored into a row. Behind it the world is a variable. -/
theorem wpList_store_one {ops : Array Oper} {rest : List Oper} {o : Oper} {a : Act} {w : World} {Q : Exit → Act → World → Prop} (hgd : o.guard = none) (ty : TypeId) (x y : Operand) (ho : o.op = .store ty x y)
    (g off : Nat) (v : Value) (hx : a.eval x = .pointer (some ⟨g, off, none⟩)) (hy : a.eval y = v) (hi : (P.info? ty).map (·.size) = some 1) (hv : v.cells = #[v]) (h1 : v.oneCell' = true)
    (t : TypeId) (cur : Array Value) (hg : w.heap[g]? = some (.cells cur t (0, 0))) (hfit : off + 1 ≤ cur.size)
    (h : ∀ w', Hid (w'.heap[g]? = some (.cells (splice cur.toList off [v]).toArray t (0, 0))) → Only g w w' → wpList P ops Q rest (a.put o.dst undef) w') : wpList P ops Q (o :: rest) a w := by
  refine wpList_plain hgd fun K hK => ?_
  unfold Oper.wp execOp
  simp only [ho, hx, hy, Instr.storeAt, Instr.sureAddr, Sem.run_bind, Sem.run_pure, Result.andThen_ok, run_storeVar_one w g off t ty cur v hg hi hv hfit h1]
  exact hK _ _ (h _ (setRow_heap w g cur _ t _ hg) (only_setRow w g _))

/-- A struct stored into a row: just its block turns. -/
theorem wpList_store_only {ops : Array Oper} {rest : List Oper} {o : Oper} {a : Act} {w : World} {Q : Exit → Act → World → Prop} (hgd : o.guard = none) (ty : TypeId) (x y : Operand) (ho : o.op = .store ty x y)
    (g off : Nat) (cells : Array Value) (hx : a.eval x = .pointer (some ⟨g, off, none⟩)) (hy : a.eval y = .agg cells) (t : TypeId) (cur : Array Value) (hg : w.heap[g]? = some (.cells cur t (0, 0)))
    (hi : (P.info? ty).map (·.size) = some cells.size) (hfit : off + cells.size ≤ cur.size) (h1 : cells.all (·.oneCell') = true)
    (h : ∀ w', Hid (w'.heap[g]? = some (.cells (splice cur.toList off cells.toList).toArray t (0, 0))) → Only g w w' → wpList P ops Q rest (a.put o.dst undef) w') : wpList P ops Q (o :: rest) a w := by
  refine wpList_plain hgd fun K hK => ?_
  unfold Oper.wp execOp
  simp only [ho, hx, hy, Instr.storeAt, Instr.sureAddr, Sem.run_bind, Sem.run_pure, Result.andThen_ok, run_storeVar_at w g off t ty cur cells hg hi hfit h1]
  exact hK _ _ (h _ (setRow_heap w g cur _ t _ hg) (only_setRow w g _))
end

end Go.Proofs.YtbceafpodamnfabGreat

/-
  My own. What the stewards ask for, by the specification: drained berths; which copy ends sooner.
-/
namespace Go.Proofs.YtbceafpodamnfabGreat
open Go.RowKit Go.Sort

def drainsB (B : Bk) (c : Cp) : Bool := match B.bts.find? fun b => b.name.toList == c.berth.toList with
  | none => false
  | some b => b.drain

set_option maxHeartbeats 2000000 in
theorem l5Drains_any (B : Bk) (c : Cp) (a1 a2 a3 : Option Addr) (c1 c2 c3 : Nat) (w : World) (hS : B.small) (hB : BkAt w a1 a2 a3 B) :
    Calls Tryz.prog 92 #[.agg #[.int .i64 B.now, .slice a1 B.svcs.length c1, .slice a2 B.cps.length c2, .slice a3 B.bts.length c3], .agg #[.string c.service, .int .i64 c.number, .int .i64 c.version, .int .i64 c.image, .int .i64 c.state, .bool c.ending, .string c.berth]] w fun e w' => e = .returned (.bool (drainsB B c)) ∧ Below w.heap.size w w' := by
  have hbb : Below w.heap.size w ((w.alloc (.cells #[.int .i64 B.now, .slice a1 B.svcs.length c1, .slice a2 B.cps.length c2, .slice a3 B.bts.length c3] 34)).alloc (.cells #[.string c.service, .int .i64 c.number, .int .i64 c.version, .int .i64 c.image, .int .i64 c.state, .bool c.ending, .string c.berth] 88)) := ((Below.refl _ _).alloc (Nat.le_refl _) _).alloc (by simp) _
  obtain ⟨t0, t1, t2⟩ := two_new w (.cells #[.int .i64 B.now, .slice a1 B.svcs.length c1, .slice a2 B.cps.length c2, .slice a3 B.bts.length c3] 34) (.cells #[.string c.service, .int .i64 c.number, .int .i64 c.version, .int .i64 c.image, .int .i64 c.state, .bool c.ending, .string c.berth] 88)
  have T0 : Hid _ := t0
  have HS2 : Hid _ := t2
  clear t0 t1 t2
  obtain ⟨hl1, hl2, hl3⟩ := hS
  go_enter Tryz.func92, Tryz.ntmps92
  go_wp2_with fail
  refine (l1Berth_any B c.berth a1 a2 a3 c1 c2 c3 _ ⟨hl1, hl2, hl3⟩ (hB.below hbb).2.2).mono ?_
  rintro e w1 ⟨rfl, hb1⟩
  have hb2 := hbb.trans (hb1.mono hbb.size)
  rw [HS2.out] at hb1
  have T1 : Hid _ := below_blk hb1 T0.out (by omega)
  have e3 := blk_cell T1.out 3 rfl
  cases hf : B.bts.find? fun b => b.name.toList == c.berth.toList with
  | none =>
    have HI : Hid (idxB B.bts c.berth = -1) := idxOf_find_none hf
    have HO : Hid (drainsB B c = false) := by unfold Hid drainsB; rw [hf]
    rw [HI.out]
    clear hf
    go_wp2
    go_ret
    exact ⟨ret_bool HO.out.symm, hb2⟩
  | some b =>
    obtain ⟨i, hi, hidx⟩ : ∃ i : Nat, B.bts[i]? = some b ∧ idxB B.bts c.berth = (i : Int) := idxOf_find hf
    have HI : Hid _ := hidx
    have HO : Hid (drainsB B c = b.drain) := by unfold Hid drainsB; rw [hf]
    have hilt : i < B.bts.length := (List.getElem?_eq_some_iff.1 hi).1
    obtain ⟨bb, off, ea, hbs, hat⟩ := hB.2.2 (by intro h; rw [h] at hilt; simp at hilt)
    subst ea
    have hq := (hat i b hi).below hb2 hbs
    unfold BtAt at hq
    obtain ⟨q0, q1⟩ := hq
    rw [HI.out]
    clear hf hi hidx hat
    go_wp2
    go_ret
    exact ⟨ret_bool HO.out.symm, hb2⟩

def soonerB (B : Bk) (x y : Cp) (img : Int) : Bool :=
  if ((x.state != 3) != (y.state != 3)) then (x.state != 3) else if ((x.image != img) != (y.image != img)) then (x.image != img) else if (drainsB B x != drainsB B y) then drainsB B x else decide (y.number < x.number)

end Go.Proofs.YtbceafpodamnfabGreat
