/-
  My own: Sb.
-/
import Derived.Test.YtbceafpodamnfabGreatA21
import Derived.Test.YtbceafpodamnfabGreatA08
import Derived.Deep.DeepCutAuto
set_option linter.unusedVariables false
set_option linter.unusedSimpArgs false
/-
  My own. The program's stewards: rows of copies that are seen; which is to end ahead of which; acts.
-/
namespace Go.Proofs.YtbceafpodamnfabGreat
open Go.RowKit Go.Sort

theorem Tryz.infosActS : (Tryz.prog.info? 59).map (·.size) = some 8 := by kernel_rfl
theorem Tryz.infosSn : (Tryz.prog.info? 148).map (·.size) = some 9 := by kernel_rfl
theorem Tryz.infosSvcS : (Tryz.prog.info? 48).map (·.size) = some 13 := by kernel_rfl
theorem Tryz.infosSight : (Tryz.prog.info? 108).map (·.size) = some 20 := by kernel_rfl
theorem Tryz.infosIntS : (Tryz.prog.info? 3).map (·.size) = some 1 := by kernel_rfl
theorem Tryz.infosBoolS : (Tryz.prog.info? 4).map (·.size) = some 1 := by kernel_rfl
theorem Tryz.infosEndsS : (Tryz.prog.info? 57).map (·.size) = some 1 := by kernel_rfl
theorem Tryz.infosSnsS : (Tryz.prog.info? 106).map (·.size) = some 1 := by kernel_rfl

/-- Whether x is to end ahead of y. -/
def soonS (x y : Sn) : Bool :=
  if (x.c.state != 3) != (y.c.state != 3) then x.c.state != 3
  else if x.old != y.old then x.old
  else if x.drain != y.drain then x.drain
  else decide (y.c.number < x.c.number)
def cmpE (x y : Sn) : Int := orI [tfI (x.c.state != 3) (y.c.state != 3), tfI x.old y.old, tfI x.drain y.drain, cmpI y.c.number x.c.number]
theorem cmpE_neg (x y : Sn) : decide (cmpE x y < 0) = soonS x y := by
  unfold cmpE soonS
  generalize (x.c.state != 3) = a
  generalize (y.c.state != 3) = b
  generalize x.old = c
  generalize y.old = d
  generalize x.drain = e
  generalize y.drain = f
  cases a <;> cases b <;> cases c <;> cases d <;> cases e <;> cases f <;> simp [tfI, orI]
  all_goals
    unfold cmpI
    by_cases h1 : y.c.number < x.c.number
    · simp [h1]
    · by_cases h2 : x.c.number < y.c.number
      · simp [h1, h2]
      · simp [h1, h2]

set_option maxRecDepth 100000 in
set_option maxHeartbeats 8000000 in
theorem compareEnds_any (x y : Sn) (w : World) :
    Calls Tryz.prog 140 #[.agg #[.string x.c.service, .int .i64 x.c.number, .int .i64 x.c.version, .int .i64 x.c.image, .int .i64 x.c.state, .bool x.c.ending, .string x.c.berth, .bool x.old, .bool x.drain], .agg #[.string y.c.service, .int .i64 y.c.number, .int .i64 y.c.version, .int .i64 y.c.image, .int .i64 y.c.state, .bool y.c.ending, .string y.c.berth, .bool y.old, .bool y.drain]] w fun e w' => e = .returned (.int .i64 (cmpE x y)) ∧ Below w.heap.size w w' := by
  have hbb : Below w.heap.size w ((w.alloc (.cells #[.string x.c.service, .int .i64 x.c.number, .int .i64 x.c.version, .int .i64 x.c.image, .int .i64 x.c.state, .bool x.c.ending, .string x.c.berth, .bool x.old, .bool x.drain] 148)).alloc (.cells #[.string y.c.service, .int .i64 y.c.number, .int .i64 y.c.version, .int .i64 y.c.image, .int .i64 y.c.state, .bool y.c.ending, .string y.c.berth, .bool y.old, .bool y.drain] 148)) := ((Below.refl _ _).alloc (Nat.le_refl _) _).alloc (by simp) _
  obtain ⟨t0, t1, t2⟩ := two_new w (.cells #[.string x.c.service, .int .i64 x.c.number, .int .i64 x.c.version, .int .i64 x.c.image, .int .i64 x.c.state, .bool x.c.ending, .string x.c.berth, .bool x.old, .bool x.drain] 148) (.cells #[.string y.c.service, .int .i64 y.c.number, .int .i64 y.c.version, .int .i64 y.c.image, .int .i64 y.c.state, .bool y.c.ending, .string y.c.berth, .bool y.old, .bool y.drain] 148)
  have T0 : Hid _ := t0
  have T1 : Hid _ := t1
  have HS : Hid _ := t2
  clear t0 t1 t2
  go_enter Tryz.func140, Tryz.ntmps140
  go_wp2
  refine wp_region_grows 28 (by kernel_rfl) (by kernel_rfl) ?_
  apply grow_eq
  · intro V W K A hW hd hA hK
    simp only [putAll, List.getElem?_toArray, List.getElem?_cons_succ, List.getElem?_cons_zero, Option.bind_some, Act.put, List.setIfInBounds_toArray, List.set_cons_succ, List.set_cons_zero] at hA
    clear hd
    generalize V 0 = x0 at hA
    generalize V 1 = x1 at hA
    generalize V 2 = x2 at hA
    generalize V 3 = x3 at hA
    generalize V 4 = x4 at hA
    generalize V 5 = x5 at hA
    generalize V 6 = x6 at hA
    generalize V 7 = x7 at hA
    generalize V 8 = x8 at hA
    generalize V 9 = x9 at hA
    generalize V 10 = x10 at hA
    generalize V 11 = x11 at hA
    generalize V 12 = x12 at hA
    generalize V 13 = x13 at hA
    generalize V 14 = x14 at hA
    generalize V 15 = x15 at hA
    generalize V 16 = x16 at hA
    generalize V 17 = x17 at hA
    generalize V 18 = x18 at hA
    generalize V 19 = x19 at hA
    generalize V 20 = x20 at hA
    generalize V 21 = x21 at hA
    generalize V 22 = x22 at hA
    generalize V 23 = x23 at hA
    generalize V 24 = x24 at hA
    generalize V 25 = x25 at hA
    generalize V 26 = x26 at hA
    generalize V 27 = x27 at hA
    obtain rfl := hA
    go_wp2
    exact hK.out _ (Below.refl _ _)
  apply grow_eq
  · intro V W K A hW hd hA hK
    have d0 : V 0 = _ := hd 0 (by kernel_rfl)
    simp only [putAll, List.getElem?_toArray, List.getElem?_cons_succ, List.getElem?_cons_zero, Option.bind_some, Act.put, List.setIfInBounds_toArray, List.set_cons_succ, List.set_cons_zero] at hA
    clear hd
    generalize V 0 = x0 at d0 hA
    generalize V 1 = x1 at hA
    generalize V 2 = x2 at hA
    generalize V 3 = x3 at hA
    generalize V 4 = x4 at hA
    generalize V 5 = x5 at hA
    generalize V 6 = x6 at hA
    generalize V 7 = x7 at hA
    generalize V 8 = x8 at hA
    generalize V 9 = x9 at hA
    generalize V 10 = x10 at hA
    generalize V 11 = x11 at hA
    generalize V 12 = x12 at hA
    generalize V 13 = x13 at hA
    generalize V 14 = x14 at hA
    generalize V 15 = x15 at hA
    generalize V 16 = x16 at hA
    generalize V 17 = x17 at hA
    generalize V 18 = x18 at hA
    generalize V 19 = x19 at hA
    generalize V 20 = x20 at hA
    generalize V 21 = x21 at hA
    generalize V 22 = x22 at hA
    generalize V 23 = x23 at hA
    generalize V 24 = x24 at hA
    generalize V 25 = x25 at hA
    generalize V 26 = x26 at hA
    generalize V 27 = x27 at hA
    subst d0
    obtain rfl := hA
    go_wp2
    exact hK.out _ (Below.refl _ _)
  apply grow_eq
  · intro V W K A hW hd hA hK
    have d1 : V 1 = _ := hd 1 (by kernel_rfl)
    simp only [putAll, List.getElem?_toArray, List.getElem?_cons_succ, List.getElem?_cons_zero, Option.bind_some, Act.put, List.setIfInBounds_toArray, List.set_cons_succ, List.set_cons_zero] at hA
    clear hd
    generalize V 0 = x0 at hA
    generalize V 1 = x1 at d1 hA
    generalize V 2 = x2 at hA
    generalize V 3 = x3 at hA
    generalize V 4 = x4 at hA
    generalize V 5 = x5 at hA
    generalize V 6 = x6 at hA
    generalize V 7 = x7 at hA
    generalize V 8 = x8 at hA
    generalize V 9 = x9 at hA
    generalize V 10 = x10 at hA
    generalize V 11 = x11 at hA
    generalize V 12 = x12 at hA
    generalize V 13 = x13 at hA
    generalize V 14 = x14 at hA
    generalize V 15 = x15 at hA
    generalize V 16 = x16 at hA
    generalize V 17 = x17 at hA
    generalize V 18 = x18 at hA
    generalize V 19 = x19 at hA
    generalize V 20 = x20 at hA
    generalize V 21 = x21 at hA
    generalize V 22 = x22 at hA
    generalize V 23 = x23 at hA
    generalize V 24 = x24 at hA
    generalize V 25 = x25 at hA
    generalize V 26 = x26 at hA
    generalize V 27 = x27 at hA
    subst d1
    obtain rfl := hA
    have e4 := blk_cell (below_blk hW T0.out (by rw [HS.out]; omega)) 4 rfl
    go_wp2
    exact hK.out _ (Below.refl _ _)
  apply grow_eq
  · intro V W K A hW hd hA hK
    have d2 : V 2 = _ := hd 2 (by kernel_rfl)
    simp only [putAll, List.getElem?_toArray, List.getElem?_cons_succ, List.getElem?_cons_zero, Option.bind_some, Act.put, List.setIfInBounds_toArray, List.set_cons_succ, List.set_cons_zero] at hA
    clear hd
    generalize V 0 = x0 at hA
    generalize V 1 = x1 at hA
    generalize V 2 = x2 at d2 hA
    generalize V 3 = x3 at hA
    generalize V 4 = x4 at hA
    generalize V 5 = x5 at hA
    generalize V 6 = x6 at hA
    generalize V 7 = x7 at hA
    generalize V 8 = x8 at hA
    generalize V 9 = x9 at hA
    generalize V 10 = x10 at hA
    generalize V 11 = x11 at hA
    generalize V 12 = x12 at hA
    generalize V 13 = x13 at hA
    generalize V 14 = x14 at hA
    generalize V 15 = x15 at hA
    generalize V 16 = x16 at hA
    generalize V 17 = x17 at hA
    generalize V 18 = x18 at hA
    generalize V 19 = x19 at hA
    generalize V 20 = x20 at hA
    generalize V 21 = x21 at hA
    generalize V 22 = x22 at hA
    generalize V 23 = x23 at hA
    generalize V 24 = x24 at hA
    generalize V 25 = x25 at hA
    generalize V 26 = x26 at hA
    generalize V 27 = x27 at hA
    subst d2
    obtain rfl := hA
    go_wp2
    exact hK.out _ (Below.refl _ _)
  apply grow_eq
  · intro V W K A hW hd hA hK
    simp only [putAll, List.getElem?_toArray, List.getElem?_cons_succ, List.getElem?_cons_zero, Option.bind_some, Act.put, List.setIfInBounds_toArray, List.set_cons_succ, List.set_cons_zero] at hA
    clear hd
    generalize V 0 = x0 at hA
    generalize V 1 = x1 at hA
    generalize V 2 = x2 at hA
    generalize V 3 = x3 at hA
    generalize V 4 = x4 at hA
    generalize V 5 = x5 at hA
    generalize V 6 = x6 at hA
    generalize V 7 = x7 at hA
    generalize V 8 = x8 at hA
    generalize V 9 = x9 at hA
    generalize V 10 = x10 at hA
    generalize V 11 = x11 at hA
    generalize V 12 = x12 at hA
    generalize V 13 = x13 at hA
    generalize V 14 = x14 at hA
    generalize V 15 = x15 at hA
    generalize V 16 = x16 at hA
    generalize V 17 = x17 at hA
    generalize V 18 = x18 at hA
    generalize V 19 = x19 at hA
    generalize V 20 = x20 at hA
    generalize V 21 = x21 at hA
    generalize V 22 = x22 at hA
    generalize V 23 = x23 at hA
    generalize V 24 = x24 at hA
    generalize V 25 = x25 at hA
    generalize V 26 = x26 at hA
    generalize V 27 = x27 at hA
    obtain rfl := hA
    go_wp2
    exact hK.out _ (Below.refl _ _)
  apply grow_eq
  · intro V W K A hW hd hA hK
    have d4 : V 4 = _ := hd 4 (by kernel_rfl)
    simp only [putAll, List.getElem?_toArray, List.getElem?_cons_succ, List.getElem?_cons_zero, Option.bind_some, Act.put, List.setIfInBounds_toArray, List.set_cons_succ, List.set_cons_zero] at hA
    clear hd
    generalize V 0 = x0 at hA
    generalize V 1 = x1 at hA
    generalize V 2 = x2 at hA
    generalize V 3 = x3 at hA
    generalize V 4 = x4 at d4 hA
    generalize V 5 = x5 at hA
    generalize V 6 = x6 at hA
    generalize V 7 = x7 at hA
    generalize V 8 = x8 at hA
    generalize V 9 = x9 at hA
    generalize V 10 = x10 at hA
    generalize V 11 = x11 at hA
    generalize V 12 = x12 at hA
    generalize V 13 = x13 at hA
    generalize V 14 = x14 at hA
    generalize V 15 = x15 at hA
    generalize V 16 = x16 at hA
    generalize V 17 = x17 at hA
    generalize V 18 = x18 at hA
    generalize V 19 = x19 at hA
    generalize V 20 = x20 at hA
    generalize V 21 = x21 at hA
    generalize V 22 = x22 at hA
    generalize V 23 = x23 at hA
    generalize V 24 = x24 at hA
    generalize V 25 = x25 at hA
    generalize V 26 = x26 at hA
    generalize V 27 = x27 at hA
    subst d4
    obtain rfl := hA
    go_wp2
    exact hK.out _ (Below.refl _ _)
  apply grow_eq
  · intro V W K A hW hd hA hK
    have d5 : V 5 = _ := hd 5 (by kernel_rfl)
    simp only [putAll, List.getElem?_toArray, List.getElem?_cons_succ, List.getElem?_cons_zero, Option.bind_some, Act.put, List.setIfInBounds_toArray, List.set_cons_succ, List.set_cons_zero] at hA
    clear hd
    generalize V 0 = x0 at hA
    generalize V 1 = x1 at hA
    generalize V 2 = x2 at hA
    generalize V 3 = x3 at hA
    generalize V 4 = x4 at hA
    generalize V 5 = x5 at d5 hA
    generalize V 6 = x6 at hA
    generalize V 7 = x7 at hA
    generalize V 8 = x8 at hA
    generalize V 9 = x9 at hA
    generalize V 10 = x10 at hA
    generalize V 11 = x11 at hA
    generalize V 12 = x12 at hA
    generalize V 13 = x13 at hA
    generalize V 14 = x14 at hA
    generalize V 15 = x15 at hA
    generalize V 16 = x16 at hA
    generalize V 17 = x17 at hA
    generalize V 18 = x18 at hA
    generalize V 19 = x19 at hA
    generalize V 20 = x20 at hA
    generalize V 21 = x21 at hA
    generalize V 22 = x22 at hA
    generalize V 23 = x23 at hA
    generalize V 24 = x24 at hA
    generalize V 25 = x25 at hA
    generalize V 26 = x26 at hA
    generalize V 27 = x27 at hA
    subst d5
    obtain rfl := hA
    have e4 := blk_cell (below_blk hW T1.out (by rw [HS.out]; omega)) 4 rfl
    go_wp2
    exact hK.out _ (Below.refl _ _)
  apply grow_eq
  · intro V W K A hW hd hA hK
    have d6 : V 6 = _ := hd 6 (by kernel_rfl)
    simp only [putAll, List.getElem?_toArray, List.getElem?_cons_succ, List.getElem?_cons_zero, Option.bind_some, Act.put, List.setIfInBounds_toArray, List.set_cons_succ, List.set_cons_zero] at hA
    clear hd
    generalize V 0 = x0 at hA
    generalize V 1 = x1 at hA
    generalize V 2 = x2 at hA
    generalize V 3 = x3 at hA
    generalize V 4 = x4 at hA
    generalize V 5 = x5 at hA
    generalize V 6 = x6 at d6 hA
    generalize V 7 = x7 at hA
    generalize V 8 = x8 at hA
    generalize V 9 = x9 at hA
    generalize V 10 = x10 at hA
    generalize V 11 = x11 at hA
    generalize V 12 = x12 at hA
    generalize V 13 = x13 at hA
    generalize V 14 = x14 at hA
    generalize V 15 = x15 at hA
    generalize V 16 = x16 at hA
    generalize V 17 = x17 at hA
    generalize V 18 = x18 at hA
    generalize V 19 = x19 at hA
    generalize V 20 = x20 at hA
    generalize V 21 = x21 at hA
    generalize V 22 = x22 at hA
    generalize V 23 = x23 at hA
    generalize V 24 = x24 at hA
    generalize V 25 = x25 at hA
    generalize V 26 = x26 at hA
    generalize V 27 = x27 at hA
    subst d6
    obtain rfl := hA
    go_wp2
    exact hK.out _ (Below.refl _ _)
  apply grow_eq
  · intro V W K A hW hd hA hK
    have d3 : V 3 = _ := hd 3 (by kernel_rfl)
    have d7 : V 7 = _ := hd 7 (by kernel_rfl)
    simp only [putAll, List.getElem?_toArray, List.getElem?_cons_succ, List.getElem?_cons_zero, Option.bind_some, Act.put, List.setIfInBounds_toArray, List.set_cons_succ, List.set_cons_zero] at hA
    clear hd
    generalize V 0 = x0 at hA
    generalize V 1 = x1 at hA
    generalize V 2 = x2 at hA
    generalize V 3 = x3 at d3 hA
    generalize V 4 = x4 at hA
    generalize V 5 = x5 at hA
    generalize V 6 = x6 at hA
    generalize V 7 = x7 at d7 hA
    generalize V 8 = x8 at hA
    generalize V 9 = x9 at hA
    generalize V 10 = x10 at hA
    generalize V 11 = x11 at hA
    generalize V 12 = x12 at hA
    generalize V 13 = x13 at hA
    generalize V 14 = x14 at hA
    generalize V 15 = x15 at hA
    generalize V 16 = x16 at hA
    generalize V 17 = x17 at hA
    generalize V 18 = x18 at hA
    generalize V 19 = x19 at hA
    generalize V 20 = x20 at hA
    generalize V 21 = x21 at hA
    generalize V 22 = x22 at hA
    generalize V 23 = x23 at hA
    generalize V 24 = x24 at hA
    generalize V 25 = x25 at hA
    generalize V 26 = x26 at hA
    generalize V 27 = x27 at hA
    subst d3
    subst d7
    obtain rfl := hA
    go_wp2_with fail
    refine (trueFirst_any _ _ _).mono ?_
    rintro e w3 ⟨rfl, rfl⟩
    go_wp2
    exact hK.out _ (Below.refl _ _)
  apply grow_eq
  · intro V W K A hW hd hA hK
    simp only [putAll, List.getElem?_toArray, List.getElem?_cons_succ, List.getElem?_cons_zero, Option.bind_some, Act.put, List.setIfInBounds_toArray, List.set_cons_succ, List.set_cons_zero] at hA
    clear hd
    generalize V 0 = x0 at hA
    generalize V 1 = x1 at hA
    generalize V 2 = x2 at hA
    generalize V 3 = x3 at hA
    generalize V 4 = x4 at hA
    generalize V 5 = x5 at hA
    generalize V 6 = x6 at hA
    generalize V 7 = x7 at hA
    generalize V 8 = x8 at hA
    generalize V 9 = x9 at hA
    generalize V 10 = x10 at hA
    generalize V 11 = x11 at hA
    generalize V 12 = x12 at hA
    generalize V 13 = x13 at hA
    generalize V 14 = x14 at hA
    generalize V 15 = x15 at hA
    generalize V 16 = x16 at hA
    generalize V 17 = x17 at hA
    generalize V 18 = x18 at hA
    generalize V 19 = x19 at hA
    generalize V 20 = x20 at hA
    generalize V 21 = x21 at hA
    generalize V 22 = x22 at hA
    generalize V 23 = x23 at hA
    generalize V 24 = x24 at hA
    generalize V 25 = x25 at hA
    generalize V 26 = x26 at hA
    generalize V 27 = x27 at hA
    obtain rfl := hA
    go_wp2
    exact hK.out _ (Below.refl _ _)
  apply grow_eq
  · intro V W K A hW hd hA hK
    have d9 : V 9 = _ := hd 9 (by kernel_rfl)
    simp only [putAll, List.getElem?_toArray, List.getElem?_cons_succ, List.getElem?_cons_zero, Option.bind_some, Act.put, List.setIfInBounds_toArray, List.set_cons_succ, List.set_cons_zero] at hA
    clear hd
    generalize V 0 = x0 at hA
    generalize V 1 = x1 at hA
    generalize V 2 = x2 at hA
    generalize V 3 = x3 at hA
    generalize V 4 = x4 at hA
    generalize V 5 = x5 at hA
    generalize V 6 = x6 at hA
    generalize V 7 = x7 at hA
    generalize V 8 = x8 at hA
    generalize V 9 = x9 at d9 hA
    generalize V 10 = x10 at hA
    generalize V 11 = x11 at hA
    generalize V 12 = x12 at hA
    generalize V 13 = x13 at hA
    generalize V 14 = x14 at hA
    generalize V 15 = x15 at hA
    generalize V 16 = x16 at hA
    generalize V 17 = x17 at hA
    generalize V 18 = x18 at hA
    generalize V 19 = x19 at hA
    generalize V 20 = x20 at hA
    generalize V 21 = x21 at hA
    generalize V 22 = x22 at hA
    generalize V 23 = x23 at hA
    generalize V 24 = x24 at hA
    generalize V 25 = x25 at hA
    generalize V 26 = x26 at hA
    generalize V 27 = x27 at hA
    subst d9
    obtain rfl := hA
    have e7 := blk_cell (below_blk hW T0.out (by rw [HS.out]; omega)) 7 rfl
    go_wp2
    exact hK.out _ (Below.refl _ _)
  apply grow_eq
  · intro V W K A hW hd hA hK
    simp only [putAll, List.getElem?_toArray, List.getElem?_cons_succ, List.getElem?_cons_zero, Option.bind_some, Act.put, List.setIfInBounds_toArray, List.set_cons_succ, List.set_cons_zero] at hA
    clear hd
    generalize V 0 = x0 at hA
    generalize V 1 = x1 at hA
    generalize V 2 = x2 at hA
    generalize V 3 = x3 at hA
    generalize V 4 = x4 at hA
    generalize V 5 = x5 at hA
    generalize V 6 = x6 at hA
    generalize V 7 = x7 at hA
    generalize V 8 = x8 at hA
    generalize V 9 = x9 at hA
    generalize V 10 = x10 at hA
    generalize V 11 = x11 at hA
    generalize V 12 = x12 at hA
    generalize V 13 = x13 at hA
    generalize V 14 = x14 at hA
    generalize V 15 = x15 at hA
    generalize V 16 = x16 at hA
    generalize V 17 = x17 at hA
    generalize V 18 = x18 at hA
    generalize V 19 = x19 at hA
    generalize V 20 = x20 at hA
    generalize V 21 = x21 at hA
    generalize V 22 = x22 at hA
    generalize V 23 = x23 at hA
    generalize V 24 = x24 at hA
    generalize V 25 = x25 at hA
    generalize V 26 = x26 at hA
    generalize V 27 = x27 at hA
    obtain rfl := hA
    go_wp2
    exact hK.out _ (Below.refl _ _)
  apply grow_eq
  · intro V W K A hW hd hA hK
    have d11 : V 11 = _ := hd 11 (by kernel_rfl)
    simp only [putAll, List.getElem?_toArray, List.getElem?_cons_succ, List.getElem?_cons_zero, Option.bind_some, Act.put, List.setIfInBounds_toArray, List.set_cons_succ, List.set_cons_zero] at hA
    clear hd
    generalize V 0 = x0 at hA
    generalize V 1 = x1 at hA
    generalize V 2 = x2 at hA
    generalize V 3 = x3 at hA
    generalize V 4 = x4 at hA
    generalize V 5 = x5 at hA
    generalize V 6 = x6 at hA
    generalize V 7 = x7 at hA
    generalize V 8 = x8 at hA
    generalize V 9 = x9 at hA
    generalize V 10 = x10 at hA
    generalize V 11 = x11 at d11 hA
    generalize V 12 = x12 at hA
    generalize V 13 = x13 at hA
    generalize V 14 = x14 at hA
    generalize V 15 = x15 at hA
    generalize V 16 = x16 at hA
    generalize V 17 = x17 at hA
    generalize V 18 = x18 at hA
    generalize V 19 = x19 at hA
    generalize V 20 = x20 at hA
    generalize V 21 = x21 at hA
    generalize V 22 = x22 at hA
    generalize V 23 = x23 at hA
    generalize V 24 = x24 at hA
    generalize V 25 = x25 at hA
    generalize V 26 = x26 at hA
    generalize V 27 = x27 at hA
    subst d11
    obtain rfl := hA
    have e7 := blk_cell (below_blk hW T1.out (by rw [HS.out]; omega)) 7 rfl
    go_wp2
    exact hK.out _ (Below.refl _ _)
  apply grow_eq
  · intro V W K A hW hd hA hK
    have d10 : V 10 = _ := hd 10 (by kernel_rfl)
    have d12 : V 12 = _ := hd 12 (by kernel_rfl)
    simp only [putAll, List.getElem?_toArray, List.getElem?_cons_succ, List.getElem?_cons_zero, Option.bind_some, Act.put, List.setIfInBounds_toArray, List.set_cons_succ, List.set_cons_zero] at hA
    clear hd
    generalize V 0 = x0 at hA
    generalize V 1 = x1 at hA
    generalize V 2 = x2 at hA
    generalize V 3 = x3 at hA
    generalize V 4 = x4 at hA
    generalize V 5 = x5 at hA
    generalize V 6 = x6 at hA
    generalize V 7 = x7 at hA
    generalize V 8 = x8 at hA
    generalize V 9 = x9 at hA
    generalize V 10 = x10 at d10 hA
    generalize V 11 = x11 at hA
    generalize V 12 = x12 at d12 hA
    generalize V 13 = x13 at hA
    generalize V 14 = x14 at hA
    generalize V 15 = x15 at hA
    generalize V 16 = x16 at hA
    generalize V 17 = x17 at hA
    generalize V 18 = x18 at hA
    generalize V 19 = x19 at hA
    generalize V 20 = x20 at hA
    generalize V 21 = x21 at hA
    generalize V 22 = x22 at hA
    generalize V 23 = x23 at hA
    generalize V 24 = x24 at hA
    generalize V 25 = x25 at hA
    generalize V 26 = x26 at hA
    generalize V 27 = x27 at hA
    subst d10
    subst d12
    obtain rfl := hA
    go_wp2_with fail
    refine (trueFirst_any _ _ _).mono ?_
    rintro e w3 ⟨rfl, rfl⟩
    go_wp2
    exact hK.out _ (Below.refl _ _)
  apply grow_eq
  · intro V W K A hW hd hA hK
    simp only [putAll, List.getElem?_toArray, List.getElem?_cons_succ, List.getElem?_cons_zero, Option.bind_some, Act.put, List.setIfInBounds_toArray, List.set_cons_succ, List.set_cons_zero] at hA
    clear hd
    generalize V 0 = x0 at hA
    generalize V 1 = x1 at hA
    generalize V 2 = x2 at hA
    generalize V 3 = x3 at hA
    generalize V 4 = x4 at hA
    generalize V 5 = x5 at hA
    generalize V 6 = x6 at hA
    generalize V 7 = x7 at hA
    generalize V 8 = x8 at hA
    generalize V 9 = x9 at hA
    generalize V 10 = x10 at hA
    generalize V 11 = x11 at hA
    generalize V 12 = x12 at hA
    generalize V 13 = x13 at hA
    generalize V 14 = x14 at hA
    generalize V 15 = x15 at hA
    generalize V 16 = x16 at hA
    generalize V 17 = x17 at hA
    generalize V 18 = x18 at hA
    generalize V 19 = x19 at hA
    generalize V 20 = x20 at hA
    generalize V 21 = x21 at hA
    generalize V 22 = x22 at hA
    generalize V 23 = x23 at hA
    generalize V 24 = x24 at hA
    generalize V 25 = x25 at hA
    generalize V 26 = x26 at hA
    generalize V 27 = x27 at hA
    obtain rfl := hA
    go_wp2
    exact hK.out _ (Below.refl _ _)
  apply grow_eq
  · intro V W K A hW hd hA hK
    have d14 : V 14 = _ := hd 14 (by kernel_rfl)
    simp only [putAll, List.getElem?_toArray, List.getElem?_cons_succ, List.getElem?_cons_zero, Option.bind_some, Act.put, List.setIfInBounds_toArray, List.set_cons_succ, List.set_cons_zero] at hA
    clear hd
    generalize V 0 = x0 at hA
    generalize V 1 = x1 at hA
    generalize V 2 = x2 at hA
    generalize V 3 = x3 at hA
    generalize V 4 = x4 at hA
    generalize V 5 = x5 at hA
    generalize V 6 = x6 at hA
    generalize V 7 = x7 at hA
    generalize V 8 = x8 at hA
    generalize V 9 = x9 at hA
    generalize V 10 = x10 at hA
    generalize V 11 = x11 at hA
    generalize V 12 = x12 at hA
    generalize V 13 = x13 at hA
    generalize V 14 = x14 at d14 hA
    generalize V 15 = x15 at hA
    generalize V 16 = x16 at hA
    generalize V 17 = x17 at hA
    generalize V 18 = x18 at hA
    generalize V 19 = x19 at hA
    generalize V 20 = x20 at hA
    generalize V 21 = x21 at hA
    generalize V 22 = x22 at hA
    generalize V 23 = x23 at hA
    generalize V 24 = x24 at hA
    generalize V 25 = x25 at hA
    generalize V 26 = x26 at hA
    generalize V 27 = x27 at hA
    subst d14
    obtain rfl := hA
    have e8 := blk_cell (below_blk hW T0.out (by rw [HS.out]; omega)) 8 rfl
    go_wp2
    exact hK.out _ (Below.refl _ _)
  apply grow_eq
  · intro V W K A hW hd hA hK
    simp only [putAll, List.getElem?_toArray, List.getElem?_cons_succ, List.getElem?_cons_zero, Option.bind_some, Act.put, List.setIfInBounds_toArray, List.set_cons_succ, List.set_cons_zero] at hA
    clear hd
    generalize V 0 = x0 at hA
    generalize V 1 = x1 at hA
    generalize V 2 = x2 at hA
    generalize V 3 = x3 at hA
    generalize V 4 = x4 at hA
    generalize V 5 = x5 at hA
    generalize V 6 = x6 at hA
    generalize V 7 = x7 at hA
    generalize V 8 = x8 at hA
    generalize V 9 = x9 at hA
    generalize V 10 = x10 at hA
    generalize V 11 = x11 at hA
    generalize V 12 = x12 at hA
    generalize V 13 = x13 at hA
    generalize V 14 = x14 at hA
    generalize V 15 = x15 at hA
    generalize V 16 = x16 at hA
    generalize V 17 = x17 at hA
    generalize V 18 = x18 at hA
    generalize V 19 = x19 at hA
    generalize V 20 = x20 at hA
    generalize V 21 = x21 at hA
    generalize V 22 = x22 at hA
    generalize V 23 = x23 at hA
    generalize V 24 = x24 at hA
    generalize V 25 = x25 at hA
    generalize V 26 = x26 at hA
    generalize V 27 = x27 at hA
    obtain rfl := hA
    go_wp2
    exact hK.out _ (Below.refl _ _)
  apply grow_eq
  · intro V W K A hW hd hA hK
    have d16 : V 16 = _ := hd 16 (by kernel_rfl)
    simp only [putAll, List.getElem?_toArray, List.getElem?_cons_succ, List.getElem?_cons_zero, Option.bind_some, Act.put, List.setIfInBounds_toArray, List.set_cons_succ, List.set_cons_zero] at hA
    clear hd
    generalize V 0 = x0 at hA
    generalize V 1 = x1 at hA
    generalize V 2 = x2 at hA
    generalize V 3 = x3 at hA
    generalize V 4 = x4 at hA
    generalize V 5 = x5 at hA
    generalize V 6 = x6 at hA
    generalize V 7 = x7 at hA
    generalize V 8 = x8 at hA
    generalize V 9 = x9 at hA
    generalize V 10 = x10 at hA
    generalize V 11 = x11 at hA
    generalize V 12 = x12 at hA
    generalize V 13 = x13 at hA
    generalize V 14 = x14 at hA
    generalize V 15 = x15 at hA
    generalize V 16 = x16 at d16 hA
    generalize V 17 = x17 at hA
    generalize V 18 = x18 at hA
    generalize V 19 = x19 at hA
    generalize V 20 = x20 at hA
    generalize V 21 = x21 at hA
    generalize V 22 = x22 at hA
    generalize V 23 = x23 at hA
    generalize V 24 = x24 at hA
    generalize V 25 = x25 at hA
    generalize V 26 = x26 at hA
    generalize V 27 = x27 at hA
    subst d16
    obtain rfl := hA
    have e8 := blk_cell (below_blk hW T1.out (by rw [HS.out]; omega)) 8 rfl
    go_wp2
    exact hK.out _ (Below.refl _ _)
  apply grow_eq
  · intro V W K A hW hd hA hK
    have d15 : V 15 = _ := hd 15 (by kernel_rfl)
    have d17 : V 17 = _ := hd 17 (by kernel_rfl)
    simp only [putAll, List.getElem?_toArray, List.getElem?_cons_succ, List.getElem?_cons_zero, Option.bind_some, Act.put, List.setIfInBounds_toArray, List.set_cons_succ, List.set_cons_zero] at hA
    clear hd
    generalize V 0 = x0 at hA
    generalize V 1 = x1 at hA
    generalize V 2 = x2 at hA
    generalize V 3 = x3 at hA
    generalize V 4 = x4 at hA
    generalize V 5 = x5 at hA
    generalize V 6 = x6 at hA
    generalize V 7 = x7 at hA
    generalize V 8 = x8 at hA
    generalize V 9 = x9 at hA
    generalize V 10 = x10 at hA
    generalize V 11 = x11 at hA
    generalize V 12 = x12 at hA
    generalize V 13 = x13 at hA
    generalize V 14 = x14 at hA
    generalize V 15 = x15 at d15 hA
    generalize V 16 = x16 at hA
    generalize V 17 = x17 at d17 hA
    generalize V 18 = x18 at hA
    generalize V 19 = x19 at hA
    generalize V 20 = x20 at hA
    generalize V 21 = x21 at hA
    generalize V 22 = x22 at hA
    generalize V 23 = x23 at hA
    generalize V 24 = x24 at hA
    generalize V 25 = x25 at hA
    generalize V 26 = x26 at hA
    generalize V 27 = x27 at hA
    subst d15
    subst d17
    obtain rfl := hA
    go_wp2_with fail
    refine (trueFirst_any _ _ _).mono ?_
    rintro e w3 ⟨rfl, rfl⟩
    go_wp2
    exact hK.out _ (Below.refl _ _)
  apply grow_eq
  · intro V W K A hW hd hA hK
    simp only [putAll, List.getElem?_toArray, List.getElem?_cons_succ, List.getElem?_cons_zero, Option.bind_some, Act.put, List.setIfInBounds_toArray, List.set_cons_succ, List.set_cons_zero] at hA
    clear hd
    generalize V 0 = x0 at hA
    generalize V 1 = x1 at hA
    generalize V 2 = x2 at hA
    generalize V 3 = x3 at hA
    generalize V 4 = x4 at hA
    generalize V 5 = x5 at hA
    generalize V 6 = x6 at hA
    generalize V 7 = x7 at hA
    generalize V 8 = x8 at hA
    generalize V 9 = x9 at hA
    generalize V 10 = x10 at hA
    generalize V 11 = x11 at hA
    generalize V 12 = x12 at hA
    generalize V 13 = x13 at hA
    generalize V 14 = x14 at hA
    generalize V 15 = x15 at hA
    generalize V 16 = x16 at hA
    generalize V 17 = x17 at hA
    generalize V 18 = x18 at hA
    generalize V 19 = x19 at hA
    generalize V 20 = x20 at hA
    generalize V 21 = x21 at hA
    generalize V 22 = x22 at hA
    generalize V 23 = x23 at hA
    generalize V 24 = x24 at hA
    generalize V 25 = x25 at hA
    generalize V 26 = x26 at hA
    generalize V 27 = x27 at hA
    obtain rfl := hA
    go_wp2
    exact hK.out _ (Below.refl _ _)
  apply grow_eq
  · intro V W K A hW hd hA hK
    have d19 : V 19 = _ := hd 19 (by kernel_rfl)
    simp only [putAll, List.getElem?_toArray, List.getElem?_cons_succ, List.getElem?_cons_zero, Option.bind_some, Act.put, List.setIfInBounds_toArray, List.set_cons_succ, List.set_cons_zero] at hA
    clear hd
    generalize V 0 = x0 at hA
    generalize V 1 = x1 at hA
    generalize V 2 = x2 at hA
    generalize V 3 = x3 at hA
    generalize V 4 = x4 at hA
    generalize V 5 = x5 at hA
    generalize V 6 = x6 at hA
    generalize V 7 = x7 at hA
    generalize V 8 = x8 at hA
    generalize V 9 = x9 at hA
    generalize V 10 = x10 at hA
    generalize V 11 = x11 at hA
    generalize V 12 = x12 at hA
    generalize V 13 = x13 at hA
    generalize V 14 = x14 at hA
    generalize V 15 = x15 at hA
    generalize V 16 = x16 at hA
    generalize V 17 = x17 at hA
    generalize V 18 = x18 at hA
    generalize V 19 = x19 at d19 hA
    generalize V 20 = x20 at hA
    generalize V 21 = x21 at hA
    generalize V 22 = x22 at hA
    generalize V 23 = x23 at hA
    generalize V 24 = x24 at hA
    generalize V 25 = x25 at hA
    generalize V 26 = x26 at hA
    generalize V 27 = x27 at hA
    subst d19
    obtain rfl := hA
    go_wp2
    exact hK.out _ (Below.refl _ _)
  apply grow_eq
  · intro V W K A hW hd hA hK
    have d20 : V 20 = _ := hd 20 (by kernel_rfl)
    simp only [putAll, List.getElem?_toArray, List.getElem?_cons_succ, List.getElem?_cons_zero, Option.bind_some, Act.put, List.setIfInBounds_toArray, List.set_cons_succ, List.set_cons_zero] at hA
    clear hd
    generalize V 0 = x0 at hA
    generalize V 1 = x1 at hA
    generalize V 2 = x2 at hA
    generalize V 3 = x3 at hA
    generalize V 4 = x4 at hA
    generalize V 5 = x5 at hA
    generalize V 6 = x6 at hA
    generalize V 7 = x7 at hA
    generalize V 8 = x8 at hA
    generalize V 9 = x9 at hA
    generalize V 10 = x10 at hA
    generalize V 11 = x11 at hA
    generalize V 12 = x12 at hA
    generalize V 13 = x13 at hA
    generalize V 14 = x14 at hA
    generalize V 15 = x15 at hA
    generalize V 16 = x16 at hA
    generalize V 17 = x17 at hA
    generalize V 18 = x18 at hA
    generalize V 19 = x19 at hA
    generalize V 20 = x20 at d20 hA
    generalize V 21 = x21 at hA
    generalize V 22 = x22 at hA
    generalize V 23 = x23 at hA
    generalize V 24 = x24 at hA
    generalize V 25 = x25 at hA
    generalize V 26 = x26 at hA
    generalize V 27 = x27 at hA
    subst d20
    obtain rfl := hA
    have e1 := blk_cell (below_blk hW T1.out (by rw [HS.out]; omega)) 1 rfl
    go_wp2
    exact hK.out _ (Below.refl _ _)
  apply grow_eq
  · intro V W K A hW hd hA hK
    simp only [putAll, List.getElem?_toArray, List.getElem?_cons_succ, List.getElem?_cons_zero, Option.bind_some, Act.put, List.setIfInBounds_toArray, List.set_cons_succ, List.set_cons_zero] at hA
    clear hd
    generalize V 0 = x0 at hA
    generalize V 1 = x1 at hA
    generalize V 2 = x2 at hA
    generalize V 3 = x3 at hA
    generalize V 4 = x4 at hA
    generalize V 5 = x5 at hA
    generalize V 6 = x6 at hA
    generalize V 7 = x7 at hA
    generalize V 8 = x8 at hA
    generalize V 9 = x9 at hA
    generalize V 10 = x10 at hA
    generalize V 11 = x11 at hA
    generalize V 12 = x12 at hA
    generalize V 13 = x13 at hA
    generalize V 14 = x14 at hA
    generalize V 15 = x15 at hA
    generalize V 16 = x16 at hA
    generalize V 17 = x17 at hA
    generalize V 18 = x18 at hA
    generalize V 19 = x19 at hA
    generalize V 20 = x20 at hA
    generalize V 21 = x21 at hA
    generalize V 22 = x22 at hA
    generalize V 23 = x23 at hA
    generalize V 24 = x24 at hA
    generalize V 25 = x25 at hA
    generalize V 26 = x26 at hA
    generalize V 27 = x27 at hA
    obtain rfl := hA
    go_wp2
    exact hK.out _ (Below.refl _ _)
  apply grow_eq
  · intro V W K A hW hd hA hK
    have d22 : V 22 = _ := hd 22 (by kernel_rfl)
    simp only [putAll, List.getElem?_toArray, List.getElem?_cons_succ, List.getElem?_cons_zero, Option.bind_some, Act.put, List.setIfInBounds_toArray, List.set_cons_succ, List.set_cons_zero] at hA
    clear hd
    generalize V 0 = x0 at hA
    generalize V 1 = x1 at hA
    generalize V 2 = x2 at hA
    generalize V 3 = x3 at hA
    generalize V 4 = x4 at hA
    generalize V 5 = x5 at hA
    generalize V 6 = x6 at hA
    generalize V 7 = x7 at hA
    generalize V 8 = x8 at hA
    generalize V 9 = x9 at hA
    generalize V 10 = x10 at hA
    generalize V 11 = x11 at hA
    generalize V 12 = x12 at hA
    generalize V 13 = x13 at hA
    generalize V 14 = x14 at hA
    generalize V 15 = x15 at hA
    generalize V 16 = x16 at hA
    generalize V 17 = x17 at hA
    generalize V 18 = x18 at hA
    generalize V 19 = x19 at hA
    generalize V 20 = x20 at hA
    generalize V 21 = x21 at hA
    generalize V 22 = x22 at d22 hA
    generalize V 23 = x23 at hA
    generalize V 24 = x24 at hA
    generalize V 25 = x25 at hA
    generalize V 26 = x26 at hA
    generalize V 27 = x27 at hA
    subst d22
    obtain rfl := hA
    go_wp2
    exact hK.out _ (Below.refl _ _)
  apply grow_eq
  · intro V W K A hW hd hA hK
    have d23 : V 23 = _ := hd 23 (by kernel_rfl)
    simp only [putAll, List.getElem?_toArray, List.getElem?_cons_succ, List.getElem?_cons_zero, Option.bind_some, Act.put, List.setIfInBounds_toArray, List.set_cons_succ, List.set_cons_zero] at hA
    clear hd
    generalize V 0 = x0 at hA
    generalize V 1 = x1 at hA
    generalize V 2 = x2 at hA
    generalize V 3 = x3 at hA
    generalize V 4 = x4 at hA
    generalize V 5 = x5 at hA
    generalize V 6 = x6 at hA
    generalize V 7 = x7 at hA
    generalize V 8 = x8 at hA
    generalize V 9 = x9 at hA
    generalize V 10 = x10 at hA
    generalize V 11 = x11 at hA
    generalize V 12 = x12 at hA
    generalize V 13 = x13 at hA
    generalize V 14 = x14 at hA
    generalize V 15 = x15 at hA
    generalize V 16 = x16 at hA
    generalize V 17 = x17 at hA
    generalize V 18 = x18 at hA
    generalize V 19 = x19 at hA
    generalize V 20 = x20 at hA
    generalize V 21 = x21 at hA
    generalize V 22 = x22 at hA
    generalize V 23 = x23 at d23 hA
    generalize V 24 = x24 at hA
    generalize V 25 = x25 at hA
    generalize V 26 = x26 at hA
    generalize V 27 = x27 at hA
    subst d23
    obtain rfl := hA
    have e1 := blk_cell (below_blk hW T0.out (by rw [HS.out]; omega)) 1 rfl
    go_wp2
    exact hK.out _ (Below.refl _ _)
  apply grow_eq
  · intro V W K A hW hd hA hK
    have d21 : V 21 = _ := hd 21 (by kernel_rfl)
    have d24 : V 24 = _ := hd 24 (by kernel_rfl)
    simp only [putAll, List.getElem?_toArray, List.getElem?_cons_succ, List.getElem?_cons_zero, Option.bind_some, Act.put, List.setIfInBounds_toArray, List.set_cons_succ, List.set_cons_zero] at hA
    clear hd
    generalize V 0 = x0 at hA
    generalize V 1 = x1 at hA
    generalize V 2 = x2 at hA
    generalize V 3 = x3 at hA
    generalize V 4 = x4 at hA
    generalize V 5 = x5 at hA
    generalize V 6 = x6 at hA
    generalize V 7 = x7 at hA
    generalize V 8 = x8 at hA
    generalize V 9 = x9 at hA
    generalize V 10 = x10 at hA
    generalize V 11 = x11 at hA
    generalize V 12 = x12 at hA
    generalize V 13 = x13 at hA
    generalize V 14 = x14 at hA
    generalize V 15 = x15 at hA
    generalize V 16 = x16 at hA
    generalize V 17 = x17 at hA
    generalize V 18 = x18 at hA
    generalize V 19 = x19 at hA
    generalize V 20 = x20 at hA
    generalize V 21 = x21 at d21 hA
    generalize V 22 = x22 at hA
    generalize V 23 = x23 at hA
    generalize V 24 = x24 at d24 hA
    generalize V 25 = x25 at hA
    generalize V 26 = x26 at hA
    generalize V 27 = x27 at hA
    subst d21
    subst d24
    obtain rfl := hA
    go_wp2_with fail
    refine (compare_any _ _ _).mono ?_
    rintro e w3 ⟨rfl, rfl⟩
    go_wp2
    exact hK.out _ (Below.refl _ _)
  refine grow_op (fun v W => ∃ p, v = .slice (some ⟨p, 0, none⟩) 4 4 ∧ W.heap[p]? = some (.cells #[.int .i64 (tfI (x.c.state != 3) (y.c.state != 3)), .int .i64 (tfI x.old y.old), .int .i64 (tfI x.drain y.drain), .int .i64 (cmpI y.c.number x.c.number)] 3 (0, 0))) (fun v W W2 ⟨p, h1, h3⟩ hb => ⟨p, h1, below_blk hb h3 (Array.getElem?_eq_some_iff.1 h3).1⟩) ?_ ?_
  · intro V W K A hW hd hA hK
    have d8 : V 8 = _ := hd 8 (by kernel_rfl)
    have d13 : V 13 = _ := hd 13 (by kernel_rfl)
    have d18 : V 18 = _ := hd 18 (by kernel_rfl)
    have d25 : V 25 = _ := hd 25 (by kernel_rfl)
    simp only [putAll, List.getElem?_toArray, List.getElem?_cons_succ, List.getElem?_cons_zero, Option.bind_some, Act.put, List.setIfInBounds_toArray, List.set_cons_succ, List.set_cons_zero] at hA
    clear hd
    generalize V 0 = x0 at hA
    generalize V 1 = x1 at hA
    generalize V 2 = x2 at hA
    generalize V 3 = x3 at hA
    generalize V 4 = x4 at hA
    generalize V 5 = x5 at hA
    generalize V 6 = x6 at hA
    generalize V 7 = x7 at hA
    generalize V 8 = x8 at d8 hA
    generalize V 9 = x9 at hA
    generalize V 10 = x10 at hA
    generalize V 11 = x11 at hA
    generalize V 12 = x12 at hA
    generalize V 13 = x13 at d13 hA
    generalize V 14 = x14 at hA
    generalize V 15 = x15 at hA
    generalize V 16 = x16 at hA
    generalize V 17 = x17 at hA
    generalize V 18 = x18 at d18 hA
    generalize V 19 = x19 at hA
    generalize V 20 = x20 at hA
    generalize V 21 = x21 at hA
    generalize V 22 = x22 at hA
    generalize V 23 = x23 at hA
    generalize V 24 = x24 at hA
    generalize V 25 = x25 at d25 hA
    generalize V 26 = x26 at hA
    generalize V 27 = x27 at hA
    subst d8
    subst d13
    subst d18
    subst d25
    obtain rfl := hA
    go_wp2
    exact hK.out _ _ (below_box W _) ⟨_, rfl, heap_alloc_new W _⟩
  apply grow_eq
  · intro V W K A hW hd hA hK
    have d26 : (fun v W => ∃ p, v = .slice (some ⟨p, 0, none⟩) 4 4 ∧ W.heap[p]? = some (.cells #[.int .i64 (tfI (x.c.state != 3) (y.c.state != 3)), .int .i64 (tfI x.old y.old), .int .i64 (tfI x.drain y.drain), .int .i64 (cmpI y.c.number x.c.number)] 3 (0, 0))) (V 26) W := hd 26 (by kernel_rfl)
    simp only [putAll, List.getElem?_toArray, List.getElem?_cons_succ, List.getElem?_cons_zero, Option.bind_some, Act.put, List.setIfInBounds_toArray, List.set_cons_succ, List.set_cons_zero] at hA
    clear hd
    generalize V 0 = x0 at hA
    generalize V 1 = x1 at hA
    generalize V 2 = x2 at hA
    generalize V 3 = x3 at hA
    generalize V 4 = x4 at hA
    generalize V 5 = x5 at hA
    generalize V 6 = x6 at hA
    generalize V 7 = x7 at hA
    generalize V 8 = x8 at hA
    generalize V 9 = x9 at hA
    generalize V 10 = x10 at hA
    generalize V 11 = x11 at hA
    generalize V 12 = x12 at hA
    generalize V 13 = x13 at hA
    generalize V 14 = x14 at hA
    generalize V 15 = x15 at hA
    generalize V 16 = x16 at hA
    generalize V 17 = x17 at hA
    generalize V 18 = x18 at hA
    generalize V 19 = x19 at hA
    generalize V 20 = x20 at hA
    generalize V 21 = x21 at hA
    generalize V 22 = x22 at hA
    generalize V 23 = x23 at hA
    generalize V 24 = x24 at hA
    generalize V 25 = x25 at hA
    generalize V 26 = x26 at d26 hA
    generalize V 27 = x27 at hA
    obtain rfl := hA
    obtain ⟨p, rfl, hp⟩ := d26
    have HP : Hid _ := hp
    clear hp
    go_wp2_with fail
    refine (or_any [tfI (x.c.state != 3) (y.c.state != 3), tfI x.old y.old, tfI x.drain y.drain, cmpI y.c.number x.c.number] p _ (by simp) (fun i z hz => ?_)).mono ?_
    · rw [cell_row HP.out]
      match i, hz with
      | 0, hz => cases hz; rfl
      | 1, hz => cases hz; rfl
      | 2, hz => cases hz; rfl
      | 3, hz => cases hz; rfl
      | i + 4, hz => simp at hz
    rintro e w3 ⟨rfl, rfl⟩
    go_wp2
    exact hK.out _ (Below.refl _ _)
  intro V W A hW hS hA
  have d0 : V 0 = _ := hS 0 (by omega)
  have d1 : V 1 = _ := hS 1 (by omega)
  have d2 : V 2 = _ := hS 2 (by omega)
  have d3 : V 3 = _ := hS 3 (by omega)
  have d4 : V 4 = _ := hS 4 (by omega)
  have d5 : V 5 = _ := hS 5 (by omega)
  have d6 : V 6 = _ := hS 6 (by omega)
  have d7 : V 7 = _ := hS 7 (by omega)
  have d8 : V 8 = _ := hS 8 (by omega)
  have d9 : V 9 = _ := hS 9 (by omega)
  have d10 : V 10 = _ := hS 10 (by omega)
  have d11 : V 11 = _ := hS 11 (by omega)
  have d12 : V 12 = _ := hS 12 (by omega)
  have d13 : V 13 = _ := hS 13 (by omega)
  have d14 : V 14 = _ := hS 14 (by omega)
  have d15 : V 15 = _ := hS 15 (by omega)
  have d16 : V 16 = _ := hS 16 (by omega)
  have d17 : V 17 = _ := hS 17 (by omega)
  have d18 : V 18 = _ := hS 18 (by omega)
  have d19 : V 19 = _ := hS 19 (by omega)
  have d20 : V 20 = _ := hS 20 (by omega)
  have d21 : V 21 = _ := hS 21 (by omega)
  have d22 : V 22 = _ := hS 22 (by omega)
  have d23 : V 23 = _ := hS 23 (by omega)
  have d24 : V 24 = _ := hS 24 (by omega)
  have d25 : V 25 = _ := hS 25 (by omega)
  have d26 : (fun v W => ∃ p, v = .slice (some ⟨p, 0, none⟩) 4 4 ∧ W.heap[p]? = some (.cells #[.int .i64 (tfI (x.c.state != 3) (y.c.state != 3)), .int .i64 (tfI x.old y.old), .int .i64 (tfI x.drain y.drain), .int .i64 (cmpI y.c.number x.c.number)] 3 (0, 0))) (V 26) W := hS 26 (by omega)
  have d27 : V 27 = _ := hS 27 (by omega)
  simp only [putAll, List.getElem?_toArray, List.getElem?_cons_succ, List.getElem?_cons_zero, Option.bind_some, Act.put, List.setIfInBounds_toArray, List.set_cons_succ, List.set_cons_zero] at hA
  clear hS
  generalize V 0 = x0 at d0 hA
  generalize V 1 = x1 at d1 hA
  generalize V 2 = x2 at d2 hA
  generalize V 3 = x3 at d3 hA
  generalize V 4 = x4 at d4 hA
  generalize V 5 = x5 at d5 hA
  generalize V 6 = x6 at d6 hA
  generalize V 7 = x7 at d7 hA
  generalize V 8 = x8 at d8 hA
  generalize V 9 = x9 at d9 hA
  generalize V 10 = x10 at d10 hA
  generalize V 11 = x11 at d11 hA
  generalize V 12 = x12 at d12 hA
  generalize V 13 = x13 at d13 hA
  generalize V 14 = x14 at d14 hA
  generalize V 15 = x15 at d15 hA
  generalize V 16 = x16 at d16 hA
  generalize V 17 = x17 at d17 hA
  generalize V 18 = x18 at d18 hA
  generalize V 19 = x19 at d19 hA
  generalize V 20 = x20 at d20 hA
  generalize V 21 = x21 at d21 hA
  generalize V 22 = x22 at d22 hA
  generalize V 23 = x23 at d23 hA
  generalize V 24 = x24 at d24 hA
  generalize V 25 = x25 at d25 hA
  generalize V 26 = x26 at d26 hA
  generalize V 27 = x27 at d27 hA
  subst d0
  subst d1
  subst d2
  subst d3
  subst d4
  subst d5
  subst d6
  subst d7
  subst d8
  subst d9
  subst d10
  subst d11
  subst d12
  subst d13
  subst d14
  subst d15
  subst d16
  subst d17
  subst d18
  subst d19
  subst d20
  subst d21
  subst d22
  subst d23
  subst d24
  subst d25
  subst d27
  obtain rfl := hA
  simp only [List.drop_succ_cons, List.drop_zero]
  go_wp2
  go_ret
  exact ⟨rfl, hbb.trans (hW.mono hbb.size)⟩

def Sn.cells (x : Sn) : List Value := (#[.string x.c.service, .int .i64 x.c.number, .int .i64 x.c.version, .int .i64 x.c.image, .int .i64 x.c.state, .bool x.c.ending, .string x.c.berth, .bool x.old, .bool x.drain] : Array Value).toList
def snsV (l : List Sn) : List Value := l.flatMap Sn.cells
theorem snsV_len (l : List Sn) : (snsV l).length = l.length * 9 := by
  induction l with
  | nil => rfl
  | cons x l ih => unfold snsV at *; rw [List.flatMap_cons, List.length_append, ih, List.length_cons]; simp [Sn.cells]; omega
theorem snsV_add (l : List Sn) (x : Sn) : snsV (l ++ [x]) = snsV l ++ x.cells := by simp [snsV]
theorem snsV_at : ∀ (l : List Sn) (j : Nat) (x : Sn), l[j]? = some x → ∀ i, i < 9 → (snsV l)[j * 9 + i]? = x.cells[i]?
  | [], _, _, h => by simp at h
  | y :: l, 0, x, h => fun i hi => by
    simp at h; subst h
    rw [Nat.zero_mul, Nat.zero_add]
    unfold snsV
    rw [List.flatMap_cons, List.getElem?_append_left (by simp [Sn.cells]; omega)]
  | y :: l, j + 1, x, h => fun i hi => by
    have := snsV_at l j x (by simpa using h) i hi
    have hl : y.cells.length = 9 := by simp [Sn.cells]
    have e : snsV (y :: l) = y.cells ++ snsV l := rfl
    rw [e, List.getElem?_append_right (by rw [hl]; omega), hl, show (j + 1) * 9 + i - 9 = j * 9 + i by omega]
    exact this
theorem one_Sn (x : Sn) : (#[.string x.c.service, .int .i64 x.c.number, .int .i64 x.c.version, .int .i64 x.c.image, .int .i64 x.c.state, .bool x.c.ending, .string x.c.berth, .bool x.old, .bool x.drain] : Array Value).all (·.oneCell') = true := by simp [Value.oneCell']

def SnAt (w : World) (b o : Nat) (x : Sn) : Prop := w.cell? ⟨b, o, none⟩ = some (.string x.c.service) ∧ w.cell? ⟨b, o + 1, none⟩ = some (.int .i64 x.c.number) ∧ w.cell? ⟨b, o + 2, none⟩ = some (.int .i64 x.c.version) ∧ w.cell? ⟨b, o + 3, none⟩ = some (.int .i64 x.c.image) ∧ w.cell? ⟨b, o + 4, none⟩ = some (.int .i64 x.c.state) ∧ w.cell? ⟨b, o + 5, none⟩ = some (.bool x.c.ending) ∧ w.cell? ⟨b, o + 6, none⟩ = some (.string x.c.berth) ∧ w.cell? ⟨b, o + 7, none⟩ = some (.bool x.old) ∧ w.cell? ⟨b, o + 8, none⟩ = some (.bool x.drain)
theorem SnAt.below {N : Nat} {w w' : World} {b o : Nat} {x : Sn} (h : SnAt w b o x) (hb : Below N w w') (hB : b < N) : SnAt w' b o x := by
  unfold SnAt at *
  simp only [fun o => hb.cell (p := ⟨b, o, none⟩) hB]
  exact h

/-- A slice of copies that are seen, in a row of its own from block lo on, or nil. -/
def OwnSn (lo : Nat) (w : World) (al : Option Addr) (cl : Nat) (l : List Sn) : Prop := w.ownsRow lo 148 9 (.slice al l.length cl) l.length (snsV l)
/-- The same for ends. -/
def OwnEn (lo : Nat) (w : World) (al : Option Addr) (cl : Nat) (l : List En) : Prop := w.ownsRow lo 118 2 (.slice al l.length cl) l.length (l.flatMap En.cells)

theorem two_newW (w : World) (A B : Obj) : ∃ W0, (w.alloc A).alloc B = W0 ∧ W0.heap[w.heap.size]? = some A ∧ W0.heap[w.heap.size + 1]? = some B ∧ w.heap.size + 1 + 1 ≤ W0.heap.size ∧ W0.heap.size ≤ w.heap.size + 1 + 1 ∧ Below w.heap.size w W0 := by
  obtain ⟨t0, t1, t2⟩ := two_new w A B
  exact ⟨_, rfl, t0, t1, by rw [t2]; exact Nat.le_refl _, by rw [t2]; exact Nat.le_refl _, ((Below.refl _ _).alloc (Nat.le_refl _) _).alloc (by simp) _⟩

theorem own_below {w w' : World} {lo N : Nat} {e : TypeId} {size : Nat} {v : Value} {n : Nat} {xs : List Value} (h : w.ownsRow lo e size v n xs) (hb : Below N w w') (hN : w.heap.size ≤ N) : w'.ownsRow lo e size v n xs := by
  obtain ⟨h1, h2⟩ := h
  refine ⟨h1, ?_⟩
  rcases h2 with h2 | ⟨g, cap, cur, r1, r2, r3, r4⟩
  · exact .inl h2
  · have hlt : g < w.heap.size := (Array.getElem?_eq_some_iff.1 r3).1
    exact .inr ⟨g, cap, cur, r1, r2, (hb.block g (by omega)).trans r3, r4⟩
theorem own_blk {w w' : World} {lo : Nat} {e : TypeId} {size : Nat} {v : Value} {n : Nat} {xs : List Value} (h : w.ownsRow lo e size v n xs) (hb : ∀ g, lo ≤ g → g < w.heap.size → w'.heap[g]? = w.heap[g]?) : w'.ownsRow lo e size v n xs := by
  obtain ⟨h1, h2⟩ := h
  refine ⟨h1, ?_⟩
  rcases h2 with h2 | ⟨g, cap, cur, r1, r2, r3, r4⟩
  · exact .inl h2
  · exact .inr ⟨g, cap, cur, r1, r2, (hb g r2 (Array.getElem?_eq_some_iff.1 r3).1).trans r3, r4⟩
theorem own_mono {w : World} {lo lo' : Nat} {e : TypeId} {size : Nat} {v : Value} {n : Nat} {xs : List Value} (h : w.ownsRow lo e size v n xs) (hl : lo' ≤ lo) : w.ownsRow lo' e size v n xs := by
  obtain ⟨h1, h2⟩ := h
  refine ⟨h1, ?_⟩
  rcases h2 with h2 | ⟨g, cap, cur, r1, r2, r⟩
  · exact .inl h2
  · exact .inr ⟨g, cap, cur, r1, Nat.le_trans hl r2, r⟩

theorem OwnSn.at {lo : Nat} {w : World} {al : Option Addr} {cl : Nat} {l : List Sn} (h : OwnSn lo w al cl l) {k : Nat} {x : Sn} (hx : l[k]? = some x) : ∃ g, al = some ⟨g, 0, none⟩ ∧ lo ≤ g ∧ g < w.heap.size ∧ SnAt w g (k * 9) x := by
  have hk := (List.getElem?_eq_some_iff.1 hx).1
  have h0 := h
  rcases h.2 with ⟨_, h2⟩ | ⟨g, cap, cur, r1, r2, r3, r4⟩
  · omega
  · have e : al = some ⟨g, 0, none⟩ := by cases r1; rfl
    subst e
    have hc := World.ownsRow.cells h0 (g := g) rfl
    refine ⟨g, rfl, r2, (Array.getElem?_eq_some_iff.1 r3).1, ?_⟩
    have hv : ∀ (i : Nat) (u : Value), i < 9 → x.cells[i]? = some u → w.cell? ⟨g, k * 9 + i, none⟩ = some u := fun i u hi hu => by
      have := hc (k * 9 + i) u ((snsV_at l k x hx i hi).trans hu)
      rw [Addr.add_lit, Nat.zero_add] at this
      exact this
    unfold SnAt
    exact ⟨hv 0 _ (by omega) rfl, hv 1 _ (by omega) rfl, hv 2 _ (by omega) rfl, hv 3 _ (by omega) rfl, hv 4 _ (by omega) rfl, hv 5 _ (by omega) rfl, hv 6 _ (by omega) rfl, hv 7 _ (by omega) rfl, hv 8 _ (by omega) rfl⟩

end Go.Proofs.YtbceafpodamnfabGreat
