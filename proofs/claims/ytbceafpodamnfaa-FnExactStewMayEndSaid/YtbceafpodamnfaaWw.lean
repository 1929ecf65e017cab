/-
  My own. The law on StewValid: its walk.
-/
import Derived.Test.YtbceafpodamnfaaWl
import Derived.Test.YtbceafpodamnfaaWv
import Derived.Deep.RegionWith
namespace Go.Proofs.Ytbceafpodamnfaa
open Go.RowKit Go.Sort

theorem BkAt.drew {w : World} {a1 a2 a3 : Option Addr} {B : Bk} (h : BkAt w a1 a2 a3 B) : BkAt w.drew a1 a2 a3 B := h.below ((Below.refl _ _).drew)

set_option maxHeartbeats 4000000 in
theorem lawValid_any (B : Bk) (a1 a2 a3 : Option Addr) (c1 c2 c3 : Nat) (w : World) (hZ : B.sized) (hB : BkAt w a1 a2 a3 B) :
    Calls Try.prog 4 #[.agg #[.int .i64 B.now, .slice a1 B.svcs.length c1, .slice a2 B.cps.length c2, .slice a3 B.bts.length c3]] w fun e w' => e = .returned (.bool true) ∧ Below w.heap.size w w' := by
  have hb0 := below_box w (.cells #[.int .i64 B.now, .slice a1 B.svcs.length c1, .slice a2 B.cps.length c2, .slice a3 B.bts.length c3] 44)
  have T0 : Hid _ := heap_alloc_new w (.cells #[.int .i64 B.now, .slice a1 B.svcs.length c1, .slice a2 B.cps.length c2, .slice a3 B.bts.length c3] 44)
  have HS0 : Hid ((w.alloc (.cells #[.int .i64 B.now, .slice a1 B.svcs.length c1, .slice a2 B.cps.length c2, .slice a3 B.bts.length c3] 44)).heap.size = w.heap.size + 1) := by show (w.heap.push _).size = _; simp
  go_enter Try.func4, Try.ntmps4
  go_wp2_with fail
  refine (szBook_any B a1 a2 a3 c1 c2 c3 1048576 _ (by omega) (by omega) (hB.below hb0) hZ).mono ?_
  rintro e w1 ⟨r, rfl, hr0, hr1, hsm, hb1⟩
  have hbb1 := hb0.trans (hb1.mono hb0.size)
  have T1 : Hid _ := below_blk hb1 T0.out (by rw [HS0.out]; omega)
  have hz1 : w.heap.size < w1.heap.size := by have := hb1.size; rw [HS0.out] at this; omega
  have hB1 := hB.below hbb1
  clear hb1 hb0 T0 HS0
  by_cases hneg : r < 0
  · go_wp2
    go_ret
    exact ⟨rfl, hbb1⟩
  have hS : B.small := hsm.out (by omega)
  clear hsm
  have e0 := blk_cell T1.out 0 rfl
  have e1 := blk_cell T1.out 1 rfl
  have e2 := blk_cell T1.out 2 rfl
  have e3 := blk_cell T1.out 3 rfl
  go_wp2_with fail
  clear e0 e1 e2 e3 hneg hr0 hr1
  refine (toBook_any B a1 a2 a3 c1 c2 c3 _ hB1 hS).mono ?_
  rintro e w2 ⟨x1, x2, x3, rfl, hX, hb2⟩
  go_wp2_with fail
  refine (specValid_any B x1 x2 x3 _ _ _ _ hS hZ hX).mono ?_
  rintro e w3 ⟨rfl, hb3⟩
  have hbb3 := hb2.trans (hb3.mono hb2.size)
  have T3 : Hid _ := below_blk hbb3 T1.out hz1
  have hB3 := hB1.below hbb3
  have hbw3 := hbb1.trans (hbb3.mono hbb1.size)
  have hz3 : w.heap.size < w3.heap.size := Nat.lt_of_lt_of_le hz1 hbb3.size
  clear hX hb2 hb3 hbb3 T1 hbb1 hB1 hz1
  have e0 := blk_cell T3.out 0 rfl
  have e1 := blk_cell T3.out 1 rfl
  have e2 := blk_cell T3.out 2 rfl
  have e3 := blk_cell T3.out 3 rfl
  go_wp2_with fail
  clear e0 e1 e2 e3
  refine (toBook_any B a1 a2 a3 c1 c2 c3 _ hB3 hS).mono ?_
  rintro e w4 ⟨y1, y2, y3, rfl, hY, hb4⟩
  have hbw4 := hbw3.trans (hb4.mono hbw3.size)
  have T4 : Hid _ := below_blk hb4 T3.out hz3
  have hz4 : w.heap.size < w4.heap.size := Nat.lt_of_lt_of_le hz3 hb4.size
  have hB4 := hB3.below hb4
  clear hb4 hbw3 T3 hz3 hB3
  have hb5 := below_box w4 (.cells #[.int .i64 B.now, .slice y1 B.svcs.length B.svcs.length, .slice y2 B.cps.length B.cps.length, .slice y3 B.bts.length B.bts.length] 27)
  have U5 : Hid _ := heap_alloc_new w4 (.cells #[.int .i64 B.now, .slice y1 B.svcs.length B.svcs.length, .slice y2 B.cps.length B.cps.length, .slice y3 B.bts.length B.bts.length] 27)
  have HS5 : Hid ((w4.alloc (.cells #[.int .i64 B.now, .slice y1 B.svcs.length B.svcs.length, .slice y2 B.cps.length B.cps.length, .slice y3 B.bts.length B.bts.length] 27)).heap.size = w4.heap.size + 1) := by show (w4.heap.push _).size = _; simp
  go_wp2_with fail
  refine (implValid_any B y1 y2 y3 _ _ _ _ hS hZ (hY.below hb5)).mono ?_
  rintro e w6 ⟨rfl, hb6⟩
  have hbb6 := hb5.trans (hb6.mono hb5.size)
  have hbw6 := hbw4.trans (hbb6.mono hbw4.size)
  have T6 : Hid _ := below_blk hbb6 T4.out hz4
  have U6 : Hid _ := below_blk hb6 U5.out (by rw [HS5.out]; omega)
  have hzM : w4.heap.size < w6.heap.size := by have := hb6.size; rw [HS5.out] at this; omega
  have hzN : w.heap.size < w6.heap.size := by omega
  have hB6 := (hB4.below hbb6).drew
  have hY6 := (hY.below hbb6).drew
  clear hb5 hb6 hbb6 hbw4 T4 U5 HS5 hB4 hY hB
  have e0 := blk_cell T6.out 0 rfl
  have e1 := blk_cell T6.out 1 rfl
  have e2 := blk_cell T6.out 2 rfl
  have e3 := blk_cell T6.out 3 rfl
  have u0 := blk_cell U6.out 0 rfl
  have u1 := blk_cell U6.out 1 rfl
  have u2 := blk_cell U6.out 2 rfl
  have u3 := blk_cell U6.out 3 rfl
  generalize validB B = v
  have hvv : (v != v) = false := by simp
  go_wp2
  go_region_with (first
    | (go_at_call 15; refine (toBook_any B a1 a2 a3 c1 c2 c3 _ hB6 hS).mono ?_; rintro e w7 ⟨x1, x2, x3, rfl, hX7, hb7⟩; have hc7 : ∀ o, w7.cell? ⟨w4.heap.size, o, none⟩ = w6.cell? ⟨w4.heap.size, o, none⟩ := fun o => hb7.cell (p := ⟨w4.heap.size, o, none⟩) hzM; have hB7 := hY6.below hb7)
    | (go_at_call 17; refine (eqBook_same B y1 y2 y3 x1 x2 x3 _ _ _ _ _ _ _ hS hB7 hX7).mono ?_; rintro e w8 ⟨rfl, hb8⟩))
  all_goals
    go_wp2
    go_ret
    exact ⟨rfl, (hbw6.drew.trans (hb7.mono hbw6.size)).trans (hb8.mono (Nat.le_trans hbw6.size hb7.size))⟩

end Go.Proofs.Ytbceafpodamnfaa
