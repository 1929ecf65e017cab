/-
  My own. The law on StewCountOf: its walk.
-/
import Derived.Test.YtbceafpodamnfaaWw
import Derived.Test.YtbceafpodamnfaaYf
import Derived.Test.YtbceafpodamnfaaYa
namespace Go.Proofs.Ytbceafpodamnfaa
open Go.RowKit Go.Sort

theorem specCountOf_lit (B : Bk) (sv : ByteArray) (a1 a2 a3 : Option Addr) (c1 c2 c3 : Nat) (w : World) (hS : B.small) (hZ : B.sized) (hB : BkAt w a1 a2 a3 B) (n : Cnt) (hn : Hid (cntOf B sv = n)) :
    Calls Try.prog 11 #[.agg #[.int .i64 B.now, .slice a1 B.svcs.length c1, .slice a2 B.cps.length c2, .slice a3 B.bts.length c3], .string sv] w fun e w' => e = .returned (.agg #[.int .i64 n.live, .int .i64 n.ready, .int .i64 n.old, .int .i64 n.failed, .int .i64 n.ending]) ∧ Below w.heap.size w w' :=
  (specCountOf_any B sv a1 a2 a3 c1 c2 c3 w hS hZ hB).mono fun e w' ⟨he, hb⟩ => ⟨by rw [he, hn.out]; rfl, hb⟩
theorem implCountOf_lit (B : Bk) (sv : ByteArray) (a1 a2 a3 : Option Addr) (c1 c2 c3 : Nat) (w : World) (HK : Hid (B.cps.length ≤ c2)) (hsv : sv.size ≤ maxLen) (hS : B.small) (hZ : B.sized) (hB : BkAt w a1 a2 a3 B) (n : Cnt) (hn : Hid (cntOf B sv = n)) :
    Calls Try.prog 10 #[.agg #[.int .i64 B.now, .slice a1 B.svcs.length c1, .slice a2 B.cps.length c2, .slice a3 B.bts.length c3], .string sv] w fun e w' => e = .returned (.agg #[.int .i64 n.live, .int .i64 n.ready, .int .i64 n.old, .int .i64 n.failed, .int .i64 n.ending]) ∧ Below w.heap.size w w' :=
  (implCountOf_any B sv a1 a2 a3 c1 c2 c3 w HK hsv hS hZ hB).mono fun e w' ⟨he, hb⟩ => ⟨by rw [he, hn.out]; rfl, hb⟩

set_option maxHeartbeats 4000000 in
theorem lawCountOf_any (B : Bk) (sv : ByteArray) (a1 a2 a3 : Option Addr) (c1 c2 c3 : Nat) (w : World) (hsv : sv.size ≤ maxLen) (hZ : B.sized) (hB : BkAt w a1 a2 a3 B) :
    Calls Try.prog 5 #[.agg #[.int .i64 B.now, .slice a1 B.svcs.length c1, .slice a2 B.cps.length c2, .slice a3 B.bts.length c3], .string sv] w fun e w' => e = .returned (.bool true) ∧ Below w.heap.size w w' := by
  have HSV : Hid (sv.size ≤ maxLen) := hsv
  unfold maxLen at hsv
  have hsv' : (sv.size : Int) ≤ 9223372036854775807 := by omega
  clear hsv
  have hb0 := below_box w (.cells #[.int .i64 B.now, .slice a1 B.svcs.length c1, .slice a2 B.cps.length c2, .slice a3 B.bts.length c3] 44)
  have T0 : Hid _ := heap_alloc_new w (.cells #[.int .i64 B.now, .slice a1 B.svcs.length c1, .slice a2 B.cps.length c2, .slice a3 B.bts.length c3] 44)
  have HS0 : Hid ((w.alloc (.cells #[.int .i64 B.now, .slice a1 B.svcs.length c1, .slice a2 B.cps.length c2, .slice a3 B.bts.length c3] 44)).heap.size = w.heap.size + 1) := size_alloc' _ _
  by_cases hbig : 1048576 < (sv.size : Int)
  · go_enter Try.func5, Try.ntmps5
    go_wp2
    go_ret
    exact ⟨rfl, hb0⟩
  go_enter Try.func5, Try.ntmps5
  go_wp2_with fail
  refine (szBook_any B a1 a2 a3 c1 c2 c3 1048576 _ (by omega) (by omega) (hB.below hb0) hZ).mono ?_
  rintro e w1 ⟨r, rfl, hr0, hr1, hsm, hb1⟩
  have hbb1 := hb0.trans (hb1.mono hb0.size)
  have T1 : Hid _ := below_blk hb1 T0.out (by rw [HS0.out]; omega)
  have hz1 : w.heap.size < w1.heap.size := by have := hb1.size; rw [HS0.out] at this; omega
  have hB1 := hB.below hbb1
  clear hb1 hb0 T0 HS0
  by_cases hneg : r < 0
  · go_wp2
    go_ret
    exact ⟨rfl, hbb1⟩
  have hS : B.small := hsm.out (by omega)
  clear hsm
  obtain ⟨n, HN⟩ : ∃ n, Hid (cntOf B sv = n) := ⟨_, rfl⟩
  have e0 := blk_cell T1.out 0 rfl
  have e1 := blk_cell T1.out 1 rfl
  have e2 := blk_cell T1.out 2 rfl
  have e3 := blk_cell T1.out 3 rfl
  go_wp2_with fail
  clear e0 e1 e2 e3 hneg hr0 hr1
  refine (toBook_any B a1 a2 a3 c1 c2 c3 _ hB1 hS).mono ?_
  rintro e w2 ⟨x1, x2, x3, rfl, hX, hb2⟩
  go_wp2_with fail
  refine (specCountOf_lit B sv x1 x2 x3 _ _ _ _ hS hZ hX n HN).mono ?_
  rintro e w3 ⟨rfl, hb3⟩
  have hbb3 := hb2.trans (hb3.mono hb2.size)
  have hw3 := below_box w3 (.cells #[.int .i64 n.live, .int .i64 n.ready, .int .i64 n.old, .int .i64 n.failed, .int .i64 n.ending] 32)
  have C3 : Hid _ := heap_alloc_new w3 (.cells #[.int .i64 n.live, .int .i64 n.ready, .int .i64 n.old, .int .i64 n.failed, .int .i64 n.ending] 32)
  have hs3 := size_alloc' w3 (.cells #[.int .i64 n.live, .int .i64 n.ready, .int .i64 n.old, .int .i64 n.failed, .int .i64 n.ending] 32)
  have HS3 : Hid _ := hs3
  clear hs3
  have hz3 : w.heap.size < w3.heap.size := Nat.lt_of_lt_of_le hz1 hbb3.size
  have T3 : Hid _ := below_blk hbb3 T1.out hz1
  have T3a : Hid _ := below_blk hw3 T3.out hz3
  have hbw3 := (hbb1.trans (hbb3.mono hbb1.size))
  have hbw3a := hbw3.trans (hw3.mono hbw3.size)
  have hB3 := hB.below hbw3a
  clear hX hb2 hb3 hbb3 T1 hbb1 hB1 hz1 hw3
  have e0 := blk_cell T3.out 0 rfl
  have e1 := blk_cell T3.out 1 rfl
  have e2 := blk_cell T3.out 2 rfl
  have e3 := blk_cell T3.out 3 rfl
  go_wp2_with fail
  clear e0 e1 e2 e3
  refine (toBook_any B a1 a2 a3 c1 c2 c3 _ hB3 hS).mono ?_
  rintro e w4 ⟨y1, y2, y3, rfl, hY, hb4⟩
  rw [HS3.out] at hb4
  have hbw4 := hbw3a.trans (hb4.mono (by omega))
  have T4 : Hid _ := below_blk hb4 T3a.out (by omega)
  have C4 : Hid _ := below_blk hb4 C3.out (by omega)
  have hz4 : w3.heap.size < w4.heap.size := by have := hb4.size; rw [HS3.out] at this; omega
  clear hb4 hbw3 hbw3a T3 T3a C3 HS3 hB3
  have hb5 := below_box w4 (.cells #[.int .i64 B.now, .slice y1 B.svcs.length B.svcs.length, .slice y2 B.cps.length B.cps.length, .slice y3 B.bts.length B.bts.length] 27)
  have U5 : Hid _ := heap_alloc_new w4 (.cells #[.int .i64 B.now, .slice y1 B.svcs.length B.svcs.length, .slice y2 B.cps.length B.cps.length, .slice y3 B.bts.length B.bts.length] 27)
  have hs5 := size_alloc' w4 (.cells #[.int .i64 B.now, .slice y1 B.svcs.length B.svcs.length, .slice y2 B.cps.length B.cps.length, .slice y3 B.bts.length B.bts.length] 27)
  have HS5 : Hid _ := hs5
  clear hs5
  go_wp2_with fail
  refine (implCountOf_lit B sv y1 y2 y3 _ _ _ _ (Nat.le_refl _) HSV.out hS hZ (hY.below hb5) n HN).mono ?_
  rintro e w5 ⟨rfl, hb6⟩
  have hbb6 := hb5.trans (hb6.mono hb5.size)
  rw [HS5.out] at hb6
  have hbw6 := hbw4.trans (hbb6.mono hbw4.size)
  have T6 : Hid _ := below_blk hbb6 T4.out (by omega)
  have C6 : Hid _ := below_blk hbb6 C4.out hz4
  have U6 : Hid _ := below_blk hb6 U5.out (by omega)
  have hzM : w4.heap.size < w5.heap.size := by have := hb6.size; rw [HS5.out] at this; omega
  have hY6 := hY.below hbb6
  have hw7 := below_box w5 (.cells #[.int .i64 n.live, .int .i64 n.ready, .int .i64 n.old, .int .i64 n.failed, .int .i64 n.ending] 32)
  have hs7 := size_alloc' w5 (.cells #[.int .i64 n.live, .int .i64 n.ready, .int .i64 n.old, .int .i64 n.failed, .int .i64 n.ending] 32)
  have HS7 : Hid _ := hs7
  clear hs7 hb5 hb6 hbb6 hbw4 T4 C4 U5 HS5 hY
  have c0 := blk_cell C6.out 0 rfl
  have c1' := blk_cell C6.out 1 rfl
  have c2' := blk_cell C6.out 2 rfl
  have c3' := blk_cell C6.out 3 rfl
  have c4' := blk_cell C6.out 4 rfl
  have hzC : w3.heap.size < w5.heap.size := by omega
  go_wp2_with fail
  refine (eqCount_same n _).mono ?_
  rintro e w6 ⟨rfl, hb8⟩
  have hbb8 := hw7.trans (hb8.mono hw7.size)
  have hbw8 := hbw6.trans (hbb8.mono hbw6.size)
  have T8 : Hid _ := below_blk hbb8 T6.out (by omega)
  have U8 : Hid _ := below_blk hbb8 U6.out hzM
  have hzM8 : w4.heap.size < w6.heap.size := Nat.lt_of_lt_of_le hzM hbb8.size
  have hB8 := (hB.below hbw8).drew
  have hY8 := (hY6.below hbb8).drew
  clear hw7 hb8 hbb8 hbw6 T6 U6 C6 HS7 hY6 hB c0 c1' c2' c3' c4'
  have e0 := blk_cell T8.out 0 rfl
  have e1 := blk_cell T8.out 1 rfl
  have e2 := blk_cell T8.out 2 rfl
  have e3 := blk_cell T8.out 3 rfl
  have u0 := blk_cell U8.out 0 rfl
  have u1 := blk_cell U8.out 1 rfl
  have u2 := blk_cell U8.out 2 rfl
  have u3 := blk_cell U8.out 3 rfl
  go_wp2
  go_region_with (first
    | (go_at_call 15; refine (toBook_any B a1 a2 a3 c1 c2 c3 _ hB8 hS).mono ?_; rintro e w7 ⟨x1, x2, x3, rfl, hX7, hb7⟩; have hc7 : ∀ o, w7.cell? ⟨w4.heap.size, o, none⟩ = w6.cell? ⟨w4.heap.size, o, none⟩ := fun o => hb7.cell (p := ⟨w4.heap.size, o, none⟩) hzM8; have hB7 := hY8.below hb7)
    | (go_at_call 17; refine (eqBook_same B y1 y2 y3 x1 x2 x3 _ _ _ _ _ _ _ hS hB7 hX7).mono ?_; rintro e w8 ⟨rfl, hb9⟩))
  all_goals
    go_wp2
    go_ret
    exact ⟨rfl, (hbw8.drew.trans (hb7.mono hbw8.size)).trans (hb9.mono (Nat.le_trans hbw8.size hb7.size))⟩

end Go.Proofs.Ytbceafpodamnfaa
