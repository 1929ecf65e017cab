/-
  My own. The specification's StewMayEnd; the law on StewMayEnd: its walk.
-/
import Derived.Test.YtbceafpodamnfaaWw
import Derived.Test.YtbceafpodamnfaaZc
import Derived.Test.YtbceafpodamnfaaZg
namespace Go.Proofs.Ytbceafpodamnfaa
open Go.RowKit Go.Sort

theorem l3MayEnd_any (B : Bk) (sv : ByteArray) (num : Int) (a1 a2 a3 : Option Addr) (c1 c2 c3 : Nat) (w : World) (hS : B.small) (hB : BkAt w a1 a2 a3 B) (hV : Valid B) :
    Calls Try.prog 27 #[.agg #[.int .i64 B.now, .slice a1 B.svcs.length c1, .slice a2 B.cps.length c2, .slice a3 B.bts.length c3], .string sv, .int .i64 num] w fun e w' => e = .returned (.bool (mayOf B sv num)) ∧ Below w.heap.size w w' := by
  cases hf : B.cps.find? (isC sv num) with
  | none =>
    have e : mayOf B sv num = false := by unfold mayOf; rw [hf, Bool.and_false]
    rw [e]
    exact l3MayEnd_none B sv num a1 a2 a3 c1 c2 c3 w hS hB hf
  | some c =>
    have hcm := List.mem_of_find?_eq_some hf
    obtain ⟨s, hs, _⟩ := hV.svc hcm
    obtain ⟨hcs, _⟩ := isC_iff.1 (List.find?_some hf)
    rw [hcs] at hs
    have hi := hV.svcIn (svcOf_mem hs)
    have e : mayOf B sv num = mayL B s sv c := by unfold mayOf; rw [validB_iff.2 hV, hf, hs]; rfl
    rw [e]
    exact l3MayEnd_some B sv num c s a1 a2 a3 c1 c2 c3 w hS hB hf hs hi.want0 hi.want1 hi.down0 hi.down1

set_option maxHeartbeats 4000000 in
theorem specMayEnd_any (B : Bk) (sv : ByteArray) (num : Int) (a1 a2 a3 : Option Addr) (c1 c2 c3 : Nat) (w : World) (hS : B.small) (hZ : B.sized) (hB : BkAt w a1 a2 a3 B) :
    Calls Try.prog 9 #[.agg #[.int .i64 B.now, .slice a1 B.svcs.length c1, .slice a2 B.cps.length c2, .slice a3 B.bts.length c3], .string sv, .int .i64 num] w fun e w' => e = .returned (.bool (mayOf B sv num)) ∧ Below w.heap.size w w' := by
  have hb0 := below_box w (.cells #[.int .i64 B.now, .slice a1 B.svcs.length c1, .slice a2 B.cps.length c2, .slice a3 B.bts.length c3] 27)
  have T0 : Hid _ := heap_alloc_new w (.cells #[.int .i64 B.now, .slice a1 B.svcs.length c1, .slice a2 B.cps.length c2, .slice a3 B.bts.length c3] 27)
  have HS0 : Hid _ := size_alloc' w (.cells #[.int .i64 B.now, .slice a1 B.svcs.length c1, .slice a2 B.cps.length c2, .slice a3 B.bts.length c3] 27)
  go_enter Try.func9, Try.ntmps9
  go_wp2_with fail
  refine (specValid_any B a1 a2 a3 c1 c2 c3 _ hS hZ (hB.below hb0)).mono ?_
  rintro e w1 ⟨rfl, hb1⟩
  have hbb1 := hb0.trans (hb1.mono hb0.size)
  rw [HS0.out] at hb1
  have T1 : Hid _ := below_blk hb1 T0.out (by omega)
  clear hb1 hb0 T0 HS0
  cases hv : validB B
  · have HO : Hid (mayOf B sv num = false) := by unfold Hid mayOf; rw [hv]; rfl
    go_wp2
    go_ret
    exact ⟨ret_bool HO.out.symm, hbb1⟩
  · have hval := validB_iff.1 hv
    obtain ⟨b, HB⟩ : ∃ b, Hid (b = mayOf B sv num) := ⟨_, rfl⟩
    have HC : Hid (∀ W : World, BkAt W a1 a2 a3 B → Calls Try.prog 27 #[.agg #[.int .i64 B.now, .slice a1 B.svcs.length c1, .slice a2 B.cps.length c2, .slice a3 B.bts.length c3], .string sv, .int .i64 num] W fun e w' => e = .returned (.bool b) ∧ Below W.heap.size W w') := by
      intro W h
      rw [HB.out]
      exact l3MayEnd_any B sv num a1 a2 a3 c1 c2 c3 W hS h hval
    clear hv hval
    have e0 := blk_cell T1.out 0 rfl
    have e1 := blk_cell T1.out 1 rfl
    have e2 := blk_cell T1.out 2 rfl
    have e3 := blk_cell T1.out 3 rfl
    go_wp2_with fail
    refine (HC.out _ (hB.below hbb1)).mono ?_
    rintro e w2 ⟨rfl, hb2⟩
    go_wp2
    go_ret
    exact ⟨ret_bool HB.out, hbb1.trans (hb2.mono hbb1.size)⟩

set_option maxRecDepth 100000 in
set_option maxHeartbeats 4000000 in
theorem lawMayEnd_any (B : Bk) (sv : ByteArray) (num : Int) (a1 a2 a3 : Option Addr) (c1 c2 c3 : Nat) (w : World) (hsv : sv.size ≤ maxLen) (hnum : (Lit.int .i64 num).wf = true) (hZ : B.sized) (hB : BkAt w a1 a2 a3 B) :
    Calls Try.prog 6 #[.agg #[.int .i64 B.now, .slice a1 B.svcs.length c1, .slice a2 B.cps.length c2, .slice a3 B.bts.length c3], .string sv, .int .i64 num] w fun e w' => e = .returned (.bool true) ∧ Below w.heap.size w w' := by
  have HSV : Hid (sv.size ≤ maxLen) := hsv
  have HNUM : Hid _ := hnum
  clear hnum
  unfold maxLen at hsv
  have hsv' : (sv.size : Int) ≤ 9223372036854775807 := by omega
  clear hsv
  have hb0 := below_box w (.cells #[.int .i64 B.now, .slice a1 B.svcs.length c1, .slice a2 B.cps.length c2, .slice a3 B.bts.length c3] 44)
  have T0 : Hid _ := heap_alloc_new w (.cells #[.int .i64 B.now, .slice a1 B.svcs.length c1, .slice a2 B.cps.length c2, .slice a3 B.bts.length c3] 44)
  have HS0 : Hid ((w.alloc (.cells #[.int .i64 B.now, .slice a1 B.svcs.length c1, .slice a2 B.cps.length c2, .slice a3 B.bts.length c3] 44)).heap.size = w.heap.size + 1) := size_alloc' _ _
  by_cases hbig : 1048576 < (sv.size : Int)
  · go_enter Try.func6, Try.ntmps6
    go_wp2
    go_ret
    exact ⟨rfl, hb0⟩
  go_enter Try.func6, Try.ntmps6
  go_wp2_with fail
  refine (szBook_any B a1 a2 a3 c1 c2 c3 1048576 _ (by omega) (by omega) (hB.below hb0) hZ).mono ?_
  rintro e w1 ⟨r, rfl, hr0, hr1, hsm, hb1⟩
  have hbb1 := hb0.trans (hb1.mono hb0.size)
  have T1 : Hid _ := below_blk hb1 T0.out (by rw [HS0.out]; omega)
  have hz1 : w.heap.size < w1.heap.size := by have := hb1.size; rw [HS0.out] at this; omega
  have hB1 := hB.below hbb1
  clear hb1 hb0 T0 HS0
  by_cases hneg : r < 0
  · go_wp2
    go_ret
    exact ⟨rfl, hbb1⟩
  have hS : B.small := hsm.out (by omega)
  clear hsm
  obtain ⟨n, HN⟩ : ∃ n, Hid (mayOf B sv num = n) := ⟨_, rfl⟩
  have HSP : Hid (∀ (x1 x2 x3 : Option Addr) (d1 d2 d3 : Nat) (W : World), BkAt W x1 x2 x3 B → Calls Try.prog 9 #[.agg #[.int .i64 B.now, .slice x1 B.svcs.length d1, .slice x2 B.cps.length d2, .slice x3 B.bts.length d3], .string sv, .int .i64 num] W fun e w' => e = .returned (.bool n) ∧ Below W.heap.size W w') := by
    intro x1 x2 x3 d1 d2 d3 W h
    rw [← HN.out]
    exact specMayEnd_any B sv num x1 x2 x3 d1 d2 d3 W hS hZ h
  have HIM : Hid (∀ (x1 x2 x3 : Option Addr) (d1 d2 d3 : Nat) (W : World), Hid (B.cps.length ≤ d2) → BkAt W x1 x2 x3 B → Calls Try.prog 8 #[.agg #[.int .i64 B.now, .slice x1 B.svcs.length d1, .slice x2 B.cps.length d2, .slice x3 B.bts.length d3], .string sv, .int .i64 num] W fun e w' => e = .returned (.bool n) ∧ Below W.heap.size W w') := by
    intro x1 x2 x3 d1 d2 d3 W hk h
    rw [← HN.out]
    exact implMayEnd_any B sv num x1 x2 x3 d1 d2 d3 W hk HSV.out HNUM.out hS hZ h
  have e0 := blk_cell T1.out 0 rfl
  have e1 := blk_cell T1.out 1 rfl
  have e2 := blk_cell T1.out 2 rfl
  have e3 := blk_cell T1.out 3 rfl
  go_wp2_with fail
  clear e0 e1 e2 e3 hneg hr0 hr1
  refine (toBook_any B a1 a2 a3 c1 c2 c3 _ hB1 hS).mono ?_
  rintro e w2 ⟨x1, x2, x3, rfl, hX, hb2⟩
  go_wp2_with fail
  refine (HSP.out x1 x2 x3 _ _ _ _ hX).mono ?_
  rintro e w3 ⟨rfl, hb3⟩
  have hbb3 := hb2.trans (hb3.mono hb2.size)
  have hz3 : w.heap.size < w3.heap.size := Nat.lt_of_lt_of_le hz1 hbb3.size
  have T3 : Hid _ := below_blk hbb3 T1.out hz1
  have hbw3 := (hbb1.trans (hbb3.mono hbb1.size))
  have hB3 := hB.below hbw3
  clear hX hb2 hb3 hbb3 T1 hbb1 hB1 hz1
  have e0 := blk_cell T3.out 0 rfl
  have e1 := blk_cell T3.out 1 rfl
  have e2 := blk_cell T3.out 2 rfl
  have e3 := blk_cell T3.out 3 rfl
  go_wp2_with fail
  clear e0 e1 e2 e3
  refine (toBook_any B a1 a2 a3 c1 c2 c3 _ hB3 hS).mono ?_
  rintro e w4 ⟨y1, y2, y3, rfl, hY, hb4⟩
  have hbw4 := hbw3.trans (hb4.mono hbw3.size)
  have T4 : Hid _ := below_blk hb4 T3.out hz3
  have hz4 : w.heap.size < w4.heap.size := Nat.lt_of_lt_of_le hz3 hb4.size
  clear hb4 hbw3 T3 hB3 hz3
  have hb5 := below_box w4 (.cells #[.int .i64 B.now, .slice y1 B.svcs.length B.svcs.length, .slice y2 B.cps.length B.cps.length, .slice y3 B.bts.length B.bts.length] 27)
  have U5 : Hid _ := heap_alloc_new w4 (.cells #[.int .i64 B.now, .slice y1 B.svcs.length B.svcs.length, .slice y2 B.cps.length B.cps.length, .slice y3 B.bts.length B.bts.length] 27)
  have HS5 : Hid _ := size_alloc' w4 (.cells #[.int .i64 B.now, .slice y1 B.svcs.length B.svcs.length, .slice y2 B.cps.length B.cps.length, .slice y3 B.bts.length B.bts.length] 27)
  go_wp2_with fail
  refine (HIM.out y1 y2 y3 _ _ _ _ (Nat.le_refl _) (hY.below hb5)).mono ?_
  rintro e w5 ⟨rfl, hb6⟩
  have hbb6 := hb5.trans (hb6.mono hb5.size)
  rw [HS5.out] at hb6
  have hbw6 := hbw4.trans (hbb6.mono hbw4.size)
  have T6 : Hid _ := below_blk hbb6 T4.out hz4
  have U6 : Hid _ := below_blk hb6 U5.out (by omega)
  have hzM : w4.heap.size < w5.heap.size := by have := hb6.size; rw [HS5.out] at this; omega
  have hB8 := (hB.below hbw6).drew
  have hY8 := (hY.below hbb6).drew
  clear hb5 hb6 hbb6 hbw4 T4 U5 HS5 hY HSP HIM
  have e0 := blk_cell T6.out 0 rfl
  have e1 := blk_cell T6.out 1 rfl
  have e2 := blk_cell T6.out 2 rfl
  have e3 := blk_cell T6.out 3 rfl
  have u0 := blk_cell U6.out 0 rfl
  have u1 := blk_cell U6.out 1 rfl
  have u2 := blk_cell U6.out 2 rfl
  have u3 := blk_cell U6.out 3 rfl
  go_wp2
  go_region_with (first
    | (go_at_call 15; refine (toBook_any B a1 a2 a3 c1 c2 c3 _ hB8 hS).mono ?_; rintro e w7 ⟨x1, x2, x3, rfl, hX7, hb7⟩; have hc7 : ∀ o, w7.cell? ⟨w4.heap.size, o, none⟩ = w5.cell? ⟨w4.heap.size, o, none⟩ := fun o => hb7.cell (p := ⟨w4.heap.size, o, none⟩) hzM; have hB7 := hY8.below hb7)
    | (go_at_call 17; refine (eqBook_same B y1 y2 y3 x1 x2 x3 _ _ _ _ _ _ _ hS hB7 hX7).mono ?_; rintro e w8 ⟨rfl, hb9⟩))
  all_goals
    go_wp2
    go_ret
    exact ⟨rfl, (hbw6.drew.trans (hb7.mono hbw6.size)).trans (hb9.mono (Nat.le_trans hbw6.size hb7.size))⟩

end Go.Proofs.Ytbceafpodamnfaa
