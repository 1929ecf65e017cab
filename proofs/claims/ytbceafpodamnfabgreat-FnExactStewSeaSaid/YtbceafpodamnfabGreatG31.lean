/-
  My own: Jd.
-/
import Derived.Test.YtbceafpodamnfabGreatG25
import Derived.Test.YtbceafpodamnfabGreatG30
set_option linter.unusedVariables false
set_option linter.unusedSimpArgs false
namespace Go.Proofs.YtbceafpodamnfabGreat
open Go.RowKit Go.Sort
theorem Tryz.infosBkL : (Tryz.prog.info? 26).map (·.size) = some 4 := by kernel_rfl
theorem Tryz.infosEvL : (Tryz.prog.info? 44).map (·.size) = some 17 := by kernel_rfl
set_option maxRecDepth 100000 in
set_option maxHeartbeats 16000000 in
theorem lawSea_any (B : Bk) (E : Ev) (a1 a2 a3 : Option Addr) (c1 c2 c3 : Nat) (w : World) (hZ : B.sized) (hE : E.sized) (hwf : (Lit.int .i64 E.number).wf = true) (hB : BkAt w a1 a2 a3 B) :
  Calls Tryz.prog 4 #[.agg #[.int .i64 B.now, .slice a1 B.svcs.length c1, .slice a2 B.cps.length c2, .slice a3 B.bts.length c3], .agg #[.int .i64 E.kind, .string E.service.name, .int .i64 E.service.version, .bool E.service.gone, .int .i64 E.service.image, .int .i64 E.service.want, .int .i64 E.service.down, .int .i64 E.service.over, .int .i64 E.service.next, .int .i64 E.service.per, .int .i64 E.service.least, .int .i64 E.service.most, .int .i64 E.service.load, .int .i64 E.service.cool, .string E.name, .int .i64 E.number, .bool E.flag]] w fun e w' => e = .returned (.bool true) ∧ Below w.heap.size w w' := by
 obtain ⟨Y, cd, HY⟩ : ∃ Y cd, Hid (seaAns B E = (Y, cd)) := ⟨_, _, rfl⟩
 obtain ⟨W0, hW0, t0, t1, hz0, hz0', hb0⟩ := two_newV w (.cells #[.int .i64 B.now, .slice a1 B.svcs.length c1, .slice a2 B.cps.length c2, .slice a3 B.bts.length c3] 26) (.cells #[.int .i64 E.kind, .string E.service.name, .int .i64 E.service.version, .bool E.service.gone, .int .i64 E.service.image, .int .i64 E.service.want, .int .i64 E.service.down, .int .i64 E.service.over, .int .i64 E.service.next, .int .i64 E.service.per, .int .i64 E.service.least, .int .i64 E.service.most, .int .i64 E.service.load, .int .i64 E.service.cool, .string E.name, .int .i64 E.number, .bool E.flag] 44)
 have X0 : Hid _ := t0
 have E0 : Hid _ := t1
 clear t0 t1
 have e0 := blk_cell X0.out 0 rfl
 have e1 := blk_cell X0.out 1 rfl
 have e2 := blk_cell X0.out 2 rfl
 have e3 := blk_cell X0.out 3 rfl
 go_enter Tryz.func4, Tryz.ntmps4
 go_upto_region 1 with fail
 clear hW0
 go_wp2_with fail
 refine (szBook_any B a1 a2 a3 c1 c2 c3 1048576 W0 (by omega) (by omega) (hB.below hb0) hZ).mono ?_
 rintro e w1 ⟨r, rfl, hr0, hr1, hsm, hbq⟩
 have hb1 := hb0.trans (hbq.mono' hb0.size)
 have X1 : Hid _ := below_blk hbq X0.out (by omega)
 have E1 : Hid _ := below_blk hbq E0.out (by omega)
 have hz1 : w.heap.size + 1 < w1.heap.size := (Array.getElem?_eq_some_iff.1 E1.out).1
 clear hbq e0 e1 e2 e3 X0 E0 hb0 hz0 hz0'
 by_cases hneg : r < 0
 ·go_wp2
  go_ret
  exact ⟨rfl, hb1⟩
 have hS : B.small := hsm.out (by omega)
 have HSY : Hid Y.small := by have := seaAns_small (E := E) hS; rw [HY.out] at this; exact this
 clear hsm
 have q0 := blk_cell E1.out 0 rfl
 have q1 := blk_cell E1.out 1 rfl
 have q2 := blk_cell E1.out 2 rfl
 have q3 := blk_cell E1.out 3 rfl
 have q4 := blk_cell E1.out 4 rfl
 have q5 := blk_cell E1.out 5 rfl
 have q6 := blk_cell E1.out 6 rfl
 have q7 := blk_cell E1.out 7 rfl
 have q8 := blk_cell E1.out 8 rfl
 have q9 := blk_cell E1.out 9 rfl
 have q10 := blk_cell E1.out 10 rfl
 have q11 := blk_cell E1.out 11 rfl
 have q12 := blk_cell E1.out 12 rfl
 have q13 := blk_cell E1.out 13 rfl
 have q14 := blk_cell E1.out 14 rfl
 have q15 := blk_cell E1.out 15 rfl
 have q16 := blk_cell E1.out 16 rfl
 go_wp2_with fail
 refine (szEvent_any E r w1 hE (by omega) (by omega)).mono ?_
 rintro e w2 ⟨r2, rfl, hr2, hr3, hbq⟩
 have hb2 := hb1.trans (hbq.mono' hb1.size)
 have X2 : Hid (w2.heap[w.heap.size]? = some (.cells #[.int .i64 B.now, .slice a1 B.svcs.length c1, .slice a2 B.cps.length c2, .slice a3 B.bts.length c3] 26 (0, 0))) := below_blk hbq X1.out (by omega)
 have E2 : Hid (w2.heap[w.heap.size + 1]? = some (.cells #[.int .i64 E.kind, .string E.service.name, .int .i64 E.service.version, .bool E.service.gone, .int .i64 E.service.image, .int .i64 E.service.want, .int .i64 E.service.down, .int .i64 E.service.over, .int .i64 E.service.next, .int .i64 E.service.per, .int .i64 E.service.least, .int .i64 E.service.most, .int .i64 E.service.load, .int .i64 E.service.cool, .string E.name, .int .i64 E.number, .bool E.flag] 44 (0, 0))) := below_blk hbq E1.out (by omega)
 have hz2 : w.heap.size + 1 < w2.heap.size := (Array.getElem?_eq_some_iff.1 E2.out).1
 clear hbq q0 q1 q2 q3 q4 q5 q6 q7 q8 q9 q10 q11 q12 q13 q14 q15 q16 X1 E1 hb1 hz1
 by_cases hneg2 : r2 < 0
 ·go_wp2
  go_ret
  exact ⟨rfl, hb2⟩
 go_upto_region 8 with fail
 clear hneg hneg2 hr0 hr1 hr2 hr3
 refine wp_region_ownsV 10 3 [[], [0], [], [2], [1, 3], [4], [5], [5], [], [6, 8]] [9] [1, 4, 5, 6, 8, 9] [9] [(9, 5)] (fun _ W W2 => ∃ b, W.heap[b]? = some (.cells #[.int .i64 0, .slice none 0 0, .slice none 0 0, .slice none 0 0] 34 (0, 0)) ∧ Only b W W2) (by kernel_rfl) (by kernel_rfl) (by kernel_rfl) ?_
 apply ownV_eq (by kernel_rfl)
 ·intro V W K A hW hd hA hK
  simp only [putAll, List.getElem?_toArray, List.getElem?_cons_succ, List.getElem?_cons_zero, Option.bind_some, Act.put, List.setIfInBounds_toArray, List.set_cons_succ, List.set_cons_zero] at hA
  clear hd
  generalize V 0 = x0 at hA
  generalize V 1 = x1 at hA
  generalize V 2 = x2 at hA
  generalize V 3 = x3 at hA
  generalize V 4 = x4 at hA
  generalize V 5 = x5 at hA
  generalize V 6 = x6 at hA
  generalize V 7 = x7 at hA
  generalize V 8 = x8 at hA
  generalize V 9 = x9 at hA
  obtain rfl := hA
  refine wpList_load_row rfl 26 (.tmp 2) rfl w.heap.size rfl 26 #[.int .i64 B.now, .slice a1 B.svcs.length c1, .slice a2 B.cps.length c2, .slice a3 B.bts.length c3] (0, 0) _ (below_blk hW X2.out (by omega)) Tryz.underlying26 rfl Tryz.infosBkL ?_
  go_wp2
  exact hK.out _ (Below.refl _ _)
 refine ownV_grow (fun vv W => ∃ y1 y2 y3, vv = .agg #[.int .i64 B.now, .slice y1 B.svcs.length B.svcs.length, .slice y2 B.cps.length B.cps.length, .slice y3 B.bts.length B.bts.length] ∧ BkAt W y1 y2 y3 B) (fun v W W2 ⟨y1, y2, y3, h1, h2⟩ hb => ⟨y1, y2, y3, h1, h2.below hb⟩) (by kernel_rfl) (by kernel_rfl) ?_ ?_
 ·intro V W K A hW hd hA hK
  have d0 : V 0 = _ := hd 0 (by kernel_rfl)
  simp only [putAll, List.getElem?_toArray, List.getElem?_cons_succ, List.getElem?_cons_zero, Option.bind_some, Act.put, List.setIfInBounds_toArray, List.set_cons_succ, List.set_cons_zero] at hA
  clear hd
  generalize V 0 = x0 at d0 hA
  generalize V 1 = x1 at hA
  generalize V 2 = x2 at hA
  generalize V 3 = x3 at hA
  generalize V 4 = x4 at hA
  generalize V 5 = x5 at hA
  generalize V 6 = x6 at hA
  generalize V 7 = x7 at hA
  generalize V 8 = x8 at hA
  generalize V 9 = x9 at hA
  subst d0
  obtain rfl := hA
  go_wp2_with fail
  refine (toBook_any B a1 a2 a3 c1 c2 c3 W (hB.below (hb2.trans (hW.mono' hb2.size))) hS).mono ?_
  rintro e u2 ⟨y1, y2, y3, rfl, hX, hbq⟩
  have HX := hid_of' hX
  clear hX
  go_wp2
  exact hK.out _ _ hbq ⟨y1, y2, y3, rfl, HX.out⟩
 apply ownV_eq (by kernel_rfl)
 ·intro V W K A hW hd hA hK
  simp only [putAll, List.getElem?_toArray, List.getElem?_cons_succ, List.getElem?_cons_zero, Option.bind_some, Act.put, List.setIfInBounds_toArray, List.set_cons_succ, List.set_cons_zero] at hA
  clear hd
  generalize V 0 = x0 at hA
  generalize V 1 = x1 at hA
  generalize V 2 = x2 at hA
  generalize V 3 = x3 at hA
  generalize V 4 = x4 at hA
  generalize V 5 = x5 at hA
  generalize V 6 = x6 at hA
  generalize V 7 = x7 at hA
  generalize V 8 = x8 at hA
  generalize V 9 = x9 at hA
  obtain rfl := hA
  refine wpList_load_row rfl 44 (.tmp 3) rfl (w.heap.size + 1) rfl 44 #[.int .i64 E.kind, .string E.service.name, .int .i64 E.service.version, .bool E.service.gone, .int .i64 E.service.image, .int .i64 E.service.want, .int .i64 E.service.down, .int .i64 E.service.over, .int .i64 E.service.next, .int .i64 E.service.per, .int .i64 E.service.least, .int .i64 E.service.most, .int .i64 E.service.load, .int .i64 E.service.cool, .string E.name, .int .i64 E.number, .bool E.flag] (0, 0) _ (below_blk hW E2.out (by omega)) Tryz.underlying44 rfl Tryz.infosEvL ?_
  go_wp2
  exact hK.out _ (Below.refl _ _)
 apply ownV_eq (by kernel_rfl)
 ·intro V W K A hW hd hA hK
  have d2 : V 2 = _ := hd 2 (by kernel_rfl)
  simp only [putAll, List.getElem?_toArray, List.getElem?_cons_succ, List.getElem?_cons_zero, Option.bind_some, Act.put, List.setIfInBounds_toArray, List.set_cons_succ, List.set_cons_zero] at hA
  clear hd
  generalize V 0 = x0 at hA
  generalize V 1 = x1 at hA
  generalize V 2 = x2 at d2 hA
  generalize V 3 = x3 at hA
  generalize V 4 = x4 at hA
  generalize V 5 = x5 at hA
  generalize V 6 = x6 at hA
  generalize V 7 = x7 at hA
  generalize V 8 = x8 at hA
  generalize V 9 = x9 at hA
  subst d2
  obtain rfl := hA
  go_wp2_with fail
  refine (toEvent_any E W).mono ?_
  rintro e u2 ⟨rfl, hbq⟩
  have HBQ := hid_of' hbq
  clear hbq
  go_wp2
  exact hK.out _ HBQ.out
 refine ownV_grow (fun vv W => ∃ (x1 x2 x3 : Option Addr) (p1 p2 p3 : Nat), vv = .tuple #[.agg #[.int .i64 Y.now, .slice x1 Y.svcs.length p1, .slice x2 Y.cps.length p2, .slice x3 Y.bts.length p3], .int .i64 cd] ∧ BkAt W x1 x2 x3 Y) (fun v W W2 ⟨x1, x2, x3, p1, p2, p3, h, hm⟩ hb => ⟨x1, x2, x3, p1, p2, p3, h, hm.below hb⟩) (by kernel_rfl) (by kernel_rfl) ?_ ?_
 ·intro V W K A hW hd hA hK
  have d1 : (fun vv W => ∃ y1 y2 y3, vv = .agg #[.int .i64 B.now, .slice y1 B.svcs.length B.svcs.length, .slice y2 B.cps.length B.cps.length, .slice y3 B.bts.length B.bts.length] ∧ BkAt W y1 y2 y3 B) (V 1) W := hd 1 (by kernel_rfl)
  have d3 : V 3 = _ := hd 3 (by kernel_rfl)
  simp only [putAll, List.getElem?_toArray, List.getElem?_cons_succ, List.getElem?_cons_zero, Option.bind_some, Act.put, List.setIfInBounds_toArray, List.set_cons_succ, List.set_cons_zero] at hA
  clear hd
  generalize V 0 = x0 at hA
  generalize V 1 = x1 at d1 hA
  generalize V 2 = x2 at hA
  generalize V 3 = x3 at d3 hA
  generalize V 4 = x4 at hA
  generalize V 5 = x5 at hA
  generalize V 6 = x6 at hA
  generalize V 7 = x7 at hA
  generalize V 8 = x8 at hA
  generalize V 9 = x9 at hA
  subst d3
  obtain rfl := hA
  obtain ⟨y1, y2, y3, rfl, hX⟩ := d1
  have HX := hid_of' hX
  clear hX
  go_wp2_with fail
  refine (specSea_any B E y1 y2 y3 _ _ _ W hS hZ hE HX.out).mono ?_
  rw [HY.out]
  rintro e u2 ⟨x1, x2, x3, p1, p2, p3, rfl, hm, hbq⟩
  have HM := hid_of' hm
  clear hm
  go_wp2
  exact hK.out _ _ hbq ⟨x1, x2, x3, p1, p2, p3, rfl, HM.out⟩
 refine ownV_grow (fun vv W => ∃ (x1 x2 x3 : Option Addr) (p1 p2 p3 : Nat), vv = .tuple #[.agg #[.int .i64 Y.now, .slice x1 Y.svcs.length p1, .slice x2 Y.cps.length p2, .slice x3 Y.bts.length p3], .int .i64 cd] ∧ BkAt W x1 x2 x3 Y) (fun v W W2 ⟨x1, x2, x3, p1, p2, p3, h, hm⟩ hb => ⟨x1, x2, x3, p1, p2, p3, h, hm.below hb⟩) (by kernel_rfl) (by kernel_rfl) ?_ ?_
 ·intro V W K A hW hd hA hK
  have d4 : (fun vv W => ∃ (x1 x2 x3 : Option Addr) (p1 p2 p3 : Nat), vv = .tuple #[.agg #[.int .i64 Y.now, .slice x1 Y.svcs.length p1, .slice x2 Y.cps.length p2, .slice x3 Y.bts.length p3], .int .i64 cd] ∧ BkAt W x1 x2 x3 Y) (V 4) W := hd 4 (by kernel_rfl)
  simp only [putAll, List.getElem?_toArray, List.getElem?_cons_succ, List.getElem?_cons_zero, Option.bind_some, Act.put, List.setIfInBounds_toArray, List.set_cons_succ, List.set_cons_zero] at hA
  clear hd
  generalize V 0 = x0 at hA
  generalize V 1 = x1 at hA
  generalize V 2 = x2 at hA
  generalize V 3 = x3 at hA
  generalize V 4 = x4 at d4 hA
  generalize V 5 = x5 at hA
  generalize V 6 = x6 at hA
  generalize V 7 = x7 at hA
  generalize V 8 = x8 at hA
  generalize V 9 = x9 at hA
  obtain rfl := hA
  obtain ⟨x1, x2, x3, p1, p2, p3, rfl, hm⟩ := d4
  have HM := hid_of' hm
  clear hm
  go_wp2
  exact hK.out _ _ (Below.refl _ _) ⟨x1, x2, x3, p1, p2, p3, rfl, HM.out⟩
 refine ownV_grow (fun vv W => ∃ (x1 x2 x3 : Option Addr) (p1 p2 p3 : Nat), vv = .agg #[.int .i64 Y.now, .slice x1 Y.svcs.length p1, .slice x2 Y.cps.length p2, .slice x3 Y.bts.length p3] ∧ BkAt W x1 x2 x3 Y) (fun v W W2 ⟨x1, x2, x3, p1, p2, p3, h, hm⟩ hb => ⟨x1, x2, x3, p1, p2, p3, h, hm.below hb⟩) (by kernel_rfl) (by kernel_rfl) ?_ ?_
 ·intro V W K A hW hd hA hK
  have d5 : (fun vv W => ∃ (x1 x2 x3 : Option Addr) (p1 p2 p3 : Nat), vv = .tuple #[.agg #[.int .i64 Y.now, .slice x1 Y.svcs.length p1, .slice x2 Y.cps.length p2, .slice x3 Y.bts.length p3], .int .i64 cd] ∧ BkAt W x1 x2 x3 Y) (V 5) W := hd 5 (by kernel_rfl)
  simp only [putAll, List.getElem?_toArray, List.getElem?_cons_succ, List.getElem?_cons_zero, Option.bind_some, Act.put, List.setIfInBounds_toArray, List.set_cons_succ, List.set_cons_zero] at hA
  clear hd
  generalize V 0 = x0 at hA
  generalize V 1 = x1 at hA
  generalize V 2 = x2 at hA
  generalize V 3 = x3 at hA
  generalize V 4 = x4 at hA
  generalize V 5 = x5 at d5 hA
  generalize V 6 = x6 at hA
  generalize V 7 = x7 at hA
  generalize V 8 = x8 at hA
  generalize V 9 = x9 at hA
  obtain rfl := hA
  obtain ⟨x1, x2, x3, p1, p2, p3, rfl, hm⟩ := d5
  have HM := hid_of' hm
  clear hm
  go_wp2
  exact hK.out _ _ (Below.refl _ _) ⟨x1, x2, x3, p1, p2, p3, rfl, HM.out⟩
 apply ownV_eq (by kernel_rfl)
 ·intro V W K A hW hd hA hK
  have d5 : (fun vv W => ∃ (x1 x2 x3 : Option Addr) (p1 p2 p3 : Nat), vv = .tuple #[.agg #[.int .i64 Y.now, .slice x1 Y.svcs.length p1, .slice x2 Y.cps.length p2, .slice x3 Y.bts.length p3], .int .i64 cd] ∧ BkAt W x1 x2 x3 Y) (V 5) W := hd 5 (by kernel_rfl)
  simp only [putAll, List.getElem?_toArray, List.getElem?_cons_succ, List.getElem?_cons_zero, Option.bind_some, Act.put, List.setIfInBounds_toArray, List.set_cons_succ, List.set_cons_zero] at hA
  clear hd
  generalize V 0 = x0 at hA
  generalize V 1 = x1 at hA
  generalize V 2 = x2 at hA
  generalize V 3 = x3 at hA
  generalize V 4 = x4 at hA
  generalize V 5 = x5 at d5 hA
  generalize V 6 = x6 at hA
  generalize V 7 = x7 at hA
  generalize V 8 = x8 at hA
  generalize V 9 = x9 at hA
  obtain rfl := hA
  obtain ⟨x1, x2, x3, p1, p2, p3, rfl, hm⟩ := d5
  have HM := hid_of' hm
  clear hm
  go_wp2
  exact hK.out _ (Below.refl _ _)
 refine ownV_grow (fun vv W => ∃ b, vv = .pointer (some ⟨b, 0, none⟩) ∧ w2.heap.size ≤ b ∧ W.heap[b]? = some (.cells #[.int .i64 0, .slice none 0 0, .slice none 0 0, .slice none 0 0] 34 (0, 0))) (fun v W W2 ⟨b, h1, h2, h3⟩ hb => ⟨b, h1, h2, below_blk hb h3 (Array.getElem?_eq_some_iff.1 h3).1⟩) (by kernel_rfl) (by kernel_rfl) ?_ ?_
 ·intro V W K A hW hd hA hK
  simp only [putAll, List.getElem?_toArray, List.getElem?_cons_succ, List.getElem?_cons_zero, Option.bind_some, Act.put, List.setIfInBounds_toArray, List.set_cons_succ, List.set_cons_zero] at hA
  clear hd
  generalize V 0 = x0 at hA
  generalize V 1 = x1 at hA
  generalize V 2 = x2 at hA
  generalize V 3 = x3 at hA
  generalize V 4 = x4 at hA
  generalize V 5 = x5 at hA
  generalize V 6 = x6 at hA
  generalize V 7 = x7 at hA
  generalize V 8 = x8 at hA
  generalize V 9 = x9 at hA
  obtain rfl := hA
  go_wp2
  exact hK.out _ _ (below_box W _) ⟨_, rfl, hW.size, heap_alloc_new W _⟩
 refine ownV_own (fun V (_ : Value) W => ∃ (b : Nat) (x1 x2 x3 : Option Addr) (p1 p2 p3 : Nat), V 8 = .pointer (some ⟨b, 0, none⟩) ∧ w2.heap.size ≤ b ∧ W.heap[b]? = some (.cells #[.int .i64 Y.now, .slice x1 Y.svcs.length p1, .slice x2 Y.cps.length p2, .slice x3 Y.bts.length p3] 34 (0, 0)) ∧ BkAt W x1 x2 x3 Y) (fun V v W W2 ⟨b, x1, x2, x3, p1, p2, p3, hv, hn, h, hm⟩ hb => ⟨b, x1, x2, x3, p1, p2, p3, hv, hn, below_blk hb h (Array.getElem?_eq_some_iff.1 h).1, hm.below hb⟩) (fun v V V2 W hVV ⟨b, x1, x2, x3, p1, p2, p3, hv, hr⟩ => ⟨b, x1, x2, x3, p1, p2, p3, (hVV 8 rfl).symm.trans hv, hr⟩) (by kernel_rfl) (by kernel_rfl) ?_ ?_
 ·intro V W K A hW hd hA hK
  have d6 : (fun vv W => ∃ (x1 x2 x3 : Option Addr) (p1 p2 p3 : Nat), vv = .agg #[.int .i64 Y.now, .slice x1 Y.svcs.length p1, .slice x2 Y.cps.length p2, .slice x3 Y.bts.length p3] ∧ BkAt W x1 x2 x3 Y) (V 6) W := hd 6 (by kernel_rfl)
  have d8 : (fun vv W => ∃ b, vv = .pointer (some ⟨b, 0, none⟩) ∧ w2.heap.size ≤ b ∧ W.heap[b]? = some (.cells #[.int .i64 0, .slice none 0 0, .slice none 0 0, .slice none 0 0] 34 (0, 0))) (V 8) W := hd 8 (by kernel_rfl)
  simp only [putAll, List.getElem?_toArray, List.getElem?_cons_succ, List.getElem?_cons_zero, Option.bind_some, Act.put, List.setIfInBounds_toArray, List.set_cons_succ, List.set_cons_zero] at hA
  clear hd
  generalize hV0 : V 0 = x0 at hA hK
  generalize hV1 : V 1 = x1 at hA hK
  generalize hV2 : V 2 = x2 at hA hK
  generalize hV3 : V 3 = x3 at hA hK
  generalize hV4 : V 4 = x4 at hA hK
  generalize hV5 : V 5 = x5 at hA hK
  generalize hV6 : V 6 = x6 at d6 hA hK
  generalize hV7 : V 7 = x7 at hA hK
  generalize hV8 : V 8 = x8 at d8 hA hK
  generalize hV9 : V 9 = x9 at hA hK
  obtain rfl := hA
  obtain ⟨x1, x2, x3, p1, p2, p3, rfl, hm⟩ := d6
  obtain ⟨b, rfl, hbN, hbz⟩ := d8
  have HM := hid_of' hm
  have hsz := hW.size
  clear hm hV0 hV1 hV2 hV3 hV4 hV5 hV6 hV7 hV8 hV9
  refine wpList_store_only rfl 34 (.tmp 6) (.tmp 32) rfl b 0 #[.int .i64 Y.now, .slice x1 Y.svcs.length p1, .slice x2 Y.cps.length p2, .slice x3 Y.bts.length p3] rfl rfl 34 #[.int .i64 0, .slice none 0 0, .slice none 0 0, .slice none 0 0] hbz Tryz.infosBkX (Nat.le_of_ble_eq_true rfl) (by simp [Value.oneCell']) ?_
  intro u2 hz on
  have HZ2 : Hid (u2.heap[b]? = some (.cells #[.int .i64 Y.now, .slice x1 Y.svcs.length p1, .slice x2 Y.cps.length p2, .slice x3 Y.bts.length p3] 34 (0, 0))) := hz
  have HON : Hid (Only b W u2) := on
  have HBZ := hid_of' hbz
  clear hz on hbz
  go_wp2
  refine hK.out undef _ ?_ (HON.out.below.mono' (by omega)) ⟨b, x1, x2, x3, p1, p2, p3, rfl, hbN, HZ2.out, HM.out.book HBZ.out HON.out⟩
  exact ⟨b, HBZ.out, HON.out⟩
 refine ⟨fun i j hk V v W W' hr hq => ?_, ?_⟩
 ·simp only [List.contains_cons, List.contains_nil, Bool.or_false, Bool.or_eq_true, beq_iff_eq, Prod.mk.injEq] at hk
  obtain ⟨rfl, rfl⟩ := hk
  have hq' : (fun vv W => ∃ (x1 x2 x3 : Option Addr) (p1 p2 p3 : Nat), vv = .tuple #[.agg #[.int .i64 Y.now, .slice x1 Y.svcs.length p1, .slice x2 Y.cps.length p2, .slice x3 Y.bts.length p3], .int .i64 cd] ∧ BkAt W x1 x2 x3 Y) (v) W := hq
  show (fun vv W => ∃ (x1 x2 x3 : Option Addr) (p1 p2 p3 : Nat), vv = .tuple #[.agg #[.int .i64 Y.now, .slice x1 Y.svcs.length p1, .slice x2 Y.cps.length p2, .slice x3 Y.bts.length p3], .int .i64 cd] ∧ BkAt W x1 x2 x3 Y) (v) W'
  clear hq
  obtain ⟨x1, x2, x3, p1, p2, p3, h, hm⟩ := hq'
  obtain ⟨b, hbz, on⟩ := hr
  exact ⟨x1, x2, x3, p1, p2, p3, h, hm.book hbz on⟩
 intro V W A hW hS hA
 have d0 : V 0 = _ := hS 0 (by omega) (.inr (by kernel_rfl))
 have d2 : V 2 = _ := hS 2 (by omega) (.inr (by kernel_rfl))
 have d3 : V 3 = _ := hS 3 (by omega) (.inr (by kernel_rfl))
 have d7 : V 7 = _ := hS 7 (by omega) (.inr (by kernel_rfl))
 have d9 : (fun V (_ : Value) W => ∃ (b : Nat) (x1 x2 x3 : Option Addr) (p1 p2 p3 : Nat), V 8 = .pointer (some ⟨b, 0, none⟩) ∧ w2.heap.size ≤ b ∧ W.heap[b]? = some (.cells #[.int .i64 Y.now, .slice x1 Y.svcs.length p1, .slice x2 Y.cps.length p2, .slice x3 Y.bts.length p3] 34 (0, 0)) ∧ BkAt W x1 x2 x3 Y) V (V 9) W := hS 9 (by omega) (.inl (by kernel_rfl))
 simp only [putAll, List.getElem?_toArray, List.getElem?_cons_succ, List.getElem?_cons_zero, Option.bind_some, Act.put, List.setIfInBounds_toArray, List.set_cons_succ, List.set_cons_zero] at hA
 dsimp only at d9
 clear hS
 generalize V 0 = x0 at d0 hA
 generalize V 1 = x1 at hA
 generalize V 2 = x2 at d2 hA
 generalize V 3 = x3 at d3 hA
 generalize V 4 = x4 at hA
 generalize V 5 = x5 at hA
 generalize V 6 = x6 at hA
 generalize V 7 = x7 at d7 hA
 generalize V 8 = x8 at d9 hA
 generalize V 9 = x9 at d9 hA
 subst d0
 subst d2
 subst d3
 subst d7
 obtain rfl := hA
 simp only [List.drop_succ_cons, List.drop_zero]
 obtain ⟨w3, rfl⟩ : ∃ w3, w3 = W := ⟨_, rfl⟩
 obtain ⟨bS, sx1, sx2, sx3, sp1, sp2, sp3, rfl, hbS, hzS, hmS⟩ := d9
 have ZS3 := hid_of' hzS
 have MS3 := hid_of' hmS
 have hb3 := hb2.trans (hW.mono' hb2.size)
 have X3 : Hid (w3.heap[w.heap.size]? = some (.cells #[.int .i64 B.now, .slice a1 B.svcs.length c1, .slice a2 B.cps.length c2, .slice a3 B.bts.length c3] 26 (0, 0))) := below_blk hW X2.out (by omega)
 have E3 : Hid (w3.heap[w.heap.size + 1]? = some (.cells #[.int .i64 E.kind, .string E.service.name, .int .i64 E.service.version, .bool E.service.gone, .int .i64 E.service.image, .int .i64 E.service.want, .int .i64 E.service.down, .int .i64 E.service.over, .int .i64 E.service.next, .int .i64 E.service.per, .int .i64 E.service.least, .int .i64 E.service.most, .int .i64 E.service.load, .int .i64 E.service.cool, .string E.name, .int .i64 E.number, .bool E.flag] 44 (0, 0))) := below_blk hW E2.out (by omega)
 have hz3 : w.heap.size + 1 < w3.heap.size := (Array.getElem?_eq_some_iff.1 E3.out).1
 have hzb3 : bS < w3.heap.size := (Array.getElem?_eq_some_iff.1 ZS3.out).1
 clear hW hzS hmS X2 E2 hb2 hz2 hbS
 have f0 := blk_cell X3.out 0 rfl
 have f1 := blk_cell X3.out 1 rfl
 have f2 := blk_cell X3.out 2 rfl
 have f3 := blk_cell X3.out 3 rfl
 go_upto_region 9 with fail
 go_wp2_with fail
 refine (toBook_own B a1 a2 a3 c1 c2 c3 w3 (hB.below hb3) hS).mono ?_
 rintro e w4 ⟨b1, b2, b3, rfl, hO, hbq⟩
 have O4 : Hid (BkOwn w3.heap.size w4 b1 b2 b3 B) := hO
 have hlt3 := hO.bts.lt
 have hlo1 := hO.lo1
 have h12 := hO.lt12
 have h23 := hO.lt23
 have hc4 : Below w3.heap.size w3 w4 := hbq
 clear hO hbq f0 f1 f2 f3
 obtain ⟨u4, hu4⟩ : ∃ W, w4.alloc (.cells #[.int .i64 0, .slice none 0 0, .slice none 0 0, .slice none 0 0] 34) = W := ⟨_, rfl⟩
 have hbu := below_box w4 (.cells #[.int .i64 0, .slice none 0 0, .slice none 0 0, .slice none 0 0] 34)
 obtain ⟨bI, hbIe⟩ : ∃ q, w4.heap.size = q := ⟨_, rfl⟩
 have S4 : Hid (u4.heap[bI]? = some (.cells #[.int .i64 0, .slice none 0 0, .slice none 0 0, .slice none 0 0] 34 (0, 0))) := by unfold Hid; rw [← hu4, ← hbIe]; exact heap_alloc_new w4 (.cells #[.int .i64 0, .slice none 0 0, .slice none 0 0, .slice none 0 0] 34)
 rw [hu4] at hbu
 have hsI : w4.heap.size ≤ bI := by omega
 have hsI' : bI ≤ w4.heap.size := by omega
 go_upto_region 10 with (refine wpList_store_only rfl 34 (.tmp 8) (.tmp 35) rfl bI 0 #[.int .i64 B.now, .slice (some ⟨b1, 0, none⟩) B.svcs.length B.svcs.length, .slice (some ⟨b2, 0, none⟩) B.cps.length B.cps.length, .slice (some ⟨b3, 0, none⟩) B.bts.length B.bts.length] rfl rfl 34 #[.int .i64 0, .slice none 0 0, .slice none 0 0, .slice none 0 0] S4.out Tryz.infosBkX (Nat.le_of_ble_eq_true rfl) (by simp [Value.oneCell']) ?_; intro w5 hz on; have I5 : Hid (w5.heap[bI]? = some (.cells #[.int .i64 B.now, .slice (some ⟨b1, 0, none⟩) B.svcs.length B.svcs.length, .slice (some ⟨b2, 0, none⟩) B.cps.length B.cps.length, .slice (some ⟨b3, 0, none⟩) B.bts.length B.bts.length] 34 (0, 0))) := hz; have hd5 : Below w4.heap.size w4 w5 := hbu.trans (on.below.mono' hsI); clear hz on)
 have O5 := hid_of' (O4.out.below hd5 hlt3)
 have hc5 : Below w3.heap.size w3 w5 := hc4.trans (hd5.mono' hc4.size)
 have X5 : Hid (w5.heap[w.heap.size]? = some (.cells #[.int .i64 B.now, .slice a1 B.svcs.length c1, .slice a2 B.cps.length c2, .slice a3 B.bts.length c3] 26 (0, 0))) := below_blk hc5 X3.out (by omega)
 have E5 : Hid (w5.heap[w.heap.size + 1]? = some (.cells #[.int .i64 E.kind, .string E.service.name, .int .i64 E.service.version, .bool E.service.gone, .int .i64 E.service.image, .int .i64 E.service.want, .int .i64 E.service.down, .int .i64 E.service.over, .int .i64 E.service.next, .int .i64 E.service.per, .int .i64 E.service.least, .int .i64 E.service.most, .int .i64 E.service.load, .int .i64 E.service.cool, .string E.name, .int .i64 E.number, .bool E.flag] 44 (0, 0))) := below_blk hc5 E3.out (by omega)
 have hI5 : bI < w5.heap.size := (Array.getElem?_eq_some_iff.1 I5.out).1
 have hz5 : w3.heap.size ≤ w5.heap.size := hc5.size
 clear hu4 hbIe hbu S4 O4 hc4 hd5
 refine wp_region_ownsV 9 3 [[], [], [1], [0, 2], [3], [4], [4], [], [5, 7]] [8] [3, 4, 5, 7, 8] [8] [(8, 4)] (fun _ W W2 => ∃ b, W.heap[b]? = some (.cells #[.int .i64 0, .slice none 0 0, .slice none 0 0, .slice none 0 0] 34 (0, 0)) ∧ Only b W W2) (by kernel_rfl) (by kernel_rfl) (by kernel_rfl) ?_
 apply ownV_eq (by kernel_rfl)
 ·intro V W K A hW hd hA hK
  simp only [putAll, List.getElem?_toArray, List.getElem?_cons_succ, List.getElem?_cons_zero, Option.bind_some, Act.put, List.setIfInBounds_toArray, List.set_cons_succ, List.set_cons_zero] at hA
  clear hd
  generalize V 0 = x0 at hA
  generalize V 1 = x1 at hA
  generalize V 2 = x2 at hA
  generalize V 3 = x3 at hA
  generalize V 4 = x4 at hA
  generalize V 5 = x5 at hA
  generalize V 6 = x6 at hA
  generalize V 7 = x7 at hA
  generalize V 8 = x8 at hA
  obtain rfl := hA
  refine wpList_load_row rfl 34 (.tmp 8) rfl bI rfl 34 #[.int .i64 B.now, .slice (some ⟨b1, 0, none⟩) B.svcs.length B.svcs.length, .slice (some ⟨b2, 0, none⟩) B.cps.length B.cps.length, .slice (some ⟨b3, 0, none⟩) B.bts.length B.bts.length] (0, 0) _ (below_blk hW I5.out (by omega)) Tryz.underlying34 rfl Tryz.infosBkX ?_
  go_wp2
  exact hK.out _ (Below.refl _ _)
 apply ownV_eq (by kernel_rfl)
 ·intro V W K A hW hd hA hK
  simp only [putAll, List.getElem?_toArray, List.getElem?_cons_succ, List.getElem?_cons_zero, Option.bind_some, Act.put, List.setIfInBounds_toArray, List.set_cons_succ, List.set_cons_zero] at hA
  clear hd
  generalize V 0 = x0 at hA
  generalize V 1 = x1 at hA
  generalize V 2 = x2 at hA
  generalize V 3 = x3 at hA
  generalize V 4 = x4 at hA
  generalize V 5 = x5 at hA
  generalize V 6 = x6 at hA
  generalize V 7 = x7 at hA
  generalize V 8 = x8 at hA
  obtain rfl := hA
  refine wpList_load_row rfl 44 (.tmp 3) rfl (w.heap.size + 1) rfl 44 #[.int .i64 E.kind, .string E.service.name, .int .i64 E.service.version, .bool E.service.gone, .int .i64 E.service.image, .int .i64 E.service.want, .int .i64 E.service.down, .int .i64 E.service.over, .int .i64 E.service.next, .int .i64 E.service.per, .int .i64 E.service.least, .int .i64 E.service.most, .int .i64 E.service.load, .int .i64 E.service.cool, .string E.name, .int .i64 E.number, .bool E.flag] (0, 0) _ (below_blk hW E5.out (by omega)) Tryz.underlying44 rfl Tryz.infosEvL ?_
  go_wp2
  exact hK.out _ (Below.refl _ _)
 apply ownV_eq (by kernel_rfl)
 ·intro V W K A hW hd hA hK
  have d1 : V 1 = _ := hd 1 (by kernel_rfl)
  simp only [putAll, List.getElem?_toArray, List.getElem?_cons_succ, List.getElem?_cons_zero, Option.bind_some, Act.put, List.setIfInBounds_toArray, List.set_cons_succ, List.set_cons_zero] at hA
  clear hd
  generalize V 0 = x0 at hA
  generalize V 1 = x1 at d1 hA
  generalize V 2 = x2 at hA
  generalize V 3 = x3 at hA
  generalize V 4 = x4 at hA
  generalize V 5 = x5 at hA
  generalize V 6 = x6 at hA
  generalize V 7 = x7 at hA
  generalize V 8 = x8 at hA
  subst d1
  obtain rfl := hA
  go_wp2_with fail
  refine (toEvent_any E W).mono ?_
  rintro e u2 ⟨rfl, hbq⟩
  have HBQ := hid_of' hbq
  clear hbq
  go_wp2
  exact hK.out _ HBQ.out
 refine ownV_grow (fun vv W => ∃ (x1 x2 x3 : Option Addr) (p1 p2 p3 : Nat), vv = .tuple #[.agg #[.int .i64 Y.now, .slice x1 Y.svcs.length p1, .slice x2 Y.cps.length p2, .slice x3 Y.bts.length p3], .int .i64 cd] ∧ BkOf W w5.heap.size Y x1 x2 x3 p1 p2 p3) (fun v W W2 ⟨x1, x2, x3, p1, p2, p3, h, hm⟩ hb => ⟨x1, x2, x3, p1, p2, p3, h, hm.below hb⟩) (by kernel_rfl) (by kernel_rfl) ?_ ?_
 ·intro V W K A hW hd hA hK
  have d0 : V 0 = _ := hd 0 (by kernel_rfl)
  have d2 : V 2 = _ := hd 2 (by kernel_rfl)
  simp only [putAll, List.getElem?_toArray, List.getElem?_cons_succ, List.getElem?_cons_zero, Option.bind_some, Act.put, List.setIfInBounds_toArray, List.set_cons_succ, List.set_cons_zero] at hA
  clear hd
  generalize V 0 = x0 at d0 hA
  generalize V 1 = x1 at hA
  generalize V 2 = x2 at d2 hA
  generalize V 3 = x3 at hA
  generalize V 4 = x4 at hA
  generalize V 5 = x5 at hA
  generalize V 6 = x6 at hA
  generalize V 7 = x7 at hA
  generalize V 8 = x8 at hA
  subst d0
  subst d2
  obtain rfl := hA
  go_wp2_with fail
  refine (implSea_any B E _ _ _ _ _ _ W hS hZ hwf hE (O5.out.below hW (by omega)).at).mono ?_
  rw [HY.out]
  rintro e u2 ⟨x1, x2, x3, p1, p2, p3, rfl, hm, hbq⟩
  have HM := hid_of' (hm.mono hW.size)
  clear hm
  go_wp2
  exact hK.out _ _ hbq ⟨x1, x2, x3, p1, p2, p3, rfl, HM.out⟩
 refine ownV_grow (fun vv W => ∃ (x1 x2 x3 : Option Addr) (p1 p2 p3 : Nat), vv = .tuple #[.agg #[.int .i64 Y.now, .slice x1 Y.svcs.length p1, .slice x2 Y.cps.length p2, .slice x3 Y.bts.length p3], .int .i64 cd] ∧ BkOf W w5.heap.size Y x1 x2 x3 p1 p2 p3) (fun v W W2 ⟨x1, x2, x3, p1, p2, p3, h, hm⟩ hb => ⟨x1, x2, x3, p1, p2, p3, h, hm.below hb⟩) (by kernel_rfl) (by kernel_rfl) ?_ ?_
 ·intro V W K A hW hd hA hK
  have d3 : (fun vv W => ∃ (x1 x2 x3 : Option Addr) (p1 p2 p3 : Nat), vv = .tuple #[.agg #[.int .i64 Y.now, .slice x1 Y.svcs.length p1, .slice x2 Y.cps.length p2, .slice x3 Y.bts.length p3], .int .i64 cd] ∧ BkOf W w5.heap.size Y x1 x2 x3 p1 p2 p3) (V 3) W := hd 3 (by kernel_rfl)
  simp only [putAll, List.getElem?_toArray, List.getElem?_cons_succ, List.getElem?_cons_zero, Option.bind_some, Act.put, List.setIfInBounds_toArray, List.set_cons_succ, List.set_cons_zero] at hA
  clear hd
  generalize V 0 = x0 at hA
  generalize V 1 = x1 at hA
  generalize V 2 = x2 at hA
  generalize V 3 = x3 at d3 hA
  generalize V 4 = x4 at hA
  generalize V 5 = x5 at hA
  generalize V 6 = x6 at hA
  generalize V 7 = x7 at hA
  generalize V 8 = x8 at hA
  obtain rfl := hA
  obtain ⟨x1, x2, x3, p1, p2, p3, rfl, hm⟩ := d3
  have HM := hid_of' hm
  clear hm
  go_wp2
  exact hK.out _ _ (Below.refl _ _) ⟨x1, x2, x3, p1, p2, p3, rfl, HM.out⟩
 refine ownV_grow (fun vv W => ∃ (x1 x2 x3 : Option Addr) (p1 p2 p3 : Nat), vv = .agg #[.int .i64 Y.now, .slice x1 Y.svcs.length p1, .slice x2 Y.cps.length p2, .slice x3 Y.bts.length p3] ∧ BkOf W w5.heap.size Y x1 x2 x3 p1 p2 p3) (fun v W W2 ⟨x1, x2, x3, p1, p2, p3, h, hm⟩ hb => ⟨x1, x2, x3, p1, p2, p3, h, hm.below hb⟩) (by kernel_rfl) (by kernel_rfl) ?_ ?_
 ·intro V W K A hW hd hA hK
  have d4 : (fun vv W => ∃ (x1 x2 x3 : Option Addr) (p1 p2 p3 : Nat), vv = .tuple #[.agg #[.int .i64 Y.now, .slice x1 Y.svcs.length p1, .slice x2 Y.cps.length p2, .slice x3 Y.bts.length p3], .int .i64 cd] ∧ BkOf W w5.heap.size Y x1 x2 x3 p1 p2 p3) (V 4) W := hd 4 (by kernel_rfl)
  simp only [putAll, List.getElem?_toArray, List.getElem?_cons_succ, List.getElem?_cons_zero, Option.bind_some, Act.put, List.setIfInBounds_toArray, List.set_cons_succ, List.set_cons_zero] at hA
  clear hd
  generalize V 0 = x0 at hA
  generalize V 1 = x1 at hA
  generalize V 2 = x2 at hA
  generalize V 3 = x3 at hA
  generalize V 4 = x4 at d4 hA
  generalize V 5 = x5 at hA
  generalize V 6 = x6 at hA
  generalize V 7 = x7 at hA
  generalize V 8 = x8 at hA
  obtain rfl := hA
  obtain ⟨x1, x2, x3, p1, p2, p3, rfl, hm⟩ := d4
  have HM := hid_of' hm
  clear hm
  go_wp2
  exact hK.out _ _ (Below.refl _ _) ⟨x1, x2, x3, p1, p2, p3, rfl, HM.out⟩
 apply ownV_eq (by kernel_rfl)
 ·intro V W K A hW hd hA hK
  have d4 : (fun vv W => ∃ (x1 x2 x3 : Option Addr) (p1 p2 p3 : Nat), vv = .tuple #[.agg #[.int .i64 Y.now, .slice x1 Y.svcs.length p1, .slice x2 Y.cps.length p2, .slice x3 Y.bts.length p3], .int .i64 cd] ∧ BkOf W w5.heap.size Y x1 x2 x3 p1 p2 p3) (V 4) W := hd 4 (by kernel_rfl)
  simp only [putAll, List.getElem?_toArray, List.getElem?_cons_succ, List.getElem?_cons_zero, Option.bind_some, Act.put, List.setIfInBounds_toArray, List.set_cons_succ, List.set_cons_zero] at hA
  clear hd
  generalize V 0 = x0 at hA
  generalize V 1 = x1 at hA
  generalize V 2 = x2 at hA
  generalize V 3 = x3 at hA
  generalize V 4 = x4 at d4 hA
  generalize V 5 = x5 at hA
  generalize V 6 = x6 at hA
  generalize V 7 = x7 at hA
  generalize V 8 = x8 at hA
  obtain rfl := hA
  obtain ⟨x1, x2, x3, p1, p2, p3, rfl, hm⟩ := d4
  have HM := hid_of' hm
  clear hm
  go_wp2
  exact hK.out _ (Below.refl _ _)
 refine ownV_grow (fun vv W => ∃ b, vv = .pointer (some ⟨b, 0, none⟩) ∧ w5.heap.size ≤ b ∧ W.heap[b]? = some (.cells #[.int .i64 0, .slice none 0 0, .slice none 0 0, .slice none 0 0] 34 (0, 0))) (fun v W W2 ⟨b, h1, h2, h3⟩ hb => ⟨b, h1, h2, below_blk hb h3 (Array.getElem?_eq_some_iff.1 h3).1⟩) (by kernel_rfl) (by kernel_rfl) ?_ ?_
 ·intro V W K A hW hd hA hK
  simp only [putAll, List.getElem?_toArray, List.getElem?_cons_succ, List.getElem?_cons_zero, Option.bind_some, Act.put, List.setIfInBounds_toArray, List.set_cons_succ, List.set_cons_zero] at hA
  clear hd
  generalize V 0 = x0 at hA
  generalize V 1 = x1 at hA
  generalize V 2 = x2 at hA
  generalize V 3 = x3 at hA
  generalize V 4 = x4 at hA
  generalize V 5 = x5 at hA
  generalize V 6 = x6 at hA
  generalize V 7 = x7 at hA
  generalize V 8 = x8 at hA
  obtain rfl := hA
  go_wp2
  exact hK.out _ _ (below_box W _) ⟨_, rfl, hW.size, heap_alloc_new W _⟩
 refine ownV_own (fun V (_ : Value) W => ∃ (b : Nat) (x1 x2 x3 : Option Addr) (p1 p2 p3 : Nat), V 7 = .pointer (some ⟨b, 0, none⟩) ∧ w5.heap.size ≤ b ∧ W.heap[b]? = some (.cells #[.int .i64 Y.now, .slice x1 Y.svcs.length p1, .slice x2 Y.cps.length p2, .slice x3 Y.bts.length p3] 34 (0, 0)) ∧ BkOf W w5.heap.size Y x1 x2 x3 p1 p2 p3) (fun V v W W2 ⟨b, x1, x2, x3, p1, p2, p3, hv, hn, h, hm⟩ hb => ⟨b, x1, x2, x3, p1, p2, p3, hv, hn, below_blk hb h (Array.getElem?_eq_some_iff.1 h).1, hm.below hb⟩) (fun v V V2 W hVV ⟨b, x1, x2, x3, p1, p2, p3, hv, hr⟩ => ⟨b, x1, x2, x3, p1, p2, p3, (hVV 7 rfl).symm.trans hv, hr⟩) (by kernel_rfl) (by kernel_rfl) ?_ ?_
 ·intro V W K A hW hd hA hK
  have d5 : (fun vv W => ∃ (x1 x2 x3 : Option Addr) (p1 p2 p3 : Nat), vv = .agg #[.int .i64 Y.now, .slice x1 Y.svcs.length p1, .slice x2 Y.cps.length p2, .slice x3 Y.bts.length p3] ∧ BkOf W w5.heap.size Y x1 x2 x3 p1 p2 p3) (V 5) W := hd 5 (by kernel_rfl)
  have d7 : (fun vv W => ∃ b, vv = .pointer (some ⟨b, 0, none⟩) ∧ w5.heap.size ≤ b ∧ W.heap[b]? = some (.cells #[.int .i64 0, .slice none 0 0, .slice none 0 0, .slice none 0 0] 34 (0, 0))) (V 7) W := hd 7 (by kernel_rfl)
  simp only [putAll, List.getElem?_toArray, List.getElem?_cons_succ, List.getElem?_cons_zero, Option.bind_some, Act.put, List.setIfInBounds_toArray, List.set_cons_succ, List.set_cons_zero] at hA
  clear hd
  generalize hV0 : V 0 = x0 at hA hK
  generalize hV1 : V 1 = x1 at hA hK
  generalize hV2 : V 2 = x2 at hA hK
  generalize hV3 : V 3 = x3 at hA hK
  generalize hV4 : V 4 = x4 at hA hK
  generalize hV5 : V 5 = x5 at d5 hA hK
  generalize hV6 : V 6 = x6 at hA hK
  generalize hV7 : V 7 = x7 at d7 hA hK
  generalize hV8 : V 8 = x8 at hA hK
  obtain rfl := hA
  obtain ⟨x1, x2, x3, p1, p2, p3, rfl, hm⟩ := d5
  obtain ⟨b, rfl, hbN, hbz⟩ := d7
  have HM := hid_of' hm
  have hsz := hW.size
  clear hm hV0 hV1 hV2 hV3 hV4 hV5 hV6 hV7 hV8
  refine wpList_store_only rfl 34 (.tmp 9) (.tmp 41) rfl b 0 #[.int .i64 Y.now, .slice x1 Y.svcs.length p1, .slice x2 Y.cps.length p2, .slice x3 Y.bts.length p3] rfl rfl 34 #[.int .i64 0, .slice none 0 0, .slice none 0 0, .slice none 0 0] hbz Tryz.infosBkX (Nat.le_of_ble_eq_true rfl) (by simp [Value.oneCell']) ?_
  intro u2 hz on
  have HZ2 : Hid (u2.heap[b]? = some (.cells #[.int .i64 Y.now, .slice x1 Y.svcs.length p1, .slice x2 Y.cps.length p2, .slice x3 Y.bts.length p3] 34 (0, 0))) := hz
  have HON : Hid (Only b W u2) := on
  have HBZ := hid_of' hbz
  clear hz on hbz
  go_wp2
  refine hK.out undef _ ?_ (HON.out.below.mono' (by omega)) ⟨b, x1, x2, x3, p1, p2, p3, rfl, hbN, HZ2.out, HM.out.only HON.out HBZ.out (by decide) (by decide) (by decide)⟩
  exact ⟨b, HBZ.out, HON.out⟩
 refine ⟨fun i j hk V v W W' hr hq => ?_, ?_⟩
 ·simp only [List.contains_cons, List.contains_nil, Bool.or_false, Bool.or_eq_true, beq_iff_eq, Prod.mk.injEq] at hk
  obtain ⟨rfl, rfl⟩ := hk
  have hq' : (fun vv W => ∃ (x1 x2 x3 : Option Addr) (p1 p2 p3 : Nat), vv = .tuple #[.agg #[.int .i64 Y.now, .slice x1 Y.svcs.length p1, .slice x2 Y.cps.length p2, .slice x3 Y.bts.length p3], .int .i64 cd] ∧ BkOf W w5.heap.size Y x1 x2 x3 p1 p2 p3) (v) W := hq
  show (fun vv W => ∃ (x1 x2 x3 : Option Addr) (p1 p2 p3 : Nat), vv = .tuple #[.agg #[.int .i64 Y.now, .slice x1 Y.svcs.length p1, .slice x2 Y.cps.length p2, .slice x3 Y.bts.length p3], .int .i64 cd] ∧ BkOf W w5.heap.size Y x1 x2 x3 p1 p2 p3) (v) W'
  clear hq
  obtain ⟨x1, x2, x3, p1, p2, p3, h, hm⟩ := hq'
  obtain ⟨b, hbz, on⟩ := hr
  exact ⟨x1, x2, x3, p1, p2, p3, h, hm.only on hbz (by decide) (by decide) (by decide)⟩
 intro V W A hW hS hA
 have d0 : V 0 = _ := hS 0 (by omega) (.inr (by kernel_rfl))
 have d1 : V 1 = _ := hS 1 (by omega) (.inr (by kernel_rfl))
 have d2 : V 2 = _ := hS 2 (by omega) (.inr (by kernel_rfl))
 have d6 : V 6 = _ := hS 6 (by omega) (.inr (by kernel_rfl))
 have d8 : (fun V (_ : Value) W => ∃ (b : Nat) (x1 x2 x3 : Option Addr) (p1 p2 p3 : Nat), V 7 = .pointer (some ⟨b, 0, none⟩) ∧ w5.heap.size ≤ b ∧ W.heap[b]? = some (.cells #[.int .i64 Y.now, .slice x1 Y.svcs.length p1, .slice x2 Y.cps.length p2, .slice x3 Y.bts.length p3] 34 (0, 0)) ∧ BkOf W w5.heap.size Y x1 x2 x3 p1 p2 p3) V (V 8) W := hS 8 (by omega) (.inl (by kernel_rfl))
 simp only [putAll, List.getElem?_toArray, List.getElem?_cons_succ, List.getElem?_cons_zero, Option.bind_some, Act.put, List.setIfInBounds_toArray, List.set_cons_succ, List.set_cons_zero] at hA
 dsimp only at d8
 clear hS
 generalize V 0 = x0 at d0 hA
 generalize V 1 = x1 at d1 hA
 generalize V 2 = x2 at d2 hA
 generalize V 3 = x3 at hA
 generalize V 4 = x4 at hA
 generalize V 5 = x5 at hA
 generalize V 6 = x6 at d6 hA
 generalize V 7 = x7 at d8 hA
 generalize V 8 = x8 at d8 hA
 subst d0
 subst d1
 subst d2
 subst d6
 obtain rfl := hA
 simp only [List.drop_succ_cons, List.drop_zero]
 obtain ⟨w6, rfl⟩ : ∃ w6, w6 = W := ⟨_, rfl⟩
 obtain ⟨bG, gx1, gx2, gx3, gp1, gp2, gp3, rfl, hbG, hzG, hmG⟩ := d8
 have G6 := hid_of' hzG
 have MG6 := hid_of' hmG
 have hc6 : Below w3.heap.size w3 w6 := hc5.trans (hW.mono' hc5.size)
 have I6 := hid_of' (below_blk hW I5.out hI5)
 have O6 := hid_of' (O5.out.below hW (by omega))
 have hI6 : bI < w6.heap.size := (Array.getElem?_eq_some_iff.1 I6.out).1
 have hs6 : w5.heap.size ≤ w6.heap.size := hW.size
 clear hW hzG hmG I5 O5 hc5 X5 E5
 have g0 := blk_cell G6.out 0 rfl
 have g1 := blk_cell G6.out 1 rfl
 have g2 := blk_cell G6.out 2 rfl
 have g3 := blk_cell G6.out 3 rfl
 have s0 := blk_cell (below_blk hc6 ZS3.out hzb3) 0 rfl
 have s1 := blk_cell (below_blk hc6 ZS3.out hzb3) 1 rfl
 have s2 := blk_cell (below_blk hc6 ZS3.out hzb3) 2 rfl
 have s3 := blk_cell (below_blk hc6 ZS3.out hzb3) 3 rfl
 go_upto_region 11 with fail
 go_wp2_with fail
 refine (eqBook_same Y gx1 gx2 gx3 sx1 sx2 sx3 gp1 gp2 gp3 sp1 sp2 sp3 w6 HSY.out MG6.out.at (MS3.out.below hc6)).mono ?_
 rintro e w7 ⟨rfl, hbq⟩
 have hc7 : Below w3.heap.size w3 w7 := hc6.trans (hbq.mono' hc6.size)
 have G7 := hid_of' (below_blk hbq G6.out (Array.getElem?_eq_some_iff.1 G6.out).1)
 have MG7 := hid_of' (MG6.out.below hbq)
 have I7 := hid_of' (below_blk hbq I6.out hI6)
 have O7 := hid_of' (O6.out.below hbq (by omega))
 have hI7 : bI < w7.heap.size := (Array.getElem?_eq_some_iff.1 I7.out).1
 have hs7 : w5.heap.size ≤ w7.heap.size := Nat.le_trans hs6 hbq.size
 clear hbq G6 MG6 I6 O6 hc6 hs6 hI6
 clear g0 g1 g2 g3 s0 s1 s2 s3
 go_upto_region 13 with fail
 refine wp_region_grows 4 (by kernel_rfl) (by kernel_rfl) ?_
 apply grow_eq
 ·intro V W K A hW hd hA hK
  simp only [putAll, List.getElem?_toArray, List.getElem?_cons_succ, List.getElem?_cons_zero, Option.bind_some, Act.put, List.setIfInBounds_toArray, List.set_cons_succ, List.set_cons_zero] at hA
  clear hd
  generalize V 0 = x0 at hA
  generalize V 1 = x1 at hA
  generalize V 2 = x2 at hA
  generalize V 3 = x3 at hA
  obtain rfl := hA
  refine wpList_load_row rfl 34 (.tmp 8) rfl bI rfl 34 #[.int .i64 B.now, .slice (some ⟨b1, 0, none⟩) B.svcs.length B.svcs.length, .slice (some ⟨b2, 0, none⟩) B.cps.length B.cps.length, .slice (some ⟨b3, 0, none⟩) B.bts.length B.bts.length] (0, 0) _ (below_blk hW I7.out hI7) Tryz.underlying34 rfl Tryz.infosBkX ?_
  go_wp2
  exact hK.out _ (Below.refl _ _)
 apply grow_eq
 ·intro V W K A hW hd hA hK
  simp only [putAll, List.getElem?_toArray, List.getElem?_cons_succ, List.getElem?_cons_zero, Option.bind_some, Act.put, List.setIfInBounds_toArray, List.set_cons_succ, List.set_cons_zero] at hA
  clear hd
  generalize V 0 = x0 at hA
  generalize V 1 = x1 at hA
  generalize V 2 = x2 at hA
  generalize V 3 = x3 at hA
  obtain rfl := hA
  refine wpList_load_row rfl 26 (.tmp 2) rfl w.heap.size rfl 26 #[.int .i64 B.now, .slice a1 B.svcs.length c1, .slice a2 B.cps.length c2, .slice a3 B.bts.length c3] (0, 0) _ (below_blk (hc7.trans (hW.mono' hc7.size)) X3.out (by omega)) Tryz.underlying26 rfl Tryz.infosBkL ?_
  go_wp2
  exact hK.out _ (Below.refl _ _)
 refine grow_op (fun vv W => ∃ y1 y2 y3, vv = .agg #[.int .i64 B.now, .slice y1 B.svcs.length B.svcs.length, .slice y2 B.cps.length B.cps.length, .slice y3 B.bts.length B.bts.length] ∧ BkAt W y1 y2 y3 B) (fun v W W2 ⟨y1, y2, y3, h1, h2⟩ hb => ⟨y1, y2, y3, h1, h2.below hb⟩) ?_ ?_
 ·intro V W K A hW hd hA hK
  have d1 : V 1 = _ := hd 1 (by kernel_rfl)
  simp only [putAll, List.getElem?_toArray, List.getElem?_cons_succ, List.getElem?_cons_zero, Option.bind_some, Act.put, List.setIfInBounds_toArray, List.set_cons_succ, List.set_cons_zero] at hA
  clear hd
  generalize V 0 = x0 at hA
  generalize V 1 = x1 at d1 hA
  generalize V 2 = x2 at hA
  generalize V 3 = x3 at hA
  subst d1
  obtain rfl := hA
  go_wp2_with fail
  refine (toBook_any B a1 a2 a3 c1 c2 c3 W (hB.below (hb3.trans ((hc7.trans (hW.mono' hc7.size)).mono' hb3.size))) hS).mono ?_
  rintro e u2 ⟨y1, y2, y3, rfl, hX, hbq⟩
  have HX := hid_of' hX
  clear hX
  go_wp2
  exact hK.out _ _ hbq ⟨y1, y2, y3, rfl, HX.out⟩
 apply grow_eq
 ·intro V W K A hW hd hA hK
  have d0 : V 0 = _ := hd 0 (by kernel_rfl)
  have d2 : (fun vv W => ∃ y1 y2 y3, vv = .agg #[.int .i64 B.now, .slice y1 B.svcs.length B.svcs.length, .slice y2 B.cps.length B.cps.length, .slice y3 B.bts.length B.bts.length] ∧ BkAt W y1 y2 y3 B) (V 2) W := hd 2 (by kernel_rfl)
  simp only [putAll, List.getElem?_toArray, List.getElem?_cons_succ, List.getElem?_cons_zero, Option.bind_some, Act.put, List.setIfInBounds_toArray, List.set_cons_succ, List.set_cons_zero] at hA
  clear hd
  generalize V 0 = x0 at d0 hA
  generalize V 1 = x1 at hA
  generalize V 2 = x2 at d2 hA
  generalize V 3 = x3 at hA
  subst d0
  obtain rfl := hA
  obtain ⟨y1, y2, y3, rfl, hX⟩ := d2
  have HX := hid_of' hX
  clear hX
  go_wp2_with fail
  refine (eqBook_same B _ _ _ y1 y2 y3 _ _ _ _ _ _ W hS (O7.out.below hW (by omega)).at HX.out).mono ?_
  rintro e u2 ⟨rfl, hbq⟩
  go_wp2
  exact hK.out _ hbq
 intro V W A hW hS hA
 have d0 : V 0 = _ := hS 0 (by omega)
 have d1 : V 1 = _ := hS 1 (by omega)
 have d2 : (fun vv W => ∃ y1 y2 y3, vv = .agg #[.int .i64 B.now, .slice y1 B.svcs.length B.svcs.length, .slice y2 B.cps.length B.cps.length, .slice y3 B.bts.length B.bts.length] ∧ BkAt W y1 y2 y3 B) (V 2) W := hS 2 (by omega)
 have d3 : V 3 = _ := hS 3 (by omega)
 simp only [putAll, List.getElem?_toArray, List.getElem?_cons_succ, List.getElem?_cons_zero, Option.bind_some, Act.put, List.setIfInBounds_toArray, List.set_cons_succ, List.set_cons_zero] at hA
 clear hS
 generalize V 0 = x0 at d0 hA
 generalize V 1 = x1 at d1 hA
 generalize V 2 = x2 at d2 hA
 generalize V 3 = x3 at d3 hA
 subst d0
 subst d1
 subst d3
 obtain rfl := hA
 simp only [List.drop_succ_cons, List.drop_zero]
 obtain ⟨w8, rfl⟩ : ∃ w8, w8 = W := ⟨_, rfl⟩
 clear d2
 have hc8 : Below w3.heap.size w3 w8 := hc7.trans (hW.mono' hc7.size)
 have G8 := hid_of' (below_blk hW G7.out (Array.getElem?_eq_some_iff.1 G7.out).1)
 have MG8 := hid_of' (MG7.out.below hW)
 have I8 := hid_of' (below_blk hW I7.out hI7)
 have O8 := hid_of' (O7.out.below hW (by omega))
 have hI8 : bI < w8.heap.size := (Array.getElem?_eq_some_iff.1 I8.out).1
 have hs8 : w5.heap.size ≤ w8.heap.size := Nat.le_trans hs7 hW.size
 clear hW G7 MG7 I7 O7 hc7 hs7 hI7
 have i0 := blk_cell I8.out 0 rfl
 have i1 := blk_cell I8.out 1 rfl
 have i2 := blk_cell I8.out 2 rfl
 have i3 := blk_cell I8.out 3 rfl
 go_upto_region 16 with fail
 go_wp2_with fail
 refine (markBook_any B w3.heap.size b1 b2 b3 1 w8 hS (by omega) (by omega) O8.out).mono ?_
 rintro e w9 ⟨rfl, hK9⟩
 have hc9 : Below w3.heap.size w3 w9 := hc8.trans (hK9.toBelow (by omega) hc8.size)
 have G9 := hid_of' ((hK9.block bG (Array.getElem?_eq_some_iff.1 G8.out).1 (.inr (by omega))).trans G8.out)
 have MG9 : Hid (BkOf w9 w5.heap.size Y gx1 gx2 gx3 gp1 gp2 gp3) := ⟨MG8.out.svcs.blk fun g cs fr hg h => hK9.block g (Array.getElem?_eq_some_iff.1 h).1 (.inr (by omega)), MG8.out.cps.blk fun g cs fr hg h => hK9.block g (Array.getElem?_eq_some_iff.1 h).1 (.inr (by omega)), MG8.out.bts.blk fun g cs fr hg h => hK9.block g (Array.getElem?_eq_some_iff.1 h).1 (.inr (by omega))⟩
 have hs9 : w5.heap.size ≤ w9.heap.size := Nat.le_trans hs8 hK9.size
 clear hK9 G8 MG8 I8 O8 hc8 hs8 hI8 i0 i1 i2 i3
 have g0 := blk_cell G9.out 0 rfl
 have g1 := blk_cell G9.out 1 rfl
 have g2 := blk_cell G9.out 2 rfl
 have g3 := blk_cell G9.out 3 rfl
 have s0 := blk_cell (below_blk hc9 ZS3.out hzb3) 0 rfl
 have s1 := blk_cell (below_blk hc9 ZS3.out hzb3) 1 rfl
 have s2 := blk_cell (below_blk hc9 ZS3.out hzb3) 2 rfl
 have s3 := blk_cell (below_blk hc9 ZS3.out hzb3) 3 rfl
 have hk0 : ¬ (1 + 13 * (B.svcs.length : Int) + 7 * B.cps.length + 2 * B.bts.length < 0) := by omega
 go_upto_region 17 with fail
 go_wp2_with fail
 refine (eqBook_same Y gx1 gx2 gx3 sx1 sx2 sx3 gp1 gp2 gp3 sp1 sp2 sp3 w9 HSY.out MG9.out.at (MS3.out.below hc9)).mono ?_
 rintro e w10 ⟨rfl, hbq⟩
 have hc10 : Below w3.heap.size w3 w10 := hc9.trans (hbq.mono' hc9.size)
 have G10 := hid_of' (below_blk hbq G9.out (Array.getElem?_eq_some_iff.1 G9.out).1)
 have MG10 := hid_of' (MG9.out.below hbq)
 have hs10 : w5.heap.size ≤ w10.heap.size := Nat.le_trans hs9 hbq.size
 clear hbq G9 MG9 hc9 hs9 g0 g1 g2 g3 s0 s1 s2 s3 hk0
 have g0 := blk_cell G10.out 0 rfl
 have g1 := blk_cell G10.out 1 rfl
 have g2 := blk_cell G10.out 2 rfl
 have g3 := blk_cell G10.out 3 rfl
 go_upto_region 20 with fail
 go_wp2_with fail
 refine (markBookN Y w5.heap.size gx1 gx2 gx3 gp1 gp2 gp3 1 w10 HSY.out (by omega) (by omega) hs10 MG10.out).mono ?_
 rintro e w11 ⟨rfl, hm11, hbq, hkb⟩
 have M11 := hid_of' hm11
 have hc11 : Below w3.heap.size w3 w11 := hc10.trans (hbq.mono' hz5)
 have G11 := hid_of' ((hkb bG _ _ G10.out).trans G10.out)
 clear hm11 hbq hkb G10 MG10 hc10 hs10 g0 g1 g2 g3
 have g0 := blk_cell G11.out 0 rfl
 have g1 := blk_cell G11.out 1 rfl
 have g2 := blk_cell G11.out 2 rfl
 have g3 := blk_cell G11.out 3 rfl
 have hYl : Y.svcs.length ≤ 1048576 ∧ Y.cps.length ≤ 1048576 ∧ Y.bts.length ≤ 1048576 := HSY.out
 obtain ⟨hY1, hY2, hY3⟩ := hYl
 go_upto_region 22 with fail
 go_wp2_with fail
 refine (heldBook_any Y.now Y.svcs.length Y.cps.length Y.bts.length gx1 gx2 gx3 gp1 gp2 gp3 1 w11 hY1 hY2 hY3 (by omega) (by omega) M11.out).mono ?_
 rintro e w12 ⟨rfl, hbq⟩
 have hc12 : Below w3.heap.size w3 w12 := hc11.trans (hbq.mono' hc11.size)
 have G12 := hid_of' (below_blk hbq G11.out (Array.getElem?_eq_some_iff.1 G11.out).1)
 have M12 := hid_of' (M11.out.below hbq)
 have X12 : Hid (w12.heap[w.heap.size]? = some (.cells #[.int .i64 B.now, .slice a1 B.svcs.length c1, .slice a2 B.cps.length c2, .slice a3 B.bts.length c3] 26 (0, 0))) := below_blk hc12 X3.out (by omega)
 have E12 : Hid (w12.heap[w.heap.size + 1]? = some (.cells #[.int .i64 E.kind, .string E.service.name, .int .i64 E.service.version, .bool E.service.gone, .int .i64 E.service.image, .int .i64 E.service.want, .int .i64 E.service.down, .int .i64 E.service.over, .int .i64 E.service.next, .int .i64 E.service.per, .int .i64 E.service.least, .int .i64 E.service.most, .int .i64 E.service.load, .int .i64 E.service.cool, .string E.name, .int .i64 E.number, .bool E.flag] 44 (0, 0))) := below_blk hc12 E3.out (by omega)
 have hz12 : w.heap.size + 1 < w12.heap.size := (Array.getElem?_eq_some_iff.1 E12.out).1
 have hb12 : Below w.heap.size w w12 := hb3.trans (hc12.mono' hb3.size)
 clear hbq G11 M11 hc11 g0 g1 g2 g3
 have hk1 : ¬ (1 + 13 * (Y.svcs.length : Int) + 7 * Y.cps.length + 2 * Y.bts.length < 0) := by omega
 go_upto_region 27 with fail
 refine wp_region_ownsV 10 3 [[], [0], [], [2], [1, 3], [4], [5], [5], [], [6, 8]] [9] [1, 4, 5, 6, 8, 9] [9] [(9, 5)] (fun _ W W2 => ∃ b, W.heap[b]? = some (.cells #[.int .i64 0, .slice none 0 0, .slice none 0 0, .slice none 0 0] 34 (0, 0)) ∧ Only b W W2) (by kernel_rfl) (by kernel_rfl) (by kernel_rfl) ?_
 apply ownV_eq (by kernel_rfl)
 ·intro V W K A hW hd hA hK
  simp only [putAll, List.getElem?_toArray, List.getElem?_cons_succ, List.getElem?_cons_zero, Option.bind_some, Act.put, List.setIfInBounds_toArray, List.set_cons_succ, List.set_cons_zero] at hA
  clear hd
  generalize V 0 = x0 at hA
  generalize V 1 = x1 at hA
  generalize V 2 = x2 at hA
  generalize V 3 = x3 at hA
  generalize V 4 = x4 at hA
  generalize V 5 = x5 at hA
  generalize V 6 = x6 at hA
  generalize V 7 = x7 at hA
  generalize V 8 = x8 at hA
  generalize V 9 = x9 at hA
  obtain rfl := hA
  refine wpList_load_row rfl 26 (.tmp 2) rfl w.heap.size rfl 26 #[.int .i64 B.now, .slice a1 B.svcs.length c1, .slice a2 B.cps.length c2, .slice a3 B.bts.length c3] (0, 0) _ (below_blk hW X12.out (by omega)) Tryz.underlying26 rfl Tryz.infosBkL ?_
  go_wp2
  exact hK.out _ (Below.refl _ _)
 refine ownV_grow (fun vv W => ∃ y1 y2 y3, vv = .agg #[.int .i64 B.now, .slice y1 B.svcs.length B.svcs.length, .slice y2 B.cps.length B.cps.length, .slice y3 B.bts.length B.bts.length] ∧ BkAt W y1 y2 y3 B) (fun v W W2 ⟨y1, y2, y3, h1, h2⟩ hb => ⟨y1, y2, y3, h1, h2.below hb⟩) (by kernel_rfl) (by kernel_rfl) ?_ ?_
 ·intro V W K A hW hd hA hK
  have d0 : V 0 = _ := hd 0 (by kernel_rfl)
  simp only [putAll, List.getElem?_toArray, List.getElem?_cons_succ, List.getElem?_cons_zero, Option.bind_some, Act.put, List.setIfInBounds_toArray, List.set_cons_succ, List.set_cons_zero] at hA
  clear hd
  generalize V 0 = x0 at d0 hA
  generalize V 1 = x1 at hA
  generalize V 2 = x2 at hA
  generalize V 3 = x3 at hA
  generalize V 4 = x4 at hA
  generalize V 5 = x5 at hA
  generalize V 6 = x6 at hA
  generalize V 7 = x7 at hA
  generalize V 8 = x8 at hA
  generalize V 9 = x9 at hA
  subst d0
  obtain rfl := hA
  go_wp2_with fail
  refine (toBook_any B a1 a2 a3 c1 c2 c3 W (hB.below (hb12.trans (hW.mono' hb12.size))) hS).mono ?_
  rintro e u2 ⟨y1, y2, y3, rfl, hX, hbq⟩
  have HX := hid_of' hX
  clear hX
  go_wp2
  exact hK.out _ _ hbq ⟨y1, y2, y3, rfl, HX.out⟩
 apply ownV_eq (by kernel_rfl)
 ·intro V W K A hW hd hA hK
  simp only [putAll, List.getElem?_toArray, List.getElem?_cons_succ, List.getElem?_cons_zero, Option.bind_some, Act.put, List.setIfInBounds_toArray, List.set_cons_succ, List.set_cons_zero] at hA
  clear hd
  generalize V 0 = x0 at hA
  generalize V 1 = x1 at hA
  generalize V 2 = x2 at hA
  generalize V 3 = x3 at hA
  generalize V 4 = x4 at hA
  generalize V 5 = x5 at hA
  generalize V 6 = x6 at hA
  generalize V 7 = x7 at hA
  generalize V 8 = x8 at hA
  generalize V 9 = x9 at hA
  obtain rfl := hA
  refine wpList_load_row rfl 44 (.tmp 3) rfl (w.heap.size + 1) rfl 44 #[.int .i64 E.kind, .string E.service.name, .int .i64 E.service.version, .bool E.service.gone, .int .i64 E.service.image, .int .i64 E.service.want, .int .i64 E.service.down, .int .i64 E.service.over, .int .i64 E.service.next, .int .i64 E.service.per, .int .i64 E.service.least, .int .i64 E.service.most, .int .i64 E.service.load, .int .i64 E.service.cool, .string E.name, .int .i64 E.number, .bool E.flag] (0, 0) _ (below_blk hW E12.out (by omega)) Tryz.underlying44 rfl Tryz.infosEvL ?_
  go_wp2
  exact hK.out _ (Below.refl _ _)
 apply ownV_eq (by kernel_rfl)
 ·intro V W K A hW hd hA hK
  have d2 : V 2 = _ := hd 2 (by kernel_rfl)
  simp only [putAll, List.getElem?_toArray, List.getElem?_cons_succ, List.getElem?_cons_zero, Option.bind_some, Act.put, List.setIfInBounds_toArray, List.set_cons_succ, List.set_cons_zero] at hA
  clear hd
  generalize V 0 = x0 at hA
  generalize V 1 = x1 at hA
  generalize V 2 = x2 at d2 hA
  generalize V 3 = x3 at hA
  generalize V 4 = x4 at hA
  generalize V 5 = x5 at hA
  generalize V 6 = x6 at hA
  generalize V 7 = x7 at hA
  generalize V 8 = x8 at hA
  generalize V 9 = x9 at hA
  subst d2
  obtain rfl := hA
  go_wp2_with fail
  refine (toEvent_any E W).mono ?_
  rintro e u2 ⟨rfl, hbq⟩
  have HBQ := hid_of' hbq
  clear hbq
  go_wp2
  exact hK.out _ HBQ.out
 refine ownV_grow (fun vv W => ∃ (x1 x2 x3 : Option Addr) (p1 p2 p3 : Nat), vv = .tuple #[.agg #[.int .i64 Y.now, .slice x1 Y.svcs.length p1, .slice x2 Y.cps.length p2, .slice x3 Y.bts.length p3], .int .i64 cd] ∧ BkOf W w12.heap.size Y x1 x2 x3 p1 p2 p3) (fun v W W2 ⟨x1, x2, x3, p1, p2, p3, h, hm⟩ hb => ⟨x1, x2, x3, p1, p2, p3, h, hm.below hb⟩) (by kernel_rfl) (by kernel_rfl) ?_ ?_
 ·intro V W K A hW hd hA hK
  have d1 : (fun vv W => ∃ y1 y2 y3, vv = .agg #[.int .i64 B.now, .slice y1 B.svcs.length B.svcs.length, .slice y2 B.cps.length B.cps.length, .slice y3 B.bts.length B.bts.length] ∧ BkAt W y1 y2 y3 B) (V 1) W := hd 1 (by kernel_rfl)
  have d3 : V 3 = _ := hd 3 (by kernel_rfl)
  simp only [putAll, List.getElem?_toArray, List.getElem?_cons_succ, List.getElem?_cons_zero, Option.bind_some, Act.put, List.setIfInBounds_toArray, List.set_cons_succ, List.set_cons_zero] at hA
  clear hd
  generalize V 0 = x0 at hA
  generalize V 1 = x1 at d1 hA
  generalize V 2 = x2 at hA
  generalize V 3 = x3 at d3 hA
  generalize V 4 = x4 at hA
  generalize V 5 = x5 at hA
  generalize V 6 = x6 at hA
  generalize V 7 = x7 at hA
  generalize V 8 = x8 at hA
  generalize V 9 = x9 at hA
  subst d3
  obtain rfl := hA
  obtain ⟨y1, y2, y3, rfl, hX⟩ := d1
  have HX := hid_of' hX
  clear hX
  go_wp2_with fail
  refine (implSea_any B E y1 y2 y3 _ _ _ W hS hZ hwf hE HX.out).mono ?_
  rw [HY.out]
  rintro e u2 ⟨x1, x2, x3, p1, p2, p3, rfl, hm, hbq⟩
  have HM := hid_of' (hm.mono hW.size)
  clear hm
  go_wp2
  exact hK.out _ _ hbq ⟨x1, x2, x3, p1, p2, p3, rfl, HM.out⟩
 refine ownV_grow (fun vv W => ∃ (x1 x2 x3 : Option Addr) (p1 p2 p3 : Nat), vv = .tuple #[.agg #[.int .i64 Y.now, .slice x1 Y.svcs.length p1, .slice x2 Y.cps.length p2, .slice x3 Y.bts.length p3], .int .i64 cd] ∧ BkOf W w12.heap.size Y x1 x2 x3 p1 p2 p3) (fun v W W2 ⟨x1, x2, x3, p1, p2, p3, h, hm⟩ hb => ⟨x1, x2, x3, p1, p2, p3, h, hm.below hb⟩) (by kernel_rfl) (by kernel_rfl) ?_ ?_
 ·intro V W K A hW hd hA hK
  have d4 : (fun vv W => ∃ (x1 x2 x3 : Option Addr) (p1 p2 p3 : Nat), vv = .tuple #[.agg #[.int .i64 Y.now, .slice x1 Y.svcs.length p1, .slice x2 Y.cps.length p2, .slice x3 Y.bts.length p3], .int .i64 cd] ∧ BkOf W w12.heap.size Y x1 x2 x3 p1 p2 p3) (V 4) W := hd 4 (by kernel_rfl)
  simp only [putAll, List.getElem?_toArray, List.getElem?_cons_succ, List.getElem?_cons_zero, Option.bind_some, Act.put, List.setIfInBounds_toArray, List.set_cons_succ, List.set_cons_zero] at hA
  clear hd
  generalize V 0 = x0 at hA
  generalize V 1 = x1 at hA
  generalize V 2 = x2 at hA
  generalize V 3 = x3 at hA
  generalize V 4 = x4 at d4 hA
  generalize V 5 = x5 at hA
  generalize V 6 = x6 at hA
  generalize V 7 = x7 at hA
  generalize V 8 = x8 at hA
  generalize V 9 = x9 at hA
  obtain rfl := hA
  obtain ⟨x1, x2, x3, p1, p2, p3, rfl, hm⟩ := d4
  have HM := hid_of' hm
  clear hm
  go_wp2
  exact hK.out _ _ (Below.refl _ _) ⟨x1, x2, x3, p1, p2, p3, rfl, HM.out⟩
 refine ownV_grow (fun vv W => ∃ (x1 x2 x3 : Option Addr) (p1 p2 p3 : Nat), vv = .agg #[.int .i64 Y.now, .slice x1 Y.svcs.length p1, .slice x2 Y.cps.length p2, .slice x3 Y.bts.length p3] ∧ BkOf W w12.heap.size Y x1 x2 x3 p1 p2 p3) (fun v W W2 ⟨x1, x2, x3, p1, p2, p3, h, hm⟩ hb => ⟨x1, x2, x3, p1, p2, p3, h, hm.below hb⟩) (by kernel_rfl) (by kernel_rfl) ?_ ?_
 ·intro V W K A hW hd hA hK
  have d5 : (fun vv W => ∃ (x1 x2 x3 : Option Addr) (p1 p2 p3 : Nat), vv = .tuple #[.agg #[.int .i64 Y.now, .slice x1 Y.svcs.length p1, .slice x2 Y.cps.length p2, .slice x3 Y.bts.length p3], .int .i64 cd] ∧ BkOf W w12.heap.size Y x1 x2 x3 p1 p2 p3) (V 5) W := hd 5 (by kernel_rfl)
  simp only [putAll, List.getElem?_toArray, List.getElem?_cons_succ, List.getElem?_cons_zero, Option.bind_some, Act.put, List.setIfInBounds_toArray, List.set_cons_succ, List.set_cons_zero] at hA
  clear hd
  generalize V 0 = x0 at hA
  generalize V 1 = x1 at hA
  generalize V 2 = x2 at hA
  generalize V 3 = x3 at hA
  generalize V 4 = x4 at hA
  generalize V 5 = x5 at d5 hA
  generalize V 6 = x6 at hA
  generalize V 7 = x7 at hA
  generalize V 8 = x8 at hA
  generalize V 9 = x9 at hA
  obtain rfl := hA
  obtain ⟨x1, x2, x3, p1, p2, p3, rfl, hm⟩ := d5
  have HM := hid_of' hm
  clear hm
  go_wp2
  exact hK.out _ _ (Below.refl _ _) ⟨x1, x2, x3, p1, p2, p3, rfl, HM.out⟩
 apply ownV_eq (by kernel_rfl)
 ·intro V W K A hW hd hA hK
  have d5 : (fun vv W => ∃ (x1 x2 x3 : Option Addr) (p1 p2 p3 : Nat), vv = .tuple #[.agg #[.int .i64 Y.now, .slice x1 Y.svcs.length p1, .slice x2 Y.cps.length p2, .slice x3 Y.bts.length p3], .int .i64 cd] ∧ BkOf W w12.heap.size Y x1 x2 x3 p1 p2 p3) (V 5) W := hd 5 (by kernel_rfl)
  simp only [putAll, List.getElem?_toArray, List.getElem?_cons_succ, List.getElem?_cons_zero, Option.bind_some, Act.put, List.setIfInBounds_toArray, List.set_cons_succ, List.set_cons_zero] at hA
  clear hd
  generalize V 0 = x0 at hA
  generalize V 1 = x1 at hA
  generalize V 2 = x2 at hA
  generalize V 3 = x3 at hA
  generalize V 4 = x4 at hA
  generalize V 5 = x5 at d5 hA
  generalize V 6 = x6 at hA
  generalize V 7 = x7 at hA
  generalize V 8 = x8 at hA
  generalize V 9 = x9 at hA
  obtain rfl := hA
  obtain ⟨x1, x2, x3, p1, p2, p3, rfl, hm⟩ := d5
  have HM := hid_of' hm
  clear hm
  go_wp2
  exact hK.out _ (Below.refl _ _)
 refine ownV_grow (fun vv W => ∃ b, vv = .pointer (some ⟨b, 0, none⟩) ∧ w12.heap.size ≤ b ∧ W.heap[b]? = some (.cells #[.int .i64 0, .slice none 0 0, .slice none 0 0, .slice none 0 0] 34 (0, 0))) (fun v W W2 ⟨b, h1, h2, h3⟩ hb => ⟨b, h1, h2, below_blk hb h3 (Array.getElem?_eq_some_iff.1 h3).1⟩) (by kernel_rfl) (by kernel_rfl) ?_ ?_
 ·intro V W K A hW hd hA hK
  simp only [putAll, List.getElem?_toArray, List.getElem?_cons_succ, List.getElem?_cons_zero, Option.bind_some, Act.put, List.setIfInBounds_toArray, List.set_cons_succ, List.set_cons_zero] at hA
  clear hd
  generalize V 0 = x0 at hA
  generalize V 1 = x1 at hA
  generalize V 2 = x2 at hA
  generalize V 3 = x3 at hA
  generalize V 4 = x4 at hA
  generalize V 5 = x5 at hA
  generalize V 6 = x6 at hA
  generalize V 7 = x7 at hA
  generalize V 8 = x8 at hA
  generalize V 9 = x9 at hA
  obtain rfl := hA
  go_wp2
  exact hK.out _ _ (below_box W _) ⟨_, rfl, hW.size, heap_alloc_new W _⟩
 refine ownV_own (fun V (_ : Value) W => ∃ (b : Nat) (x1 x2 x3 : Option Addr) (p1 p2 p3 : Nat), V 8 = .pointer (some ⟨b, 0, none⟩) ∧ w12.heap.size ≤ b ∧ W.heap[b]? = some (.cells #[.int .i64 Y.now, .slice x1 Y.svcs.length p1, .slice x2 Y.cps.length p2, .slice x3 Y.bts.length p3] 34 (0, 0)) ∧ BkOf W w12.heap.size Y x1 x2 x3 p1 p2 p3) (fun V v W W2 ⟨b, x1, x2, x3, p1, p2, p3, hv, hn, h, hm⟩ hb => ⟨b, x1, x2, x3, p1, p2, p3, hv, hn, below_blk hb h (Array.getElem?_eq_some_iff.1 h).1, hm.below hb⟩) (fun v V V2 W hVV ⟨b, x1, x2, x3, p1, p2, p3, hv, hr⟩ => ⟨b, x1, x2, x3, p1, p2, p3, (hVV 8 rfl).symm.trans hv, hr⟩) (by kernel_rfl) (by kernel_rfl) ?_ ?_
 ·intro V W K A hW hd hA hK
  have d6 : (fun vv W => ∃ (x1 x2 x3 : Option Addr) (p1 p2 p3 : Nat), vv = .agg #[.int .i64 Y.now, .slice x1 Y.svcs.length p1, .slice x2 Y.cps.length p2, .slice x3 Y.bts.length p3] ∧ BkOf W w12.heap.size Y x1 x2 x3 p1 p2 p3) (V 6) W := hd 6 (by kernel_rfl)
  have d8 : (fun vv W => ∃ b, vv = .pointer (some ⟨b, 0, none⟩) ∧ w12.heap.size ≤ b ∧ W.heap[b]? = some (.cells #[.int .i64 0, .slice none 0 0, .slice none 0 0, .slice none 0 0] 34 (0, 0))) (V 8) W := hd 8 (by kernel_rfl)
  simp only [putAll, List.getElem?_toArray, List.getElem?_cons_succ, List.getElem?_cons_zero, Option.bind_some, Act.put, List.setIfInBounds_toArray, List.set_cons_succ, List.set_cons_zero] at hA
  clear hd
  generalize hV0 : V 0 = x0 at hA hK
  generalize hV1 : V 1 = x1 at hA hK
  generalize hV2 : V 2 = x2 at hA hK
  generalize hV3 : V 3 = x3 at hA hK
  generalize hV4 : V 4 = x4 at hA hK
  generalize hV5 : V 5 = x5 at hA hK
  generalize hV6 : V 6 = x6 at d6 hA hK
  generalize hV7 : V 7 = x7 at hA hK
  generalize hV8 : V 8 = x8 at d8 hA hK
  generalize hV9 : V 9 = x9 at hA hK
  obtain rfl := hA
  obtain ⟨x1, x2, x3, p1, p2, p3, rfl, hm⟩ := d6
  obtain ⟨b, rfl, hbN, hbz⟩ := d8
  have HM := hid_of' hm
  have hsz := hW.size
  clear hm hV0 hV1 hV2 hV3 hV4 hV5 hV6 hV7 hV8 hV9
  refine wpList_store_only rfl 34 (.tmp 14) (.tmp 90) rfl b 0 #[.int .i64 Y.now, .slice x1 Y.svcs.length p1, .slice x2 Y.cps.length p2, .slice x3 Y.bts.length p3] rfl rfl 34 #[.int .i64 0, .slice none 0 0, .slice none 0 0, .slice none 0 0] hbz Tryz.infosBkX (Nat.le_of_ble_eq_true rfl) (by simp [Value.oneCell']) ?_
  intro u2 hz on
  have HZ2 : Hid (u2.heap[b]? = some (.cells #[.int .i64 Y.now, .slice x1 Y.svcs.length p1, .slice x2 Y.cps.length p2, .slice x3 Y.bts.length p3] 34 (0, 0))) := hz
  have HON : Hid (Only b W u2) := on
  have HBZ := hid_of' hbz
  clear hz on hbz
  go_wp2
  refine hK.out undef _ ?_ (HON.out.below.mono' (by omega)) ⟨b, x1, x2, x3, p1, p2, p3, rfl, hbN, HZ2.out, HM.out.only HON.out HBZ.out (by decide) (by decide) (by decide)⟩
  exact ⟨b, HBZ.out, HON.out⟩
 refine ⟨fun i j hk V v W W' hr hq => ?_, ?_⟩
 ·simp only [List.contains_cons, List.contains_nil, Bool.or_false, Bool.or_eq_true, beq_iff_eq, Prod.mk.injEq] at hk
  obtain ⟨rfl, rfl⟩ := hk
  have hq' : (fun vv W => ∃ (x1 x2 x3 : Option Addr) (p1 p2 p3 : Nat), vv = .tuple #[.agg #[.int .i64 Y.now, .slice x1 Y.svcs.length p1, .slice x2 Y.cps.length p2, .slice x3 Y.bts.length p3], .int .i64 cd] ∧ BkOf W w12.heap.size Y x1 x2 x3 p1 p2 p3) (v) W := hq
  show (fun vv W => ∃ (x1 x2 x3 : Option Addr) (p1 p2 p3 : Nat), vv = .tuple #[.agg #[.int .i64 Y.now, .slice x1 Y.svcs.length p1, .slice x2 Y.cps.length p2, .slice x3 Y.bts.length p3], .int .i64 cd] ∧ BkOf W w12.heap.size Y x1 x2 x3 p1 p2 p3) (v) W'
  clear hq
  obtain ⟨x1, x2, x3, p1, p2, p3, h, hm⟩ := hq'
  obtain ⟨b, hbz, on⟩ := hr
  exact ⟨x1, x2, x3, p1, p2, p3, h, hm.only on hbz (by decide) (by decide) (by decide)⟩
 intro V W A hW hS hA
 have d0 : V 0 = _ := hS 0 (by omega) (.inr (by kernel_rfl))
 have d2 : V 2 = _ := hS 2 (by omega) (.inr (by kernel_rfl))
 have d3 : V 3 = _ := hS 3 (by omega) (.inr (by kernel_rfl))
 have d7 : V 7 = _ := hS 7 (by omega) (.inr (by kernel_rfl))
 have d9 : (fun V (_ : Value) W => ∃ (b : Nat) (x1 x2 x3 : Option Addr) (p1 p2 p3 : Nat), V 8 = .pointer (some ⟨b, 0, none⟩) ∧ w12.heap.size ≤ b ∧ W.heap[b]? = some (.cells #[.int .i64 Y.now, .slice x1 Y.svcs.length p1, .slice x2 Y.cps.length p2, .slice x3 Y.bts.length p3] 34 (0, 0)) ∧ BkOf W w12.heap.size Y x1 x2 x3 p1 p2 p3) V (V 9) W := hS 9 (by omega) (.inl (by kernel_rfl))
 simp only [putAll, List.getElem?_toArray, List.getElem?_cons_succ, List.getElem?_cons_zero, Option.bind_some, Act.put, List.setIfInBounds_toArray, List.set_cons_succ, List.set_cons_zero] at hA
 dsimp only at d9
 clear hS
 generalize V 0 = x0 at d0 hA
 generalize V 1 = x1 at hA
 generalize V 2 = x2 at d2 hA
 generalize V 3 = x3 at d3 hA
 generalize V 4 = x4 at hA
 generalize V 5 = x5 at hA
 generalize V 6 = x6 at hA
 generalize V 7 = x7 at d7 hA
 generalize V 8 = x8 at d9 hA
 generalize V 9 = x9 at d9 hA
 subst d0
 subst d2
 subst d3
 subst d7
 obtain rfl := hA
 simp only [List.drop_succ_cons, List.drop_zero]
 obtain ⟨w13, rfl⟩ : ∃ w13, w13 = W := ⟨_, rfl⟩
 obtain ⟨bH, hx1, hx2, hx3, hp1, hp2, hp3, rfl, hbH, hzH, hmH⟩ := d9
 have H13 := hid_of' hzH
 have MH13 := hid_of' hmH
 have hc13 : Below w3.heap.size w3 w13 := hc12.trans (hW.mono' hc12.size)
 have G13 := hid_of' (below_blk hW G12.out (Array.getElem?_eq_some_iff.1 G12.out).1)
 have M13 := hid_of' (M12.out.below hW)
 clear hW hzH hmH G12 M12 hc12 X12 E12 hb12
 have h0 := blk_cell H13.out 0 rfl
 have h1 := blk_cell H13.out 1 rfl
 have h2 := blk_cell H13.out 2 rfl
 have h3 := blk_cell H13.out 3 rfl
 have s0 := blk_cell (below_blk hc13 ZS3.out hzb3) 0 rfl
 have s1 := blk_cell (below_blk hc13 ZS3.out hzb3) 1 rfl
 have s2 := blk_cell (below_blk hc13 ZS3.out hzb3) 2 rfl
 have s3 := blk_cell (below_blk hc13 ZS3.out hzb3) 3 rfl
 go_upto_region 28 with fail
 go_wp2_with fail
 refine (eqBook_same Y hx1 hx2 hx3 sx1 sx2 sx3 hp1 hp2 hp3 sp1 sp2 sp3 w13 HSY.out MH13.out.at (MS3.out.below hc13)).mono ?_
 rintro e w14 ⟨rfl, hbq⟩
 have hc14 : Below w3.heap.size w3 w14 := hc13.trans (hbq.mono' hc13.size)
 have G14 := hid_of' (below_blk hbq G13.out (Array.getElem?_eq_some_iff.1 G13.out).1)
 have M14 := hid_of' (M13.out.below hbq)
 clear hbq G13 M13 H13 MH13 hc13 s0 s1 s2 s3 h0 h1 h2 h3
 have g0 := blk_cell G14.out 0 rfl
 have g1 := blk_cell G14.out 1 rfl
 have g2 := blk_cell G14.out 2 rfl
 have g3 := blk_cell G14.out 3 rfl
 go_upto_region 31 with fail
 go_wp2_with fail
 refine (heldBook_any Y.now Y.svcs.length Y.cps.length Y.bts.length gx1 gx2 gx3 gp1 gp2 gp3 1 w14 hY1 hY2 hY3 (by omega) (by omega) M14.out).mono ?_
 rintro e w15 ⟨rfl, hbq⟩
 have hb15 : Below w.heap.size w w15 := hb3.trans ((hc14.trans (hbq.mono' hc14.size)).mono' hb3.size)
 clear hbq g0 g1 g2 g3
 go_wp2
 go_ret
 exact ⟨rfl, hb15⟩
end Go.Proofs.YtbceafpodamnfabGreat
