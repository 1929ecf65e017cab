/-
  My own: Xl.
-/
import Derived.Test.YtbceafpodamnfabGreatG26
import Derived.Test.YtbceafpodamnfabGreatG27
import Derived.Test.YtbceafpodamnfabGreatG28
import Derived.Test.YtbceafpodamnfabGreatG08
import Derived.Test.YtbceafpodamnfabGreatG29
import Derived.Test.YtbceafpodamnfabGreatG13
set_option linter.unusedVariables false
set_option linter.unusedSimpArgs false
namespace Go.Proofs.YtbceafpodamnfabGreat
open Go.RowKit Go.Sort
theorem Tryz.infosEvX : (Tryz.prog.info? 50).map (·.size) = some 17 := by kernel_rfl
theorem l6Sea_any (B : Bk) (E : Ev) (N g1 g2 g3 k1 k2 k3 : Nat) (w : World) (hS : B.small) (hn0 : 0 ≤ B.now) (hn9 : B.now < 1000000) (hN : N ≤ w.heap.size) (hB : BkRow w N g1 g2 g3 k1 k2 k3 B) :
  Calls Tryz.prog 43 #[.agg #[.int .i64 B.now, .slice (some ⟨g1, 0, none⟩) B.svcs.length k1, .slice (some ⟨g2, 0, none⟩) B.cps.length k2, .slice (some ⟨g3, 0, none⟩) B.bts.length k3], .agg #[.int .i64 E.kind, .string E.service.name, .int .i64 E.service.version, .bool E.service.gone, .int .i64 E.service.image, .int .i64 E.service.want, .int .i64 E.service.down, .int .i64 E.service.over, .int .i64 E.service.next, .int .i64 E.service.per, .int .i64 E.service.least, .int .i64 E.service.most, .int .i64 E.service.load, .int .i64 E.service.cool, .string E.name, .int .i64 E.number, .bool E.flag]] w (SeaR g1 g2 w B E) := by
 obtain ⟨kind, sv, nm, num, fl⟩ := E
 by_cases h1 : kind = 1
 ·subst h1; exact l6Sea_tick B sv nm num fl N g1 g2 g3 k1 k2 k3 _ _ _ w hS hn0 hn9 hN hB rfl rfl rfl
 by_cases h2 : kind = 2
 ·subst h2; exact l6Sea_wish B sv nm num fl N g1 g2 g3 k1 k2 k3 _ _ _ w hS hn0 hn9 hN hB rfl rfl rfl
 by_cases h3 : kind = 3
 ·subst h3; exact l6Sea_fail B sv nm num fl N g1 g2 g3 k1 k2 k3 _ _ _ w hS hn0 hn9 hN hB rfl rfl rfl
 by_cases h4 : kind = 4
 ·subst h4; exact l6Sea_sink B sv nm num fl N g1 g2 g3 k1 k2 k3 _ _ _ w hS hn0 hn9 hN hB rfl rfl rfl
 by_cases h5 : kind = 5
 ·subst h5; exact l6Sea_raise B sv nm num fl N g1 g2 g3 k1 k2 k3 _ _ _ w hS hn0 hn9 hN hB rfl rfl rfl
 by_cases h6 : kind = 6
 ·subst h6; exact l6Sea_load B sv nm num fl N g1 g2 g3 k1 k2 k3 _ _ _ w hS hn0 hn9 hN hB rfl rfl rfl
 exact l6Sea_other B kind sv nm num fl N g1 g2 g3 k1 k2 k3 _ _ _ w hS hn0 hn9 hN hB rfl rfl rfl h1 h2 h3 h4 h5 h6
set_option maxRecDepth 100000 in
set_option maxHeartbeats 16000000 in
theorem specSea_any (B : Bk) (E : Ev) (a1 a2 a3 : Option Addr) (c1 c2 c3 : Nat) (w : World) (hS : B.small) (hZ : B.sized) (hE : E.sized) (hB : BkAt w a1 a2 a3 B) :
  Calls Tryz.prog 15 #[.agg #[.int .i64 B.now, .slice a1 B.svcs.length c1, .slice a2 B.cps.length c2, .slice a3 B.bts.length c3], .agg #[.int .i64 E.kind, .string E.service.name, .int .i64 E.service.version, .bool E.service.gone, .int .i64 E.service.image, .int .i64 E.service.want, .int .i64 E.service.down, .int .i64 E.service.over, .int .i64 E.service.next, .int .i64 E.service.per, .int .i64 E.service.least, .int .i64 E.service.most, .int .i64 E.service.load, .int .i64 E.service.cool, .string E.name, .int .i64 E.number, .bool E.flag]] w fun e w' => ∃ (x1 x2 x3 : Option Addr) (p1 p2 p3 : Nat), e = .returned (.tuple #[.agg #[.int .i64 (seaAns B E).1.now, .slice x1 (seaAns B E).1.svcs.length p1, .slice x2 (seaAns B E).1.cps.length p2, .slice x3 (seaAns B E).1.bts.length p3], .int .i64 (seaAns B E).2]) ∧ BkAt w' x1 x2 x3 (seaAns B E).1 ∧ Below w.heap.size w w' := by
 obtain ⟨W0, hW0, t0, t1, t2, hz0, hz0', hb0⟩ := three_newV w (.cells #[.int .i64 B.now, .slice a1 B.svcs.length c1, .slice a2 B.cps.length c2, .slice a3 B.bts.length c3] 34) (.cells #[.int .i64 E.kind, .string E.service.name, .int .i64 E.service.version, .bool E.service.gone, .int .i64 E.service.image, .int .i64 E.service.want, .int .i64 E.service.down, .int .i64 E.service.over, .int .i64 E.service.next, .int .i64 E.service.per, .int .i64 E.service.least, .int .i64 E.service.most, .int .i64 E.service.load, .int .i64 E.service.cool, .string E.name, .int .i64 E.number, .bool E.flag] 50) (.cells #[.int .i64 0, .slice none 0 0, .slice none 0 0, .slice none 0 0] 34)
 have X0 : Hid _ := t0
 have E0 : Hid _ := t1
 have Z0 : Hid _ := t2
 clear t0 t1 t2
 go_enter Tryz.func15, Tryz.ntmps15
 go_upto_region 1 with fail
 clear hW0
 have e0 := blk_cell X0.out 0 rfl
 have e1 := blk_cell X0.out 1 rfl
 have e2 := blk_cell X0.out 2 rfl
 have e3 := blk_cell X0.out 3 rfl
 go_wp2_with fail
 refine (specValid_any B a1 a2 a3 c1 c2 c3 W0 hS hZ (hB.below hb0)).mono ?_
 rintro e w1 ⟨rfl, hbq⟩
 have hb1 := hb0.trans (hbq.mono' (by have := hb0.size; omega))
 have X1 : Hid _ := below_blk hbq X0.out (by omega)
 have E1 : Hid _ := below_blk hbq E0.out (by omega)
 have Z1 : Hid _ := below_blk hbq Z0.out (by omega)
 have hz1 : w.heap.size + 1 + 1 < w1.heap.size := (Array.getElem?_eq_some_iff.1 Z1.out).1
 clear hbq e0 e1 e2 e3 X0 E0 Z0 hb0 hz0 hz0'
 cases hv : validB B
 ·have HA : Hid (seaAns B E = (noBk, 1)) := by unfold Hid seaAns; rw [hv]; rfl
  go_wp2_with (refine wpList_store_only rfl 34 (.tmp 4) (.tmp 11) rfl (w.heap.size + 1 + 1) 0 #[.int .i64 0, .slice none 0 0, .slice none 0 0, .slice none 0 0] rfl rfl 34 #[.int .i64 0, .slice none 0 0, .slice none 0 0, .slice none 0 0] Z1.out Tryz.infosBkX (Nat.le_of_ble_eq_true rfl) (by simp [Value.oneCell']) ?_; intro w2 hz on; have Z2 : Hid (w2.heap[w.heap.size + 1 + 1]? = some (.cells #[.int .i64 0, .slice none 0 0, .slice none 0 0, .slice none 0 0] 34 (0, 0))) := hz; have hb2 := hb1.trans (on.below.mono' (by omega)); have HON : Hid (Only (w.heap.size + 1 + 1) w1 w2) := on; clear hz on)
  exact bodyPost_ret (v := .tuple #[.agg #[.int .i64 0, .slice none 0 0, .slice none 0 0, .slice none 0 0], .int .i64 1]) (results_cell_tmp rfl _ _ (w.heap.size + 1 + 1) _ _ _ _ rfl Z2.out Tryz.underlying34 rfl Tryz.infosBkX _ rfl) rfl ⟨none, none, none, 0, 0, 0, by rw [HA.out]; rfl, by rw [HA.out]; exact ⟨fun h => absurd rfl h, fun h => absurd rfl h, fun h => absurd rfl h⟩, hb2⟩
 ·have hV := hv
  have e0 := blk_cell X1.out 0 rfl
  have hn0 : 0 ≤ B.now ∧ B.now ≤ 1000000 := by unfold validB at hV; simp only [Bool.and_eq_true, inB, decide_eq_true_eq] at hV; omega
  obtain ⟨hn0, hn1⟩ := hn0
  by_cases hn9 : 1000000 ≤ B.now
  ·have k0 := blk_cell E1.out 0 rfl
   go_upto_region 4 with fail
   go_wp2_with fail
   refine (l1In_b E.kind 1 6 w1).mono ?_
   rintro e w2 ⟨rfl, hbq⟩
   have hb2 := hb1.trans (hbq.mono' (by have := hb1.size; omega))
   have X2 : Hid _ := below_blk hbq X1.out (by omega)
   have E2 : Hid _ := below_blk hbq E1.out (by omega)
   have Z2 : Hid _ := below_blk hbq Z1.out (by omega)
   have hz2 : w.heap.size + 1 + 1 < w2.heap.size := (Array.getElem?_eq_some_iff.1 Z2.out).1
   clear hbq k0 e0 X1 E1 Z1 hb1 hz1
   have e0 := blk_cell X2.out 0 rfl
   have e1 := blk_cell X2.out 1 rfl
   have e2 := blk_cell X2.out 2 rfl
   have e3 := blk_cell X2.out 3 rfl
   cases hk : inB E.kind 1 6
   ·have HA : Hid (seaAns B E = (B, 4)) := by unfold Hid seaAns; rw [if_pos hv, if_pos hn9, hk]; rfl
    go_wp2_with fail
    refine (l1Book_own B a1 a2 a3 c1 c2 c3 w2 hS (hB.below hb2)).mono ?_
    rintro e w3 ⟨r1, p1, r2, p2, r3, p3, rfl, hrw, hbq⟩
    have hb3 := hb2.trans (hbq.mono' (by have := hb2.size; omega))
    have X3 : Hid _ := below_blk hbq X2.out (by omega)
    have E3 : Hid _ := below_blk hbq E2.out (by omega)
    have Z3 : Hid _ := below_blk hbq Z2.out (by omega)
    have hz3 : w.heap.size + 1 + 1 < w3.heap.size := (Array.getElem?_eq_some_iff.1 Z3.out).1
    have HRW : Hid _ := hrw
    clear hrw hbq e0 e1 e2 e3
    go_wp2_with (refine wpList_store_only rfl 34 (.tmp 4) (.tmp 20) rfl (w.heap.size + 1 + 1) 0 #[.int .i64 B.now, .slice (some ⟨r1, 0, none⟩) B.svcs.length p1, .slice (some ⟨r2, 0, none⟩) B.cps.length p2, .slice (some ⟨r3, 0, none⟩) B.bts.length p3] rfl rfl 34 #[.int .i64 0, .slice none 0 0, .slice none 0 0, .slice none 0 0] Z3.out Tryz.infosBkX (Nat.le_of_ble_eq_true rfl) (by simp [Value.oneCell']) ?_; intro w4 hz on; have Z4 : Hid (w4.heap[w.heap.size + 1 + 1]? = some (.cells #[.int .i64 B.now, .slice (some ⟨r1, 0, none⟩) B.svcs.length p1, .slice (some ⟨r2, 0, none⟩) B.cps.length p2, .slice (some ⟨r3, 0, none⟩) B.bts.length p3] 34 (0, 0))) := hz; have hb4 := hb3.trans (on.below.mono' (by omega)); have HON : Hid (Only (w.heap.size + 1 + 1) w3 w4) := on; clear hz on)
    exact bodyPost_ret (v := .tuple #[.agg #[.int .i64 B.now, .slice (some ⟨r1, 0, none⟩) B.svcs.length p1, .slice (some ⟨r2, 0, none⟩) B.cps.length p2, .slice (some ⟨r3, 0, none⟩) B.bts.length p3], .int .i64 4]) (results_cell_tmp rfl _ _ (w.heap.size + 1 + 1) _ _ _ _ rfl Z4.out Tryz.underlying34 rfl Tryz.infosBkX _ rfl) rfl ⟨some ⟨r1, 0, none⟩, some ⟨r2, 0, none⟩, some ⟨r3, 0, none⟩, p1, p2, p3, by rw [HA.out], by rw [HA.out]; exact ⟨(HRW.out.svcs.blk (HON.out.other r1 (by have := HRW.out.n1; omega))).slS, (HRW.out.cps.blk (HON.out.other r2 (by have := HRW.out.n2; omega))).slC, (HRW.out.bts.blk (HON.out.other r3 (by have := HRW.out.n3; omega))).slB⟩, hb4⟩
   ·have HA : Hid (seaAns B E = (B, 7)) := by unfold Hid seaAns; rw [if_pos hv, if_pos hn9, hk]; rfl
    go_wp2_with fail
    refine (l1Book_own B a1 a2 a3 c1 c2 c3 w2 hS (hB.below hb2)).mono ?_
    rintro e w3 ⟨r1, p1, r2, p2, r3, p3, rfl, hrw, hbq⟩
    have hb3 := hb2.trans (hbq.mono' (by have := hb2.size; omega))
    have X3 : Hid _ := below_blk hbq X2.out (by omega)
    have E3 : Hid _ := below_blk hbq E2.out (by omega)
    have Z3 : Hid _ := below_blk hbq Z2.out (by omega)
    have hz3 : w.heap.size + 1 + 1 < w3.heap.size := (Array.getElem?_eq_some_iff.1 Z3.out).1
    have HRW : Hid _ := hrw
    clear hrw hbq e0 e1 e2 e3
    go_wp2_with (refine wpList_store_only rfl 34 (.tmp 4) (.tmp 22) rfl (w.heap.size + 1 + 1) 0 #[.int .i64 B.now, .slice (some ⟨r1, 0, none⟩) B.svcs.length p1, .slice (some ⟨r2, 0, none⟩) B.cps.length p2, .slice (some ⟨r3, 0, none⟩) B.bts.length p3] rfl rfl 34 #[.int .i64 0, .slice none 0 0, .slice none 0 0, .slice none 0 0] Z3.out Tryz.infosBkX (Nat.le_of_ble_eq_true rfl) (by simp [Value.oneCell']) ?_; intro w4 hz on; have Z4 : Hid (w4.heap[w.heap.size + 1 + 1]? = some (.cells #[.int .i64 B.now, .slice (some ⟨r1, 0, none⟩) B.svcs.length p1, .slice (some ⟨r2, 0, none⟩) B.cps.length p2, .slice (some ⟨r3, 0, none⟩) B.bts.length p3] 34 (0, 0))) := hz; have hb4 := hb3.trans (on.below.mono' (by omega)); have HON : Hid (Only (w.heap.size + 1 + 1) w3 w4) := on; clear hz on)
    exact bodyPost_ret (v := .tuple #[.agg #[.int .i64 B.now, .slice (some ⟨r1, 0, none⟩) B.svcs.length p1, .slice (some ⟨r2, 0, none⟩) B.cps.length p2, .slice (some ⟨r3, 0, none⟩) B.bts.length p3], .int .i64 7]) (results_cell_tmp rfl _ _ (w.heap.size + 1 + 1) _ _ _ _ rfl Z4.out Tryz.underlying34 rfl Tryz.infosBkX _ rfl) rfl ⟨some ⟨r1, 0, none⟩, some ⟨r2, 0, none⟩, some ⟨r3, 0, none⟩, p1, p2, p3, by rw [HA.out], by rw [HA.out]; exact ⟨(HRW.out.svcs.blk (HON.out.other r1 (by have := HRW.out.n1; omega))).slS, (HRW.out.cps.blk (HON.out.other r2 (by have := HRW.out.n2; omega))).slC, (HRW.out.bts.blk (HON.out.other r3 (by have := HRW.out.n3; omega))).slB⟩, hb4⟩
  ·have hn9' : B.now < 1000000 := by omega
   have HV : Hid (validB B = true) := hv
   have HSA : Hid (seaAns B E = (if (seaOf B E).2 = 0 then (if validB (seaOf B E).1 = true then ((seaOf B E).1, 0) else (B, 2)) else (B, (seaOf B E).2))) := by unfold Hid seaAns; rw [if_pos hv, if_neg hn9]
   clear hV hv hn9
   have hn9 := hn9'
   clear hn9'
   go_upto_region 7 with fail
   clear e0
   refine wp_region_ownsV 9 3 [[], [0], [], [1, 2], [3], [4], [4], [], [5, 7]] [3, 8] [1, 3, 4, 5, 7, 8] [8] [(3, 7), (8, 4)] (fun i W W2 => if i = 3 then ∀ (b : Nat) cs fr, W.heap[b]? = some (.cells cs 34 fr) → W2.heap[b]? = W.heap[b]? else ∀ (b : Nat) cs t fr, t ≠ 34 → W.heap[b]? = some (.cells cs t fr) → W2.heap[b]? = W.heap[b]?) (by kernel_rfl) (by kernel_rfl) (by kernel_rfl) ?_
   apply ownV_eq (by kernel_rfl)
   ·intro V W K A hW hd hA hK
    simp only [putAll, List.getElem?_toArray, List.getElem?_cons_succ, List.getElem?_cons_zero, Option.bind_some, Act.put, List.setIfInBounds_toArray, List.set_cons_succ, List.set_cons_zero] at hA
    clear hd
    generalize V 0 = x0 at hA
    generalize V 1 = x1 at hA
    generalize V 2 = x2 at hA
    generalize V 3 = x3 at hA
    generalize V 4 = x4 at hA
    generalize V 5 = x5 at hA
    generalize V 6 = x6 at hA
    generalize V 7 = x7 at hA
    generalize V 8 = x8 at hA
    obtain rfl := hA
    refine wpList_load_row rfl 34 (.tmp 2) rfl w.heap.size rfl 34 #[.int .i64 B.now, .slice a1 B.svcs.length c1, .slice a2 B.cps.length c2, .slice a3 B.bts.length c3] (0, 0) _ (below_blk hW X1.out (by omega)) Tryz.underlying34 rfl Tryz.infosBkX ?_
    go_wp2
    exact hK.out _ (Below.refl _ _)
   refine ownV_grow (fun vv W => ∃ g1 k1 g2 k2 g3 k3, vv = .agg #[.int .i64 B.now, .slice (some ⟨g1, 0, none⟩) B.svcs.length k1, .slice (some ⟨g2, 0, none⟩) B.cps.length k2, .slice (some ⟨g3, 0, none⟩) B.bts.length k3] ∧ BkRow W w1.heap.size g1 g2 g3 k1 k2 k3 B) (fun v W W2 ⟨g1, k1, g2, k2, g3, k3, h, hr⟩ hb => ⟨g1, k1, g2, k2, g3, k3, h, hr.n1, hr.n2, hr.n3, hr.svcs.below hb hr.svcs.lt, hr.cps.below hb hr.cps.lt, hr.bts.below hb hr.bts.lt⟩) (by kernel_rfl) (by kernel_rfl) ?_ ?_
   ·intro V W K A hW hd hA hK
    have d0 : V 0 = _ := hd 0 (by kernel_rfl)
    simp only [putAll, List.getElem?_toArray, List.getElem?_cons_succ, List.getElem?_cons_zero, Option.bind_some, Act.put, List.setIfInBounds_toArray, List.set_cons_succ, List.set_cons_zero] at hA
    clear hd
    generalize V 0 = x0 at d0 hA
    generalize V 1 = x1 at hA
    generalize V 2 = x2 at hA
    generalize V 3 = x3 at hA
    generalize V 4 = x4 at hA
    generalize V 5 = x5 at hA
    generalize V 6 = x6 at hA
    generalize V 7 = x7 at hA
    generalize V 8 = x8 at hA
    subst d0
    obtain rfl := hA
    go_wp2_with fail
    refine (l1Book_own B a1 a2 a3 c1 c2 c3 W hS ((hB.below hb1).below hW)).mono ?_
    rintro e w2 ⟨g1, k1, g2, k2, g3, k3, rfl, hrw, hbq⟩
    have HRW : Hid _ := hrw
    have hsz := hW.size
    clear hrw
    go_wp2
    exact hK.out _ _ hbq ⟨g1, k1, g2, k2, g3, k3, rfl, Nat.le_trans hsz HRW.out.n1, Nat.le_trans hsz HRW.out.n2, Nat.le_trans hsz HRW.out.n3, HRW.out.svcs, HRW.out.cps, HRW.out.bts⟩
   apply ownV_eq (by kernel_rfl)
   ·intro V W K A hW hd hA hK
    simp only [putAll, List.getElem?_toArray, List.getElem?_cons_succ, List.getElem?_cons_zero, Option.bind_some, Act.put, List.setIfInBounds_toArray, List.set_cons_succ, List.set_cons_zero] at hA
    clear hd
    generalize V 0 = x0 at hA
    generalize V 1 = x1 at hA
    generalize V 2 = x2 at hA
    generalize V 3 = x3 at hA
    generalize V 4 = x4 at hA
    generalize V 5 = x5 at hA
    generalize V 6 = x6 at hA
    generalize V 7 = x7 at hA
    generalize V 8 = x8 at hA
    obtain rfl := hA
    refine wpList_load_row rfl 50 (.tmp 3) rfl (w.heap.size + 1) rfl 50 #[.int .i64 E.kind, .string E.service.name, .int .i64 E.service.version, .bool E.service.gone, .int .i64 E.service.image, .int .i64 E.service.want, .int .i64 E.service.down, .int .i64 E.service.over, .int .i64 E.service.next, .int .i64 E.service.per, .int .i64 E.service.least, .int .i64 E.service.most, .int .i64 E.service.load, .int .i64 E.service.cool, .string E.name, .int .i64 E.number, .bool E.flag] (0, 0) _ (below_blk hW E1.out (by omega)) Tryz.underlying50 rfl Tryz.infosEvX ?_
    go_wp2
    exact hK.out _ (Below.refl _ _)
   refine ownV_own (fun (_ : Nat → Value) vv W => ∃ (q : Int) (b1 b2 b3 : Nat) (m1 d1 m2 d2 m3 d3 : Nat), vv = .tuple #[.agg #[.int .i64 q, .slice (some ⟨b1, 0, none⟩) m1 d1, .slice (some ⟨b2, 0, none⟩) m2 d2, .slice (some ⟨b3, 0, none⟩) m3 d3], .int .i64 (seaOf B E).2] ∧ ((seaOf B E).2 = 0 → q = (seaOf B E).1.now ∧ m1 = (seaOf B E).1.svcs.length ∧ m2 = (seaOf B E).1.cps.length ∧ m3 = (seaOf B E).1.bts.length ∧ RowIs W 48 13 b1 m1 d1 (svcsV (seaOf B E).1.svcs) ∧ RowIs W 88 7 b2 m2 d2 (cpsV (seaOf B E).1.cps) ∧ RowIs W 86 2 b3 m3 d3 (btsV (seaOf B E).1.bts))) (fun _ v W W2 ⟨q, b1, b2, b3, m1, d1, m2, d2, m3, d3, h, hm⟩ hb => ⟨q, b1, b2, b3, m1, d1, m2, d2, m3, d3, h, fun h0 => ⟨(hm h0).1, (hm h0).2.1, (hm h0).2.2.1, (hm h0).2.2.2.1, (hm h0).2.2.2.2.1.below hb (hm h0).2.2.2.2.1.lt, (hm h0).2.2.2.2.2.1.below hb (hm h0).2.2.2.2.2.1.lt, (hm h0).2.2.2.2.2.2.below hb (hm h0).2.2.2.2.2.2.lt⟩⟩) (fun _ _ _ _ _ h => h) (by kernel_rfl) (by kernel_rfl) ?_ ?_
   ·intro V W K A hW hd hA hK
    have d1 : (fun vv W => ∃ g1 k1 g2 k2 g3 k3, vv = .agg #[.int .i64 B.now, .slice (some ⟨g1, 0, none⟩) B.svcs.length k1, .slice (some ⟨g2, 0, none⟩) B.cps.length k2, .slice (some ⟨g3, 0, none⟩) B.bts.length k3] ∧ BkRow W w1.heap.size g1 g2 g3 k1 k2 k3 B) (V 1) W := hd 1 (by kernel_rfl)
    have d2 : V 2 = _ := hd 2 (by kernel_rfl)
    simp only [putAll, List.getElem?_toArray, List.getElem?_cons_succ, List.getElem?_cons_zero, Option.bind_some, Act.put, List.setIfInBounds_toArray, List.set_cons_succ, List.set_cons_zero] at hA
    clear hd
    generalize hV0 : V 0 = x0 at hA hK
    generalize hV1 : V 1 = x1 at d1 hA hK
    generalize hV2 : V 2 = x2 at d2 hA hK
    generalize hV3 : V 3 = x3 at hA hK
    generalize hV4 : V 4 = x4 at hA hK
    generalize hV5 : V 5 = x5 at hA hK
    generalize hV6 : V 6 = x6 at hA hK
    generalize hV7 : V 7 = x7 at hA hK
    generalize hV8 : V 8 = x8 at hA hK
    subst d2
    obtain rfl := hA
    obtain ⟨g1, k1, g2, k2, g3, k3, rfl, hrw⟩ := d1
    have HRW : Hid _ := hrw
    have hsz := hW.size
    clear hrw
    go_wp2_with fail
    refine (l6Sea_any B E w1.heap.size g1 g2 g3 k1 k2 k3 W hS hn0 hn9 hsz HRW.out).mono ?_
    rintro e w2 ⟨q, b1, b2, b3, m1, d1, m2, d2, m3, d3, rfl, hm, hkp⟩
    have HM : Hid _ := hm
    have HKP : Hid _ := hkp
    clear hm hkp
    go_wp2
    refine hK.out _ _ ?_ (HKP.out.below HRW.out.n1 HRW.out.n2 hsz) ⟨q, b1, b2, b3, m1, d1, m2, d2, m3, d3, rfl, HM.out⟩
    show ∀ (b : Nat) cs fr, W.heap[b]? = some (.cells cs 34 fr) → w2.heap[b]? = W.heap[b]?
    intro b cs fr hb
    refine HKP.out.block b (Array.getElem?_eq_some_iff.1 hb).1 (fun e => ?_) (fun e => ?_)
    ·obtain ⟨_, _, cur, h1, _⟩ := HRW.out.svcs
     rw [e, h1] at hb
     cases hb
    ·obtain ⟨_, _, cur, h1, _⟩ := HRW.out.cps
     rw [e, h1] at hb
     cases hb
   refine ownV_grow (fun vv W => ∃ (q : Int) (b1 b2 b3 : Nat) (m1 d1 m2 d2 m3 d3 : Nat), vv = .tuple #[.agg #[.int .i64 q, .slice (some ⟨b1, 0, none⟩) m1 d1, .slice (some ⟨b2, 0, none⟩) m2 d2, .slice (some ⟨b3, 0, none⟩) m3 d3], .int .i64 (seaOf B E).2] ∧ ((seaOf B E).2 = 0 → q = (seaOf B E).1.now ∧ m1 = (seaOf B E).1.svcs.length ∧ m2 = (seaOf B E).1.cps.length ∧ m3 = (seaOf B E).1.bts.length ∧ RowIs W 48 13 b1 m1 d1 (svcsV (seaOf B E).1.svcs) ∧ RowIs W 88 7 b2 m2 d2 (cpsV (seaOf B E).1.cps) ∧ RowIs W 86 2 b3 m3 d3 (btsV (seaOf B E).1.bts))) (fun v W W2 ⟨q, b1, b2, b3, m1, d1, m2, d2, m3, d3, h, hm⟩ hb => ⟨q, b1, b2, b3, m1, d1, m2, d2, m3, d3, h, fun h0 => ⟨(hm h0).1, (hm h0).2.1, (hm h0).2.2.1, (hm h0).2.2.2.1, (hm h0).2.2.2.2.1.below hb (hm h0).2.2.2.2.1.lt, (hm h0).2.2.2.2.2.1.below hb (hm h0).2.2.2.2.2.1.lt, (hm h0).2.2.2.2.2.2.below hb (hm h0).2.2.2.2.2.2.lt⟩⟩) (by kernel_rfl) (by kernel_rfl) ?_ ?_
   ·intro V W K A hW hd hA hK
    have d3 : (fun (_ : Nat → Value) vv W => ∃ (q : Int) (b1 b2 b3 : Nat) (m1 d1 m2 d2 m3 d3 : Nat), vv = .tuple #[.agg #[.int .i64 q, .slice (some ⟨b1, 0, none⟩) m1 d1, .slice (some ⟨b2, 0, none⟩) m2 d2, .slice (some ⟨b3, 0, none⟩) m3 d3], .int .i64 (seaOf B E).2] ∧ ((seaOf B E).2 = 0 → q = (seaOf B E).1.now ∧ m1 = (seaOf B E).1.svcs.length ∧ m2 = (seaOf B E).1.cps.length ∧ m3 = (seaOf B E).1.bts.length ∧ RowIs W 48 13 b1 m1 d1 (svcsV (seaOf B E).1.svcs) ∧ RowIs W 88 7 b2 m2 d2 (cpsV (seaOf B E).1.cps) ∧ RowIs W 86 2 b3 m3 d3 (btsV (seaOf B E).1.bts))) V (V 3) W := hd 3 (by kernel_rfl)
    simp only [putAll, List.getElem?_toArray, List.getElem?_cons_succ, List.getElem?_cons_zero, Option.bind_some, Act.put, List.setIfInBounds_toArray, List.set_cons_succ, List.set_cons_zero] at hA
    clear hd
    generalize V 0 = x0 at hA
    generalize V 1 = x1 at hA
    generalize V 2 = x2 at hA
    generalize V 3 = x3 at d3 hA
    generalize V 4 = x4 at hA
    generalize V 5 = x5 at hA
    generalize V 6 = x6 at hA
    generalize V 7 = x7 at hA
    generalize V 8 = x8 at hA
    obtain rfl := hA
    obtain ⟨q, b1, b2, b3, m1, d1, m2, d2, m3, d3, rfl, hm⟩ := d3
    have HM : Hid _ := hm
    clear hm
    go_wp2
    exact hK.out _ _ (Below.refl _ _) ⟨q, b1, b2, b3, m1, d1, m2, d2, m3, d3, rfl, HM.out⟩
   refine ownV_grow (fun vv W => ∃ (q : Int) (b1 b2 b3 : Nat) (m1 d1 m2 d2 m3 d3 : Nat), vv = .agg #[.int .i64 q, .slice (some ⟨b1, 0, none⟩) m1 d1, .slice (some ⟨b2, 0, none⟩) m2 d2, .slice (some ⟨b3, 0, none⟩) m3 d3] ∧ ((seaOf B E).2 = 0 → q = (seaOf B E).1.now ∧ m1 = (seaOf B E).1.svcs.length ∧ m2 = (seaOf B E).1.cps.length ∧ m3 = (seaOf B E).1.bts.length ∧ RowIs W 48 13 b1 m1 d1 (svcsV (seaOf B E).1.svcs) ∧ RowIs W 88 7 b2 m2 d2 (cpsV (seaOf B E).1.cps) ∧ RowIs W 86 2 b3 m3 d3 (btsV (seaOf B E).1.bts))) (fun v W W2 ⟨q, b1, b2, b3, m1, d1, m2, d2, m3, d3, h, hm⟩ hb => ⟨q, b1, b2, b3, m1, d1, m2, d2, m3, d3, h, fun h0 => ⟨(hm h0).1, (hm h0).2.1, (hm h0).2.2.1, (hm h0).2.2.2.1, (hm h0).2.2.2.2.1.below hb (hm h0).2.2.2.2.1.lt, (hm h0).2.2.2.2.2.1.below hb (hm h0).2.2.2.2.2.1.lt, (hm h0).2.2.2.2.2.2.below hb (hm h0).2.2.2.2.2.2.lt⟩⟩) (by kernel_rfl) (by kernel_rfl) ?_ ?_
   ·intro V W K A hW hd hA hK
    have d4 : (fun vv W => ∃ (q : Int) (b1 b2 b3 : Nat) (m1 d1 m2 d2 m3 d3 : Nat), vv = .tuple #[.agg #[.int .i64 q, .slice (some ⟨b1, 0, none⟩) m1 d1, .slice (some ⟨b2, 0, none⟩) m2 d2, .slice (some ⟨b3, 0, none⟩) m3 d3], .int .i64 (seaOf B E).2] ∧ ((seaOf B E).2 = 0 → q = (seaOf B E).1.now ∧ m1 = (seaOf B E).1.svcs.length ∧ m2 = (seaOf B E).1.cps.length ∧ m3 = (seaOf B E).1.bts.length ∧ RowIs W 48 13 b1 m1 d1 (svcsV (seaOf B E).1.svcs) ∧ RowIs W 88 7 b2 m2 d2 (cpsV (seaOf B E).1.cps) ∧ RowIs W 86 2 b3 m3 d3 (btsV (seaOf B E).1.bts))) (V 4) W := hd 4 (by kernel_rfl)
    simp only [putAll, List.getElem?_toArray, List.getElem?_cons_succ, List.getElem?_cons_zero, Option.bind_some, Act.put, List.setIfInBounds_toArray, List.set_cons_succ, List.set_cons_zero] at hA
    clear hd
    generalize V 0 = x0 at hA
    generalize V 1 = x1 at hA
    generalize V 2 = x2 at hA
    generalize V 3 = x3 at hA
    generalize V 4 = x4 at d4 hA
    generalize V 5 = x5 at hA
    generalize V 6 = x6 at hA
    generalize V 7 = x7 at hA
    generalize V 8 = x8 at hA
    obtain rfl := hA
    obtain ⟨q, b1, b2, b3, m1, d1, m2, d2, m3, d3, rfl, hm⟩ := d4
    have HM : Hid _ := hm
    clear hm
    go_wp2
    exact hK.out _ _ (Below.refl _ _) ⟨q, b1, b2, b3, m1, d1, m2, d2, m3, d3, rfl, HM.out⟩
   apply ownV_eq (by kernel_rfl)
   ·intro V W K A hW hd hA hK
    have d4 : (fun vv W => ∃ (q : Int) (b1 b2 b3 : Nat) (m1 d1 m2 d2 m3 d3 : Nat), vv = .tuple #[.agg #[.int .i64 q, .slice (some ⟨b1, 0, none⟩) m1 d1, .slice (some ⟨b2, 0, none⟩) m2 d2, .slice (some ⟨b3, 0, none⟩) m3 d3], .int .i64 (seaOf B E).2] ∧ ((seaOf B E).2 = 0 → q = (seaOf B E).1.now ∧ m1 = (seaOf B E).1.svcs.length ∧ m2 = (seaOf B E).1.cps.length ∧ m3 = (seaOf B E).1.bts.length ∧ RowIs W 48 13 b1 m1 d1 (svcsV (seaOf B E).1.svcs) ∧ RowIs W 88 7 b2 m2 d2 (cpsV (seaOf B E).1.cps) ∧ RowIs W 86 2 b3 m3 d3 (btsV (seaOf B E).1.bts))) (V 4) W := hd 4 (by kernel_rfl)
    simp only [putAll, List.getElem?_toArray, List.getElem?_cons_succ, List.getElem?_cons_zero, Option.bind_some, Act.put, List.setIfInBounds_toArray, List.set_cons_succ, List.set_cons_zero] at hA
    clear hd
    generalize V 0 = x0 at hA
    generalize V 1 = x1 at hA
    generalize V 2 = x2 at hA
    generalize V 3 = x3 at hA
    generalize V 4 = x4 at d4 hA
    generalize V 5 = x5 at hA
    generalize V 6 = x6 at hA
    generalize V 7 = x7 at hA
    generalize V 8 = x8 at hA
    obtain rfl := hA
    obtain ⟨q, b1, b2, b3, m1, d1, m2, d2, m3, d3, rfl, hm⟩ := d4
    clear hm
    go_wp2
    exact hK.out _ (Below.refl _ _)
   refine ownV_grow (fun vv W => ∃ b, vv = .pointer (some ⟨b, 0, none⟩) ∧ w1.heap.size ≤ b ∧ W.heap[b]? = some (.cells #[.int .i64 0, .slice none 0 0, .slice none 0 0, .slice none 0 0] 34 (0, 0))) (fun v W W2 ⟨b, h1, h2, h3⟩ hb => ⟨b, h1, h2, below_blk hb h3 (Array.getElem?_eq_some_iff.1 h3).1⟩) (by kernel_rfl) (by kernel_rfl) ?_ ?_
   ·intro V W K A hW hd hA hK
    simp only [putAll, List.getElem?_toArray, List.getElem?_cons_succ, List.getElem?_cons_zero, Option.bind_some, Act.put, List.setIfInBounds_toArray, List.set_cons_succ, List.set_cons_zero] at hA
    clear hd
    generalize V 0 = x0 at hA
    generalize V 1 = x1 at hA
    generalize V 2 = x2 at hA
    generalize V 3 = x3 at hA
    generalize V 4 = x4 at hA
    generalize V 5 = x5 at hA
    generalize V 6 = x6 at hA
    generalize V 7 = x7 at hA
    generalize V 8 = x8 at hA
    obtain rfl := hA
    go_wp2
    exact hK.out _ _ (below_box W _) ⟨_, rfl, hW.size, heap_alloc_new W _⟩
   refine ownV_own (fun V (_ : Value) W => ∃ (b : Nat) (q : Int) (b1 b2 b3 : Nat) (m1 d1 m2 d2 m3 d3 : Nat), V 7 = .pointer (some ⟨b, 0, none⟩) ∧ w1.heap.size ≤ b ∧ W.heap[b]? = some (.cells #[.int .i64 q, .slice (some ⟨b1, 0, none⟩) m1 d1, .slice (some ⟨b2, 0, none⟩) m2 d2, .slice (some ⟨b3, 0, none⟩) m3 d3] 34 (0, 0)) ∧ ((seaOf B E).2 = 0 → q = (seaOf B E).1.now ∧ m1 = (seaOf B E).1.svcs.length ∧ m2 = (seaOf B E).1.cps.length ∧ m3 = (seaOf B E).1.bts.length ∧ RowIs W 48 13 b1 m1 d1 (svcsV (seaOf B E).1.svcs) ∧ RowIs W 88 7 b2 m2 d2 (cpsV (seaOf B E).1.cps) ∧ RowIs W 86 2 b3 m3 d3 (btsV (seaOf B E).1.bts))) (fun V v W W2 ⟨b, q, b1, b2, b3, m1, d1, m2, d2, m3, d3, hv, hn, h, hm⟩ hb => ⟨b, q, b1, b2, b3, m1, d1, m2, d2, m3, d3, hv, hn, below_blk hb h (Array.getElem?_eq_some_iff.1 h).1, fun h0 => ⟨(hm h0).1, (hm h0).2.1, (hm h0).2.2.1, (hm h0).2.2.2.1, (hm h0).2.2.2.2.1.below hb (hm h0).2.2.2.2.1.lt, (hm h0).2.2.2.2.2.1.below hb (hm h0).2.2.2.2.2.1.lt, (hm h0).2.2.2.2.2.2.below hb (hm h0).2.2.2.2.2.2.lt⟩⟩) (fun v V V2 W hVV ⟨b, q, b1, b2, b3, m1, d1, m2, d2, m3, d3, hv, hr⟩ => ⟨b, q, b1, b2, b3, m1, d1, m2, d2, m3, d3, (hVV 7 rfl).symm.trans hv, hr⟩) (by kernel_rfl) (by kernel_rfl) ?_ ?_
   ·intro V W K A hW hd hA hK
    have d5 : (fun vv W => ∃ (q : Int) (b1 b2 b3 : Nat) (m1 d1 m2 d2 m3 d3 : Nat), vv = .agg #[.int .i64 q, .slice (some ⟨b1, 0, none⟩) m1 d1, .slice (some ⟨b2, 0, none⟩) m2 d2, .slice (some ⟨b3, 0, none⟩) m3 d3] ∧ ((seaOf B E).2 = 0 → q = (seaOf B E).1.now ∧ m1 = (seaOf B E).1.svcs.length ∧ m2 = (seaOf B E).1.cps.length ∧ m3 = (seaOf B E).1.bts.length ∧ RowIs W 48 13 b1 m1 d1 (svcsV (seaOf B E).1.svcs) ∧ RowIs W 88 7 b2 m2 d2 (cpsV (seaOf B E).1.cps) ∧ RowIs W 86 2 b3 m3 d3 (btsV (seaOf B E).1.bts))) (V 5) W := hd 5 (by kernel_rfl)
    have d7 : (fun vv W => ∃ b, vv = .pointer (some ⟨b, 0, none⟩) ∧ w1.heap.size ≤ b ∧ W.heap[b]? = some (.cells #[.int .i64 0, .slice none 0 0, .slice none 0 0, .slice none 0 0] 34 (0, 0))) (V 7) W := hd 7 (by kernel_rfl)
    simp only [putAll, List.getElem?_toArray, List.getElem?_cons_succ, List.getElem?_cons_zero, Option.bind_some, Act.put, List.setIfInBounds_toArray, List.set_cons_succ, List.set_cons_zero] at hA
    clear hd
    generalize hV0 : V 0 = x0 at hA hK
    generalize hV1 : V 1 = x1 at hA hK
    generalize hV2 : V 2 = x2 at hA hK
    generalize hV3 : V 3 = x3 at hA hK
    generalize hV4 : V 4 = x4 at hA hK
    generalize hV5 : V 5 = x5 at d5 hA hK
    generalize hV6 : V 6 = x6 at hA hK
    generalize hV7 : V 7 = x7 at d7 hA hK
    generalize hV8 : V 8 = x8 at hA hK
    obtain rfl := hA
    obtain ⟨q, b1, b2, b3, m1, d1, m2, d2, m3, d3, rfl, hm⟩ := d5
    obtain ⟨b, rfl, hbN, hbz⟩ := d7
    have HM : Hid _ := hm
    have hsz := hW.size
    clear hm hV0 hV1 hV2 hV3 hV4 hV5 hV6 hV7 hV8
    refine wpList_store_only rfl 34 (.tmp 6) (.tmp 28) rfl b 0 #[.int .i64 q, .slice (some ⟨b1, 0, none⟩) m1 d1, .slice (some ⟨b2, 0, none⟩) m2 d2, .slice (some ⟨b3, 0, none⟩) m3 d3] rfl rfl 34 #[.int .i64 0, .slice none 0 0, .slice none 0 0, .slice none 0 0] hbz Tryz.infosBkX (Nat.le_of_ble_eq_true rfl) (by simp [Value.oneCell']) ?_
    intro w2 hz on
    have HZ2 : Hid (w2.heap[b]? = some (.cells #[.int .i64 q, .slice (some ⟨b1, 0, none⟩) m1 d1, .slice (some ⟨b2, 0, none⟩) m2 d2, .slice (some ⟨b3, 0, none⟩) m3 d3] 34 (0, 0))) := hz
    have HON : Hid (Only b W w2) := on
    have HBZ : Hid _ := hbz
    clear hz on hbz
    go_wp2
    have HNE : ∀ (t : TypeId) (c n cap sz : Nat) (xs : List Value), RowIs W t sz c n cap xs → t ≠ 34 → c ≠ b := fun t c n cap sz xs hr ht e => by
     obtain ⟨_, _, cur, h1, _⟩ := hr
     rw [e, HBZ.out] at h1
     injection h1 with h1
     injection h1 with _ h1
     exact ht h1.symm
    refine hK.out undef _ ?_ (HON.out.below.mono' (by omega)) ⟨b, q, b1, b2, b3, m1, d1, m2, d2, m3, d3, rfl, hbN, HZ2.out, fun h0 => ⟨(HM.out h0).1, (HM.out h0).2.1, (HM.out h0).2.2.1, (HM.out h0).2.2.2.1, (HM.out h0).2.2.2.2.1.blk (HON.out.other _ (HNE _ _ _ _ _ _ (HM.out h0).2.2.2.2.1 (by decide))), (HM.out h0).2.2.2.2.2.1.blk (HON.out.other _ (HNE _ _ _ _ _ _ (HM.out h0).2.2.2.2.2.1 (by decide))), (HM.out h0).2.2.2.2.2.2.blk (HON.out.other _ (HNE _ _ _ _ _ _ (HM.out h0).2.2.2.2.2.2 (by decide)))⟩⟩
    show ∀ (c : Nat) cs t fr, t ≠ 34 → W.heap[c]? = some (.cells cs t fr) → w2.heap[c]? = W.heap[c]?
    intro c cs t fr ht hc
    refine HON.out.other c (fun e => ?_)
    rw [e, HBZ.out] at hc
    injection hc with hc
    injection hc with _ hc
    exact ht hc.symm
   refine ⟨fun i j hk V v W W' hr hq => ?_, ?_⟩
   ·simp only [List.contains_cons, List.contains_nil, Bool.or_false, Bool.or_eq_true, beq_iff_eq, Prod.mk.injEq] at hk
    rcases hk with ⟨rfl, rfl⟩ | ⟨rfl, rfl⟩
    ·have hq' : (fun vv W => ∃ b, vv = .pointer (some ⟨b, 0, none⟩) ∧ w1.heap.size ≤ b ∧ W.heap[b]? = some (.cells #[.int .i64 0, .slice none 0 0, .slice none 0 0, .slice none 0 0] 34 (0, 0))) (v) W := hq
     show (fun vv W => ∃ b, vv = .pointer (some ⟨b, 0, none⟩) ∧ w1.heap.size ≤ b ∧ W.heap[b]? = some (.cells #[.int .i64 0, .slice none 0 0, .slice none 0 0, .slice none 0 0] 34 (0, 0))) (v) W'
     clear hq
     obtain ⟨b, h1, h2, h3⟩ := hq'
     exact ⟨b, h1, h2, ((show ∀ (b : Nat) cs fr, W.heap[b]? = some (.cells cs 34 fr) → W'.heap[b]? = W.heap[b]? from hr) b _ _ h3).trans h3⟩
    ·have hq' : (fun vv W => ∃ (q : Int) (b1 b2 b3 : Nat) (m1 d1 m2 d2 m3 d3 : Nat), vv = .tuple #[.agg #[.int .i64 q, .slice (some ⟨b1, 0, none⟩) m1 d1, .slice (some ⟨b2, 0, none⟩) m2 d2, .slice (some ⟨b3, 0, none⟩) m3 d3], .int .i64 (seaOf B E).2] ∧ ((seaOf B E).2 = 0 → q = (seaOf B E).1.now ∧ m1 = (seaOf B E).1.svcs.length ∧ m2 = (seaOf B E).1.cps.length ∧ m3 = (seaOf B E).1.bts.length ∧ RowIs W 48 13 b1 m1 d1 (svcsV (seaOf B E).1.svcs) ∧ RowIs W 88 7 b2 m2 d2 (cpsV (seaOf B E).1.cps) ∧ RowIs W 86 2 b3 m3 d3 (btsV (seaOf B E).1.bts))) (v) W := hq
     show (fun vv W => ∃ (q : Int) (b1 b2 b3 : Nat) (m1 d1 m2 d2 m3 d3 : Nat), vv = .tuple #[.agg #[.int .i64 q, .slice (some ⟨b1, 0, none⟩) m1 d1, .slice (some ⟨b2, 0, none⟩) m2 d2, .slice (some ⟨b3, 0, none⟩) m3 d3], .int .i64 (seaOf B E).2] ∧ ((seaOf B E).2 = 0 → q = (seaOf B E).1.now ∧ m1 = (seaOf B E).1.svcs.length ∧ m2 = (seaOf B E).1.cps.length ∧ m3 = (seaOf B E).1.bts.length ∧ RowIs W 48 13 b1 m1 d1 (svcsV (seaOf B E).1.svcs) ∧ RowIs W 88 7 b2 m2 d2 (cpsV (seaOf B E).1.cps) ∧ RowIs W 86 2 b3 m3 d3 (btsV (seaOf B E).1.bts))) (v) W'
     clear hq
     obtain ⟨q, b1, b2, b3, m1, d1, m2, d2, m3, d3, h, hm⟩ := hq'
     have hr' : ∀ (b : Nat) cs t fr, t ≠ 34 → W.heap[b]? = some (.cells cs t fr) → W'.heap[b]? = W.heap[b]? := hr
     have kr : ∀ t g sz n cap xs, t ≠ 34 → RowIs W t sz g n cap xs → RowIs W' t sz g n cap xs := fun t g sz n cap xs ht h => by
      obtain ⟨_, _, cur, h1, _⟩ := id h
      exact h.blk (hr' g _ t _ ht h1)
     exact ⟨q, b1, b2, b3, m1, d1, m2, d2, m3, d3, h, fun h0 => ⟨(hm h0).1, (hm h0).2.1, (hm h0).2.2.1, (hm h0).2.2.2.1, kr _ _ _ _ _ _ (by decide) (hm h0).2.2.2.2.1, kr _ _ _ _ _ _ (by decide) (hm h0).2.2.2.2.2.1, kr _ _ _ _ _ _ (by decide) (hm h0).2.2.2.2.2.2⟩⟩
   intro V W A hW hS hA
   have d0 : V 0 = _ := hS 0 (by omega) (.inr (by kernel_rfl))
   have d2 : V 2 = _ := hS 2 (by omega) (.inr (by kernel_rfl))
   have d6 : V 6 = _ := hS 6 (by omega) (.inr (by kernel_rfl))
   have d8 : (fun V (_ : Value) W => ∃ (b : Nat) (q : Int) (b1 b2 b3 : Nat) (m1 d1 m2 d2 m3 d3 : Nat), V 7 = .pointer (some ⟨b, 0, none⟩) ∧ w1.heap.size ≤ b ∧ W.heap[b]? = some (.cells #[.int .i64 q, .slice (some ⟨b1, 0, none⟩) m1 d1, .slice (some ⟨b2, 0, none⟩) m2 d2, .slice (some ⟨b3, 0, none⟩) m3 d3] 34 (0, 0)) ∧ ((seaOf B E).2 = 0 → q = (seaOf B E).1.now ∧ m1 = (seaOf B E).1.svcs.length ∧ m2 = (seaOf B E).1.cps.length ∧ m3 = (seaOf B E).1.bts.length ∧ RowIs W 48 13 b1 m1 d1 (svcsV (seaOf B E).1.svcs) ∧ RowIs W 88 7 b2 m2 d2 (cpsV (seaOf B E).1.cps) ∧ RowIs W 86 2 b3 m3 d3 (btsV (seaOf B E).1.bts))) V (V 8) W := hS 8 (by omega) (.inl (by kernel_rfl))
   simp only [putAll, List.getElem?_toArray, List.getElem?_cons_succ, List.getElem?_cons_zero, Option.bind_some, Act.put, List.setIfInBounds_toArray, List.set_cons_succ, List.set_cons_zero] at hA
   dsimp only at d8
   clear hS
   generalize V 0 = x0 at d0 hA
   generalize V 1 = x1 at hA
   generalize V 2 = x2 at d2 hA
   generalize V 3 = x3 at hA
   generalize V 4 = x4 at hA
   generalize V 5 = x5 at hA
   generalize V 6 = x6 at d6 hA
   generalize V 7 = x7 at d8 hA
   generalize V 8 = x8 at d8 hA
   subst d0
   subst d2
   subst d6
   obtain rfl := hA
   simp only [List.drop_succ_cons, List.drop_zero]
   obtain ⟨b, q, b1, b2, b3, m1, d1, m2, d2, m3, d3, hv7, hbN, hbz, hm⟩ := d8
   subst hv7
   have HBZ : Hid _ := hbz
   have HM : Hid _ := hm
   clear hbz hm
   have hbW := hb1.trans (hW.mono' (by have := hb1.size; omega))
   have XW : Hid _ := below_blk hW X1.out (by omega)
   have EW : Hid _ := below_blk hW E1.out (by omega)
   have ZW : Hid _ := below_blk hW Z1.out (by omega)
   have hzW : w.heap.size + 1 + 1 < W.heap.size := (Array.getElem?_eq_some_iff.1 ZW.out).1
   have hbl := (Array.getElem?_eq_some_iff.1 HBZ.out).1
   clear hW X1 E1 Z1 hb1
   by_cases h0 : (seaOf B E).2 = 0
   ·obtain ⟨rfl, rfl, rfl, rfl, r1, r2, r3⟩ := HM.out h0
    have R1 := hidOf r1
    have R2 := hidOf r2
    have R3 := hidOf r3
    have H0 : Hid _ := h0
    clear r1 r2 r3 HM
    rw [h0]
    clear h0
    have y0 := blk_cell HBZ.out 0 rfl
    have y1 := blk_cell HBZ.out 1 rfl
    have y2 := blk_cell HBZ.out 2 rfl
    have y3 := blk_cell HBZ.out 3 rfl
    go_wp2_with fail
    refine (specValid_any (seaOf B E).1 (some ⟨b1, 0, none⟩) (some ⟨b2, 0, none⟩) (some ⟨b3, 0, none⟩) d1 d2 d3 W (seaOf_small HV.out) (seaOf_sized HV.out hZ hE) ⟨R1.out.slS, R2.out.slC, R3.out.slB⟩).mono ?_
    rintro e w2 ⟨rfl, hbq⟩
    have hb2 := hbW.trans (hbq.mono' (by have := hbW.size; omega))
    have X2 : Hid _ := below_blk hbq XW.out (by omega)
    have E2 : Hid _ := below_blk hbq EW.out (by omega)
    have Z2 : Hid _ := below_blk hbq ZW.out (by omega)
    have hz2 : w.heap.size + 1 + 1 < w2.heap.size := (Array.getElem?_eq_some_iff.1 Z2.out).1
    have BZ2 : Hid _ := below_blk hbq HBZ.out hbl
    have HC2 : Hid (BkAt w2 (some ⟨b1, 0, none⟩) (some ⟨b2, 0, none⟩) (some ⟨b3, 0, none⟩) (seaOf B E).1) := BkAt.below ⟨R1.out.slS, R2.out.slC, R3.out.slB⟩ hbq
    clear hbq y0 y1 y2 y3 XW EW ZW hbW HBZ R1 R2 R3
    cases hvc : validB (seaOf B E).1
    ·have HA : Hid (seaAns B E = (B, 2)) := by unfold Hid; rw [HSA.out, if_pos H0.out, if_neg (by rw [hvc]; simp)]
     have e0 := blk_cell X2.out 0 rfl
     have e1 := blk_cell X2.out 1 rfl
     have e2 := blk_cell X2.out 2 rfl
     have e3 := blk_cell X2.out 3 rfl
     go_wp2_with fail
     refine (l1Book_own B a1 a2 a3 c1 c2 c3 w2 hS (hB.below hb2)).mono ?_
     rintro e w3 ⟨r1, p1, r2, p2, r3, p3, rfl, hrw, hbq⟩
     have hb3 := hb2.trans (hbq.mono' (by have := hb2.size; omega))
     have X3 : Hid _ := below_blk hbq X2.out (by omega)
     have E3 : Hid _ := below_blk hbq E2.out (by omega)
     have Z3 : Hid _ := below_blk hbq Z2.out (by omega)
     have hz3 : w.heap.size + 1 + 1 < w3.heap.size := (Array.getElem?_eq_some_iff.1 Z3.out).1
     have HRW : Hid _ := hrw
     clear hrw hbq e0 e1 e2 e3
     go_wp2_with (refine wpList_store_only rfl 34 (.tmp 4) (.tmp 40) rfl (w.heap.size + 1 + 1) 0 #[.int .i64 B.now, .slice (some ⟨r1, 0, none⟩) B.svcs.length p1, .slice (some ⟨r2, 0, none⟩) B.cps.length p2, .slice (some ⟨r3, 0, none⟩) B.bts.length p3] rfl rfl 34 #[.int .i64 0, .slice none 0 0, .slice none 0 0, .slice none 0 0] Z3.out Tryz.infosBkX (Nat.le_of_ble_eq_true rfl) (by simp [Value.oneCell']) ?_; intro w4 hz on; have Z4 : Hid (w4.heap[w.heap.size + 1 + 1]? = some (.cells #[.int .i64 B.now, .slice (some ⟨r1, 0, none⟩) B.svcs.length p1, .slice (some ⟨r2, 0, none⟩) B.cps.length p2, .slice (some ⟨r3, 0, none⟩) B.bts.length p3] 34 (0, 0))) := hz; have hb4 := hb3.trans (on.below.mono' (by omega)); have HON : Hid (Only (w.heap.size + 1 + 1) w3 w4) := on; clear hz on)
     exact bodyPost_ret (v := .tuple #[.agg #[.int .i64 B.now, .slice (some ⟨r1, 0, none⟩) B.svcs.length p1, .slice (some ⟨r2, 0, none⟩) B.cps.length p2, .slice (some ⟨r3, 0, none⟩) B.bts.length p3], .int .i64 2]) (results_cell_tmp rfl _ _ (w.heap.size + 1 + 1) _ _ _ _ rfl Z4.out Tryz.underlying34 rfl Tryz.infosBkX _ rfl) rfl ⟨some ⟨r1, 0, none⟩, some ⟨r2, 0, none⟩, some ⟨r3, 0, none⟩, p1, p2, p3, by rw [HA.out], by rw [HA.out]; exact ⟨(HRW.out.svcs.blk (HON.out.other r1 (by have := HRW.out.n1; omega))).slS, (HRW.out.cps.blk (HON.out.other r2 (by have := HRW.out.n2; omega))).slC, (HRW.out.bts.blk (HON.out.other r3 (by have := HRW.out.n3; omega))).slB⟩, hb4⟩
    ·have HA : Hid (seaAns B E = ((seaOf B E).1, 0)) := by unfold Hid; rw [HSA.out, if_pos H0.out, if_pos hvc]
     have e0 := blk_cell BZ2.out 0 rfl
     have e1 := blk_cell BZ2.out 1 rfl
     have e2 := blk_cell BZ2.out 2 rfl
     have e3 := blk_cell BZ2.out 3 rfl
     go_wp2_with fail
     refine (l1Book_own (seaOf B E).1 (some ⟨b1, 0, none⟩) (some ⟨b2, 0, none⟩) (some ⟨b3, 0, none⟩) d1 d2 d3 w2 (seaOf_small HV.out) HC2.out).mono ?_
     rintro e w3 ⟨r1, p1, r2, p2, r3, p3, rfl, hrw, hbq⟩
     have hb3 := hb2.trans (hbq.mono' (by have := hb2.size; omega))
     have X3 : Hid _ := below_blk hbq X2.out (by omega)
     have E3 : Hid _ := below_blk hbq E2.out (by omega)
     have Z3 : Hid _ := below_blk hbq Z2.out (by omega)
     have hz3 : w.heap.size + 1 + 1 < w3.heap.size := (Array.getElem?_eq_some_iff.1 Z3.out).1
     have HRW : Hid _ := hrw
     clear hrw hbq e0 e1 e2 e3
     go_wp2_with (refine wpList_store_only rfl 34 (.tmp 4) (.tmp 43) rfl (w.heap.size + 1 + 1) 0 #[.int .i64 (seaOf B E).1.now, .slice (some ⟨r1, 0, none⟩) (seaOf B E).1.svcs.length p1, .slice (some ⟨r2, 0, none⟩) (seaOf B E).1.cps.length p2, .slice (some ⟨r3, 0, none⟩) (seaOf B E).1.bts.length p3] rfl rfl 34 #[.int .i64 0, .slice none 0 0, .slice none 0 0, .slice none 0 0] Z3.out Tryz.infosBkX (Nat.le_of_ble_eq_true rfl) (by simp [Value.oneCell']) ?_; intro w4 hz on; have Z4 : Hid (w4.heap[w.heap.size + 1 + 1]? = some (.cells #[.int .i64 (seaOf B E).1.now, .slice (some ⟨r1, 0, none⟩) (seaOf B E).1.svcs.length p1, .slice (some ⟨r2, 0, none⟩) (seaOf B E).1.cps.length p2, .slice (some ⟨r3, 0, none⟩) (seaOf B E).1.bts.length p3] 34 (0, 0))) := hz; have hb4 := hb3.trans (on.below.mono' (by omega)); have HON : Hid (Only (w.heap.size + 1 + 1) w3 w4) := on; clear hz on)
     exact bodyPost_ret (v := .tuple #[.agg #[.int .i64 (seaOf B E).1.now, .slice (some ⟨r1, 0, none⟩) (seaOf B E).1.svcs.length p1, .slice (some ⟨r2, 0, none⟩) (seaOf B E).1.cps.length p2, .slice (some ⟨r3, 0, none⟩) (seaOf B E).1.bts.length p3], .int .i64 0]) (results_cell_tmp rfl _ _ (w.heap.size + 1 + 1) _ _ _ _ rfl Z4.out Tryz.underlying34 rfl Tryz.infosBkX _ rfl) rfl ⟨some ⟨r1, 0, none⟩, some ⟨r2, 0, none⟩, some ⟨r3, 0, none⟩, p1, p2, p3, by rw [HA.out], by rw [HA.out]; exact ⟨(HRW.out.svcs.blk (HON.out.other r1 (by have := HRW.out.n1; omega))).slS, (HRW.out.cps.blk (HON.out.other r2 (by have := HRW.out.n2; omega))).slC, (HRW.out.bts.blk (HON.out.other r3 (by have := HRW.out.n3; omega))).slB⟩, hb4⟩
   ·have HA : Hid (seaAns B E = (B, (seaOf B E).2)) := by unfold Hid; rw [HSA.out, if_neg h0]
    obtain ⟨cd, hcd⟩ : ∃ cd, (seaOf B E).2 = cd := ⟨_, rfl⟩
    rw [hcd] at h0 HA ⊢
    clear hcd HM HSA
    have h0b : (cd == 0) = false := by simpa using h0
    have h0n : (cd != 0) = true := by simpa using h0
    clear h0
    have e0 := blk_cell XW.out 0 rfl
    have e1 := blk_cell XW.out 1 rfl
    have e2 := blk_cell XW.out 2 rfl
    have e3 := blk_cell XW.out 3 rfl
    go_wp2_with fail
    refine (l1Book_own B a1 a2 a3 c1 c2 c3 W hS (hB.below hbW)).mono ?_
    rintro e w3 ⟨r1, p1, r2, p2, r3, p3, rfl, hrw, hbq⟩
    have hb3 := hbW.trans (hbq.mono' (by have := hbW.size; omega))
    have X3 : Hid _ := below_blk hbq XW.out (by omega)
    have E3 : Hid _ := below_blk hbq EW.out (by omega)
    have Z3 : Hid _ := below_blk hbq ZW.out (by omega)
    have hz3 : w.heap.size + 1 + 1 < w3.heap.size := (Array.getElem?_eq_some_iff.1 Z3.out).1
    have HRW : Hid _ := hrw
    clear hrw hbq e0 e1 e2 e3
    go_wp2_with (refine wpList_store_only rfl 34 (.tmp 4) (.tmp 40) rfl (w.heap.size + 1 + 1) 0 #[.int .i64 B.now, .slice (some ⟨r1, 0, none⟩) B.svcs.length p1, .slice (some ⟨r2, 0, none⟩) B.cps.length p2, .slice (some ⟨r3, 0, none⟩) B.bts.length p3] rfl rfl 34 #[.int .i64 0, .slice none 0 0, .slice none 0 0, .slice none 0 0] Z3.out Tryz.infosBkX (Nat.le_of_ble_eq_true rfl) (by simp [Value.oneCell']) ?_; intro w4 hz on; have Z4 : Hid (w4.heap[w.heap.size + 1 + 1]? = some (.cells #[.int .i64 B.now, .slice (some ⟨r1, 0, none⟩) B.svcs.length p1, .slice (some ⟨r2, 0, none⟩) B.cps.length p2, .slice (some ⟨r3, 0, none⟩) B.bts.length p3] 34 (0, 0))) := hz; have hb4 := hb3.trans (on.below.mono' (by omega)); have HON : Hid (Only (w.heap.size + 1 + 1) w3 w4) := on; clear hz on)
    exact bodyPost_ret (v := .tuple #[.agg #[.int .i64 B.now, .slice (some ⟨r1, 0, none⟩) B.svcs.length p1, .slice (some ⟨r2, 0, none⟩) B.cps.length p2, .slice (some ⟨r3, 0, none⟩) B.bts.length p3], .int .i64 cd]) (results_cell_tmp rfl _ _ (w.heap.size + 1 + 1) _ _ _ _ rfl Z4.out Tryz.underlying34 rfl Tryz.infosBkX _ rfl) rfl ⟨some ⟨r1, 0, none⟩, some ⟨r2, 0, none⟩, some ⟨r3, 0, none⟩, p1, p2, p3, by rw [HA.out], by rw [HA.out]; exact ⟨(HRW.out.svcs.blk (HON.out.other r1 (by have := HRW.out.n1; omega))).slS, (HRW.out.cps.blk (HON.out.other r2 (by have := HRW.out.n2; omega))).slC, (HRW.out.bts.blk (HON.out.other r3 (by have := HRW.out.n3; omega))).slB⟩, hb4⟩
end Go.Proofs.YtbceafpodamnfabGreat
