/-
  My own: Oz.
-/
import Derived.Test.YtbceafpodamnfabGreatDoorG46
import Derived.Test.YtbceafpodamnfabGreatDoorG40
import Derived.Test.YtbceafpodamnfabGreatDoorG41
set_option linter.unusedVariables false
set_option linter.unusedSimpArgs false
namespace Go.Proofs.YtbceafpodamnfabGreatDoor
open Go.RowKit Go.Sort
theorem Tryz.infosBkLO : (Tryz.prog.info? 26).map (·.size) = some 4 := by kernel_rfl
theorem Tryz.infosActO : (Tryz.prog.info? 42).map (·.size) = some 8 := by kernel_rfl
set_option maxHeartbeats 1000000 in
theorem markAct_any (A : Ac) (b cap : Nat) (k0 : Int) (w : World) (hl : A.ends.length ≤ 1048576) (h0 : 1 ≤ k0) (h1 : k0 + 2 * A.ends.length < 100000000) (hO : OwnE w b A.ends) :
  Calls Tryz.prog 16 #[.agg #[.string A.service, .int .i64 A.seen, .int .i64 A.create, .int .i64 A.want, .int .i64 A.cool, .bool A.scale, .slice (some ⟨b, 0, none⟩) A.ends.length cap, .bool A.drop], .int .i64 k0] w fun e w' => e = .returned (.int .i64 (k0 + 2 * A.ends.length)) ∧ KeepT 155 w w' ∧ ∀ N, N ≤ b → N ≤ w.heap.size → Below N w w' := by
 have T0 : Hid _ := heap_alloc_new w (.cells #[.string A.service, .int .i64 A.seen, .int .i64 A.create, .int .i64 A.want, .int .i64 A.cool, .bool A.scale, .slice (some ⟨b, 0, none⟩) A.ends.length cap, .bool A.drop] 42)
 have hb0 := below_box w (.cells #[.string A.service, .int .i64 A.seen, .int .i64 A.create, .int .i64 A.want, .int .i64 A.cool, .bool A.scale, .slice (some ⟨b, 0, none⟩) A.ends.length cap, .bool A.drop] 42)
 obtain ⟨W0, hW0⟩ : ∃ W, w.alloc (.cells #[.string A.service, .int .i64 A.seen, .int .i64 A.create, .int .i64 A.want, .int .i64 A.cool, .bool A.scale, .slice (some ⟨b, 0, none⟩) A.ends.length cap, .bool A.drop] 42) = W := ⟨_, rfl⟩
 rw [hW0] at T0 hb0
 have hO0 : OwnE W0 b A.ends := hO.blk (hb0.block b hO.lt)
 have e6 := blk_cell T0.out 6 rfl
 go_enter Tryz.func16, Tryz.ntmps16
 go_wp2_with (go_at_call 55; refine (markEnds_any A.ends _ cap k0 W0 hl h0 h1 (fun _ => ⟨b, rfl, hO0.room⟩)).mono ?_; rintro e w1 ⟨rfl, hn, hs⟩)
 go_ret
 by_cases hne : A.ends = []
 ·have := hn hne
  subst this
  exact ⟨rfl, .of_below hb0, fun N _ h2 => hb0.mono h2⟩
 ·obtain ⟨ge, e, _, hgr⟩ := hs hne
  injection e with e
  injection e with e
  subst e
  obtain ⟨cur, hc, _⟩ := hO0
  have hk : KeepT 155 W0 w1 := ⟨hgr.size, fun k hk hne => hgr.block k hk fun e' => by
   injection e' with e'
   subst e'
   exact hne _ _ hc⟩
  exact ⟨rfl, (KeepT.of_below hb0).trans hk, fun N h1 h2 => (hb0.mono h2).trans ⟨hgr.os, hgr.tape, hgr.output, hgr.size, fun k hk => hgr.block k (by have := hb0.size; omega) (fun e' => by injection e' with e'; omega)⟩⟩
structure LSt (W : World) (n3 n7 bI bJ bG b1 b2 b3 be : Nat) (B : Bk) (A : Ac) (Y : Bk) (x1 x2 x3 : Option Addr) (p1 p2 p3 : Nat) : Prop where
 I : W.heap[bI]? = some (.cells #[.int .i64 B.now, .slice (some ⟨b1, 0, none⟩) B.svcs.length B.svcs.length, .slice (some ⟨b2, 0, none⟩) B.cps.length B.cps.length, .slice (some ⟨b3, 0, none⟩) B.bts.length B.bts.length] 36 (0, 0))
 J : W.heap[bJ]? = some (.cells #[.string A.service, .int .i64 A.seen, .int .i64 A.create, .int .i64 A.want, .int .i64 A.cool, .bool A.scale, .slice (some ⟨be, 0, none⟩) A.ends.length A.ends.length, .bool A.drop] 42 (0, 0))
 G : W.heap[bG]? = some (.cells #[.int .i64 Y.now, .slice x1 Y.svcs.length p1, .slice x2 Y.cps.length p2, .slice x3 Y.bts.length p3] 36 (0, 0))
 O : BkOwn n3 W b1 b2 b3 B
 E : OwnE W be A.ends
 M : BkOf W n7 Y x1 x2 x3 p1 p2 p3
theorem LSt.below {W W' : World} {n3 n7 bI bJ bG b1 b2 b3 be : Nat} {B : Bk} {A : Ac} {Y : Bk} {x1 x2 x3 : Option Addr} {p1 p2 p3 : Nat} (h : LSt W n3 n7 bI bJ bG b1 b2 b3 be B A Y x1 x2 x3 p1 p2 p3) (hb : Below W.heap.size W W') : LSt W' n3 n7 bI bJ bG b1 b2 b3 be B A Y x1 x2 x3 p1 p2 p3 :=
 ⟨below_blk hb h.I (Array.getElem?_eq_some_iff.1 h.I).1, below_blk hb h.J (Array.getElem?_eq_some_iff.1 h.J).1, below_blk hb h.G (Array.getElem?_eq_some_iff.1 h.G).1, h.O.below hb h.O.bts.lt, h.E.blk (hb.block be h.E.lt), h.M.below hb⟩
theorem hidL {W : World} {n3 n7 bI bJ bG b1 b2 b3 be : Nat} {B : Bk} {A : Ac} {Y : Bk} {x1 x2 x3 : Option Addr} {p1 p2 p3 : Nat} (h : LSt W n3 n7 bI bJ bG b1 b2 b3 be B A Y x1 x2 x3 p1 p2 p3) : Hid (LSt W n3 n7 bI bJ bG b1 b2 b3 be B A Y x1 x2 x3 p1 p2 p3) := h
set_option maxRecDepth 100000 in
set_option maxHeartbeats 16000000 in
theorem lawApply_any (B : Bk) (A : Ac) (a1 a2 a3 : Option Addr) (c1 c2 c3 : Nat) (ae : Option Addr) (ce : Nat) (w : World) (hEr : ErrT w) (hZ : B.sized) (hZA : A.sized) (hnum : Hid (∀ e ∈ A.ends, (Lit.int .i64 e.number).wf = true)) (hB : BkAt w a1 a2 a3 B) (hE : SlE w ae A.ends) :
  Calls Tryz.prog 3 #[.agg #[.int .i64 B.now, .slice a1 B.svcs.length c1, .slice a2 B.cps.length c2, .slice a3 B.bts.length c3], .agg #[.string A.service, .int .i64 A.seen, .int .i64 A.create, .int .i64 A.want, .int .i64 A.cool, .bool A.scale, .slice ae A.ends.length ce, .bool A.drop]] w fun e w' => e = .returned (.bool true) ∧ Below w.heap.size w w' := by
 obtain ⟨Y, cd, HY⟩ : ∃ Y cd, Hid (ansBk B A = Y ∧ ansCd B A = cd) := ⟨_, _, rfl, rfl⟩
 obtain ⟨W0, hW0, t0, t1, hz0, hz0', hb0⟩ := two_newO w (.cells #[.int .i64 B.now, .slice a1 B.svcs.length c1, .slice a2 B.cps.length c2, .slice a3 B.bts.length c3] 26) (.cells #[.string A.service, .int .i64 A.seen, .int .i64 A.create, .int .i64 A.want, .int .i64 A.cool, .bool A.scale, .slice ae A.ends.length ce, .bool A.drop] 29)
 have X0 : Hid _ := t0
 have E0 : Hid _ := t1
 clear t0 t1
 have e0 := blk_cell X0.out 0 rfl
 have e1 := blk_cell X0.out 1 rfl
 have e2 := blk_cell X0.out 2 rfl
 have e3 := blk_cell X0.out 3 rfl
 go_enter Tryz.func3, Tryz.ntmps3
 go_upto_region 1 with fail
 clear hW0
 go_wp2_with fail
 refine (szBook_any B a1 a2 a3 c1 c2 c3 1048576 W0 (by omega) (by omega) (hB.below hb0) hZ).mono ?_
 rintro e w1 ⟨r, rfl, hr0, hr1, hsm, hbq⟩
 have hb1 := hb0.trans (hbq.mono hb0.size)
 have X1 : Hid _ := below_blk hbq X0.out (by omega)
 have E1 : Hid _ := below_blk hbq E0.out (by omega)
 have hz1 : w.heap.size + 1 < w1.heap.size := (Array.getElem?_eq_some_iff.1 E1.out).1
 clear hbq e0 e1 e2 e3 X0 E0 hb0 hz0 hz0'
 by_cases hneg : r < 0
 ·go_wp2
  go_ret
  exact ⟨rfl, hb1⟩
 have hS : B.small := hsm.out (by omega)
 have HSY : Hid Y.small := by have := ans_small A hS; rw [HY.out.1] at this; exact this
 clear hsm
 have q0 := blk_cell E1.out 0 rfl
 have q1 := blk_cell E1.out 1 rfl
 have q2 := blk_cell E1.out 2 rfl
 have q3 := blk_cell E1.out 3 rfl
 have q4 := blk_cell E1.out 4 rfl
 have q5 := blk_cell E1.out 5 rfl
 have q6 := blk_cell E1.out 6 rfl
 have q7 := blk_cell E1.out 7 rfl
 go_wp2_with fail
 refine (szAct_any A ae ce r w1 hZA (by omega) (by omega)).mono ?_
 rintro e w2 ⟨r2, rfl, hr2, hr3, hsma, hbq⟩
 have hb2 := hb1.trans (hbq.mono hb1.size)
 have X2 : Hid (w2.heap[w.heap.size]? = some (.cells #[.int .i64 B.now, .slice a1 B.svcs.length c1, .slice a2 B.cps.length c2, .slice a3 B.bts.length c3] 26 (0, 0))) := below_blk hbq X1.out (by omega)
 have E2 : Hid (w2.heap[w.heap.size + 1]? = some (.cells #[.string A.service, .int .i64 A.seen, .int .i64 A.create, .int .i64 A.want, .int .i64 A.cool, .bool A.scale, .slice ae A.ends.length ce, .bool A.drop] 29 (0, 0))) := below_blk hbq E1.out (by omega)
 have hz2 : w.heap.size + 1 < w2.heap.size := (Array.getElem?_eq_some_iff.1 E2.out).1
 clear hbq q0 q1 q2 q3 q4 q5 q6 q7 X1 E1 hb1 hz1
 by_cases hneg2 : r2 < 0
 ·go_wp2
  go_ret
  exact ⟨rfl, hb2⟩
 have hel : A.ends.length ≤ 1048576 := (hsma.out (by omega)).2
 have hsv : A.service.size ≤ maxLen := hZA.1
 go_upto_region 8 with fail
 clear hneg hneg2 hr0 hr1 hr2 hr3 hsma
 refine wp_region_ownsV 10 3 [[], [0], [], [2], [1, 3], [4], [5], [5], [], [6, 8]] [9] [1, 3, 4, 5, 6, 8, 9] [9] [(9, 5)] (fun _ W W2 => ∃ b, W.heap[b]? = some (.cells #[.int .i64 0, .slice none 0 0, .slice none 0 0, .slice none 0 0] 36 (0, 0)) ∧ Only b W W2) (by kernel_rfl) (by kernel_rfl) (by kernel_rfl) ?_
 apply ownV_eq (by kernel_rfl)
 ·intro V W K AA hW hd hA hK
  simp only [putAll, pz1, pz2, pz3, pz4, Act.put, pz5, pz6, pz7] at hA
  clear hd
  obtain rfl := hA
  refine wpList_load_row rfl 26 (.tmp 2) rfl w.heap.size rfl 26 #[.int .i64 B.now, .slice a1 B.svcs.length c1, .slice a2 B.cps.length c2, .slice a3 B.bts.length c3] (0, 0) _ (below_blk hW X2.out (by omega)) Tryz.underlying26 rfl Tryz.infosBkLO ?_
  go_wp2
  exact hK.out _ brf
 refine ownV_grow (fun vv W => ∃ y1 y2 y3, vv = .agg #[.int .i64 B.now, .slice y1 B.svcs.length B.svcs.length, .slice y2 B.cps.length B.cps.length, .slice y3 B.bts.length B.bts.length] ∧ BkAt W y1 y2 y3 B) (fun v W W2 ⟨y1, y2, y3, h1, h2⟩ hb => ⟨y1, y2, y3, h1, h2.below hb⟩) (by kernel_rfl) (by kernel_rfl) ?_ ?_
 ·intro V W K AA hW hd hA hK
  have d0 : V 0 = _ := hd 0 (by kernel_rfl)
  simp only [putAll, pz1, pz2, pz3, pz4, Act.put, pz5, pz6, pz7, d0] at hA
  clear hd d0
  obtain rfl := hA
  go_wp2_with fail
  refine (toBook_any B a1 a2 a3 c1 c2 c3 W (hB.below (hb2.trans (hW.mono hb2.size))) hS).mono ?_
  rintro e u2 ⟨y1, y2, y3, rfl, hX, hbq⟩
  have HX := hid_of' hX
  clear hX
  go_wp2
  exact hK.out _ _ hbq ⟨y1, y2, y3, rfl, HX.out⟩
 apply ownV_eq (by kernel_rfl)
 ·intro V W K AA hW hd hA hK
  simp only [putAll, pz1, pz2, pz3, pz4, Act.put, pz5, pz6, pz7] at hA
  clear hd
  obtain rfl := hA
  have q0 := blk_cell (below_blk hW E2.out (by omega)) 0 rfl
  have q1 := blk_cell (below_blk hW E2.out (by omega)) 1 rfl
  have q2 := blk_cell (below_blk hW E2.out (by omega)) 2 rfl
  have q3 := blk_cell (below_blk hW E2.out (by omega)) 3 rfl
  have q4 := blk_cell (below_blk hW E2.out (by omega)) 4 rfl
  have q5 := blk_cell (below_blk hW E2.out (by omega)) 5 rfl
  have q6 := blk_cell (below_blk hW E2.out (by omega)) 6 rfl
  have q7 := blk_cell (below_blk hW E2.out (by omega)) 7 rfl
  go_wp2
  exact hK.out _ brf
 refine ownV_grow (fun vv W => ∃ y, vv = .agg #[.string A.service, .int .i64 A.seen, .int .i64 A.create, .int .i64 A.want, .int .i64 A.cool, .bool A.scale, .slice (some ⟨y, 0, none⟩) A.ends.length A.ends.length, .bool A.drop] ∧ OwnE W y A.ends) (fun v W W2 ⟨y, h1, h2⟩ hb => ⟨y, h1, h2.blk (hb.block y h2.lt)⟩) (by kernel_rfl) (by kernel_rfl) ?_ ?_
 ·intro V W K AA hW hd hA hK
  have d2 : V 2 = _ := hd 2 (by kernel_rfl)
  simp only [putAll, pz1, pz2, pz3, pz4, Act.put, pz5, pz6, pz7, d2] at hA
  clear hd d2
  obtain rfl := hA
  go_wp2_with fail
  refine (toAct_own A ae ce W hel (hE.below (hb2.trans (hW.mono hb2.size)))).mono ?_
  rintro e u2 ⟨y, rfl, _, hO, hbq⟩
  have HO := hid_of' hO
  clear hO
  go_wp2
  exact hK.out _ _ hbq ⟨y, rfl, HO.out⟩
 refine ownV_grow (fun vv W => ∃ (x1 x2 x3 : Option Addr) (p1 p2 p3 : Nat), vv = .tuple #[.agg #[.int .i64 Y.now, .slice x1 Y.svcs.length p1, .slice x2 Y.cps.length p2, .slice x3 Y.bts.length p3], .int .i64 cd] ∧ BkOf W w2.heap.size Y x1 x2 x3 p1 p2 p3) (fun v W W2 ⟨x1, x2, x3, p1, p2, p3, h, hm⟩ hb => ⟨x1, x2, x3, p1, p2, p3, h, hm.below hb⟩) (by kernel_rfl) (by kernel_rfl) ?_ ?_
 ·intro V W K AA hW hd hA hK
  have d1 : (fun vv W => ∃ y1 y2 y3, vv = .agg #[.int .i64 B.now, .slice y1 B.svcs.length B.svcs.length, .slice y2 B.cps.length B.cps.length, .slice y3 B.bts.length B.bts.length] ∧ BkAt W y1 y2 y3 B) (V 1) W := hd 1 (by kernel_rfl)
  have d3 : (fun vv W => ∃ y, vv = .agg #[.string A.service, .int .i64 A.seen, .int .i64 A.create, .int .i64 A.want, .int .i64 A.cool, .bool A.scale, .slice (some ⟨y, 0, none⟩) A.ends.length A.ends.length, .bool A.drop] ∧ OwnE W y A.ends) (V 3) W := hd 3 (by kernel_rfl)
  simp only [putAll, pz1, pz2, pz3, pz4, Act.put, pz5, pz6, pz7] at hA
  clear hd
  generalize V 1 = x1 at d1 hA
  generalize V 3 = x3 at d3 hA
  obtain rfl := hA
  obtain ⟨y1, y2, y3, rfl, hX⟩ := d1
  obtain ⟨y, rfl, hO⟩ := d3
  have HX := hid_of' hX
  have HO := hid_of' hO
  clear hX hO
  go_wp2_with fail
  refine (specApply_ans B A y1 y2 y3 _ _ _ (some ⟨y, 0, none⟩) A.ends.length W hS hZ HX.out hel HO.out.sl).mono ?_
  rw [HY.out.1, HY.out.2]
  rintro e u2 ⟨⟨x1, x2, x3, p1, p2, p3, rfl, hm⟩, hbq⟩
  have HM := hidBkOf (hm.mono hW.size)
  clear hm
  go_wp2
  exact hK.out _ _ hbq ⟨x1, x2, x3, p1, p2, p3, rfl, HM.out⟩
 refine ownV_grow (fun vv W => ∃ (x1 x2 x3 : Option Addr) (p1 p2 p3 : Nat), vv = .tuple #[.agg #[.int .i64 Y.now, .slice x1 Y.svcs.length p1, .slice x2 Y.cps.length p2, .slice x3 Y.bts.length p3], .int .i64 cd] ∧ BkOf W w2.heap.size Y x1 x2 x3 p1 p2 p3) (fun v W W2 ⟨x1, x2, x3, p1, p2, p3, h, hm⟩ hb => ⟨x1, x2, x3, p1, p2, p3, h, hm.below hb⟩) (by kernel_rfl) (by kernel_rfl) ?_ ?_
 ·intro V W K AA hW hd hA hK
  have d4 : (fun vv W => ∃ (x1 x2 x3 : Option Addr) (p1 p2 p3 : Nat), vv = .tuple #[.agg #[.int .i64 Y.now, .slice x1 Y.svcs.length p1, .slice x2 Y.cps.length p2, .slice x3 Y.bts.length p3], .int .i64 cd] ∧ BkOf W w2.heap.size Y x1 x2 x3 p1 p2 p3) (V 4) W := hd 4 (by kernel_rfl)
  simp only [putAll, pz1, pz2, pz3, pz4, Act.put, pz5, pz6, pz7] at hA
  clear hd
  generalize V 4 = x4 at d4 hA
  obtain rfl := hA
  obtain ⟨x1, x2, x3, p1, p2, p3, rfl, hm⟩ := d4
  have HM := hid_of' hm
  clear hm
  go_wp2
  exact hK.out _ _ brf ⟨x1, x2, x3, p1, p2, p3, rfl, HM.out⟩
 refine ownV_grow (fun vv W => ∃ (x1 x2 x3 : Option Addr) (p1 p2 p3 : Nat), vv = .agg #[.int .i64 Y.now, .slice x1 Y.svcs.length p1, .slice x2 Y.cps.length p2, .slice x3 Y.bts.length p3] ∧ BkOf W w2.heap.size Y x1 x2 x3 p1 p2 p3) (fun v W W2 ⟨x1, x2, x3, p1, p2, p3, h, hm⟩ hb => ⟨x1, x2, x3, p1, p2, p3, h, hm.below hb⟩) (by kernel_rfl) (by kernel_rfl) ?_ ?_
 ·intro V W K AA hW hd hA hK
  have d5 : (fun vv W => ∃ (x1 x2 x3 : Option Addr) (p1 p2 p3 : Nat), vv = .tuple #[.agg #[.int .i64 Y.now, .slice x1 Y.svcs.length p1, .slice x2 Y.cps.length p2, .slice x3 Y.bts.length p3], .int .i64 cd] ∧ BkOf W w2.heap.size Y x1 x2 x3 p1 p2 p3) (V 5) W := hd 5 (by kernel_rfl)
  simp only [putAll, pz1, pz2, pz3, pz4, Act.put, pz5, pz6, pz7] at hA
  clear hd
  generalize V 5 = x5 at d5 hA
  obtain rfl := hA
  obtain ⟨x1, x2, x3, p1, p2, p3, rfl, hm⟩ := d5
  have HM := hid_of' hm
  clear hm
  go_wp2
  exact hK.out _ _ brf ⟨x1, x2, x3, p1, p2, p3, rfl, HM.out⟩
 apply ownV_eq (by kernel_rfl)
 ·intro V W K AA hW hd hA hK
  have d5 : (fun vv W => ∃ (x1 x2 x3 : Option Addr) (p1 p2 p3 : Nat), vv = .tuple #[.agg #[.int .i64 Y.now, .slice x1 Y.svcs.length p1, .slice x2 Y.cps.length p2, .slice x3 Y.bts.length p3], .int .i64 cd] ∧ BkOf W w2.heap.size Y x1 x2 x3 p1 p2 p3) (V 5) W := hd 5 (by kernel_rfl)
  simp only [putAll, pz1, pz2, pz3, pz4, Act.put, pz5, pz6, pz7] at hA
  clear hd
  generalize V 5 = x5 at d5 hA
  obtain rfl := hA
  obtain ⟨x1, x2, x3, p1, p2, p3, rfl, hm⟩ := d5
  have HM := hid_of' hm
  clear hm
  go_wp2
  exact hK.out _ brf
 refine ownV_grow (fun vv W => ∃ b, vv = .pointer (some ⟨b, 0, none⟩) ∧ w2.heap.size ≤ b ∧ W.heap[b]? = some (.cells #[.int .i64 0, .slice none 0 0, .slice none 0 0, .slice none 0 0] 36 (0, 0))) (fun v W W2 ⟨b, h1, h2, h3⟩ hb => ⟨b, h1, h2, below_blk hb h3 (Array.getElem?_eq_some_iff.1 h3).1⟩) (by kernel_rfl) (by kernel_rfl) ?_ ?_
 ·intro V W K AA hW hd hA hK
  simp only [putAll, pz1, pz2, pz3, pz4, Act.put, pz5, pz6, pz7] at hA
  clear hd
  obtain rfl := hA
  go_wp2
  exact hK.out _ _ (below_box W _) ⟨_, rfl, hW.size, heap_alloc_new W _⟩
 refine ownV_own (fun V (_ : Value) W => ∃ (b : Nat) (x1 x2 x3 : Option Addr) (p1 p2 p3 : Nat), V 8 = .pointer (some ⟨b, 0, none⟩) ∧ w2.heap.size ≤ b ∧ W.heap[b]? = some (.cells #[.int .i64 Y.now, .slice x1 Y.svcs.length p1, .slice x2 Y.cps.length p2, .slice x3 Y.bts.length p3] 36 (0, 0)) ∧ BkOf W w2.heap.size Y x1 x2 x3 p1 p2 p3) (fun V v W W2 ⟨b, x1, x2, x3, p1, p2, p3, hv, hn, h, hm⟩ hb => ⟨b, x1, x2, x3, p1, p2, p3, hv, hn, below_blk hb h (Array.getElem?_eq_some_iff.1 h).1, hm.below hb⟩) (fun v V V2 W hVV ⟨b, x1, x2, x3, p1, p2, p3, hv, hr⟩ => ⟨b, x1, x2, x3, p1, p2, p3, (hVV 8 rfl).symm.trans hv, hr⟩) (by kernel_rfl) (by kernel_rfl) ?_ ?_
 ·intro V W K AA hW hd hA hK
  have d6 : (fun vv W => ∃ (x1 x2 x3 : Option Addr) (p1 p2 p3 : Nat), vv = .agg #[.int .i64 Y.now, .slice x1 Y.svcs.length p1, .slice x2 Y.cps.length p2, .slice x3 Y.bts.length p3] ∧ BkOf W w2.heap.size Y x1 x2 x3 p1 p2 p3) (V 6) W := hd 6 (by kernel_rfl)
  have d8 : (fun vv W => ∃ b, vv = .pointer (some ⟨b, 0, none⟩) ∧ w2.heap.size ≤ b ∧ W.heap[b]? = some (.cells #[.int .i64 0, .slice none 0 0, .slice none 0 0, .slice none 0 0] 36 (0, 0))) (V 8) W := hd 8 (by kernel_rfl)
  simp only [putAll, pz1, pz2, pz3, pz4, Act.put, pz5, pz6, pz7] at hA
  clear hd
  generalize hV0 : V 0 = x0 at hA hK
  generalize hV1 : V 1 = x1 at hA hK
  generalize hV2 : V 2 = x2 at hA hK
  generalize hV3 : V 3 = x3 at hA hK
  generalize hV4 : V 4 = x4 at hA hK
  generalize hV5 : V 5 = x5 at hA hK
  generalize hV6 : V 6 = x6 at d6 hA hK
  generalize hV7 : V 7 = x7 at hA hK
  generalize hV8 : V 8 = x8 at d8 hA hK
  generalize hV9 : V 9 = x9 at hA hK
  obtain rfl := hA
  obtain ⟨x1, x2, x3, p1, p2, p3, rfl, hm⟩ := d6
  obtain ⟨b, rfl, hbN, hbz⟩ := d8
  have HM := hid_of' hm
  have hsz := hW.size
  clear hm hV0 hV1 hV2 hV3 hV4 hV5 hV6 hV7 hV8 hV9
  refine wpList_store_only rfl 36 (.tmp 6) (.tmp 33) rfl b 0 #[.int .i64 Y.now, .slice x1 Y.svcs.length p1, .slice x2 Y.cps.length p2, .slice x3 Y.bts.length p3] rfl rfl 36 #[.int .i64 0, .slice none 0 0, .slice none 0 0, .slice none 0 0] hbz Tryz.infosBk4 (Nat.le_of_ble_eq_true rfl) (by simp [Value.oneCell']) ?_
  intro u2 hz on
  have HZ2 : Hid (u2.heap[b]? = some (.cells #[.int .i64 Y.now, .slice x1 Y.svcs.length p1, .slice x2 Y.cps.length p2, .slice x3 Y.bts.length p3] 36 (0, 0))) := hz
  have HON : Hid (Only b W u2) := on
  have HBZ := hid_of' hbz
  clear hz on hbz
  go_wp2
  refine hK.out undef _ ?_ (HON.out.below.mono (by omega)) ⟨b, x1, x2, x3, p1, p2, p3, rfl, hbN, HZ2.out, HM.out.only HON.out HBZ.out (by decide) (by decide) (by decide)⟩
  exact ⟨b, HBZ.out, HON.out⟩
 refine ⟨fun i j hk V v W W' hr hq => ?_, ?_⟩
 ·simp only [List.contains_cons, List.contains_nil, Bool.or_false, Bool.or_eq_true, beq_iff_eq, Prod.mk.injEq] at hk
  obtain ⟨rfl, rfl⟩ := hk
  have hq' : (fun vv W => ∃ (x1 x2 x3 : Option Addr) (p1 p2 p3 : Nat), vv = .tuple #[.agg #[.int .i64 Y.now, .slice x1 Y.svcs.length p1, .slice x2 Y.cps.length p2, .slice x3 Y.bts.length p3], .int .i64 cd] ∧ BkOf W w2.heap.size Y x1 x2 x3 p1 p2 p3) (v) W := hq
  show (fun vv W => ∃ (x1 x2 x3 : Option Addr) (p1 p2 p3 : Nat), vv = .tuple #[.agg #[.int .i64 Y.now, .slice x1 Y.svcs.length p1, .slice x2 Y.cps.length p2, .slice x3 Y.bts.length p3], .int .i64 cd] ∧ BkOf W w2.heap.size Y x1 x2 x3 p1 p2 p3) (v) W'
  clear hq
  obtain ⟨x1, x2, x3, p1, p2, p3, h, hm⟩ := hq'
  obtain ⟨b, hbz, on⟩ := hr
  exact ⟨x1, x2, x3, p1, p2, p3, h, hm.only on hbz (by decide) (by decide) (by decide)⟩
 intro V W AA hW hS hA
 have d0 : V 0 = _ := hS 0 (by omega) (.inr (by kernel_rfl))
 have d2 : V 2 = _ := hS 2 (by omega) (.inr (by kernel_rfl))
 have d7 : V 7 = _ := hS 7 (by omega) (.inr (by kernel_rfl))
 have d9 : (fun V (_ : Value) W => ∃ (b : Nat) (x1 x2 x3 : Option Addr) (p1 p2 p3 : Nat), V 8 = .pointer (some ⟨b, 0, none⟩) ∧ w2.heap.size ≤ b ∧ W.heap[b]? = some (.cells #[.int .i64 Y.now, .slice x1 Y.svcs.length p1, .slice x2 Y.cps.length p2, .slice x3 Y.bts.length p3] 36 (0, 0)) ∧ BkOf W w2.heap.size Y x1 x2 x3 p1 p2 p3) V (V 9) W := hS 9 (by omega) (.inl (by kernel_rfl))
 simp only [putAll, pz1, pz2, pz3, pz4, Act.put, pz5, pz6, pz7, d0, d2, d7] at hA
 dsimp only at d9
 clear hS d0 d2 d7
 generalize V 8 = x8 at d9 hA
 generalize V 9 = x9 at d9 hA
 obtain rfl := hA
 simp only [List.drop_succ_cons, List.drop_zero]
 obtain ⟨w3, rfl⟩ : ∃ w3, w3 = W := ⟨_, rfl⟩
 obtain ⟨bS, sx1, sx2, sx3, sp1, sp2, sp3, rfl, hbS, hzS, hmS⟩ := d9
 have ZS3 := hid_of' hzS
 have MS3 := hidBkOf hmS
 have hb3 := hb2.trans (hW.mono hb2.size)
 have X3 : Hid (w3.heap[w.heap.size]? = some (.cells #[.int .i64 B.now, .slice a1 B.svcs.length c1, .slice a2 B.cps.length c2, .slice a3 B.bts.length c3] 26 (0, 0))) := below_blk hW X2.out (by omega)
 have E3 : Hid (w3.heap[w.heap.size + 1]? = some (.cells #[.string A.service, .int .i64 A.seen, .int .i64 A.create, .int .i64 A.want, .int .i64 A.cool, .bool A.scale, .slice ae A.ends.length ce, .bool A.drop] 29 (0, 0))) := below_blk hW E2.out (by omega)
 have hz3 : w.heap.size + 1 < w3.heap.size := (Array.getElem?_eq_some_iff.1 E3.out).1
 have hzb3 : bS < w3.heap.size := (Array.getElem?_eq_some_iff.1 ZS3.out).1
 clear hW hzS hmS X2 E2 hb2 hz2 hbS
 have f0 := blk_cell X3.out 0 rfl
 have f1 := blk_cell X3.out 1 rfl
 have f2 := blk_cell X3.out 2 rfl
 have f3 := blk_cell X3.out 3 rfl
 go_upto_region 9 with fail
 go_wp2_with fail
 refine (toBook_own B a1 a2 a3 c1 c2 c3 w3 (hB.below hb3) hS).mono ?_
 rintro e w4 ⟨b1, b2, b3, rfl, hO, hbq⟩
 have O4 : Hid (BkOwn w3.heap.size w4 b1 b2 b3 B) := hO
 have hlt3 := hO.bts.lt
 have hlo1 := hO.lo1
 have h12 := hO.lt12
 have h23 := hO.lt23
 have hc4 : Below w3.heap.size w3 w4 := hbq
 clear hO hbq f0 f1 f2 f3
 obtain ⟨u4, hu4⟩ : ∃ W, w4.alloc (.cells #[.int .i64 0, .slice none 0 0, .slice none 0 0, .slice none 0 0] 36) = W := ⟨_, rfl⟩
 have hbu := below_box w4 (.cells #[.int .i64 0, .slice none 0 0, .slice none 0 0, .slice none 0 0] 36)
 obtain ⟨bI, hbIe⟩ : ∃ q, w4.heap.size = q := ⟨_, rfl⟩
 have S4 : Hid (u4.heap[bI]? = some (.cells #[.int .i64 0, .slice none 0 0, .slice none 0 0, .slice none 0 0] 36 (0, 0))) := by unfold Hid; rw [← hu4, ← hbIe]; exact heap_alloc_new w4 (.cells #[.int .i64 0, .slice none 0 0, .slice none 0 0, .slice none 0 0] 36)
 rw [hu4] at hbu
 have hsI : w4.heap.size ≤ bI := by omega
 have hsI' : bI ≤ w4.heap.size := by omega
 go_upto_region 10 with (refine wpList_store_only rfl 36 (.tmp 8) (.tmp 36) rfl bI 0 #[.int .i64 B.now, .slice (some ⟨b1, 0, none⟩) B.svcs.length B.svcs.length, .slice (some ⟨b2, 0, none⟩) B.cps.length B.cps.length, .slice (some ⟨b3, 0, none⟩) B.bts.length B.bts.length] rfl rfl 36 #[.int .i64 0, .slice none 0 0, .slice none 0 0, .slice none 0 0] S4.out Tryz.infosBk4 (Nat.le_of_ble_eq_true rfl) (by simp [Value.oneCell']) ?_; intro w5 hz on; have I5 : Hid (w5.heap[bI]? = some (.cells #[.int .i64 B.now, .slice (some ⟨b1, 0, none⟩) B.svcs.length B.svcs.length, .slice (some ⟨b2, 0, none⟩) B.cps.length B.cps.length, .slice (some ⟨b3, 0, none⟩) B.bts.length B.bts.length] 36 (0, 0))) := hz; have hd5 : Below w4.heap.size w4 w5 := hbu.trans (on.below.mono hsI); clear hz on)
 have O5 := hid_of' (O4.out.below hd5 hlt3)
 have hc5 : Below w3.heap.size w3 w5 := hc4.trans (hd5.mono hc4.size)
 have E5 : Hid (w5.heap[w.heap.size + 1]? = some (.cells #[.string A.service, .int .i64 A.seen, .int .i64 A.create, .int .i64 A.want, .int .i64 A.cool, .bool A.scale, .slice ae A.ends.length ce, .bool A.drop] 29 (0, 0))) := below_blk hc5 E3.out (by omega)
 have hI5 : bI < w5.heap.size := (Array.getElem?_eq_some_iff.1 I5.out).1
 have hb35 : b3 < w5.heap.size := by have := hd5.size; omega
 clear hu4 hbIe hbu S4 O4 hc4 hd5
 have q0 := blk_cell E5.out 0 rfl
 have q1 := blk_cell E5.out 1 rfl
 have q2 := blk_cell E5.out 2 rfl
 have q3 := blk_cell E5.out 3 rfl
 have q4 := blk_cell E5.out 4 rfl
 have q5 := blk_cell E5.out 5 rfl
 have q6 := blk_cell E5.out 6 rfl
 have q7 := blk_cell E5.out 7 rfl
 go_wp2_with fail
 refine (toAct_own A ae ce w5 hel (hE.below (hb3.trans (hc5.mono hb3.size)))).mono ?_
 rintro e w6 ⟨be, rfl, hbe, hOE, hbq⟩
 have OE6 : Hid (OwnE w6 be A.ends) := hOE
 have hbel := hOE.lt
 have hc6 : Below w3.heap.size w3 w6 := hc5.trans (hbq.mono hc5.size)
 have I6 := hid_of' (below_blk hbq I5.out hI5)
 have O6 := hid_of' (O5.out.below hbq hb35)
 have hs56 := hbq.size
 clear hOE hbq q0 q1 q2 q3 q4 q5 q6 q7 I5 O5 E5 hc5
 obtain ⟨u6, hu6⟩ : ∃ W, w6.alloc (.cells #[.string ⟨#[]⟩, .int .i64 0, .int .i64 0, .int .i64 0, .int .i64 0, .bool false, .slice none 0 0, .bool false] 42) = W := ⟨_, rfl⟩
 have hbu := below_box w6 (.cells #[.string ⟨#[]⟩, .int .i64 0, .int .i64 0, .int .i64 0, .int .i64 0, .bool false, .slice none 0 0, .bool false] 42)
 obtain ⟨bJ, hbJe⟩ : ∃ q, w6.heap.size = q := ⟨_, rfl⟩
 have S6 : Hid (u6.heap[bJ]? = some (.cells #[.string ⟨#[]⟩, .int .i64 0, .int .i64 0, .int .i64 0, .int .i64 0, .bool false, .slice none 0 0, .bool false] 42 (0, 0))) := by unfold Hid; rw [← hu6, ← hbJe]; exact heap_alloc_new w6 (.cells #[.string ⟨#[]⟩, .int .i64 0, .int .i64 0, .int .i64 0, .int .i64 0, .bool false, .slice none 0 0, .bool false] 42)
 rw [hu6] at hbu
 have hsJ : w6.heap.size ≤ bJ := by omega
 have hsJ' : bJ ≤ w6.heap.size := by omega
 go_upto_region 11 with (refine wpList_store_only rfl 42 (.tmp 9) (.tmp 38) rfl bJ 0 #[.string A.service, .int .i64 A.seen, .int .i64 A.create, .int .i64 A.want, .int .i64 A.cool, .bool A.scale, .slice (some ⟨be, 0, none⟩) A.ends.length A.ends.length, .bool A.drop] rfl rfl 42 #[.string ⟨#[]⟩, .int .i64 0, .int .i64 0, .int .i64 0, .int .i64 0, .bool false, .slice none 0 0, .bool false] S6.out Tryz.infosActO (Nat.le_of_ble_eq_true rfl) (by simp [Value.oneCell']) ?_; intro w7 hz on; have J7 : Hid (w7.heap[bJ]? = some (.cells #[.string A.service, .int .i64 A.seen, .int .i64 A.create, .int .i64 A.want, .int .i64 A.cool, .bool A.scale, .slice (some ⟨be, 0, none⟩) A.ends.length A.ends.length, .bool A.drop] 42 (0, 0))) := hz; have hd7 : Below w6.heap.size w6 w7 := hbu.trans (on.below.mono hsJ); clear hz on)
 have hc7 : Below w3.heap.size w3 w7 := hc6.trans (hd7.mono hc6.size)
 have I7 := hid_of' (below_blk hd7 I6.out (by omega))
 have O7 := hid_of' (O6.out.below hd7 (by omega))
 have OE7 := hid_of' (OE6.out.blk (hd7.block be hbel))
 have hs67 := hd7.size
 have hJ7 : bJ < w7.heap.size := (Array.getElem?_eq_some_iff.1 J7.out).1
 have hErr7 : ErrT w7 := by
  have h1 : Below w.heap.size w w7 := hb3.trans (hc7.mono hb3.size)
  have hw0 : 0 < w.heap.size := by
   rcases Nat.eq_zero_or_pos w.heap.size with h0 | h
   ·unfold ErrT at hEr; simp [World.cell?, h0] at hEr
   ·exact h
  exact (h1.cell (p := ⟨0, 0, none⟩) hw0).trans hEr
 clear hu6 hbJe hbu S6 hd7 I6 O6 OE6 hc6
 have i0 := blk_cell I7.out 0 rfl
 have i1 := blk_cell I7.out 1 rfl
 have i2 := blk_cell I7.out 2 rfl
 have i3 := blk_cell I7.out 3 rfl
 have j0 := blk_cell J7.out 0 rfl
 have j1 := blk_cell J7.out 1 rfl
 have j2 := blk_cell J7.out 2 rfl
 have j3 := blk_cell J7.out 3 rfl
 have j4 := blk_cell J7.out 4 rfl
 have j5 := blk_cell J7.out 5 rfl
 have j6 := blk_cell J7.out 6 rfl
 have j7 := blk_cell J7.out 7 rfl
 go_wp2_with fail
 refine (implApply_ans B A _ _ _ _ _ _ _ _ w7 hErr7 hS hZ O7.out.at hel OE7.out.sl hsv hnum).mono ?_
 rw [HY.out.1, HY.out.2]
 rintro e w8 ⟨⟨gx1, gx2, gx3, gp1, gp2, gp3, rfl, hmG⟩, hb8⟩
 have MG8 := hidBkOf hmG
 clear hmG i0 i1 i2 i3 j0 j1 j2 j3 j4 j5 j6 j7 hErr7
 obtain ⟨u8, hu8⟩ : ∃ W, w8.alloc (.cells #[.int .i64 Y.now, .slice gx1 Y.svcs.length gp1, .slice gx2 Y.cps.length gp2, .slice gx3 Y.bts.length gp3] 36) = W := ⟨_, rfl⟩
 have hbu := below_box w8 (.cells #[.int .i64 Y.now, .slice gx1 Y.svcs.length gp1, .slice gx2 Y.cps.length gp2, .slice gx3 Y.bts.length gp3] 36)
 obtain ⟨bG, hbGe⟩ : ∃ q, w8.heap.size = q := ⟨_, rfl⟩
 have G9 : Hid (u8.heap[bG]? = some (.cells #[.int .i64 Y.now, .slice gx1 Y.svcs.length gp1, .slice gx2 Y.cps.length gp2, .slice gx3 Y.bts.length gp3] 36 (0, 0))) := by unfold Hid; rw [← hu8, ← hbGe]; exact heap_alloc_new w8 (.cells #[.int .i64 Y.now, .slice gx1 Y.svcs.length gp1, .slice gx2 Y.cps.length gp2, .slice gx3 Y.bts.length gp3] 36)
 rw [hu8] at hbu
 have hs78 := hb8.size
 have hb79 : Below w7.heap.size w7 u8 := hb8.trans (hbu.mono hb8.size)
 have L9 := hidL (⟨below_blk hb79 I7.out (by omega), below_blk hb79 J7.out hJ7, G9.out, O7.out.below hb79 (by omega), OE7.out.blk (hb79.block be (by omega)), MG8.out.below hbu⟩ : LSt u8 w3.heap.size w7.heap.size bI bJ bG b1 b2 b3 be B A Y gx1 gx2 gx3 gp1 gp2 gp3)
 have hc9 : Below w3.heap.size w3 u8 := hc7.trans (hb79.mono hc7.size)
 have hbGn : w7.heap.size ≤ bG := by omega
 go_upto_region 12 with fail
 clear hu8 hbGe hbu G9 MG8 hb8 hb79 I7 J7 O7 OE7 hc7
 have g0 := blk_cell L9.out.G 0 rfl
 have g1 := blk_cell L9.out.G 1 rfl
 have g2 := blk_cell L9.out.G 2 rfl
 have g3 := blk_cell L9.out.G 3 rfl
 have s0 := blk_cell (below_blk hc9 ZS3.out hzb3) 0 rfl
 have s1 := blk_cell (below_blk hc9 ZS3.out hzb3) 1 rfl
 have s2 := blk_cell (below_blk hc9 ZS3.out hzb3) 2 rfl
 have s3 := blk_cell (below_blk hc9 ZS3.out hzb3) 3 rfl
 go_wp2_with fail
 refine (eqBook_same Y gx1 gx2 gx3 sx1 sx2 sx3 gp1 gp2 gp3 sp1 sp2 sp3 u8 HSY.out L9.out.M.at (MS3.out.below hc9).at).mono ?_
 rintro e w10 ⟨rfl, hbq⟩
 have L10 := hidL (L9.out.below hbq)
 have hc10 : Below w3.heap.size w3 w10 := hc9.trans (hbq.mono hc9.size)
 have hs10 : w7.heap.size ≤ w10.heap.size := by have := hbq.size; have := (Array.getElem?_eq_some_iff.1 L9.out.G).1; omega
 clear hbq L9 hc9 g0 g1 g2 g3 s0 s1 s2 s3
 go_upto_region 14 with fail
 refine wp_region_grows 4 (by kernel_rfl) (by kernel_rfl) ?_
 apply grow_eq
 ·intro V W K AA hW hd hA hK
  simp only [putAll, pz1, pz2, pz3, pz4, Act.put, pz5, pz6, pz7] at hA
  clear hd
  obtain rfl := hA
  have i0 := blk_cell (below_blk hW L10.out.I (Array.getElem?_eq_some_iff.1 L10.out.I).1) 0 rfl
  have i1 := blk_cell (below_blk hW L10.out.I (Array.getElem?_eq_some_iff.1 L10.out.I).1) 1 rfl
  have i2 := blk_cell (below_blk hW L10.out.I (Array.getElem?_eq_some_iff.1 L10.out.I).1) 2 rfl
  have i3 := blk_cell (below_blk hW L10.out.I (Array.getElem?_eq_some_iff.1 L10.out.I).1) 3 rfl
  go_wp2
  exact hK.out _ brf
 apply grow_eq
 ·intro V W K AA hW hd hA hK
  simp only [putAll, pz1, pz2, pz3, pz4, Act.put, pz5, pz6, pz7] at hA
  clear hd
  obtain rfl := hA
  have f0 := blk_cell (below_blk (hc10.trans (hW.mono hc10.size)) X3.out (by omega)) 0 rfl
  have f1 := blk_cell (below_blk (hc10.trans (hW.mono hc10.size)) X3.out (by omega)) 1 rfl
  have f2 := blk_cell (below_blk (hc10.trans (hW.mono hc10.size)) X3.out (by omega)) 2 rfl
  have f3 := blk_cell (below_blk (hc10.trans (hW.mono hc10.size)) X3.out (by omega)) 3 rfl
  go_wp2
  exact hK.out _ brf
 refine grow_op (fun vv W => ∃ y1 y2 y3, vv = .agg #[.int .i64 B.now, .slice y1 B.svcs.length B.svcs.length, .slice y2 B.cps.length B.cps.length, .slice y3 B.bts.length B.bts.length] ∧ BkAt W y1 y2 y3 B) (fun v W W2 ⟨y1, y2, y3, h1, h2⟩ hb => ⟨y1, y2, y3, h1, h2.below hb⟩) ?_ ?_
 ·intro V W K AA hW hd hA hK
  have d1 : V 1 = _ := hd 1 (by kernel_rfl)
  simp only [putAll, pz1, pz2, pz3, pz4, Act.put, pz5, pz6, pz7, d1] at hA
  clear hd d1
  obtain rfl := hA
  go_wp2_with fail
  refine (toBook_any B a1 a2 a3 c1 c2 c3 W (hB.below (hb3.trans ((hc10.trans (hW.mono hc10.size)).mono hb3.size))) hS).mono ?_
  rintro e u2 ⟨y1, y2, y3, rfl, hX, hbq⟩
  have HX := hid_of' hX
  clear hX
  go_wp2
  exact hK.out _ _ hbq ⟨y1, y2, y3, rfl, HX.out⟩
 apply grow_eq
 ·intro V W K AA hW hd hA hK
  have d0 : V 0 = _ := hd 0 (by kernel_rfl)
  have d2 : (fun vv W => ∃ y1 y2 y3, vv = .agg #[.int .i64 B.now, .slice y1 B.svcs.length B.svcs.length, .slice y2 B.cps.length B.cps.length, .slice y3 B.bts.length B.bts.length] ∧ BkAt W y1 y2 y3 B) (V 2) W := hd 2 (by kernel_rfl)
  simp only [putAll, pz1, pz2, pz3, pz4, Act.put, pz5, pz6, pz7, d0] at hA
  clear hd d0
  generalize V 2 = x2 at d2 hA
  obtain rfl := hA
  obtain ⟨y1, y2, y3, rfl, hX⟩ := d2
  have HX := hid_of' hX
  clear hX
  go_wp2_with fail
  refine (eqBook_same B _ _ _ y1 y2 y3 _ _ _ _ _ _ W hS (L10.out.O.below hW L10.out.O.bts.lt).at HX.out).mono ?_
  rintro e u2 ⟨rfl, hbq⟩
  go_wp2
  exact hK.out _ hbq
 intro V W AA hW hS hA
 have d0 : V 0 = _ := hS 0 (by omega)
 have d1 : V 1 = _ := hS 1 (by omega)
 have d2 : (fun vv W => ∃ y1 y2 y3, vv = .agg #[.int .i64 B.now, .slice y1 B.svcs.length B.svcs.length, .slice y2 B.cps.length B.cps.length, .slice y3 B.bts.length B.bts.length] ∧ BkAt W y1 y2 y3 B) (V 2) W := hS 2 (by omega)
 have d3 : V 3 = _ := hS 3 (by omega)
 simp only [putAll, pz1, pz2, pz3, pz4, Act.put, pz5, pz6, pz7, d0, d1, d3] at hA
 clear hS d0 d1 d3
 generalize V 2 = x2 at d2 hA
 obtain rfl := hA
 simp only [List.drop_succ_cons, List.drop_zero]
 obtain ⟨w11, rfl⟩ : ∃ w11, w11 = W := ⟨_, rfl⟩
 have L11 := hidL (L10.out.below hW)
 have hc11 : Below w3.heap.size w3 w11 := hc10.trans (hW.mono hc10.size)
 have hs11 : w7.heap.size ≤ w11.heap.size := Nat.le_trans hs10 hW.size
 clear hW L10 hc10 d2
 go_upto_region 16 with fail
 refine wp_region_grows 4 (by kernel_rfl) (by kernel_rfl) ?_
 apply grow_eq
 ·intro V W K AA hW hd hA hK
  simp only [putAll, pz1, pz2, pz3, pz4, Act.put, pz5, pz6, pz7] at hA
  clear hd
  obtain rfl := hA
  have j0 := blk_cell (below_blk hW L11.out.J (Array.getElem?_eq_some_iff.1 L11.out.J).1) 0 rfl
  have j1 := blk_cell (below_blk hW L11.out.J (Array.getElem?_eq_some_iff.1 L11.out.J).1) 1 rfl
  have j2 := blk_cell (below_blk hW L11.out.J (Array.getElem?_eq_some_iff.1 L11.out.J).1) 2 rfl
  have j3 := blk_cell (below_blk hW L11.out.J (Array.getElem?_eq_some_iff.1 L11.out.J).1) 3 rfl
  have j4 := blk_cell (below_blk hW L11.out.J (Array.getElem?_eq_some_iff.1 L11.out.J).1) 4 rfl
  have j5 := blk_cell (below_blk hW L11.out.J (Array.getElem?_eq_some_iff.1 L11.out.J).1) 5 rfl
  have j6 := blk_cell (below_blk hW L11.out.J (Array.getElem?_eq_some_iff.1 L11.out.J).1) 6 rfl
  have j7 := blk_cell (below_blk hW L11.out.J (Array.getElem?_eq_some_iff.1 L11.out.J).1) 7 rfl
  go_wp2
  exact hK.out _ brf
 apply grow_eq
 ·intro V W K AA hW hd hA hK
  simp only [putAll, pz1, pz2, pz3, pz4, Act.put, pz5, pz6, pz7] at hA
  clear hd
  obtain rfl := hA
  have q0 := blk_cell (below_blk (hc11.trans (hW.mono hc11.size)) E3.out (by omega)) 0 rfl
  have q1 := blk_cell (below_blk (hc11.trans (hW.mono hc11.size)) E3.out (by omega)) 1 rfl
  have q2 := blk_cell (below_blk (hc11.trans (hW.mono hc11.size)) E3.out (by omega)) 2 rfl
  have q3 := blk_cell (below_blk (hc11.trans (hW.mono hc11.size)) E3.out (by omega)) 3 rfl
  have q4 := blk_cell (below_blk (hc11.trans (hW.mono hc11.size)) E3.out (by omega)) 4 rfl
  have q5 := blk_cell (below_blk (hc11.trans (hW.mono hc11.size)) E3.out (by omega)) 5 rfl
  have q6 := blk_cell (below_blk (hc11.trans (hW.mono hc11.size)) E3.out (by omega)) 6 rfl
  have q7 := blk_cell (below_blk (hc11.trans (hW.mono hc11.size)) E3.out (by omega)) 7 rfl
  go_wp2
  exact hK.out _ brf
 refine grow_op (fun vv W => ∃ y, vv = .agg #[.string A.service, .int .i64 A.seen, .int .i64 A.create, .int .i64 A.want, .int .i64 A.cool, .bool A.scale, .slice (some ⟨y, 0, none⟩) A.ends.length A.ends.length, .bool A.drop] ∧ OwnE W y A.ends) (fun v W W2 ⟨y, h1, h2⟩ hb => ⟨y, h1, h2.blk (hb.block y h2.lt)⟩) ?_ ?_
 ·intro V W K AA hW hd hA hK
  have d1 : V 1 = _ := hd 1 (by kernel_rfl)
  simp only [putAll, pz1, pz2, pz3, pz4, Act.put, pz5, pz6, pz7, d1] at hA
  clear hd d1
  obtain rfl := hA
  go_wp2_with fail
  refine (toAct_own A ae ce W hel (hE.below (hb3.trans ((hc11.trans (hW.mono hc11.size)).mono hb3.size)))).mono ?_
  rintro e u2 ⟨y, rfl, _, hO, hbq⟩
  have HO := hid_of' hO
  clear hO
  go_wp2
  exact hK.out _ _ hbq ⟨y, rfl, HO.out⟩
 apply grow_eq
 ·intro V W K AA hW hd hA hK
  have d0 : V 0 = _ := hd 0 (by kernel_rfl)
  have d2 : (fun vv W => ∃ y, vv = .agg #[.string A.service, .int .i64 A.seen, .int .i64 A.create, .int .i64 A.want, .int .i64 A.cool, .bool A.scale, .slice (some ⟨y, 0, none⟩) A.ends.length A.ends.length, .bool A.drop] ∧ OwnE W y A.ends) (V 2) W := hd 2 (by kernel_rfl)
  simp only [putAll, pz1, pz2, pz3, pz4, Act.put, pz5, pz6, pz7, d0] at hA
  clear hd d0
  generalize V 2 = x2 at d2 hA
  obtain rfl := hA
  obtain ⟨y, rfl, hO⟩ := d2
  have HO := hid_of' hO
  clear hO
  go_wp2_with fail
  refine (eqAct_same A _ _ _ _ W hel (L11.out.E.blk (hW.block be L11.out.E.lt)).sl HO.out.sl).mono ?_
  rintro e u2 ⟨rfl, hbq⟩
  go_wp2
  exact hK.out _ hbq
 intro V W AA hW hS hA
 have d0 : V 0 = _ := hS 0 (by omega)
 have d1 : V 1 = _ := hS 1 (by omega)
 have d2 : (fun vv W => ∃ y, vv = .agg #[.string A.service, .int .i64 A.seen, .int .i64 A.create, .int .i64 A.want, .int .i64 A.cool, .bool A.scale, .slice (some ⟨y, 0, none⟩) A.ends.length A.ends.length, .bool A.drop] ∧ OwnE W y A.ends) (V 2) W := hS 2 (by omega)
 have d3 : V 3 = _ := hS 3 (by omega)
 simp only [putAll, pz1, pz2, pz3, pz4, Act.put, pz5, pz6, pz7, d0, d1, d3] at hA
 clear hS d0 d1 d3
 generalize V 2 = x2 at d2 hA
 obtain rfl := hA
 simp only [List.drop_succ_cons, List.drop_zero]
 obtain ⟨w12, rfl⟩ : ∃ w12, w12 = W := ⟨_, rfl⟩
 have L12 := hidL (L11.out.below hW)
 have hc12 : Below w3.heap.size w3 w12 := hc11.trans (hW.mono hc11.size)
 have hs12 : w7.heap.size ≤ w12.heap.size := Nat.le_trans hs11 hW.size
 clear hW L11 hc11 d2
 have i0 := blk_cell L12.out.I 0 rfl
 have i1 := blk_cell L12.out.I 1 rfl
 have i2 := blk_cell L12.out.I 2 rfl
 have i3 := blk_cell L12.out.I 3 rfl
 go_wp2_with fail
 refine (markBook_any B w3.heap.size b1 b2 b3 1 w12 hS (by omega) (by omega) L12.out.O).mono ?_
 rintro e w13 ⟨rfl, hK13⟩
 have hc13 : Below w3.heap.size w3 w13 := hc12.trans (hK13.toBelow (by omega) hc12.size)
 have J13 : Hid (w13.heap[bJ]? = some (.cells #[.string A.service, .int .i64 A.seen, .int .i64 A.create, .int .i64 A.want, .int .i64 A.cool, .bool A.scale, .slice (some ⟨be, 0, none⟩) A.ends.length A.ends.length, .bool A.drop] 42 (0, 0))) := (hK13.block bJ (Array.getElem?_eq_some_iff.1 L12.out.J).1 (.inr (by omega))).trans L12.out.J
 have G13 : Hid (w13.heap[bG]? = some (.cells #[.int .i64 Y.now, .slice gx1 Y.svcs.length gp1, .slice gx2 Y.cps.length gp2, .slice gx3 Y.bts.length gp3] 36 (0, 0))) := (hK13.block bG (Array.getElem?_eq_some_iff.1 L12.out.G).1 (.inr (by omega))).trans L12.out.G
 have OE13 : Hid (OwnE w13 be A.ends) := L12.out.E.blk (hK13.block be L12.out.E.lt (.inr (by omega)))
 have MG13 : Hid (BkOf w13 w7.heap.size Y gx1 gx2 gx3 gp1 gp2 gp3) := ⟨L12.out.M.svcs.blk fun g cs fr hg h => hK13.block g (Array.getElem?_eq_some_iff.1 h).1 (.inr (by omega)), L12.out.M.cps.blk fun g cs fr hg h => hK13.block g (Array.getElem?_eq_some_iff.1 h).1 (.inr (by omega)), L12.out.M.bts.blk fun g cs fr hg h => hK13.block g (Array.getElem?_eq_some_iff.1 h).1 (.inr (by omega))⟩
 have hs13 : w7.heap.size ≤ w13.heap.size := Nat.le_trans hs12 hK13.size
 have hSl := hS
 obtain ⟨hB1, hB2, hB3⟩ := hSl
 clear hK13 L12 hc12 i0 i1 i2 i3
 have j0 := blk_cell J13.out 0 rfl
 have j1 := blk_cell J13.out 1 rfl
 have j2 := blk_cell J13.out 2 rfl
 have j3 := blk_cell J13.out 3 rfl
 have j4 := blk_cell J13.out 4 rfl
 have j5 := blk_cell J13.out 5 rfl
 have j6 := blk_cell J13.out 6 rfl
 have j7 := blk_cell J13.out 7 rfl
 go_wp2_with fail
 refine (markAct_any A be A.ends.length _ w13 hel (by omega) (by omega) OE13.out).mono ?_
 rintro e w14 ⟨rfl, hK14, hb14⟩
 have hc14 : Below w3.heap.size w3 w14 := hc13.trans (hb14 _ (by omega) hc13.size)
 have G14 := hid_of' (hK14.blk G13.out (by decide))
 have MG14 : Hid (BkOf w14 w7.heap.size Y gx1 gx2 gx3 gp1 gp2 gp3) := ⟨hK14.rowN MG13.out.svcs (by decide), hK14.rowN MG13.out.cps (by decide), hK14.rowN MG13.out.bts (by decide)⟩
 have hs14 : w7.heap.size ≤ w14.heap.size := Nat.le_trans hs13 hK14.size
 clear hK14 hb14 J13 G13 OE13 MG13 hc13 j0 j1 j2 j3 j4 j5 j6 j7
 have g0 := blk_cell G14.out 0 rfl
 have g1 := blk_cell G14.out 1 rfl
 have g2 := blk_cell G14.out 2 rfl
 have g3 := blk_cell G14.out 3 rfl
 have s0 := blk_cell (below_blk hc14 ZS3.out hzb3) 0 rfl
 have s1 := blk_cell (below_blk hc14 ZS3.out hzb3) 1 rfl
 have s2 := blk_cell (below_blk hc14 ZS3.out hzb3) 2 rfl
 have s3 := blk_cell (below_blk hc14 ZS3.out hzb3) 3 rfl
 have hk0 : ¬ (1 + 13 * (B.svcs.length : Int) + 7 * B.cps.length + 2 * B.bts.length + 2 * A.ends.length < 0) := by omega
 go_wp2_with fail
 refine (eqBook_same Y gx1 gx2 gx3 sx1 sx2 sx3 gp1 gp2 gp3 sp1 sp2 sp3 w14 HSY.out MG14.out.at (MS3.out.below hc14).at).mono ?_
 rintro e w15 ⟨rfl, hbq⟩
 have hc15 : Below w3.heap.size w3 w15 := hc14.trans (hbq.mono hc14.size)
 have G15 := hid_of' (below_blk hbq G14.out (Array.getElem?_eq_some_iff.1 G14.out).1)
 have MG15 := hidBkOf (MG14.out.below hbq)
 have hs15 : w7.heap.size ≤ w15.heap.size := Nat.le_trans hs14 hbq.size
 clear hbq G14 MG14 hc14 hk0 g0 g1 g2 g3 s0 s1 s2 s3
 have g0 := blk_cell G15.out 0 rfl
 have g1 := blk_cell G15.out 1 rfl
 have g2 := blk_cell G15.out 2 rfl
 have g3 := blk_cell G15.out 3 rfl
 go_wp2_with fail
 refine (markBookN Y w7.heap.size gx1 gx2 gx3 gp1 gp2 gp3 1 w15 HSY.out (by omega) (by omega) hs15 MG15.out).mono ?_
 rintro e w16 ⟨rfl, hm16, hbq, hkb⟩
 have M16 := hid_of' hm16
 have hc16 : Below w3.heap.size w3 w16 := hc15.trans (hbq.mono (by omega))
 have G16 := hid_of' ((hkb bG _ _ G15.out).trans G15.out)
 clear hm16 hbq hkb G15 MG15 hc15 hs15 g0 g1 g2 g3
 have g0 := blk_cell G16.out 0 rfl
 have g1 := blk_cell G16.out 1 rfl
 have g2 := blk_cell G16.out 2 rfl
 have g3 := blk_cell G16.out 3 rfl
 have hYl : Y.svcs.length ≤ 1048576 ∧ Y.cps.length ≤ 1048576 ∧ Y.bts.length ≤ 1048576 := HSY.out
 obtain ⟨hY1, hY2, hY3⟩ := hYl
 go_wp2_with fail
 refine (heldBook_any Y.now Y.svcs.length Y.cps.length Y.bts.length gx1 gx2 gx3 gp1 gp2 gp3 1 w16 hY1 hY2 hY3 (by omega) (by omega) M16.out).mono ?_
 rintro e w17 ⟨rfl, hbq⟩
 have hc17 : Below w3.heap.size w3 w17 := hc16.trans (hbq.mono hc16.size)
 have G17 := hid_of' (below_blk hbq G16.out (Array.getElem?_eq_some_iff.1 G16.out).1)
 have M17 := hid_of' (M16.out.below hbq)
 have X17 : Hid (w17.heap[w.heap.size]? = some (.cells #[.int .i64 B.now, .slice a1 B.svcs.length c1, .slice a2 B.cps.length c2, .slice a3 B.bts.length c3] 26 (0, 0))) := below_blk hc17 X3.out (by omega)
 have E17 : Hid (w17.heap[w.heap.size + 1]? = some (.cells #[.string A.service, .int .i64 A.seen, .int .i64 A.create, .int .i64 A.want, .int .i64 A.cool, .bool A.scale, .slice ae A.ends.length ce, .bool A.drop] 29 (0, 0))) := below_blk hc17 E3.out (by omega)
 have hz17 : w.heap.size + 1 < w17.heap.size := (Array.getElem?_eq_some_iff.1 E17.out).1
 have hb17 : Below w.heap.size w w17 := hb3.trans (hc17.mono hb3.size)
 have hEr17 : ErrT w17 := by
  have hw0 : 0 < w.heap.size := by
   rcases Nat.eq_zero_or_pos w.heap.size with h0 | h
   ·unfold ErrT at hEr; simp [World.cell?, h0] at hEr
   ·exact h
  exact (hb17.cell (p := ⟨0, 0, none⟩) hw0).trans hEr
 have hw17 : 0 < w17.heap.size := by omega
 clear hbq G16 M16 hc16 g0 g1 g2 g3
 have hk1 : ¬ (1 + 13 * (Y.svcs.length : Int) + 7 * Y.cps.length + 2 * Y.bts.length < 0) := by omega
 go_upto_region 31 with fail
 refine wp_region_ownsV 10 3 [[], [0], [], [2], [1, 3], [4], [5], [5], [], [6, 8]] [9] [1, 3, 4, 5, 6, 8, 9] [9] [(9, 5)] (fun _ W W2 => ∃ b, W.heap[b]? = some (.cells #[.int .i64 0, .slice none 0 0, .slice none 0 0, .slice none 0 0] 36 (0, 0)) ∧ Only b W W2) (by kernel_rfl) (by kernel_rfl) (by kernel_rfl) ?_
 apply ownV_eq (by kernel_rfl)
 ·intro V W K AA hW hd hA hK
  simp only [putAll, pz1, pz2, pz3, pz4, Act.put, pz5, pz6, pz7] at hA
  clear hd
  obtain rfl := hA
  refine wpList_load_row rfl 26 (.tmp 2) rfl w.heap.size rfl 26 #[.int .i64 B.now, .slice a1 B.svcs.length c1, .slice a2 B.cps.length c2, .slice a3 B.bts.length c3] (0, 0) _ (below_blk hW X17.out (by omega)) Tryz.underlying26 rfl Tryz.infosBkLO ?_
  go_wp2
  exact hK.out _ brf
 refine ownV_grow (fun vv W => ∃ y1 y2 y3, vv = .agg #[.int .i64 B.now, .slice y1 B.svcs.length B.svcs.length, .slice y2 B.cps.length B.cps.length, .slice y3 B.bts.length B.bts.length] ∧ BkAt W y1 y2 y3 B) (fun v W W2 ⟨y1, y2, y3, h1, h2⟩ hb => ⟨y1, y2, y3, h1, h2.below hb⟩) (by kernel_rfl) (by kernel_rfl) ?_ ?_
 ·intro V W K AA hW hd hA hK
  have d0 : V 0 = _ := hd 0 (by kernel_rfl)
  simp only [putAll, pz1, pz2, pz3, pz4, Act.put, pz5, pz6, pz7, d0] at hA
  clear hd d0
  obtain rfl := hA
  go_wp2_with fail
  refine (toBook_any B a1 a2 a3 c1 c2 c3 W (hB.below (hb17.trans (hW.mono hb17.size))) hS).mono ?_
  rintro e u2 ⟨y1, y2, y3, rfl, hX, hbq⟩
  have HX := hid_of' hX
  clear hX
  go_wp2
  exact hK.out _ _ hbq ⟨y1, y2, y3, rfl, HX.out⟩
 apply ownV_eq (by kernel_rfl)
 ·intro V W K AA hW hd hA hK
  simp only [putAll, pz1, pz2, pz3, pz4, Act.put, pz5, pz6, pz7] at hA
  clear hd
  obtain rfl := hA
  have q0 := blk_cell (below_blk hW E17.out (by omega)) 0 rfl
  have q1 := blk_cell (below_blk hW E17.out (by omega)) 1 rfl
  have q2 := blk_cell (below_blk hW E17.out (by omega)) 2 rfl
  have q3 := blk_cell (below_blk hW E17.out (by omega)) 3 rfl
  have q4 := blk_cell (below_blk hW E17.out (by omega)) 4 rfl
  have q5 := blk_cell (below_blk hW E17.out (by omega)) 5 rfl
  have q6 := blk_cell (below_blk hW E17.out (by omega)) 6 rfl
  have q7 := blk_cell (below_blk hW E17.out (by omega)) 7 rfl
  go_wp2
  exact hK.out _ brf
 refine ownV_grow (fun vv W => ∃ y, vv = .agg #[.string A.service, .int .i64 A.seen, .int .i64 A.create, .int .i64 A.want, .int .i64 A.cool, .bool A.scale, .slice (some ⟨y, 0, none⟩) A.ends.length A.ends.length, .bool A.drop] ∧ OwnE W y A.ends) (fun v W W2 ⟨y, h1, h2⟩ hb => ⟨y, h1, h2.blk (hb.block y h2.lt)⟩) (by kernel_rfl) (by kernel_rfl) ?_ ?_
 ·intro V W K AA hW hd hA hK
  have d2 : V 2 = _ := hd 2 (by kernel_rfl)
  simp only [putAll, pz1, pz2, pz3, pz4, Act.put, pz5, pz6, pz7, d2] at hA
  clear hd d2
  obtain rfl := hA
  go_wp2_with fail
  refine (toAct_own A ae ce W hel (hE.below (hb17.trans (hW.mono hb17.size)))).mono ?_
  rintro e u2 ⟨y, rfl, _, hO, hbq⟩
  have HO := hid_of' hO
  clear hO
  go_wp2
  exact hK.out _ _ hbq ⟨y, rfl, HO.out⟩
 refine ownV_grow (fun vv W => ∃ (x1 x2 x3 : Option Addr) (p1 p2 p3 : Nat), vv = .tuple #[.agg #[.int .i64 Y.now, .slice x1 Y.svcs.length p1, .slice x2 Y.cps.length p2, .slice x3 Y.bts.length p3], .int .i64 cd] ∧ BkOf W w17.heap.size Y x1 x2 x3 p1 p2 p3) (fun v W W2 ⟨x1, x2, x3, p1, p2, p3, h, hm⟩ hb => ⟨x1, x2, x3, p1, p2, p3, h, hm.below hb⟩) (by kernel_rfl) (by kernel_rfl) ?_ ?_
 ·intro V W K AA hW hd hA hK
  have d1 : (fun vv W => ∃ y1 y2 y3, vv = .agg #[.int .i64 B.now, .slice y1 B.svcs.length B.svcs.length, .slice y2 B.cps.length B.cps.length, .slice y3 B.bts.length B.bts.length] ∧ BkAt W y1 y2 y3 B) (V 1) W := hd 1 (by kernel_rfl)
  have d3 : (fun vv W => ∃ y, vv = .agg #[.string A.service, .int .i64 A.seen, .int .i64 A.create, .int .i64 A.want, .int .i64 A.cool, .bool A.scale, .slice (some ⟨y, 0, none⟩) A.ends.length A.ends.length, .bool A.drop] ∧ OwnE W y A.ends) (V 3) W := hd 3 (by kernel_rfl)
  simp only [putAll, pz1, pz2, pz3, pz4, Act.put, pz5, pz6, pz7] at hA
  clear hd
  generalize V 1 = x1 at d1 hA
  generalize V 3 = x3 at d3 hA
  obtain rfl := hA
  obtain ⟨y1, y2, y3, rfl, hX⟩ := d1
  obtain ⟨y, rfl, hO⟩ := d3
  have HX := hid_of' hX
  have HO := hid_of' hO
  clear hX hO
  go_wp2_with fail
  refine (implApply_ans B A y1 y2 y3 _ _ _ (some ⟨y, 0, none⟩) A.ends.length W ((hW.cell (p := ⟨0, 0, none⟩) hw17).trans hEr17) hS hZ HX.out hel HO.out.sl hsv hnum).mono ?_
  rw [HY.out.1, HY.out.2]
  rintro e u2 ⟨⟨x1, x2, x3, p1, p2, p3, rfl, hm⟩, hbq⟩
  have HM := hidBkOf (hm.mono hW.size)
  clear hm
  go_wp2
  exact hK.out _ _ hbq ⟨x1, x2, x3, p1, p2, p3, rfl, HM.out⟩
 refine ownV_grow (fun vv W => ∃ (x1 x2 x3 : Option Addr) (p1 p2 p3 : Nat), vv = .tuple #[.agg #[.int .i64 Y.now, .slice x1 Y.svcs.length p1, .slice x2 Y.cps.length p2, .slice x3 Y.bts.length p3], .int .i64 cd] ∧ BkOf W w17.heap.size Y x1 x2 x3 p1 p2 p3) (fun v W W2 ⟨x1, x2, x3, p1, p2, p3, h, hm⟩ hb => ⟨x1, x2, x3, p1, p2, p3, h, hm.below hb⟩) (by kernel_rfl) (by kernel_rfl) ?_ ?_
 ·intro V W K AA hW hd hA hK
  have d4 : (fun vv W => ∃ (x1 x2 x3 : Option Addr) (p1 p2 p3 : Nat), vv = .tuple #[.agg #[.int .i64 Y.now, .slice x1 Y.svcs.length p1, .slice x2 Y.cps.length p2, .slice x3 Y.bts.length p3], .int .i64 cd] ∧ BkOf W w17.heap.size Y x1 x2 x3 p1 p2 p3) (V 4) W := hd 4 (by kernel_rfl)
  simp only [putAll, pz1, pz2, pz3, pz4, Act.put, pz5, pz6, pz7] at hA
  clear hd
  generalize V 4 = x4 at d4 hA
  obtain rfl := hA
  obtain ⟨x1, x2, x3, p1, p2, p3, rfl, hm⟩ := d4
  have HM := hid_of' hm
  clear hm
  go_wp2
  exact hK.out _ _ brf ⟨x1, x2, x3, p1, p2, p3, rfl, HM.out⟩
 refine ownV_grow (fun vv W => ∃ (x1 x2 x3 : Option Addr) (p1 p2 p3 : Nat), vv = .agg #[.int .i64 Y.now, .slice x1 Y.svcs.length p1, .slice x2 Y.cps.length p2, .slice x3 Y.bts.length p3] ∧ BkOf W w17.heap.size Y x1 x2 x3 p1 p2 p3) (fun v W W2 ⟨x1, x2, x3, p1, p2, p3, h, hm⟩ hb => ⟨x1, x2, x3, p1, p2, p3, h, hm.below hb⟩) (by kernel_rfl) (by kernel_rfl) ?_ ?_
 ·intro V W K AA hW hd hA hK
  have d5 : (fun vv W => ∃ (x1 x2 x3 : Option Addr) (p1 p2 p3 : Nat), vv = .tuple #[.agg #[.int .i64 Y.now, .slice x1 Y.svcs.length p1, .slice x2 Y.cps.length p2, .slice x3 Y.bts.length p3], .int .i64 cd] ∧ BkOf W w17.heap.size Y x1 x2 x3 p1 p2 p3) (V 5) W := hd 5 (by kernel_rfl)
  simp only [putAll, pz1, pz2, pz3, pz4, Act.put, pz5, pz6, pz7] at hA
  clear hd
  generalize V 5 = x5 at d5 hA
  obtain rfl := hA
  obtain ⟨x1, x2, x3, p1, p2, p3, rfl, hm⟩ := d5
  have HM := hid_of' hm
  clear hm
  go_wp2
  exact hK.out _ _ brf ⟨x1, x2, x3, p1, p2, p3, rfl, HM.out⟩
 apply ownV_eq (by kernel_rfl)
 ·intro V W K AA hW hd hA hK
  have d5 : (fun vv W => ∃ (x1 x2 x3 : Option Addr) (p1 p2 p3 : Nat), vv = .tuple #[.agg #[.int .i64 Y.now, .slice x1 Y.svcs.length p1, .slice x2 Y.cps.length p2, .slice x3 Y.bts.length p3], .int .i64 cd] ∧ BkOf W w17.heap.size Y x1 x2 x3 p1 p2 p3) (V 5) W := hd 5 (by kernel_rfl)
  simp only [putAll, pz1, pz2, pz3, pz4, Act.put, pz5, pz6, pz7] at hA
  clear hd
  generalize V 5 = x5 at d5 hA
  obtain rfl := hA
  obtain ⟨x1, x2, x3, p1, p2, p3, rfl, hm⟩ := d5
  have HM := hid_of' hm
  clear hm
  go_wp2
  exact hK.out _ brf
 refine ownV_grow (fun vv W => ∃ b, vv = .pointer (some ⟨b, 0, none⟩) ∧ w17.heap.size ≤ b ∧ W.heap[b]? = some (.cells #[.int .i64 0, .slice none 0 0, .slice none 0 0, .slice none 0 0] 36 (0, 0))) (fun v W W2 ⟨b, h1, h2, h3⟩ hb => ⟨b, h1, h2, below_blk hb h3 (Array.getElem?_eq_some_iff.1 h3).1⟩) (by kernel_rfl) (by kernel_rfl) ?_ ?_
 ·intro V W K AA hW hd hA hK
  simp only [putAll, pz1, pz2, pz3, pz4, Act.put, pz5, pz6, pz7] at hA
  clear hd
  obtain rfl := hA
  go_wp2
  exact hK.out _ _ (below_box W _) ⟨_, rfl, hW.size, heap_alloc_new W _⟩
 refine ownV_own (fun V (_ : Value) W => ∃ (b : Nat) (x1 x2 x3 : Option Addr) (p1 p2 p3 : Nat), V 8 = .pointer (some ⟨b, 0, none⟩) ∧ w17.heap.size ≤ b ∧ W.heap[b]? = some (.cells #[.int .i64 Y.now, .slice x1 Y.svcs.length p1, .slice x2 Y.cps.length p2, .slice x3 Y.bts.length p3] 36 (0, 0)) ∧ BkOf W w17.heap.size Y x1 x2 x3 p1 p2 p3) (fun V v W W2 ⟨b, x1, x2, x3, p1, p2, p3, hv, hn, h, hm⟩ hb => ⟨b, x1, x2, x3, p1, p2, p3, hv, hn, below_blk hb h (Array.getElem?_eq_some_iff.1 h).1, hm.below hb⟩) (fun v V V2 W hVV ⟨b, x1, x2, x3, p1, p2, p3, hv, hr⟩ => ⟨b, x1, x2, x3, p1, p2, p3, (hVV 8 rfl).symm.trans hv, hr⟩) (by kernel_rfl) (by kernel_rfl) ?_ ?_
 ·intro V W K AA hW hd hA hK
  have d6 : (fun vv W => ∃ (x1 x2 x3 : Option Addr) (p1 p2 p3 : Nat), vv = .agg #[.int .i64 Y.now, .slice x1 Y.svcs.length p1, .slice x2 Y.cps.length p2, .slice x3 Y.bts.length p3] ∧ BkOf W w17.heap.size Y x1 x2 x3 p1 p2 p3) (V 6) W := hd 6 (by kernel_rfl)
  have d8 : (fun vv W => ∃ b, vv = .pointer (some ⟨b, 0, none⟩) ∧ w17.heap.size ≤ b ∧ W.heap[b]? = some (.cells #[.int .i64 0, .slice none 0 0, .slice none 0 0, .slice none 0 0] 36 (0, 0))) (V 8) W := hd 8 (by kernel_rfl)
  simp only [putAll, pz1, pz2, pz3, pz4, Act.put, pz5, pz6, pz7] at hA
  clear hd
  generalize hV0 : V 0 = x0 at hA hK
  generalize hV1 : V 1 = x1 at hA hK
  generalize hV2 : V 2 = x2 at hA hK
  generalize hV3 : V 3 = x3 at hA hK
  generalize hV4 : V 4 = x4 at hA hK
  generalize hV5 : V 5 = x5 at hA hK
  generalize hV6 : V 6 = x6 at d6 hA hK
  generalize hV7 : V 7 = x7 at hA hK
  generalize hV8 : V 8 = x8 at d8 hA hK
  generalize hV9 : V 9 = x9 at hA hK
  obtain rfl := hA
  obtain ⟨x1, x2, x3, p1, p2, p3, rfl, hm⟩ := d6
  obtain ⟨b, rfl, hbN, hbz⟩ := d8
  have HM := hid_of' hm
  have hsz := hW.size
  clear hm hV0 hV1 hV2 hV3 hV4 hV5 hV6 hV7 hV8 hV9
  refine wpList_store_only rfl 36 (.tmp 15) (.tmp 100) rfl b 0 #[.int .i64 Y.now, .slice x1 Y.svcs.length p1, .slice x2 Y.cps.length p2, .slice x3 Y.bts.length p3] rfl rfl 36 #[.int .i64 0, .slice none 0 0, .slice none 0 0, .slice none 0 0] hbz Tryz.infosBk4 (Nat.le_of_ble_eq_true rfl) (by simp [Value.oneCell']) ?_
  intro u2 hz on
  have HZ2 : Hid (u2.heap[b]? = some (.cells #[.int .i64 Y.now, .slice x1 Y.svcs.length p1, .slice x2 Y.cps.length p2, .slice x3 Y.bts.length p3] 36 (0, 0))) := hz
  have HON : Hid (Only b W u2) := on
  have HBZ := hid_of' hbz
  clear hz on hbz
  go_wp2
  refine hK.out undef _ ?_ (HON.out.below.mono (by omega)) ⟨b, x1, x2, x3, p1, p2, p3, rfl, hbN, HZ2.out, HM.out.only HON.out HBZ.out (by decide) (by decide) (by decide)⟩
  exact ⟨b, HBZ.out, HON.out⟩
 refine ⟨fun i j hk V v W W' hr hq => ?_, ?_⟩
 ·simp only [List.contains_cons, List.contains_nil, Bool.or_false, Bool.or_eq_true, beq_iff_eq, Prod.mk.injEq] at hk
  obtain ⟨rfl, rfl⟩ := hk
  have hq' : (fun vv W => ∃ (x1 x2 x3 : Option Addr) (p1 p2 p3 : Nat), vv = .tuple #[.agg #[.int .i64 Y.now, .slice x1 Y.svcs.length p1, .slice x2 Y.cps.length p2, .slice x3 Y.bts.length p3], .int .i64 cd] ∧ BkOf W w17.heap.size Y x1 x2 x3 p1 p2 p3) (v) W := hq
  show (fun vv W => ∃ (x1 x2 x3 : Option Addr) (p1 p2 p3 : Nat), vv = .tuple #[.agg #[.int .i64 Y.now, .slice x1 Y.svcs.length p1, .slice x2 Y.cps.length p2, .slice x3 Y.bts.length p3], .int .i64 cd] ∧ BkOf W w17.heap.size Y x1 x2 x3 p1 p2 p3) (v) W'
  clear hq
  obtain ⟨x1, x2, x3, p1, p2, p3, h, hm⟩ := hq'
  obtain ⟨b, hbz, on⟩ := hr
  exact ⟨x1, x2, x3, p1, p2, p3, h, hm.only on hbz (by decide) (by decide) (by decide)⟩
 intro V W AA hW hS hA
 have d0 : V 0 = _ := hS 0 (by omega) (.inr (by kernel_rfl))
 have d2 : V 2 = _ := hS 2 (by omega) (.inr (by kernel_rfl))
 have d7 : V 7 = _ := hS 7 (by omega) (.inr (by kernel_rfl))
 have d9 : (fun V (_ : Value) W => ∃ (b : Nat) (x1 x2 x3 : Option Addr) (p1 p2 p3 : Nat), V 8 = .pointer (some ⟨b, 0, none⟩) ∧ w17.heap.size ≤ b ∧ W.heap[b]? = some (.cells #[.int .i64 Y.now, .slice x1 Y.svcs.length p1, .slice x2 Y.cps.length p2, .slice x3 Y.bts.length p3] 36 (0, 0)) ∧ BkOf W w17.heap.size Y x1 x2 x3 p1 p2 p3) V (V 9) W := hS 9 (by omega) (.inl (by kernel_rfl))
 simp only [putAll, pz1, pz2, pz3, pz4, Act.put, pz5, pz6, pz7, d0, d2, d7] at hA
 dsimp only at d9
 clear hS d0 d2 d7
 generalize V 8 = x8 at d9 hA
 generalize V 9 = x9 at d9 hA
 obtain rfl := hA
 simp only [List.drop_succ_cons, List.drop_zero]
 obtain ⟨w18, rfl⟩ : ∃ w18, w18 = W := ⟨_, rfl⟩
 obtain ⟨bH, hx1, hx2, hx3, hp1, hp2, hp3, rfl, hbH, hzH, hmH⟩ := d9
 have H18 := hid_of' hzH
 have MH18 := hidBkOf hmH
 have hc18 : Below w3.heap.size w3 w18 := hc17.trans (hW.mono hc17.size)
 have G18 := hid_of' (below_blk hW G17.out (Array.getElem?_eq_some_iff.1 G17.out).1)
 have M18 := hid_of' (M17.out.below hW)
 clear hW hzH hmH G17 M17 hc17 X17 E17 hb17
 have h0 := blk_cell H18.out 0 rfl
 have h1 := blk_cell H18.out 1 rfl
 have h2 := blk_cell H18.out 2 rfl
 have h3 := blk_cell H18.out 3 rfl
 have s0 := blk_cell (below_blk hc18 ZS3.out hzb3) 0 rfl
 have s1 := blk_cell (below_blk hc18 ZS3.out hzb3) 1 rfl
 have s2 := blk_cell (below_blk hc18 ZS3.out hzb3) 2 rfl
 have s3 := blk_cell (below_blk hc18 ZS3.out hzb3) 3 rfl
 go_wp2_with fail
 refine (eqBook_same Y hx1 hx2 hx3 sx1 sx2 sx3 hp1 hp2 hp3 sp1 sp2 sp3 w18 HSY.out MH18.out.at (MS3.out.below hc18).at).mono ?_
 rintro e w19 ⟨rfl, hbq⟩
 have hc19 : Below w3.heap.size w3 w19 := hc18.trans (hbq.mono hc18.size)
 have G19 := hid_of' (below_blk hbq G18.out (Array.getElem?_eq_some_iff.1 G18.out).1)
 have M19 := hid_of' (M18.out.below hbq)
 clear hbq G18 M18 H18 MH18 hc18 h0 h1 h2 h3 s0 s1 s2 s3
 have g0 := blk_cell G19.out 0 rfl
 have g1 := blk_cell G19.out 1 rfl
 have g2 := blk_cell G19.out 2 rfl
 have g3 := blk_cell G19.out 3 rfl
 go_wp2_with fail
 refine (heldBook_any Y.now Y.svcs.length Y.cps.length Y.bts.length gx1 gx2 gx3 gp1 gp2 gp3 1 w19 hY1 hY2 hY3 (by omega) (by omega) M19.out).mono ?_
 rintro e w20 ⟨rfl, hbq⟩
 have hb20 : Below w.heap.size w w20 := hb3.trans ((hc19.trans (hbq.mono hc19.size)).mono hb3.size)
 clear hbq g0 g1 g2 g3
 go_wp2
 go_ret
 exact ⟨rfl, hb20⟩
end Go.Proofs.YtbceafpodamnfabGreatDoor
