/-
  My own: Xh, Ia, Pa.
-/
import Derived.Test.YtbceafpodamnfabGreatG08
import Derived.Test.YtbceafpodamnfabGreatG01
import Derived.Test.YtbceafpodamnfabGreatG03
import Derived.Test.YtbceafpodamnfabGreatG04
set_option linter.unusedVariables false
set_option linter.unusedSimpArgs false
namespace Go.Proofs.YtbceafpodamnfabGreat
open Go.RowKit Go.Sort
section
variable {P : Program}
theorem results_cell_tmp {fn : Func} {p q : Tmp} {ty : TypeId} (h : fn.results = #[.cell p ty, .tmp q]) (tmps : Array Value) (w : World) (g : Nat) (t : TypeId) (cs : Array Value) (fr : Nat × Nat) (d : TypeDesc)
  (hp : tmps.getD p undef = .pointer (some ⟨g, 0, none⟩)) (hg : w.heap[g]? = some (.cells cs t fr))
  (hu : P.underlying ty = some d) (hd : (match d with | .struct _ | .array _ _ => true | _ => false) = true) (hi : (P.info? ty).map (·.size) = some cs.size) (v : Value) (hv : tmps.getD q undef = v) :
  (results fn tmps).run P w = .ok (.tuple #[.agg cs, v]) w := by
 have hp' : tmps[p]?.getD undef = .pointer (some ⟨g, 0, none⟩) := by simpa using hp
 have hv' : tmps[q]?.getD undef = v := by simpa using hv
 simp [results, h, hp', hv', asAddr, run_loadVar_row w g t ty cs fr d hg hu hd hi]
end
theorem _root_.Go.RowKit.Below.mono' {N M : Nat} {w w' : World} (h : Below M w w') (hN : N ≤ M) : Below N w w' := h.mono hN
set_option maxRecDepth 100000 in
set_option maxHeartbeats 16000000 in
theorem l6Sea_tick (B : Bk) (sv : Svc) (nm : ByteArray) (num : Int) (fl : Bool) (N g1 g2 g3 k1 k2 k3 n1 n2 n3 : Nat) (w : World) (hS : B.small) (hn0 : 0 ≤ B.now) (hn9 : B.now < 1000000) (hN : N ≤ w.heap.size) (hB : BkRow w N g1 g2 g3 k1 k2 k3 B) (HN1 : Hid (B.svcs.length = n1)) (HN2 : Hid (B.cps.length = n2)) (HN3 : Hid (B.bts.length = n3)) :
  Calls Tryz.prog 43 #[.agg #[.int .i64 B.now, .slice (some ⟨g1, 0, none⟩) n1 k1, .slice (some ⟨g2, 0, none⟩) n2 k2, .slice (some ⟨g3, 0, none⟩) n3 k3], .agg #[.int .i64 1, .string sv.name, .int .i64 sv.version, .bool sv.gone, .int .i64 sv.image, .int .i64 sv.want, .int .i64 sv.down, .int .i64 sv.over, .int .i64 sv.next, .int .i64 sv.per, .int .i64 sv.least, .int .i64 sv.most, .int .i64 sv.load, .int .i64 sv.cool, .string nm, .int .i64 num, .bool fl]] w (SeaR g1 g2 w B ⟨1, sv, nm, num, fl⟩) := by
 have hSm := hS
 obtain ⟨hl1, hl2, hl3⟩ := hS
 rw [HN1.out] at hl1
 rw [HN2.out] at hl2
 rw [HN3.out] at hl3
 have hq1 := hB.n1
 have hq2 := hB.n2
 have hq3 := hB.n3
 have hg1 := hB.svcs.lt
 have hg2 := hB.cps.lt
 have hg3 := hB.bts.lt
 have hc1 := hB.svcs.2.1
 have hc2 := hB.cps.2.1
 have hc3 := hB.bts.2.1
 rw [HN1.out] at hc1
 rw [HN2.out] at hc2
 rw [HN3.out] at hc3
 have h12 := hB.ne12
 have h13 := hB.ne13
 have h23 := hB.ne23
 obtain ⟨W0, hW0, t0, t1, t2, hz0, hz0', hb0⟩ := three_newV w (.cells #[.int .i64 B.now, .slice (some ⟨g1, 0, none⟩) n1 k1, .slice (some ⟨g2, 0, none⟩) n2 k2, .slice (some ⟨g3, 0, none⟩) n3 k3] 34) (.cells #[.int .i64 1, .string sv.name, .int .i64 sv.version, .bool sv.gone, .int .i64 sv.image, .int .i64 sv.want, .int .i64 sv.down, .int .i64 sv.over, .int .i64 sv.next, .int .i64 sv.per, .int .i64 sv.least, .int .i64 sv.most, .int .i64 sv.load, .int .i64 sv.cool, .string nm, .int .i64 num, .bool fl] 50) (.cells #[.int .i64 0, .slice none 0 0, .slice none 0 0, .slice none 0 0] 34)
 have X0 : Hid _ := t0
 have E0 : Hid _ := t1
 have Z0 : Hid _ := t2
 have RS0 : Hid (RowIs W0 48 13 g1 n1 k1 (svcsV B.svcs)) := by have := hB.svcs.below hb0 hg1; (rw [HN1.out] at this); exact this
 have RC0 : Hid (RowIs W0 88 7 g2 n2 k2 (cpsV B.cps)) := by have := hB.cps.below hb0 hg2; (rw [HN2.out] at this); exact this
 have RB0 : Hid (RowIs W0 86 2 g3 n3 k3 (btsV B.bts)) := by have := hB.bts.below hb0 hg3; (rw [HN3.out] at this); exact this
 clear t0 t1 t2 hB
 go_enter Tryz.func43, Tryz.ntmps43
 go_upto_region 1 with fail
 clear hW0
 have e0 := blk_cell X0.out 0 rfl
 have e1 := blk_cell X0.out 1 rfl
 have e2 := blk_cell X0.out 2 rfl
 have e3 := blk_cell X0.out 3 rfl
 have f0 := blk_cell E0.out 0 rfl
 go_wp2_with fail
 have hcall := l6Tick_any B (B.now + 1) (some ⟨g1, 0, none⟩) (some ⟨g2, 0, none⟩) (some ⟨g3, 0, none⟩) k1 k2 k3 W0 hSm ⟨RS0.out.slS, RC0.out.slC, RB0.out.slB⟩
 rw [HN1.out, HN2.out, HN3.out] at hcall
 refine hcall.mono ?_
 clear hcall
 rintro e w1 ⟨g, n, cap, rfl, HNN, hgn, HRN, hbc⟩
 have hbw1 := hb0.trans (hbc.mono hb0.size)
 have X1 : Hid _ := below_blk hbc X0.out (by omega)
 have Z1 : Hid _ := below_blk hbc Z0.out (by omega)
 have hz1 : w.heap.size + 1 + 1 < w1.heap.size := (Array.getElem?_eq_some_iff.1 Z1.out).1
 have hb1 := hbw1
 have RS1 : Hid (RowIs w1 48 13 g1 n1 k1 (svcsV B.svcs)) := RS0.out.below hbc (by omega)
 have RB1 : Hid (RowIs w1 86 2 g3 n3 k3 (btsV B.bts)) := RB0.out.below hbc (by omega)
 have RN1 : Hid (RowIs w1 88 7 g n cap (cpsV (tickB B (B.now + 1)).cps)) := HRN.out
 have hgl := HRN.out.lt
 clear HRN e0 e1 e2 e3 f0 hb0 X0 Z0 E0 RS0 RC0 RB0 hbc hbw1
 go_wp2_with (first
  | (refine wpList_store_only rfl 34 (.tmp 2) (.tmp 22) rfl w.heap.size 0 #[.int .i64 B.now, .slice (some ⟨g1, 0, none⟩) n1 k1, .slice (some ⟨g, 0, none⟩) n cap, .slice (some ⟨g3, 0, none⟩) n3 k3] rfl rfl 34 #[.int .i64 B.now, .slice (some ⟨g1, 0, none⟩) n1 k1, .slice (some ⟨g2, 0, none⟩) n2 k2, .slice (some ⟨g3, 0, none⟩) n3 k3] X1.out Tryz.infosBkX (Nat.le_of_ble_eq_true rfl) (by simp [Value.oneCell']) ?_; intro w2 hz on; have X2 : Hid (w2.heap[w.heap.size]? = some (.cells #[.int .i64 B.now, .slice (some ⟨g1, 0, none⟩) n1 k1, .slice (some ⟨g, 0, none⟩) n cap, .slice (some ⟨g3, 0, none⟩) n3 k3] 34 (0, 0))) := hz; have Z2 : Hid _ := (on.other (w.heap.size + 1 + 1) (by omega)).trans Z1.out; have hb2 := hb1.trans (on.below.mono (by omega)); have RS2 : Hid (RowIs w2 48 13 g1 n1 k1 (svcsV B.svcs)) := RS1.out.blk (on.other g1 (by omega)); have RB2 : Hid (RowIs w2 86 2 g3 n3 k3 (btsV B.bts)) := RB1.out.blk (on.other g3 (by omega)); have RN2 : Hid (RowIs w2 88 7 g n cap (cpsV (tickB B (B.now + 1)).cps)) := RN1.out.blk (on.other g (by omega)); clear hz on)
  | (refine wpList_store_one rfl 3 (.tmp 159) (.tmp 158) rfl w.heap.size 0 (.int .i64 (B.now + 1)) rfl rfl Tryz.infosIntX rfl rfl 34 #[.int .i64 B.now, .slice (some ⟨g1, 0, none⟩) n1 k1, .slice (some ⟨g, 0, none⟩) n cap, .slice (some ⟨g3, 0, none⟩) n3 k3] X2.out (Nat.le_of_ble_eq_true rfl) ?_; intro w3 hz on; have X3 : Hid (w3.heap[w.heap.size]? = some (.cells #[.int .i64 (B.now + 1), .slice (some ⟨g1, 0, none⟩) n1 k1, .slice (some ⟨g, 0, none⟩) n cap, .slice (some ⟨g3, 0, none⟩) n3 k3] 34 (0, 0))) := hz; have Z3 : Hid _ := (on.other (w.heap.size + 1 + 1) (by omega)).trans Z2.out; have hb3 := hb2.trans (on.below.mono (by omega)); have RS3 : Hid (RowIs w3 48 13 g1 n1 k1 (svcsV B.svcs)) := RS2.out.blk (on.other g1 (by omega)); have RB3 : Hid (RowIs w3 86 2 g3 n3 k3 (btsV B.bts)) := RB2.out.blk (on.other g3 (by omega)); have RN3 : Hid (RowIs w3 88 7 g n cap (cpsV (tickB B (B.now + 1)).cps)) := RN2.out.blk (on.other g (by omega)); clear hz on)
  | (refine wpList_load_row rfl 34 (.tmp 2) rfl w.heap.size rfl 34 #[.int .i64 (B.now + 1), .slice (some ⟨g1, 0, none⟩) n1 k1, .slice (some ⟨g, 0, none⟩) n cap, .slice (some ⟨g3, 0, none⟩) n3 k3] (0, 0) _ X3.out Tryz.underlying34 rfl Tryz.infosBkX ?_)
  | (refine wpList_store_only rfl 34 (.tmp 4) (.tmp 160) rfl (w.heap.size + 1 + 1) 0 #[.int .i64 (B.now + 1), .slice (some ⟨g1, 0, none⟩) n1 k1, .slice (some ⟨g, 0, none⟩) n cap, .slice (some ⟨g3, 0, none⟩) n3 k3] rfl rfl 34 #[.int .i64 0, .slice none 0 0, .slice none 0 0, .slice none 0 0] Z3.out Tryz.infosBkX (Nat.le_of_ble_eq_true rfl) (by simp [Value.oneCell']) ?_; intro w4 hz on; have Z4 : Hid (w4.heap[w.heap.size + 1 + 1]? = some (.cells #[.int .i64 (B.now + 1), .slice (some ⟨g1, 0, none⟩) n1 k1, .slice (some ⟨g, 0, none⟩) n cap, .slice (some ⟨g3, 0, none⟩) n3 k3] 34 (0, 0))) := hz; have hb4 := hb3.trans (on.below.mono (by omega)); have RS4 : Hid (RowIs w4 48 13 g1 n1 k1 (svcsV B.svcs)) := RS3.out.blk (on.other g1 (by omega)); have RB4 : Hid (RowIs w4 86 2 g3 n3 k3 (btsV B.bts)) := RB3.out.blk (on.other g3 (by omega)); have RN4 : Hid (RowIs w4 88 7 g n cap (cpsV (tickB B (B.now + 1)).cps)) := RN3.out.blk (on.other g (by omega)); clear hz on))
 exact bodyPost_ret (v := .tuple #[.agg #[.int .i64 (B.now + 1), .slice (some ⟨g1, 0, none⟩) n1 k1, .slice (some ⟨g, 0, none⟩) n cap, .slice (some ⟨g3, 0, none⟩) n3 k3], .int .i64 0]) (results_cell_tmp rfl _ _ (w.heap.size + 1 + 1) _ _ _ _ rfl Z4.out Tryz.underlying34 rfl Tryz.infosBkX _ rfl) rfl ⟨_, _, _, _, _, _, _, _, _, _, rfl, fun _ => ⟨rfl, (by rw [show (seaOf B ⟨1, sv, nm, num, fl⟩).1.svcs = B.svcs from (tickTo_same B _ _).2.1]; exact HN1.out.symm), HNN.out, (by rw [show (seaOf B ⟨1, sv, nm, num, fl⟩).1.bts = B.bts from (tickTo_same B _ _).2.2.1]; exact HN3.out.symm), (by rw [show (seaOf B ⟨1, sv, nm, num, fl⟩).1.svcs = B.svcs from (tickTo_same B _ _).2.1]; exact RS4.out), RN4.out, (by rw [show (seaOf B ⟨1, sv, nm, num, fl⟩).1.bts = B.bts from (tickTo_same B _ _).2.2.1]; exact RB4.out)⟩, keepBut_of hb4⟩
set_option maxRecDepth 100000 in
set_option maxHeartbeats 16000000 in
theorem l6Sea_wish (B : Bk) (sv : Svc) (nm : ByteArray) (num : Int) (fl : Bool) (N g1 g2 g3 k1 k2 k3 n1 n2 n3 : Nat) (w : World) (hS : B.small) (hn0 : 0 ≤ B.now) (hn9 : B.now < 1000000) (hN : N ≤ w.heap.size) (hB : BkRow w N g1 g2 g3 k1 k2 k3 B) (HN1 : Hid (B.svcs.length = n1)) (HN2 : Hid (B.cps.length = n2)) (HN3 : Hid (B.bts.length = n3)) :
  Calls Tryz.prog 43 #[.agg #[.int .i64 B.now, .slice (some ⟨g1, 0, none⟩) n1 k1, .slice (some ⟨g2, 0, none⟩) n2 k2, .slice (some ⟨g3, 0, none⟩) n3 k3], .agg #[.int .i64 2, .string sv.name, .int .i64 sv.version, .bool sv.gone, .int .i64 sv.image, .int .i64 sv.want, .int .i64 sv.down, .int .i64 sv.over, .int .i64 sv.next, .int .i64 sv.per, .int .i64 sv.least, .int .i64 sv.most, .int .i64 sv.load, .int .i64 sv.cool, .string nm, .int .i64 num, .bool fl]] w (SeaR g1 g2 w B ⟨2, sv, nm, num, fl⟩) := by
 have hSm := hS
 obtain ⟨hl1, hl2, hl3⟩ := hS
 rw [HN1.out] at hl1
 rw [HN2.out] at hl2
 rw [HN3.out] at hl3
 have hq1 := hB.n1
 have hq2 := hB.n2
 have hq3 := hB.n3
 have hg1 := hB.svcs.lt
 have hg2 := hB.cps.lt
 have hg3 := hB.bts.lt
 have hc1 := hB.svcs.2.1
 have hc2 := hB.cps.2.1
 have hc3 := hB.bts.2.1
 rw [HN1.out] at hc1
 rw [HN2.out] at hc2
 rw [HN3.out] at hc3
 have h12 := hB.ne12
 have h13 := hB.ne13
 have h23 := hB.ne23
 obtain ⟨W0, hW0, t0, t1, t2, hz0, hz0', hb0⟩ := three_newV w (.cells #[.int .i64 B.now, .slice (some ⟨g1, 0, none⟩) n1 k1, .slice (some ⟨g2, 0, none⟩) n2 k2, .slice (some ⟨g3, 0, none⟩) n3 k3] 34) (.cells #[.int .i64 2, .string sv.name, .int .i64 sv.version, .bool sv.gone, .int .i64 sv.image, .int .i64 sv.want, .int .i64 sv.down, .int .i64 sv.over, .int .i64 sv.next, .int .i64 sv.per, .int .i64 sv.least, .int .i64 sv.most, .int .i64 sv.load, .int .i64 sv.cool, .string nm, .int .i64 num, .bool fl] 50) (.cells #[.int .i64 0, .slice none 0 0, .slice none 0 0, .slice none 0 0] 34)
 have X0 : Hid _ := t0
 have E0 : Hid _ := t1
 have Z0 : Hid _ := t2
 have RS0 : Hid (RowIs W0 48 13 g1 n1 k1 (svcsV B.svcs)) := by have := hB.svcs.below hb0 hg1; (rw [HN1.out] at this); exact this
 have RC0 : Hid (RowIs W0 88 7 g2 n2 k2 (cpsV B.cps)) := by have := hB.cps.below hb0 hg2; (rw [HN2.out] at this); exact this
 have RB0 : Hid (RowIs W0 86 2 g3 n3 k3 (btsV B.bts)) := by have := hB.bts.below hb0 hg3; (rw [HN3.out] at this); exact this
 clear t0 t1 t2 hB
 go_enter Tryz.func43, Tryz.ntmps43
 go_upto_region 1 with fail
 clear hW0
 have e0 := blk_cell X0.out 0 rfl
 have e1 := blk_cell X0.out 1 rfl
 have e2 := blk_cell X0.out 2 rfl
 have e3 := blk_cell X0.out 3 rfl
 have f0 := blk_cell E0.out 0 rfl
 have f1 := blk_cell E0.out 1 rfl
 have f2 := blk_cell E0.out 2 rfl
 have f3 := blk_cell E0.out 3 rfl
 have f4 := blk_cell E0.out 4 rfl
 have f5 := blk_cell E0.out 5 rfl
 have f6 := blk_cell E0.out 6 rfl
 have f7 := blk_cell E0.out 7 rfl
 have f8 := blk_cell E0.out 8 rfl
 have f9 := blk_cell E0.out 9 rfl
 have f10 := blk_cell E0.out 10 rfl
 have f11 := blk_cell E0.out 11 rfl
 have f12 := blk_cell E0.out 12 rfl
 have f13 := blk_cell E0.out 13 rfl
 go_wp2_with fail
 have hcall := l6Wish_any B sv (B.now + 1) (some ⟨g2, 0, none⟩) (some ⟨g3, 0, none⟩) k2 k3 g1 k1 n1 W0 hSm HN1 RS0.out
 rw [HN2.out, HN3.out] at hcall
 refine hcall.mono ?_
 clear hcall
 rintro e w1 ⟨g, n, cap, rfl, HNN, hgn, HRN, hbc⟩
 have hbw1 := hb0.trans (hbc.mono hb0.size)
 have X1 : Hid _ := below_blk hbc X0.out (by omega)
 have Z1 : Hid _ := below_blk hbc Z0.out (by omega)
 have hz1 : w.heap.size + 1 + 1 < w1.heap.size := (Array.getElem?_eq_some_iff.1 Z1.out).1
 have hb1 := hbw1
 have RC1 : Hid (RowIs w1 88 7 g2 n2 k2 (cpsV B.cps)) := RC0.out.below hbc (by omega)
 have RB1 : Hid (RowIs w1 86 2 g3 n3 k3 (btsV B.bts)) := RB0.out.below hbc (by omega)
 have RN1 : Hid (RowIs w1 48 13 g n cap (svcsV (wishB B sv (B.now + 1)).svcs)) := HRN.out
 have hgl := HRN.out.lt
 clear HRN e0 e1 e2 e3 f0 f1 f2 f3 f4 f5 f6 f7 f8 f9 f10 f11 f12 f13 hb0 X0 Z0 E0 RS0 RC0 RB0 hbc hbw1
 go_wp2_with (first
  | (refine wpList_store_only rfl 34 (.tmp 2) (.tmp 29) rfl w.heap.size 0 #[.int .i64 B.now, .slice (some ⟨g, 0, none⟩) n cap, .slice (some ⟨g2, 0, none⟩) n2 k2, .slice (some ⟨g3, 0, none⟩) n3 k3] rfl rfl 34 #[.int .i64 B.now, .slice (some ⟨g1, 0, none⟩) n1 k1, .slice (some ⟨g2, 0, none⟩) n2 k2, .slice (some ⟨g3, 0, none⟩) n3 k3] X1.out Tryz.infosBkX (Nat.le_of_ble_eq_true rfl) (by simp [Value.oneCell']) ?_; intro w2 hz on; have X2 : Hid (w2.heap[w.heap.size]? = some (.cells #[.int .i64 B.now, .slice (some ⟨g, 0, none⟩) n cap, .slice (some ⟨g2, 0, none⟩) n2 k2, .slice (some ⟨g3, 0, none⟩) n3 k3] 34 (0, 0))) := hz; have Z2 : Hid _ := (on.other (w.heap.size + 1 + 1) (by omega)).trans Z1.out; have hb2 := hb1.trans (on.below.mono (by omega)); have RC2 : Hid (RowIs w2 88 7 g2 n2 k2 (cpsV B.cps)) := RC1.out.blk (on.other g2 (by omega)); have RB2 : Hid (RowIs w2 86 2 g3 n3 k3 (btsV B.bts)) := RB1.out.blk (on.other g3 (by omega)); have RN2 : Hid (RowIs w2 48 13 g n cap (svcsV (wishB B sv (B.now + 1)).svcs)) := RN1.out.blk (on.other g (by omega)); clear hz on)
  | (refine wpList_store_one rfl 3 (.tmp 159) (.tmp 158) rfl w.heap.size 0 (.int .i64 (B.now + 1)) rfl rfl Tryz.infosIntX rfl rfl 34 #[.int .i64 B.now, .slice (some ⟨g, 0, none⟩) n cap, .slice (some ⟨g2, 0, none⟩) n2 k2, .slice (some ⟨g3, 0, none⟩) n3 k3] X2.out (Nat.le_of_ble_eq_true rfl) ?_; intro w3 hz on; have X3 : Hid (w3.heap[w.heap.size]? = some (.cells #[.int .i64 (B.now + 1), .slice (some ⟨g, 0, none⟩) n cap, .slice (some ⟨g2, 0, none⟩) n2 k2, .slice (some ⟨g3, 0, none⟩) n3 k3] 34 (0, 0))) := hz; have Z3 : Hid _ := (on.other (w.heap.size + 1 + 1) (by omega)).trans Z2.out; have hb3 := hb2.trans (on.below.mono (by omega)); have RC3 : Hid (RowIs w3 88 7 g2 n2 k2 (cpsV B.cps)) := RC2.out.blk (on.other g2 (by omega)); have RB3 : Hid (RowIs w3 86 2 g3 n3 k3 (btsV B.bts)) := RB2.out.blk (on.other g3 (by omega)); have RN3 : Hid (RowIs w3 48 13 g n cap (svcsV (wishB B sv (B.now + 1)).svcs)) := RN2.out.blk (on.other g (by omega)); clear hz on)
  | (refine wpList_load_row rfl 34 (.tmp 2) rfl w.heap.size rfl 34 #[.int .i64 (B.now + 1), .slice (some ⟨g, 0, none⟩) n cap, .slice (some ⟨g2, 0, none⟩) n2 k2, .slice (some ⟨g3, 0, none⟩) n3 k3] (0, 0) _ X3.out Tryz.underlying34 rfl Tryz.infosBkX ?_)
  | (refine wpList_store_only rfl 34 (.tmp 4) (.tmp 160) rfl (w.heap.size + 1 + 1) 0 #[.int .i64 (B.now + 1), .slice (some ⟨g, 0, none⟩) n cap, .slice (some ⟨g2, 0, none⟩) n2 k2, .slice (some ⟨g3, 0, none⟩) n3 k3] rfl rfl 34 #[.int .i64 0, .slice none 0 0, .slice none 0 0, .slice none 0 0] Z3.out Tryz.infosBkX (Nat.le_of_ble_eq_true rfl) (by simp [Value.oneCell']) ?_; intro w4 hz on; have Z4 : Hid (w4.heap[w.heap.size + 1 + 1]? = some (.cells #[.int .i64 (B.now + 1), .slice (some ⟨g, 0, none⟩) n cap, .slice (some ⟨g2, 0, none⟩) n2 k2, .slice (some ⟨g3, 0, none⟩) n3 k3] 34 (0, 0))) := hz; have hb4 := hb3.trans (on.below.mono (by omega)); have RC4 : Hid (RowIs w4 88 7 g2 n2 k2 (cpsV B.cps)) := RC3.out.blk (on.other g2 (by omega)); have RB4 : Hid (RowIs w4 86 2 g3 n3 k3 (btsV B.bts)) := RB3.out.blk (on.other g3 (by omega)); have RN4 : Hid (RowIs w4 48 13 g n cap (svcsV (wishB B sv (B.now + 1)).svcs)) := RN3.out.blk (on.other g (by omega)); clear hz on))
 exact bodyPost_ret (v := .tuple #[.agg #[.int .i64 (B.now + 1), .slice (some ⟨g, 0, none⟩) n cap, .slice (some ⟨g2, 0, none⟩) n2 k2, .slice (some ⟨g3, 0, none⟩) n3 k3], .int .i64 0]) (results_cell_tmp rfl _ _ (w.heap.size + 1 + 1) _ _ _ _ rfl Z4.out Tryz.underlying34 rfl Tryz.infosBkX _ rfl) rfl ⟨_, _, _, _, _, _, _, _, _, _, rfl, fun _ => ⟨rfl, HNN.out, HN2.out.symm, HN3.out.symm, RN4.out, RC4.out, RB4.out⟩, keepBut_of hb4⟩
set_option maxRecDepth 100000 in
set_option maxHeartbeats 16000000 in
theorem l6Sea_other (B : Bk) (kind : Int) (sv : Svc) (nm : ByteArray) (num : Int) (fl : Bool) (N g1 g2 g3 k1 k2 k3 n1 n2 n3 : Nat) (w : World) (hS : B.small) (hn0 : 0 ≤ B.now) (hn9 : B.now < 1000000) (hN : N ≤ w.heap.size) (hB : BkRow w N g1 g2 g3 k1 k2 k3 B) (HN1 : Hid (B.svcs.length = n1)) (HN2 : Hid (B.cps.length = n2)) (HN3 : Hid (B.bts.length = n3)) (hk1 : kind ≠ 1) (hk2 : kind ≠ 2) (hk3 : kind ≠ 3) (hk4 : kind ≠ 4) (hk5 : kind ≠ 5) (hk6 : kind ≠ 6) :
  Calls Tryz.prog 43 #[.agg #[.int .i64 B.now, .slice (some ⟨g1, 0, none⟩) n1 k1, .slice (some ⟨g2, 0, none⟩) n2 k2, .slice (some ⟨g3, 0, none⟩) n3 k3], .agg #[.int .i64 kind, .string sv.name, .int .i64 sv.version, .bool sv.gone, .int .i64 sv.image, .int .i64 sv.want, .int .i64 sv.down, .int .i64 sv.over, .int .i64 sv.next, .int .i64 sv.per, .int .i64 sv.least, .int .i64 sv.most, .int .i64 sv.load, .int .i64 sv.cool, .string nm, .int .i64 num, .bool fl]] w (SeaR g1 g2 w B ⟨kind, sv, nm, num, fl⟩) := by
 have hSm := hS
 obtain ⟨hl1, hl2, hl3⟩ := hS
 rw [HN1.out] at hl1
 rw [HN2.out] at hl2
 rw [HN3.out] at hl3
 have hq1 := hB.n1
 have hq2 := hB.n2
 have hq3 := hB.n3
 have hg1 := hB.svcs.lt
 have hg2 := hB.cps.lt
 have hg3 := hB.bts.lt
 have hc1 := hB.svcs.2.1
 have hc2 := hB.cps.2.1
 have hc3 := hB.bts.2.1
 rw [HN1.out] at hc1
 rw [HN2.out] at hc2
 rw [HN3.out] at hc3
 have h12 := hB.ne12
 have h13 := hB.ne13
 have h23 := hB.ne23
 obtain ⟨W0, hW0, t0, t1, t2, hz0, hz0', hb0⟩ := three_newV w (.cells #[.int .i64 B.now, .slice (some ⟨g1, 0, none⟩) n1 k1, .slice (some ⟨g2, 0, none⟩) n2 k2, .slice (some ⟨g3, 0, none⟩) n3 k3] 34) (.cells #[.int .i64 kind, .string sv.name, .int .i64 sv.version, .bool sv.gone, .int .i64 sv.image, .int .i64 sv.want, .int .i64 sv.down, .int .i64 sv.over, .int .i64 sv.next, .int .i64 sv.per, .int .i64 sv.least, .int .i64 sv.most, .int .i64 sv.load, .int .i64 sv.cool, .string nm, .int .i64 num, .bool fl] 50) (.cells #[.int .i64 0, .slice none 0 0, .slice none 0 0, .slice none 0 0] 34)
 have X0 : Hid _ := t0
 have E0 : Hid _ := t1
 have Z0 : Hid _ := t2
 have RS0 : Hid (RowIs W0 48 13 g1 n1 k1 (svcsV B.svcs)) := by have := hB.svcs.below hb0 hg1; (rw [HN1.out] at this); exact this
 have RC0 : Hid (RowIs W0 88 7 g2 n2 k2 (cpsV B.cps)) := by have := hB.cps.below hb0 hg2; (rw [HN2.out] at this); exact this
 have RB0 : Hid (RowIs W0 86 2 g3 n3 k3 (btsV B.bts)) := by have := hB.bts.below hb0 hg3; (rw [HN3.out] at this); exact this
 clear t0 t1 t2 hB
 go_enter Tryz.func43, Tryz.ntmps43
 go_upto_region 1 with fail
 clear hW0
 have e0 := blk_cell X0.out 0 rfl
 have e1 := blk_cell X0.out 1 rfl
 have e2 := blk_cell X0.out 2 rfl
 have e3 := blk_cell X0.out 3 rfl
 have f0 := blk_cell E0.out 0 rfl
 have HC : Hid ((seaOf B ⟨kind, sv, nm, num, fl⟩).2 = 4) := by unfold Hid seaOf; simp [hk1, hk2, hk3, hk4, hk5, hk6]
 go_wp2_with (first
  | (refine wpList_load_row rfl 34 (.tmp 2) rfl w.heap.size rfl 34 #[.int .i64 B.now, .slice (some ⟨g1, 0, none⟩) n1 k1, .slice (some ⟨g2, 0, none⟩) n2 k2, .slice (some ⟨g3, 0, none⟩) n3 k3] (0, 0) _ X0.out Tryz.underlying34 rfl Tryz.infosBkX ?_)
  | (refine wpList_store_only rfl 34 (.tmp 4) (.tmp 17) rfl (w.heap.size + 1 + 1) 0 #[.int .i64 B.now, .slice (some ⟨g1, 0, none⟩) n1 k1, .slice (some ⟨g2, 0, none⟩) n2 k2, .slice (some ⟨g3, 0, none⟩) n3 k3] rfl rfl 34 #[.int .i64 0, .slice none 0 0, .slice none 0 0, .slice none 0 0] Z0.out Tryz.infosBkX (Nat.le_of_ble_eq_true rfl) (by simp [Value.oneCell']) ?_; intro w9 hz on; have Z9 : Hid (w9.heap[w.heap.size + 1 + 1]? = some (.cells #[.int .i64 B.now, .slice (some ⟨g1, 0, none⟩) n1 k1, .slice (some ⟨g2, 0, none⟩) n2 k2, .slice (some ⟨g3, 0, none⟩) n3 k3] 34 (0, 0))) := hz; have hb9 := hb0.trans (on.below.mono (by omega)); clear hz on))
 exact bodyPost_ret (v := .tuple #[.agg #[.int .i64 B.now, .slice (some ⟨g1, 0, none⟩) n1 k1, .slice (some ⟨g2, 0, none⟩) n2 k2, .slice (some ⟨g3, 0, none⟩) n3 k3], .int .i64 4]) (results_cell_tmp rfl _ _ (w.heap.size + 1 + 1) _ _ _ _ rfl Z9.out Tryz.underlying34 rfl Tryz.infosBkX _ rfl) rfl ⟨_, _, _, _, _, _, _, _, _, _, by rw [HC.out], fun h => absurd h (by rw [HC.out]; simp), keepBut_of hb9⟩
end Go.Proofs.YtbceafpodamnfabGreat

namespace Go.Proofs.YtbceafpodamnfabGreat
open Go.RowKit Go.Sort
def RowN (w : World) (N : Nat) (e : TypeId) (size : Nat) (ao : Option Addr) (n cap : Nat) (xs : List Value) : Prop :=
 (ao = none ∧ n = 0 ∧ cap = 0 ∧ xs = []) ∨ ∃ g, ao = some ⟨g, 0, none⟩ ∧ N ≤ g ∧ RowIs w e size g n cap xs
theorem RowN.blk {w w' : World} {N : Nat} {e : TypeId} {size : Nat} {ao : Option Addr} {n cap : Nat} {xs : List Value} (h : RowN w N e size ao n cap xs) (hb : ∀ g cs fr, N ≤ g → w.heap[g]? = some (.cells cs e fr) → w'.heap[g]? = w.heap[g]?) : RowN w' N e size ao n cap xs := by
 rcases h with h | ⟨g, h1, h2, h3⟩
 ·exact .inl h
 ·obtain ⟨_, _, cur, hc, _⟩ := id h3
  exact .inr ⟨g, h1, h2, h3.blk (hb g cur _ h2 hc)⟩
theorem RowN.below {w w' : World} {N : Nat} {e : TypeId} {size : Nat} {ao : Option Addr} {n cap : Nat} {xs : List Value} (h : RowN w N e size ao n cap xs) (hb : Below w.heap.size w w') : RowN w' N e size ao n cap xs :=
 h.blk fun g _ _ _ hg => hb.block g (Array.getElem?_eq_some_iff.1 hg).1
theorem RowN.only {w w' : World} {N : Nat} {e t : TypeId} {size : Nat} {ao : Option Addr} {n cap : Nat} {xs : List Value} {b : Nat} {cs : Array Value} {fr : Nat × Nat} (h : RowN w N e size ao n cap xs) (on : Only b w w') (hb : w.heap[b]? = some (.cells cs t fr)) (ht : t ≠ e) : RowN w' N e size ao n cap xs :=
 h.blk fun g cs' fr' _ hg => on.other g fun eg => by
  rw [eg, hb] at hg
  injection hg with hg
  injection hg with _ hg
  exact ht hg
theorem RowN.mono {w : World} {N M : Nat} {e : TypeId} {size : Nat} {ao : Option Addr} {n cap : Nat} {xs : List Value} (h : RowN w N e size ao n cap xs) (hM : M ≤ N) : RowN w M e size ao n cap xs := by
 rcases h with h | ⟨g, h1, h2, h3⟩
 ·exact .inl h
 ·exact .inr ⟨g, h1, Nat.le_trans hM h2, h3⟩
theorem RowN.some {w : World} {N : Nat} {e : TypeId} {size : Nat} {ao : Option Addr} {n cap : Nat} {xs : List Value} (h : RowN w N e size ao n cap xs) (hn : n ≠ 0) : ∃ g, ao = some ⟨g, 0, none⟩ ∧ N ≤ g ∧ RowIs w e size g n cap xs := by
 rcases h with h | h
 ·exact absurd h.2.1 hn
 ·exact h
theorem RowN.slS {w : World} {N : Nat} {e : TypeId} {ao : Option Addr} {n cap : Nat} {l : List Svc} (h : RowN w N e 13 ao n cap (svcsV l)) : SlS w ao l := fun hl => by
 rcases h with h | ⟨g, h1, _, h3⟩
 ·exfalso
  have := svcsV_len l
  rw [h.2.2.2] at this
  cases l with
  | nil => exact hl rfl
  | cons x l => simp at this
 ·rw [h1]; exact h3.slS hl
theorem RowN.slC {w : World} {N : Nat} {e : TypeId} {ao : Option Addr} {n cap : Nat} {l : List Cp} (h : RowN w N e 7 ao n cap (cpsV l)) : SlC w ao l := fun hl => by
 rcases h with h | ⟨g, h1, _, h3⟩
 ·exfalso
  have := cpsV_len l
  rw [h.2.2.2] at this
  cases l with
  | nil => exact hl rfl
  | cons x l => simp at this
 ·rw [h1]; exact h3.slC hl
theorem RowN.slB {w : World} {N : Nat} {e : TypeId} {ao : Option Addr} {n cap : Nat} {l : List Bt} (h : RowN w N e 2 ao n cap (btsV l)) : SlB w ao l := fun hl => by
 rcases h with h | ⟨g, h1, _, h3⟩
 ·exfalso
  have := btsV_len l
  rw [h.2.2.2] at this
  cases l with
  | nil => exact hl rfl
  | cons x l => simp at this
 ·rw [h1]; exact h3.slB hl
structure BkOf (w : World) (N : Nat) (B : Bk) (a1 a2 a3 : Option Addr) (k1 k2 k3 : Nat) : Prop where
 svcs : RowN w N 48 13 a1 B.svcs.length k1 (svcsV B.svcs)
 cps : RowN w N 88 7 a2 B.cps.length k2 (cpsV B.cps)
 bts : RowN w N 86 2 a3 B.bts.length k3 (btsV B.bts)
theorem BkOf.at {w : World} {N : Nat} {B : Bk} {a1 a2 a3 : Option Addr} {k1 k2 k3 : Nat} (h : BkOf w N B a1 a2 a3 k1 k2 k3) : BkAt w a1 a2 a3 B := ⟨h.svcs.slS, h.cps.slC, h.bts.slB⟩
theorem BkOf.below {w w' : World} {N : Nat} {B : Bk} {a1 a2 a3 : Option Addr} {k1 k2 k3 : Nat} (h : BkOf w N B a1 a2 a3 k1 k2 k3) (hb : Below w.heap.size w w') : BkOf w' N B a1 a2 a3 k1 k2 k3 := ⟨h.svcs.below hb, h.cps.below hb, h.bts.below hb⟩
theorem BkOf.mono {w : World} {N M : Nat} {B : Bk} {a1 a2 a3 : Option Addr} {k1 k2 k3 : Nat} (h : BkOf w N B a1 a2 a3 k1 k2 k3) (hM : M ≤ N) : BkOf w M B a1 a2 a3 k1 k2 k3 := ⟨h.svcs.mono hM, h.cps.mono hM, h.bts.mono hM⟩
theorem BkOf.only {w w' : World} {N b : Nat} {t : TypeId} {cs : Array Value} {fr : Nat × Nat} {B : Bk} {a1 a2 a3 : Option Addr} {k1 k2 k3 : Nat} (h : BkOf w N B a1 a2 a3 k1 k2 k3) (on : Only b w w') (hb : w.heap[b]? = some (.cells cs t fr)) (h1 : t ≠ 48) (h2 : t ≠ 88) (h3 : t ≠ 86) : BkOf w' N B a1 a2 a3 k1 k2 k3 := ⟨h.svcs.only on hb h1, h.cps.only on hb h2, h.bts.only on hb h3⟩
theorem Tryz.infoSvcI : (Tryz.prog.info? 48).map (fun i => (i.zero, i.size, i.bytes)) = some (some (.agg #[.string ⟨#[]⟩, .int .i64 0, .bool false, .int .i64 0, .int .i64 0, .int .i64 0, .int .i64 0, .int .i64 0, .int .i64 0, .int .i64 0, .int .i64 0, .int .i64 0, .int .i64 0]), 13, 112) := by kernel_rfl
theorem Tryz.infoCpI : (Tryz.prog.info? 88).map (fun i => (i.zero, i.size, i.bytes)) = some (some (.agg #[.string ⟨#[]⟩, .int .i64 0, .int .i64 0, .int .i64 0, .int .i64 0, .bool false, .string ⟨#[]⟩]), 7, 72) := by kernel_rfl
theorem Tryz.infoBtI : (Tryz.prog.info? 86).map (fun i => (i.zero, i.size, i.bytes)) = some (some (.agg #[.string ⟨#[]⟩, .bool false]), 2, 24) := by kernel_rfl
section
variable {P : Program}
theorem wpList_append_nil {ops : Array Oper} {rest : List Oper} {o : Oper} {a : Act} {w : World} {Q : Exit → Act → World → Prop} (hgd : o.guard = none) (s x : Operand) (t : TypeId)
  (ho : o.op = .call { callee := .builtin .append, args := #[s, x], argTypes := #[t, t] })
  (e : TypeId) (z : Value) (size bytes : Nat) (ht : P.underlying t = some (.slice e)) (hinfo : (P.info? e).map (fun i => (i.zero, i.size, i.bytes)) = some (some z, size, bytes)) (hzs : z.cells.size = size) (hsz : 0 < size)
  (hs : a.eval s = .slice none 0 0)
  (ao : Option Addr) (m c : Nat) (news : List Value) (hx : a.eval x = .slice ao m c) (hl : news.length = m * size) (hsrc : m ≠ 0 → ∃ ad, ao = some ad ∧ ∀ j u, news[j]? = some u → w.cell? (ad.add j) = some u) (h1 : ∀ u ∈ news, u.oneCell' = true)
  (h63 : m ≤ maxLen) (hbytes : m * bytes ≤ 140737488355328)
  (hz0 : m = 0 → wpList P ops Q rest (a.put o.dst (.slice none 0 0)) w)
  (h : m ≠ 0 → ∀ g cap w', w.heap.size ≤ g → Hid (RowIs w' e size g m cap news) → Below w.heap.size w w' → wpList P ops Q rest (a.put o.dst (.slice (some ⟨g, 0, none⟩) m cap)) w') : wpList P ops Q (o :: rest) a w := by
 by_cases hm : m = 0
 ·subst hm
  refine wpList_plain hgd fun K hK => ?_
  unfold Oper.wp execOp
  obtain ⟨i, hi, hz, hs', hb⟩ := info_parts hinfo
  have hr : (Builtin.append_ #[t, t] o.type #[.slice none 0 0, .slice ao 0 c]).run P w = .ok (.slice none 0 0) w := by
   cases ao with
   | none => simp [Builtin.append_, run_underlying ht, sizeOf, typeInfo, hi, Builtin.lenOf, Builtin.firstCells, storeCells]
   | some ad => simp [Builtin.append_, run_underlying ht, sizeOf, typeInfo, hi, Builtin.lenOf, Builtin.firstCells, storeCells, loadCells, loadCellsFrom]
  simp only [ho, resolve, invoke, builtin, Sem.run_bind, Sem.run_pure, Result.andThen_ok, List.map_toArray, List.map_cons, List.map_nil, hs, hx, hr]
  exact hK _ _ (hz0 rfl)
 ·obtain ⟨ad, rfl, hnews⟩ := hsrc hm
  obtain ⟨i, hi, hz, hs', hb⟩ := info_parts hinfo
  refine wpList_append_own w hgd s x t ho w.heap.size e i z size bytes ht hi hz hs' hb hzs hsz (.slice none 0 0) 0 [] hs ⟨by simp, .inl ⟨rfl, rfl⟩⟩ ad m c news hx hl hnews h1 (by omega) (by simpa using hbytes) (Nat.le_refl _) fun v' w' ho' hgr _ => ?_
  have hb' : Below w.heap.size w w' := ⟨hgr.os, hgr.tape, hgr.output, hgr.size, fun k hk => hgr.block k hk (fun e' => by cases e')⟩
  rcases ho'.2 with ⟨_, h0⟩ | ⟨g, cap, cur, rfl, hbg, hgg, hnc, _, hcs, htk⟩
  ·omega
  ·have hn : 0 + m = m := by omega
   rw [hn] at hnc htk ⊢
   exact h hm g cap w' hbg ⟨by simpa using hl, hnc, cur, hgg, hcs, by simpa using htk⟩ hb'
end
theorem hidRowN {w : World} {N : Nat} {e : TypeId} {size : Nat} {ao : Option Addr} {n cap : Nat} {xs : List Value} (h : RowN w N e size ao n cap xs) : Hid (RowN w N e size ao n cap xs) := h
theorem hidBkOf {w : World} {N : Nat} {B : Bk} {a1 a2 a3 : Option Addr} {k1 k2 k3 : Nat} (h : BkOf w N B a1 a2 a3 k1 k2 k3) : Hid (BkOf w N B a1 a2 a3 k1 k2 k3) := h
set_option maxHeartbeats 1000000 in
theorem freshS_any (l : List Svc) (ao : Option Addr) (cap : Nat) (w : World) (hl : l.length ≤ 1048576) (h : SlS w ao l) :
  Calls Tryz.prog 124 #[.slice ao l.length cap] w fun e w' => ∃ bo k, e = .returned (.slice bo l.length k) ∧ RowN w' w.heap.size 48 13 bo l.length k (svcsV l) ∧ Below w.heap.size w w' := by
 have HSR : Hid _ := h.src
 clear h
 go_enter Tryz.func124, Tryz.ntmps124
 by_cases hn : l.length = 0
 ·have HN : Hid (svcsV l = []) := by unfold Hid; rw [List.length_eq_zero_iff.1 hn]; rfl
  have HL : Hid _ := hn
  go_wp2_with (at_builtin; refine wpList_append_nil rfl (.const (.slice none 0 0)) (.tmp 3) 30 rfl 48 _ 13 112 Tryz.underlying30 Tryz.infoSvcI rfl (by omega) rfl ao l.length cap (svcsV l) rfl (svcsV_len _) HSR.out (svcsV_one _) (by unfold maxLen; omega) (by omega) (fun _ => ?_) (fun hne => absurd HL.out hne))
  go_ret
  exact ⟨none, 0, by rw [HL.out]; rfl, .inl ⟨rfl, HL.out, rfl, HN.out⟩, Below.refl _ _⟩
 ·have HNE : Hid _ := hn
  clear hn
  go_wp2_with (at_builtin; refine wpList_append_nil rfl (.const (.slice none 0 0)) (.tmp 3) 30 rfl 48 _ 13 112 Tryz.underlying30 Tryz.infoSvcI rfl (by omega) rfl ao l.length cap (svcsV l) rfl (svcsV_len _) HSR.out (svcsV_one _) (by unfold maxLen; omega) (by omega) (fun h0 => absurd h0 HNE.out) (fun _ => ?_); intro g k w1 hg hr hb)
  go_ret
  exact ⟨some ⟨g, 0, none⟩, k, rfl, .inr ⟨g, rfl, hg, hr.out⟩, hb⟩
set_option maxHeartbeats 1000000 in
theorem freshC_any (l : List Cp) (ao : Option Addr) (cap : Nat) (w : World) (hl : l.length ≤ 1048576) (h : SlC w ao l) :
  Calls Tryz.prog 125 #[.slice ao l.length cap] w fun e w' => ∃ bo k, e = .returned (.slice bo l.length k) ∧ RowN w' w.heap.size 88 7 bo l.length k (cpsV l) ∧ Below w.heap.size w w' := by
 have HSR : Hid _ := h.src
 clear h
 go_enter Tryz.func125, Tryz.ntmps125
 by_cases hn : l.length = 0
 ·have HN : Hid (cpsV l = []) := by unfold Hid; rw [List.length_eq_zero_iff.1 hn]; rfl
  have HL : Hid _ := hn
  go_wp2_with (at_builtin; refine wpList_append_nil rfl (.const (.slice none 0 0)) (.tmp 3) 31 rfl 88 _ 7 72 Tryz.underlying31 Tryz.infoCpI rfl (by omega) rfl ao l.length cap (cpsV l) rfl (cpsV_len _) HSR.out (cpsV_one _) (by unfold maxLen; omega) (by omega) (fun _ => ?_) (fun hne => absurd HL.out hne))
  go_ret
  exact ⟨none, 0, by rw [HL.out]; rfl, .inl ⟨rfl, HL.out, rfl, HN.out⟩, Below.refl _ _⟩
 ·have HNE : Hid _ := hn
  clear hn
  go_wp2_with (at_builtin; refine wpList_append_nil rfl (.const (.slice none 0 0)) (.tmp 3) 31 rfl 88 _ 7 72 Tryz.underlying31 Tryz.infoCpI rfl (by omega) rfl ao l.length cap (cpsV l) rfl (cpsV_len _) HSR.out (cpsV_one _) (by unfold maxLen; omega) (by omega) (fun h0 => absurd h0 HNE.out) (fun _ => ?_); intro g k w1 hg hr hb)
  go_ret
  exact ⟨some ⟨g, 0, none⟩, k, rfl, .inr ⟨g, rfl, hg, hr.out⟩, hb⟩
set_option maxHeartbeats 1000000 in
theorem freshB_any (l : List Bt) (ao : Option Addr) (cap : Nat) (w : World) (hl : l.length ≤ 1048576) (h : SlB w ao l) :
  Calls Tryz.prog 126 #[.slice ao l.length cap] w fun e w' => ∃ bo k, e = .returned (.slice bo l.length k) ∧ RowN w' w.heap.size 86 2 bo l.length k (btsV l) ∧ Below w.heap.size w w' := by
 have HSR : Hid _ := h.src
 clear h
 go_enter Tryz.func126, Tryz.ntmps126
 by_cases hn : l.length = 0
 ·have HN : Hid (btsV l = []) := by unfold Hid; rw [List.length_eq_zero_iff.1 hn]; rfl
  have HL : Hid _ := hn
  go_wp2_with (at_builtin; refine wpList_append_nil rfl (.const (.slice none 0 0)) (.tmp 3) 32 rfl 86 _ 2 24 Tryz.underlying32 Tryz.infoBtI rfl (by omega) rfl ao l.length cap (btsV l) rfl (btsV_len _) HSR.out (btsV_one _) (by unfold maxLen; omega) (by omega) (fun _ => ?_) (fun hne => absurd HL.out hne))
  go_ret
  exact ⟨none, 0, by rw [HL.out]; rfl, .inl ⟨rfl, HL.out, rfl, HN.out⟩, Below.refl _ _⟩
 ·have HNE : Hid _ := hn
  clear hn
  go_wp2_with (at_builtin; refine wpList_append_nil rfl (.const (.slice none 0 0)) (.tmp 3) 32 rfl 86 _ 2 24 Tryz.underlying32 Tryz.infoBtI rfl (by omega) rfl ao l.length cap (btsV l) rfl (btsV_len _) HSR.out (btsV_one _) (by unfold maxLen; omega) (by omega) (fun h0 => absurd h0 HNE.out) (fun _ => ?_); intro g k w1 hg hr hb)
  go_ret
  exact ⟨some ⟨g, 0, none⟩, k, rfl, .inr ⟨g, rfl, hg, hr.out⟩, hb⟩
set_option maxRecDepth 100000 in
set_option maxHeartbeats 8000000 in
theorem freshBook_any (B : Bk) (a1 a2 a3 : Option Addr) (c1 c2 c3 : Nat) (w : World) (hS : B.small) (hB : BkAt w a1 a2 a3 B) :
  Calls Tryz.prog 89 #[.agg #[.int .i64 B.now, .slice a1 B.svcs.length c1, .slice a2 B.cps.length c2, .slice a3 B.bts.length c3]] w fun e w' => ∃ b1 d1 b2 d2 b3 d3, e = .returned (.agg #[.int .i64 B.now, .slice b1 B.svcs.length d1, .slice b2 B.cps.length d2, .slice b3 B.bts.length d3]) ∧ BkOf w' w.heap.size B b1 b2 b3 d1 d2 d3 ∧ Below w.heap.size w w' := by
 obtain ⟨hl1, hl2, hl3⟩ := hS
 obtain ⟨W0, hW0, t0, t1, hz0, hz0', hb0⟩ := two_newV w (.cells #[.int .i64 B.now, .slice a1 B.svcs.length c1, .slice a2 B.cps.length c2, .slice a3 B.bts.length c3] 34) (.cells #[.int .i64 0, .slice none 0 0, .slice none 0 0, .slice none 0 0] 34)
 have T0 : Hid _ := t0
 have T1 : Hid _ := t1
 clear t0 t1
 go_enter Tryz.func89, Tryz.ntmps89
 go_upto_region 1 with fail
 clear hW0
 refine wp_region_grows 12 (by kernel_rfl) (by kernel_rfl) ?_
 apply grow_eq
 ·intro V W K A hW hd hA hK
  simp only [putAll, List.getElem?_toArray, List.getElem?_cons_succ, List.getElem?_cons_zero, Option.bind_some, Act.put, List.setIfInBounds_toArray, List.set_cons_succ, List.set_cons_zero] at hA
  clear hd
  generalize V 0 = x0 at hA
  generalize V 1 = x1 at hA
  generalize V 2 = x2 at hA
  generalize V 3 = x3 at hA
  generalize V 4 = x4 at hA
  generalize V 5 = x5 at hA
  generalize V 6 = x6 at hA
  generalize V 7 = x7 at hA
  generalize V 8 = x8 at hA
  generalize V 9 = x9 at hA
  generalize V 10 = x10 at hA
  generalize V 11 = x11 at hA
  obtain rfl := hA
  go_wp2
  exact hK.out _ (Below.refl _ _)
 apply grow_eq
 ·intro V W K A hW hd hA hK
  have d0 : V 0 = _ := hd 0 (by kernel_rfl)
  simp only [putAll, List.getElem?_toArray, List.getElem?_cons_succ, List.getElem?_cons_zero, Option.bind_some, Act.put, List.setIfInBounds_toArray, List.set_cons_succ, List.set_cons_zero] at hA
  clear hd
  generalize V 0 = x0 at d0 hA
  generalize V 1 = x1 at hA
  generalize V 2 = x2 at hA
  generalize V 3 = x3 at hA
  generalize V 4 = x4 at hA
  generalize V 5 = x5 at hA
  generalize V 6 = x6 at hA
  generalize V 7 = x7 at hA
  generalize V 8 = x8 at hA
  generalize V 9 = x9 at hA
  generalize V 10 = x10 at hA
  generalize V 11 = x11 at hA
  subst d0
  obtain rfl := hA
  have e0 := blk_cell (below_blk hW T0.out (by omega)) 0 rfl
  go_wp2
  exact hK.out _ (Below.refl _ _)
 apply grow_eq
 ·intro V W K A hW hd hA hK
  simp only [putAll, List.getElem?_toArray, List.getElem?_cons_succ, List.getElem?_cons_zero, Option.bind_some, Act.put, List.setIfInBounds_toArray, List.set_cons_succ, List.set_cons_zero] at hA
  clear hd
  generalize V 0 = x0 at hA
  generalize V 1 = x1 at hA
  generalize V 2 = x2 at hA
  generalize V 3 = x3 at hA
  generalize V 4 = x4 at hA
  generalize V 5 = x5 at hA
  generalize V 6 = x6 at hA
  generalize V 7 = x7 at hA
  generalize V 8 = x8 at hA
  generalize V 9 = x9 at hA
  generalize V 10 = x10 at hA
  generalize V 11 = x11 at hA
  obtain rfl := hA
  go_wp2
  exact hK.out _ (Below.refl _ _)
 apply grow_eq
 ·intro V W K A hW hd hA hK
  have d2 : V 2 = _ := hd 2 (by kernel_rfl)
  simp only [putAll, List.getElem?_toArray, List.getElem?_cons_succ, List.getElem?_cons_zero, Option.bind_some, Act.put, List.setIfInBounds_toArray, List.set_cons_succ, List.set_cons_zero] at hA
  clear hd
  generalize V 0 = x0 at hA
  generalize V 1 = x1 at hA
  generalize V 2 = x2 at d2 hA
  generalize V 3 = x3 at hA
  generalize V 4 = x4 at hA
  generalize V 5 = x5 at hA
  generalize V 6 = x6 at hA
  generalize V 7 = x7 at hA
  generalize V 8 = x8 at hA
  generalize V 9 = x9 at hA
  generalize V 10 = x10 at hA
  generalize V 11 = x11 at hA
  subst d2
  obtain rfl := hA
  have e1 := blk_cell (below_blk hW T0.out (by omega)) 1 rfl
  go_wp2
  exact hK.out _ (Below.refl _ _)
 refine grow_op (fun v W => ∃ bo c, v = .slice bo B.svcs.length c ∧ RowN W W0.heap.size 48 13 bo B.svcs.length c (svcsV B.svcs)) (fun v W W2 ⟨bo, c, h1, h2⟩ hb => ⟨bo, c, h1, h2.below hb⟩) ?_ ?_
 ·intro V W K A hW hd hA hK
  have d3 : V 3 = _ := hd 3 (by kernel_rfl)
  simp only [putAll, List.getElem?_toArray, List.getElem?_cons_succ, List.getElem?_cons_zero, Option.bind_some, Act.put, List.setIfInBounds_toArray, List.set_cons_succ, List.set_cons_zero] at hA
  clear hd
  generalize V 0 = x0 at hA
  generalize V 1 = x1 at hA
  generalize V 2 = x2 at hA
  generalize V 3 = x3 at d3 hA
  generalize V 4 = x4 at hA
  generalize V 5 = x5 at hA
  generalize V 6 = x6 at hA
  generalize V 7 = x7 at hA
  generalize V 8 = x8 at hA
  generalize V 9 = x9 at hA
  generalize V 10 = x10 at hA
  generalize V 11 = x11 at hA
  subst d3
  obtain rfl := hA
  go_wp2_with fail
  refine (freshS_any B.svcs a1 c1 W hl1 (hB.1.below (hb0.trans (hW.mono hb0.size)))).mono ?_
  rintro e w2 ⟨bo, c, rfl, hr, hbq⟩
  have HRN := hidRowN hr
  have hsz := hW.size
  clear hr
  go_wp2
  exact hK.out _ _ hbq ⟨bo, c, rfl, HRN.out.mono hsz⟩
 apply grow_eq
 ·intro V W K A hW hd hA hK
  simp only [putAll, List.getElem?_toArray, List.getElem?_cons_succ, List.getElem?_cons_zero, Option.bind_some, Act.put, List.setIfInBounds_toArray, List.set_cons_succ, List.set_cons_zero] at hA
  clear hd
  generalize V 0 = x0 at hA
  generalize V 1 = x1 at hA
  generalize V 2 = x2 at hA
  generalize V 3 = x3 at hA
  generalize V 4 = x4 at hA
  generalize V 5 = x5 at hA
  generalize V 6 = x6 at hA
  generalize V 7 = x7 at hA
  generalize V 8 = x8 at hA
  generalize V 9 = x9 at hA
  generalize V 10 = x10 at hA
  generalize V 11 = x11 at hA
  obtain rfl := hA
  go_wp2
  exact hK.out _ (Below.refl _ _)
 apply grow_eq
 ·intro V W K A hW hd hA hK
  have d5 : V 5 = _ := hd 5 (by kernel_rfl)
  simp only [putAll, List.getElem?_toArray, List.getElem?_cons_succ, List.getElem?_cons_zero, Option.bind_some, Act.put, List.setIfInBounds_toArray, List.set_cons_succ, List.set_cons_zero] at hA
  clear hd
  generalize V 0 = x0 at hA
  generalize V 1 = x1 at hA
  generalize V 2 = x2 at hA
  generalize V 3 = x3 at hA
  generalize V 4 = x4 at hA
  generalize V 5 = x5 at d5 hA
  generalize V 6 = x6 at hA
  generalize V 7 = x7 at hA
  generalize V 8 = x8 at hA
  generalize V 9 = x9 at hA
  generalize V 10 = x10 at hA
  generalize V 11 = x11 at hA
  subst d5
  obtain rfl := hA
  have e2 := blk_cell (below_blk hW T0.out (by omega)) 2 rfl
  go_wp2
  exact hK.out _ (Below.refl _ _)
 refine grow_op (fun v W => ∃ bo c, v = .slice bo B.cps.length c ∧ RowN W W0.heap.size 88 7 bo B.cps.length c (cpsV B.cps)) (fun v W W2 ⟨bo, c, h1, h2⟩ hb => ⟨bo, c, h1, h2.below hb⟩) ?_ ?_
 ·intro V W K A hW hd hA hK
  have d6 : V 6 = _ := hd 6 (by kernel_rfl)
  simp only [putAll, List.getElem?_toArray, List.getElem?_cons_succ, List.getElem?_cons_zero, Option.bind_some, Act.put, List.setIfInBounds_toArray, List.set_cons_succ, List.set_cons_zero] at hA
  clear hd
  generalize V 0 = x0 at hA
  generalize V 1 = x1 at hA
  generalize V 2 = x2 at hA
  generalize V 3 = x3 at hA
  generalize V 4 = x4 at hA
  generalize V 5 = x5 at hA
  generalize V 6 = x6 at d6 hA
  generalize V 7 = x7 at hA
  generalize V 8 = x8 at hA
  generalize V 9 = x9 at hA
  generalize V 10 = x10 at hA
  generalize V 11 = x11 at hA
  subst d6
  obtain rfl := hA
  go_wp2_with fail
  refine (freshC_any B.cps a2 c2 W hl2 (hB.2.1.below (hb0.trans (hW.mono hb0.size)))).mono ?_
  rintro e w2 ⟨bo, c, rfl, hr, hbq⟩
  have HRN := hidRowN hr
  have hsz := hW.size
  clear hr
  go_wp2
  exact hK.out _ _ hbq ⟨bo, c, rfl, HRN.out.mono hsz⟩
 apply grow_eq
 ·intro V W K A hW hd hA hK
  simp only [putAll, List.getElem?_toArray, List.getElem?_cons_succ, List.getElem?_cons_zero, Option.bind_some, Act.put, List.setIfInBounds_toArray, List.set_cons_succ, List.set_cons_zero] at hA
  clear hd
  generalize V 0 = x0 at hA
  generalize V 1 = x1 at hA
  generalize V 2 = x2 at hA
  generalize V 3 = x3 at hA
  generalize V 4 = x4 at hA
  generalize V 5 = x5 at hA
  generalize V 6 = x6 at hA
  generalize V 7 = x7 at hA
  generalize V 8 = x8 at hA
  generalize V 9 = x9 at hA
  generalize V 10 = x10 at hA
  generalize V 11 = x11 at hA
  obtain rfl := hA
  go_wp2
  exact hK.out _ (Below.refl _ _)
 apply grow_eq
 ·intro V W K A hW hd hA hK
  have d8 : V 8 = _ := hd 8 (by kernel_rfl)
  simp only [putAll, List.getElem?_toArray, List.getElem?_cons_succ, List.getElem?_cons_zero, Option.bind_some, Act.put, List.setIfInBounds_toArray, List.set_cons_succ, List.set_cons_zero] at hA
  clear hd
  generalize V 0 = x0 at hA
  generalize V 1 = x1 at hA
  generalize V 2 = x2 at hA
  generalize V 3 = x3 at hA
  generalize V 4 = x4 at hA
  generalize V 5 = x5 at hA
  generalize V 6 = x6 at hA
  generalize V 7 = x7 at hA
  generalize V 8 = x8 at d8 hA
  generalize V 9 = x9 at hA
  generalize V 10 = x10 at hA
  generalize V 11 = x11 at hA
  subst d8
  obtain rfl := hA
  have e3 := blk_cell (below_blk hW T0.out (by omega)) 3 rfl
  go_wp2
  exact hK.out _ (Below.refl _ _)
 refine grow_op (fun v W => ∃ bo c, v = .slice bo B.bts.length c ∧ RowN W W0.heap.size 86 2 bo B.bts.length c (btsV B.bts)) (fun v W W2 ⟨bo, c, h1, h2⟩ hb => ⟨bo, c, h1, h2.below hb⟩) ?_ ?_
 ·intro V W K A hW hd hA hK
  have d9 : V 9 = _ := hd 9 (by kernel_rfl)
  simp only [putAll, List.getElem?_toArray, List.getElem?_cons_succ, List.getElem?_cons_zero, Option.bind_some, Act.put, List.setIfInBounds_toArray, List.set_cons_succ, List.set_cons_zero] at hA
  clear hd
  generalize V 0 = x0 at hA
  generalize V 1 = x1 at hA
  generalize V 2 = x2 at hA
  generalize V 3 = x3 at hA
  generalize V 4 = x4 at hA
  generalize V 5 = x5 at hA
  generalize V 6 = x6 at hA
  generalize V 7 = x7 at hA
  generalize V 8 = x8 at hA
  generalize V 9 = x9 at d9 hA
  generalize V 10 = x10 at hA
  generalize V 11 = x11 at hA
  subst d9
  obtain rfl := hA
  go_wp2_with fail
  refine (freshB_any B.bts a3 c3 W hl3 (hB.2.2.below (hb0.trans (hW.mono hb0.size)))).mono ?_
  rintro e w2 ⟨bo, c, rfl, hr, hbq⟩
  have HRN := hidRowN hr
  have hsz := hW.size
  clear hr
  go_wp2
  exact hK.out _ _ hbq ⟨bo, c, rfl, HRN.out.mono hsz⟩
 refine grow_op (fun v W => ∃ b1 d1 b2 d2 b3 d3, v = .agg #[.int .i64 B.now, .slice b1 B.svcs.length d1, .slice b2 B.cps.length d2, .slice b3 B.bts.length d3] ∧ BkOf W W0.heap.size B b1 b2 b3 d1 d2 d3) (fun v W W2 ⟨b1, d1, b2, d2, b3, d3, h, hr⟩ hb => ⟨b1, d1, b2, d2, b3, d3, h, hr.below hb⟩) ?_ ?_
 ·intro V W K A hW hd hA hK
  have d1 : V 1 = _ := hd 1 (by kernel_rfl)
  have d4 : (fun v W => ∃ bo c, v = .slice bo B.svcs.length c ∧ RowN W W0.heap.size 48 13 bo B.svcs.length c (svcsV B.svcs)) (V 4) W := hd 4 (by kernel_rfl)
  have d7 : (fun v W => ∃ bo c, v = .slice bo B.cps.length c ∧ RowN W W0.heap.size 88 7 bo B.cps.length c (cpsV B.cps)) (V 7) W := hd 7 (by kernel_rfl)
  have d10 : (fun v W => ∃ bo c, v = .slice bo B.bts.length c ∧ RowN W W0.heap.size 86 2 bo B.bts.length c (btsV B.bts)) (V 10) W := hd 10 (by kernel_rfl)
  simp only [putAll, List.getElem?_toArray, List.getElem?_cons_succ, List.getElem?_cons_zero, Option.bind_some, Act.put, List.setIfInBounds_toArray, List.set_cons_succ, List.set_cons_zero] at hA
  clear hd
  generalize V 0 = x0 at hA
  generalize V 1 = x1 at d1 hA
  generalize V 2 = x2 at hA
  generalize V 3 = x3 at hA
  generalize V 4 = x4 at d4 hA
  generalize V 5 = x5 at hA
  generalize V 6 = x6 at hA
  generalize V 7 = x7 at d7 hA
  generalize V 8 = x8 at hA
  generalize V 9 = x9 at hA
  generalize V 10 = x10 at d10 hA
  generalize V 11 = x11 at hA
  subst d1
  obtain rfl := hA
  obtain ⟨b1, d1, rfl, r1⟩ := d4
  obtain ⟨b2, d2, rfl, r2⟩ := d7
  obtain ⟨b3, d3, rfl, r3⟩ := d10
  have R1 := hidRowN r1
  have R2 := hidRowN r2
  have R3 := hidRowN r3
  clear r1 r2 r3
  go_wp2
  exact hK.out _ _ (Below.refl _ _) ⟨b1, d1, b2, d2, b3, d3, rfl, R1.out, R2.out, R3.out⟩
 intro V W A hW hS hA
 have d0 : V 0 = _ := hS 0 (by omega)
 have d1 : V 1 = _ := hS 1 (by omega)
 have d2 : V 2 = _ := hS 2 (by omega)
 have d3 : V 3 = _ := hS 3 (by omega)
 have d4 : (fun v W => ∃ bo c, v = .slice bo B.svcs.length c ∧ RowN W W0.heap.size 48 13 bo B.svcs.length c (svcsV B.svcs)) (V 4) W := hS 4 (by omega)
 have d5 : V 5 = _ := hS 5 (by omega)
 have d6 : V 6 = _ := hS 6 (by omega)
 have d7 : (fun v W => ∃ bo c, v = .slice bo B.cps.length c ∧ RowN W W0.heap.size 88 7 bo B.cps.length c (cpsV B.cps)) (V 7) W := hS 7 (by omega)
 have d8 : V 8 = _ := hS 8 (by omega)
 have d9 : V 9 = _ := hS 9 (by omega)
 have d10 : (fun v W => ∃ bo c, v = .slice bo B.bts.length c ∧ RowN W W0.heap.size 86 2 bo B.bts.length c (btsV B.bts)) (V 10) W := hS 10 (by omega)
 have d11 : (fun v W => ∃ b1 d1 b2 d2 b3 d3, v = .agg #[.int .i64 B.now, .slice b1 B.svcs.length d1, .slice b2 B.cps.length d2, .slice b3 B.bts.length d3] ∧ BkOf W W0.heap.size B b1 b2 b3 d1 d2 d3) (V 11) W := hS 11 (by omega)
 simp only [putAll, List.getElem?_toArray, List.getElem?_cons_succ, List.getElem?_cons_zero, Option.bind_some, Act.put, List.setIfInBounds_toArray, List.set_cons_succ, List.set_cons_zero] at hA
 clear hS
 generalize V 0 = x0 at d0 hA
 generalize V 1 = x1 at d1 hA
 generalize V 2 = x2 at d2 hA
 generalize V 3 = x3 at d3 hA
 generalize V 4 = x4 at d4 hA
 generalize V 5 = x5 at d5 hA
 generalize V 6 = x6 at d6 hA
 generalize V 7 = x7 at d7 hA
 generalize V 8 = x8 at d8 hA
 generalize V 9 = x9 at d9 hA
 generalize V 10 = x10 at d10 hA
 generalize V 11 = x11 at d11 hA
 subst d0
 subst d1
 subst d2
 subst d3
 subst d5
 subst d6
 subst d8
 subst d9
 obtain rfl := hA
 simp only [List.drop_succ_cons, List.drop_zero]
 obtain ⟨b1, e1, b2, e2, b3, e3, rfl, hr⟩ := d11
 have HR := hidBkOf hr
 have Z0 : Hid _ := below_blk hW T1.out (by omega)
 have hbW := hb0.trans (hW.mono hb0.size)
 clear hr
 go_wp2_with (refine wpList_store_only rfl 34 (.tmp 2) (.tmp 14) rfl (w.heap.size + 1) 0 #[.int .i64 B.now, .slice b1 B.svcs.length e1, .slice b2 B.cps.length e2, .slice b3 B.bts.length e3] rfl rfl 34 #[.int .i64 0, .slice none 0 0, .slice none 0 0, .slice none 0 0] Z0.out Tryz.infosBkX (Nat.le_of_ble_eq_true rfl) (by simp [Value.oneCell']) ?_; intro w2 hz on; have Z2 : Hid (w2.heap[w.heap.size + 1]? = some (.cells #[.int .i64 B.now, .slice b1 B.svcs.length e1, .slice b2 B.cps.length e2, .slice b3 B.bts.length e3] 34 (0, 0))) := hz; have HON : Hid (Only (w.heap.size + 1) W w2) := on; clear hz on)
 exact bodyPost_ret (v := .agg #[.int .i64 B.now, .slice b1 B.svcs.length e1, .slice b2 B.cps.length e2, .slice b3 B.bts.length e3]) (results_cell_row rfl _ _ (w.heap.size + 1) _ _ _ _ rfl Z2.out Tryz.underlying34 rfl Tryz.infosBkX) rfl ⟨b1, e1, b2, e2, b3, e3, rfl, (HR.out.only HON.out Z0.out (by decide) (by decide) (by decide)).mono (by omega), hbW.trans (HON.out.below.mono' (by omega))⟩
end Go.Proofs.YtbceafpodamnfabGreat

namespace Go.Proofs.YtbceafpodamnfabGreat
open Go.RowKit Go.Sort
end Go.Proofs.YtbceafpodamnfabGreat
