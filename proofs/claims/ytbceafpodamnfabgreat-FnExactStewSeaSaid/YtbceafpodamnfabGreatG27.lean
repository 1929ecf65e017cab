/-
  My own: Xj.
-/
import Derived.Test.YtbceafpodamnfabGreatG09
set_option linter.unusedVariables false
set_option linter.unusedSimpArgs false
namespace Go.Proofs.YtbceafpodamnfabGreat
open Go.RowKit Go.Sort
set_option maxRecDepth 100000 in
set_option maxHeartbeats 16000000 in
theorem l6Sea_fail (B : Bk) (sv : Svc) (nm : ByteArray) (num : Int) (fl : Bool) (N g1 g2 g3 k1 k2 k3 n1 n2 n3 : Nat) (w : World) (hS : B.small) (hn0 : 0 ≤ B.now) (hn9 : B.now < 1000000) (hN : N ≤ w.heap.size) (hB : BkRow w N g1 g2 g3 k1 k2 k3 B) (HN1 : Hid (B.svcs.length = n1)) (HN2 : Hid (B.cps.length = n2)) (HN3 : Hid (B.bts.length = n3)) :
  Calls Tryz.prog 43 #[.agg #[.int .i64 B.now, .slice (some ⟨g1, 0, none⟩) n1 k1, .slice (some ⟨g2, 0, none⟩) n2 k2, .slice (some ⟨g3, 0, none⟩) n3 k3], .agg #[.int .i64 3, .string sv.name, .int .i64 sv.version, .bool sv.gone, .int .i64 sv.image, .int .i64 sv.want, .int .i64 sv.down, .int .i64 sv.over, .int .i64 sv.next, .int .i64 sv.per, .int .i64 sv.least, .int .i64 sv.most, .int .i64 sv.load, .int .i64 sv.cool, .string nm, .int .i64 num, .bool fl]] w (SeaR g1 g2 w B ⟨3, sv, nm, num, fl⟩) := by
 have hSm := hS
 obtain ⟨hl1, hl2, hl3⟩ := hS
 rw [HN1.out] at hl1
 rw [HN2.out] at hl2
 rw [HN3.out] at hl3
 have hq1 := hB.n1
 have hq2 := hB.n2
 have hq3 := hB.n3
 have hg1 := hB.svcs.lt
 have hg2 := hB.cps.lt
 have hg3 := hB.bts.lt
 have hc1 := hB.svcs.2.1
 have hc2 := hB.cps.2.1
 have hc3 := hB.bts.2.1
 rw [HN1.out] at hc1
 rw [HN2.out] at hc2
 rw [HN3.out] at hc3
 have h12 := hB.ne12
 have h13 := hB.ne13
 have h23 := hB.ne23
 obtain ⟨W0, hW0, t0, t1, t2, hz0, hz0', hb0⟩ := three_newV w (.cells #[.int .i64 B.now, .slice (some ⟨g1, 0, none⟩) n1 k1, .slice (some ⟨g2, 0, none⟩) n2 k2, .slice (some ⟨g3, 0, none⟩) n3 k3] 34) (.cells #[.int .i64 3, .string sv.name, .int .i64 sv.version, .bool sv.gone, .int .i64 sv.image, .int .i64 sv.want, .int .i64 sv.down, .int .i64 sv.over, .int .i64 sv.next, .int .i64 sv.per, .int .i64 sv.least, .int .i64 sv.most, .int .i64 sv.load, .int .i64 sv.cool, .string nm, .int .i64 num, .bool fl] 50) (.cells #[.int .i64 0, .slice none 0 0, .slice none 0 0, .slice none 0 0] 34)
 have X0 : Hid _ := t0
 have E0 : Hid _ := t1
 have Z0 : Hid _ := t2
 have RS0 : Hid (RowIs W0 48 13 g1 n1 k1 (svcsV B.svcs)) := by have := hB.svcs.below hb0 hg1; (rw [HN1.out] at this); exact this
 have RC0 : Hid (RowIs W0 88 7 g2 n2 k2 (cpsV B.cps)) := by have := hB.cps.below hb0 hg2; (rw [HN2.out] at this); exact this
 have RB0 : Hid (RowIs W0 86 2 g3 n3 k3 (btsV B.bts)) := by have := hB.bts.below hb0 hg3; (rw [HN3.out] at this); exact this
 clear t0 t1 t2 hB
 go_enter Tryz.func43, Tryz.ntmps43
 go_upto_region 1 with fail
 clear hW0
 have e0 := blk_cell X0.out 0 rfl
 have e1 := blk_cell X0.out 1 rfl
 have e2 := blk_cell X0.out 2 rfl
 have e3 := blk_cell X0.out 3 rfl
 have f0 := blk_cell E0.out 0 rfl
 have f14 := blk_cell E0.out 14 rfl
 have f15 := blk_cell E0.out 15 rfl
 cases hat : atIdx (isC nm num) B.cps with
 | none =>
  have HC : Hid ((seaOf B ⟨3, sv, nm, num, fl⟩).2 = 3) := by unfold Hid; show (failB B nm num _).2 = 3; unfold failB; rw [hat]
  have hidx : idxC B.cps nm num = -1 := atIdx_none hat
  have hcall := l1Copy_any B nm num (some ⟨g1, 0, none⟩) (some ⟨g2, 0, none⟩) (some ⟨g3, 0, none⟩) k1 k2 k3 W0 hSm RC0.out.slC
  rw [HN1.out, HN2.out, HN3.out, hidx] at hcall
  clear hat hidx
  go_wp2_with fail
  refine hcall.mono ?_
  clear hcall
  rintro e w1 ⟨rfl, hbc⟩
  have hbw1 := hb0.trans (hbc.mono hb0.size)
  have X1 : Hid _ := below_blk hbc X0.out (by omega)
  have E1 : Hid _ := below_blk hbc E0.out (by omega)
  have Z1 : Hid _ := below_blk hbc Z0.out (by omega)
  have hz1 : w.heap.size + 1 + 1 < w1.heap.size := (Array.getElem?_eq_some_iff.1 Z1.out).1
  have hb1 : KeepBut g1 g2 w w1 := keepBut_of hbw1
  go_upto_region 11 with fail
  go_wp2_with (first
   | (refine wpList_load_row rfl 34 (.tmp 2) rfl w.heap.size rfl 34 #[.int .i64 B.now, .slice (some ⟨g1, 0, none⟩) n1 k1, .slice (some ⟨g2, 0, none⟩) n2 k2, .slice (some ⟨g3, 0, none⟩) n3 k3] (0, 0) _ X1.out Tryz.underlying34 rfl Tryz.infosBkX ?_)
   | (refine wpList_store_only rfl 34 (.tmp 4) (.tmp 58) rfl (w.heap.size + 1 + 1) 0 #[.int .i64 B.now, .slice (some ⟨g1, 0, none⟩) n1 k1, .slice (some ⟨g2, 0, none⟩) n2 k2, .slice (some ⟨g3, 0, none⟩) n3 k3] rfl rfl 34 #[.int .i64 0, .slice none 0 0, .slice none 0 0, .slice none 0 0] Z1.out Tryz.infosBkX (Nat.le_of_ble_eq_true rfl) (by simp [Value.oneCell']) ?_; intro w9 hz on; have Z9 : Hid (w9.heap[w.heap.size + 1 + 1]? = some (.cells #[.int .i64 B.now, .slice (some ⟨g1, 0, none⟩) n1 k1, .slice (some ⟨g2, 0, none⟩) n2 k2, .slice (some ⟨g3, 0, none⟩) n3 k3] 34 (0, 0))) := hz; have hb9 := hb1.only on (by omega); clear hz on))
  exact bodyPost_ret (v := .tuple #[.agg #[.int .i64 B.now, .slice (some ⟨g1, 0, none⟩) n1 k1, .slice (some ⟨g2, 0, none⟩) n2 k2, .slice (some ⟨g3, 0, none⟩) n3 k3], .int .i64 3]) (results_cell_tmp rfl _ _ (w.heap.size + 1 + 1) _ _ _ _ rfl Z9.out Tryz.underlying34 rfl Tryz.infosBkX _ rfl) rfl ⟨_, _, _, _, _, _, _, _, _, _, by rw [HC.out], fun h => absurd h (by rw [HC.out]; simp), hb9⟩
 | some p =>
  obtain ⟨i, c⟩ := p
  obtain ⟨hidx, hic, _⟩ := atIdx_some hat
  have HIC : Hid (B.cps[i]? = some c) := hic
  have hin : i < n2 := by have := (List.getElem?_eq_some_iff.1 hic).1; rw [HN2.out] at this; exact this
  have hlen7 : i * 7 + 7 ≤ n2 * 7 := by omega
  have hcall := l1Copy_any B nm num (some ⟨g1, 0, none⟩) (some ⟨g2, 0, none⟩) (some ⟨g3, 0, none⟩) k1 k2 k3 W0 hSm RC0.out.slC
  rw [HN1.out, HN2.out, HN3.out, show idxC B.cps nm num = (i : Int) from hidx] at hcall
  have HAT : Hid _ := hat
  clear hat hidx hic
  go_wp2_with fail
  refine hcall.mono ?_
  clear hcall
  rintro e w1 ⟨rfl, hbc⟩
  have hbw1 := hb0.trans (hbc.mono hb0.size)
  have X1 : Hid _ := below_blk hbc X0.out (by omega)
  have E1 : Hid _ := below_blk hbc E0.out (by omega)
  have Z1 : Hid _ := below_blk hbc Z0.out (by omega)
  have hz1 : w.heap.size + 1 + 1 < w1.heap.size := (Array.getElem?_eq_some_iff.1 Z1.out).1
  have hb1 : KeepBut g1 g2 w w1 := keepBut_of hbw1
  have RS1 : Hid (RowIs w1 48 13 g1 n1 k1 (svcsV B.svcs)) := RS0.out.below hbc (by omega)
  have RC1 : Hid (RowIs w1 88 7 g2 n2 k2 (cpsV B.cps)) := RC0.out.below hbc (by omega)
  have RB1 : Hid (RowIs w1 86 2 g3 n3 k3 (btsV B.bts)) := RB0.out.below hbc (by omega)
  clear e0 e1 e2 e3 f0 f14 f15 hb0 X0 Z0 E0 RS0 RC0 RB0 hbc hbw1 hz0 hz0'
  have e2 := blk_cell X1.out 2 rfl
  have y4 := RC1.out.cell (flat_at (c := Cp.cells) (n := 7) (fun _ => rfl) B.cps i c 4 (.int .i64 c.state) HIC.out rfl)
  by_cases hst : c.state = 3 ∨ c.state = 2
  ·have HSE : Hid (seaOf B ⟨3, sv, nm, num, fl⟩ = ({ B with now := B.now + 1, cps := B.cps.set i { c with state := 4, version := B.now + 1 } }, 0)) := by unfold Hid; show failB B nm num _ = _; unfold failB; rw [HAT.out]; simp only; rw [if_pos hst]
   have h32 : (c.state != 3) = false ∨ ((c.state != 3) = true ∧ (c.state != 2) = false) := by rcases hst with h | h <;> simp [h]
   clear hst
   rcases h32 with h3 | ⟨h3, h2⟩
   ·go_upto_region 12 with fail
    go_wp2_with (first
     | (refine wpList_row_one rfl 3 (.tmp 63) (.const (.int .i64 4)) rfl g2 _ (.int .i64 4) rfl rfl Tryz.infosIntX rfl rfl 88 7 n2 k2 _ RC1.out (by omega) ?_; intro w2 hr on; have RC2 : Hid (RowIs w2 88 7 g2 n2 k2 (cpsV (B.cps.set i { c with state := 4 }))) := (by have := hr.out; (try simp only [Nat.zero_add] at this); rw [show splice (cpsV B.cps) (i * 7 + 4) [.int .i64 4] = cpsV (B.cps.set i { c with state := 4 }) from flat_splice_one (c := Cp.cells) (n := 7) (fun _ => rfl) B.cps i 4 c { c with state := 4 } _ HIC.out (by omega) rfl] at this; exact this); have X2 : Hid _ := (on.other w.heap.size (by omega)).trans X1.out; have E2 : Hid _ := (on.other (w.heap.size + 1) (by omega)).trans E1.out; have Z2 : Hid _ := (on.other (w.heap.size + 1 + 1) (by omega)).trans Z1.out; have hb2 := hb1.only on (by omega); have RS2 : Hid (RowIs w2 48 13 g1 n1 k1 (svcsV B.svcs)) := RS1.out.blk (on.other g1 (by omega)); have RB2 : Hid (RowIs w2 86 2 g3 n3 k3 (btsV B.bts)) := RB1.out.blk (on.other g3 (by omega)); clear hr on e2; have e2 := blk_cell X2.out 2 rfl)
     | (refine wpList_row_one rfl 3 (.tmp 69) (.tmp 67) rfl g2 _ (.int .i64 (B.now + 1)) rfl rfl Tryz.infosIntX rfl rfl 88 7 n2 k2 _ RC2.out (by omega) ?_; intro w3 hr on; have RC3 : Hid (RowIs w3 88 7 g2 n2 k2 (cpsV (B.cps.set i { c with state := 4, version := B.now + 1 }))) := (by have := hr.out; (try simp only [Nat.zero_add] at this); rw [show splice (cpsV (B.cps.set i { c with state := 4 })) (i * 7 + 2) [.int .i64 (B.now + 1)] = cpsV ((B.cps.set i { c with state := 4 }).set i { c with state := 4, version := B.now + 1 }) from flat_splice_one (c := Cp.cells) (n := 7) (fun _ => rfl) (B.cps.set i { c with state := 4 }) i 2 { c with state := 4 } { c with state := 4, version := B.now + 1 } _ (by rw [List.getElem?_set_self (by rw [HN2.out]; exact hin)]) (by omega) rfl, List.set_set] at this; exact this); have X3 : Hid _ := (on.other w.heap.size (by omega)).trans X2.out; have E3 : Hid _ := (on.other (w.heap.size + 1) (by omega)).trans E2.out; have Z3 : Hid _ := (on.other (w.heap.size + 1 + 1) (by omega)).trans Z2.out; have hb3 := hb2.only on (by omega); have RS3 : Hid (RowIs w3 48 13 g1 n1 k1 (svcsV B.svcs)) := RS2.out.blk (on.other g1 (by omega)); have RB3 : Hid (RowIs w3 86 2 g3 n3 k3 (btsV B.bts)) := RB2.out.blk (on.other g3 (by omega)); clear hr on e2; have e2 := blk_cell X3.out 2 rfl)
     | (refine wpList_store_one rfl 3 (.tmp 159) (.tmp 158) rfl w.heap.size 0 (.int .i64 (B.now + 1)) rfl rfl Tryz.infosIntX rfl rfl 34 #[.int .i64 B.now, .slice (some ⟨g1, 0, none⟩) n1 k1, .slice (some ⟨g2, 0, none⟩) n2 k2, .slice (some ⟨g3, 0, none⟩) n3 k3] X3.out (Nat.le_of_ble_eq_true rfl) ?_; intro w4 hz on; have X4 : Hid (w4.heap[w.heap.size]? = some (.cells #[.int .i64 (B.now + 1), .slice (some ⟨g1, 0, none⟩) n1 k1, .slice (some ⟨g2, 0, none⟩) n2 k2, .slice (some ⟨g3, 0, none⟩) n3 k3] 34 (0, 0))) := hz; have Z4 : Hid _ := (on.other (w.heap.size + 1 + 1) (by omega)).trans Z3.out; have hb4 := hb3.only on (by omega); have RS4 : Hid (RowIs w4 48 13 g1 n1 k1 (svcsV B.svcs)) := RS3.out.blk (on.other g1 (by omega)); have RB4 : Hid (RowIs w4 86 2 g3 n3 k3 (btsV B.bts)) := RB3.out.blk (on.other g3 (by omega)); have RC4 : Hid (RowIs w4 88 7 g2 n2 k2 (cpsV (B.cps.set i { c with state := 4, version := B.now + 1 }))) := RC3.out.blk (on.other g2 (by omega)); clear hz on)
     | (refine wpList_load_row rfl 34 (.tmp 2) rfl w.heap.size rfl 34 #[.int .i64 (B.now + 1), .slice (some ⟨g1, 0, none⟩) n1 k1, .slice (some ⟨g2, 0, none⟩) n2 k2, .slice (some ⟨g3, 0, none⟩) n3 k3] (0, 0) _ X4.out Tryz.underlying34 rfl Tryz.infosBkX ?_)
     | (refine wpList_store_only rfl 34 (.tmp 4) (.tmp 160) rfl (w.heap.size + 1 + 1) 0 #[.int .i64 (B.now + 1), .slice (some ⟨g1, 0, none⟩) n1 k1, .slice (some ⟨g2, 0, none⟩) n2 k2, .slice (some ⟨g3, 0, none⟩) n3 k3] rfl rfl 34 #[.int .i64 0, .slice none 0 0, .slice none 0 0, .slice none 0 0] Z4.out Tryz.infosBkX (Nat.le_of_ble_eq_true rfl) (by simp [Value.oneCell']) ?_; intro w5 hz on; have Z5 : Hid (w5.heap[w.heap.size + 1 + 1]? = some (.cells #[.int .i64 (B.now + 1), .slice (some ⟨g1, 0, none⟩) n1 k1, .slice (some ⟨g2, 0, none⟩) n2 k2, .slice (some ⟨g3, 0, none⟩) n3 k3] 34 (0, 0))) := hz; have hb5 := hb4.only on (by omega); have RS5 : Hid (RowIs w5 48 13 g1 n1 k1 (svcsV B.svcs)) := RS4.out.blk (on.other g1 (by omega)); have RB5 : Hid (RowIs w5 86 2 g3 n3 k3 (btsV B.bts)) := RB4.out.blk (on.other g3 (by omega)); have RC5 : Hid (RowIs w5 88 7 g2 n2 k2 (cpsV (B.cps.set i { c with state := 4, version := B.now + 1 }))) := RC4.out.blk (on.other g2 (by omega)); clear hz on))
    exact bodyPost_ret (v := .tuple #[.agg #[.int .i64 (B.now + 1), .slice (some ⟨g1, 0, none⟩) n1 k1, .slice (some ⟨g2, 0, none⟩) n2 k2, .slice (some ⟨g3, 0, none⟩) n3 k3], .int .i64 0]) (results_cell_tmp rfl _ _ (w.heap.size + 1 + 1) _ _ _ _ rfl Z5.out Tryz.underlying34 rfl Tryz.infosBkX _ rfl) rfl (by exact ⟨_, _, _, _, _, _, _, _, _, _, by rw [HSE.out], fun _ => by rw [HSE.out]; exact ⟨rfl, HN1.out.symm, by simp [HN2.out], HN3.out.symm, RS5.out, RC5.out, RB5.out⟩, hb5⟩)
   ·go_upto_region 12 with fail
    go_wp2_with (first
     | (refine wpList_row_one rfl 3 (.tmp 63) (.const (.int .i64 4)) rfl g2 _ (.int .i64 4) rfl rfl Tryz.infosIntX rfl rfl 88 7 n2 k2 _ RC1.out (by omega) ?_; intro w2 hr on; have RC2 : Hid (RowIs w2 88 7 g2 n2 k2 (cpsV (B.cps.set i { c with state := 4 }))) := (by have := hr.out; (try simp only [Nat.zero_add] at this); rw [show splice (cpsV B.cps) (i * 7 + 4) [.int .i64 4] = cpsV (B.cps.set i { c with state := 4 }) from flat_splice_one (c := Cp.cells) (n := 7) (fun _ => rfl) B.cps i 4 c { c with state := 4 } _ HIC.out (by omega) rfl] at this; exact this); have X2 : Hid _ := (on.other w.heap.size (by omega)).trans X1.out; have E2 : Hid _ := (on.other (w.heap.size + 1) (by omega)).trans E1.out; have Z2 : Hid _ := (on.other (w.heap.size + 1 + 1) (by omega)).trans Z1.out; have hb2 := hb1.only on (by omega); have RS2 : Hid (RowIs w2 48 13 g1 n1 k1 (svcsV B.svcs)) := RS1.out.blk (on.other g1 (by omega)); have RB2 : Hid (RowIs w2 86 2 g3 n3 k3 (btsV B.bts)) := RB1.out.blk (on.other g3 (by omega)); clear hr on e2; have e2 := blk_cell X2.out 2 rfl)
     | (refine wpList_row_one rfl 3 (.tmp 69) (.tmp 67) rfl g2 _ (.int .i64 (B.now + 1)) rfl rfl Tryz.infosIntX rfl rfl 88 7 n2 k2 _ RC2.out (by omega) ?_; intro w3 hr on; have RC3 : Hid (RowIs w3 88 7 g2 n2 k2 (cpsV (B.cps.set i { c with state := 4, version := B.now + 1 }))) := (by have := hr.out; (try simp only [Nat.zero_add] at this); rw [show splice (cpsV (B.cps.set i { c with state := 4 })) (i * 7 + 2) [.int .i64 (B.now + 1)] = cpsV ((B.cps.set i { c with state := 4 }).set i { c with state := 4, version := B.now + 1 }) from flat_splice_one (c := Cp.cells) (n := 7) (fun _ => rfl) (B.cps.set i { c with state := 4 }) i 2 { c with state := 4 } { c with state := 4, version := B.now + 1 } _ (by rw [List.getElem?_set_self (by rw [HN2.out]; exact hin)]) (by omega) rfl, List.set_set] at this; exact this); have X3 : Hid _ := (on.other w.heap.size (by omega)).trans X2.out; have E3 : Hid _ := (on.other (w.heap.size + 1) (by omega)).trans E2.out; have Z3 : Hid _ := (on.other (w.heap.size + 1 + 1) (by omega)).trans Z2.out; have hb3 := hb2.only on (by omega); have RS3 : Hid (RowIs w3 48 13 g1 n1 k1 (svcsV B.svcs)) := RS2.out.blk (on.other g1 (by omega)); have RB3 : Hid (RowIs w3 86 2 g3 n3 k3 (btsV B.bts)) := RB2.out.blk (on.other g3 (by omega)); clear hr on e2; have e2 := blk_cell X3.out 2 rfl)
     | (refine wpList_store_one rfl 3 (.tmp 159) (.tmp 158) rfl w.heap.size 0 (.int .i64 (B.now + 1)) rfl rfl Tryz.infosIntX rfl rfl 34 #[.int .i64 B.now, .slice (some ⟨g1, 0, none⟩) n1 k1, .slice (some ⟨g2, 0, none⟩) n2 k2, .slice (some ⟨g3, 0, none⟩) n3 k3] X3.out (Nat.le_of_ble_eq_true rfl) ?_; intro w4 hz on; have X4 : Hid (w4.heap[w.heap.size]? = some (.cells #[.int .i64 (B.now + 1), .slice (some ⟨g1, 0, none⟩) n1 k1, .slice (some ⟨g2, 0, none⟩) n2 k2, .slice (some ⟨g3, 0, none⟩) n3 k3] 34 (0, 0))) := hz; have Z4 : Hid _ := (on.other (w.heap.size + 1 + 1) (by omega)).trans Z3.out; have hb4 := hb3.only on (by omega); have RS4 : Hid (RowIs w4 48 13 g1 n1 k1 (svcsV B.svcs)) := RS3.out.blk (on.other g1 (by omega)); have RB4 : Hid (RowIs w4 86 2 g3 n3 k3 (btsV B.bts)) := RB3.out.blk (on.other g3 (by omega)); have RC4 : Hid (RowIs w4 88 7 g2 n2 k2 (cpsV (B.cps.set i { c with state := 4, version := B.now + 1 }))) := RC3.out.blk (on.other g2 (by omega)); clear hz on)
     | (refine wpList_load_row rfl 34 (.tmp 2) rfl w.heap.size rfl 34 #[.int .i64 (B.now + 1), .slice (some ⟨g1, 0, none⟩) n1 k1, .slice (some ⟨g2, 0, none⟩) n2 k2, .slice (some ⟨g3, 0, none⟩) n3 k3] (0, 0) _ X4.out Tryz.underlying34 rfl Tryz.infosBkX ?_)
     | (refine wpList_store_only rfl 34 (.tmp 4) (.tmp 160) rfl (w.heap.size + 1 + 1) 0 #[.int .i64 (B.now + 1), .slice (some ⟨g1, 0, none⟩) n1 k1, .slice (some ⟨g2, 0, none⟩) n2 k2, .slice (some ⟨g3, 0, none⟩) n3 k3] rfl rfl 34 #[.int .i64 0, .slice none 0 0, .slice none 0 0, .slice none 0 0] Z4.out Tryz.infosBkX (Nat.le_of_ble_eq_true rfl) (by simp [Value.oneCell']) ?_; intro w5 hz on; have Z5 : Hid (w5.heap[w.heap.size + 1 + 1]? = some (.cells #[.int .i64 (B.now + 1), .slice (some ⟨g1, 0, none⟩) n1 k1, .slice (some ⟨g2, 0, none⟩) n2 k2, .slice (some ⟨g3, 0, none⟩) n3 k3] 34 (0, 0))) := hz; have hb5 := hb4.only on (by omega); have RS5 : Hid (RowIs w5 48 13 g1 n1 k1 (svcsV B.svcs)) := RS4.out.blk (on.other g1 (by omega)); have RB5 : Hid (RowIs w5 86 2 g3 n3 k3 (btsV B.bts)) := RB4.out.blk (on.other g3 (by omega)); have RC5 : Hid (RowIs w5 88 7 g2 n2 k2 (cpsV (B.cps.set i { c with state := 4, version := B.now + 1 }))) := RC4.out.blk (on.other g2 (by omega)); clear hz on))
    exact bodyPost_ret (v := .tuple #[.agg #[.int .i64 (B.now + 1), .slice (some ⟨g1, 0, none⟩) n1 k1, .slice (some ⟨g2, 0, none⟩) n2 k2, .slice (some ⟨g3, 0, none⟩) n3 k3], .int .i64 0]) (results_cell_tmp rfl _ _ (w.heap.size + 1 + 1) _ _ _ _ rfl Z5.out Tryz.underlying34 rfl Tryz.infosBkX _ rfl) rfl (by exact ⟨_, _, _, _, _, _, _, _, _, _, by rw [HSE.out], fun _ => by rw [HSE.out]; exact ⟨rfl, HN1.out.symm, by simp [HN2.out], HN3.out.symm, RS5.out, RC5.out, RB5.out⟩, hb5⟩)
  ·have HC : Hid ((seaOf B ⟨3, sv, nm, num, fl⟩).2 = 3) := by unfold Hid; show (failB B nm num _).2 = 3; unfold failB; rw [HAT.out]; simp only; rw [if_neg hst]
   have h3 : (c.state != 3) = true := by simp only [bne_iff_ne]; exact fun h => hst (.inl h)
   have h2 : (c.state != 2) = true := by simp only [bne_iff_ne]; exact fun h => hst (.inr h)
   clear hst
   go_upto_region 11 with fail
   go_wp2_with (first
    | (refine wpList_load_row rfl 34 (.tmp 2) rfl w.heap.size rfl 34 #[.int .i64 B.now, .slice (some ⟨g1, 0, none⟩) n1 k1, .slice (some ⟨g2, 0, none⟩) n2 k2, .slice (some ⟨g3, 0, none⟩) n3 k3] (0, 0) _ X1.out Tryz.underlying34 rfl Tryz.infosBkX ?_)
    | (refine wpList_store_only rfl 34 (.tmp 4) (.tmp 58) rfl (w.heap.size + 1 + 1) 0 #[.int .i64 B.now, .slice (some ⟨g1, 0, none⟩) n1 k1, .slice (some ⟨g2, 0, none⟩) n2 k2, .slice (some ⟨g3, 0, none⟩) n3 k3] rfl rfl 34 #[.int .i64 0, .slice none 0 0, .slice none 0 0, .slice none 0 0] Z1.out Tryz.infosBkX (Nat.le_of_ble_eq_true rfl) (by simp [Value.oneCell']) ?_; intro w9 hz on; have Z9 : Hid (w9.heap[w.heap.size + 1 + 1]? = some (.cells #[.int .i64 B.now, .slice (some ⟨g1, 0, none⟩) n1 k1, .slice (some ⟨g2, 0, none⟩) n2 k2, .slice (some ⟨g3, 0, none⟩) n3 k3] 34 (0, 0))) := hz; have hb9 := hb1.only on (by omega); clear hz on))
   exact bodyPost_ret (v := .tuple #[.agg #[.int .i64 B.now, .slice (some ⟨g1, 0, none⟩) n1 k1, .slice (some ⟨g2, 0, none⟩) n2 k2, .slice (some ⟨g3, 0, none⟩) n3 k3], .int .i64 3]) (results_cell_tmp rfl _ _ (w.heap.size + 1 + 1) _ _ _ _ rfl Z9.out Tryz.underlying34 rfl Tryz.infosBkX _ rfl) rfl ⟨_, _, _, _, _, _, _, _, _, _, by rw [HC.out], fun h => absurd h (by rw [HC.out]; simp), hb9⟩
set_option maxRecDepth 100000 in
set_option maxHeartbeats 16000000 in
theorem l6Sea_load (B : Bk) (sv : Svc) (nm : ByteArray) (num : Int) (fl : Bool) (N g1 g2 g3 k1 k2 k3 n1 n2 n3 : Nat) (w : World) (hS : B.small) (hn0 : 0 ≤ B.now) (hn9 : B.now < 1000000) (hN : N ≤ w.heap.size) (hB : BkRow w N g1 g2 g3 k1 k2 k3 B) (HN1 : Hid (B.svcs.length = n1)) (HN2 : Hid (B.cps.length = n2)) (HN3 : Hid (B.bts.length = n3)) :
  Calls Tryz.prog 43 #[.agg #[.int .i64 B.now, .slice (some ⟨g1, 0, none⟩) n1 k1, .slice (some ⟨g2, 0, none⟩) n2 k2, .slice (some ⟨g3, 0, none⟩) n3 k3], .agg #[.int .i64 6, .string sv.name, .int .i64 sv.version, .bool sv.gone, .int .i64 sv.image, .int .i64 sv.want, .int .i64 sv.down, .int .i64 sv.over, .int .i64 sv.next, .int .i64 sv.per, .int .i64 sv.least, .int .i64 sv.most, .int .i64 sv.load, .int .i64 sv.cool, .string nm, .int .i64 num, .bool fl]] w (SeaR g1 g2 w B ⟨6, sv, nm, num, fl⟩) := by
 have hSm := hS
 obtain ⟨hl1, hl2, hl3⟩ := hS
 rw [HN1.out] at hl1
 rw [HN2.out] at hl2
 rw [HN3.out] at hl3
 have hq1 := hB.n1
 have hq2 := hB.n2
 have hq3 := hB.n3
 have hg1 := hB.svcs.lt
 have hg2 := hB.cps.lt
 have hg3 := hB.bts.lt
 have hc1 := hB.svcs.2.1
 have hc2 := hB.cps.2.1
 have hc3 := hB.bts.2.1
 rw [HN1.out] at hc1
 rw [HN2.out] at hc2
 rw [HN3.out] at hc3
 have h12 := hB.ne12
 have h13 := hB.ne13
 have h23 := hB.ne23
 obtain ⟨W0, hW0, t0, t1, t2, hz0, hz0', hb0⟩ := three_newV w (.cells #[.int .i64 B.now, .slice (some ⟨g1, 0, none⟩) n1 k1, .slice (some ⟨g2, 0, none⟩) n2 k2, .slice (some ⟨g3, 0, none⟩) n3 k3] 34) (.cells #[.int .i64 6, .string sv.name, .int .i64 sv.version, .bool sv.gone, .int .i64 sv.image, .int .i64 sv.want, .int .i64 sv.down, .int .i64 sv.over, .int .i64 sv.next, .int .i64 sv.per, .int .i64 sv.least, .int .i64 sv.most, .int .i64 sv.load, .int .i64 sv.cool, .string nm, .int .i64 num, .bool fl] 50) (.cells #[.int .i64 0, .slice none 0 0, .slice none 0 0, .slice none 0 0] 34)
 have X0 : Hid _ := t0
 have E0 : Hid _ := t1
 have Z0 : Hid _ := t2
 have RS0 : Hid (RowIs W0 48 13 g1 n1 k1 (svcsV B.svcs)) := by have := hB.svcs.below hb0 hg1; (rw [HN1.out] at this); exact this
 have RC0 : Hid (RowIs W0 88 7 g2 n2 k2 (cpsV B.cps)) := by have := hB.cps.below hb0 hg2; (rw [HN2.out] at this); exact this
 have RB0 : Hid (RowIs W0 86 2 g3 n3 k3 (btsV B.bts)) := by have := hB.bts.below hb0 hg3; (rw [HN3.out] at this); exact this
 clear t0 t1 t2 hB
 go_enter Tryz.func43, Tryz.ntmps43
 go_upto_region 1 with fail
 clear hW0
 have e0 := blk_cell X0.out 0 rfl
 have e1 := blk_cell X0.out 1 rfl
 have e2 := blk_cell X0.out 2 rfl
 have e3 := blk_cell X0.out 3 rfl
 have f0 := blk_cell E0.out 0 rfl
 have f14 := blk_cell E0.out 14 rfl
 have f15 := blk_cell E0.out 15 rfl
 cases hat : atIdx (fun s : Svc => s.name.toList == nm.toList) B.svcs with
 | none =>
  have HC : Hid ((seaOf B ⟨6, sv, nm, num, fl⟩).2 = 3) := by unfold Hid; show (loadB B nm num _).2 = 3; unfold loadB; rw [hat]
  have hidx : idxS B.svcs nm = -1 := atIdx_none hat
  have hcall := l1Service_any B nm (some ⟨g1, 0, none⟩) (some ⟨g2, 0, none⟩) (some ⟨g3, 0, none⟩) k1 k2 k3 W0 hSm RS0.out.slS
  rw [HN1.out, HN2.out, HN3.out, hidx] at hcall
  clear hat hidx
  go_wp2_with fail
  refine hcall.mono ?_
  clear hcall
  rintro e w1 ⟨rfl, hbc⟩
  have hbw1 := hb0.trans (hbc.mono hb0.size)
  have X1 : Hid _ := below_blk hbc X0.out (by omega)
  have E1 : Hid _ := below_blk hbc E0.out (by omega)
  have Z1 : Hid _ := below_blk hbc Z0.out (by omega)
  have hz1 : w.heap.size + 1 + 1 < w1.heap.size := (Array.getElem?_eq_some_iff.1 Z1.out).1
  have hb1 : KeepBut g1 g2 w w1 := keepBut_of hbw1
  go_upto_region 31 with fail
  go_wp2_with (first
   | (refine wpList_load_row rfl 34 (.tmp 2) rfl w.heap.size rfl 34 #[.int .i64 B.now, .slice (some ⟨g1, 0, none⟩) n1 k1, .slice (some ⟨g2, 0, none⟩) n2 k2, .slice (some ⟨g3, 0, none⟩) n3 k3] (0, 0) _ X1.out Tryz.underlying34 rfl Tryz.infosBkX ?_)
   | (refine wpList_store_only rfl 34 (.tmp 4) (.tmp 144) rfl (w.heap.size + 1 + 1) 0 #[.int .i64 B.now, .slice (some ⟨g1, 0, none⟩) n1 k1, .slice (some ⟨g2, 0, none⟩) n2 k2, .slice (some ⟨g3, 0, none⟩) n3 k3] rfl rfl 34 #[.int .i64 0, .slice none 0 0, .slice none 0 0, .slice none 0 0] Z1.out Tryz.infosBkX (Nat.le_of_ble_eq_true rfl) (by simp [Value.oneCell']) ?_; intro w9 hz on; have Z9 : Hid (w9.heap[w.heap.size + 1 + 1]? = some (.cells #[.int .i64 B.now, .slice (some ⟨g1, 0, none⟩) n1 k1, .slice (some ⟨g2, 0, none⟩) n2 k2, .slice (some ⟨g3, 0, none⟩) n3 k3] 34 (0, 0))) := hz; have hb9 := hb1.only on (by omega); clear hz on))
  exact bodyPost_ret (v := .tuple #[.agg #[.int .i64 B.now, .slice (some ⟨g1, 0, none⟩) n1 k1, .slice (some ⟨g2, 0, none⟩) n2 k2, .slice (some ⟨g3, 0, none⟩) n3 k3], .int .i64 3]) (results_cell_tmp rfl _ _ (w.heap.size + 1 + 1) _ _ _ _ rfl Z9.out Tryz.underlying34 rfl Tryz.infosBkX _ rfl) rfl ⟨_, _, _, _, _, _, _, _, _, _, by rw [HC.out], fun h => absurd h (by rw [HC.out]; simp), hb9⟩
 | some p =>
  obtain ⟨i, c⟩ := p
  obtain ⟨hidx, hic, _⟩ := atIdx_some hat
  have HIC : Hid (B.svcs[i]? = some c) := hic
  have hin : i < n1 := by have := (List.getElem?_eq_some_iff.1 hic).1; rw [HN1.out] at this; exact this
  have hlen13 : i * 13 + 13 ≤ n1 * 13 := by omega
  have hcall := l1Service_any B nm (some ⟨g1, 0, none⟩) (some ⟨g2, 0, none⟩) (some ⟨g3, 0, none⟩) k1 k2 k3 W0 hSm RS0.out.slS
  rw [HN1.out, HN2.out, HN3.out, show idxS B.svcs nm = (i : Int) from hidx] at hcall
  have HAT : Hid _ := hat
  clear hat hidx hic
  go_wp2_with fail
  refine hcall.mono ?_
  clear hcall
  rintro e w1 ⟨rfl, hbc⟩
  have hbw1 := hb0.trans (hbc.mono hb0.size)
  have X1 : Hid _ := below_blk hbc X0.out (by omega)
  have E1 : Hid _ := below_blk hbc E0.out (by omega)
  have Z1 : Hid _ := below_blk hbc Z0.out (by omega)
  have hz1 : w.heap.size + 1 + 1 < w1.heap.size := (Array.getElem?_eq_some_iff.1 Z1.out).1
  have hb1 : KeepBut g1 g2 w w1 := keepBut_of hbw1
  have RS1 : Hid (RowIs w1 48 13 g1 n1 k1 (svcsV B.svcs)) := RS0.out.below hbc (by omega)
  have RC1 : Hid (RowIs w1 88 7 g2 n2 k2 (cpsV B.cps)) := RC0.out.below hbc (by omega)
  have RB1 : Hid (RowIs w1 86 2 g3 n3 k3 (btsV B.bts)) := RB0.out.below hbc (by omega)
  clear e0 e1 e2 e3 f0 f14 f15 hb0 X0 Z0 E0 RS0 RC0 RB0 hbc hbw1 hz0 hz0'
  have e1 := blk_cell X1.out 1 rfl
  have f15 := blk_cell E1.out 15 rfl
  have y8 := RS1.out.cell (flat_at (c := Svc.cells) (n := 13) (fun _ => rfl) B.svcs i c 8 (.int .i64 c.per) HIC.out rfl)
  cases hst : (c.per == 0)
  ·have HSE : Hid (seaOf B ⟨6, sv, nm, num, fl⟩ = ({ B with now := B.now + 1, svcs := B.svcs.set i { c with load := num, version := B.now + 1 } }, 0)) := by unfold Hid; show loadB B nm num _ = _; unfold loadB; rw [HAT.out]; simp only; rw [if_neg (by simpa using hst)]
   go_upto_region 32 with fail
   go_wp2_with (first
    | (refine wpList_row_one rfl 3 (.tmp 151) (.tmp 149) rfl g1 _ (.int .i64 num) rfl rfl Tryz.infosIntX rfl rfl 48 13 n1 k1 _ RS1.out (by omega) ?_; intro w2 hr on; have RS2 : Hid (RowIs w2 48 13 g1 n1 k1 (svcsV (B.svcs.set i { c with load := num }))) := (by have := hr.out; (try simp only [Nat.zero_add] at this); rw [show splice (svcsV B.svcs) (i * 13 + 11) [.int .i64 num] = svcsV (B.svcs.set i { c with load := num }) from flat_splice_one (c := Svc.cells) (n := 13) (fun _ => rfl) B.svcs i 11 c { c with load := num } _ HIC.out (by omega) rfl] at this; exact this); have X2 : Hid _ := (on.other w.heap.size (by omega)).trans X1.out; have E2 : Hid _ := (on.other (w.heap.size + 1) (by omega)).trans E1.out; have Z2 : Hid _ := (on.other (w.heap.size + 1 + 1) (by omega)).trans Z1.out; have hb2 := hb1.only on (by omega); have RC2 : Hid (RowIs w2 88 7 g2 n2 k2 (cpsV B.cps)) := RC1.out.blk (on.other g2 (by omega)); have RB2 : Hid (RowIs w2 86 2 g3 n3 k3 (btsV B.bts)) := RB1.out.blk (on.other g3 (by omega)); clear hr on e1; have e1 := blk_cell X2.out 1 rfl)
    | (refine wpList_row_one rfl 3 (.tmp 157) (.tmp 155) rfl g1 _ (.int .i64 (B.now + 1)) rfl rfl Tryz.infosIntX rfl rfl 48 13 n1 k1 _ RS2.out (by omega) ?_; intro w3 hr on; have RS3 : Hid (RowIs w3 48 13 g1 n1 k1 (svcsV (B.svcs.set i { c with load := num, version := B.now + 1 }))) := (by have := hr.out; (try simp only [Nat.zero_add] at this); rw [show splice (svcsV (B.svcs.set i { c with load := num })) (i * 13 + 1) [.int .i64 (B.now + 1)] = svcsV ((B.svcs.set i { c with load := num }).set i { c with load := num, version := B.now + 1 }) from flat_splice_one (c := Svc.cells) (n := 13) (fun _ => rfl) (B.svcs.set i { c with load := num }) i 1 { c with load := num } { c with load := num, version := B.now + 1 } _ (by rw [List.getElem?_set_self (by rw [HN1.out]; exact hin)]) (by omega) rfl, List.set_set] at this; exact this); have X3 : Hid _ := (on.other w.heap.size (by omega)).trans X2.out; have E3 : Hid _ := (on.other (w.heap.size + 1) (by omega)).trans E2.out; have Z3 : Hid _ := (on.other (w.heap.size + 1 + 1) (by omega)).trans Z2.out; have hb3 := hb2.only on (by omega); have RC3 : Hid (RowIs w3 88 7 g2 n2 k2 (cpsV B.cps)) := RC2.out.blk (on.other g2 (by omega)); have RB3 : Hid (RowIs w3 86 2 g3 n3 k3 (btsV B.bts)) := RB2.out.blk (on.other g3 (by omega)); clear hr on e1; have e1 := blk_cell X3.out 1 rfl)
    | (refine wpList_store_one rfl 3 (.tmp 159) (.tmp 158) rfl w.heap.size 0 (.int .i64 (B.now + 1)) rfl rfl Tryz.infosIntX rfl rfl 34 #[.int .i64 B.now, .slice (some ⟨g1, 0, none⟩) n1 k1, .slice (some ⟨g2, 0, none⟩) n2 k2, .slice (some ⟨g3, 0, none⟩) n3 k3] X3.out (Nat.le_of_ble_eq_true rfl) ?_; intro w4 hz on; have X4 : Hid (w4.heap[w.heap.size]? = some (.cells #[.int .i64 (B.now + 1), .slice (some ⟨g1, 0, none⟩) n1 k1, .slice (some ⟨g2, 0, none⟩) n2 k2, .slice (some ⟨g3, 0, none⟩) n3 k3] 34 (0, 0))) := hz; have Z4 : Hid _ := (on.other (w.heap.size + 1 + 1) (by omega)).trans Z3.out; have hb4 := hb3.only on (by omega); have RC4 : Hid (RowIs w4 88 7 g2 n2 k2 (cpsV B.cps)) := RC3.out.blk (on.other g2 (by omega)); have RB4 : Hid (RowIs w4 86 2 g3 n3 k3 (btsV B.bts)) := RB3.out.blk (on.other g3 (by omega)); have RS4 : Hid (RowIs w4 48 13 g1 n1 k1 (svcsV (B.svcs.set i { c with load := num, version := B.now + 1 }))) := RS3.out.blk (on.other g1 (by omega)); clear hz on)
    | (refine wpList_load_row rfl 34 (.tmp 2) rfl w.heap.size rfl 34 #[.int .i64 (B.now + 1), .slice (some ⟨g1, 0, none⟩) n1 k1, .slice (some ⟨g2, 0, none⟩) n2 k2, .slice (some ⟨g3, 0, none⟩) n3 k3] (0, 0) _ X4.out Tryz.underlying34 rfl Tryz.infosBkX ?_)
    | (refine wpList_store_only rfl 34 (.tmp 4) (.tmp 160) rfl (w.heap.size + 1 + 1) 0 #[.int .i64 (B.now + 1), .slice (some ⟨g1, 0, none⟩) n1 k1, .slice (some ⟨g2, 0, none⟩) n2 k2, .slice (some ⟨g3, 0, none⟩) n3 k3] rfl rfl 34 #[.int .i64 0, .slice none 0 0, .slice none 0 0, .slice none 0 0] Z4.out Tryz.infosBkX (Nat.le_of_ble_eq_true rfl) (by simp [Value.oneCell']) ?_; intro w5 hz on; have Z5 : Hid (w5.heap[w.heap.size + 1 + 1]? = some (.cells #[.int .i64 (B.now + 1), .slice (some ⟨g1, 0, none⟩) n1 k1, .slice (some ⟨g2, 0, none⟩) n2 k2, .slice (some ⟨g3, 0, none⟩) n3 k3] 34 (0, 0))) := hz; have hb5 := hb4.only on (by omega); have RC5 : Hid (RowIs w5 88 7 g2 n2 k2 (cpsV B.cps)) := RC4.out.blk (on.other g2 (by omega)); have RB5 : Hid (RowIs w5 86 2 g3 n3 k3 (btsV B.bts)) := RB4.out.blk (on.other g3 (by omega)); have RS5 : Hid (RowIs w5 48 13 g1 n1 k1 (svcsV (B.svcs.set i { c with load := num, version := B.now + 1 }))) := RS4.out.blk (on.other g1 (by omega)); clear hz on))
   exact bodyPost_ret (v := .tuple #[.agg #[.int .i64 (B.now + 1), .slice (some ⟨g1, 0, none⟩) n1 k1, .slice (some ⟨g2, 0, none⟩) n2 k2, .slice (some ⟨g3, 0, none⟩) n3 k3], .int .i64 0]) (results_cell_tmp rfl _ _ (w.heap.size + 1 + 1) _ _ _ _ rfl Z5.out Tryz.underlying34 rfl Tryz.infosBkX _ rfl) rfl ⟨_, _, _, _, _, _, _, _, _, _, by rw [HSE.out], fun _ => by rw [HSE.out]; exact ⟨rfl, by simp [HN1.out], HN2.out.symm, HN3.out.symm, RS5.out, RC5.out, RB5.out⟩, hb5⟩
  ·have HC : Hid ((seaOf B ⟨6, sv, nm, num, fl⟩).2 = 3) := by unfold Hid; show (loadB B nm num _).2 = 3; unfold loadB; rw [HAT.out]; simp only; rw [if_pos (by simpa using hst)]
   go_upto_region 31 with fail
   go_wp2_with (first
    | (refine wpList_load_row rfl 34 (.tmp 2) rfl w.heap.size rfl 34 #[.int .i64 B.now, .slice (some ⟨g1, 0, none⟩) n1 k1, .slice (some ⟨g2, 0, none⟩) n2 k2, .slice (some ⟨g3, 0, none⟩) n3 k3] (0, 0) _ X1.out Tryz.underlying34 rfl Tryz.infosBkX ?_)
    | (refine wpList_store_only rfl 34 (.tmp 4) (.tmp 144) rfl (w.heap.size + 1 + 1) 0 #[.int .i64 B.now, .slice (some ⟨g1, 0, none⟩) n1 k1, .slice (some ⟨g2, 0, none⟩) n2 k2, .slice (some ⟨g3, 0, none⟩) n3 k3] rfl rfl 34 #[.int .i64 0, .slice none 0 0, .slice none 0 0, .slice none 0 0] Z1.out Tryz.infosBkX (Nat.le_of_ble_eq_true rfl) (by simp [Value.oneCell']) ?_; intro w9 hz on; have Z9 : Hid (w9.heap[w.heap.size + 1 + 1]? = some (.cells #[.int .i64 B.now, .slice (some ⟨g1, 0, none⟩) n1 k1, .slice (some ⟨g2, 0, none⟩) n2 k2, .slice (some ⟨g3, 0, none⟩) n3 k3] 34 (0, 0))) := hz; have hb9 := hb1.only on (by omega); clear hz on))
   exact bodyPost_ret (v := .tuple #[.agg #[.int .i64 B.now, .slice (some ⟨g1, 0, none⟩) n1 k1, .slice (some ⟨g2, 0, none⟩) n2 k2, .slice (some ⟨g3, 0, none⟩) n3 k3], .int .i64 3]) (results_cell_tmp rfl _ _ (w.heap.size + 1 + 1) _ _ _ _ rfl Z9.out Tryz.underlying34 rfl Tryz.infosBkX _ rfl) rfl ⟨_, _, _, _, _, _, _, _, _, _, by rw [HC.out], fun h => absurd h (by rw [HC.out]; simp), hb9⟩
end Go.Proofs.YtbceafpodamnfabGreat
