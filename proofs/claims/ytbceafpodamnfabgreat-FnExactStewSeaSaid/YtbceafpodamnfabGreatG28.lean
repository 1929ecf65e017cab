/-
  My own: Xk.
-/
import Derived.Test.YtbceafpodamnfabGreatG09
import Derived.Test.YtbceafpodamnfabGreatG26
set_option linter.unusedVariables false
set_option linter.unusedSimpArgs false
namespace Go.Proofs.YtbceafpodamnfabGreat
open Go.RowKit Go.Sort
theorem Tryz.undBtsX : Tryz.prog.underlying 32 = some (.slice (Tryz.prog.elem 32)) := by kernel_rfl
theorem Tryz.infoElemBX : (Tryz.prog.info? (Tryz.prog.elem 32)).map (·.size) = some 2 := by kernel_rfl
set_option maxRecDepth 100000 in
set_option maxHeartbeats 16000000 in
theorem l6Sea_sink (B : Bk) (sv : Svc) (nm : ByteArray) (num : Int) (fl : Bool) (N g1 g2 g3 k1 k2 k3 n1 n2 n3 : Nat) (w : World) (hS : B.small) (hn0 : 0 ≤ B.now) (hn9 : B.now < 1000000) (hN : N ≤ w.heap.size) (hB : BkRow w N g1 g2 g3 k1 k2 k3 B) (HN1 : Hid (B.svcs.length = n1)) (HN2 : Hid (B.cps.length = n2)) (HN3 : Hid (B.bts.length = n3)) :
  Calls Tryz.prog 43 #[.agg #[.int .i64 B.now, .slice (some ⟨g1, 0, none⟩) n1 k1, .slice (some ⟨g2, 0, none⟩) n2 k2, .slice (some ⟨g3, 0, none⟩) n3 k3], .agg #[.int .i64 4, .string sv.name, .int .i64 sv.version, .bool sv.gone, .int .i64 sv.image, .int .i64 sv.want, .int .i64 sv.down, .int .i64 sv.over, .int .i64 sv.next, .int .i64 sv.per, .int .i64 sv.least, .int .i64 sv.most, .int .i64 sv.load, .int .i64 sv.cool, .string nm, .int .i64 num, .bool fl]] w (SeaR g1 g2 w B ⟨4, sv, nm, num, fl⟩) := by
 have hSm := hS
 obtain ⟨hl1, hl2, hl3⟩ := hS
 rw [HN1.out] at hl1
 rw [HN2.out] at hl2
 rw [HN3.out] at hl3
 have hq1 := hB.n1
 have hq2 := hB.n2
 have hq3 := hB.n3
 have hg1 := hB.svcs.lt
 have hg2 := hB.cps.lt
 have hg3 := hB.bts.lt
 have hc1 := hB.svcs.2.1
 have hc2 := hB.cps.2.1
 have hc3 := hB.bts.2.1
 rw [HN1.out] at hc1
 rw [HN2.out] at hc2
 rw [HN3.out] at hc3
 have h12 := hB.ne12
 have h13 := hB.ne13
 have h23 := hB.ne23
 obtain ⟨W0, hW0, t0, t1, t2, hz0, hz0', hb0⟩ := three_newV w (.cells #[.int .i64 B.now, .slice (some ⟨g1, 0, none⟩) n1 k1, .slice (some ⟨g2, 0, none⟩) n2 k2, .slice (some ⟨g3, 0, none⟩) n3 k3] 34) (.cells #[.int .i64 4, .string sv.name, .int .i64 sv.version, .bool sv.gone, .int .i64 sv.image, .int .i64 sv.want, .int .i64 sv.down, .int .i64 sv.over, .int .i64 sv.next, .int .i64 sv.per, .int .i64 sv.least, .int .i64 sv.most, .int .i64 sv.load, .int .i64 sv.cool, .string nm, .int .i64 num, .bool fl] 50) (.cells #[.int .i64 0, .slice none 0 0, .slice none 0 0, .slice none 0 0] 34)
 have X0 : Hid _ := t0
 have E0 : Hid _ := t1
 have Z0 : Hid _ := t2
 have RS0 : Hid (RowIs W0 48 13 g1 n1 k1 (svcsV B.svcs)) := by have := hB.svcs.below hb0 hg1; (rw [HN1.out] at this); exact this
 have RC0 : Hid (RowIs W0 88 7 g2 n2 k2 (cpsV B.cps)) := by have := hB.cps.below hb0 hg2; (rw [HN2.out] at this); exact this
 have RB0 : Hid (RowIs W0 86 2 g3 n3 k3 (btsV B.bts)) := by have := hB.bts.below hb0 hg3; (rw [HN3.out] at this); exact this
 clear t0 t1 t2 hB
 go_enter Tryz.func43, Tryz.ntmps43
 go_upto_region 1 with fail
 clear hW0
 have e0 := blk_cell X0.out 0 rfl
 have e1 := blk_cell X0.out 1 rfl
 have e2 := blk_cell X0.out 2 rfl
 have e3 := blk_cell X0.out 3 rfl
 have f0 := blk_cell E0.out 0 rfl
 have f14 := blk_cell E0.out 14 rfl
 cases hat : atIdx (fun t : Bt => t.name.toList == nm.toList) B.bts with
 | none =>
  have HC : Hid ((seaOf B ⟨4, sv, nm, num, fl⟩).2 = 3) := by unfold Hid; show (sinkB B nm _).2 = 3; unfold sinkB; rw [hat]
  have hidx : idxB B.bts nm = -1 := atIdx_none hat
  have hcall := l1Berth_any B nm (some ⟨g1, 0, none⟩) (some ⟨g2, 0, none⟩) (some ⟨g3, 0, none⟩) k1 k2 k3 W0 hSm RB0.out.slB
  rw [HN1.out, HN2.out, HN3.out, hidx] at hcall
  clear hat hidx
  go_wp2_with fail
  refine hcall.mono ?_
  clear hcall
  rintro e w1 ⟨rfl, hbc⟩
  have hbw1 := hb0.trans (hbc.mono hb0.size)
  have X1 : Hid _ := below_blk hbc X0.out (by omega)
  have E1 : Hid _ := below_blk hbc E0.out (by omega)
  have Z1 : Hid _ := below_blk hbc Z0.out (by omega)
  have hz1 : w.heap.size + 1 + 1 < w1.heap.size := (Array.getElem?_eq_some_iff.1 Z1.out).1
  have hb1 : KeepBut g1 g2 w w1 := keepBut_of hbw1
  go_upto_region 17 with fail
  go_wp2_with (first
   | (refine wpList_load_row rfl 34 (.tmp 2) rfl w.heap.size rfl 34 #[.int .i64 B.now, .slice (some ⟨g1, 0, none⟩) n1 k1, .slice (some ⟨g2, 0, none⟩) n2 k2, .slice (some ⟨g3, 0, none⟩) n3 k3] (0, 0) _ X1.out Tryz.underlying34 rfl Tryz.infosBkX ?_)
   | (refine wpList_store_only rfl 34 (.tmp 4) (.tmp 78) rfl (w.heap.size + 1 + 1) 0 #[.int .i64 B.now, .slice (some ⟨g1, 0, none⟩) n1 k1, .slice (some ⟨g2, 0, none⟩) n2 k2, .slice (some ⟨g3, 0, none⟩) n3 k3] rfl rfl 34 #[.int .i64 0, .slice none 0 0, .slice none 0 0, .slice none 0 0] Z1.out Tryz.infosBkX (Nat.le_of_ble_eq_true rfl) (by simp [Value.oneCell']) ?_; intro w9 hz on; have Z9 : Hid (w9.heap[w.heap.size + 1 + 1]? = some (.cells #[.int .i64 B.now, .slice (some ⟨g1, 0, none⟩) n1 k1, .slice (some ⟨g2, 0, none⟩) n2 k2, .slice (some ⟨g3, 0, none⟩) n3 k3] 34 (0, 0))) := hz; have hb9 := hb1.only on (by omega); clear hz on))
  exact bodyPost_ret (v := .tuple #[.agg #[.int .i64 B.now, .slice (some ⟨g1, 0, none⟩) n1 k1, .slice (some ⟨g2, 0, none⟩) n2 k2, .slice (some ⟨g3, 0, none⟩) n3 k3], .int .i64 3]) (results_cell_tmp rfl _ _ (w.heap.size + 1 + 1) _ _ _ _ rfl Z9.out Tryz.underlying34 rfl Tryz.infosBkX _ rfl) rfl ⟨_, _, _, _, _, _, _, _, _, _, by rw [HC.out], fun h => absurd h (by rw [HC.out]; simp), hb9⟩
 | some p =>
  obtain ⟨i, t⟩ := p
  obtain ⟨hidx, hic, _⟩ := atIdx_some hat
  have hin : i < n3 := by have := (List.getElem?_eq_some_iff.1 hic).1; rw [HN3.out] at this; exact this
  have hcall := l1Berth_any B nm (some ⟨g1, 0, none⟩) (some ⟨g2, 0, none⟩) (some ⟨g3, 0, none⟩) k1 k2 k3 W0 hSm RB0.out.slB
  rw [HN1.out, HN2.out, HN3.out, show idxB B.bts nm = (i : Int) from hidx] at hcall
  have HSE : Hid (seaOf B ⟨4, sv, nm, num, fl⟩ = ({ B with now := B.now + 1, bts := B.bts.take i ++ B.bts.drop (i + 1), cps := B.cps.filter (fun c : Cp => !(c.berth.toList == nm.toList)) }, 0)) := by unfold Hid; show sinkB B nm _ = _; unfold sinkB; rw [hat]
  clear hat hidx hic
  go_wp2_with fail
  refine hcall.mono ?_
  clear hcall
  rintro e w1 ⟨rfl, hbc⟩
  have hbw1 := hb0.trans (hbc.mono hb0.size)
  have X1 : Hid _ := below_blk hbc X0.out (by omega)
  have E1 : Hid _ := below_blk hbc E0.out (by omega)
  have Z1 : Hid _ := below_blk hbc Z0.out (by omega)
  have hz1 : w.heap.size + 1 + 1 < w1.heap.size := (Array.getElem?_eq_some_iff.1 Z1.out).1
  have hb1 : KeepBut g1 g2 w w1 := keepBut_of hbw1
  have RS1 : Hid (RowIs w1 48 13 g1 n1 k1 (svcsV B.svcs)) := RS0.out.below hbc (by omega)
  have RC1 : Hid (RowIs w1 88 7 g2 n2 k2 (cpsV B.cps)) := RC0.out.below hbc (by omega)
  have RB1 : Hid (RowIs w1 86 2 g3 n3 k3 (btsV B.bts)) := RB0.out.below hbc (by omega)
  clear hb1
  have hb1 : Below w.heap.size w w1 := hbw1
  clear e0 e1 e2 e3 f0 f14 hb0 X0 Z0 E0 RS0 RC0 RB0 hbc hbw1 hz0 hz0'
  obtain ⟨mm, hmm⟩ : ∃ q, n3 - (i + 1) = q := ⟨_, rfl⟩
  have HMM : Hid _ := hmm
  have hm1 : n3 ≤ i + 1 + mm := by omega
  have hm2 : i + 1 + mm ≤ n3 := by omega
  clear hmm
  have HTL : Hid ((B.bts.take i).length = i) := by unfold Hid; rw [List.length_take, HN3.out]; omega
  have HRL : Hid ((B.bts.drop (i + 1)).length = mm) := by unfold Hid; rw [List.length_drop, HN3.out]; omega
  have SRD : Hid (∀ W : World, Below w1.heap.size w1 W → ∀ off, (off = (i + 1) * 2 ∨ k3 = i + 1) → ∀ j u, (btsV (B.bts.drop (i + 1)))[j]? = some u → W.cell? ((⟨g3, off, none⟩ : Addr).add j) = some u) := fun W hW off ho => by
   rcases ho with ho | ho
   ·rw [ho]; exact (RB1.out.below hW (by omega)).srcDrop (c := Bt.cells) (fun _ => rfl) (i + 1)
   ·intro j u hu; rw [show B.bts.drop (i + 1) = [] from List.length_eq_zero_iff.1 (by rw [HRL.out]; omega)] at hu; simp [btsV] at hu
  go_upto_region 18 with fail
  refine wp_region_owns 13 2 [[], [], [1], [], [2, 3], [0, 4], [], [6], [], [8], [7, 9], [5, 10], []] [11] [0, 5, 10, 11] [11] (by kernel_rfl) (by kernel_rfl) (by kernel_rfl) ?_
  refine own_grow (fun vv W => ∃ g, vv = .slice (some ⟨g, 0, none⟩) 0 0 ∧ w1.heap.size ≤ g ∧ W.heap[g]? = some (.cells #[] 86 (0, 0))) (fun v W W2 ⟨g, h1, h2, h3⟩ hb => ⟨g, h1, h2, below_blk hb h3 (Array.getElem?_eq_some_iff.1 h3).1⟩) (by kernel_rfl) (by kernel_rfl) ?_ ?_
  ·intro V W K A hW hd hA hK
   simp only [putAll, List.getElem?_toArray, List.getElem?_cons_succ, List.getElem?_cons_zero, Option.bind_some, Act.put, List.setIfInBounds_toArray, List.set_cons_succ, List.set_cons_zero] at hA
   clear hd
   generalize V 0 = x0 at hA
   generalize V 1 = x1 at hA
   generalize V 2 = x2 at hA
   generalize V 3 = x3 at hA
   generalize V 4 = x4 at hA
   generalize V 5 = x5 at hA
   generalize V 6 = x6 at hA
   generalize V 7 = x7 at hA
   generalize V 8 = x8 at hA
   generalize V 9 = x9 at hA
   generalize V 10 = x10 at hA
   generalize V 11 = x11 at hA
   generalize V 12 = x12 at hA
   obtain rfl := hA
   go_wp2
   exact hK.out _ _ (below_box W _) ⟨_, rfl, hW.size, heap_alloc_new W _⟩
  apply own_eq (by kernel_rfl)
  ·intro V W K A hW hd hA hK
   simp only [putAll, List.getElem?_toArray, List.getElem?_cons_succ, List.getElem?_cons_zero, Option.bind_some, Act.put, List.setIfInBounds_toArray, List.set_cons_succ, List.set_cons_zero] at hA
   clear hd
   generalize V 0 = x0 at hA
   generalize V 1 = x1 at hA
   generalize V 2 = x2 at hA
   generalize V 3 = x3 at hA
   generalize V 4 = x4 at hA
   generalize V 5 = x5 at hA
   generalize V 6 = x6 at hA
   generalize V 7 = x7 at hA
   generalize V 8 = x8 at hA
   generalize V 9 = x9 at hA
   generalize V 10 = x10 at hA
   generalize V 11 = x11 at hA
   generalize V 12 = x12 at hA
   obtain rfl := hA
   go_wp2
   exact hK.out _ (Below.refl _ _)
  apply own_eq (by kernel_rfl)
  ·intro V W K A hW hd hA hK
   have d1 : V 1 = _ := hd 1 (by kernel_rfl)
   simp only [putAll, List.getElem?_toArray, List.getElem?_cons_succ, List.getElem?_cons_zero, Option.bind_some, Act.put, List.setIfInBounds_toArray, List.set_cons_succ, List.set_cons_zero] at hA
   clear hd
   generalize V 0 = x0 at hA
   generalize V 1 = x1 at d1 hA
   generalize V 2 = x2 at hA
   generalize V 3 = x3 at hA
   generalize V 4 = x4 at hA
   generalize V 5 = x5 at hA
   generalize V 6 = x6 at hA
   generalize V 7 = x7 at hA
   generalize V 8 = x8 at hA
   generalize V 9 = x9 at hA
   generalize V 10 = x10 at hA
   generalize V 11 = x11 at hA
   generalize V 12 = x12 at hA
   subst d1
   obtain rfl := hA
   have x3 := blk_cell (below_blk hW X1.out (by omega)) 3 rfl
   go_wp2
   exact hK.out _ (Below.refl _ _)
  apply own_eq (by kernel_rfl)
  ·intro V W K A hW hd hA hK
   simp only [putAll, List.getElem?_toArray, List.getElem?_cons_succ, List.getElem?_cons_zero, Option.bind_some, Act.put, List.setIfInBounds_toArray, List.set_cons_succ, List.set_cons_zero] at hA
   clear hd
   generalize V 0 = x0 at hA
   generalize V 1 = x1 at hA
   generalize V 2 = x2 at hA
   generalize V 3 = x3 at hA
   generalize V 4 = x4 at hA
   generalize V 5 = x5 at hA
   generalize V 6 = x6 at hA
   generalize V 7 = x7 at hA
   generalize V 8 = x8 at hA
   generalize V 9 = x9 at hA
   generalize V 10 = x10 at hA
   generalize V 11 = x11 at hA
   generalize V 12 = x12 at hA
   obtain rfl := hA
   go_wp2
   exact hK.out _ (Below.refl _ _)
  apply own_eq (by kernel_rfl)
  ·intro V W K A hW hd hA hK
   have d2 : V 2 = _ := hd 2 (by kernel_rfl)
   have d3 : V 3 = _ := hd 3 (by kernel_rfl)
   simp only [putAll, List.getElem?_toArray, List.getElem?_cons_succ, List.getElem?_cons_zero, Option.bind_some, Act.put, List.setIfInBounds_toArray, List.set_cons_succ, List.set_cons_zero] at hA
   clear hd
   generalize V 0 = x0 at hA
   generalize V 1 = x1 at hA
   generalize V 2 = x2 at d2 hA
   generalize V 3 = x3 at d3 hA
   generalize V 4 = x4 at hA
   generalize V 5 = x5 at hA
   generalize V 6 = x6 at hA
   generalize V 7 = x7 at hA
   generalize V 8 = x8 at hA
   generalize V 9 = x9 at hA
   generalize V 10 = x10 at hA
   generalize V 11 = x11 at hA
   generalize V 12 = x12 at hA
   subst d2
   subst d3
   obtain rfl := hA
   go_wp2
   exact hK.out _ (Below.refl _ _)
  refine own_grow (fun vv W => ∃ g cap, vv = .slice (some ⟨g, 0, none⟩) (i) cap ∧ w1.heap.size ≤ g ∧ RowIs W 86 2 g (i) cap (btsV (B.bts.take i))) (fun v W W2 ⟨g, cap, h1, h2, h3⟩ hb => ⟨g, cap, h1, h2, h3.below hb h3.lt⟩) (by kernel_rfl) (by kernel_rfl) ?_ ?_
  ·intro V W K A hW hd hA hK
   have d0 : (fun vv W => ∃ g, vv = .slice (some ⟨g, 0, none⟩) 0 0 ∧ w1.heap.size ≤ g ∧ W.heap[g]? = some (.cells #[] 86 (0, 0))) (V 0) W := hd 0 (by kernel_rfl)
   have d4 : V 4 = _ := hd 4 (by kernel_rfl)
   simp only [putAll, List.getElem?_toArray, List.getElem?_cons_succ, List.getElem?_cons_zero, Option.bind_some, Act.put, List.setIfInBounds_toArray, List.set_cons_succ, List.set_cons_zero] at hA
   clear hd
   generalize V 0 = x0 at d0 hA
   generalize V 1 = x1 at hA
   generalize V 2 = x2 at hA
   generalize V 3 = x3 at hA
   generalize V 4 = x4 at d4 hA
   generalize V 5 = x5 at hA
   generalize V 6 = x6 at hA
   generalize V 7 = x7 at hA
   generalize V 8 = x8 at hA
   generalize V 9 = x9 at hA
   generalize V 10 = x10 at hA
   generalize V 11 = x11 at hA
   generalize V 12 = x12 at hA
   subst d4
   obtain rfl := hA
   obtain ⟨g, rfl, hg, hgz⟩ := d0
   refine wpList_append_fresh rfl (.tmp 79) (.tmp 83) 32 rfl 86 _ 2 24 Tryz.underlying32 Tryz.infoBtX rfl g rfl hgz (some ⟨g3, 0, none⟩) i _ (btsV (B.bts.take i)) rfl (by rw [btsV_len, HTL.out]) (fun _ => ⟨_, rfl, (RB1.out.below hW (by omega)).srcTake (c := Bt.cells) (fun _ => rfl) i⟩) (btsV_one _) (by unfold maxLen; omega) (by omega) ?_
   intro g' cap' w2 hg' hrow hb2
   have hgg : w1.heap.size ≤ g' := by have := hW.size; rcases hg' with rfl | rfl <;> omega
   go_wp2
   exact hK.out _ _ hb2 ⟨g', cap', rfl, hgg, hrow.out⟩
  apply own_eq (by kernel_rfl)
  ·intro V W K A hW hd hA hK
   simp only [putAll, List.getElem?_toArray, List.getElem?_cons_succ, List.getElem?_cons_zero, Option.bind_some, Act.put, List.setIfInBounds_toArray, List.set_cons_succ, List.set_cons_zero] at hA
   clear hd
   generalize V 0 = x0 at hA
   generalize V 1 = x1 at hA
   generalize V 2 = x2 at hA
   generalize V 3 = x3 at hA
   generalize V 4 = x4 at hA
   generalize V 5 = x5 at hA
   generalize V 6 = x6 at hA
   generalize V 7 = x7 at hA
   generalize V 8 = x8 at hA
   generalize V 9 = x9 at hA
   generalize V 10 = x10 at hA
   generalize V 11 = x11 at hA
   generalize V 12 = x12 at hA
   obtain rfl := hA
   go_wp2
   exact hK.out _ (Below.refl _ _)
  apply own_eq (by kernel_rfl)
  ·intro V W K A hW hd hA hK
   have d6 : V 6 = _ := hd 6 (by kernel_rfl)
   simp only [putAll, List.getElem?_toArray, List.getElem?_cons_succ, List.getElem?_cons_zero, Option.bind_some, Act.put, List.setIfInBounds_toArray, List.set_cons_succ, List.set_cons_zero] at hA
   clear hd
   generalize V 0 = x0 at hA
   generalize V 1 = x1 at hA
   generalize V 2 = x2 at hA
   generalize V 3 = x3 at hA
   generalize V 4 = x4 at hA
   generalize V 5 = x5 at hA
   generalize V 6 = x6 at d6 hA
   generalize V 7 = x7 at hA
   generalize V 8 = x8 at hA
   generalize V 9 = x9 at hA
   generalize V 10 = x10 at hA
   generalize V 11 = x11 at hA
   generalize V 12 = x12 at hA
   subst d6
   obtain rfl := hA
   have x3 := blk_cell (below_blk hW X1.out (by omega)) 3 rfl
   go_wp2
   exact hK.out _ (Below.refl _ _)
  apply own_eq (by kernel_rfl)
  ·intro V W K A hW hd hA hK
   simp only [putAll, List.getElem?_toArray, List.getElem?_cons_succ, List.getElem?_cons_zero, Option.bind_some, Act.put, List.setIfInBounds_toArray, List.set_cons_succ, List.set_cons_zero] at hA
   clear hd
   generalize V 0 = x0 at hA
   generalize V 1 = x1 at hA
   generalize V 2 = x2 at hA
   generalize V 3 = x3 at hA
   generalize V 4 = x4 at hA
   generalize V 5 = x5 at hA
   generalize V 6 = x6 at hA
   generalize V 7 = x7 at hA
   generalize V 8 = x8 at hA
   generalize V 9 = x9 at hA
   generalize V 10 = x10 at hA
   generalize V 11 = x11 at hA
   generalize V 12 = x12 at hA
   obtain rfl := hA
   go_wp2
   exact hK.out _ (Below.refl _ _)
  apply own_eq (by kernel_rfl)
  ·intro V W K A hW hd hA hK
   have d8 : V 8 = _ := hd 8 (by kernel_rfl)
   simp only [putAll, List.getElem?_toArray, List.getElem?_cons_succ, List.getElem?_cons_zero, Option.bind_some, Act.put, List.setIfInBounds_toArray, List.set_cons_succ, List.set_cons_zero] at hA
   clear hd
   generalize V 0 = x0 at hA
   generalize V 1 = x1 at hA
   generalize V 2 = x2 at hA
   generalize V 3 = x3 at hA
   generalize V 4 = x4 at hA
   generalize V 5 = x5 at hA
   generalize V 6 = x6 at hA
   generalize V 7 = x7 at hA
   generalize V 8 = x8 at d8 hA
   generalize V 9 = x9 at hA
   generalize V 10 = x10 at hA
   generalize V 11 = x11 at hA
   generalize V 12 = x12 at hA
   subst d8
   obtain rfl := hA
   go_wp2
   exact hK.out _ (Below.refl _ _)
  refine own_grow (fun vv (_ : World) => ∃ off, vv = .slice (some ⟨g3, off, none⟩) mm (k3 - (i + 1)) ∧ (off = (i + 1) * 2 ∨ k3 = i + 1)) (fun _ _ _ h _ => h) (by kernel_rfl) (by kernel_rfl) ?_ ?_
  ·intro V W K A hW hd hA hK
   have d7 : V 7 = _ := hd 7 (by kernel_rfl)
   have d9 : V 9 = _ := hd 9 (by kernel_rfl)
   simp only [putAll, List.getElem?_toArray, List.getElem?_cons_succ, List.getElem?_cons_zero, Option.bind_some, Act.put, List.setIfInBounds_toArray, List.set_cons_succ, List.set_cons_zero] at hA
   clear hd
   generalize V 0 = x0 at hA
   generalize V 1 = x1 at hA
   generalize V 2 = x2 at hA
   generalize V 3 = x3 at hA
   generalize V 4 = x4 at hA
   generalize V 5 = x5 at hA
   generalize V 6 = x6 at hA
   generalize V 7 = x7 at d7 hA
   generalize V 8 = x8 at hA
   generalize V 9 = x9 at d9 hA
   generalize V 10 = x10 at hA
   generalize V 11 = x11 at hA
   generalize V 12 = x12 at hA
   subst d7
   subst d9
   obtain rfl := hA
   refine wpList_slice_off rfl 32 (.tmp 86) (some (.tmp 88)) none none rfl Tryz.undBtsX 2 Tryz.infoElemBX g3 0 n3 k3 (i + 1) n3 k3 rfl (some (.int .i64 ((i : Int) + 1))) none none rfl rfl rfl (fun w => run_slice_l w _ _ _ _ Tryz.undBtsX .i64 ((i + 1 : Nat) : Int) (by omega) (by omega)) ?_
   intro off hoff
   rw [HMM.out]
   go_wp2
   exact hK.out _ _ (Below.refl _ _) ⟨off, rfl, by omega⟩
  refine own_own (fun vv W => ∃ g cap, vv = .slice (some ⟨g, 0, none⟩) (i + mm) cap ∧ w1.heap.size ≤ g ∧ RowIs W 86 2 g (i + mm) cap (btsV (B.bts.take i) ++ btsV (B.bts.drop (i + 1)))) (fun v W W2 ⟨g, cap, h1, h2, h3⟩ hb => ⟨g, cap, h1, h2, h3.below hb h3.lt⟩) (by kernel_rfl) (by kernel_rfl) ?_ ?_
  ·intro V W K A hW hd hA hK
   have d5 : (fun vv W => ∃ g cap, vv = .slice (some ⟨g, 0, none⟩) (i) cap ∧ w1.heap.size ≤ g ∧ RowIs W 86 2 g (i) cap (btsV (B.bts.take i))) (V 5) W := hd 5 (by kernel_rfl)
   have d10 : (fun vv (_ : World) => ∃ off, vv = .slice (some ⟨g3, off, none⟩) mm (k3 - (i + 1)) ∧ (off = (i + 1) * 2 ∨ k3 = i + 1)) (V 10) W := hd 10 (by kernel_rfl)
   simp only [putAll, List.getElem?_toArray, List.getElem?_cons_succ, List.getElem?_cons_zero, Option.bind_some, Act.put, List.setIfInBounds_toArray, List.set_cons_succ, List.set_cons_zero] at hA
   clear hd
   generalize V 0 = x0 at hA
   generalize V 1 = x1 at hA
   generalize V 2 = x2 at hA
   generalize V 3 = x3 at hA
   generalize V 4 = x4 at hA
   generalize V 5 = x5 at d5 hA
   generalize V 6 = x6 at hA
   generalize V 7 = x7 at hA
   generalize V 8 = x8 at hA
   generalize V 9 = x9 at hA
   generalize V 10 = x10 at d10 hA
   generalize V 11 = x11 at hA
   generalize V 12 = x12 at hA
   obtain rfl := hA
   obtain ⟨gA, capA, rfl, hgA, hrA⟩ := d5
   obtain ⟨off, rfl, hoff⟩ := d10
   refine wpList_append_row rfl (.tmp 84) (.tmp 89) 32 rfl 86 _ 2 24 Tryz.underlying32 Tryz.infoBtX rfl gA i capA _ rfl hrA ⟨g3, off, none⟩ mm _ (btsV (B.bts.drop (i + 1))) rfl (by rw [btsV_len, HRL.out]) (SRD.out W hW off hoff) (btsV_one _) (by unfold maxLen; omega) (by omega) ?_
   intro g' cap' w2 hg' hrow hgr
   have hgg : w1.heap.size ≤ g' := by have := hW.size; rcases hg' with rfl | rfl <;> omega
   have hbo := below_of_grown hgr hgA hW.size
   clear hgr
   go_wp2
   exact hK.out _ _ hbo ⟨g', cap', rfl, hgg, hrow.out⟩
  apply own_eq (by kernel_rfl)
  ·intro V W K A hW hd hA hK
   simp only [putAll, List.getElem?_toArray, List.getElem?_cons_succ, List.getElem?_cons_zero, Option.bind_some, Act.put, List.setIfInBounds_toArray, List.set_cons_succ, List.set_cons_zero] at hA
   clear hd
   generalize V 0 = x0 at hA
   generalize V 1 = x1 at hA
   generalize V 2 = x2 at hA
   generalize V 3 = x3 at hA
   generalize V 4 = x4 at hA
   generalize V 5 = x5 at hA
   generalize V 6 = x6 at hA
   generalize V 7 = x7 at hA
   generalize V 8 = x8 at hA
   generalize V 9 = x9 at hA
   generalize V 10 = x10 at hA
   generalize V 11 = x11 at hA
   generalize V 12 = x12 at hA
   obtain rfl := hA
   go_wp2
   exact hK.out _ (Below.refl _ _)
  intro V W A hW hS hA
  have d1 : V 1 = _ := hS 1 (by omega) (.inr (by kernel_rfl))
  have d2 : V 2 = _ := hS 2 (by omega) (.inr (by kernel_rfl))
  have d3 : V 3 = _ := hS 3 (by omega) (.inr (by kernel_rfl))
  have d4 : V 4 = _ := hS 4 (by omega) (.inr (by kernel_rfl))
  have d6 : V 6 = _ := hS 6 (by omega) (.inr (by kernel_rfl))
  have d7 : V 7 = _ := hS 7 (by omega) (.inr (by kernel_rfl))
  have d8 : V 8 = _ := hS 8 (by omega) (.inr (by kernel_rfl))
  have d9 : V 9 = _ := hS 9 (by omega) (.inr (by kernel_rfl))
  have d11 : (fun vv W => ∃ g cap, vv = .slice (some ⟨g, 0, none⟩) (i + mm) cap ∧ w1.heap.size ≤ g ∧ RowIs W 86 2 g (i + mm) cap (btsV (B.bts.take i) ++ btsV (B.bts.drop (i + 1)))) (V 11) W := hS 11 (by omega) (.inl (by kernel_rfl))
  have d12 : V 12 = _ := hS 12 (by omega) (.inr (by kernel_rfl))
  simp only [putAll, List.getElem?_toArray, List.getElem?_cons_succ, List.getElem?_cons_zero, Option.bind_some, Act.put, List.setIfInBounds_toArray, List.set_cons_succ, List.set_cons_zero] at hA
  clear hS
  generalize V 0 = x0 at hA
  generalize V 1 = x1 at d1 hA
  generalize V 2 = x2 at d2 hA
  generalize V 3 = x3 at d3 hA
  generalize V 4 = x4 at d4 hA
  generalize V 5 = x5 at hA
  generalize V 6 = x6 at d6 hA
  generalize V 7 = x7 at d7 hA
  generalize V 8 = x8 at d8 hA
  generalize V 9 = x9 at d9 hA
  generalize V 10 = x10 at hA
  generalize V 11 = x11 at d11 hA
  generalize V 12 = x12 at d12 hA
  subst d1
  subst d2
  subst d3
  subst d4
  subst d6
  subst d7
  subst d8
  subst d9
  subst d12
  obtain rfl := hA
  simp only [List.drop_succ_cons, List.drop_zero]
  obtain ⟨gC, capC, rfl, hgC, hrC⟩ := d11
  have RBW : Hid (RowIs W 86 2 gC (i + mm) capC (btsV (B.bts.take i) ++ btsV (B.bts.drop (i + 1)))) := hrC
  have hgl := hrC.lt
  have hbW := hb1.trans (hW.mono' (by omega))
  have XW : Hid _ := below_blk hW X1.out (by omega)
  have EW : Hid _ := below_blk hW E1.out (by omega)
  have ZW : Hid _ := below_blk hW Z1.out (by omega)
  have RSW : Hid (RowIs W 48 13 g1 n1 k1 (svcsV B.svcs)) := RS1.out.below hW (by omega)
  have RCW : Hid (RowIs W 88 7 g2 n2 k2 (cpsV B.cps)) := RC1.out.below hW (by omega)
  have hzW : w.heap.size + 1 + 1 < W.heap.size := (Array.getElem?_eq_some_iff.1 ZW.out).1
  clear hrC X1 E1 Z1 RS1 RC1 RB1 hb1 SRD hW
  go_upto_region 19 with (refine wpList_store_one rfl 32 (.tmp 91) (.tmp 90) rfl w.heap.size 3 (.slice (some ⟨gC, 0, none⟩) (i + mm) capC) rfl rfl Tryz.infosBtsX rfl rfl 34 #[.int .i64 B.now, .slice (some ⟨g1, 0, none⟩) n1 k1, .slice (some ⟨g2, 0, none⟩) n2 k2, .slice (some ⟨g3, 0, none⟩) n3 k3] XW.out (Nat.le_of_ble_eq_true rfl) ?_; intro w3 hz on; have X3 : Hid (w3.heap[w.heap.size]? = some (.cells #[.int .i64 B.now, .slice (some ⟨g1, 0, none⟩) n1 k1, .slice (some ⟨g2, 0, none⟩) n2 k2, .slice (some ⟨gC, 0, none⟩) (i + mm) capC] 34 (0, 0))) := hz; have E3 : Hid _ := (on.other (w.heap.size + 1) (by omega)).trans EW.out; have Z3 : Hid _ := (on.other (w.heap.size + 1 + 1) (by omega)).trans ZW.out; have RS3 : Hid (RowIs w3 48 13 g1 n1 k1 (svcsV B.svcs)) := RSW.out.blk (on.other g1 (by omega)); have RC3 : Hid (RowIs w3 88 7 g2 n2 k2 (cpsV B.cps)) := RCW.out.blk (on.other g2 (by omega)); have RB3 : Hid (RowIs w3 86 2 gC (i + mm) capC (btsV (B.bts.take i) ++ btsV (B.bts.drop (i + 1)))) := RBW.out.blk (on.other gC (by omega)); have hb3 := hbW.trans (on.below.mono' (by omega)); clear hz on)
  clear XW EW ZW RSW RCW RBW hbW
  have hzw3 : w.heap.size + 1 + 1 < w3.heap.size := (Array.getElem?_eq_some_iff.1 Z3.out).1
  have hgc3 := RB3.out.lt
  obtain ⟨w4, hw4⟩ : ∃ W, w3.alloc (.cells #[] 88) = W := ⟨_, rfl⟩
  have hb4a := below_box w3 (.cells #[] 88)
  have R4 : Hid _ := RowIs.new w3 88 7
  have hz4a : w3.heap.size < (w3.alloc (.cells #[] 88)).heap.size := by simp
  rw [hw4] at hb4a R4 hz4a
  have hb4 := hb3.trans (hb4a.mono' (by omega))
  have X4 : Hid _ := below_blk hb4a X3.out (by omega)
  have E4 : Hid _ := below_blk hb4a E3.out (by omega)
  have Z4 : Hid _ := below_blk hb4a Z3.out (by omega)
  have RS4 : Hid (RowIs w4 48 13 g1 n1 k1 (svcsV B.svcs)) := RS3.out.below hb4a RS3.out.lt
  have RC4 : Hid (RowIs w4 88 7 g2 n2 k2 (cpsV B.cps)) := RC3.out.below hb4a RC3.out.lt
  have RB4 : Hid (RowIs w4 86 2 gC (i + mm) capC (btsV (B.bts.take i) ++ btsV (B.bts.drop (i + 1)))) := RB3.out.below hb4a RB3.out.lt
  obtain ⟨gN, hgN⟩ : ∃ q, w3.heap.size = q := ⟨_, rfl⟩
  rw [hgN] at R4 hzw3 hgc3
  have hg1N : g1 < gN := by rw [← hgN]; exact RS3.out.lt
  have hg2N : g2 < gN := by rw [← hgN]; exact RC3.out.lt
  clear hb4a hz4a X3 E3 Z3 RS3 RC3 RB3 hb3
  go_upto_region 20 with fail
  clear hw4 hgN
  go_wp2
  go_loopw [9, 10] (fun ov iv wr => ∃ (k g n cap : Nat), k ≤ n2 ∧ iv = .int .i64 k ∧ ov = .slice (some ⟨g, 0, none⟩) n cap ∧ Hid (n = ((B.cps.take k).filter (fun c : Cp => !(c.berth.toList == nm.toList))).length) ∧ n ≤ k ∧ gN ≤ g ∧ Below w.heap.size w wr ∧ Hid (wr.heap[w.heap.size]? = some (.cells #[.int .i64 B.now, .slice (some ⟨g1, 0, none⟩) n1 k1, .slice (some ⟨g2, 0, none⟩) n2 k2, .slice (some ⟨gC, 0, none⟩) (i + mm) capC] 34 (0, 0))) ∧ Hid (wr.heap[w.heap.size + 1]? = some (.cells #[.int .i64 4, .string sv.name, .int .i64 sv.version, .bool sv.gone, .int .i64 sv.image, .int .i64 sv.want, .int .i64 sv.down, .int .i64 sv.over, .int .i64 sv.next, .int .i64 sv.per, .int .i64 sv.least, .int .i64 sv.most, .int .i64 sv.load, .int .i64 sv.cool, .string nm, .int .i64 num, .bool fl] 50 (0, 0))) ∧ Hid (wr.heap[w.heap.size + 1 + 1]? = some (.cells #[.int .i64 0, .slice none 0 0, .slice none 0 0, .slice none 0 0] 34 (0, 0))) ∧ Hid (RowIs wr 48 13 g1 n1 k1 (svcsV B.svcs)) ∧ Hid (RowIs wr 88 7 g2 n2 k2 (cpsV B.cps)) ∧ Hid (RowIs wr 86 2 gC (i + mm) capC (btsV (B.bts.take i) ++ btsV (B.bts.drop (i + 1)))) ∧ Hid (RowIs wr 88 7 g n cap (cpsV ((B.cps.take k).filter (fun c : Cp => !(c.berth.toList == nm.toList)))))) (fun _ i _ => n2 - (intOf i).toNat)
  case atStart => exact ⟨0, gN, 0, 0, by omega, rfl, rfl, rfl, Nat.le_refl _, Nat.le_refl _, hb4, X4, E4, Z4, RS4, RC4, RB4, R4⟩
  case round =>
   clear hb4 X4 E4 Z4 RS4 RC4 RB4 R4
   obtain ⟨k, g, n, cap, hk, rfl, rfl, HNN, hnk, hgg, hb5, X5, E5, Z5, RS5, RC5, RB5, R5⟩ := hrel
   have hgl5 := R5.out.lt
   have hz5 : w.heap.size + 1 + 1 < wr.heap.size := (Array.getElem?_eq_some_iff.1 Z5.out).1
   have e2 := blk_cell X5.out 2 rfl
   by_cases hlt : k < n2
   ·obtain ⟨c, hck⟩ : ∃ c, B.cps[k]? = some c := ⟨B.cps[k]'(by rw [HN2.out]; exact hlt), by simp [HN2.out, hlt]⟩
    have HFS : Hid (((B.cps.take (k + 1)).filter (fun c : Cp => !(c.berth.toList == nm.toList))) = ((B.cps.take k).filter (fun c : Cp => !(c.berth.toList == nm.toList))) ++ (if (!(c.berth.toList == nm.toList)) = true then [c] else [])) := by unfold Hid; rw [List.take_add_one, hck, List.filter_append]; cases hq : (c.berth.toList == nm.toList) <;> simp [List.filter, hq]
    have HCK : Hid (B.cps[k]? = some c) := hck
    have x2 := gcell X5.out 2 rfl
    have x14 := gcell E5.out 14 rfl
    have y6 : ∀ p : Regrown, (grow (redrawn wr p.d) p.os).cell? ⟨g2, k * 7 + 6, none⟩ = some (.string c.berth) := fun p => cell_regrown (RC5.out.cell (flat_at (c := Cp.cells) (n := 7) (fun _ => rfl) B.cps k c 6 (.string c.berth) hck rfl)) p.d p.os
    clear hck
    go_upto_region 23 with fail
    refine wp_region_quiet_below (by kernel_rfl) (by kernel_rfl) ?_
    repeat (first | go_big_quiet_step (fail) | quiet_step (fail))
    refine wpQuiet_nil ?_
    intro w6 hw'
    obtain ⟨⟨dq, osq⟩, hw''⟩ := hw'
    have hbq : Below wr.heap.size wr w6 := by rw [hw'']; exact below_regrown _ _ _
    clear hw'' e2 x2 x14 y6
    have hb6 := hb5.trans (hbq.mono' (by have := hb5.size; omega))
    have X6 : Hid _ := below_blk hbq X5.out (by omega)
    have E6 : Hid _ := below_blk hbq E5.out (by omega)
    have Z6 : Hid _ := below_blk hbq Z5.out (by omega)
    have RS6 : Hid (RowIs w6 48 13 g1 n1 k1 (svcsV B.svcs)) := RS5.out.below hbq RS5.out.lt
    have RC6 : Hid (RowIs w6 88 7 g2 n2 k2 (cpsV B.cps)) := RC5.out.below hbq RC5.out.lt
    have RB6 : Hid (RowIs w6 86 2 gC (i + mm) capC (btsV (B.bts.take i) ++ btsV (B.bts.drop (i + 1)))) := RB5.out.below hbq RB5.out.lt
    have R6 : Hid (RowIs w6 88 7 g n cap (cpsV ((B.cps.take k).filter (fun c : Cp => !(c.berth.toList == nm.toList))))) := R5.out.below hbq R5.out.lt
    have hgl6 := R6.out.lt
    have hz6 : w.heap.size + 1 + 1 < w6.heap.size := (Array.getElem?_eq_some_iff.1 Z6.out).1
    clear hbq hb5 X5 E5 Z5 RS5 RC5 RB5 R5 hgl5 hz5
    cases hq : (c.berth.toList == nm.toList)
    ·have HF1 : Hid (((B.cps.take (k + 1)).filter (fun c : Cp => !(c.berth.toList == nm.toList))) = ((B.cps.take k).filter (fun c : Cp => !(c.berth.toList == nm.toList))) ++ [c]) := by unfold Hid; rw [HFS.out, hq]; rfl
     have hqn : (c.berth.toList != nm.toList) = true := by simp [bne, hq]
     have e2 := blk_cell X6.out 2 rfl
     have y0 : w6.cell? ⟨g2, k * 7, none⟩ = some (.string c.service) := RC6.out.cell (flat_at (c := Cp.cells) (n := 7) (fun _ => rfl) B.cps k c 0 (.string c.service) HCK.out rfl)
     have y1 : w6.cell? ⟨g2, k * 7 + 1, none⟩ = some (.int .i64 c.number) := RC6.out.cell (flat_at (c := Cp.cells) (n := 7) (fun _ => rfl) B.cps k c 1 (.int .i64 c.number) HCK.out rfl)
     have y2 : w6.cell? ⟨g2, k * 7 + 2, none⟩ = some (.int .i64 c.version) := RC6.out.cell (flat_at (c := Cp.cells) (n := 7) (fun _ => rfl) B.cps k c 2 (.int .i64 c.version) HCK.out rfl)
     have y3 : w6.cell? ⟨g2, k * 7 + 3, none⟩ = some (.int .i64 c.image) := RC6.out.cell (flat_at (c := Cp.cells) (n := 7) (fun _ => rfl) B.cps k c 3 (.int .i64 c.image) HCK.out rfl)
     have y4 : w6.cell? ⟨g2, k * 7 + 4, none⟩ = some (.int .i64 c.state) := RC6.out.cell (flat_at (c := Cp.cells) (n := 7) (fun _ => rfl) B.cps k c 4 (.int .i64 c.state) HCK.out rfl)
     have y5 : w6.cell? ⟨g2, k * 7 + 5, none⟩ = some (.bool c.ending) := RC6.out.cell (flat_at (c := Cp.cells) (n := 7) (fun _ => rfl) B.cps k c 5 (.bool c.ending) HCK.out rfl)
     have y6 : w6.cell? ⟨g2, k * 7 + 6, none⟩ = some (.string c.berth) := RC6.out.cell (flat_at (c := Cp.cells) (n := 7) (fun _ => rfl) B.cps k c 6 (.string c.berth) HCK.out rfl)
     go_wp2_with (at_builtin; refine wpList_append_row rfl (.tmp 109) (.tmp 115) 31 rfl 88 _ 7 72 Tryz.underlying31 Tryz.infoCpX rfl g n cap _ rfl (R6.out.below (below_box w6 _) R6.out.lt) ⟨w6.heap.size, 0, none⟩ 1 1 (#[.string c.service, .int .i64 c.number, .int .i64 c.version, .int .i64 c.image, .int .i64 c.state, .bool c.ending, .string c.berth] : Array Value).toList rfl rfl (news_row (heap_alloc_new w6 _)) (fun u hu => (Array.all_eq_true_iff_forall_mem.1 (one_CpX c)) u (by simpa using hu)) (by unfold maxLen; omega) (by omega) ?_; intro g' cap' w7 hg' hrow' hgr; have hsz : (w6.alloc (.cells #[.string c.service, .int .i64 c.number, .int .i64 c.version, .int .i64 c.image, .int .i64 c.state, .bool c.ending, .string c.berth] 88)).heap.size = w6.heap.size + 1 := (by show (w6.heap.push _).size = _; simp); rw [hsz] at hg'; have HKP : Hid (∀ q, q < w6.heap.size → q ≠ g → w7.heap[q]? = w6.heap[q]?) := (fun q hq hne => (hgr.block q (by rw [hsz]; omega) (fun e => hne (Option.some.inj e))).trans (below_blk (below_box w6 (.cells #[.string c.service, .int .i64 c.number, .int .i64 c.version, .int .i64 c.image, .int .i64 c.state, .bool c.ending, .string c.berth] 88)) rfl hq)); have hb7 : Below w.heap.size w w7 := (hb6.alloc (by omega) _).trans (below_of_grown hgr (by omega) (by rw [hsz]; omega)); have R7 : Hid (RowIs w7 88 7 g' (n + 1) cap' (cpsV ((B.cps.take k).filter (fun c : Cp => !(c.berth.toList == nm.toList))) ++ (#[.string c.service, .int .i64 c.number, .int .i64 c.version, .int .i64 c.image, .int .i64 c.state, .bool c.ending, .string c.berth] : Array Value).toList)) := hrow'; clear hrow' hgr hsz)
     have hgC6 := RB6.out.lt
     have hgC7 : gC ≠ g := RB6.out.ne R6.out (by decide)
     have hne0 : w.heap.size ≠ g := by omega
     have hne1 : w.heap.size + 1 ≠ g := by omega
     have hne2 : w.heap.size + 1 + 1 ≠ g := by omega
     have hl1' := RS6.out.lt
     have hl2' := RC6.out.lt
     go_roundw
     case rel => exact ⟨k + 1, g', n + 1, cap', by omega, by go_num, rfl, by unfold Hid; rw [HF1.out, List.length_append, HNN.out]; rfl, by omega, by omega, hb7, (HKP.out _ (by omega) hne0).trans X6.out, (HKP.out _ (by omega) hne1).trans E6.out, (HKP.out _ (by omega) hne2).trans Z6.out, RS6.out.blk (HKP.out _ hl1' (by omega)), RC6.out.blk (HKP.out _ hl2' (by omega)), RB6.out.blk (HKP.out _ hgC6 hgC7), by unfold Hid; rw [HF1.out, cpsV_addX]; exact R7.out⟩
     case measure => simp [intOf]; omega
    ·have HF1 : Hid (((B.cps.take (k + 1)).filter (fun c : Cp => !(c.berth.toList == nm.toList))) = ((B.cps.take k).filter (fun c : Cp => !(c.berth.toList == nm.toList)))) := by unfold Hid; rw [HFS.out, hq]; simp
     have hqn : (c.berth.toList != nm.toList) = false := by simp [bne, hq]
     go_wp2
     go_roundw
     case rel => exact ⟨k + 1, g, n, cap, by omega, by go_num, rfl, by unfold Hid; rw [HF1.out]; exact HNN.out, by omega, hgg, hb6, X6, E6, Z6, RS6, RC6, RB6, by unfold Hid; rw [HF1.out]; exact R6.out⟩
     case measure => simp [intOf]; omega
   ·have HFE : Hid (((B.cps.take k).filter (fun c : Cp => !(c.berth.toList == nm.toList))) = B.cps.filter (fun c : Cp => !(c.berth.toList == nm.toList))) := by unfold Hid; rw [List.take_of_length_le (by rw [HN2.out]; omega)]
    obtain ⟨w6, hw6⟩ : ∃ q, wr = q := ⟨_, rfl⟩
    rw [hw6] at hb5 X5 E5 Z5 RS5 RC5 RB5 R5 hgl5 hz5 e2 ⊢
    clear hw6
    have hnC : gC ≠ g := RB5.out.ne R5.out (by decide)
    go_upto_region 25 with fail
    clear e2
    go_wp2_with (first
     | (refine wpList_store_one rfl 31 (.tmp 118) (.tmp 117) rfl w.heap.size 2 (.slice (some ⟨g, 0, none⟩) n cap) rfl rfl Tryz.infosCpsX rfl rfl 34 #[.int .i64 B.now, .slice (some ⟨g1, 0, none⟩) n1 k1, .slice (some ⟨g2, 0, none⟩) n2 k2, .slice (some ⟨gC, 0, none⟩) (i + mm) capC] X5.out (Nat.le_of_ble_eq_true rfl) ?_; intro w7 hz on; have X7 : Hid (w7.heap[w.heap.size]? = some (.cells #[.int .i64 B.now, .slice (some ⟨g1, 0, none⟩) n1 k1, .slice (some ⟨g, 0, none⟩) n cap, .slice (some ⟨gC, 0, none⟩) (i + mm) capC] 34 (0, 0))) := hz; have Z7 : Hid _ := (on.other (w.heap.size + 1 + 1) (by omega)).trans Z5.out; have hb7 := hb5.trans (on.below.mono' (by omega)); have RS7 : Hid (RowIs w7 48 13 g1 n1 k1 (svcsV B.svcs)) := RS5.out.blk (on.other g1 (by omega)); have RB7 : Hid (RowIs w7 86 2 gC (i + mm) capC (btsV (B.bts.take i) ++ btsV (B.bts.drop (i + 1)))) := RB5.out.blk (on.other gC (by omega)); have R7 : Hid (RowIs w7 88 7 g n cap (cpsV ((B.cps.take k).filter (fun c : Cp => !(c.berth.toList == nm.toList))))) := R5.out.blk (on.other g (by omega)); clear hz on)
     | (refine wpList_store_one rfl 3 (.tmp 159) (.tmp 158) rfl w.heap.size 0 (.int .i64 (B.now + 1)) rfl rfl Tryz.infosIntX rfl rfl 34 #[.int .i64 B.now, .slice (some ⟨g1, 0, none⟩) n1 k1, .slice (some ⟨g, 0, none⟩) n cap, .slice (some ⟨gC, 0, none⟩) (i + mm) capC] X7.out (Nat.le_of_ble_eq_true rfl) ?_; intro w8 hz on; have X8 : Hid (w8.heap[w.heap.size]? = some (.cells #[.int .i64 (B.now + 1), .slice (some ⟨g1, 0, none⟩) n1 k1, .slice (some ⟨g, 0, none⟩) n cap, .slice (some ⟨gC, 0, none⟩) (i + mm) capC] 34 (0, 0))) := hz; have Z8 : Hid _ := (on.other (w.heap.size + 1 + 1) (by omega)).trans Z7.out; have hb8 := hb7.trans (on.below.mono' (by omega)); have RS8 : Hid (RowIs w8 48 13 g1 n1 k1 (svcsV B.svcs)) := RS7.out.blk (on.other g1 (by omega)); have RB8 : Hid (RowIs w8 86 2 gC (i + mm) capC (btsV (B.bts.take i) ++ btsV (B.bts.drop (i + 1)))) := RB7.out.blk (on.other gC (by omega)); have R8 : Hid (RowIs w8 88 7 g n cap (cpsV ((B.cps.take k).filter (fun c : Cp => !(c.berth.toList == nm.toList))))) := R7.out.blk (on.other g (by omega)); clear hz on)
     | (refine wpList_load_row rfl 34 (.tmp 2) rfl w.heap.size rfl 34 #[.int .i64 (B.now + 1), .slice (some ⟨g1, 0, none⟩) n1 k1, .slice (some ⟨g, 0, none⟩) n cap, .slice (some ⟨gC, 0, none⟩) (i + mm) capC] (0, 0) _ X8.out Tryz.underlying34 rfl Tryz.infosBkX ?_)
     | (refine wpList_store_only rfl 34 (.tmp 4) (.tmp 160) rfl (w.heap.size + 1 + 1) 0 #[.int .i64 (B.now + 1), .slice (some ⟨g1, 0, none⟩) n1 k1, .slice (some ⟨g, 0, none⟩) n cap, .slice (some ⟨gC, 0, none⟩) (i + mm) capC] rfl rfl 34 #[.int .i64 0, .slice none 0 0, .slice none 0 0, .slice none 0 0] Z8.out Tryz.infosBkX (Nat.le_of_ble_eq_true rfl) (by simp [Value.oneCell']) ?_; intro w9 hz on; have Z9 : Hid (w9.heap[w.heap.size + 1 + 1]? = some (.cells #[.int .i64 (B.now + 1), .slice (some ⟨g1, 0, none⟩) n1 k1, .slice (some ⟨g, 0, none⟩) n cap, .slice (some ⟨gC, 0, none⟩) (i + mm) capC] 34 (0, 0))) := hz; have hb9 := hb8.trans (on.below.mono' (by omega)); have RS9 : Hid (RowIs w9 48 13 g1 n1 k1 (svcsV B.svcs)) := RS8.out.blk (on.other g1 (by omega)); have RB9 : Hid (RowIs w9 86 2 gC (i + mm) capC (btsV (B.bts.take i) ++ btsV (B.bts.drop (i + 1)))) := RB8.out.blk (on.other gC (by omega)); have R9 : Hid (RowIs w9 88 7 g n cap (cpsV ((B.cps.take k).filter (fun c : Cp => !(c.berth.toList == nm.toList))))) := R8.out.blk (on.other g (by omega)); clear hz on))
    exact bodyPost_ret (v := .tuple #[.agg #[.int .i64 (B.now + 1), .slice (some ⟨g1, 0, none⟩) n1 k1, .slice (some ⟨g, 0, none⟩) n cap, .slice (some ⟨gC, 0, none⟩) (i + mm) capC], .int .i64 0]) (results_cell_tmp rfl _ _ (w.heap.size + 1 + 1) _ _ _ _ rfl Z9.out Tryz.underlying34 rfl Tryz.infosBkX _ rfl) rfl ⟨_, _, _, _, _, _, _, _, _, _, by rw [HSE.out], fun _ => by rw [HSE.out]; exact ⟨rfl, HN1.out.symm, by rw [HNN.out, HFE.out], by simp only [List.length_append, HTL.out, HRL.out], RS9.out, by rw [← HFE.out]; exact R9.out, by have h := RB9.out; rw [show btsV (B.bts.take i) ++ btsV (B.bts.drop (i + 1)) = btsV (B.bts.take i ++ B.bts.drop (i + 1)) by simp [btsV]] at h; exact h⟩, keepBut_of hb9⟩
end Go.Proofs.YtbceafpodamnfabGreat
