/-
  My own: Sj, Sk, Lh, Yj.
-/
import Derived.Test.YtbceafpodamnfabGreatA27
import Derived.Test.YtbceafpodamnfabGreatA03
import Derived.Test.YtbceafpodamnfabGreatA04
import Derived.Test.YtbceafpodamnfabGreatA08
import Derived.Test.YtbceafpodamnfabGreatA07
import Derived.OrdersIn
import Derived.OwnWalkIn
import Derived.RangeFuncCalls
import Derived.Test.YtbceafpodamnfabGreatA06
set_option linter.unusedVariables false
set_option linter.unusedSimpArgs false
/-
  My own. The program's stewards: scaler.
-/
namespace Go.Proofs.YtbceafpodamnfabGreat
open Go.RowKit Go.Sort

def scalerO (s : Svc) : Option Ac :=
  if s.gone = true ∨ s.per = 0 then none else if (scalerA s (desired s)).scale = true then some (scalerA s (desired s)) else none
theorem scalerO_yes (s : Svc) (d m q : Int) (hg : s.gone = false) (hp : s.per ≠ 0) (hd : desired s = d) (hA : scalerA s d = ⟨s.name, s.version, 0, m, q, true, [], false⟩) : scalerO s = some ⟨s.name, s.version, 0, m, q, true, [], false⟩ := by
  unfold scalerO; rw [if_neg (by simp [hg, hp]), hd, hA, if_pos rfl]
theorem scalerO_no (s : Svc) (d : Int) (hg : s.gone = false) (hp : s.per ≠ 0) (hd : desired s = d) (hA : scalerA s d = a0 s) : scalerO s = none := by
  unfold scalerO; rw [if_neg (by simp [hg, hp]), hd, hA]; rfl

set_option maxRecDepth 100000 in
set_option maxHeartbeats 16000000 in
theorem scaler_any (s : Svc) (N : Cnt) (dr : Int) (l : List Sn) (lo : Nat) (al : Option Addr) (cl : Nat) (w : World) (_hl : l.length ≤ 1048576) (hsi : SvcIn s) (hper : s.per ≠ 0 → 0 < s.per ∧ PerIn s ∧ s.least ≤ s.most) (_hN0 : 0 ≤ N.live) (_hN1 : N.live ≤ 1048576) (_hr0 : 0 ≤ N.ready) (_hr1 : N.ready ≤ 1048576) (hL : OwnSn lo w al cl l) :
    Calls Tryz.prog 76 #[.agg #[.string s.name, .int .i64 s.version, .bool s.gone, .int .i64 s.image, .int .i64 s.want, .int .i64 s.down, .int .i64 s.over, .int .i64 s.next, .int .i64 s.per, .int .i64 s.least, .int .i64 s.most, .int .i64 s.load, .int .i64 s.cool, .int .i64 N.live, .int .i64 N.ready, .int .i64 N.old, .int .i64 N.failed, .int .i64 N.ending, .int .i64 dr, .slice al l.length cl]] w fun e w' => Asked w.heap.size w' e (scalerO s) ∧ Below w.heap.size w w' := by
  have HL : Hid (OwnSn lo w al cl l) := hL
  have hw0 := hsi.want0
  have hw1 := hsi.want1
  have ho0 := hsi.over0
  have ho1 := hsi.over1
  have HSI : Hid (SvcIn s) := hsi
  have HPER : Hid (s.per ≠ 0 → 0 < s.per ∧ PerIn s ∧ s.least ≤ s.most) := hper
  clear hL hsi hper
  obtain ⟨W0, hW0, t0, t1, hz0, hz0', hb0⟩ := two_newW w (.cells #[.string s.name, .int .i64 s.version, .bool s.gone, .int .i64 s.image, .int .i64 s.want, .int .i64 s.down, .int .i64 s.over, .int .i64 s.next, .int .i64 s.per, .int .i64 s.least, .int .i64 s.most, .int .i64 s.load, .int .i64 s.cool, .int .i64 N.live, .int .i64 N.ready, .int .i64 N.old, .int .i64 N.failed, .int .i64 N.ending, .int .i64 dr, .slice al l.length cl] 108) (.cells #[.string ⟨#[]⟩, .int .i64 0, .int .i64 0, .int .i64 0, .int .i64 0, .bool false, .slice none 0 0, .bool false] 59)
  have T0 : Hid _ := t0
  have T1 : Hid _ := t1
  clear t0 t1
  go_enter Tryz.func76, Tryz.ntmps76
  go_upto_region 1 with fail
  clear hW0
  obtain ⟨W1, hW1⟩ : ∃ W, W0.alloc (.cells #[.string s.name, .int .i64 s.version, .bool s.gone, .int .i64 s.image, .int .i64 s.want, .int .i64 s.down, .int .i64 s.over, .int .i64 s.next, .int .i64 s.per, .int .i64 s.least, .int .i64 s.most, .int .i64 s.load, .int .i64 s.cool] 48) = W := ⟨_, rfl⟩
  have hlt0 : w.heap.size < W0.heap.size := by omega
  have V1 : Hid _ := heap_alloc_new W0 (.cells #[.string s.name, .int .i64 s.version, .bool s.gone, .int .i64 s.image, .int .i64 s.want, .int .i64 s.down, .int .i64 s.over, .int .i64 s.next, .int .i64 s.per, .int .i64 s.least, .int .i64 s.most, .int .i64 s.load, .int .i64 s.cool] 48)
  have hbb1 := below_box W0 (.cells #[.string s.name, .int .i64 s.version, .bool s.gone, .int .i64 s.image, .int .i64 s.want, .int .i64 s.down, .int .i64 s.over, .int .i64 s.next, .int .i64 s.per, .int .i64 s.least, .int .i64 s.most, .int .i64 s.load, .int .i64 s.cool] 48)
  have hbw1 := hb0.trans (hbb1.mono hb0.size)
  have hpl : W0.heap.size < (W0.alloc (.cells #[.string s.name, .int .i64 s.version, .bool s.gone, .int .i64 s.image, .int .i64 s.want, .int .i64 s.down, .int .i64 s.over, .int .i64 s.next, .int .i64 s.per, .int .i64 s.least, .int .i64 s.most, .int .i64 s.load, .int .i64 s.cool] 48)).heap.size := by simp
  have S1 : Hid _ := below_blk hbb1 T0.out (by omega)
  have R1 : Hid _ := below_blk hbb1 T1.out (by omega)
  rw [hW1] at V1 hbb1 hbw1 hpl S1 R1
  have z0 := blk_cell T0.out 0 rfl
  have z1 := blk_cell T0.out 1 rfl
  have z2 := blk_cell T0.out 2 rfl
  have z3 := blk_cell T0.out 3 rfl
  have z4 := blk_cell T0.out 4 rfl
  have z5 := blk_cell T0.out 5 rfl
  have z6 := blk_cell T0.out 6 rfl
  have z7 := blk_cell T0.out 7 rfl
  have z8 := blk_cell T0.out 8 rfl
  have z9 := blk_cell T0.out 9 rfl
  have z10 := blk_cell T0.out 10 rfl
  have z11 := blk_cell T0.out 11 rfl
  have z12 := blk_cell T0.out 12 rfl
  go_upto_region 2 with fail
  clear hW1 z0 z1 z2 z3 z4 z5 z6 z7 z8 z9 z10 z11 z12
  obtain ⟨p, hpe, hpz⟩ : ∃ p, W0.heap.size = p ∧ w.heap.size + 1 + 1 ≤ p := ⟨_, rfl, hz0⟩
  rw [hpe] at V1 hpl
  rw [hpe]
  clear hbb1 T0 T1 hb0 hpe hz0 hz0' hlt0 W0
  have v2a := blk_cell V1.out 2 rfl
  have v4 := blk_cell V1.out 4 rfl; have v8 := blk_cell V1.out 8 rfl; have v9 := blk_cell V1.out 9 rfl; have v10 := blk_cell V1.out 10 rfl; have v12 := blk_cell V1.out 12 rfl
  rcases Bool.eq_false_or_eq_true s.gone with hgo0 | hgo0
  · have hgo : Hid (s.gone = true) := hgo0
    have v2 : W1.cell? ⟨p, 2, none⟩ = some (.bool true) := by rw [hgo0] at v2a; exact v2a
    clear hgo0 v2a
    have HN : Hid (scalerO s = none) := by unfold Hid scalerO; rw [if_pos (.inl hgo.out)]
    go_wp2_with (first
      | (refine wpList_store_only rfl 59 (.tmp 2) (.tmp 15) rfl (w.heap.size + 1) 0 #[.string ⟨#[]⟩, .int .i64 0, .int .i64 0, .int .i64 0, .int .i64 0, .bool false, .slice none 0 0, .bool false] rfl rfl 59 #[.string ⟨#[]⟩, .int .i64 0, .int .i64 0, .int .i64 0, .int .i64 0, .bool false, .slice none 0 0, .bool false] R1.out Tryz.infosActS (Nat.le_of_ble_eq_true rfl) (by simp [Value.oneCell']) ?_; intro wf hz on; have RF : Hid (wf.heap[(w.heap.size + 1)]? = some (.cells #[.string ⟨#[]⟩, .int .i64 0, .int .i64 0, .int .i64 0, .int .i64 0, .bool false, .slice none 0 0, .bool false] 59 (0, 0))) := hz; have BF := hbw1.trans (on.below.mono (by omega)); have p0 := blk_cell RF.out 0 rfl; have p1 := blk_cell RF.out 1 rfl; have p2 := blk_cell RF.out 2 rfl; have p3 := blk_cell RF.out 3 rfl; have p4 := blk_cell RF.out 4 rfl; have p5 := blk_cell RF.out 5 rfl; have p6 := blk_cell RF.out 6 rfl; have p7 := blk_cell RF.out 7 rfl; clear hz on))
    refine bodyPost_ret (v := .tuple #[.agg #[.string ⟨#[]⟩, .int .i64 0, .int .i64 0, .int .i64 0, .int .i64 0, .bool false, .slice none 0 0, .bool false], .bool false]) (by simp [results, Tryz.results76, go_sem, p0, p1, p2, p3, p4, p5, p6, p7]) rfl ⟨by rw [HN.out]; exact asked_no _ _, BF⟩
  have hgo : Hid (s.gone = false) := hgo0
  have v2 : W1.cell? ⟨p, 2, none⟩ = some (.bool false) := by rw [hgo0] at v2a; exact v2a
  clear hgo0 v2a
  by_cases hp : s.per = 0
  · have HN : Hid (scalerO s = none) := by unfold Hid scalerO; rw [if_pos (.inr hp)]
    have hp1 : (s.per == 0) = true := by simp [hp]
    clear hp
    go_wp2_with (first
      | (refine wpList_store_only rfl 59 (.tmp 2) (.tmp 15) rfl (w.heap.size + 1) 0 #[.string ⟨#[]⟩, .int .i64 0, .int .i64 0, .int .i64 0, .int .i64 0, .bool false, .slice none 0 0, .bool false] rfl rfl 59 #[.string ⟨#[]⟩, .int .i64 0, .int .i64 0, .int .i64 0, .int .i64 0, .bool false, .slice none 0 0, .bool false] R1.out Tryz.infosActS (Nat.le_of_ble_eq_true rfl) (by simp [Value.oneCell']) ?_; intro wf hz on; have RF : Hid (wf.heap[(w.heap.size + 1)]? = some (.cells #[.string ⟨#[]⟩, .int .i64 0, .int .i64 0, .int .i64 0, .int .i64 0, .bool false, .slice none 0 0, .bool false] 59 (0, 0))) := hz; have BF := hbw1.trans (on.below.mono (by omega)); have p0 := blk_cell RF.out 0 rfl; have p1 := blk_cell RF.out 1 rfl; have p2 := blk_cell RF.out 2 rfl; have p3 := blk_cell RF.out 3 rfl; have p4 := blk_cell RF.out 4 rfl; have p5 := blk_cell RF.out 5 rfl; have p6 := blk_cell RF.out 6 rfl; have p7 := blk_cell RF.out 7 rfl; clear hz on))
    refine bodyPost_ret (v := .tuple #[.agg #[.string ⟨#[]⟩, .int .i64 0, .int .i64 0, .int .i64 0, .int .i64 0, .bool false, .slice none 0 0, .bool false], .bool false]) (by simp [results, Tryz.results76, go_sem, p0, p1, p2, p3, p4, p5, p6, p7]) rfl ⟨by rw [HN.out]; exact asked_no _ _, BF⟩
  have hp1 : (s.per == 0) = false := by simp [hp]
  obtain ⟨hp0, hq, hlm⟩ := HPER.out hp
  have HP : Hid (s.per ≠ 0) := hp
  clear hp HPER
  have hc0 := hq.cool0
  have hc1 := hq.cool1
  obtain ⟨d, HD, HW⟩ : ∃ d, Hid (desired s = d) ∧ Hid (∀ W : World, Calls Tryz.prog 118 #[.agg #[.string s.name, .int .i64 s.version, .bool s.gone, .int .i64 s.image, .int .i64 s.want, .int .i64 s.down, .int .i64 s.over, .int .i64 s.next, .int .i64 s.per, .int .i64 s.least, .int .i64 s.most, .int .i64 s.load, .int .i64 s.cool]] W fun e w' => e = .returned (.int .i64 d) ∧ Below W.heap.size W w') := ⟨_, rfl, fun W => dueWant_any s W hq.load0 hq.load1 hp0 hq.per1 hq.least0 hq.least1 hq.most0 hq.most1 hlm⟩
  have hl0 := hq.least0
  have hl1 := hq.least1
  have hm0 := hq.most0
  have hm1 := hq.most1
  clear hq
  go_wp2_with (first
    | (refine wpList_load_row rfl 48 (.tmp 4) rfl p rfl 48 #[.string s.name, .int .i64 s.version, .bool s.gone, .int .i64 s.image, .int .i64 s.want, .int .i64 s.down, .int .i64 s.over, .int .i64 s.next, .int .i64 s.per, .int .i64 s.least, .int .i64 s.most, .int .i64 s.load, .int .i64 s.cool] (0, 0) _ V1.out Tryz.underlying48 rfl Tryz.infosSvcS ?_))
  refine (HW.out _).mono ?_
  rintro e w2 ⟨rfl, hb2⟩
  have hz2 := hb2.size
  have hzw1 := hbw1.size
  have S2 : Hid _ := below_blk hb2 S1.out (by omega)
  have R2 : Hid _ := below_blk hb2 R1.out (by omega)
  have V2 : Hid _ := below_blk hb2 V1.out hpl
  have hbw2 := hbw1.trans (hb2.mono hbw1.size)
  clear hb2 hbw1 S1 R1 V1 v2 v4 v8 v9 v10 v12 HW
  have v4 := blk_cell V2.out 4 rfl; have v9 := blk_cell V2.out 9 rfl; have v10 := blk_cell V2.out 10 rfl; have v12 := blk_cell V2.out 12 rfl
  go_wp2_with fail
  refine (within_any _ _ _ _).mono ?_
  rintro e w' ⟨rfl, rfl⟩
  by_cases hwl : s.want < s.least
  · rw [show inB s.want s.least s.most = false from (by unfold inB; simp; omega)]
    have HE : Hid (scalerA s d = ⟨s.name, s.version, 0, s.least, 0, true, [], false⟩) := by unfold Hid scalerA; rw [if_pos hwl]; rfl
    have HO : Hid _ := scalerO_yes s d (s.least) (0) hgo.out HP.out HD.out HE.out
    go_wp2_with (first
      | (refine wpList_load_row rfl 108 (.tmp 1) rfl w.heap.size rfl 108 #[.string s.name, .int .i64 s.version, .bool s.gone, .int .i64 s.image, .int .i64 s.want, .int .i64 s.down, .int .i64 s.over, .int .i64 s.next, .int .i64 s.per, .int .i64 s.least, .int .i64 s.most, .int .i64 s.load, .int .i64 s.cool, .int .i64 N.live, .int .i64 N.ready, .int .i64 N.old, .int .i64 N.failed, .int .i64 N.ending, .int .i64 dr, .slice al l.length cl] (0, 0) _ S2.out Tryz.underlying108 rfl Tryz.infosSight ?_))
    refine (scale_any s N dr al l.length cl (s.least) (0) _).mono ?_
    rintro e w3 ⟨rfl, hb3⟩
    have hz3 := hb3.size
    have R3 : Hid _ := below_blk hb3 R2.out (by omega)
    have hbw3 := hbw2.trans (hb3.mono hbw2.size)
    clear R2 S2 V2 hb3 hbw2 v4 v9 v10 v12
    go_wp2_with (first
      | (refine wpList_store_only rfl 59 (.tmp 2) (.tmp 37) rfl (w.heap.size + 1) 0 #[.string s.name, .int .i64 s.version, .int .i64 0, .int .i64 (s.least), .int .i64 (0), .bool true, .slice none 0 0, .bool false] rfl rfl 59 #[.string ⟨#[]⟩, .int .i64 0, .int .i64 0, .int .i64 0, .int .i64 0, .bool false, .slice none 0 0, .bool false] R3.out Tryz.infosActS (Nat.le_of_ble_eq_true rfl) (by simp [Value.oneCell']) ?_; intro wf hz on; have RF : Hid (wf.heap[(w.heap.size + 1)]? = some (.cells #[.string s.name, .int .i64 s.version, .int .i64 0, .int .i64 (s.least), .int .i64 (0), .bool true, .slice none 0 0, .bool false] 59 (0, 0))) := hz; have BF := hbw3.trans (on.below.mono (by omega)); have p0 := blk_cell RF.out 0 rfl; have p1 := blk_cell RF.out 1 rfl; have p2 := blk_cell RF.out 2 rfl; have p3 := blk_cell RF.out 3 rfl; have p4 := blk_cell RF.out 4 rfl; have p5 := blk_cell RF.out 5 rfl; have p6 := blk_cell RF.out 6 rfl; have p7 := blk_cell RF.out 7 rfl; clear hz on))
    refine bodyPost_ret (v := .tuple #[.agg #[.string s.name, .int .i64 s.version, .int .i64 0, .int .i64 (s.least), .int .i64 (0), .bool true, .slice none 0 0, .bool false], .bool true]) (by simp [results, Tryz.results76, go_sem, p0, p1, p2, p3, p4, p5, p6, p7]) rfl ⟨by rw [HO.out]; exact ⟨⟨s.name, s.version, 0, s.least, 0, true, [], false⟩, none, 0, rfl, World.ownsRow_nil _ _ _ _, fun A' h => Option.some.inj h⟩, BF⟩
  by_cases hwm : s.most < s.want
  · rw [show inB s.want s.least s.most = false from (by unfold inB; simp; omega)]
    have HE : Hid (scalerA s d = ⟨s.name, s.version, 0, s.most, 0, true, [], false⟩) := by unfold Hid scalerA; rw [if_neg hwl, if_pos hwm]; rfl
    have HO : Hid _ := scalerO_yes s d (s.most) (0) hgo.out HP.out HD.out HE.out
    go_wp2_with (first
      | (refine wpList_load_row rfl 108 (.tmp 1) rfl w.heap.size rfl 108 #[.string s.name, .int .i64 s.version, .bool s.gone, .int .i64 s.image, .int .i64 s.want, .int .i64 s.down, .int .i64 s.over, .int .i64 s.next, .int .i64 s.per, .int .i64 s.least, .int .i64 s.most, .int .i64 s.load, .int .i64 s.cool, .int .i64 N.live, .int .i64 N.ready, .int .i64 N.old, .int .i64 N.failed, .int .i64 N.ending, .int .i64 dr, .slice al l.length cl] (0, 0) _ S2.out Tryz.underlying108 rfl Tryz.infosSight ?_))
    refine (scale_any s N dr al l.length cl (s.most) (0) _).mono ?_
    rintro e w3 ⟨rfl, hb3⟩
    have hz3 := hb3.size
    have R3 : Hid _ := below_blk hb3 R2.out (by omega)
    have hbw3 := hbw2.trans (hb3.mono hbw2.size)
    clear R2 S2 V2 hb3 hbw2 v4 v9 v10 v12
    go_wp2_with (first
      | (refine wpList_store_only rfl 59 (.tmp 2) (.tmp 37) rfl (w.heap.size + 1) 0 #[.string s.name, .int .i64 s.version, .int .i64 0, .int .i64 (s.most), .int .i64 (0), .bool true, .slice none 0 0, .bool false] rfl rfl 59 #[.string ⟨#[]⟩, .int .i64 0, .int .i64 0, .int .i64 0, .int .i64 0, .bool false, .slice none 0 0, .bool false] R3.out Tryz.infosActS (Nat.le_of_ble_eq_true rfl) (by simp [Value.oneCell']) ?_; intro wf hz on; have RF : Hid (wf.heap[(w.heap.size + 1)]? = some (.cells #[.string s.name, .int .i64 s.version, .int .i64 0, .int .i64 (s.most), .int .i64 (0), .bool true, .slice none 0 0, .bool false] 59 (0, 0))) := hz; have BF := hbw3.trans (on.below.mono (by omega)); have p0 := blk_cell RF.out 0 rfl; have p1 := blk_cell RF.out 1 rfl; have p2 := blk_cell RF.out 2 rfl; have p3 := blk_cell RF.out 3 rfl; have p4 := blk_cell RF.out 4 rfl; have p5 := blk_cell RF.out 5 rfl; have p6 := blk_cell RF.out 6 rfl; have p7 := blk_cell RF.out 7 rfl; clear hz on))
    refine bodyPost_ret (v := .tuple #[.agg #[.string s.name, .int .i64 s.version, .int .i64 0, .int .i64 (s.most), .int .i64 (0), .bool true, .slice none 0 0, .bool false], .bool true]) (by simp [results, Tryz.results76, go_sem, p0, p1, p2, p3, p4, p5, p6, p7]) rfl ⟨by rw [HO.out]; exact ⟨⟨s.name, s.version, 0, s.most, 0, true, [], false⟩, none, 0, rfl, World.ownsRow_nil _ _ _ _, fun A' h => Option.some.inj h⟩, BF⟩
  rw [show inB s.want s.least s.most = true from (by unfold inB; simp; omega)]
  by_cases hdw : s.want < d
  · have HE : Hid (scalerA s d = ⟨s.name, s.version, 0, d, 0, true, [], false⟩) := by unfold Hid scalerA; rw [if_neg hwl, if_neg hwm, if_pos hdw]; rfl
    have HO : Hid _ := scalerO_yes s d (d) (0) hgo.out HP.out HD.out HE.out
    go_wp2_with (first
      | (refine wpList_load_row rfl 108 (.tmp 1) rfl w.heap.size rfl 108 #[.string s.name, .int .i64 s.version, .bool s.gone, .int .i64 s.image, .int .i64 s.want, .int .i64 s.down, .int .i64 s.over, .int .i64 s.next, .int .i64 s.per, .int .i64 s.least, .int .i64 s.most, .int .i64 s.load, .int .i64 s.cool, .int .i64 N.live, .int .i64 N.ready, .int .i64 N.old, .int .i64 N.failed, .int .i64 N.ending, .int .i64 dr, .slice al l.length cl] (0, 0) _ S2.out Tryz.underlying108 rfl Tryz.infosSight ?_))
    refine (scale_any s N dr al l.length cl (d) (0) _).mono ?_
    rintro e w3 ⟨rfl, hb3⟩
    have hz3 := hb3.size
    have R3 : Hid _ := below_blk hb3 R2.out (by omega)
    have hbw3 := hbw2.trans (hb3.mono hbw2.size)
    clear R2 S2 V2 hb3 hbw2 v4 v9 v10 v12
    go_wp2_with (first
      | (refine wpList_store_only rfl 59 (.tmp 2) (.tmp 47) rfl (w.heap.size + 1) 0 #[.string s.name, .int .i64 s.version, .int .i64 0, .int .i64 (d), .int .i64 (0), .bool true, .slice none 0 0, .bool false] rfl rfl 59 #[.string ⟨#[]⟩, .int .i64 0, .int .i64 0, .int .i64 0, .int .i64 0, .bool false, .slice none 0 0, .bool false] R3.out Tryz.infosActS (Nat.le_of_ble_eq_true rfl) (by simp [Value.oneCell']) ?_; intro wf hz on; have RF : Hid (wf.heap[(w.heap.size + 1)]? = some (.cells #[.string s.name, .int .i64 s.version, .int .i64 0, .int .i64 (d), .int .i64 (0), .bool true, .slice none 0 0, .bool false] 59 (0, 0))) := hz; have BF := hbw3.trans (on.below.mono (by omega)); have p0 := blk_cell RF.out 0 rfl; have p1 := blk_cell RF.out 1 rfl; have p2 := blk_cell RF.out 2 rfl; have p3 := blk_cell RF.out 3 rfl; have p4 := blk_cell RF.out 4 rfl; have p5 := blk_cell RF.out 5 rfl; have p6 := blk_cell RF.out 6 rfl; have p7 := blk_cell RF.out 7 rfl; clear hz on))
    refine bodyPost_ret (v := .tuple #[.agg #[.string s.name, .int .i64 s.version, .int .i64 0, .int .i64 (d), .int .i64 (0), .bool true, .slice none 0 0, .bool false], .bool true]) (by simp [results, Tryz.results76, go_sem, p0, p1, p2, p3, p4, p5, p6, p7]) rfl ⟨by rw [HO.out]; exact ⟨⟨s.name, s.version, 0, d, 0, true, [], false⟩, none, 0, rfl, World.ownsRow_nil _ _ _ _, fun A' h => Option.some.inj h⟩, BF⟩
  by_cases hdw2 : d < s.want
  · by_cases hc3 : s.cool < 3
    · have HE : Hid (scalerA s d = ⟨s.name, s.version, 0, s.want, s.cool + 1, true, [], false⟩) := by unfold Hid scalerA; rw [if_neg hwl, if_neg hwm, if_neg hdw, if_pos hdw2, if_neg (by omega)]; rfl
      have HO : Hid _ := scalerO_yes s d (s.want) (s.cool + 1) hgo.out HP.out HD.out HE.out
      go_wp2_with (first
        | (refine wpList_load_row rfl 108 (.tmp 1) rfl w.heap.size rfl 108 #[.string s.name, .int .i64 s.version, .bool s.gone, .int .i64 s.image, .int .i64 s.want, .int .i64 s.down, .int .i64 s.over, .int .i64 s.next, .int .i64 s.per, .int .i64 s.least, .int .i64 s.most, .int .i64 s.load, .int .i64 s.cool, .int .i64 N.live, .int .i64 N.ready, .int .i64 N.old, .int .i64 N.failed, .int .i64 N.ending, .int .i64 dr, .slice al l.length cl] (0, 0) _ S2.out Tryz.underlying108 rfl Tryz.infosSight ?_))
      refine (scale_any s N dr al l.length cl (s.want) (s.cool + 1) _).mono ?_
      rintro e w3 ⟨rfl, hb3⟩
      have hz3 := hb3.size
      have R3 : Hid _ := below_blk hb3 R2.out (by omega)
      have hbw3 := hbw2.trans (hb3.mono hbw2.size)
      clear R2 S2 V2 hb3 hbw2 v4 v9 v10 v12
      go_wp2_with (first
        | (refine wpList_store_only rfl 59 (.tmp 2) (.tmp 66) rfl (w.heap.size + 1) 0 #[.string s.name, .int .i64 s.version, .int .i64 0, .int .i64 (s.want), .int .i64 (s.cool + 1), .bool true, .slice none 0 0, .bool false] rfl rfl 59 #[.string ⟨#[]⟩, .int .i64 0, .int .i64 0, .int .i64 0, .int .i64 0, .bool false, .slice none 0 0, .bool false] R3.out Tryz.infosActS (Nat.le_of_ble_eq_true rfl) (by simp [Value.oneCell']) ?_; intro wf hz on; have RF : Hid (wf.heap[(w.heap.size + 1)]? = some (.cells #[.string s.name, .int .i64 s.version, .int .i64 0, .int .i64 (s.want), .int .i64 (s.cool + 1), .bool true, .slice none 0 0, .bool false] 59 (0, 0))) := hz; have BF := hbw3.trans (on.below.mono (by omega)); have p0 := blk_cell RF.out 0 rfl; have p1 := blk_cell RF.out 1 rfl; have p2 := blk_cell RF.out 2 rfl; have p3 := blk_cell RF.out 3 rfl; have p4 := blk_cell RF.out 4 rfl; have p5 := blk_cell RF.out 5 rfl; have p6 := blk_cell RF.out 6 rfl; have p7 := blk_cell RF.out 7 rfl; clear hz on))
      refine bodyPost_ret (v := .tuple #[.agg #[.string s.name, .int .i64 s.version, .int .i64 0, .int .i64 (s.want), .int .i64 (s.cool + 1), .bool true, .slice none 0 0, .bool false], .bool true]) (by simp [results, Tryz.results76, go_sem, p0, p1, p2, p3, p4, p5, p6, p7]) rfl ⟨by rw [HO.out]; exact ⟨⟨s.name, s.version, 0, s.want, s.cool + 1, true, [], false⟩, none, 0, rfl, World.ownsRow_nil _ _ _ _, fun A' h => Option.some.inj h⟩, BF⟩
    · have HE : Hid (scalerA s d = ⟨s.name, s.version, 0, s.want - 1, 0, true, [], false⟩) := by unfold Hid scalerA; rw [if_neg hwl, if_neg hwm, if_neg hdw, if_pos hdw2, if_pos (by omega)]; rfl
      have HO : Hid _ := scalerO_yes s d (s.want - 1) (0) hgo.out HP.out HD.out HE.out
      go_wp2_with (first
        | (refine wpList_load_row rfl 108 (.tmp 1) rfl w.heap.size rfl 108 #[.string s.name, .int .i64 s.version, .bool s.gone, .int .i64 s.image, .int .i64 s.want, .int .i64 s.down, .int .i64 s.over, .int .i64 s.next, .int .i64 s.per, .int .i64 s.least, .int .i64 s.most, .int .i64 s.load, .int .i64 s.cool, .int .i64 N.live, .int .i64 N.ready, .int .i64 N.old, .int .i64 N.failed, .int .i64 N.ending, .int .i64 dr, .slice al l.length cl] (0, 0) _ S2.out Tryz.underlying108 rfl Tryz.infosSight ?_))
      refine (scale_any s N dr al l.length cl (s.want - 1) (0) _).mono ?_
      rintro e w3 ⟨rfl, hb3⟩
      have hz3 := hb3.size
      have R3 : Hid _ := below_blk hb3 R2.out (by omega)
      have hbw3 := hbw2.trans (hb3.mono hbw2.size)
      clear R2 S2 V2 hb3 hbw2 v4 v9 v10 v12
      go_wp2_with (first
        | (refine wpList_store_only rfl 59 (.tmp 2) (.tmp 78) rfl (w.heap.size + 1) 0 #[.string s.name, .int .i64 s.version, .int .i64 0, .int .i64 (s.want - 1), .int .i64 (0), .bool true, .slice none 0 0, .bool false] rfl rfl 59 #[.string ⟨#[]⟩, .int .i64 0, .int .i64 0, .int .i64 0, .int .i64 0, .bool false, .slice none 0 0, .bool false] R3.out Tryz.infosActS (Nat.le_of_ble_eq_true rfl) (by simp [Value.oneCell']) ?_; intro wf hz on; have RF : Hid (wf.heap[(w.heap.size + 1)]? = some (.cells #[.string s.name, .int .i64 s.version, .int .i64 0, .int .i64 (s.want - 1), .int .i64 (0), .bool true, .slice none 0 0, .bool false] 59 (0, 0))) := hz; have BF := hbw3.trans (on.below.mono (by omega)); have p0 := blk_cell RF.out 0 rfl; have p1 := blk_cell RF.out 1 rfl; have p2 := blk_cell RF.out 2 rfl; have p3 := blk_cell RF.out 3 rfl; have p4 := blk_cell RF.out 4 rfl; have p5 := blk_cell RF.out 5 rfl; have p6 := blk_cell RF.out 6 rfl; have p7 := blk_cell RF.out 7 rfl; clear hz on))
      refine bodyPost_ret (v := .tuple #[.agg #[.string s.name, .int .i64 s.version, .int .i64 0, .int .i64 (s.want - 1), .int .i64 (0), .bool true, .slice none 0 0, .bool false], .bool true]) (by simp [results, Tryz.results76, go_sem, p0, p1, p2, p3, p4, p5, p6, p7]) rfl ⟨by rw [HO.out]; exact ⟨⟨s.name, s.version, 0, s.want - 1, 0, true, [], false⟩, none, 0, rfl, World.ownsRow_nil _ _ _ _, fun A' h => Option.some.inj h⟩, BF⟩
  by_cases hcz : s.cool = 0
  · have HE : Hid (scalerA s d = a0 s) := by unfold Hid scalerA; rw [if_neg hwl, if_neg hwm, if_neg hdw, if_neg hdw2, if_pos hcz]
    have HO : Hid _ := scalerO_no s d hgo.out HP.out HD.out HE.out
    have hcz1 : (s.cool != 0) = false := by simp [hcz]
    clear hcz
    go_wp2_with (first
      | (refine wpList_store_only rfl 59 (.tmp 2) (.tmp 90) rfl (w.heap.size + 1) 0 #[.string ⟨#[]⟩, .int .i64 0, .int .i64 0, .int .i64 0, .int .i64 0, .bool false, .slice none 0 0, .bool false] rfl rfl 59 #[.string ⟨#[]⟩, .int .i64 0, .int .i64 0, .int .i64 0, .int .i64 0, .bool false, .slice none 0 0, .bool false] R2.out Tryz.infosActS (Nat.le_of_ble_eq_true rfl) (by simp [Value.oneCell']) ?_; intro wf hz on; have RF : Hid (wf.heap[(w.heap.size + 1)]? = some (.cells #[.string ⟨#[]⟩, .int .i64 0, .int .i64 0, .int .i64 0, .int .i64 0, .bool false, .slice none 0 0, .bool false] 59 (0, 0))) := hz; have BF := hbw2.trans (on.below.mono (by omega)); have p0 := blk_cell RF.out 0 rfl; have p1 := blk_cell RF.out 1 rfl; have p2 := blk_cell RF.out 2 rfl; have p3 := blk_cell RF.out 3 rfl; have p4 := blk_cell RF.out 4 rfl; have p5 := blk_cell RF.out 5 rfl; have p6 := blk_cell RF.out 6 rfl; have p7 := blk_cell RF.out 7 rfl; clear hz on))
    refine bodyPost_ret (v := .tuple #[.agg #[.string ⟨#[]⟩, .int .i64 0, .int .i64 0, .int .i64 0, .int .i64 0, .bool false, .slice none 0 0, .bool false], .bool false]) (by simp [results, Tryz.results76, go_sem, p0, p1, p2, p3, p4, p5, p6, p7]) rfl ⟨by rw [HO.out]; exact asked_no _ _, BF⟩
  have hcz1 : (s.cool != 0) = true := by simp [hcz]
  have HE : Hid (scalerA s d = ⟨s.name, s.version, 0, s.want, 0, true, [], false⟩) := by unfold Hid scalerA; rw [if_neg hwl, if_neg hwm, if_neg hdw, if_neg hdw2, if_neg hcz]; rfl
  have HO : Hid _ := scalerO_yes s d (s.want) (0) hgo.out HP.out HD.out HE.out
  go_wp2_with (first
    | (refine wpList_load_row rfl 108 (.tmp 1) rfl w.heap.size rfl 108 #[.string s.name, .int .i64 s.version, .bool s.gone, .int .i64 s.image, .int .i64 s.want, .int .i64 s.down, .int .i64 s.over, .int .i64 s.next, .int .i64 s.per, .int .i64 s.least, .int .i64 s.most, .int .i64 s.load, .int .i64 s.cool, .int .i64 N.live, .int .i64 N.ready, .int .i64 N.old, .int .i64 N.failed, .int .i64 N.ending, .int .i64 dr, .slice al l.length cl] (0, 0) _ S2.out Tryz.underlying108 rfl Tryz.infosSight ?_))
  refine (scale_any s N dr al l.length cl (s.want) (0) _).mono ?_
  rintro e w3 ⟨rfl, hb3⟩
  have hz3 := hb3.size
  have R3 : Hid _ := below_blk hb3 R2.out (by omega)
  have hbw3 := hbw2.trans (hb3.mono hbw2.size)
  clear R2 S2 V2 hb3 hbw2 v4 v9 v10 v12
  go_wp2_with (first
    | (refine wpList_store_only rfl 59 (.tmp 2) (.tmp 88) rfl (w.heap.size + 1) 0 #[.string s.name, .int .i64 s.version, .int .i64 0, .int .i64 (s.want), .int .i64 (0), .bool true, .slice none 0 0, .bool false] rfl rfl 59 #[.string ⟨#[]⟩, .int .i64 0, .int .i64 0, .int .i64 0, .int .i64 0, .bool false, .slice none 0 0, .bool false] R3.out Tryz.infosActS (Nat.le_of_ble_eq_true rfl) (by simp [Value.oneCell']) ?_; intro wf hz on; have RF : Hid (wf.heap[(w.heap.size + 1)]? = some (.cells #[.string s.name, .int .i64 s.version, .int .i64 0, .int .i64 (s.want), .int .i64 (0), .bool true, .slice none 0 0, .bool false] 59 (0, 0))) := hz; have BF := hbw3.trans (on.below.mono (by omega)); have p0 := blk_cell RF.out 0 rfl; have p1 := blk_cell RF.out 1 rfl; have p2 := blk_cell RF.out 2 rfl; have p3 := blk_cell RF.out 3 rfl; have p4 := blk_cell RF.out 4 rfl; have p5 := blk_cell RF.out 5 rfl; have p6 := blk_cell RF.out 6 rfl; have p7 := blk_cell RF.out 7 rfl; clear hz on))
  refine bodyPost_ret (v := .tuple #[.agg #[.string s.name, .int .i64 s.version, .int .i64 0, .int .i64 (s.want), .int .i64 (0), .bool true, .slice none 0 0, .bool false], .bool true]) (by simp [results, Tryz.results76, go_sem, p0, p1, p2, p3, p4, p5, p6, p7]) rfl ⟨by rw [HO.out]; exact ⟨⟨s.name, s.version, 0, s.want, 0, true, [], false⟩, none, 0, rfl, World.ownsRow_nil _ _ _ _, fun A' h => Option.some.inj h⟩, BF⟩

end Go.Proofs.YtbceafpodamnfabGreat

/-
  My own. The map of places, with the places of berths; on a berth that is to be drained.
-/
namespace Go.Proofs.YtbceafpodamnfabGreat
open Go.RowKit Go.Sort Go.Maps

def uniqB (B : Bk) : Prop := ∀ (i j : Nat) s t, i < j → B.bts[i]? = some s → B.bts[j]? = some t → s.name ≠ t.name
theorem bts_less {B : Bk} (h : ∀ i, i < B.bts.length → btAtB B i = true) : ∀ (j i : Nat) s t, i < j → B.bts[i]? = some s → B.bts[j]? = some t → Op.bytesLess s.name.toList t.name.toList = true
  | 0, i, _, _, hi, _, _ => absurd hi (by omega)
  | j + 1, i, s, t, hi, hs, ht => by
    have hlt : j + 1 < B.bts.length := (List.getElem?_eq_some_iff.1 ht).1
    obtain ⟨p, hp⟩ : ∃ p, B.bts[j]? = some p := ⟨B.bts[j]'(by omega), by rw [List.getElem?_eq_getElem]⟩
    have h1 : Op.bytesLess p.name.toList t.name.toList = true := by
      have := h (j + 1) hlt
      unfold btAtB at this
      rw [ht] at this
      simp [hp] at this
      exact this.2
    rcases Nat.lt_or_ge i j with h' | h'
    · exact bytesLess_trans _ _ _ (bts_less h j i s p h' hs hp) h1
    · have e : i = j := by omega
      subst e
      rw [hp] at hs
      cases hs
      exact h1
theorem uniqB_of {B : Bk} (h : allTo (btAtB B) B.bts.length = true) : uniqB B := fun i j s t hij hs ht e => by
  have h' : ∀ i, i < B.bts.length → btAtB B i = true := fun i hi => by
    unfold allTo at h; exact List.all_eq_true.1 h i (List.mem_range.2 hi)
  have := bts_less h' j i s t hij hs ht
  rw [e, bytesLess_irrefl] at this
  cases this

/-- The map at block b tells of the first ks services and the first kb berths where they are. -/
def PlacesX (w : World) (b : Nat) (B : Bk) (ks kb : Nat) : Prop := ∃ (n : Nat) (D : DataW Unit), n ≤ ks + kb ∧ w.ownsMap Tryz.prog 138 (plainElem Tryz.prog 3) b n D ∧
  (∀ x : ByteArray, x.size ≤ maxLen → (∀ (i : Nat) s, i < ks → B.svcs[i]? = some s → s.name ≠ x) → Maps.has D (key 1 x) = false) ∧
  (∀ (i : Nat) s, i < ks → B.svcs[i]? = some s → Maps.has D (key 1 s.name) = true ∧ D.atKey (key 1 s.name) (.lit (.int .i64 0)) = .lit (.int .i64 i)) ∧
  (∀ x : ByteArray, x.size ≤ maxLen → (∀ (i : Nat) s, i < kb → B.bts[i]? = some s → s.name ≠ x) → Maps.has D (key 2 x) = false) ∧
  (∀ (i : Nat) s, i < kb → B.bts[i]? = some s → Maps.has D (key 2 s.name) = true ∧ D.atKey (key 2 s.name) (.lit (.int .i64 0)) = .lit (.int .i64 i))

theorem PlacesX.blk {w w' : World} {b : Nat} {B : Bk} {ks kb : Nat} (h : PlacesX w b B ks kb) (hb : w'.heap[b]? = w.heap[b]?) : PlacesX w' b B ks kb := by
  obtain ⟨n, D, hn, ⟨es, clock, he, F, hs, hD⟩, r⟩ := h
  exact ⟨n, D, hn, ⟨es, clock, by rw [hb]; exact he, F, hs, hD⟩, r⟩
theorem PlacesX.below {w w' : World} {b N : Nat} {B : Bk} {ks kb : Nat} (h : PlacesX w b B ks kb) (hb : Below N w w') (hN : b < N) : PlacesX w' b B ks kb := h.blk (hb.block b hN)
theorem PlacesX.lt {w : World} {b : Nat} {B : Bk} {ks kb : Nat} (h : PlacesX w b B ks kb) : b < w.heap.size := by
  obtain ⟨n, D, hn, hown, _⟩ := h
  exact hown.lt

theorem PlacesX.start (w : World) (B : Bk) : PlacesX (w.alloc (.map #[] 0)) w.heap.size B 0 0 :=
  ⟨0, .map [], Nat.le_refl _, World.ownsMap_made w _ _ _, fun _ _ _ => rfl, fun i s hi => absurd hi (by omega), fun _ _ _ => rfl, fun i s hi => absurd hi (by omega)⟩

theorem PlacesX.stepS {w' : World} {b : Nat} {B : Bk} {k n : Nat} {D : DataW Unit} {s : Svc} (hz : ∀ s ∈ B.svcs, s.name.size ≤ maxLen) (_hzb : ∀ s ∈ B.bts, s.name.size ≤ maxLen) (hu : uniqS B) (hsk : B.svcs[k]? = some s)
    (hn : n ≤ k + 0) (h1 : ∀ x : ByteArray, x.size ≤ maxLen → (∀ (i : Nat) s, i < k → B.svcs[i]? = some s → s.name ≠ x) → Maps.has D (key 1 x) = false)
    (h2 : ∀ (i : Nat) s, i < k → B.svcs[i]? = some s → Maps.has D (key 1 s.name) = true ∧ D.atKey (key 1 s.name) (.lit (.int .i64 0)) = .lit (.int .i64 i))
    (h3 : ∀ x : ByteArray, x.size ≤ maxLen → (∀ (i : Nat) s, i < 0 → B.bts[i]? = some s → s.name ≠ x) → Maps.has D (key 2 x) = false)
    (hD : IsMap D)
    (hown : w'.ownsMap Tryz.prog 138 (plainElem Tryz.prog 3) b (n + 1) (D.put (key 1 s.name) (.lit (.int .i64 (k : Int))))) : PlacesX w' b B (k + 1) 0 := by
  have hss := hz s (List.mem_of_getElem? hsk)
  refine ⟨n + 1, _, by omega, hown, fun x hx hno => ?_, fun i t hi ht => ?_, fun x hx hno => ?_, fun i t hi => absurd hi (by omega)⟩
  · rw [has_put_other (key_ne_name wf1 hx hss (fun e => hno k s (by omega) hsk e.symm))]
    exact h1 x hx fun i t hi ht => hno i t (by omega) ht
  · rcases Nat.lt_or_ge i k with h' | h'
    · have hts := hz t (List.mem_of_getElem? ht)
      have hne := key_ne_name wf1 hts hss (hu i k t s h' ht hsk)
      rw [has_put_other hne, atKey_put_other hne]
      exact h2 i t h' ht
    · have e : i = k := by omega
      subst e
      rw [hsk] at ht
      cases ht
      exact ⟨has_put_same hD (key_isKey _ _) _, atKey_put_same hD (key_isKey _ _) _ _⟩
  · rw [has_put_other (fun e => key_ne_kind hss hx e.symm)]
    exact h3 x hx fun i t hi => absurd hi (by omega)

theorem PlacesX.stepB {w' : World} {b : Nat} {B : Bk} {ks k n : Nat} {D : DataW Unit} {s : Bt} (hz : ∀ s ∈ B.svcs, s.name.size ≤ maxLen) (hzb : ∀ s ∈ B.bts, s.name.size ≤ maxLen) (hub : uniqB B) (hsk : B.bts[k]? = some s)
    (hn : n ≤ ks + k) (h1 : ∀ x : ByteArray, x.size ≤ maxLen → (∀ (i : Nat) s, i < ks → B.svcs[i]? = some s → s.name ≠ x) → Maps.has D (key 1 x) = false)
    (h2 : ∀ (i : Nat) s, i < ks → B.svcs[i]? = some s → Maps.has D (key 1 s.name) = true ∧ D.atKey (key 1 s.name) (.lit (.int .i64 0)) = .lit (.int .i64 i))
    (h3 : ∀ x : ByteArray, x.size ≤ maxLen → (∀ (i : Nat) s, i < k → B.bts[i]? = some s → s.name ≠ x) → Maps.has D (key 2 x) = false)
    (h4 : ∀ (i : Nat) s, i < k → B.bts[i]? = some s → Maps.has D (key 2 s.name) = true ∧ D.atKey (key 2 s.name) (.lit (.int .i64 0)) = .lit (.int .i64 i))
    (hD : IsMap D)
    (hown : w'.ownsMap Tryz.prog 138 (plainElem Tryz.prog 3) b (n + 1) (D.put (key 2 s.name) (.lit (.int .i64 (k : Int))))) : PlacesX w' b B ks (k + 1) := by
  have hss := hzb s (List.mem_of_getElem? hsk)
  refine ⟨n + 1, _, by omega, hown, fun x hx hno => ?_, fun i t hi ht => ?_, fun x hx hno => ?_, fun i t hi ht => ?_⟩
  · rw [has_put_other (key_ne_kind hx hss)]
    exact h1 x hx hno
  · have hts := hz t (List.mem_of_getElem? ht)
    rw [has_put_other (key_ne_kind hts hss), atKey_put_other (key_ne_kind hts hss)]
    exact h2 i t hi ht
  · rw [has_put_other (key_ne_name wf2 hx hss (fun e => hno k s (by omega) hsk e.symm))]
    exact h3 x hx fun i t hi ht => hno i t (by omega) ht
  · rcases Nat.lt_or_ge i k with h' | h'
    · have hts := hzb t (List.mem_of_getElem? ht)
      have hne := key_ne_name wf2 hts hss (hub i k t s h' ht hsk)
      rw [has_put_other hne, atKey_put_other hne]
      exact h4 i t h' ht
    · have e : i = k := by omega
      subst e
      rw [hsk] at ht
      cases ht
      exact ⟨has_put_same hD (key_isKey _ _) _, atKey_put_same hD (key_isKey _ _) _ _⟩

set_option maxHeartbeats 4000000 in
theorem placesIn_x (B : Bk) (a1 a2 a3 : Option Addr) (c1 c2 c3 : Nat) (w : World) (hS : B.small) (hZ : B.sized) (hU : uniqS B) (hUB : uniqB B) (hB : BkAt w a1 a2 a3 B) :
    Calls Tryz.prog 71 #[.agg #[.int .i64 B.now, .slice a1 B.svcs.length c1, .slice a2 B.cps.length c2, .slice a3 B.bts.length c3]] w fun e w' => e = .returned (.map (some (w.heap.size + 1))) ∧ PlacesX w' (w.heap.size + 1) B B.svcs.length B.bts.length ∧ Below w.heap.size w w' := by
  obtain ⟨hl1, hl2, hl3⟩ := hS
  have hmm := run_makeMap_n
  obtain ⟨t0, t1, t2⟩ := two_new w (.cells #[.int .i64 B.now, .slice a1 B.svcs.length c1, .slice a2 B.cps.length c2, .slice a3 B.bts.length c3] 34) (.map #[] 0)
  have T0 : Hid _ := t0
  have T1 : Hid (PlacesX ((w.alloc (.cells #[.int .i64 B.now, .slice a1 B.svcs.length c1, .slice a2 B.cps.length c2, .slice a3 B.bts.length c3] 34)).alloc (.map #[] 0)) (w.heap.size + 1) B 0 0) := by
    have := PlacesX.start (w.alloc (.cells #[.int .i64 B.now, .slice a1 B.svcs.length c1, .slice a2 B.cps.length c2, .slice a3 B.bts.length c3] 34)) B
    have e : (w.alloc (.cells #[.int .i64 B.now, .slice a1 B.svcs.length c1, .slice a2 B.cps.length c2, .slice a3 B.bts.length c3] 34)).heap.size = w.heap.size + 1 := by show (w.heap.push _).size = _; simp
    rw [e] at this
    exact this
  clear t0 t1 t2
  go_enter Tryz.func71, Tryz.ntmps71
  go_wp2
  clear hmm
  go_loopw [19] (fun iv wr => ∃ k : Nat, k ≤ B.svcs.length ∧ iv = .int .i64 k ∧ Below w.heap.size w wr ∧ Hid (wr.heap[w.heap.size]? = some (.cells #[.int .i64 B.now, .slice a1 B.svcs.length c1, .slice a2 B.cps.length c2, .slice a3 B.bts.length c3] 34 (0, 0))) ∧ Hid (PlacesX wr (w.heap.size + 1) B k 0)) (fun i _ => B.svcs.length - (intOf i).toNat)
  case atStart => exact ⟨0, by omega, rfl, ((Below.refl _ _).alloc (Nat.le_refl _) _).alloc (by simp) _, T0, T1⟩
  case round =>
    obtain ⟨k, hk, rfl, hb, hbox, hpl⟩ := hrel
    have hNlt : w.heap.size + 1 < wr.heap.size := hpl.out.lt
    by_cases hlt : k < B.svcs.length
    · have hne : B.svcs ≠ [] := by intro h; rw [h] at hlt; simp at hlt
      obtain ⟨b, off, ea, hbs, hat⟩ := hB.1 hne
      subst ea
      obtain ⟨s, hsk⟩ : ∃ s, B.svcs[k]? = some s := ⟨B.svcs[k], by simp [hlt]⟩
      have hmem := hZ.2.2.2.1 s (List.mem_of_getElem? hsk)
      have HSK : Hid _ := hsk
      have hcs := (hat k s hsk).below hb hbs
      unfold SvcAt at hcs
      obtain ⟨x0, x1, x2, x3, x4, x5, x6, x7, x8, x9, x10, x11, x12⟩ := hcs
      obtain ⟨n, D, hn, hown, h1, h2, h3, h4⟩ := hpl.out
      have H1 : Hid _ := h1
      have H2 : Hid _ := h2
      have H3 : Hid _ := h3
      have hnn : n < maxLen := by unfold maxLen; omega
      clear hsk hat hne h1 h2 h3 h4
      go_wp2_with (at_mapUpdate; refine wpList_mapUpdate_own _ rfl (.tmp 24) (.tmp 27) (.tmp 28) 104 rfl 138 3 thingLaw Tryz.underlying104 (plainElem Tryz.prog 3) (w.heap.size + 1) n D rfl (hown.alloc _) hnn _ _ _ rfl rfl (key_ok 1 s.name wf1 hmem) _ [] (plainElem_int Tryz.underlying3 (WalkArith.wf_i64 (by omega))) ?_; intro w1 hown1 hgrow1)
      have hsz : (wr.alloc (.cells #[.string s.name, .int .i64 s.version, .bool s.gone, .int .i64 s.image, .int .i64 s.want, .int .i64 s.down, .int .i64 s.over, .int .i64 s.next, .int .i64 s.per, .int .i64 s.least, .int .i64 s.most, .int .i64 s.load, .int .i64 s.cool] 48)).heap.size = wr.heap.size + 1 := by show (wr.heap.push _).size = _; simp
      have hb1 : Below w.heap.size w w1 := (hb.alloc hb.size _).grown hgrow1 (by rw [hsz]; omega) (fun j hj => by cases hj; omega)
      have hbox1 : Hid _ := (hgrow1.block w.heap.size (by rw [hsz]; omega) (fun e => by have := Option.some.inj e; omega)).trans (below_blk (below_box wr (.cells #[.string s.name, .int .i64 s.version, .bool s.gone, .int .i64 s.image, .int .i64 s.want, .int .i64 s.down, .int .i64 s.over, .int .i64 s.next, .int .i64 s.per, .int .i64 s.least, .int .i64 s.most, .int .i64 s.load, .int .i64 s.cool] 48)) hbox.out (by omega))
      have hpl1 : Hid _ := PlacesX.stepS hZ.2.2.2.1 hZ.2.2.2.2.2 hU HSK.out hn H1.out H2.out H3.out hown.isMap hown1
      go_roundw
      case rel => exact ⟨k + 1, by omega, by go_num, hb1, hbox1, hpl1⟩
      case measure => simp [intOf]; omega
    · have hkl : k = B.svcs.length := by omega
      subst hkl
      have e3 := blk_cell hbox.out 3 rfl
      go_wp2
      clear e3
      go_loopw [33] (fun iv wr => ∃ k : Nat, k ≤ B.bts.length ∧ iv = .int .i64 k ∧ Below w.heap.size w wr ∧ Hid (wr.heap[w.heap.size]? = some (.cells #[.int .i64 B.now, .slice a1 B.svcs.length c1, .slice a2 B.cps.length c2, .slice a3 B.bts.length c3] 34 (0, 0))) ∧ Hid (PlacesX wr (w.heap.size + 1) B B.svcs.length k)) (fun i _ => B.bts.length - (intOf i).toNat)
      case atStart => exact ⟨0, by omega, rfl, hb, hbox, hpl⟩
      case round =>
        clear hb hbox hpl hNlt hlt
        rename_i wr0 _
        obtain ⟨k, hk, rfl, hb, hbox, hpl⟩ := hrel
        have hNlt : w.heap.size + 1 < wr.heap.size := hpl.out.lt
        by_cases hlt : k < B.bts.length
        · have hne : B.bts ≠ [] := by intro h; rw [h] at hlt; simp at hlt
          obtain ⟨b, off, ea, hbs, hat⟩ := hB.2.2 hne
          subst ea
          obtain ⟨s, hsk⟩ : ∃ s, B.bts[k]? = some s := ⟨B.bts[k], by simp [hlt]⟩
          have hmem := hZ.2.2.2.2.2 s (List.mem_of_getElem? hsk)
          have HSK : Hid _ := hsk
          have hcs := (hat k s hsk).below hb hbs
          unfold BtAt at hcs
          obtain ⟨x0, x1⟩ := hcs
          obtain ⟨n, D, hn, hown, h1, h2, h3, h4⟩ := hpl.out
          have H1 : Hid _ := h1
          have H2 : Hid _ := h2
          have H3 : Hid _ := h3
          have H4 : Hid _ := h4
          have hnn : n < maxLen := by unfold maxLen; omega
          clear hsk hat hne h1 h2 h3 h4
          go_wp2_with (at_mapUpdate; refine wpList_mapUpdate_own _ rfl (.tmp 38) (.tmp 41) (.tmp 42) 104 rfl 138 3 thingLaw Tryz.underlying104 (plainElem Tryz.prog 3) (w.heap.size + 1) n D rfl (hown.alloc _) hnn _ _ _ rfl rfl (key_ok 2 s.name wf2 hmem) _ [] (plainElem_int Tryz.underlying3 (WalkArith.wf_i64 (by omega))) ?_; intro w1 hown1 hgrow1)
          have hsz : (wr.alloc (.cells #[.string s.name, .bool s.drain] 86)).heap.size = wr.heap.size + 1 := by show (wr.heap.push _).size = _; simp
          have hb1 : Below w.heap.size w w1 := (hb.alloc hb.size _).grown hgrow1 (by rw [hsz]; omega) (fun j hj => by cases hj; omega)
          have hbox1 : Hid _ := (hgrow1.block w.heap.size (by rw [hsz]; omega) (fun e => by have := Option.some.inj e; omega)).trans (below_blk (below_box wr (.cells #[.string s.name, .bool s.drain] 86)) hbox.out (by omega))
          have hpl1 : Hid _ := PlacesX.stepB hZ.2.2.2.1 hZ.2.2.2.2.2 hUB HSK.out hn H1.out H2.out H3.out H4.out hown.isMap hown1
          go_roundw
          case rel => exact ⟨k + 1, by omega, by go_num, hb1, hbox1, hpl1⟩
          case measure => simp [intOf]; omega
        · go_wp2
          go_ret
          have hkl : k = B.bts.length := by omega
          subst hkl
          exact ⟨rfl, hpl.out, hb⟩


set_option maxRecDepth 100000 in
set_option maxHeartbeats 4000000 in
theorem onDrain_any (B : Bk) (c : Cp) (b : Nat) (a1 a2 a3 : Option Addr) (c1 c2 c3 : Nat) (w : World) (hS : B.small) (hc : c.berth.size ≤ maxLen) (hP : PlacesX w b B B.svcs.length B.bts.length) (hB : BkAt w a1 a2 a3 B) :
    Calls Tryz.prog 109 #[.agg #[.int .i64 B.now, .slice a1 B.svcs.length c1, .slice a2 B.cps.length c2, .slice a3 B.bts.length c3], .map (some b), .agg #[.string c.service, .int .i64 c.number, .int .i64 c.version, .int .i64 c.image, .int .i64 c.state, .bool c.ending, .string c.berth]] w fun e w' => e = .returned (.bool (drainsB B c)) ∧ Below w.heap.size w w' := by
  obtain ⟨hl1, hl2, hl3⟩ := hS
  have hbb : Below w.heap.size w ((w.alloc (.cells #[.int .i64 B.now, .slice a1 B.svcs.length c1, .slice a2 B.cps.length c2, .slice a3 B.bts.length c3] 34)).alloc (.cells #[.string c.service, .int .i64 c.number, .int .i64 c.version, .int .i64 c.image, .int .i64 c.state, .bool c.ending, .string c.berth] 88)) := ((Below.refl _ _).alloc (Nat.le_refl _) _).alloc (by simp) _
  obtain ⟨n, D, hn, hown, h1, h2, h3, h4⟩ := hP
  have hown2 := (hown.alloc (.cells #[.int .i64 B.now, .slice a1 B.svcs.length c1, .slice a2 B.cps.length c2, .slice a3 B.bts.length c3] 34)).alloc (.cells #[.string c.service, .int .i64 c.number, .int .i64 c.version, .int .i64 c.image, .int .i64 c.state, .bool c.ending, .string c.berth] 88)
  clear h1 h2
  cases hf : B.bts.find? fun b => b.name.toList == c.berth.toList with
  | none =>
    have HD : Hid (drainsB B c = false) := by unfold Hid drainsB; rw [hf]
    have HH : Hid (Maps.has D (key 2 c.berth) = false) := h3 c.berth hc fun i s _ hs e => by
      rw [List.find?_eq_none] at hf
      exact hf s (List.mem_of_getElem? hs) (same_name.2 e)
    have HA : Hid (D.atKey (key 2 c.berth) (.lit (.int .i64 0)) = .lit (.int .i64 0)) := atKey_of_not_has HH.out _
    clear h3 h4 hf
    rw [HD.out]
    go_enter Tryz.func109, Tryz.ntmps109
    go_wp2_with (at_lookup; refine wpList_lookup_is _ rfl (.tmp 10) (.tmp 13) 104 rfl 138 3 .i64 thingLaw Tryz.underlying104 Tryz.underlying3 (zeroInt _) b n D rfl hown2 _ _ rfl (key_ok 2 c.berth wf2 hc) 0 false HA.out HH.out ?_)
    go_ret
    exact ⟨rfl, hbb⟩
  | some bt =>
    obtain ⟨i, hi, _⟩ := idxOf_find hf
    have hil := (List.getElem?_eq_some_iff.1 hi).1
    have hnm : bt.name = c.berth := same_name.1 (List.find?_some (p := fun b : Bt => b.name.toList == c.berth.toList) hf)
    have HD : Hid (drainsB B c = bt.drain) := by unfold Hid drainsB; rw [hf]
    have h4' := h4 i bt hil hi
    rw [hnm] at h4'
    have HH : Hid (Maps.has D (key 2 c.berth) = true) := h4'.1
    have HA : Hid (D.atKey (key 2 c.berth) (.lit (.int .i64 0)) = .lit (.int .i64 (i : Int))) := h4'.2
    have hne : B.bts ≠ [] := by intro h; rw [h] at hil; simp at hil
    obtain ⟨b3, o3, ea, hbs, hat⟩ := hB.2.2 hne
    subst ea
    have hbt := (hat i bt hi).below hbb hbs
    unfold BtAt at hbt
    obtain ⟨x0, x1⟩ := hbt
    clear h3 h4 hf h4' hi hnm hne hat
    rw [HD.out]
    go_enter Tryz.func109, Tryz.ntmps109
    go_wp2_with (at_lookup; refine wpList_lookup_is _ rfl (.tmp 10) (.tmp 13) 104 rfl 138 3 .i64 thingLaw Tryz.underlying104 Tryz.underlying3 (zeroInt _) b n D rfl hown2 _ _ rfl (key_ok 2 c.berth wf2 hc) (i : Int) true HA.out HH.out ?_)
    go_ret
    exact ⟨rfl, hbb⟩

end Go.Proofs.YtbceafpodamnfabGreat

/-
  My own. A region that draws its order, in a round of a range over a function: by the walk of Lg.
-/
namespace Go.Proofs.YtbceafpodamnfabGreat
open Go Go.RowKit

section
variable {P : Program} {ops : Array Oper} {Q : Exit → Act → World → Prop}

theorem rowsIn_wide {n : Nat} {row : String} {args : Array Value} {w : World} {R : Value → World → Prop} (h : Rows P row args w R) : RowsIn Fence.wide n P row args w R :=
  fun c cs _ => let ⟨v, w', r, s⟩ := h c cs; ⟨v, w', r, stepsIn_wide.2 s⟩

theorem Oper.wp_toIn {o : Oper} {a : Act} {w : World} {L L' K : Act → World → Prop} {l n : Nat} (hnd : ∀ c, o.op ≠ .defer c) (hL : ∀ a w, L a w → L' a w) (h : o.wp P a w L (KPost K)) : o.wpIn (Fence.wide.inRound l) n P a w L' Q := by
  unfold Oper.wp at h
  unfold Oper.wpIn
  refine ⟨fun _ _ => trivial, ?_⟩
  rw [Oper.semAt_plain (Fence.wide.inRound l) a.eval o hnd]
  generalize (execOp a.eval o).run P w = r at *
  cases r with
  | ok x w' =>
    cases x <;> simp only [Oper.upon, Oper.uponIn] at h ⊢ <;>
      first
        | exact hL _ _ h
        | exact False.elim h
        | exact ⟨(fun h0 => by cases h0), CallsIn.inRound l (callsIn_wide.2 (Calls.mono h (fun e w'' he => by cases e <;> first | exact hL _ _ he | exact False.elim he | exact (let ⟨_, _, h⟩ := he; False.elim h))))⟩
        | exact ⟨(fun h0 => by cases h0), (show RowsIn (Fence.wide.inRound l) _ P _ _ _ _ from rowsIn_wide (Rows.mono h (fun v w'' he => hL _ _ he)))⟩
  | halt x w' => cases x <;> simp only [Oper.upon, Oper.uponIn] at h ⊢ <;> first | exact False.elim h

theorem wpOp_toIn {i : Nat} {a : Act} {w : World} {L L' K : Act → World → Prop} {l n : Nat} (hnd : ∀ (i : Nat) o c, ops[i]? = some o → o.op ≠ .defer c) (hL : ∀ a w, L a w → L' a w) (h : wpOp P ops (KPost K) i L a w) : wpOpIn (Fence.wide.inRound l) n P ops Q i L' a w := by
  unfold wpOp at h
  unfold wpOpIn
  cases ho : ops[i]? with
  | none => rw [ho] at h; exact hL _ _ h
  | some o =>
    simp only [ho] at h ⊢
    split at h
    · rename_i hw
      rw [if_pos hw]
      rcases h with h | ⟨_, _, _, h2⟩
      · exact Oper.wp_toIn (fun c => hnd i o c ho) hL h
      · exact False.elim h2
    · rename_i hw
      rw [if_neg hw]
      exact ⟨fun _ _ => trivial, hL _ _ h⟩

theorem wpAny_toIn {K : Act → World → Prop} {l n : Nat} (hnd : ∀ (i : Nat) o c, ops[i]? = some o → o.op ≠ .defer c) (hK : ∀ a w, K a w → Q .normal a w) :
    ∀ (fuel : Nat) (listed : Array Bool) (a : Act) (w : World), wpAny P .any ops (KPost K) fuel listed a w → wpAnyIn (Fence.wide.inRound l) n P .any ops Q fuel listed a w
  | 0, _, a, w, h => ⟨h.1, hK a w h.2⟩
  | fuel + 1, _, a, w, h => ⟨fun h0 => hK a w (h.1 h0), fun i hi => wpOp_toIn hnd (fun a w h => wpAny_toIn hnd hK fuel _ a w h) (h.2 i hi)⟩

def noDefer (ops : Array Oper) : Bool := ops.all fun o => match o.op with | .defer _ => false | _ => true
theorem noDefer_spec {ops : Array Oper} (h : noDefer ops = true) : ∀ (i : Nat) o c, ops[i]? = some o → o.op ≠ .defer c := fun i o c hi e => by
  have := Array.all_eq_true'.1 h o (Array.mem_of_getElem? hi)
  rw [e] at this
  cases this

theorem wpIn_region_grows {id : Nat} {a : Act} {w : World} {l : List Oper} {r N : Nat} (n : Nat) (hm : P.follows .mixedOrders = true) (hB : growTailB l.toArray n = true) (hnd : noDefer l.toArray = true)
    (h : growFrom P l.toArray a n w (fun S => ∀ V W A, Below w.heap.size w W → (∀ j, j < n → S j (V j) W) → Hid (A = putAll l.toArray V n a) → wpList P l.toArray (KPost fun a w => Q .normal a w) (l.drop n) A W) (l.take n) 0 fun _ _ _ => True) :
    (Code.region id l.toArray true).wpIn (Fence.wide.inRound r) N P Q a w := by
  have hB' := hB
  simp only [growTailB, Bool.and_eq_true, decide_eq_true_eq] at hB'
  obtain ⟨⟨⟨⟨⟨hn, hs⟩, hc⟩, hdB⟩, hd⟩, hseq⟩ := hB'
  have hn' : n < l.length := by simpa using hn
  obtain ⟨S, hst, hop, h3⟩ := growFrom_out hdB (l.take n) 0 _ (by simp; omega) (fun j hj => by
    have : j < n := by simp at hj; omega
    simp [this]) (fun _ _ _ _ _ _ => trivial) (fun i o hi => absurd hi (by omega)) h
  refine wpIn_region_any hm (wpAny_toIn (noDefer_spec hnd) (fun _ _ h => h) _ _ _ _ ?_)
  have inv0 : HeadInv .any l.toArray n (Array.replicate l.toArray.size false) :=
    ⟨by simp, fun j oj _ hl => (by rw [getD_replicate_false] at hl; cases hl), fun t _ ht => getD_in (by simpa using ht) (getD_replicate_false _ _)⟩
  have hb0 : Below w.heap.size w { w with drawn := w.drawn + 1 } := ⟨rfl, rfl, rfl, Nat.le_refl _, fun _ _ => rfl⟩
  have hleft : leftOf n (Array.replicate l.toArray.size false) = n := by
    unfold leftOf
    rw [List.countP_eq_length.2]
    · simp
    · intro i hi
      have : i < l.toArray.size := by have := List.mem_range.1 hi; omega
      rw [getD_in (by simpa using this) (getD_replicate_false _ _)]
      rfl
  obtain ⟨V0, hV0⟩ : ∃ V0, putAll l.toArray V0 n a = a := ⟨_, putAll_self a n⟩
  have H := wpAny_grow (P := P) (Q := KPost fun a w => Q .normal a w) (g := l.toArray.size - n) (S := S) (w0 := w) (a0 := a) (fun listed inv i hi hu t ht => tail_waits hs hc hn inv _ i rfl hi hu t ht) (by omega) hdB hd hst hop
    (fun V W hb hS => by
      have hdl : (l.drop n).length = l.toArray.size - n := by simp
      have := wpAny_of_seq (md := .any) (Q' := KPost fun a w => Q .normal a w) (l.drop n) n (firstN l.toArray n) _ W (fun j => by simp [List.getElem?_drop]) (by rw [hdl]; exact hseq) (h3 V W _ hb hS rfl)
      rwa [hdl] at this)
    n _ V0 { w with drawn := w.drawn + 1 } inv0 hleft hb0 (fun j _ hl => by rw [getD_replicate_false] at hl; cases hl)
  rw [hV0, show n + (l.toArray.size - n) = l.toArray.size by omega] at H
  exact H
end
end Go.Proofs.YtbceafpodamnfabGreat

/-
  My own. The walk over a service's copies, each known to be one of the book's.
-/
namespace Go.Proofs.YtbceafpodamnfabGreat
open Go.RowKit Go.Shelf

attribute [local go_sem] Oper.semAt_some

def ofA {p : Cp → Prop} (nm : ByteArray) (l : List {c // p c}) : List {c // p c} := ofG (·.1) nm l
theorem ofA_map (nm : ByteArray) (l : List Cp) : (ofA nm l.attach).map (·.1) = ofS nm l := by
  unfold ofA ofG ofS
  have h : (fun c : {c // c ∈ l} => c.1.service.toList == nm.toList) = (fun c : Cp => c.service.toList == nm.toList) ∘ Subtype.val := rfl
  rw [h, ← List.filter_map, List.attach_map_subtype_val]
theorem ofA_len (nm : ByteArray) (l : List Cp) : (ofA nm l.attach).length ≤ l.length := by
  have := List.length_filter_le (fun c : {c // c ∈ l} => c.1.service.toList == nm.toList) l.attach
  unfold ofA ofG
  simpa using this

theorem copies_stops_mem (n : Nat) (hn : 1 ≤ n) (Bb Bt n₀ : Nat) (B : Bk) (nm : ByteArray) (a1 a2 a3 : Option Addr) (c1 c2 c3 : Nat) (hl2 : B.cps.length ≤ 1048576) (HSO : Hid (RiseC B.cps)) (HK : Hid (B.cps.length ≤ c2)) (w : World)
    (hBb : w.heap[Bb]? = some (.cells #[.int .i64 B.now, .slice a1 B.svcs.length c1, .slice a2 B.cps.length c2, .slice a3 B.bts.length c3] 34 (0, 0)))
    (hBt : w.heap[Bt]? = some (.cells #[.string nm] 9 (0, 0))) (hC : B.cps ≠ [] → ∃ b off, a2 = some ⟨b, off, none⟩ ∧ b < n₀ ∧ CpsAt w b off B.cps) (hn0 : n₀ ≤ w.heap.size) :
    SeqStopsK Fence.wide n Tryz.prog 135 #[.pointer (some ⟨Bb, 0, none⟩), .pointer (some ⟨Bt, 0, none⟩)] (fun x : {c // c ∈ B.cps} => #[.agg #[.string x.1.service, .int .i64 x.1.number, .int .i64 x.1.version, .int .i64 x.1.image, .int .i64 x.1.state, .bool x.1.ending, .string x.1.berth]]) (KpB n₀ Bt) (fun ys => ys = ofA nm B.cps.attach) (fun _ => True) (ofA nm B.cps.attach).length w := fun l J Jx W hW hJa _ hY h0 =>
  copies1_in (·.1) B.cps.attach n hn l Bb Bt n₀ B (List.attach_map_subtype_val _) nm a1 a2 a3 c1 c2 c3 hl2 HSO HK J Jx (fun pre x c W e => by subst e; exact hY pre x W) W hJa ((hW.block Bb (Array.getElem?_eq_some_iff.1 hBb).1).trans hBb) ((hW.block Bt (Array.getElem?_eq_some_iff.1 hBt).1).trans hBt)
    (fun hne => let ⟨b, off, e, hb, hat⟩ := hC hne; ⟨b, off, e, hb, fun i s hs => (hat i s hs).below hW (Nat.lt_of_lt_of_le hb hn0)⟩) (Nat.le_trans hn0 hW.size) h0

end Go.Proofs.YtbceafpodamnfabGreat
