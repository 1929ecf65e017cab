/-
  My own: Si, Sj.
-/
import Derived.Test.YtnaaebffajdogabGreatA26
/-
  My own. The program's stewards: sweeper, scaler.
-/
namespace Go.Proofs.YtnaaebffajdogabGreat
open Go.RowKit Go.Sort

def noneC (N : Cnt) : Bool := N.live == 0 && (N.ready == 0 && (N.old == 0 && (N.failed == 0 && N.ending == 0)))
def sweeperO (s : Svc) (N : Cnt) (l : List Sn) : Option Ac :=
  if s.gone = true then (if noneC N = true then some { a0 s with drop := true } else endO s l) else none

set_option maxRecDepth 100000 in
set_option maxHeartbeats 16000000 in
theorem sweeper_any (s : Svc) (N : Cnt) (dr : Int) (l : List Sn) (lo : Nat) (al : Option Addr) (cl : Nat) (w : World) (hl : l.length ≤ 1048576) (hsi : SvcIn s) (_hN0 : 0 ≤ N.live) (_hN1 : N.live ≤ 1048576) (_hr0 : 0 ≤ N.ready) (_hr1 : N.ready ≤ 1048576) (hL : OwnSn lo w al cl l) :
    Calls Tryz.prog 77 #[.agg #[.string s.name, .int .i64 s.version, .bool s.gone, .int .i64 s.image, .int .i64 s.want, .int .i64 s.down, .int .i64 s.over, .int .i64 s.next, .int .i64 s.per, .int .i64 s.least, .int .i64 s.most, .int .i64 s.load, .int .i64 s.cool, .int .i64 N.live, .int .i64 N.ready, .int .i64 N.old, .int .i64 N.failed, .int .i64 N.ending, .int .i64 dr, .slice al l.length cl]] w fun e w' => Asked w.heap.size w' e (sweeperO s N l) ∧ Below w.heap.size w w' := by
  have HL : Hid (OwnSn lo w al cl l) := hL
  have hw0 := hsi.want0
  have hw1 := hsi.want1
  have ho0 := hsi.over0
  have ho1 := hsi.over1
  have HSI : Hid (SvcIn s) := hsi
  clear hL hsi
  obtain ⟨W0, hW0, t0, t1, hz0, hz0', hb0⟩ := two_newW w (.cells #[.string s.name, .int .i64 s.version, .bool s.gone, .int .i64 s.image, .int .i64 s.want, .int .i64 s.down, .int .i64 s.over, .int .i64 s.next, .int .i64 s.per, .int .i64 s.least, .int .i64 s.most, .int .i64 s.load, .int .i64 s.cool, .int .i64 N.live, .int .i64 N.ready, .int .i64 N.old, .int .i64 N.failed, .int .i64 N.ending, .int .i64 dr, .slice al l.length cl] 108) (.cells #[.string ⟨#[]⟩, .int .i64 0, .int .i64 0, .int .i64 0, .int .i64 0, .bool false, .slice none 0 0, .bool false] 59)
  have T0 : Hid _ := t0
  have T1 : Hid _ := t1
  clear t0 t1
  go_enter Tryz.func77, Tryz.ntmps77
  go_upto_region 1 with fail
  clear hW0
  have z2a := blk_cell T0.out 2 rfl
  rcases Bool.eq_false_or_eq_true s.gone with hgo0 | hgo0
  · have hgo : Hid (s.gone = true) := hgo0
    have z2 : W0.cell? ⟨w.heap.size, 2, none⟩ = some (.bool true) := by rw [hgo0] at z2a; exact z2a
    clear hgo0 z2a
    have z13 := blk_cell T0.out 13 rfl
    have z14 := blk_cell T0.out 14 rfl
    have z15 := blk_cell T0.out 15 rfl
    have z16 := blk_cell T0.out 16 rfl
    have z17 := blk_cell T0.out 17 rfl
    go_upto_region 3 with fail
    generalize (Value.agg #[.string s.name, .int .i64 s.version, .bool s.gone, .int .i64 s.image, .int .i64 s.want, .int .i64 s.down, .int .i64 s.over, .int .i64 s.next, .int .i64 s.per, .int .i64 s.least, .int .i64 s.most, .int .i64 s.load, .int .i64 s.cool, .int .i64 N.live, .int .i64 N.ready, .int .i64 N.old, .int .i64 N.failed, .int .i64 N.ending, .int .i64 dr, .slice al l.length cl]) = vs
    go_cut [13] (fun v wx => v = .bool (noneC N) ∧ W0 = wx)
    case first =>
      go_wp2_with fail
      all_goals
        go_meet
        exact ⟨congrArg Value.bool (by simp [noneC, *]), rfl⟩
    obtain ⟨rfl, rfl⟩ := hcut
    clear z13 z14 z15 z16 z17
    obtain ⟨n, HN⟩ : ∃ n, Hid (noneC N = n) := ⟨_, rfl⟩
    rw [HN.out]
    cases n
    · have y19 := blk_cell T0.out 19 rfl
      obtain ⟨o, HO⟩ : ∃ o, Hid (endO s l = o) := ⟨_, rfl⟩
      have HX : Hid (∀ W : World, OwnSn lo W al cl l → Calls Tryz.prog 115 #[.agg #[.string s.name, .int .i64 s.version, .bool s.gone, .int .i64 s.image, .int .i64 s.want, .int .i64 s.down, .int .i64 s.over, .int .i64 s.next, .int .i64 s.per, .int .i64 s.least, .int .i64 s.most, .int .i64 s.load, .int .i64 s.cool, .int .i64 N.live, .int .i64 N.ready, .int .i64 N.old, .int .i64 N.failed, .int .i64 N.ending, .int .i64 dr, .slice al l.length cl], .slice al l.length cl] W fun e w' => Asked W.heap.size w' e o ∧ Below W.heap.size W w') := fun W h => by have := end_asked s N dr al l.length cl l lo al cl W hl h; rw [HO.out] at this; exact this
      go_wp2_with (first
        | (refine wpList_load_row rfl 108 (.tmp 1) rfl w.heap.size rfl 108 #[.string s.name, .int .i64 s.version, .bool s.gone, .int .i64 s.image, .int .i64 s.want, .int .i64 s.down, .int .i64 s.over, .int .i64 s.next, .int .i64 s.per, .int .i64 s.least, .int .i64 s.most, .int .i64 s.load, .int .i64 s.cool, .int .i64 N.live, .int .i64 N.ready, .int .i64 N.old, .int .i64 N.failed, .int .i64 N.ending, .int .i64 dr, .slice al l.length cl] (0, 0) _ T0.out Tryz.underlying108 rfl Tryz.infosSight ?_))
      refine (HX.out _ (own_below HL.out hb0 (Nat.le_refl _))).mono ?_
      rintro e w3 ⟨⟨A, ae, ce, rfl, hown, HA⟩, hb3⟩
      have hz3 := hb3.size
      have R3 : Hid _ := below_blk hb3 T1.out (by omega)
      have hbw3 := hb0.trans (hb3.mono hb0.size)
      have O3 : Hid _ := own_mono hown.out hz0
      clear T0 T1 hb0 hb3 hown y19 HX
      go_wp2_with (first
        | (refine wpList_store_only rfl 59 (.tmp 2) (.tmp 22) rfl (w.heap.size + 1) 0 #[.string A.service, .int .i64 A.seen, .int .i64 A.create, .int .i64 A.want, .int .i64 A.cool, .bool A.scale, .slice ae A.ends.length ce, .bool A.drop] rfl rfl 59 #[.string ⟨#[]⟩, .int .i64 0, .int .i64 0, .int .i64 0, .int .i64 0, .bool false, .slice none 0 0, .bool false] R3.out Tryz.infosActS (Nat.le_of_ble_eq_true rfl) (by simp [Value.oneCell']) ?_; intro wf hz on; have RF : Hid (wf.heap[(w.heap.size + 1)]? = some (.cells #[.string A.service, .int .i64 A.seen, .int .i64 A.create, .int .i64 A.want, .int .i64 A.cool, .bool A.scale, .slice ae A.ends.length ce, .bool A.drop] 59 (0, 0))) := hz; have BF := hbw3.trans (on.below.mono (by omega)); have OF : Hid _ := own_mono (own_blk O3.out (fun q hq _ => on.other q (by omega))) (show w.heap.size ≤ w.heap.size + 1 + 1 by omega); have p0 := blk_cell RF.out 0 rfl; have p1 := blk_cell RF.out 1 rfl; have p2 := blk_cell RF.out 2 rfl; have p3 := blk_cell RF.out 3 rfl; have p4 := blk_cell RF.out 4 rfl; have p5 := blk_cell RF.out 5 rfl; have p6 := blk_cell RF.out 6 rfl; have p7 := blk_cell RF.out 7 rfl; clear hz on))
      refine bodyPost_ret (v := .tuple #[.agg #[.string A.service, .int .i64 A.seen, .int .i64 A.create, .int .i64 A.want, .int .i64 A.cool, .bool A.scale, .slice ae A.ends.length ce, .bool A.drop], .bool o.isSome]) (by simp [results, Tryz.results77, go_sem, p0, p1, p2, p3, p4, p5, p6, p7]) rfl ⟨by rw [show sweeperO s N l = o from (by unfold sweeperO; rw [if_pos hgo.out, if_neg (by rw [HN.out]; simp), HO.out])]; exact ⟨A, ae, ce, rfl, OF, HA.out⟩, BF⟩
    · go_wp2_with (first
        | (refine wpList_load_row rfl 108 (.tmp 1) rfl w.heap.size rfl 108 #[.string s.name, .int .i64 s.version, .bool s.gone, .int .i64 s.image, .int .i64 s.want, .int .i64 s.down, .int .i64 s.over, .int .i64 s.next, .int .i64 s.per, .int .i64 s.least, .int .i64 s.most, .int .i64 s.load, .int .i64 s.cool, .int .i64 N.live, .int .i64 N.ready, .int .i64 N.old, .int .i64 N.failed, .int .i64 N.ending, .int .i64 dr, .slice al l.length cl] (0, 0) _ T0.out Tryz.underlying108 rfl Tryz.infosSight ?_))
      refine (act_any s N dr al l.length cl _).mono ?_
      rintro e w1 ⟨rfl, hb1⟩
      have Bi := hb0.trans (hb1.mono hb0.size)
      have hz1 := hb1.size
      have U1 : Hid (w1.heap[w.heap.size + 1]? = some (.cells #[.string ⟨#[]⟩, .int .i64 0, .int .i64 0, .int .i64 0, .int .i64 0, .bool false, .slice none 0 0, .bool false] 59 (0, 0))) := below_blk hb1 T1.out (by omega)
      clear hb1 hb0 T0 T1
      go_wp2_with (first
        | (refine wpList_store_only rfl 59 (.tmp 4) (.tmp 15) rfl w1.heap.size 0 #[.string s.name, .int .i64 s.version, .int .i64 0, .int .i64 0, .int .i64 0, .bool false, .slice none 0 0, .bool false] rfl rfl 59 #[.string ⟨#[]⟩, .int .i64 0, .int .i64 0, .int .i64 0, .int .i64 0, .bool false, .slice none 0 0, .bool false] (heap_alloc_new w1 _) Tryz.infosActS (Nat.le_of_ble_eq_true rfl) (by simp [Value.oneCell']) ?_; intro wa hz on; have Y0 : Hid (wa.heap[w1.heap.size]? = some (.cells #[.string s.name, .int .i64 s.version, .int .i64 0, .int .i64 0, .int .i64 0, .bool false, .slice none 0 0, .bool false] 59 (0, 0))) := hz; have R0 : Hid _ := (on.other (w.heap.size + 1) (by omega)).trans (below_blk (below_box w1 _) U1.out (by omega)); have B0 := (Bi.alloc (by omega) _).trans (on.below.mono (by omega)); have q0 := blk_cell Y0.out 0 rfl; clear hz on)
        | (refine wpList_store_one rfl 4 (.tmp 16) (.const (.bool true)) rfl w1.heap.size 7 (.bool true) rfl rfl Tryz.infosBoolS rfl rfl 59 #[.string s.name, .int .i64 s.version, .int .i64 0, .int .i64 0, .int .i64 0, .bool false, .slice none 0 0, .bool false] Y0.out (Nat.le_of_ble_eq_true rfl) ?_; intro wb hz on; have Y1 : Hid (wb.heap[w1.heap.size]? = some (.cells #[.string s.name, .int .i64 s.version, .int .i64 0, .int .i64 0, .int .i64 0, .bool false, .slice none 0 0, .bool true] 59 (0, 0))) := hz; have R1 : Hid _ := (on.other (w.heap.size + 1) (by omega)).trans R0.out; have B1 := B0.trans (on.below.mono (by omega)); have q0 := blk_cell Y1.out 0 rfl; have q1 := blk_cell Y1.out 1 rfl; have q2 := blk_cell Y1.out 2 rfl; have q3 := blk_cell Y1.out 3 rfl; have q4 := blk_cell Y1.out 4 rfl; have q5 := blk_cell Y1.out 5 rfl; have q6 := blk_cell Y1.out 6 rfl; have q7 := blk_cell Y1.out 7 rfl; clear hz on)
        | (refine wpList_store_only rfl 59 (.tmp 2) (.tmp 17) rfl (w.heap.size + 1) 0 #[.string s.name, .int .i64 s.version, .int .i64 0, .int .i64 0, .int .i64 0, .bool false, .slice none 0 0, .bool true] rfl rfl 59 #[.string ⟨#[]⟩, .int .i64 0, .int .i64 0, .int .i64 0, .int .i64 0, .bool false, .slice none 0 0, .bool false] R1.out Tryz.infosActS (Nat.le_of_ble_eq_true rfl) (by simp [Value.oneCell']) ?_; intro wf hz on; have RF : Hid (wf.heap[(w.heap.size + 1)]? = some (.cells #[.string s.name, .int .i64 s.version, .int .i64 0, .int .i64 0, .int .i64 0, .bool false, .slice none 0 0, .bool true] 59 (0, 0))) := hz; have BF := B1.trans (on.below.mono (by omega)); have p0 := blk_cell RF.out 0 rfl; have p1 := blk_cell RF.out 1 rfl; have p2 := blk_cell RF.out 2 rfl; have p3 := blk_cell RF.out 3 rfl; have p4 := blk_cell RF.out 4 rfl; have p5 := blk_cell RF.out 5 rfl; have p6 := blk_cell RF.out 6 rfl; have p7 := blk_cell RF.out 7 rfl; clear hz on))
      refine bodyPost_ret (v := .tuple #[.agg #[.string s.name, .int .i64 s.version, .int .i64 0, .int .i64 0, .int .i64 0, .bool false, .slice none 0 0, .bool true], .bool true]) (by simp [results, Tryz.results77, go_sem, p0, p1, p2, p3, p4, p5, p6, p7]) rfl ⟨by rw [show sweeperO s N l = some { a0 s with drop := true } from (by unfold sweeperO; rw [if_pos hgo.out, if_pos HN.out])]; exact ⟨{ a0 s with drop := true }, none, 0, rfl, World.ownsRow_nil _ _ _ _, fun A' h => Option.some.inj h⟩, BF⟩
  have hgo : Hid (s.gone = false) := hgo0
  have z2 : W0.cell? ⟨w.heap.size, 2, none⟩ = some (.bool false) := by rw [hgo0] at z2a; exact z2a
  clear hgo0 z2a
  have HN : Hid (sweeperO s N l = none) := by unfold Hid sweeperO; rw [if_neg (by simp [hgo.out])]
  go_wp2_with (first
    | (refine wpList_store_only rfl 59 (.tmp 2) (.tmp 9) rfl (w.heap.size + 1) 0 #[.string ⟨#[]⟩, .int .i64 0, .int .i64 0, .int .i64 0, .int .i64 0, .bool false, .slice none 0 0, .bool false] rfl rfl 59 #[.string ⟨#[]⟩, .int .i64 0, .int .i64 0, .int .i64 0, .int .i64 0, .bool false, .slice none 0 0, .bool false] T1.out Tryz.infosActS (Nat.le_of_ble_eq_true rfl) (by simp [Value.oneCell']) ?_; intro wf hz on; have RF : Hid (wf.heap[(w.heap.size + 1)]? = some (.cells #[.string ⟨#[]⟩, .int .i64 0, .int .i64 0, .int .i64 0, .int .i64 0, .bool false, .slice none 0 0, .bool false] 59 (0, 0))) := hz; have BF := hb0.trans (on.below.mono (by omega)); have p0 := blk_cell RF.out 0 rfl; have p1 := blk_cell RF.out 1 rfl; have p2 := blk_cell RF.out 2 rfl; have p3 := blk_cell RF.out 3 rfl; have p4 := blk_cell RF.out 4 rfl; have p5 := blk_cell RF.out 5 rfl; have p6 := blk_cell RF.out 6 rfl; have p7 := blk_cell RF.out 7 rfl; clear hz on))
  refine bodyPost_ret (v := .tuple #[.agg #[.string ⟨#[]⟩, .int .i64 0, .int .i64 0, .int .i64 0, .int .i64 0, .bool false, .slice none 0 0, .bool false], .bool false]) (by simp [results, Tryz.results77, go_sem, p0, p1, p2, p3, p4, p5, p6, p7]) rfl ⟨by rw [HN.out]; exact asked_no _ _, BF⟩

end Go.Proofs.YtnaaebffajdogabGreat

/-
  My own. The program's stewards: scaler.
-/
namespace Go.Proofs.YtnaaebffajdogabGreat
open Go.RowKit Go.Sort

def scalerO (s : Svc) : Option Ac :=
  if s.gone = true ∨ s.per = 0 then none else if (scalerA s (desired s)).scale = true then some (scalerA s (desired s)) else none
theorem scalerO_yes (s : Svc) (d m q : Int) (hg : s.gone = false) (hp : s.per ≠ 0) (hd : desired s = d) (hA : scalerA s d = ⟨s.name, s.version, 0, m, q, true, [], false⟩) : scalerO s = some ⟨s.name, s.version, 0, m, q, true, [], false⟩ := by
  unfold scalerO; rw [if_neg (by simp [hg, hp]), hd, hA, if_pos rfl]
theorem scalerO_no (s : Svc) (d : Int) (hg : s.gone = false) (hp : s.per ≠ 0) (hd : desired s = d) (hA : scalerA s d = a0 s) : scalerO s = none := by
  unfold scalerO; rw [if_neg (by simp [hg, hp]), hd, hA]; rfl

set_option maxRecDepth 100000 in
set_option maxHeartbeats 16000000 in
theorem scaler_any (s : Svc) (N : Cnt) (dr : Int) (l : List Sn) (lo : Nat) (al : Option Addr) (cl : Nat) (w : World) (_hl : l.length ≤ 1048576) (hsi : SvcIn s) (hper : s.per ≠ 0 → 0 < s.per ∧ PerIn s ∧ s.least ≤ s.most) (_hN0 : 0 ≤ N.live) (_hN1 : N.live ≤ 1048576) (_hr0 : 0 ≤ N.ready) (_hr1 : N.ready ≤ 1048576) (hL : OwnSn lo w al cl l) :
    Calls Tryz.prog 76 #[.agg #[.string s.name, .int .i64 s.version, .bool s.gone, .int .i64 s.image, .int .i64 s.want, .int .i64 s.down, .int .i64 s.over, .int .i64 s.next, .int .i64 s.per, .int .i64 s.least, .int .i64 s.most, .int .i64 s.load, .int .i64 s.cool, .int .i64 N.live, .int .i64 N.ready, .int .i64 N.old, .int .i64 N.failed, .int .i64 N.ending, .int .i64 dr, .slice al l.length cl]] w fun e w' => Asked w.heap.size w' e (scalerO s) ∧ Below w.heap.size w w' := by
  have HL : Hid (OwnSn lo w al cl l) := hL
  have hw0 := hsi.want0
  have hw1 := hsi.want1
  have ho0 := hsi.over0
  have ho1 := hsi.over1
  have HSI : Hid (SvcIn s) := hsi
  have HPER : Hid (s.per ≠ 0 → 0 < s.per ∧ PerIn s ∧ s.least ≤ s.most) := hper
  clear hL hsi hper
  obtain ⟨W0, hW0, t0, t1, hz0, hz0', hb0⟩ := two_newW w (.cells #[.string s.name, .int .i64 s.version, .bool s.gone, .int .i64 s.image, .int .i64 s.want, .int .i64 s.down, .int .i64 s.over, .int .i64 s.next, .int .i64 s.per, .int .i64 s.least, .int .i64 s.most, .int .i64 s.load, .int .i64 s.cool, .int .i64 N.live, .int .i64 N.ready, .int .i64 N.old, .int .i64 N.failed, .int .i64 N.ending, .int .i64 dr, .slice al l.length cl] 108) (.cells #[.string ⟨#[]⟩, .int .i64 0, .int .i64 0, .int .i64 0, .int .i64 0, .bool false, .slice none 0 0, .bool false] 59)
  have T0 : Hid _ := t0
  have T1 : Hid _ := t1
  clear t0 t1
  go_enter Tryz.func76, Tryz.ntmps76
  go_upto_region 1 with fail
  clear hW0
  obtain ⟨W1, hW1⟩ : ∃ W, W0.alloc (.cells #[.string s.name, .int .i64 s.version, .bool s.gone, .int .i64 s.image, .int .i64 s.want, .int .i64 s.down, .int .i64 s.over, .int .i64 s.next, .int .i64 s.per, .int .i64 s.least, .int .i64 s.most, .int .i64 s.load, .int .i64 s.cool] 48) = W := ⟨_, rfl⟩
  have hlt0 : w.heap.size < W0.heap.size := by omega
  have V1 : Hid _ := heap_alloc_new W0 (.cells #[.string s.name, .int .i64 s.version, .bool s.gone, .int .i64 s.image, .int .i64 s.want, .int .i64 s.down, .int .i64 s.over, .int .i64 s.next, .int .i64 s.per, .int .i64 s.least, .int .i64 s.most, .int .i64 s.load, .int .i64 s.cool] 48)
  have hbb1 := below_box W0 (.cells #[.string s.name, .int .i64 s.version, .bool s.gone, .int .i64 s.image, .int .i64 s.want, .int .i64 s.down, .int .i64 s.over, .int .i64 s.next, .int .i64 s.per, .int .i64 s.least, .int .i64 s.most, .int .i64 s.load, .int .i64 s.cool] 48)
  have hbw1 := hb0.trans (hbb1.mono hb0.size)
  have hpl : W0.heap.size < (W0.alloc (.cells #[.string s.name, .int .i64 s.version, .bool s.gone, .int .i64 s.image, .int .i64 s.want, .int .i64 s.down, .int .i64 s.over, .int .i64 s.next, .int .i64 s.per, .int .i64 s.least, .int .i64 s.most, .int .i64 s.load, .int .i64 s.cool] 48)).heap.size := by simp
  have S1 : Hid _ := below_blk hbb1 T0.out (by omega)
  have R1 : Hid _ := below_blk hbb1 T1.out (by omega)
  rw [hW1] at V1 hbb1 hbw1 hpl S1 R1
  have z0 := blk_cell T0.out 0 rfl
  have z1 := blk_cell T0.out 1 rfl
  have z2 := blk_cell T0.out 2 rfl
  have z3 := blk_cell T0.out 3 rfl
  have z4 := blk_cell T0.out 4 rfl
  have z5 := blk_cell T0.out 5 rfl
  have z6 := blk_cell T0.out 6 rfl
  have z7 := blk_cell T0.out 7 rfl
  have z8 := blk_cell T0.out 8 rfl
  have z9 := blk_cell T0.out 9 rfl
  have z10 := blk_cell T0.out 10 rfl
  have z11 := blk_cell T0.out 11 rfl
  have z12 := blk_cell T0.out 12 rfl
  go_upto_region 2 with fail
  clear hW1 z0 z1 z2 z3 z4 z5 z6 z7 z8 z9 z10 z11 z12
  obtain ⟨p, hpe, hpz⟩ : ∃ p, W0.heap.size = p ∧ w.heap.size + 1 + 1 ≤ p := ⟨_, rfl, hz0⟩
  rw [hpe] at V1 hpl
  rw [hpe]
  clear hbb1 T0 T1 hb0 hpe hz0 hz0' hlt0 W0
  have v2a := blk_cell V1.out 2 rfl
  have v4 := blk_cell V1.out 4 rfl; have v8 := blk_cell V1.out 8 rfl; have v9 := blk_cell V1.out 9 rfl; have v10 := blk_cell V1.out 10 rfl; have v12 := blk_cell V1.out 12 rfl
  rcases Bool.eq_false_or_eq_true s.gone with hgo0 | hgo0
  · have hgo : Hid (s.gone = true) := hgo0
    have v2 : W1.cell? ⟨p, 2, none⟩ = some (.bool true) := by rw [hgo0] at v2a; exact v2a
    clear hgo0 v2a
    have HN : Hid (scalerO s = none) := by unfold Hid scalerO; rw [if_pos (.inl hgo.out)]
    go_wp2_with (first
      | (refine wpList_store_only rfl 59 (.tmp 2) (.tmp 15) rfl (w.heap.size + 1) 0 #[.string ⟨#[]⟩, .int .i64 0, .int .i64 0, .int .i64 0, .int .i64 0, .bool false, .slice none 0 0, .bool false] rfl rfl 59 #[.string ⟨#[]⟩, .int .i64 0, .int .i64 0, .int .i64 0, .int .i64 0, .bool false, .slice none 0 0, .bool false] R1.out Tryz.infosActS (Nat.le_of_ble_eq_true rfl) (by simp [Value.oneCell']) ?_; intro wf hz on; have RF : Hid (wf.heap[(w.heap.size + 1)]? = some (.cells #[.string ⟨#[]⟩, .int .i64 0, .int .i64 0, .int .i64 0, .int .i64 0, .bool false, .slice none 0 0, .bool false] 59 (0, 0))) := hz; have BF := hbw1.trans (on.below.mono (by omega)); have p0 := blk_cell RF.out 0 rfl; have p1 := blk_cell RF.out 1 rfl; have p2 := blk_cell RF.out 2 rfl; have p3 := blk_cell RF.out 3 rfl; have p4 := blk_cell RF.out 4 rfl; have p5 := blk_cell RF.out 5 rfl; have p6 := blk_cell RF.out 6 rfl; have p7 := blk_cell RF.out 7 rfl; clear hz on))
    refine bodyPost_ret (v := .tuple #[.agg #[.string ⟨#[]⟩, .int .i64 0, .int .i64 0, .int .i64 0, .int .i64 0, .bool false, .slice none 0 0, .bool false], .bool false]) (by simp [results, Tryz.results76, go_sem, p0, p1, p2, p3, p4, p5, p6, p7]) rfl ⟨by rw [HN.out]; exact asked_no _ _, BF⟩
  have hgo : Hid (s.gone = false) := hgo0
  have v2 : W1.cell? ⟨p, 2, none⟩ = some (.bool false) := by rw [hgo0] at v2a; exact v2a
  clear hgo0 v2a
  by_cases hp : s.per = 0
  · have HN : Hid (scalerO s = none) := by unfold Hid scalerO; rw [if_pos (.inr hp)]
    have hp1 : (s.per == 0) = true := by simp [hp]
    clear hp
    go_wp2_with (first
      | (refine wpList_store_only rfl 59 (.tmp 2) (.tmp 15) rfl (w.heap.size + 1) 0 #[.string ⟨#[]⟩, .int .i64 0, .int .i64 0, .int .i64 0, .int .i64 0, .bool false, .slice none 0 0, .bool false] rfl rfl 59 #[.string ⟨#[]⟩, .int .i64 0, .int .i64 0, .int .i64 0, .int .i64 0, .bool false, .slice none 0 0, .bool false] R1.out Tryz.infosActS (Nat.le_of_ble_eq_true rfl) (by simp [Value.oneCell']) ?_; intro wf hz on; have RF : Hid (wf.heap[(w.heap.size + 1)]? = some (.cells #[.string ⟨#[]⟩, .int .i64 0, .int .i64 0, .int .i64 0, .int .i64 0, .bool false, .slice none 0 0, .bool false] 59 (0, 0))) := hz; have BF := hbw1.trans (on.below.mono (by omega)); have p0 := blk_cell RF.out 0 rfl; have p1 := blk_cell RF.out 1 rfl; have p2 := blk_cell RF.out 2 rfl; have p3 := blk_cell RF.out 3 rfl; have p4 := blk_cell RF.out 4 rfl; have p5 := blk_cell RF.out 5 rfl; have p6 := blk_cell RF.out 6 rfl; have p7 := blk_cell RF.out 7 rfl; clear hz on))
    refine bodyPost_ret (v := .tuple #[.agg #[.string ⟨#[]⟩, .int .i64 0, .int .i64 0, .int .i64 0, .int .i64 0, .bool false, .slice none 0 0, .bool false], .bool false]) (by simp [results, Tryz.results76, go_sem, p0, p1, p2, p3, p4, p5, p6, p7]) rfl ⟨by rw [HN.out]; exact asked_no _ _, BF⟩
  have hp1 : (s.per == 0) = false := by simp [hp]
  obtain ⟨hp0, hq, hlm⟩ := HPER.out hp
  have HP : Hid (s.per ≠ 0) := hp
  clear hp HPER
  have hc0 := hq.cool0
  have hc1 := hq.cool1
  obtain ⟨d, HD, HW⟩ : ∃ d, Hid (desired s = d) ∧ Hid (∀ W : World, Calls Tryz.prog 118 #[.agg #[.string s.name, .int .i64 s.version, .bool s.gone, .int .i64 s.image, .int .i64 s.want, .int .i64 s.down, .int .i64 s.over, .int .i64 s.next, .int .i64 s.per, .int .i64 s.least, .int .i64 s.most, .int .i64 s.load, .int .i64 s.cool]] W fun e w' => e = .returned (.int .i64 d) ∧ Below W.heap.size W w') := ⟨_, rfl, fun W => dueWant_any s W hq.load0 hq.load1 hp0 hq.per1 hq.least0 hq.least1 hq.most0 hq.most1 hlm⟩
  have hl0 := hq.least0
  have hl1 := hq.least1
  have hm0 := hq.most0
  have hm1 := hq.most1
  clear hq
  go_wp2_with (first
    | (refine wpList_load_row rfl 48 (.tmp 4) rfl p rfl 48 #[.string s.name, .int .i64 s.version, .bool s.gone, .int .i64 s.image, .int .i64 s.want, .int .i64 s.down, .int .i64 s.over, .int .i64 s.next, .int .i64 s.per, .int .i64 s.least, .int .i64 s.most, .int .i64 s.load, .int .i64 s.cool] (0, 0) _ V1.out Tryz.underlying48 rfl Tryz.infosSvcS ?_))
  refine (HW.out _).mono ?_
  rintro e w2 ⟨rfl, hb2⟩
  have hz2 := hb2.size
  have hzw1 := hbw1.size
  have S2 : Hid _ := below_blk hb2 S1.out (by omega)
  have R2 : Hid _ := below_blk hb2 R1.out (by omega)
  have V2 : Hid _ := below_blk hb2 V1.out hpl
  have hbw2 := hbw1.trans (hb2.mono hbw1.size)
  clear hb2 hbw1 S1 R1 V1 v2 v4 v8 v9 v10 v12 HW
  have v4 := blk_cell V2.out 4 rfl; have v9 := blk_cell V2.out 9 rfl; have v10 := blk_cell V2.out 10 rfl; have v12 := blk_cell V2.out 12 rfl
  go_wp2_with fail
  refine (within_any _ _ _ _).mono ?_
  rintro e w' ⟨rfl, rfl⟩
  by_cases hwl : s.want < s.least
  · rw [show inB s.want s.least s.most = false from (by unfold inB; simp; omega)]
    have HE : Hid (scalerA s d = ⟨s.name, s.version, 0, s.least, 0, true, [], false⟩) := by unfold Hid scalerA; rw [if_pos hwl]; rfl
    have HO : Hid _ := scalerO_yes s d (s.least) (0) hgo.out HP.out HD.out HE.out
    go_wp2_with (first
      | (refine wpList_load_row rfl 108 (.tmp 1) rfl w.heap.size rfl 108 #[.string s.name, .int .i64 s.version, .bool s.gone, .int .i64 s.image, .int .i64 s.want, .int .i64 s.down, .int .i64 s.over, .int .i64 s.next, .int .i64 s.per, .int .i64 s.least, .int .i64 s.most, .int .i64 s.load, .int .i64 s.cool, .int .i64 N.live, .int .i64 N.ready, .int .i64 N.old, .int .i64 N.failed, .int .i64 N.ending, .int .i64 dr, .slice al l.length cl] (0, 0) _ S2.out Tryz.underlying108 rfl Tryz.infosSight ?_))
    refine (scale_any s N dr al l.length cl (s.least) (0) _).mono ?_
    rintro e w3 ⟨rfl, hb3⟩
    have hz3 := hb3.size
    have R3 : Hid _ := below_blk hb3 R2.out (by omega)
    have hbw3 := hbw2.trans (hb3.mono hbw2.size)
    clear R2 S2 V2 hb3 hbw2 v4 v9 v10 v12
    go_wp2_with (first
      | (refine wpList_store_only rfl 59 (.tmp 2) (.tmp 37) rfl (w.heap.size + 1) 0 #[.string s.name, .int .i64 s.version, .int .i64 0, .int .i64 (s.least), .int .i64 (0), .bool true, .slice none 0 0, .bool false] rfl rfl 59 #[.string ⟨#[]⟩, .int .i64 0, .int .i64 0, .int .i64 0, .int .i64 0, .bool false, .slice none 0 0, .bool false] R3.out Tryz.infosActS (Nat.le_of_ble_eq_true rfl) (by simp [Value.oneCell']) ?_; intro wf hz on; have RF : Hid (wf.heap[(w.heap.size + 1)]? = some (.cells #[.string s.name, .int .i64 s.version, .int .i64 0, .int .i64 (s.least), .int .i64 (0), .bool true, .slice none 0 0, .bool false] 59 (0, 0))) := hz; have BF := hbw3.trans (on.below.mono (by omega)); have p0 := blk_cell RF.out 0 rfl; have p1 := blk_cell RF.out 1 rfl; have p2 := blk_cell RF.out 2 rfl; have p3 := blk_cell RF.out 3 rfl; have p4 := blk_cell RF.out 4 rfl; have p5 := blk_cell RF.out 5 rfl; have p6 := blk_cell RF.out 6 rfl; have p7 := blk_cell RF.out 7 rfl; clear hz on))
    refine bodyPost_ret (v := .tuple #[.agg #[.string s.name, .int .i64 s.version, .int .i64 0, .int .i64 (s.least), .int .i64 (0), .bool true, .slice none 0 0, .bool false], .bool true]) (by simp [results, Tryz.results76, go_sem, p0, p1, p2, p3, p4, p5, p6, p7]) rfl ⟨by rw [HO.out]; exact ⟨⟨s.name, s.version, 0, s.least, 0, true, [], false⟩, none, 0, rfl, World.ownsRow_nil _ _ _ _, fun A' h => Option.some.inj h⟩, BF⟩
  by_cases hwm : s.most < s.want
  · rw [show inB s.want s.least s.most = false from (by unfold inB; simp; omega)]
    have HE : Hid (scalerA s d = ⟨s.name, s.version, 0, s.most, 0, true, [], false⟩) := by unfold Hid scalerA; rw [if_neg hwl, if_pos hwm]; rfl
    have HO : Hid _ := scalerO_yes s d (s.most) (0) hgo.out HP.out HD.out HE.out
    go_wp2_with (first
      | (refine wpList_load_row rfl 108 (.tmp 1) rfl w.heap.size rfl 108 #[.string s.name, .int .i64 s.version, .bool s.gone, .int .i64 s.image, .int .i64 s.want, .int .i64 s.down, .int .i64 s.over, .int .i64 s.next, .int .i64 s.per, .int .i64 s.least, .int .i64 s.most, .int .i64 s.load, .int .i64 s.cool, .int .i64 N.live, .int .i64 N.ready, .int .i64 N.old, .int .i64 N.failed, .int .i64 N.ending, .int .i64 dr, .slice al l.length cl] (0, 0) _ S2.out Tryz.underlying108 rfl Tryz.infosSight ?_))
    refine (scale_any s N dr al l.length cl (s.most) (0) _).mono ?_
    rintro e w3 ⟨rfl, hb3⟩
    have hz3 := hb3.size
    have R3 : Hid _ := below_blk hb3 R2.out (by omega)
    have hbw3 := hbw2.trans (hb3.mono hbw2.size)
    clear R2 S2 V2 hb3 hbw2 v4 v9 v10 v12
    go_wp2_with (first
      | (refine wpList_store_only rfl 59 (.tmp 2) (.tmp 37) rfl (w.heap.size + 1) 0 #[.string s.name, .int .i64 s.version, .int .i64 0, .int .i64 (s.most), .int .i64 (0), .bool true, .slice none 0 0, .bool false] rfl rfl 59 #[.string ⟨#[]⟩, .int .i64 0, .int .i64 0, .int .i64 0, .int .i64 0, .bool false, .slice none 0 0, .bool false] R3.out Tryz.infosActS (Nat.le_of_ble_eq_true rfl) (by simp [Value.oneCell']) ?_; intro wf hz on; have RF : Hid (wf.heap[(w.heap.size + 1)]? = some (.cells #[.string s.name, .int .i64 s.version, .int .i64 0, .int .i64 (s.most), .int .i64 (0), .bool true, .slice none 0 0, .bool false] 59 (0, 0))) := hz; have BF := hbw3.trans (on.below.mono (by omega)); have p0 := blk_cell RF.out 0 rfl; have p1 := blk_cell RF.out 1 rfl; have p2 := blk_cell RF.out 2 rfl; have p3 := blk_cell RF.out 3 rfl; have p4 := blk_cell RF.out 4 rfl; have p5 := blk_cell RF.out 5 rfl; have p6 := blk_cell RF.out 6 rfl; have p7 := blk_cell RF.out 7 rfl; clear hz on))
    refine bodyPost_ret (v := .tuple #[.agg #[.string s.name, .int .i64 s.version, .int .i64 0, .int .i64 (s.most), .int .i64 (0), .bool true, .slice none 0 0, .bool false], .bool true]) (by simp [results, Tryz.results76, go_sem, p0, p1, p2, p3, p4, p5, p6, p7]) rfl ⟨by rw [HO.out]; exact ⟨⟨s.name, s.version, 0, s.most, 0, true, [], false⟩, none, 0, rfl, World.ownsRow_nil _ _ _ _, fun A' h => Option.some.inj h⟩, BF⟩
  rw [show inB s.want s.least s.most = true from (by unfold inB; simp; omega)]
  by_cases hdw : s.want < d
  · have HE : Hid (scalerA s d = ⟨s.name, s.version, 0, d, 0, true, [], false⟩) := by unfold Hid scalerA; rw [if_neg hwl, if_neg hwm, if_pos hdw]; rfl
    have HO : Hid _ := scalerO_yes s d (d) (0) hgo.out HP.out HD.out HE.out
    go_wp2_with (first
      | (refine wpList_load_row rfl 108 (.tmp 1) rfl w.heap.size rfl 108 #[.string s.name, .int .i64 s.version, .bool s.gone, .int .i64 s.image, .int .i64 s.want, .int .i64 s.down, .int .i64 s.over, .int .i64 s.next, .int .i64 s.per, .int .i64 s.least, .int .i64 s.most, .int .i64 s.load, .int .i64 s.cool, .int .i64 N.live, .int .i64 N.ready, .int .i64 N.old, .int .i64 N.failed, .int .i64 N.ending, .int .i64 dr, .slice al l.length cl] (0, 0) _ S2.out Tryz.underlying108 rfl Tryz.infosSight ?_))
    refine (scale_any s N dr al l.length cl (d) (0) _).mono ?_
    rintro e w3 ⟨rfl, hb3⟩
    have hz3 := hb3.size
    have R3 : Hid _ := below_blk hb3 R2.out (by omega)
    have hbw3 := hbw2.trans (hb3.mono hbw2.size)
    clear R2 S2 V2 hb3 hbw2 v4 v9 v10 v12
    go_wp2_with (first
      | (refine wpList_store_only rfl 59 (.tmp 2) (.tmp 47) rfl (w.heap.size + 1) 0 #[.string s.name, .int .i64 s.version, .int .i64 0, .int .i64 (d), .int .i64 (0), .bool true, .slice none 0 0, .bool false] rfl rfl 59 #[.string ⟨#[]⟩, .int .i64 0, .int .i64 0, .int .i64 0, .int .i64 0, .bool false, .slice none 0 0, .bool false] R3.out Tryz.infosActS (Nat.le_of_ble_eq_true rfl) (by simp [Value.oneCell']) ?_; intro wf hz on; have RF : Hid (wf.heap[(w.heap.size + 1)]? = some (.cells #[.string s.name, .int .i64 s.version, .int .i64 0, .int .i64 (d), .int .i64 (0), .bool true, .slice none 0 0, .bool false] 59 (0, 0))) := hz; have BF := hbw3.trans (on.below.mono (by omega)); have p0 := blk_cell RF.out 0 rfl; have p1 := blk_cell RF.out 1 rfl; have p2 := blk_cell RF.out 2 rfl; have p3 := blk_cell RF.out 3 rfl; have p4 := blk_cell RF.out 4 rfl; have p5 := blk_cell RF.out 5 rfl; have p6 := blk_cell RF.out 6 rfl; have p7 := blk_cell RF.out 7 rfl; clear hz on))
    refine bodyPost_ret (v := .tuple #[.agg #[.string s.name, .int .i64 s.version, .int .i64 0, .int .i64 (d), .int .i64 (0), .bool true, .slice none 0 0, .bool false], .bool true]) (by simp [results, Tryz.results76, go_sem, p0, p1, p2, p3, p4, p5, p6, p7]) rfl ⟨by rw [HO.out]; exact ⟨⟨s.name, s.version, 0, d, 0, true, [], false⟩, none, 0, rfl, World.ownsRow_nil _ _ _ _, fun A' h => Option.some.inj h⟩, BF⟩
  by_cases hdw2 : d < s.want
  · by_cases hc3 : s.cool < 3
    · have HE : Hid (scalerA s d = ⟨s.name, s.version, 0, s.want, s.cool + 1, true, [], false⟩) := by unfold Hid scalerA; rw [if_neg hwl, if_neg hwm, if_neg hdw, if_pos hdw2, if_neg (by omega)]; rfl
      have HO : Hid _ := scalerO_yes s d (s.want) (s.cool + 1) hgo.out HP.out HD.out HE.out
      go_wp2_with (first
        | (refine wpList_load_row rfl 108 (.tmp 1) rfl w.heap.size rfl 108 #[.string s.name, .int .i64 s.version, .bool s.gone, .int .i64 s.image, .int .i64 s.want, .int .i64 s.down, .int .i64 s.over, .int .i64 s.next, .int .i64 s.per, .int .i64 s.least, .int .i64 s.most, .int .i64 s.load, .int .i64 s.cool, .int .i64 N.live, .int .i64 N.ready, .int .i64 N.old, .int .i64 N.failed, .int .i64 N.ending, .int .i64 dr, .slice al l.length cl] (0, 0) _ S2.out Tryz.underlying108 rfl Tryz.infosSight ?_))
      refine (scale_any s N dr al l.length cl (s.want) (s.cool + 1) _).mono ?_
      rintro e w3 ⟨rfl, hb3⟩
      have hz3 := hb3.size
      have R3 : Hid _ := below_blk hb3 R2.out (by omega)
      have hbw3 := hbw2.trans (hb3.mono hbw2.size)
      clear R2 S2 V2 hb3 hbw2 v4 v9 v10 v12
      go_wp2_with (first
        | (refine wpList_store_only rfl 59 (.tmp 2) (.tmp 66) rfl (w.heap.size + 1) 0 #[.string s.name, .int .i64 s.version, .int .i64 0, .int .i64 (s.want), .int .i64 (s.cool + 1), .bool true, .slice none 0 0, .bool false] rfl rfl 59 #[.string ⟨#[]⟩, .int .i64 0, .int .i64 0, .int .i64 0, .int .i64 0, .bool false, .slice none 0 0, .bool false] R3.out Tryz.infosActS (Nat.le_of_ble_eq_true rfl) (by simp [Value.oneCell']) ?_; intro wf hz on; have RF : Hid (wf.heap[(w.heap.size + 1)]? = some (.cells #[.string s.name, .int .i64 s.version, .int .i64 0, .int .i64 (s.want), .int .i64 (s.cool + 1), .bool true, .slice none 0 0, .bool false] 59 (0, 0))) := hz; have BF := hbw3.trans (on.below.mono (by omega)); have p0 := blk_cell RF.out 0 rfl; have p1 := blk_cell RF.out 1 rfl; have p2 := blk_cell RF.out 2 rfl; have p3 := blk_cell RF.out 3 rfl; have p4 := blk_cell RF.out 4 rfl; have p5 := blk_cell RF.out 5 rfl; have p6 := blk_cell RF.out 6 rfl; have p7 := blk_cell RF.out 7 rfl; clear hz on))
      refine bodyPost_ret (v := .tuple #[.agg #[.string s.name, .int .i64 s.version, .int .i64 0, .int .i64 (s.want), .int .i64 (s.cool + 1), .bool true, .slice none 0 0, .bool false], .bool true]) (by simp [results, Tryz.results76, go_sem, p0, p1, p2, p3, p4, p5, p6, p7]) rfl ⟨by rw [HO.out]; exact ⟨⟨s.name, s.version, 0, s.want, s.cool + 1, true, [], false⟩, none, 0, rfl, World.ownsRow_nil _ _ _ _, fun A' h => Option.some.inj h⟩, BF⟩
    · have HE : Hid (scalerA s d = ⟨s.name, s.version, 0, s.want - 1, 0, true, [], false⟩) := by unfold Hid scalerA; rw [if_neg hwl, if_neg hwm, if_neg hdw, if_pos hdw2, if_pos (by omega)]; rfl
      have HO : Hid _ := scalerO_yes s d (s.want - 1) (0) hgo.out HP.out HD.out HE.out
      go_wp2_with (first
        | (refine wpList_load_row rfl 108 (.tmp 1) rfl w.heap.size rfl 108 #[.string s.name, .int .i64 s.version, .bool s.gone, .int .i64 s.image, .int .i64 s.want, .int .i64 s.down, .int .i64 s.over, .int .i64 s.next, .int .i64 s.per, .int .i64 s.least, .int .i64 s.most, .int .i64 s.load, .int .i64 s.cool, .int .i64 N.live, .int .i64 N.ready, .int .i64 N.old, .int .i64 N.failed, .int .i64 N.ending, .int .i64 dr, .slice al l.length cl] (0, 0) _ S2.out Tryz.underlying108 rfl Tryz.infosSight ?_))
      refine (scale_any s N dr al l.length cl (s.want - 1) (0) _).mono ?_
      rintro e w3 ⟨rfl, hb3⟩
      have hz3 := hb3.size
      have R3 : Hid _ := below_blk hb3 R2.out (by omega)
      have hbw3 := hbw2.trans (hb3.mono hbw2.size)
      clear R2 S2 V2 hb3 hbw2 v4 v9 v10 v12
      go_wp2_with (first
        | (refine wpList_store_only rfl 59 (.tmp 2) (.tmp 78) rfl (w.heap.size + 1) 0 #[.string s.name, .int .i64 s.version, .int .i64 0, .int .i64 (s.want - 1), .int .i64 (0), .bool true, .slice none 0 0, .bool false] rfl rfl 59 #[.string ⟨#[]⟩, .int .i64 0, .int .i64 0, .int .i64 0, .int .i64 0, .bool false, .slice none 0 0, .bool false] R3.out Tryz.infosActS (Nat.le_of_ble_eq_true rfl) (by simp [Value.oneCell']) ?_; intro wf hz on; have RF : Hid (wf.heap[(w.heap.size + 1)]? = some (.cells #[.string s.name, .int .i64 s.version, .int .i64 0, .int .i64 (s.want - 1), .int .i64 (0), .bool true, .slice none 0 0, .bool false] 59 (0, 0))) := hz; have BF := hbw3.trans (on.below.mono (by omega)); have p0 := blk_cell RF.out 0 rfl; have p1 := blk_cell RF.out 1 rfl; have p2 := blk_cell RF.out 2 rfl; have p3 := blk_cell RF.out 3 rfl; have p4 := blk_cell RF.out 4 rfl; have p5 := blk_cell RF.out 5 rfl; have p6 := blk_cell RF.out 6 rfl; have p7 := blk_cell RF.out 7 rfl; clear hz on))
      refine bodyPost_ret (v := .tuple #[.agg #[.string s.name, .int .i64 s.version, .int .i64 0, .int .i64 (s.want - 1), .int .i64 (0), .bool true, .slice none 0 0, .bool false], .bool true]) (by simp [results, Tryz.results76, go_sem, p0, p1, p2, p3, p4, p5, p6, p7]) rfl ⟨by rw [HO.out]; exact ⟨⟨s.name, s.version, 0, s.want - 1, 0, true, [], false⟩, none, 0, rfl, World.ownsRow_nil _ _ _ _, fun A' h => Option.some.inj h⟩, BF⟩
  by_cases hcz : s.cool = 0
  · have HE : Hid (scalerA s d = a0 s) := by unfold Hid scalerA; rw [if_neg hwl, if_neg hwm, if_neg hdw, if_neg hdw2, if_pos hcz]
    have HO : Hid _ := scalerO_no s d hgo.out HP.out HD.out HE.out
    have hcz1 : (s.cool != 0) = false := by simp [hcz]
    clear hcz
    go_wp2_with (first
      | (refine wpList_store_only rfl 59 (.tmp 2) (.tmp 90) rfl (w.heap.size + 1) 0 #[.string ⟨#[]⟩, .int .i64 0, .int .i64 0, .int .i64 0, .int .i64 0, .bool false, .slice none 0 0, .bool false] rfl rfl 59 #[.string ⟨#[]⟩, .int .i64 0, .int .i64 0, .int .i64 0, .int .i64 0, .bool false, .slice none 0 0, .bool false] R2.out Tryz.infosActS (Nat.le_of_ble_eq_true rfl) (by simp [Value.oneCell']) ?_; intro wf hz on; have RF : Hid (wf.heap[(w.heap.size + 1)]? = some (.cells #[.string ⟨#[]⟩, .int .i64 0, .int .i64 0, .int .i64 0, .int .i64 0, .bool false, .slice none 0 0, .bool false] 59 (0, 0))) := hz; have BF := hbw2.trans (on.below.mono (by omega)); have p0 := blk_cell RF.out 0 rfl; have p1 := blk_cell RF.out 1 rfl; have p2 := blk_cell RF.out 2 rfl; have p3 := blk_cell RF.out 3 rfl; have p4 := blk_cell RF.out 4 rfl; have p5 := blk_cell RF.out 5 rfl; have p6 := blk_cell RF.out 6 rfl; have p7 := blk_cell RF.out 7 rfl; clear hz on))
    refine bodyPost_ret (v := .tuple #[.agg #[.string ⟨#[]⟩, .int .i64 0, .int .i64 0, .int .i64 0, .int .i64 0, .bool false, .slice none 0 0, .bool false], .bool false]) (by simp [results, Tryz.results76, go_sem, p0, p1, p2, p3, p4, p5, p6, p7]) rfl ⟨by rw [HO.out]; exact asked_no _ _, BF⟩
  have hcz1 : (s.cool != 0) = true := by simp [hcz]
  have HE : Hid (scalerA s d = ⟨s.name, s.version, 0, s.want, 0, true, [], false⟩) := by unfold Hid scalerA; rw [if_neg hwl, if_neg hwm, if_neg hdw, if_neg hdw2, if_neg hcz]; rfl
  have HO : Hid _ := scalerO_yes s d (s.want) (0) hgo.out HP.out HD.out HE.out
  go_wp2_with (first
    | (refine wpList_load_row rfl 108 (.tmp 1) rfl w.heap.size rfl 108 #[.string s.name, .int .i64 s.version, .bool s.gone, .int .i64 s.image, .int .i64 s.want, .int .i64 s.down, .int .i64 s.over, .int .i64 s.next, .int .i64 s.per, .int .i64 s.least, .int .i64 s.most, .int .i64 s.load, .int .i64 s.cool, .int .i64 N.live, .int .i64 N.ready, .int .i64 N.old, .int .i64 N.failed, .int .i64 N.ending, .int .i64 dr, .slice al l.length cl] (0, 0) _ S2.out Tryz.underlying108 rfl Tryz.infosSight ?_))
  refine (scale_any s N dr al l.length cl (s.want) (0) _).mono ?_
  rintro e w3 ⟨rfl, hb3⟩
  have hz3 := hb3.size
  have R3 : Hid _ := below_blk hb3 R2.out (by omega)
  have hbw3 := hbw2.trans (hb3.mono hbw2.size)
  clear R2 S2 V2 hb3 hbw2 v4 v9 v10 v12
  go_wp2_with (first
    | (refine wpList_store_only rfl 59 (.tmp 2) (.tmp 88) rfl (w.heap.size + 1) 0 #[.string s.name, .int .i64 s.version, .int .i64 0, .int .i64 (s.want), .int .i64 (0), .bool true, .slice none 0 0, .bool false] rfl rfl 59 #[.string ⟨#[]⟩, .int .i64 0, .int .i64 0, .int .i64 0, .int .i64 0, .bool false, .slice none 0 0, .bool false] R3.out Tryz.infosActS (Nat.le_of_ble_eq_true rfl) (by simp [Value.oneCell']) ?_; intro wf hz on; have RF : Hid (wf.heap[(w.heap.size + 1)]? = some (.cells #[.string s.name, .int .i64 s.version, .int .i64 0, .int .i64 (s.want), .int .i64 (0), .bool true, .slice none 0 0, .bool false] 59 (0, 0))) := hz; have BF := hbw3.trans (on.below.mono (by omega)); have p0 := blk_cell RF.out 0 rfl; have p1 := blk_cell RF.out 1 rfl; have p2 := blk_cell RF.out 2 rfl; have p3 := blk_cell RF.out 3 rfl; have p4 := blk_cell RF.out 4 rfl; have p5 := blk_cell RF.out 5 rfl; have p6 := blk_cell RF.out 6 rfl; have p7 := blk_cell RF.out 7 rfl; clear hz on))
  refine bodyPost_ret (v := .tuple #[.agg #[.string s.name, .int .i64 s.version, .int .i64 0, .int .i64 (s.want), .int .i64 (0), .bool true, .slice none 0 0, .bool false], .bool true]) (by simp [results, Tryz.results76, go_sem, p0, p1, p2, p3, p4, p5, p6, p7]) rfl ⟨by rw [HO.out]; exact ⟨⟨s.name, s.version, 0, s.want, 0, true, [], false⟩, none, 0, rfl, World.ownsRow_nil _ _ _ _, fun A' h => Option.some.inj h⟩, BF⟩

end Go.Proofs.YtnaaebffajdogabGreat
