/-
  My own: Si.
-/
import Derived.Test.YtbceafpodamnfabGreatA26
set_option linter.unusedVariables false
set_option linter.unusedSimpArgs false
/-
  My own. The program's stewards: sweeper, scaler.
-/
namespace Go.Proofs.YtbceafpodamnfabGreat
open Go.RowKit Go.Sort

def noneC (N : Cnt) : Bool := N.live == 0 && (N.ready == 0 && (N.old == 0 && (N.failed == 0 && N.ending == 0)))
def sweeperO (s : Svc) (N : Cnt) (l : List Sn) : Option Ac :=
  if s.gone = true then (if noneC N = true then some { a0 s with drop := true } else endO s l) else none

set_option maxRecDepth 100000 in
set_option maxHeartbeats 16000000 in
theorem sweeper_any (s : Svc) (N : Cnt) (dr : Int) (l : List Sn) (lo : Nat) (al : Option Addr) (cl : Nat) (w : World) (hl : l.length ≤ 1048576) (hsi : SvcIn s) (_hN0 : 0 ≤ N.live) (_hN1 : N.live ≤ 1048576) (_hr0 : 0 ≤ N.ready) (_hr1 : N.ready ≤ 1048576) (hL : OwnSn lo w al cl l) :
    Calls Tryz.prog 77 #[.agg #[.string s.name, .int .i64 s.version, .bool s.gone, .int .i64 s.image, .int .i64 s.want, .int .i64 s.down, .int .i64 s.over, .int .i64 s.next, .int .i64 s.per, .int .i64 s.least, .int .i64 s.most, .int .i64 s.load, .int .i64 s.cool, .int .i64 N.live, .int .i64 N.ready, .int .i64 N.old, .int .i64 N.failed, .int .i64 N.ending, .int .i64 dr, .slice al l.length cl]] w fun e w' => Asked w.heap.size w' e (sweeperO s N l) ∧ Below w.heap.size w w' := by
  have HL : Hid (OwnSn lo w al cl l) := hL
  have hw0 := hsi.want0
  have hw1 := hsi.want1
  have ho0 := hsi.over0
  have ho1 := hsi.over1
  have HSI : Hid (SvcIn s) := hsi
  clear hL hsi
  obtain ⟨W0, hW0, t0, t1, hz0, hz0', hb0⟩ := two_newW w (.cells #[.string s.name, .int .i64 s.version, .bool s.gone, .int .i64 s.image, .int .i64 s.want, .int .i64 s.down, .int .i64 s.over, .int .i64 s.next, .int .i64 s.per, .int .i64 s.least, .int .i64 s.most, .int .i64 s.load, .int .i64 s.cool, .int .i64 N.live, .int .i64 N.ready, .int .i64 N.old, .int .i64 N.failed, .int .i64 N.ending, .int .i64 dr, .slice al l.length cl] 108) (.cells #[.string ⟨#[]⟩, .int .i64 0, .int .i64 0, .int .i64 0, .int .i64 0, .bool false, .slice none 0 0, .bool false] 59)
  have T0 : Hid _ := t0
  have T1 : Hid _ := t1
  clear t0 t1
  go_enter Tryz.func77, Tryz.ntmps77
  go_upto_region 1 with fail
  clear hW0
  have z2a := blk_cell T0.out 2 rfl
  rcases Bool.eq_false_or_eq_true s.gone with hgo0 | hgo0
  · have hgo : Hid (s.gone = true) := hgo0
    have z2 : W0.cell? ⟨w.heap.size, 2, none⟩ = some (.bool true) := by rw [hgo0] at z2a; exact z2a
    clear hgo0 z2a
    have z13 := blk_cell T0.out 13 rfl
    have z14 := blk_cell T0.out 14 rfl
    have z15 := blk_cell T0.out 15 rfl
    have z16 := blk_cell T0.out 16 rfl
    have z17 := blk_cell T0.out 17 rfl
    go_upto_region 3 with fail
    generalize (Value.agg #[.string s.name, .int .i64 s.version, .bool s.gone, .int .i64 s.image, .int .i64 s.want, .int .i64 s.down, .int .i64 s.over, .int .i64 s.next, .int .i64 s.per, .int .i64 s.least, .int .i64 s.most, .int .i64 s.load, .int .i64 s.cool, .int .i64 N.live, .int .i64 N.ready, .int .i64 N.old, .int .i64 N.failed, .int .i64 N.ending, .int .i64 dr, .slice al l.length cl]) = vs
    go_cut [13] (fun v wx => v = .bool (noneC N) ∧ W0 = wx)
    case first =>
      go_wp2_with fail
      all_goals
        go_meet
        exact ⟨congrArg Value.bool (by simp [noneC, *]), rfl⟩
    obtain ⟨rfl, rfl⟩ := hcut
    clear z13 z14 z15 z16 z17
    obtain ⟨n, HN⟩ : ∃ n, Hid (noneC N = n) := ⟨_, rfl⟩
    rw [HN.out]
    cases n
    · have y19 := blk_cell T0.out 19 rfl
      obtain ⟨o, HO⟩ : ∃ o, Hid (endO s l = o) := ⟨_, rfl⟩
      have HX : Hid (∀ W : World, OwnSn lo W al cl l → Calls Tryz.prog 115 #[.agg #[.string s.name, .int .i64 s.version, .bool s.gone, .int .i64 s.image, .int .i64 s.want, .int .i64 s.down, .int .i64 s.over, .int .i64 s.next, .int .i64 s.per, .int .i64 s.least, .int .i64 s.most, .int .i64 s.load, .int .i64 s.cool, .int .i64 N.live, .int .i64 N.ready, .int .i64 N.old, .int .i64 N.failed, .int .i64 N.ending, .int .i64 dr, .slice al l.length cl], .slice al l.length cl] W fun e w' => Asked W.heap.size w' e o ∧ Below W.heap.size W w') := fun W h => by have := end_asked s N dr al l.length cl l lo al cl W hl h; rw [HO.out] at this; exact this
      go_wp2_with (first
        | (refine wpList_load_row rfl 108 (.tmp 1) rfl w.heap.size rfl 108 #[.string s.name, .int .i64 s.version, .bool s.gone, .int .i64 s.image, .int .i64 s.want, .int .i64 s.down, .int .i64 s.over, .int .i64 s.next, .int .i64 s.per, .int .i64 s.least, .int .i64 s.most, .int .i64 s.load, .int .i64 s.cool, .int .i64 N.live, .int .i64 N.ready, .int .i64 N.old, .int .i64 N.failed, .int .i64 N.ending, .int .i64 dr, .slice al l.length cl] (0, 0) _ T0.out Tryz.underlying108 rfl Tryz.infosSight ?_))
      refine (HX.out _ (own_below HL.out hb0 (Nat.le_refl _))).mono ?_
      rintro e w3 ⟨⟨A, ae, ce, rfl, hown, HA⟩, hb3⟩
      have hz3 := hb3.size
      have R3 : Hid _ := below_blk hb3 T1.out (by omega)
      have hbw3 := hb0.trans (hb3.mono hb0.size)
      have O3 : Hid _ := own_mono hown.out hz0
      clear T0 T1 hb0 hb3 hown y19 HX
      go_wp2_with (first
        | (refine wpList_store_only rfl 59 (.tmp 2) (.tmp 22) rfl (w.heap.size + 1) 0 #[.string A.service, .int .i64 A.seen, .int .i64 A.create, .int .i64 A.want, .int .i64 A.cool, .bool A.scale, .slice ae A.ends.length ce, .bool A.drop] rfl rfl 59 #[.string ⟨#[]⟩, .int .i64 0, .int .i64 0, .int .i64 0, .int .i64 0, .bool false, .slice none 0 0, .bool false] R3.out Tryz.infosActS (Nat.le_of_ble_eq_true rfl) (by simp [Value.oneCell']) ?_; intro wf hz on; have RF : Hid (wf.heap[(w.heap.size + 1)]? = some (.cells #[.string A.service, .int .i64 A.seen, .int .i64 A.create, .int .i64 A.want, .int .i64 A.cool, .bool A.scale, .slice ae A.ends.length ce, .bool A.drop] 59 (0, 0))) := hz; have BF := hbw3.trans (on.below.mono (by omega)); have OF : Hid _ := own_mono (own_blk O3.out (fun q hq _ => on.other q (by omega))) (show w.heap.size ≤ w.heap.size + 1 + 1 by omega); have p0 := blk_cell RF.out 0 rfl; have p1 := blk_cell RF.out 1 rfl; have p2 := blk_cell RF.out 2 rfl; have p3 := blk_cell RF.out 3 rfl; have p4 := blk_cell RF.out 4 rfl; have p5 := blk_cell RF.out 5 rfl; have p6 := blk_cell RF.out 6 rfl; have p7 := blk_cell RF.out 7 rfl; clear hz on))
      refine bodyPost_ret (v := .tuple #[.agg #[.string A.service, .int .i64 A.seen, .int .i64 A.create, .int .i64 A.want, .int .i64 A.cool, .bool A.scale, .slice ae A.ends.length ce, .bool A.drop], .bool o.isSome]) (by simp [results, Tryz.results77, go_sem, p0, p1, p2, p3, p4, p5, p6, p7]) rfl ⟨by rw [show sweeperO s N l = o from (by unfold sweeperO; rw [if_pos hgo.out, if_neg (by rw [HN.out]; simp), HO.out])]; exact ⟨A, ae, ce, rfl, OF, HA.out⟩, BF⟩
    · go_wp2_with (first
        | (refine wpList_load_row rfl 108 (.tmp 1) rfl w.heap.size rfl 108 #[.string s.name, .int .i64 s.version, .bool s.gone, .int .i64 s.image, .int .i64 s.want, .int .i64 s.down, .int .i64 s.over, .int .i64 s.next, .int .i64 s.per, .int .i64 s.least, .int .i64 s.most, .int .i64 s.load, .int .i64 s.cool, .int .i64 N.live, .int .i64 N.ready, .int .i64 N.old, .int .i64 N.failed, .int .i64 N.ending, .int .i64 dr, .slice al l.length cl] (0, 0) _ T0.out Tryz.underlying108 rfl Tryz.infosSight ?_))
      refine (act_any s N dr al l.length cl _).mono ?_
      rintro e w1 ⟨rfl, hb1⟩
      have Bi := hb0.trans (hb1.mono hb0.size)
      have hz1 := hb1.size
      have U1 : Hid (w1.heap[w.heap.size + 1]? = some (.cells #[.string ⟨#[]⟩, .int .i64 0, .int .i64 0, .int .i64 0, .int .i64 0, .bool false, .slice none 0 0, .bool false] 59 (0, 0))) := below_blk hb1 T1.out (by omega)
      clear hb1 hb0 T0 T1
      go_wp2_with (first
        | (refine wpList_store_only rfl 59 (.tmp 4) (.tmp 15) rfl w1.heap.size 0 #[.string s.name, .int .i64 s.version, .int .i64 0, .int .i64 0, .int .i64 0, .bool false, .slice none 0 0, .bool false] rfl rfl 59 #[.string ⟨#[]⟩, .int .i64 0, .int .i64 0, .int .i64 0, .int .i64 0, .bool false, .slice none 0 0, .bool false] (heap_alloc_new w1 _) Tryz.infosActS (Nat.le_of_ble_eq_true rfl) (by simp [Value.oneCell']) ?_; intro wa hz on; have Y0 : Hid (wa.heap[w1.heap.size]? = some (.cells #[.string s.name, .int .i64 s.version, .int .i64 0, .int .i64 0, .int .i64 0, .bool false, .slice none 0 0, .bool false] 59 (0, 0))) := hz; have R0 : Hid _ := (on.other (w.heap.size + 1) (by omega)).trans (below_blk (below_box w1 _) U1.out (by omega)); have B0 := (Bi.alloc (by omega) _).trans (on.below.mono (by omega)); have q0 := blk_cell Y0.out 0 rfl; clear hz on)
        | (refine wpList_store_one rfl 4 (.tmp 16) (.const (.bool true)) rfl w1.heap.size 7 (.bool true) rfl rfl Tryz.infosBoolS rfl rfl 59 #[.string s.name, .int .i64 s.version, .int .i64 0, .int .i64 0, .int .i64 0, .bool false, .slice none 0 0, .bool false] Y0.out (Nat.le_of_ble_eq_true rfl) ?_; intro wb hz on; have Y1 : Hid (wb.heap[w1.heap.size]? = some (.cells #[.string s.name, .int .i64 s.version, .int .i64 0, .int .i64 0, .int .i64 0, .bool false, .slice none 0 0, .bool true] 59 (0, 0))) := hz; have R1 : Hid _ := (on.other (w.heap.size + 1) (by omega)).trans R0.out; have B1 := B0.trans (on.below.mono (by omega)); have q0 := blk_cell Y1.out 0 rfl; have q1 := blk_cell Y1.out 1 rfl; have q2 := blk_cell Y1.out 2 rfl; have q3 := blk_cell Y1.out 3 rfl; have q4 := blk_cell Y1.out 4 rfl; have q5 := blk_cell Y1.out 5 rfl; have q6 := blk_cell Y1.out 6 rfl; have q7 := blk_cell Y1.out 7 rfl; clear hz on)
        | (refine wpList_store_only rfl 59 (.tmp 2) (.tmp 17) rfl (w.heap.size + 1) 0 #[.string s.name, .int .i64 s.version, .int .i64 0, .int .i64 0, .int .i64 0, .bool false, .slice none 0 0, .bool true] rfl rfl 59 #[.string ⟨#[]⟩, .int .i64 0, .int .i64 0, .int .i64 0, .int .i64 0, .bool false, .slice none 0 0, .bool false] R1.out Tryz.infosActS (Nat.le_of_ble_eq_true rfl) (by simp [Value.oneCell']) ?_; intro wf hz on; have RF : Hid (wf.heap[(w.heap.size + 1)]? = some (.cells #[.string s.name, .int .i64 s.version, .int .i64 0, .int .i64 0, .int .i64 0, .bool false, .slice none 0 0, .bool true] 59 (0, 0))) := hz; have BF := B1.trans (on.below.mono (by omega)); have p0 := blk_cell RF.out 0 rfl; have p1 := blk_cell RF.out 1 rfl; have p2 := blk_cell RF.out 2 rfl; have p3 := blk_cell RF.out 3 rfl; have p4 := blk_cell RF.out 4 rfl; have p5 := blk_cell RF.out 5 rfl; have p6 := blk_cell RF.out 6 rfl; have p7 := blk_cell RF.out 7 rfl; clear hz on))
      refine bodyPost_ret (v := .tuple #[.agg #[.string s.name, .int .i64 s.version, .int .i64 0, .int .i64 0, .int .i64 0, .bool false, .slice none 0 0, .bool true], .bool true]) (by simp [results, Tryz.results77, go_sem, p0, p1, p2, p3, p4, p5, p6, p7]) rfl ⟨by rw [show sweeperO s N l = some { a0 s with drop := true } from (by unfold sweeperO; rw [if_pos hgo.out, if_pos HN.out])]; exact ⟨{ a0 s with drop := true }, none, 0, rfl, World.ownsRow_nil _ _ _ _, fun A' h => Option.some.inj h⟩, BF⟩
  have hgo : Hid (s.gone = false) := hgo0
  have z2 : W0.cell? ⟨w.heap.size, 2, none⟩ = some (.bool false) := by rw [hgo0] at z2a; exact z2a
  clear hgo0 z2a
  have HN : Hid (sweeperO s N l = none) := by unfold Hid sweeperO; rw [if_neg (by simp [hgo.out])]
  go_wp2_with (first
    | (refine wpList_store_only rfl 59 (.tmp 2) (.tmp 9) rfl (w.heap.size + 1) 0 #[.string ⟨#[]⟩, .int .i64 0, .int .i64 0, .int .i64 0, .int .i64 0, .bool false, .slice none 0 0, .bool false] rfl rfl 59 #[.string ⟨#[]⟩, .int .i64 0, .int .i64 0, .int .i64 0, .int .i64 0, .bool false, .slice none 0 0, .bool false] T1.out Tryz.infosActS (Nat.le_of_ble_eq_true rfl) (by simp [Value.oneCell']) ?_; intro wf hz on; have RF : Hid (wf.heap[(w.heap.size + 1)]? = some (.cells #[.string ⟨#[]⟩, .int .i64 0, .int .i64 0, .int .i64 0, .int .i64 0, .bool false, .slice none 0 0, .bool false] 59 (0, 0))) := hz; have BF := hb0.trans (on.below.mono (by omega)); have p0 := blk_cell RF.out 0 rfl; have p1 := blk_cell RF.out 1 rfl; have p2 := blk_cell RF.out 2 rfl; have p3 := blk_cell RF.out 3 rfl; have p4 := blk_cell RF.out 4 rfl; have p5 := blk_cell RF.out 5 rfl; have p6 := blk_cell RF.out 6 rfl; have p7 := blk_cell RF.out 7 rfl; clear hz on))
  refine bodyPost_ret (v := .tuple #[.agg #[.string ⟨#[]⟩, .int .i64 0, .int .i64 0, .int .i64 0, .int .i64 0, .bool false, .slice none 0 0, .bool false], .bool false]) (by simp [results, Tryz.results77, go_sem, p0, p1, p2, p3, p4, p5, p6, p7]) rfl ⟨by rw [HN.out]; exact asked_no _ _, BF⟩

end Go.Proofs.YtbceafpodamnfabGreat
