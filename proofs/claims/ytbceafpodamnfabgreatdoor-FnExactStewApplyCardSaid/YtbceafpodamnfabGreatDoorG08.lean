/-
  My own: Zc.
-/
import Derived.Test.YtbceafpodamnfabGreatDoorG07
set_option linter.unusedVariables false
set_option linter.unusedSimpArgs false
namespace Go.Proofs.YtbceafpodamnfabGreatDoor
open Go.RowKit Go.Sort
set_option maxRecDepth 100000 in
set_option maxHeartbeats 8000000 in
theorem l3MayEnd_some (B : Bk) (sv : ByteArray) (num : Int) (c : Cp) (s : Svc) (a1 a2 a3 : Option Addr) (c1 c2 c3 : Nat) (w : World) (hS : B.small) (hB : BkAt w a1 a2 a3 B) (hf : B.cps.find? (isC sv num) = some c) (hsv : svcOf B sv = some s)
  (hw0 : 0 ≤ s.want) (hw1 : s.want ≤ 10) (hd0 : 0 ≤ s.down) (hd1 : s.down ≤ 10) :
  Calls Tryz.prog 94 #[.agg #[.int .i64 B.now, .slice a1 B.svcs.length c1, .slice a2 B.cps.length c2, .slice a3 B.bts.length c3], .string sv, .int .i64 num] w fun e w' => e = .returned (.bool (mayL B s sv c)) ∧ Below w.heap.size w w' := by
 obtain ⟨ic, hic, hidc⟩ : ∃ i : Nat, B.cps[i]? = some c ∧ idxC B.cps sv num = (i : Int) := idxOf_find hf
 have HIDC : Hid _ := hidc
 have hiclt : ic < B.cps.length := (List.getElem?_eq_some_iff.1 hic).1
 obtain ⟨ix, hix, hidx⟩ : ∃ i : Nat, B.svcs[i]? = some s ∧ idxS B.svcs sv = (i : Int) := idxOf_find hsv
 have HIDX : Hid _ := hidx
 have hixlt : ix < B.svcs.length := (List.getElem?_eq_some_iff.1 hix).1
 obtain ⟨bS, offS, eS, hbsS, hatS⟩ := hB.1 (by intro h; rw [h] at hixlt; simp at hixlt)
 obtain ⟨bC, offC, eC, hbsC, hatC⟩ := hB.2.1 (by intro h; rw [h] at hiclt; simp at hiclt)
 subst eS eC
 have hsx := hatS ix s hix
 have hcx := hatC ic c hic
 obtain ⟨N, HN⟩ : ∃ N, Hid (N = cntTo s.image sv B.cps B.cps.length) := ⟨_, rfl⟩
 have HCB : Hid (N = cntB B sv) := by unfold Hid cntB; rw [hsv, HN.out]
 have hup := cntTo_upTo s.image sv B.cps B.cps.length (Nat.le_refl _)
 rw [← HN.out] at hup
 have hr0 := hup.2.2.1
 have hr1 := hup.2.2.2.1
 have HM : Hid (mayL B s sv c = (!c.ending && (c.state != 3 || (s.gone || decide (s.want - s.down ≤ N.ready - 1))))) := by unfold Hid mayL; rw [HN.out]
 clear hf hsv hidc hidx hix hic hatS hatC hup
 have hl := hS
 obtain ⟨hl1, hl2, hl3⟩ := hl
 have hb0 := below_box w (.cells #[.int .i64 B.now, .slice (some ⟨bS, offS, none⟩) B.svcs.length c1, .slice (some ⟨bC, offC, none⟩) B.cps.length c2, .slice a3 B.bts.length c3] 36)
 have T0 : Hid _ := heap_alloc_new w (.cells #[.int .i64 B.now, .slice (some ⟨bS, offS, none⟩) B.svcs.length c1, .slice (some ⟨bC, offC, none⟩) B.cps.length c2, .slice a3 B.bts.length c3] 36)
 have HS0 : Hid _ := size_alloc' w (.cells #[.int .i64 B.now, .slice (some ⟨bS, offS, none⟩) B.svcs.length c1, .slice (some ⟨bC, offC, none⟩) B.cps.length c2, .slice a3 B.bts.length c3] 36)
 go_enter Tryz.func94, Tryz.ntmps94
 go_wp2_with fail
 refine (l1Copy_any B sv num _ _ a3 c1 c2 c3 _ hS (hB.2.1.below hb0)).mono ?_
 rintro e w1 ⟨rfl, hb1⟩
 rw [HIDC.out]
 have hbb1 := hb0.trans (hb1.mono hb0.size)
 rw [HS0.out] at hb1
 have T1 : Hid _ := below_blk hb1 T0.out (by omega)
 have hz1 : w.heap.size < w1.heap.size := by have := hb1.size; rw [HS0.out] at this; omega
 have hB1 := hB.below hbb1
 have hcx1 := hcx.below hbb1 hbsC
 have hsx1 := hsx.below hbb1 hbsS
 unfold CpAt at hcx1
 unfold SvcAt at hsx1
 obtain ⟨y0, y1, y2, y3, y4, y5, y6⟩ := hcx1
 obtain ⟨x0, x1, x2, x3, x4, x5, x6, x7, x8, x9, x10, x11, x12⟩ := hsx1
 have e0 := blk_cell T1.out 0 rfl
 have e1 := blk_cell T1.out 1 rfl
 have e2 := blk_cell T1.out 2 rfl
 have e3 := blk_cell T1.out 3 rfl
 clear T0 HS0 HIDC hb0 hb1
 cases hend : c.ending
 ·have T1' : Hid (∀ W, Below w1.heap.size w1 W → W.heap[w.heap.size]? = some (.cells #[.int .i64 B.now, .slice (some ⟨bS, offS, none⟩) B.svcs.length c1, .slice (some ⟨bC, offC, none⟩) B.cps.length c2, .slice a3 B.bts.length c3] 36 (0, 0))) := fun W hW => below_blk hW T1.out hz1
  have hsz : ∀ W, Below w1.heap.size w1 W → w.heap.size < W.heap.size := fun W hW => Nat.lt_of_lt_of_le hz1 hW.size
  have hgo : ∀ W, Below w1.heap.size w1 W → Below w.heap.size w W := fun W hW => hbb1.trans (hW.mono hbb1.size)
  have HG1 : Hid _ := T1'
  have HG2 : Hid _ := hsz
  have HG3 : Hid _ := hgo
  clear T1' hsz hgo
  go_wp2
  refine wp_region_grows 8 (by kernel_rfl) (by kernel_rfl) ?_
  apply grow_eq
  ·intro V W K A hW hd hA hK
   simp only [putAll, pz1, pz2, pz3, pz4, Act.put, pz5, pz6, pz7] at hA
   clear hd
   obtain rfl := hA
   go_wp2
   exact hK.out _ brf
  apply grow_eq
  ·intro V W K A hW hd hA hK
   have d0 : V 0 = _ := hd 0 (by kernel_rfl)
   simp only [putAll, pz1, pz2, pz3, pz4, Act.put, pz5, pz6, pz7, d0] at hA
   clear hd d0
   obtain rfl := hA
   have e0 := blk_cell (HG1.out W hW) 0 rfl
   have e1 := blk_cell (HG1.out W hW) 1 rfl
   have e2 := blk_cell (HG1.out W hW) 2 rfl
   have e3 := blk_cell (HG1.out W hW) 3 rfl
   go_wp2
   exact hK.out _ brf
  apply grow_eq
  ·intro V W K A hW hd hA hK
   simp only [putAll, pz1, pz2, pz3, pz4, Act.put, pz5, pz6, pz7] at hA
   clear hd
   obtain rfl := hA
   have e0 := blk_cell (HG1.out W hW) 0 rfl
   have e1 := blk_cell (HG1.out W hW) 1 rfl
   have e2 := blk_cell (HG1.out W hW) 2 rfl
   have e3 := blk_cell (HG1.out W hW) 3 rfl
   go_wp2
   exact hK.out _ brf
  apply grow_eq
  ·intro V W K A hW hd hA hK
   simp only [putAll, pz1, pz2, pz3, pz4, Act.put, pz5, pz6, pz7] at hA
   clear hd
   obtain rfl := hA
   go_wp2
   exact hK.out _ brf
  apply grow_eq
  ·intro V W K A hW hd hA hK
   have d2 : V 2 = _ := hd 2 (by kernel_rfl)
   have d3 : V 3 = _ := hd 3 (by kernel_rfl)
   simp only [putAll, pz1, pz2, pz3, pz4, Act.put, pz5, pz6, pz7, d2, d3] at hA
   clear hd d2 d3
   obtain rfl := hA
   go_wp2_with fail
   refine (l1Service_any B sv _ _ a3 c1 c2 c3 _ hS (hB.below (HG3.out W hW)).1).mono ?_
   rintro e w2 ⟨rfl, hb2⟩
   rw [HIDX.out]
   go_wp2
   exact hK.out _ hb2
  apply grow_eq
  ·intro V W K A hW hd hA hK
   have d1 : V 1 = _ := hd 1 (by kernel_rfl)
   have d4 : V 4 = _ := hd 4 (by kernel_rfl)
   simp only [putAll, pz1, pz2, pz3, pz4, Act.put, pz5, pz6, pz7, d1, d4] at hA
   clear hd d1 d4
   obtain rfl := hA
   go_wp2
   exact hK.out _ brf
  apply grow_eq
  ·intro V W K A hW hd hA hK
   have d5 : V 5 = _ := hd 5 (by kernel_rfl)
   simp only [putAll, pz1, pz2, pz3, pz4, Act.put, pz5, pz6, pz7, d5] at hA
   clear hd d5
   obtain rfl := hA
   have hq := hsx.below (HG3.out W hW) hbsS
   unfold SvcAt at hq
   obtain ⟨q0, q1, q2, q3, q4, q5, q6, q7, q8, q9, q10, q11, q12⟩ := hq
   go_wp2
   exact hK.out _ brf
  refine grow_op (fun v W => ∃ p, v = .pointer (some ⟨p, 0, none⟩) ∧ w.heap.size < p ∧ W.heap[p]? = some (.cells #[.string ⟨#[]⟩, .int .i64 0, .bool false, .int .i64 0, .int .i64 0, .int .i64 0, .int .i64 0, .int .i64 0, .int .i64 0, .int .i64 0, .int .i64 0, .int .i64 0, .int .i64 0] 67 (0, 0))) (fun v W W2 ⟨p, h1, h2, h3⟩ hb => ⟨p, h1, h2, below_blk hb h3 (Array.getElem?_eq_some_iff.1 h3).1⟩) ?_ ?_
  ·intro V W K A hW hd hA hK
   simp only [putAll, pz1, pz2, pz3, pz4, Act.put, pz5, pz6, pz7] at hA
   clear hd
   obtain rfl := hA
   go_wp2
   exact hK.out _ _ (below_box W _) ⟨_, rfl, HG2.out W hW, heap_alloc_new W _⟩
  intro V W A hW hS hA
  have d0 : V 0 = _ := hS 0 (by omega)
  have d1 : V 1 = _ := hS 1 (by omega)
  have d2 : V 2 = _ := hS 2 (by omega)
  have d3 : V 3 = _ := hS 3 (by omega)
  have d4 : V 4 = _ := hS 4 (by omega)
  have d5 : V 5 = _ := hS 5 (by omega)
  have d6 : V 6 = _ := hS 6 (by omega)
  have d7 : (fun v W => ∃ p, v = .pointer (some ⟨p, 0, none⟩) ∧ w.heap.size < p ∧ W.heap[p]? = some (.cells #[.string ⟨#[]⟩, .int .i64 0, .bool false, .int .i64 0, .int .i64 0, .int .i64 0, .int .i64 0, .int .i64 0, .int .i64 0, .int .i64 0, .int .i64 0, .int .i64 0, .int .i64 0] 67 (0, 0))) (V 7) W := hS 7 (by omega)
  simp only [putAll, pz1, pz2, pz3, pz4, Act.put, pz5, pz6, pz7, d0, d1, d2, d3, d4, d5, d6] at hA
  clear hS d0 d1 d2 d3 d4 d5 d6
  generalize V 7 = x7 at d7 hA
  obtain rfl := hA
  simp only [List.drop_succ_cons, List.drop_zero]
  obtain ⟨p, rfl, hp, hz⟩ := d7
  have hle : w.heap.size ≤ p := by omega
  refine wpList_store_at rfl 67 (.tmp 8) (.tmp 29) rfl p 0 #[.string s.name, .int .i64 s.version, .bool s.gone, .int .i64 s.image, .int .i64 s.want, .int .i64 s.down, .int .i64 s.over, .int .i64 s.next, .int .i64 s.per, .int .i64 s.least, .int .i64 s.most, .int .i64 s.load, .int .i64 s.cool] rfl rfl 67 #[.string ⟨#[]⟩, .int .i64 0, .bool false, .int .i64 0, .int .i64 0, .int .i64 0, .int .i64 0, .int .i64 0, .int .i64 0, .int .i64 0, .int .i64 0, .int .i64 0, .int .i64 0] hz Tryz.infosService (Nat.le_refl 13) (one_Svc s) ?_
  intro w2 hrow2 hsz2 hb2
  have hxs : Hid (w2.heap[p]? = some (.cells #[.string s.name, .int .i64 s.version, .bool s.gone, .int .i64 s.image, .int .i64 s.want, .int .i64 s.down, .int .i64 s.over, .int .i64 s.next, .int .i64 s.per, .int .i64 s.least, .int .i64 s.most, .int .i64 s.load, .int .i64 s.cool] 67 (0, 0))) := hrow2
  have hbox : Hid _ := (hb2.block _ hp).trans (HG1.out W hW)
  have hbc := (HG3.out W hW).trans (hb2.mono hle)
  clear hrow2 hsz2 hb2 hz hW HG1 HG2 HG3
  clear e0 e1 e2 e3 x0 x1 x2 x3 x4 x5 x6 x7 x8 x9 x10 x11 x12 y0 y1 y2 y3 y4 y5 y6 T1 hz1 hB1 HIDX hbb1
  have hcx1 := hcx.below hbc hbsC
  unfold CpAt at hcx1
  have y4 := hcx1.2.2.2.2.1
  clear hcx1
  have e0 := blk_cell hbox.out 0 rfl
  have e1 := blk_cell hbox.out 1 rfl
  have e2 := blk_cell hbox.out 2 rfl
  have e3 := blk_cell hbox.out 3 rfl
  have x2 := blk_cell hxs.out 2 rfl
  cases hst : (c.state != 3)
  ·cases hgo : s.gone
   ·have HF : Hid (mayL B s sv c = decide (s.want - s.down ≤ N.ready - 1)) := by unfold Hid; rw [HM.out, hend, hst, hgo]; simp
    have g0 := gcell hbox.out 0 rfl
    have g1 := gcell hbox.out 1 rfl
    have g2 := gcell hbox.out 2 rfl
    have g3 := gcell hbox.out 3 rfl
    have k4 := gcell hxs.out 4 rfl
    have k5 := gcell hxs.out 5 rfl
    go_wp2
    have hbl : w.heap.size < w2.heap.size := (Array.getElem?_eq_some_iff.1 hbox.out).1
    have hxl : p < w2.heap.size := (Array.getElem?_eq_some_iff.1 hxs.out).1
    refine wp_region_grows 11 (by kernel_rfl) (by kernel_rfl) ?_
    apply grow_eq
    ·intro V W K A hW hd hA hK
     simp only [putAll, pz1, pz2, pz3, pz4, Act.put, pz5, pz6, pz7] at hA
     clear hd
     obtain rfl := hA
     have e0 := blk_cell (below_blk hW hbox.out hbl) 0 rfl
     have e1 := blk_cell (below_blk hW hbox.out hbl) 1 rfl
     have e2 := blk_cell (below_blk hW hbox.out hbl) 2 rfl
     have e3 := blk_cell (below_blk hW hbox.out hbl) 3 rfl
     go_wp2
     exact hK.out _ brf
    apply grow_eq
    ·intro V W K A hW hd hA hK
     simp only [putAll, pz1, pz2, pz3, pz4, Act.put, pz5, pz6, pz7] at hA
     clear hd
     obtain rfl := hA
     go_wp2
     exact hK.out _ brf
    apply grow_eq
    ·intro V W K A hW hd hA hK
     have d0 : V 0 = _ := hd 0 (by kernel_rfl)
     have d1 : V 1 = _ := hd 1 (by kernel_rfl)
     simp only [putAll, pz1, pz2, pz3, pz4, Act.put, pz5, pz6, pz7, d0, d1] at hA
     clear hd d0 d1
     obtain rfl := hA
     go_wp2_with fail
     refine (l2Count_any B sv _ _ a3 c1 c2 c3 _ hS (hB.below (hbc.trans (hW.mono hbc.size))) N HCB).mono ?_
     rintro e w3 ⟨rfl, hb3⟩
     go_wp2
     exact hK.out _ hb3
    apply grow_eq
    ·intro V W K A hW hd hA hK
     have d2 : V 2 = _ := hd 2 (by kernel_rfl)
     simp only [putAll, pz1, pz2, pz3, pz4, Act.put, pz5, pz6, pz7, d2] at hA
     clear hd d2
     obtain rfl := hA
     have hfld := run_field_count
     go_wp2
     exact hK.out _ brf
    apply grow_eq
    ·intro V W K A hW hd hA hK
     have d3 : V 3 = _ := hd 3 (by kernel_rfl)
     simp only [putAll, pz1, pz2, pz3, pz4, Act.put, pz5, pz6, pz7, d3] at hA
     clear hd d3
     obtain rfl := hA
     go_wp2
     exact hK.out _ brf
    apply grow_eq
    ·intro V W K A hW hd hA hK
     simp only [putAll, pz1, pz2, pz3, pz4, Act.put, pz5, pz6, pz7] at hA
     clear hd
     obtain rfl := hA
     go_wp2
     exact hK.out _ brf
    apply grow_eq
    ·intro V W K A hW hd hA hK
     have d5 : V 5 = _ := hd 5 (by kernel_rfl)
     simp only [putAll, pz1, pz2, pz3, pz4, Act.put, pz5, pz6, pz7, d5] at hA
     clear hd d5
     obtain rfl := hA
     have x4 := blk_cell (below_blk hW hxs.out hxl) 4 rfl
     have x5 := blk_cell (below_blk hW hxs.out hxl) 5 rfl
     go_wp2
     exact hK.out _ brf
    apply grow_eq
    ·intro V W K A hW hd hA hK
     simp only [putAll, pz1, pz2, pz3, pz4, Act.put, pz5, pz6, pz7] at hA
     clear hd
     obtain rfl := hA
     go_wp2
     exact hK.out _ brf
    apply grow_eq
    ·intro V W K A hW hd hA hK
     have d7 : V 7 = _ := hd 7 (by kernel_rfl)
     simp only [putAll, pz1, pz2, pz3, pz4, Act.put, pz5, pz6, pz7, d7] at hA
     clear hd d7
     obtain rfl := hA
     have x4 := blk_cell (below_blk hW hxs.out hxl) 4 rfl
     have x5 := blk_cell (below_blk hW hxs.out hxl) 5 rfl
     go_wp2
     exact hK.out _ brf
    apply grow_eq
    ·intro V W K A hW hd hA hK
     have d6 : V 6 = _ := hd 6 (by kernel_rfl)
     have d8 : V 8 = _ := hd 8 (by kernel_rfl)
     simp only [putAll, pz1, pz2, pz3, pz4, Act.put, pz5, pz6, pz7, d6, d8] at hA
     clear hd d6 d8
     obtain rfl := hA
     go_wp2
     exact hK.out _ brf
    apply grow_eq
    ·intro V W K A hW hd hA hK
     have d4 : V 4 = _ := hd 4 (by kernel_rfl)
     have d9 : V 9 = _ := hd 9 (by kernel_rfl)
     simp only [putAll, pz1, pz2, pz3, pz4, Act.put, pz5, pz6, pz7, d4, d9] at hA
     clear hd d4 d9
     obtain rfl := hA
     go_wp2
     exact hK.out _ brf
    intro V W A hW hS hA
    have d0 : V 0 = _ := hS 0 (by omega)
    have d1 : V 1 = _ := hS 1 (by omega)
    have d2 : V 2 = _ := hS 2 (by omega)
    have d3 : V 3 = _ := hS 3 (by omega)
    have d4 : V 4 = _ := hS 4 (by omega)
    have d5 : V 5 = _ := hS 5 (by omega)
    have d6 : V 6 = _ := hS 6 (by omega)
    have d7 : V 7 = _ := hS 7 (by omega)
    have d8 : V 8 = _ := hS 8 (by omega)
    have d9 : V 9 = _ := hS 9 (by omega)
    have d10 : V 10 = _ := hS 10 (by omega)
    simp only [putAll, pz1, pz2, pz3, pz4, Act.put, pz5, pz6, pz7, d0, d1, d2, d3, d4, d5, d6, d7, d8, d9, d10] at hA
    clear hS d0 d1 d2 d3 d4 d5 d6 d7 d8 d9 d10
    obtain rfl := hA
    simp only [List.drop_succ_cons, List.drop_zero]
    go_wp2
    go_ret
    exact ⟨ret_bool (by rw [HF.out]), hbc.trans (hW.mono hbc.size)⟩
   ·have HF : Hid (mayL B s sv c = true) := by unfold Hid; rw [HM.out, hend, hst, hgo]; rfl
    go_wp2
    go_ret
    exact ⟨ret_bool HF.out.symm, hbc⟩
  ·have HF : Hid (mayL B s sv c = true) := by unfold Hid; rw [HM.out, hend, hst]; rfl
   go_wp2
   go_ret
   exact ⟨ret_bool HF.out.symm, hbc⟩
 ·go_wp2
  go_ret
  exact ⟨ret_bool (by rw [HM.out, hend]; rfl), hbb1⟩
end Go.Proofs.YtbceafpodamnfabGreatDoor
