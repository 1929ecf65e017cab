/-
  My own: Wu, Wv, Wx.
-/
import Derived.Test.YtbceafpodamnfabGreatA03
import Derived.Test.YtbceafpodamnfabGreatA02
import Derived.ProofKit
import Derived.Deep.Slices
import Derived.Lib.SmallJoins
/-
  My own. The program's check of the copies.
-/
namespace Go.Proofs.YtbceafpodamnfabGreat
open Go.RowKit Go.Sort Go.Maps

set_option maxHeartbeats 16000000 in
theorem copiesHold_cons (B : Bk) (a1 a2 a3 : Option Addr) (c1 c2 c3 : Nat) (w : World) (hS : B.small) (hZ : B.sized) (hU : uniqS B) (hB : BkAt w a1 a2 a3 B) (hne0 : B.svcs ≠ []) :
    Calls Tryz.prog 70 #[.agg #[.int .i64 B.now, .slice a1 B.svcs.length c1, .slice a2 B.cps.length c2, .slice a3 B.bts.length c3]] w fun e w' => e = .returned (.bool (allTo (cpAtB B) B.cps.length)) ∧ Below w.heap.size w w' := by
  obtain ⟨bS, offS, eS, hbsS, hatS⟩ := hB.1 hne0
  subst eS
  have hS' := hS
  obtain ⟨hl1, hl2, hl3⟩ := hS'
  have T0 : Hid _ := heap_alloc_new w (.cells #[.int .i64 B.now, .slice (some ⟨bS, offS, none⟩) B.svcs.length c1, .slice a2 B.cps.length c2, .slice a3 B.bts.length c3] 34)
  have hb0 := below_box w (.cells #[.int .i64 B.now, .slice (some ⟨bS, offS, none⟩) B.svcs.length c1, .slice a2 B.cps.length c2, .slice a3 B.bts.length c3] 34)
  have hs0 : (w.alloc (.cells #[.int .i64 B.now, .slice (some ⟨bS, offS, none⟩) B.svcs.length c1, .slice a2 B.cps.length c2, .slice a3 B.bts.length c3] 34)).heap.size = w.heap.size + 1 := by show (w.heap.push _).size = _; simp
  have HS0 : Hid _ := hs0
  clear hs0
  go_enter Tryz.func70, Tryz.ntmps70
  go_wp2_with fail
  refine (placesIn_any B _ a2 a3 c1 c2 c3 _ hS hZ hU (hB.below hb0)).mono ?_
  rintro e w0 ⟨rfl, hpl0, hb1⟩
  rw [HS0.out] at hpl0 hb1
  rw [HS0.out]
  have hbb0 := hb0.trans (hb1.mono (by omega))
  have T0' : Hid _ := below_blk hb1 T0.out (by omega)
  have HP0 : Hid _ := hpl0
  have e2 := blk_cell T0'.out 2 rfl
  clear hpl0 hb1
  go_wp2
  clear e2
  go_loopw [13] (fun iv wr => ∃ k : Nat, k ≤ B.cps.length ∧ iv = .int .i64 k ∧ Below w.heap.size w wr ∧ Hid (wr.heap[w.heap.size]? = some (.cells #[.int .i64 B.now, .slice (some ⟨bS, offS, none⟩) B.svcs.length c1, .slice a2 B.cps.length c2, .slice a3 B.bts.length c3] 34 (0, 0))) ∧ Hid (PlacesAt wr (w.heap.size + 1 + 1) B B.svcs.length B.bts.length) ∧ Hid (∀ i, i < k → cpAtB B i = true)) (fun i _ => B.cps.length - (intOf i).toNat)
  case atStart => exact ⟨0, by omega, rfl, hbb0, T0', HP0, fun i hi => absurd hi (by omega)⟩
  case round =>
    clear hbb0 T0' HP0
    obtain ⟨k, hk, rfl, hb, hbox, hpl, hall⟩ := hrel
    have hNlt : w.heap.size + 1 + 1 < wr.heap.size := hpl.out.lt
    by_cases hlt : k < B.cps.length
    · have hne : B.cps ≠ [] := by intro h; rw [h] at hlt; simp at hlt
      obtain ⟨b, off, ea, hbs, hat⟩ := hB.2.1 hne
      subst ea
      obtain ⟨s, hsk⟩ : ∃ s, B.cps[k]? = some s := ⟨B.cps[k], by simp [hlt]⟩
      have hmem := hZ.2.2.2.2.1 s (List.mem_of_getElem? hsk)
      have HSK : Hid _ := hsk
      have hcs := (hat k s hsk).below hb hbs
      unfold CpAt at hcs
      obtain ⟨x0, x1, x2, x3, x4, x5, x6⟩ := hcs
      have hbr : Below w.heap.size w (wr.alloc (.cells #[.string s.service, .int .i64 s.number, .int .i64 s.version, .int .i64 s.image, .int .i64 s.state, .bool s.ending, .string s.berth] 88)) := hb.alloc hb.size _
      have HSZ : Hid ((wr.alloc (.cells #[.string s.service, .int .i64 s.number, .int .i64 s.version, .int .i64 s.image, .int .i64 s.state, .bool s.ending, .string s.berth] 88)).heap.size = wr.heap.size + 1) := by show (wr.heap.push _).size = _; simp
      have HBX : Hid _ := heap_alloc_new wr (.cells #[.string s.service, .int .i64 s.number, .int .i64 s.version, .int .i64 s.image, .int .i64 s.state, .bool s.ending, .string s.berth] 88)
      have hw1 := below_box wr (.cells #[.string s.service, .int .i64 s.number, .int .i64 s.version, .int .i64 s.image, .int .i64 s.state, .bool s.ending, .string s.berth] 88)
      have hboxr : Hid _ := below_blk hw1 hbox.out (by omega)
      have hplr : Hid (PlacesAt (wr.alloc (.cells #[.string s.service, .int .i64 s.number, .int .i64 s.version, .int .i64 s.image, .int .i64 s.state, .bool s.ending, .string s.berth] 88)) (w.heap.size + 1 + 1) B B.svcs.length B.bts.length) := hpl.out.below hw1 hNlt
      clear hsk
      by_cases hk0 : k = 0
      · have HK0 : Hid (k = 0) := hk0
        have hz : decide (0 < k) = false := by simp; omega
        clear hk0 hat hne
        go_wp2
        clear x0 x1 x2 x3 x4 x5 x6
        refine wp_region_quiet_below (by kernel_rfl) (by kernel_rfl) ?_
        repeat (first | go_big_quiet_step (fail) | quiet_step (fail))
        refine wpQuiet_nil ?_
        intro w2 hw'
        obtain ⟨⟨dq, osq⟩, hw''⟩ := hw'
        have hb2 : Below (wr.alloc (.cells #[.string s.service, .int .i64 s.number, .int .i64 s.version, .int .i64 s.image, .int .i64 s.state, .bool s.ending, .string s.berth] 88)).heap.size (wr.alloc (.cells #[.string s.service, .int .i64 s.number, .int .i64 s.version, .int .i64 s.image, .int .i64 s.state, .bool s.ending, .string s.berth] 88)) w2 := by rw [hw'']; exact below_regrown _ _ _
        clear hw''
        have hbr2 := hbr.trans (hb2.mono hbr.size)
        have bxr : Hid _ := below_blk hb2 HBX.out (by rw [HSZ.out]; omega)
        have box2 : Hid _ := below_blk hb2 hboxr.out (by rw [HSZ.out]; omega)
        have pl2 : Hid (PlacesAt w2 (w.heap.size + 1 + 1) B B.svcs.length B.bts.length) := hplr.out.below hb2 (by rw [HSZ.out]; omega)
        have hz2 : wr.heap.size < w2.heap.size := by have := hb2.size; rw [HSZ.out] at this; omega
        have r0 := blk_cell bxr.out 0 rfl
        obtain ⟨n, D, hn, hown2, h1, h2, h3, h4⟩ := pl2.out
        have H1 : Hid _ := h1
        have H2 : Hid _ := h2
        clear h1 h2 h3 h4
        cases hf : svcOf B s.service with
        | none =>
          have HNO : Hid (cpAtB B k = false) := by unfold Hid cpAtB; rw [HSK.out]; simp [cpB, hf]
          have HH : Hid (Maps.has D (key 1 s.service) = false) := H1.out s.service hmem.1 (svcOf_none hf)
          have HA : Hid (D.atKey (key 1 s.service) (.lit (.int .i64 0)) = .lit (.int .i64 0)) := atKey_of_not_has HH.out _
          go_wp2_with (at_lookup; refine wpList_lookup_is _ rfl (.tmp 32) (.tmp 35) 104 rfl 138 3 .i64 thingLaw Tryz.underlying104 Tryz.underlying3 (zeroInt _) (w.heap.size + 1 + 1) n D rfl hown2 _ _ rfl (key_ok 1 s.service wf1 hmem.1) 0 false HA.out HH.out ?_)
          refine wp_region_quiet_below (by kernel_rfl) (by kernel_rfl) ?_
          repeat (first | go_big_quiet_step (fail) | quiet_step (fail))
          refine wpQuiet_nil ?_
          intro w3 hw'
          obtain ⟨⟨dq, osq⟩, hw''⟩ := hw'
          have hb3 : Below w2.heap.size w2 w3 := by rw [hw'']; exact below_regrown _ _ _
          clear hw''
          go_wp2
          go_ret
          exact ⟨ret_bool (allTo_no hlt HNO.out).symm, hbr2.trans (hb3.mono hbr2.size)⟩
        | some sv =>
          obtain ⟨i, hil, hi, hnm⟩ := svcOf_some hf
          have H2' := H2.out i sv hil hi
          rw [hnm] at H2'
          have HH : Hid (Maps.has D (key 1 s.service) = true) := H2'.1
          have HA : Hid (D.atKey (key 1 s.service) (.lit (.int .i64 0)) = .lit (.int .i64 (i : Int))) := H2'.2
          have HCP : Hid (cpB B s = (cpOk B.now sv s && berthOk B.bts s)) := by unfold Hid cpB; rw [hf]
          obtain ⟨z0, z1, z2, z3, z4, z5, z6, z7, z8, z9, z10, z11, z12⟩ := ((hatS i sv hi).below hbr2 hbsS).grown
          have g0 := gcell box2.out 0 rfl
          have g1 := gcell box2.out 1 rfl
          have m0 := gcell bxr.out 0 rfl
          have m1 := gcell bxr.out 1 rfl
          have m2 := gcell bxr.out 2 rfl
          have m3 := gcell bxr.out 3 rfl
          have m4 := gcell bxr.out 4 rfl
          have m5 := gcell bxr.out 5 rfl
          have m6 := gcell bxr.out 6 rfl
          clear hf H2' hnm hi
          cases hok : cpOk B.now sv s
          · have HNO : Hid (cpAtB B k = false) := by unfold Hid cpAtB; rw [HSK.out]; simp [HCP.out, hok]
            go_wp2_with (at_lookup; refine wpList_lookup_is _ rfl (.tmp 32) (.tmp 35) 104 rfl 138 3 .i64 thingLaw Tryz.underlying104 Tryz.underlying3 (zeroInt _) (w.heap.size + 1 + 1) n D rfl hown2 _ _ rfl (key_ok 1 s.service wf1 hmem.1) (i : Int) true HA.out HH.out ?_)
            refine wp_region_quiet_below (by kernel_rfl) (by kernel_rfl) ?_
            repeat (first | go_big_quiet_step (first | exact Calls.regrown_of (copyHolds_any s sv B.now _) | exact Calls.regrown_of (berthFits_any B s (w.heap.size + 1 + 1) _ hmem.2 (pl2.out.below (below_regrown _ _ _) (by omega)))) | quiet_step (first | exact Calls.regrown_of (copyHolds_any s sv B.now _) | exact Calls.regrown_of (berthFits_any B s (w.heap.size + 1 + 1) _ hmem.2 (pl2.out.below (below_regrown _ _ _) (by omega)))))
            refine wpQuiet_nil ?_
            intro w3 hw'
            obtain ⟨⟨dq, osq⟩, hw''⟩ := hw'
            have hb3 : Below w2.heap.size w2 w3 := by rw [hw'']; exact below_regrown _ _ _
            clear hw''
            go_wp2
            go_ret
            exact ⟨ret_bool (allTo_no hlt HNO.out).symm, hbr2.trans (hb3.mono hbr2.size)⟩
          cases hbo : berthOk B.bts s
          · have HNO : Hid (cpAtB B k = false) := by unfold Hid cpAtB; rw [HSK.out]; simp [HCP.out, hok, hbo]
            go_wp2_with (at_lookup; refine wpList_lookup_is _ rfl (.tmp 32) (.tmp 35) 104 rfl 138 3 .i64 thingLaw Tryz.underlying104 Tryz.underlying3 (zeroInt _) (w.heap.size + 1 + 1) n D rfl hown2 _ _ rfl (key_ok 1 s.service wf1 hmem.1) (i : Int) true HA.out HH.out ?_)
            refine wp_region_quiet_below (by kernel_rfl) (by kernel_rfl) ?_
            repeat (first | go_big_quiet_step (first | exact Calls.regrown_of (copyHolds_any s sv B.now _) | exact Calls.regrown_of (berthFits_any B s (w.heap.size + 1 + 1) _ hmem.2 (pl2.out.below (below_regrown _ _ _) (by omega)))) | quiet_step (first | exact Calls.regrown_of (copyHolds_any s sv B.now _) | exact Calls.regrown_of (berthFits_any B s (w.heap.size + 1 + 1) _ hmem.2 (pl2.out.below (below_regrown _ _ _) (by omega)))))
            refine wpQuiet_nil ?_
            intro w3 hw'
            obtain ⟨⟨dq, osq⟩, hw''⟩ := hw'
            have hb3 : Below w2.heap.size w2 w3 := by rw [hw'']; exact below_regrown _ _ _
            clear hw''
            go_wp2
            go_ret
            exact ⟨ret_bool (allTo_no hlt HNO.out).symm, hbr2.trans (hb3.mono hbr2.size)⟩
          have HYES : Hid (cpAtB B k = true) := by unfold Hid cpAtB; rw [HSK.out]; simp [HCP.out, hok, hbo, HK0.out]
          go_wp2_with (at_lookup; refine wpList_lookup_is _ rfl (.tmp 32) (.tmp 35) 104 rfl 138 3 .i64 thingLaw Tryz.underlying104 Tryz.underlying3 (zeroInt _) (w.heap.size + 1 + 1) n D rfl hown2 _ _ rfl (key_ok 1 s.service wf1 hmem.1) (i : Int) true HA.out HH.out ?_)
          refine wp_region_quiet_below (by kernel_rfl) (by kernel_rfl) ?_
          repeat (first | go_big_quiet_step (first | exact Calls.regrown_of (copyHolds_any s sv B.now _) | exact Calls.regrown_of (berthFits_any B s (w.heap.size + 1 + 1) _ hmem.2 (pl2.out.below (below_regrown _ _ _) (by omega)))) | quiet_step (first | exact Calls.regrown_of (copyHolds_any s sv B.now _) | exact Calls.regrown_of (berthFits_any B s (w.heap.size + 1 + 1) _ hmem.2 (pl2.out.below (below_regrown _ _ _) (by omega)))))
          refine wpQuiet_nil ?_
          intro w3 hw'
          obtain ⟨⟨dq, osq⟩, hw''⟩ := hw'
          have hb3 : Below w2.heap.size w2 w3 := by rw [hw'']; exact below_regrown _ _ _
          clear hw''
          have hb4 := hbr2.trans (hb3.mono hbr2.size)
          have box3 : Hid _ := below_blk hb3 box2.out (by omega)
          have pl3 : Hid (PlacesAt w3 (w.heap.size + 1 + 1) B B.svcs.length B.bts.length) := pl2.out.below hb3 (by omega)
          clear g0 g1 m0 m1 m2 m3 m4 m5 m6 z0 z1 z2 z3 z4 z5 z6 z7 z8 z9 z10 z11 z12
          go_wp2
          go_roundw
          case rel => exact ⟨k + 1, by omega, by go_num, hb4, box3, pl3, upTo_step hall.out HYES.out⟩
          case measure => simp [intOf]; omega
      obtain ⟨k', rfl⟩ : ∃ k', k = k' + 1 := ⟨k - 1, by omega⟩
      clear hk0
      obtain ⟨p, hpk⟩ : ∃ p, B.cps[k']? = some p := ⟨B.cps[k']'(by omega), by rw [List.getElem?_eq_getElem]⟩
      have HPK : Hid _ := hpk
      obtain ⟨y0, y1, y2, y3, y4, y5, y6⟩ := ((hat k' p hpk).below (hb.trans (hw1.mono hb.size)) hbs).grown
      have gx0 := gcell HBX.out 0 rfl
      have gx1 := gcell HBX.out 1 rfl
      have gx2 := gcell HBX.out 2 rfl
      have gx3 := gcell HBX.out 3 rfl
      have gx4 := gcell HBX.out 4 rfl
      have gx5 := gcell HBX.out 5 rfl
      have gx6 := gcell HBX.out 6 rfl
      have gb2 := gcell hboxr.out 2 rfl
      clear hpk hat hne
      cases hle : aheadB p s
      · have HNO : Hid (cpAtB B (k' + 1) = false) := by unfold Hid cpAtB; rw [HSK.out]; simp [HPK.out, hle]
        go_wp2
        clear x0 x1 x2 x3 x4 x5 x6
        refine wp_region_quiet_below (by kernel_rfl) (by kernel_rfl) ?_
        repeat (first | go_big_quiet_step (exact Calls.regrown_of (copyAhead_any p s _)) | quiet_step (exact Calls.regrown_of (copyAhead_any p s _)))
        refine wpQuiet_nil ?_
        intro w2 hw'
        obtain ⟨⟨dq, osq⟩, hw''⟩ := hw'
        have hb2 : Below (wr.alloc (.cells #[.string s.service, .int .i64 s.number, .int .i64 s.version, .int .i64 s.image, .int .i64 s.state, .bool s.ending, .string s.berth] 88)).heap.size (wr.alloc (.cells #[.string s.service, .int .i64 s.number, .int .i64 s.version, .int .i64 s.image, .int .i64 s.state, .bool s.ending, .string s.berth] 88)) w2 := by rw [hw'']; exact below_regrown _ _ _
        clear hw''
        go_wp2
        go_ret
        exact ⟨ret_bool (allTo_no hlt HNO.out).symm, hbr.trans (hb2.mono hbr.size)⟩
      · have HLE : Hid (aheadB p s = true) := hle
        go_wp2
        clear x0 x1 x2 x3 x4 x5 x6
        refine wp_region_quiet_below (by kernel_rfl) (by kernel_rfl) ?_
        repeat (first | go_big_quiet_step (exact Calls.regrown_of (copyAhead_any p s _)) | quiet_step (exact Calls.regrown_of (copyAhead_any p s _)))
        refine wpQuiet_nil ?_
        intro w2 hw'
        obtain ⟨⟨dq, osq⟩, hw''⟩ := hw'
        have hb2 : Below (wr.alloc (.cells #[.string s.service, .int .i64 s.number, .int .i64 s.version, .int .i64 s.image, .int .i64 s.state, .bool s.ending, .string s.berth] 88)).heap.size (wr.alloc (.cells #[.string s.service, .int .i64 s.number, .int .i64 s.version, .int .i64 s.image, .int .i64 s.state, .bool s.ending, .string s.berth] 88)) w2 := by rw [hw'']; exact below_regrown _ _ _
        clear hw''
        clear gx0 gx1 gx2 gx3 gx4 gx5 gx6 gb2 hle y0 y1 y2 y3 y4 y5 y6
        have hbr2 := hbr.trans (hb2.mono hbr.size)
        have bxr : Hid _ := below_blk hb2 HBX.out (by rw [HSZ.out]; omega)
        have box2 : Hid _ := below_blk hb2 hboxr.out (by rw [HSZ.out]; omega)
        have pl2 : Hid (PlacesAt w2 (w.heap.size + 1 + 1) B B.svcs.length B.bts.length) := hplr.out.below hb2 (by rw [HSZ.out]; omega)
        have hz2 : wr.heap.size < w2.heap.size := by have := hb2.size; rw [HSZ.out] at this; omega
        have r0 := blk_cell bxr.out 0 rfl
        obtain ⟨n, D, hn, hown2, h1, h2, h3, h4⟩ := pl2.out
        have H1 : Hid _ := h1
        have H2 : Hid _ := h2
        clear h1 h2 h3 h4
        cases hf : svcOf B s.service with
        | none =>
          have HNO : Hid (cpAtB B (k' + 1) = false) := by unfold Hid cpAtB; rw [HSK.out]; simp [cpB, hf]
          have HH : Hid (Maps.has D (key 1 s.service) = false) := H1.out s.service hmem.1 (svcOf_none hf)
          have HA : Hid (D.atKey (key 1 s.service) (.lit (.int .i64 0)) = .lit (.int .i64 0)) := atKey_of_not_has HH.out _
          go_wp2_with (at_lookup; refine wpList_lookup_is _ rfl (.tmp 32) (.tmp 35) 104 rfl 138 3 .i64 thingLaw Tryz.underlying104 Tryz.underlying3 (zeroInt _) (w.heap.size + 1 + 1) n D rfl hown2 _ _ rfl (key_ok 1 s.service wf1 hmem.1) 0 false HA.out HH.out ?_)
          refine wp_region_quiet_below (by kernel_rfl) (by kernel_rfl) ?_
          repeat (first | go_big_quiet_step (fail) | quiet_step (fail))
          refine wpQuiet_nil ?_
          intro w3 hw'
          obtain ⟨⟨dq, osq⟩, hw''⟩ := hw'
          have hb3 : Below w2.heap.size w2 w3 := by rw [hw'']; exact below_regrown _ _ _
          clear hw''
          go_wp2
          go_ret
          exact ⟨ret_bool (allTo_no hlt HNO.out).symm, hbr2.trans (hb3.mono hbr2.size)⟩
        | some sv =>
          obtain ⟨i, hil, hi, hnm⟩ := svcOf_some hf
          have H2' := H2.out i sv hil hi
          rw [hnm] at H2'
          have HH : Hid (Maps.has D (key 1 s.service) = true) := H2'.1
          have HA : Hid (D.atKey (key 1 s.service) (.lit (.int .i64 0)) = .lit (.int .i64 (i : Int))) := H2'.2
          have HCP : Hid (cpB B s = (cpOk B.now sv s && berthOk B.bts s)) := by unfold Hid cpB; rw [hf]
          obtain ⟨z0, z1, z2, z3, z4, z5, z6, z7, z8, z9, z10, z11, z12⟩ := ((hatS i sv hi).below hbr2 hbsS).grown
          have g0 := gcell box2.out 0 rfl
          have g1 := gcell box2.out 1 rfl
          have m0 := gcell bxr.out 0 rfl
          have m1 := gcell bxr.out 1 rfl
          have m2 := gcell bxr.out 2 rfl
          have m3 := gcell bxr.out 3 rfl
          have m4 := gcell bxr.out 4 rfl
          have m5 := gcell bxr.out 5 rfl
          have m6 := gcell bxr.out 6 rfl
          clear hf H2' hnm hi
          cases hok : cpOk B.now sv s
          · have HNO : Hid (cpAtB B (k' + 1) = false) := by unfold Hid cpAtB; rw [HSK.out]; simp [HCP.out, hok]
            go_wp2_with (at_lookup; refine wpList_lookup_is _ rfl (.tmp 32) (.tmp 35) 104 rfl 138 3 .i64 thingLaw Tryz.underlying104 Tryz.underlying3 (zeroInt _) (w.heap.size + 1 + 1) n D rfl hown2 _ _ rfl (key_ok 1 s.service wf1 hmem.1) (i : Int) true HA.out HH.out ?_)
            refine wp_region_quiet_below (by kernel_rfl) (by kernel_rfl) ?_
            repeat (first | go_big_quiet_step (first | exact Calls.regrown_of (copyHolds_any s sv B.now _) | exact Calls.regrown_of (berthFits_any B s (w.heap.size + 1 + 1) _ hmem.2 (pl2.out.below (below_regrown _ _ _) (by omega)))) | quiet_step (first | exact Calls.regrown_of (copyHolds_any s sv B.now _) | exact Calls.regrown_of (berthFits_any B s (w.heap.size + 1 + 1) _ hmem.2 (pl2.out.below (below_regrown _ _ _) (by omega)))))
            refine wpQuiet_nil ?_
            intro w3 hw'
            obtain ⟨⟨dq, osq⟩, hw''⟩ := hw'
            have hb3 : Below w2.heap.size w2 w3 := by rw [hw'']; exact below_regrown _ _ _
            clear hw''
            go_wp2
            go_ret
            exact ⟨ret_bool (allTo_no hlt HNO.out).symm, hbr2.trans (hb3.mono hbr2.size)⟩
          cases hbo : berthOk B.bts s
          · have HNO : Hid (cpAtB B (k' + 1) = false) := by unfold Hid cpAtB; rw [HSK.out]; simp [HCP.out, hok, hbo]
            go_wp2_with (at_lookup; refine wpList_lookup_is _ rfl (.tmp 32) (.tmp 35) 104 rfl 138 3 .i64 thingLaw Tryz.underlying104 Tryz.underlying3 (zeroInt _) (w.heap.size + 1 + 1) n D rfl hown2 _ _ rfl (key_ok 1 s.service wf1 hmem.1) (i : Int) true HA.out HH.out ?_)
            refine wp_region_quiet_below (by kernel_rfl) (by kernel_rfl) ?_
            repeat (first | go_big_quiet_step (first | exact Calls.regrown_of (copyHolds_any s sv B.now _) | exact Calls.regrown_of (berthFits_any B s (w.heap.size + 1 + 1) _ hmem.2 (pl2.out.below (below_regrown _ _ _) (by omega)))) | quiet_step (first | exact Calls.regrown_of (copyHolds_any s sv B.now _) | exact Calls.regrown_of (berthFits_any B s (w.heap.size + 1 + 1) _ hmem.2 (pl2.out.below (below_regrown _ _ _) (by omega)))))
            refine wpQuiet_nil ?_
            intro w3 hw'
            obtain ⟨⟨dq, osq⟩, hw''⟩ := hw'
            have hb3 : Below w2.heap.size w2 w3 := by rw [hw'']; exact below_regrown _ _ _
            clear hw''
            go_wp2
            go_ret
            exact ⟨ret_bool (allTo_no hlt HNO.out).symm, hbr2.trans (hb3.mono hbr2.size)⟩
          have HYES : Hid (cpAtB B (k' + 1) = true) := by unfold Hid cpAtB; rw [HSK.out]; simp [HCP.out, hok, hbo, HPK.out, HLE.out]
          go_wp2_with (at_lookup; refine wpList_lookup_is _ rfl (.tmp 32) (.tmp 35) 104 rfl 138 3 .i64 thingLaw Tryz.underlying104 Tryz.underlying3 (zeroInt _) (w.heap.size + 1 + 1) n D rfl hown2 _ _ rfl (key_ok 1 s.service wf1 hmem.1) (i : Int) true HA.out HH.out ?_)
          refine wp_region_quiet_below (by kernel_rfl) (by kernel_rfl) ?_
          repeat (first | go_big_quiet_step (first | exact Calls.regrown_of (copyHolds_any s sv B.now _) | exact Calls.regrown_of (berthFits_any B s (w.heap.size + 1 + 1) _ hmem.2 (pl2.out.below (below_regrown _ _ _) (by omega)))) | quiet_step (first | exact Calls.regrown_of (copyHolds_any s sv B.now _) | exact Calls.regrown_of (berthFits_any B s (w.heap.size + 1 + 1) _ hmem.2 (pl2.out.below (below_regrown _ _ _) (by omega)))))
          refine wpQuiet_nil ?_
          intro w3 hw'
          obtain ⟨⟨dq, osq⟩, hw''⟩ := hw'
          have hb3 : Below w2.heap.size w2 w3 := by rw [hw'']; exact below_regrown _ _ _
          clear hw''
          have hb4 := hbr2.trans (hb3.mono hbr2.size)
          have box3 : Hid _ := below_blk hb3 box2.out (by omega)
          have pl3 : Hid (PlacesAt w3 (w.heap.size + 1 + 1) B B.svcs.length B.bts.length) := pl2.out.below hb3 (by omega)
          clear g0 g1 m0 m1 m2 m3 m4 m5 m6 z0 z1 z2 z3 z4 z5 z6 z7 z8 z9 z10 z11 z12
          go_wp2
          go_roundw
          case rel => exact ⟨(k' + 1) + 1, by omega, by go_num, hb4, box3, pl3, upTo_step hall.out HYES.out⟩
          case measure => simp [intOf]; omega
    · go_wp2
      go_ret
      exact ⟨ret_bool (allTo_yes fun i hi => hall.out i (by omega)).symm, hb⟩

end Go.Proofs.YtbceafpodamnfabGreat

/-
  My own. The program's StewValid.
-/
namespace Go.Proofs.YtbceafpodamnfabGreat
open Go.RowKit Go.Sort Go.Maps

def bkP (B : Bk) : Nat → Bool
  | 0 => inB B.now 0 1000000
  | 1 => decide (B.svcs.length ≤ 8) && decide (B.cps.length ≤ 200) && decide (B.bts.length ≤ 6)
  | 2 => allTo (svcAtB B) B.svcs.length
  | 3 => allTo (btAtB B) B.bts.length
  | _ => allTo (cpAtB B) B.cps.length
theorem bkP_all (B : Bk) : allTo (bkP B) 5 = validB B := by
  have h : allTo (bkP B) 5 = (bkP B 0 && (bkP B 1 && (bkP B 2 && (bkP B 3 && (bkP B 4 && true))))) := rfl
  rw [h]
  simp only [bkP, validB, Bool.and_true, Bool.and_assoc]

theorem svcs_less {B : Bk} (h : ∀ i, i < B.svcs.length → svcAtB B i = true) : ∀ (j i : Nat) s t, i < j → B.svcs[i]? = some s → B.svcs[j]? = some t → Op.bytesLess s.name.toList t.name.toList = true
  | 0, i, _, _, hi, _, _ => absurd hi (by omega)
  | j + 1, i, s, t, hi, hs, ht => by
    have hlt : j + 1 < B.svcs.length := (List.getElem?_eq_some_iff.1 ht).1
    obtain ⟨p, hp⟩ : ∃ p, B.svcs[j]? = some p := ⟨B.svcs[j]'(by omega), by rw [List.getElem?_eq_getElem]⟩
    have h1 : Op.bytesLess p.name.toList t.name.toList = true := by
      have := h (j + 1) hlt
      unfold svcAtB at this
      rw [ht] at this
      simp [hp] at this
      exact this.2
    rcases Nat.lt_or_ge i j with h' | h'
    · exact bytesLess_trans _ _ _ (svcs_less h j i s p h' hs hp) h1
    · have e : i = j := by omega
      subst e
      rw [hp] at hs
      cases hs
      exact h1
theorem uniq_of {B : Bk} (h : allTo (svcAtB B) B.svcs.length = true) : uniqS B := fun i j s t hij hs ht e => by
  have h' : ∀ i, i < B.svcs.length → svcAtB B i = true := fun i hi => by
    unfold allTo at h; exact List.all_eq_true.1 h i (List.mem_range.2 hi)
  have := svcs_less h' j i s t hij hs ht
  rw [e, bytesLess_irrefl] at this
  cases this

theorem copiesHold_any (B : Bk) (a1 a2 a3 : Option Addr) (c1 c2 c3 : Nat) (w : World) (hS : B.small) (hZ : B.sized) (hU : uniqS B) (hB : BkAt w a1 a2 a3 B) :
    Calls Tryz.prog 70 #[.agg #[.int .i64 B.now, .slice a1 B.svcs.length c1, .slice a2 B.cps.length c2, .slice a3 B.bts.length c3]] w fun e w' => e = .returned (.bool (allTo (cpAtB B) B.cps.length)) ∧ Below w.heap.size w w' := by
  by_cases h : B.svcs = []
  · exact copiesHold_nil B a1 a2 a3 c1 c2 c3 w hS hZ hU hB h
  · exact copiesHold_cons B a1 a2 a3 c1 c2 c3 w hS hZ hU hB h

/-- The five checks lie at block b. -/
def FnsB (w : World) (b : Nat) : Prop := w.heap[b]? = some (.cells #[.func (.func 66) #[] #[], .func (.func 67) #[] #[], .func (.func 68) #[] #[], .func (.func 69) #[] #[], .func (.func 70) #[] #[]] 56 (0, 0))

set_option maxHeartbeats 4000000 in
theorem allHoldB_any (B : Bk) (a1 a2 a3 : Option Addr) (c1 c2 c3 : Nat) (b : Nat) (w : World) (hS : B.small) (hZ : B.sized) (hB : BkAt w a1 a2 a3 B) (hF : FnsB w b) :
    Calls Tryz.prog 65 #[.agg #[.int .i64 B.now, .slice a1 B.svcs.length c1, .slice a2 B.cps.length c2, .slice a3 B.bts.length c3], .slice (some ⟨b, 0, none⟩) 5 5] w fun e w' => e = .returned (.bool (allTo (bkP B) 5)) ∧ Below w.heap.size w w' := by
  have hbx := below_box w (.cells #[.int .i64 B.now, .slice a1 B.svcs.length c1, .slice a2 B.cps.length c2, .slice a3 B.bts.length c3] 34)
  have hbox : Hid _ := heap_alloc_new w (.cells #[.int .i64 B.now, .slice a1 B.svcs.length c1, .slice a2 B.cps.length c2, .slice a3 B.bts.length c3] 34)
  have hblt : b < w.heap.size := (Array.getElem?_eq_some_iff.1 hF).1
  have HF : Hid (FnsB w b) := hF
  clear hF
  go_enter Tryz.func65, Tryz.ntmps65
  go_wp2
  go_loopw [9] (fun iv wr => ∃ k : Nat, k ≤ 5 ∧ iv = .int .i64 k ∧ Below w.heap.size w wr ∧ Hid (wr.heap[w.heap.size]? = some (.cells #[.int .i64 B.now, .slice a1 B.svcs.length c1, .slice a2 B.cps.length c2, .slice a3 B.bts.length c3] 34 (0, 0))) ∧ Hid (∀ i, i < k → bkP B i = true)) (fun i _ => 5 - (intOf i).toNat)
  case atStart => exact ⟨0, by omega, rfl, hbx, hbox, fun i hi => absurd hi (by omega)⟩
  case round =>
    obtain ⟨k, hk, rfl, hb, hbox1, hall⟩ := hrel
    have hNlt : w.heap.size < wr.heap.size := (Array.getElem?_eq_some_iff.1 hbox1.out).1
    have hfn : Hid _ := below_blk hb HF.out hblt
    have x0 := blk_cell hbox1.out 0 rfl
    have x1 := blk_cell hbox1.out 1 rfl
    have x2 := blk_cell hbox1.out 2 rfl
    have x3 := blk_cell hbox1.out 3 rfl
    by_cases h0 : k = 0
    · subst h0
      have f0 := blk_cell hfn.out 0 rfl
      cases hv : (inB B.now 0 1000000)
      · have HV : Hid (bkP B 0 = false) := hv
        go_wp2_with fail
        refine (nowHolds_any B a1 a2 a3 c1 c2 c3 _).mono ?_
        rintro e w1 ⟨he, hb1⟩
        subst he
        have hb2 := hb.trans (hb1.mono hb.size)
        rw [hv]
        clear x0 x1 x2 x3 f0
        go_wp2
        go_ret
        exact ⟨ret_bool (allTo_no (by omega) HV.out).symm, hb2⟩
      · have HV : Hid (bkP B 0 = true) := hv
        go_wp2_with fail
        refine (nowHolds_any B a1 a2 a3 c1 c2 c3 _).mono ?_
        rintro e w1 ⟨he, hb1⟩
        subst he
        have hb2 := hb.trans (hb1.mono hb.size)
        have hbox2 : Hid _ := below_blk hb1 hbox1.out hNlt
        rw [hv]
        clear x0 x1 x2 x3 f0
        go_wp2
        go_roundw
        case rel => exact ⟨0 + 1, by omega, by go_num, hb2, hbox2, upTo_step hall.out HV.out⟩
        case measure => simp [intOf]
    by_cases h1 : k = 1
    · subst h1
      have f1 := blk_cell hfn.out 1 rfl
      cases hv : (decide (B.svcs.length ≤ 8) && decide (B.cps.length ≤ 200) && decide (B.bts.length ≤ 6))
      · have HV : Hid (bkP B 1 = false) := hv
        go_wp2_with fail
        refine (sizesHold_any B a1 a2 a3 c1 c2 c3 _ hS).mono ?_
        rintro e w1 ⟨he, hb1⟩
        subst he
        have hb2 := hb.trans (hb1.mono hb.size)
        rw [hv]
        clear x0 x1 x2 x3 f1
        go_wp2
        go_ret
        exact ⟨ret_bool (allTo_no (by omega) HV.out).symm, hb2⟩
      · have HV : Hid (bkP B 1 = true) := hv
        go_wp2_with fail
        refine (sizesHold_any B a1 a2 a3 c1 c2 c3 _ hS).mono ?_
        rintro e w1 ⟨he, hb1⟩
        subst he
        have hb2 := hb.trans (hb1.mono hb.size)
        have hbox2 : Hid _ := below_blk hb1 hbox1.out hNlt
        rw [hv]
        clear x0 x1 x2 x3 f1
        go_wp2
        go_roundw
        case rel => exact ⟨1 + 1, by omega, by go_num, hb2, hbox2, upTo_step hall.out HV.out⟩
        case measure => simp [intOf]
    by_cases h2 : k = 2
    · subst h2
      have f2 := blk_cell hfn.out 2 rfl
      cases hv : (allTo (svcAtB B) B.svcs.length)
      · have HV : Hid (bkP B 2 = false) := hv
        go_wp2_with fail
        refine (servicesHold_any B a1 a2 a3 c1 c2 c3 _ hS hZ (hB.below hb)).mono ?_
        rintro e w1 ⟨he, hb1⟩
        subst he
        have hb2 := hb.trans (hb1.mono hb.size)
        rw [hv]
        clear x0 x1 x2 x3 f2
        go_wp2
        go_ret
        exact ⟨ret_bool (allTo_no (by omega) HV.out).symm, hb2⟩
      · have HV : Hid (bkP B 2 = true) := hv
        go_wp2_with fail
        refine (servicesHold_any B a1 a2 a3 c1 c2 c3 _ hS hZ (hB.below hb)).mono ?_
        rintro e w1 ⟨he, hb1⟩
        subst he
        have hb2 := hb.trans (hb1.mono hb.size)
        have hbox2 : Hid _ := below_blk hb1 hbox1.out hNlt
        rw [hv]
        clear x0 x1 x2 x3 f2
        go_wp2
        go_roundw
        case rel => exact ⟨2 + 1, by omega, by go_num, hb2, hbox2, upTo_step hall.out HV.out⟩
        case measure => simp [intOf]
    by_cases h3 : k = 3
    · subst h3
      have f3 := blk_cell hfn.out 3 rfl
      cases hv : (allTo (btAtB B) B.bts.length)
      · have HV : Hid (bkP B 3 = false) := hv
        go_wp2_with fail
        refine (berthsHold_any B a1 a2 a3 c1 c2 c3 _ hS hZ (hB.below hb)).mono ?_
        rintro e w1 ⟨he, hb1⟩
        subst he
        have hb2 := hb.trans (hb1.mono hb.size)
        rw [hv]
        clear x0 x1 x2 x3 f3
        go_wp2
        go_ret
        exact ⟨ret_bool (allTo_no (by omega) HV.out).symm, hb2⟩
      · have HV : Hid (bkP B 3 = true) := hv
        go_wp2_with fail
        refine (berthsHold_any B a1 a2 a3 c1 c2 c3 _ hS hZ (hB.below hb)).mono ?_
        rintro e w1 ⟨he, hb1⟩
        subst he
        have hb2 := hb.trans (hb1.mono hb.size)
        have hbox2 : Hid _ := below_blk hb1 hbox1.out hNlt
        rw [hv]
        clear x0 x1 x2 x3 f3
        go_wp2
        go_roundw
        case rel => exact ⟨3 + 1, by omega, by go_num, hb2, hbox2, upTo_step hall.out HV.out⟩
        case measure => simp [intOf]
    by_cases h4 : k = 4
    · subst h4
      have f4 := blk_cell hfn.out 4 rfl
      cases hv : (allTo (cpAtB B) B.cps.length)
      · have HV : Hid (bkP B 4 = false) := hv
        go_wp2_with fail
        refine (copiesHold_any B a1 a2 a3 c1 c2 c3 _ hS hZ (uniq_of (hall.out 2 (by omega))) (hB.below hb)).mono ?_
        rintro e w1 ⟨he, hb1⟩
        subst he
        have hb2 := hb.trans (hb1.mono hb.size)
        rw [hv]
        clear x0 x1 x2 x3 f4
        go_wp2
        go_ret
        exact ⟨ret_bool (allTo_no (by omega) HV.out).symm, hb2⟩
      · have HV : Hid (bkP B 4 = true) := hv
        go_wp2_with fail
        refine (copiesHold_any B a1 a2 a3 c1 c2 c3 _ hS hZ (uniq_of (hall.out 2 (by omega))) (hB.below hb)).mono ?_
        rintro e w1 ⟨he, hb1⟩
        subst he
        have hb2 := hb.trans (hb1.mono hb.size)
        have hbox2 : Hid _ := below_blk hb1 hbox1.out hNlt
        rw [hv]
        clear x0 x1 x2 x3 f4
        go_wp2
        go_roundw
        case rel => exact ⟨4 + 1, by omega, by go_num, hb2, hbox2, upTo_step hall.out HV.out⟩
        case measure => simp [intOf]
    · have h5 : k = 5 := by omega
      subst h5
      clear x0 x1 x2 x3
      go_wp2
      go_ret
      exact ⟨ret_bool (allTo_yes hall.out).symm, hb⟩

set_option maxHeartbeats 1000000 in
theorem implValid_any (B : Bk) (a1 a2 a3 : Option Addr) (c1 c2 c3 : Nat) (w : World) (hS : B.small) (hZ : B.sized) (hB : BkAt w a1 a2 a3 B) :
    Calls Tryz.prog 28 #[.agg #[.int .i64 B.now, .slice a1 B.svcs.length c1, .slice a2 B.cps.length c2, .slice a3 B.bts.length c3]] w fun e w' => e = .returned (.bool (validB B)) ∧ Below w.heap.size w w' := by
  obtain ⟨t0, t1, t2⟩ := two_new w (.cells #[.int .i64 B.now, .slice a1 B.svcs.length c1, .slice a2 B.cps.length c2, .slice a3 B.bts.length c3] 34) (.cells #[.func (.func 66) #[] #[], .func (.func 67) #[] #[], .func (.func 68) #[] #[], .func (.func 69) #[] #[], .func (.func 70) #[] #[]] 56)
  have hb0 : Below w.heap.size w ((w.alloc (.cells #[.int .i64 B.now, .slice a1 B.svcs.length c1, .slice a2 B.cps.length c2, .slice a3 B.bts.length c3] 34)).alloc (.cells #[.func (.func 66) #[] #[], .func (.func 67) #[] #[], .func (.func 68) #[] #[], .func (.func 69) #[] #[], .func (.func 70) #[] #[]] 56)) := ((Below.refl _ _).alloc (Nat.le_refl _) _).alloc (by simp) _
  have T1 : Hid _ := t1
  clear t0 t1 t2
  go_enter Tryz.func28, Tryz.ntmps28
  go_wp2_with fail
  refine (allHoldB_any B a1 a2 a3 c1 c2 c3 (w.heap.size + 1) _ hS hZ (hB.below hb0) T1.out).mono ?_
  rintro e w1 ⟨rfl, hb1⟩
  rw [bkP_all]
  go_wp2
  go_ret
  exact ⟨rfl, hb0.trans (hb1.mono hb0.size)⟩

end Go.Proofs.YtbceafpodamnfabGreat

/-
  My own. A book that came in, opened.
-/
namespace Go.Proofs.YtbceafpodamnfabGreat
open Go.ChangeShapes Go.WideShapes Go.ChangeAt Go.RowKit Go.Deep

section
variable {H : Type} {enc : TypeId × Value → H} {w : World} {base : Nat} {spare : Nat → Bool} {held : Bool}

set_option maxRecDepth 100000 in
theorem boolCells : Tryz.prog.cellsOf 4 = 1 := by kernel_rfl

set_option maxRecDepth 100000 in
theorem cellsService : Tryz.prog.cellsOf 42 = 13 := by kernel_rfl
set_option maxRecDepth 100000 in
theorem open_Svc {n : Nat} {cs : List Value} {x : DataW H × List MemPlace} (h : DataW.trod enc Tryz.prog w base spare held n 42 cs = some x) : ∃ s : Svc, cs = Svc.cells s ∧ s.name.size ≤ maxLen := by
  obtain ⟨xs, m, rfl, _, hlen, hxs, hf⟩ := DataW.trod_struct Tryz.underlying42 h
  rw [cellsService] at hlen
  have hx : xs.length = 13 := hxs
  match cs, hlen with
  | [c0, c1, c2, c3, c4, c5, c6, c7, c8, c9, c10, c11, c12], _ =>
    have h0 : DataW.trod enc Tryz.prog w base spare held m 9 (List.take (Tryz.prog.cellsOf 9) (List.drop 0 [c0, c1, c2, c3, c4, c5, c6, c7, c8, c9, c10, c11, c12])) = xs[0]? := hf 0 _ rfl
    rw [List.getElem?_eq_getElem (show 0 < xs.length by omega)] at h0
    simp only [List.drop_zero, List.take_succ_cons, List.take_zero, stringCells] at h0
    obtain ⟨v0, e0, _, z0⟩ := DataW.trod_string Tryz.underlying9 h0
    have h1 : DataW.trod enc Tryz.prog w base spare held m 3 (List.take (Tryz.prog.cellsOf 3) (List.drop 1 [c0, c1, c2, c3, c4, c5, c6, c7, c8, c9, c10, c11, c12])) = xs[1]? := hf 1 _ rfl
    rw [List.getElem?_eq_getElem (show 1 < xs.length by omega)] at h1
    simp only [List.drop_zero, List.drop_succ_cons, List.take_succ_cons, List.take_zero, intCells] at h1
    obtain ⟨v1, e1, _, _⟩ := DataW.trod_int Tryz.underlying3 h1
    have h2 : DataW.trod enc Tryz.prog w base spare held m 4 (List.take (Tryz.prog.cellsOf 4) (List.drop 2 [c0, c1, c2, c3, c4, c5, c6, c7, c8, c9, c10, c11, c12])) = xs[2]? := hf 2 _ rfl
    rw [List.getElem?_eq_getElem (show 2 < xs.length by omega)] at h2
    simp only [List.drop_zero, List.drop_succ_cons, List.take_succ_cons, List.take_zero, boolCells] at h2
    obtain ⟨v2, e2, _⟩ := DataW.trod_bool Tryz.underlying4 h2
    have h3 : DataW.trod enc Tryz.prog w base spare held m 3 (List.take (Tryz.prog.cellsOf 3) (List.drop 3 [c0, c1, c2, c3, c4, c5, c6, c7, c8, c9, c10, c11, c12])) = xs[3]? := hf 3 _ rfl
    rw [List.getElem?_eq_getElem (show 3 < xs.length by omega)] at h3
    simp only [List.drop_zero, List.drop_succ_cons, List.take_succ_cons, List.take_zero, intCells] at h3
    obtain ⟨v3, e3, _, _⟩ := DataW.trod_int Tryz.underlying3 h3
    have h4 : DataW.trod enc Tryz.prog w base spare held m 3 (List.take (Tryz.prog.cellsOf 3) (List.drop 4 [c0, c1, c2, c3, c4, c5, c6, c7, c8, c9, c10, c11, c12])) = xs[4]? := hf 4 _ rfl
    rw [List.getElem?_eq_getElem (show 4 < xs.length by omega)] at h4
    simp only [List.drop_zero, List.drop_succ_cons, List.take_succ_cons, List.take_zero, intCells] at h4
    obtain ⟨v4, e4, _, _⟩ := DataW.trod_int Tryz.underlying3 h4
    have h5 : DataW.trod enc Tryz.prog w base spare held m 3 (List.take (Tryz.prog.cellsOf 3) (List.drop 5 [c0, c1, c2, c3, c4, c5, c6, c7, c8, c9, c10, c11, c12])) = xs[5]? := hf 5 _ rfl
    rw [List.getElem?_eq_getElem (show 5 < xs.length by omega)] at h5
    simp only [List.drop_zero, List.drop_succ_cons, List.take_succ_cons, List.take_zero, intCells] at h5
    obtain ⟨v5, e5, _, _⟩ := DataW.trod_int Tryz.underlying3 h5
    have h6 : DataW.trod enc Tryz.prog w base spare held m 3 (List.take (Tryz.prog.cellsOf 3) (List.drop 6 [c0, c1, c2, c3, c4, c5, c6, c7, c8, c9, c10, c11, c12])) = xs[6]? := hf 6 _ rfl
    rw [List.getElem?_eq_getElem (show 6 < xs.length by omega)] at h6
    simp only [List.drop_zero, List.drop_succ_cons, List.take_succ_cons, List.take_zero, intCells] at h6
    obtain ⟨v6, e6, _, _⟩ := DataW.trod_int Tryz.underlying3 h6
    have h7 : DataW.trod enc Tryz.prog w base spare held m 3 (List.take (Tryz.prog.cellsOf 3) (List.drop 7 [c0, c1, c2, c3, c4, c5, c6, c7, c8, c9, c10, c11, c12])) = xs[7]? := hf 7 _ rfl
    rw [List.getElem?_eq_getElem (show 7 < xs.length by omega)] at h7
    simp only [List.drop_zero, List.drop_succ_cons, List.take_succ_cons, List.take_zero, intCells] at h7
    obtain ⟨v7, e7, _, _⟩ := DataW.trod_int Tryz.underlying3 h7
    have h8 : DataW.trod enc Tryz.prog w base spare held m 3 (List.take (Tryz.prog.cellsOf 3) (List.drop 8 [c0, c1, c2, c3, c4, c5, c6, c7, c8, c9, c10, c11, c12])) = xs[8]? := hf 8 _ rfl
    rw [List.getElem?_eq_getElem (show 8 < xs.length by omega)] at h8
    simp only [List.drop_zero, List.drop_succ_cons, List.take_succ_cons, List.take_zero, intCells] at h8
    obtain ⟨v8, e8, _, _⟩ := DataW.trod_int Tryz.underlying3 h8
    have h9 : DataW.trod enc Tryz.prog w base spare held m 3 (List.take (Tryz.prog.cellsOf 3) (List.drop 9 [c0, c1, c2, c3, c4, c5, c6, c7, c8, c9, c10, c11, c12])) = xs[9]? := hf 9 _ rfl
    rw [List.getElem?_eq_getElem (show 9 < xs.length by omega)] at h9
    simp only [List.drop_zero, List.drop_succ_cons, List.take_succ_cons, List.take_zero, intCells] at h9
    obtain ⟨v9, e9, _, _⟩ := DataW.trod_int Tryz.underlying3 h9
    have h10 : DataW.trod enc Tryz.prog w base spare held m 3 (List.take (Tryz.prog.cellsOf 3) (List.drop 10 [c0, c1, c2, c3, c4, c5, c6, c7, c8, c9, c10, c11, c12])) = xs[10]? := hf 10 _ rfl
    rw [List.getElem?_eq_getElem (show 10 < xs.length by omega)] at h10
    simp only [List.drop_zero, List.drop_succ_cons, List.take_succ_cons, List.take_zero, intCells] at h10
    obtain ⟨v10, e10, _, _⟩ := DataW.trod_int Tryz.underlying3 h10
    have h11 : DataW.trod enc Tryz.prog w base spare held m 3 (List.take (Tryz.prog.cellsOf 3) (List.drop 11 [c0, c1, c2, c3, c4, c5, c6, c7, c8, c9, c10, c11, c12])) = xs[11]? := hf 11 _ rfl
    rw [List.getElem?_eq_getElem (show 11 < xs.length by omega)] at h11
    simp only [List.drop_zero, List.drop_succ_cons, List.take_succ_cons, List.take_zero, intCells] at h11
    obtain ⟨v11, e11, _, _⟩ := DataW.trod_int Tryz.underlying3 h11
    have h12 : DataW.trod enc Tryz.prog w base spare held m 3 (List.take (Tryz.prog.cellsOf 3) (List.drop 12 [c0, c1, c2, c3, c4, c5, c6, c7, c8, c9, c10, c11, c12])) = xs[12]? := hf 12 _ rfl
    rw [List.getElem?_eq_getElem (show 12 < xs.length by omega)] at h12
    simp only [List.drop_zero, List.drop_succ_cons, List.take_succ_cons, List.take_zero, intCells] at h12
    obtain ⟨v12, e12, _, _⟩ := DataW.trod_int Tryz.underlying3 h12
    simp only [List.cons.injEq, and_true] at e0 e1 e2 e3 e4 e5 e6 e7 e8 e9 e10 e11 e12
    subst e0 e1 e2 e3 e4 e5 e6 e7 e8 e9 e10 e11 e12
    exact ⟨⟨v0, v1, v2, v3, v4, v5, v6, v7, v8, v9, v10, v11, v12⟩, rfl, z0⟩

set_option maxRecDepth 100000 in
theorem open_Svcs {n : Nat} {v : Value} {x : DataW H × List MemPlace} (h : DataW.trod enc Tryz.prog w 0 spare held n 22 [v] = some x) : ∃ (ao : Option Addr) (l : List Svc) (cap : Nat), v = .slice ao l.length cap ∧ l.length ≤ maxLen ∧ SlS w ao l ∧ ∀ s ∈ l, s.name.size ≤ maxLen := by
  rcases open_slice Tryz.underlying22 h with ⟨hcs, _⟩ | ⟨a, len, cap, m, k, D, Pl, hcs, _, hlc, hcm, hm, _, hx⟩
  · simp only [List.cons.injEq, and_true] at hcs
    exact ⟨none, [], 0, hcs, Nat.zero_le _, fun h => absurd rfl h, fun s hs => by cases hs⟩
  · simp only [List.cons.injEq, and_true] at hcs
    subst hcs
    have hle : len ≤ m := by rw [hm]; split <;> omega
    have hel : ∀ i, i < len → ∃ s : Svc, w.cells? 0 (a.add (i * 13)) 13 = some (Svc.cells s) ∧ s.name.size ≤ maxLen := fun i hi => by
      obtain ⟨cs', h1, h2⟩ := hx i (by omega)
      obtain ⟨s, rfl, hs⟩ := open_Svc h2
      rw [cellsService] at h1
      exact ⟨s, h1, hs⟩
    obtain ⟨f, hf⟩ : ∃ f : Nat → Svc, ∀ i, i < len → w.cells? 0 (a.add (i * 13)) 13 = some (Svc.cells (f i)) ∧ (f i).name.size ≤ maxLen := by
      haveI : Inhabited Svc := ⟨⟨⟨#[]⟩, 0, false, 0, 0, 0, 0, 0, 0, 0, 0, 0, 0⟩⟩
      exact choose_lt hel
    have hlen : ((List.range len).map f).length = len := by simp
    refine ⟨some a, (List.range len).map f, cap, by rw [hlen], by rw [hlen]; omega, fun hne => ?_, fun s hs => ?_⟩
    · have hpos : 0 < len := by
        rcases Nat.eq_zero_or_pos len with h0 | h0
        · subst h0; exact absurd rfl hne
        · exact h0
      obtain ⟨b, off, sp⟩ := a
      have hc0 := (World.cells?_some (hf 0 hpos).1).2.2 0 (by omega)
      have hsp : sp = none := by
        have e : ((⟨b, off, sp⟩ : Addr).add (0 * 13)).add 0 = ⟨b, off, sp⟩ := by simp [Addr.add]
        rw [e] at hc0
        exact World.cell?_spot hc0
      subst hsp
      have hcell : ∀ i, i < len → ∀ j, j < 13 → w.cell? ⟨b, off + i * 13 + j, none⟩ = (Svc.cells (f i))[j]? := fun i hi j hj => by
        have := (World.cells?_some (hf i hi).1).2.2 j hj
        rw [← this]
        congr 1
        unfold Addr.add
        by_cases h1 : i * 13 = 0 <;> by_cases h2 : j = 0 <;> simp [h1, h2]
      refine ⟨b, off, rfl, ?_, fun i s hs => ?_⟩
      · have := hcell 0 hpos 0 (by omega)
        exact World.block_lt_of_cell? _ _ this
      · have hi : i < len := by
          have := (List.getElem?_eq_some_iff.1 hs).1
          rw [hlen] at this; exact this
        have e : f i = s := by simpa [hi] using hs
        subst e
        unfold SvcAt
        exact ⟨hcell i hi 0 (by omega), hcell i hi 1 (by omega), hcell i hi 2 (by omega), hcell i hi 3 (by omega), hcell i hi 4 (by omega), hcell i hi 5 (by omega), hcell i hi 6 (by omega), hcell i hi 7 (by omega), hcell i hi 8 (by omega), hcell i hi 9 (by omega), hcell i hi 10 (by omega), hcell i hi 11 (by omega), hcell i hi 12 (by omega)⟩
    · obtain ⟨i, hi, rfl⟩ := List.mem_map.1 hs
      exact (hf i (List.mem_range.1 hi)).2

set_option maxRecDepth 100000 in
theorem cellsCopy : Tryz.prog.cellsOf 80 = 7 := by kernel_rfl
set_option maxRecDepth 100000 in
theorem open_Cp {n : Nat} {cs : List Value} {x : DataW H × List MemPlace} (h : DataW.trod enc Tryz.prog w base spare held n 80 cs = some x) : ∃ s : Cp, cs = Cp.cells s ∧ s.service.size ≤ maxLen ∧ s.berth.size ≤ maxLen := by
  obtain ⟨xs, m, rfl, _, hlen, hxs, hf⟩ := DataW.trod_struct Tryz.underlying80 h
  rw [cellsCopy] at hlen
  have hx : xs.length = 7 := hxs
  match cs, hlen with
  | [c0, c1, c2, c3, c4, c5, c6], _ =>
    have h0 : DataW.trod enc Tryz.prog w base spare held m 9 (List.take (Tryz.prog.cellsOf 9) (List.drop 0 [c0, c1, c2, c3, c4, c5, c6])) = xs[0]? := hf 0 _ rfl
    rw [List.getElem?_eq_getElem (show 0 < xs.length by omega)] at h0
    simp only [List.drop_zero, List.take_succ_cons, List.take_zero, stringCells] at h0
    obtain ⟨v0, e0, _, z0⟩ := DataW.trod_string Tryz.underlying9 h0
    have h1 : DataW.trod enc Tryz.prog w base spare held m 3 (List.take (Tryz.prog.cellsOf 3) (List.drop 1 [c0, c1, c2, c3, c4, c5, c6])) = xs[1]? := hf 1 _ rfl
    rw [List.getElem?_eq_getElem (show 1 < xs.length by omega)] at h1
    simp only [List.drop_zero, List.drop_succ_cons, List.take_succ_cons, List.take_zero, intCells] at h1
    obtain ⟨v1, e1, _, _⟩ := DataW.trod_int Tryz.underlying3 h1
    have h2 : DataW.trod enc Tryz.prog w base spare held m 3 (List.take (Tryz.prog.cellsOf 3) (List.drop 2 [c0, c1, c2, c3, c4, c5, c6])) = xs[2]? := hf 2 _ rfl
    rw [List.getElem?_eq_getElem (show 2 < xs.length by omega)] at h2
    simp only [List.drop_zero, List.drop_succ_cons, List.take_succ_cons, List.take_zero, intCells] at h2
    obtain ⟨v2, e2, _, _⟩ := DataW.trod_int Tryz.underlying3 h2
    have h3 : DataW.trod enc Tryz.prog w base spare held m 3 (List.take (Tryz.prog.cellsOf 3) (List.drop 3 [c0, c1, c2, c3, c4, c5, c6])) = xs[3]? := hf 3 _ rfl
    rw [List.getElem?_eq_getElem (show 3 < xs.length by omega)] at h3
    simp only [List.drop_zero, List.drop_succ_cons, List.take_succ_cons, List.take_zero, intCells] at h3
    obtain ⟨v3, e3, _, _⟩ := DataW.trod_int Tryz.underlying3 h3
    have h4 : DataW.trod enc Tryz.prog w base spare held m 3 (List.take (Tryz.prog.cellsOf 3) (List.drop 4 [c0, c1, c2, c3, c4, c5, c6])) = xs[4]? := hf 4 _ rfl
    rw [List.getElem?_eq_getElem (show 4 < xs.length by omega)] at h4
    simp only [List.drop_zero, List.drop_succ_cons, List.take_succ_cons, List.take_zero, intCells] at h4
    obtain ⟨v4, e4, _, _⟩ := DataW.trod_int Tryz.underlying3 h4
    have h5 : DataW.trod enc Tryz.prog w base spare held m 4 (List.take (Tryz.prog.cellsOf 4) (List.drop 5 [c0, c1, c2, c3, c4, c5, c6])) = xs[5]? := hf 5 _ rfl
    rw [List.getElem?_eq_getElem (show 5 < xs.length by omega)] at h5
    simp only [List.drop_zero, List.drop_succ_cons, List.take_succ_cons, List.take_zero, boolCells] at h5
    obtain ⟨v5, e5, _⟩ := DataW.trod_bool Tryz.underlying4 h5
    have h6 : DataW.trod enc Tryz.prog w base spare held m 9 (List.take (Tryz.prog.cellsOf 9) (List.drop 6 [c0, c1, c2, c3, c4, c5, c6])) = xs[6]? := hf 6 _ rfl
    rw [List.getElem?_eq_getElem (show 6 < xs.length by omega)] at h6
    simp only [List.drop_zero, List.drop_succ_cons, List.take_succ_cons, List.take_zero, stringCells] at h6
    obtain ⟨v6, e6, _, z6⟩ := DataW.trod_string Tryz.underlying9 h6
    simp only [List.cons.injEq, and_true] at e0 e1 e2 e3 e4 e5 e6
    subst e0 e1 e2 e3 e4 e5 e6
    exact ⟨⟨v0, v1, v2, v3, v4, v5, v6⟩, rfl, ⟨z0, z6⟩⟩

set_option maxRecDepth 100000 in
theorem open_Cps {n : Nat} {v : Value} {x : DataW H × List MemPlace} (h : DataW.trod enc Tryz.prog w 0 spare held n 23 [v] = some x) : ∃ (ao : Option Addr) (l : List Cp) (cap : Nat), v = .slice ao l.length cap ∧ l.length ≤ maxLen ∧ SlC w ao l ∧ ∀ s ∈ l, s.service.size ≤ maxLen ∧ s.berth.size ≤ maxLen := by
  rcases open_slice Tryz.underlying23 h with ⟨hcs, _⟩ | ⟨a, len, cap, m, k, D, Pl, hcs, _, hlc, hcm, hm, _, hx⟩
  · simp only [List.cons.injEq, and_true] at hcs
    exact ⟨none, [], 0, hcs, Nat.zero_le _, fun h => absurd rfl h, fun s hs => by cases hs⟩
  · simp only [List.cons.injEq, and_true] at hcs
    subst hcs
    have hle : len ≤ m := by rw [hm]; split <;> omega
    have hel : ∀ i, i < len → ∃ s : Cp, w.cells? 0 (a.add (i * 7)) 7 = some (Cp.cells s) ∧ s.service.size ≤ maxLen ∧ s.berth.size ≤ maxLen := fun i hi => by
      obtain ⟨cs', h1, h2⟩ := hx i (by omega)
      obtain ⟨s, rfl, hs⟩ := open_Cp h2
      rw [cellsCopy] at h1
      exact ⟨s, h1, hs⟩
    obtain ⟨f, hf⟩ : ∃ f : Nat → Cp, ∀ i, i < len → w.cells? 0 (a.add (i * 7)) 7 = some (Cp.cells (f i)) ∧ (f i).service.size ≤ maxLen ∧ (f i).berth.size ≤ maxLen := by
      haveI : Inhabited Cp := ⟨⟨⟨#[]⟩, 0, 0, 0, 0, false, ⟨#[]⟩⟩⟩
      exact choose_lt hel
    have hlen : ((List.range len).map f).length = len := by simp
    refine ⟨some a, (List.range len).map f, cap, by rw [hlen], by rw [hlen]; omega, fun hne => ?_, fun s hs => ?_⟩
    · have hpos : 0 < len := by
        rcases Nat.eq_zero_or_pos len with h0 | h0
        · subst h0; exact absurd rfl hne
        · exact h0
      obtain ⟨b, off, sp⟩ := a
      have hc0 := (World.cells?_some (hf 0 hpos).1).2.2 0 (by omega)
      have hsp : sp = none := by
        have e : ((⟨b, off, sp⟩ : Addr).add (0 * 7)).add 0 = ⟨b, off, sp⟩ := by simp [Addr.add]
        rw [e] at hc0
        exact World.cell?_spot hc0
      subst hsp
      have hcell : ∀ i, i < len → ∀ j, j < 7 → w.cell? ⟨b, off + i * 7 + j, none⟩ = (Cp.cells (f i))[j]? := fun i hi j hj => by
        have := (World.cells?_some (hf i hi).1).2.2 j hj
        rw [← this]
        congr 1
        unfold Addr.add
        by_cases h1 : i * 7 = 0 <;> by_cases h2 : j = 0 <;> simp [h1, h2]
      refine ⟨b, off, rfl, ?_, fun i s hs => ?_⟩
      · have := hcell 0 hpos 0 (by omega)
        exact World.block_lt_of_cell? _ _ this
      · have hi : i < len := by
          have := (List.getElem?_eq_some_iff.1 hs).1
          rw [hlen] at this; exact this
        have e : f i = s := by simpa [hi] using hs
        subst e
        unfold CpAt
        exact ⟨hcell i hi 0 (by omega), hcell i hi 1 (by omega), hcell i hi 2 (by omega), hcell i hi 3 (by omega), hcell i hi 4 (by omega), hcell i hi 5 (by omega), hcell i hi 6 (by omega)⟩
    · obtain ⟨i, hi, rfl⟩ := List.mem_map.1 hs
      exact (hf i (List.mem_range.1 hi)).2

set_option maxRecDepth 100000 in
theorem cellsBerth : Tryz.prog.cellsOf 83 = 2 := by kernel_rfl
set_option maxRecDepth 100000 in
theorem open_Bt {n : Nat} {cs : List Value} {x : DataW H × List MemPlace} (h : DataW.trod enc Tryz.prog w base spare held n 83 cs = some x) : ∃ s : Bt, cs = Bt.cells s ∧ s.name.size ≤ maxLen := by
  obtain ⟨xs, m, rfl, _, hlen, hxs, hf⟩ := DataW.trod_struct Tryz.underlying83 h
  rw [cellsBerth] at hlen
  have hx : xs.length = 2 := hxs
  match cs, hlen with
  | [c0, c1], _ =>
    have h0 : DataW.trod enc Tryz.prog w base spare held m 9 (List.take (Tryz.prog.cellsOf 9) (List.drop 0 [c0, c1])) = xs[0]? := hf 0 _ rfl
    rw [List.getElem?_eq_getElem (show 0 < xs.length by omega)] at h0
    simp only [List.drop_zero, List.take_succ_cons, List.take_zero, stringCells] at h0
    obtain ⟨v0, e0, _, z0⟩ := DataW.trod_string Tryz.underlying9 h0
    have h1 : DataW.trod enc Tryz.prog w base spare held m 4 (List.take (Tryz.prog.cellsOf 4) (List.drop 1 [c0, c1])) = xs[1]? := hf 1 _ rfl
    rw [List.getElem?_eq_getElem (show 1 < xs.length by omega)] at h1
    simp only [List.drop_zero, List.drop_succ_cons, List.take_succ_cons, List.take_zero, boolCells] at h1
    obtain ⟨v1, e1, _⟩ := DataW.trod_bool Tryz.underlying4 h1
    simp only [List.cons.injEq, and_true] at e0 e1
    subst e0 e1
    exact ⟨⟨v0, v1⟩, rfl, z0⟩

set_option maxRecDepth 100000 in
theorem open_Bts {n : Nat} {v : Value} {x : DataW H × List MemPlace} (h : DataW.trod enc Tryz.prog w 0 spare held n 24 [v] = some x) : ∃ (ao : Option Addr) (l : List Bt) (cap : Nat), v = .slice ao l.length cap ∧ l.length ≤ maxLen ∧ SlB w ao l ∧ ∀ s ∈ l, s.name.size ≤ maxLen := by
  rcases open_slice Tryz.underlying24 h with ⟨hcs, _⟩ | ⟨a, len, cap, m, k, D, Pl, hcs, _, hlc, hcm, hm, _, hx⟩
  · simp only [List.cons.injEq, and_true] at hcs
    exact ⟨none, [], 0, hcs, Nat.zero_le _, fun h => absurd rfl h, fun s hs => by cases hs⟩
  · simp only [List.cons.injEq, and_true] at hcs
    subst hcs
    have hle : len ≤ m := by rw [hm]; split <;> omega
    have hel : ∀ i, i < len → ∃ s : Bt, w.cells? 0 (a.add (i * 2)) 2 = some (Bt.cells s) ∧ s.name.size ≤ maxLen := fun i hi => by
      obtain ⟨cs', h1, h2⟩ := hx i (by omega)
      obtain ⟨s, rfl, hs⟩ := open_Bt h2
      rw [cellsBerth] at h1
      exact ⟨s, h1, hs⟩
    obtain ⟨f, hf⟩ : ∃ f : Nat → Bt, ∀ i, i < len → w.cells? 0 (a.add (i * 2)) 2 = some (Bt.cells (f i)) ∧ (f i).name.size ≤ maxLen := by
      haveI : Inhabited Bt := ⟨⟨⟨#[]⟩, false⟩⟩
      exact choose_lt hel
    have hlen : ((List.range len).map f).length = len := by simp
    refine ⟨some a, (List.range len).map f, cap, by rw [hlen], by rw [hlen]; omega, fun hne => ?_, fun s hs => ?_⟩
    · have hpos : 0 < len := by
        rcases Nat.eq_zero_or_pos len with h0 | h0
        · subst h0; exact absurd rfl hne
        · exact h0
      obtain ⟨b, off, sp⟩ := a
      have hc0 := (World.cells?_some (hf 0 hpos).1).2.2 0 (by omega)
      have hsp : sp = none := by
        have e : ((⟨b, off, sp⟩ : Addr).add (0 * 2)).add 0 = ⟨b, off, sp⟩ := by simp [Addr.add]
        rw [e] at hc0
        exact World.cell?_spot hc0
      subst hsp
      have hcell : ∀ i, i < len → ∀ j, j < 2 → w.cell? ⟨b, off + i * 2 + j, none⟩ = (Bt.cells (f i))[j]? := fun i hi j hj => by
        have := (World.cells?_some (hf i hi).1).2.2 j hj
        rw [← this]
        congr 1
        unfold Addr.add
        by_cases h1 : i * 2 = 0 <;> by_cases h2 : j = 0 <;> simp [h1, h2]
      refine ⟨b, off, rfl, ?_, fun i s hs => ?_⟩
      · have := hcell 0 hpos 0 (by omega)
        exact World.block_lt_of_cell? _ _ this
      · have hi : i < len := by
          have := (List.getElem?_eq_some_iff.1 hs).1
          rw [hlen] at this; exact this
        have e : f i = s := by simpa [hi] using hs
        subst e
        unfold BtAt
        exact ⟨hcell i hi 0 (by omega), hcell i hi 1 (by omega)⟩
    · obtain ⟨i, hi, rfl⟩ := List.mem_map.1 hs
      exact (hf i (List.mem_range.1 hi)).2

set_option maxRecDepth 100000 in
theorem bookCells : Tryz.prog.cellsOf 26 = 4 := by kernel_rfl
set_option maxRecDepth 100000 in
theorem open_Book {r : Reach} {b0 : Nat} {v : Value} {d : DataW H} {p : List MemPlace} (hv : Value.okWide Tryz.prog w r b0 26 v) (h : DataW.Trod enc Tryz.prog w 0 spare held 26 v d p) :
    ∃ (B : Bk) (a1 a2 a3 : Option Addr) (c1 c2 c3 : Nat), v = .agg #[.int .i64 B.now, .slice a1 B.svcs.length c1, .slice a2 B.cps.length c2, .slice a3 B.bts.length c3] ∧ BkAt w a1 a2 a3 B ∧ B.sized := by
  obtain ⟨v0, v1, v2, v3, y0, y1, y2, y3, n, rfl, _, _, h0, h1, h2, h3⟩ := Go.Joins.open_agg4 Tryz.underlying26 (by kernel_rfl) bookCells hv h
  obtain ⟨now, e0, _, _⟩ := DataW.trod_int Tryz.underlying3 h0
  simp only [List.cons.injEq, and_true] at e0
  subst e0
  obtain ⟨a1, l1, c1, rfl, m1, s1, z1⟩ := open_Svcs h1
  obtain ⟨a2, l2, c2, rfl, m2, s2, z2⟩ := open_Cps h2
  obtain ⟨a3, l3, c3, rfl, m3, s3, z3⟩ := open_Bts h3
  exact ⟨⟨now, l1, l2, l3⟩, a1, a2, a3, c1, c2, c3, rfl, ⟨s1, s2, s3⟩, m1, m2, m3, z1, z2, z3⟩

end

end Go.Proofs.YtbceafpodamnfabGreat
