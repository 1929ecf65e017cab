/-
  My own. The program's check of the services.
-/
import Derived.Test.YtbceafpodamnfaaWn
namespace Go.Proofs.Ytbceafpodamnfaa
open Go.RowKit Go.Sort

set_option maxHeartbeats 8000000 in
theorem servicesHold_any (B : Bk) (a1 a2 a3 : Option Addr) (c1 c2 c3 : Nat) (w : World) (hS : B.small) (hZ : B.sized) (hB : BkAt w a1 a2 a3 B) :
    Calls Try.prog 43 #[.agg #[.int .i64 B.now, .slice a1 B.svcs.length c1, .slice a2 B.cps.length c2, .slice a3 B.bts.length c3]] w fun e w' => e = .returned (.bool (allTo (svcAtB B) B.svcs.length)) ∧ Below w.heap.size w w' := by
  obtain ⟨hl1, hl2, hl3⟩ := hS
  obtain ⟨t0, t1, t2⟩ := two_new w (.cells #[.int .i64 B.now, .slice a1 B.svcs.length c1, .slice a2 B.cps.length c2, .slice a3 B.bts.length c3] 27) (.cells #[.func (.func 63) #[] #[], .func (.func 64) #[] #[], .func (.func 65) #[] #[], .func (.func 66) #[] #[], .func (.func 67) #[] #[]] 110)
  have T0 : Hid _ := t0
  have T1 : Hid _ := t1
  clear t0 t1 t2
  go_enter Try.func43, Try.ntmps43
  go_wp2
  go_loopw [10] (fun iv wr => ∃ k : Nat, k ≤ B.svcs.length ∧ iv = .int .i64 k ∧ Below w.heap.size w wr ∧ Hid (wr.heap[w.heap.size]? = some (.cells #[.int .i64 B.now, .slice a1 B.svcs.length c1, .slice a2 B.cps.length c2, .slice a3 B.bts.length c3] 27 (0, 0))) ∧ Hid (FnsS wr (w.heap.size + 1)) ∧ Hid (∀ i, i < k → svcAtB B i = true)) (fun i _ => B.svcs.length - (intOf i).toNat)
  case atStart => exact ⟨0, by omega, rfl, ((Below.refl _ _).alloc (Nat.le_refl _) _).alloc (by simp) _, T0, T1, fun i hi => absurd hi (by omega)⟩
  case round =>
    obtain ⟨k, hk, rfl, hb, hbox, hfn, hall⟩ := hrel
    have hNlt : w.heap.size + 1 < wr.heap.size := (Array.getElem?_eq_some_iff.1 hfn.out).1
    have hNlt0 : w.heap.size < wr.heap.size := by omega
    by_cases hlt : k < B.svcs.length
    · have hne : B.svcs ≠ [] := by intro h; rw [h] at hlt; simp at hlt
      obtain ⟨b, off, ea, hbs, hat⟩ := hB.1 hne
      subst ea
      obtain ⟨s, hsk⟩ : ∃ s, B.svcs[k]? = some s := ⟨B.svcs[k], by simp [hlt]⟩
      have hmem := hZ.2.2.2.1 s (List.mem_of_getElem? hsk)
      have HSK : Hid _ := hsk
      have hcs := (hat k s hsk).below hb hbs
      unfold SvcAt at hcs
      obtain ⟨x0, x1, x2, x3, x4, x5, x6, x7, x8, x9, x10, x11, x12⟩ := hcs
      have hbr : Below w.heap.size w (wr.alloc (.cells #[.string s.name, .int .i64 s.version, .bool s.gone, .int .i64 s.image, .int .i64 s.want, .int .i64 s.down, .int .i64 s.over, .int .i64 s.next, .int .i64 s.per, .int .i64 s.least, .int .i64 s.most, .int .i64 s.load, .int .i64 s.cool] 63)) := hb.alloc hb.size _
      have HSZ : Hid ((wr.alloc (.cells #[.string s.name, .int .i64 s.version, .bool s.gone, .int .i64 s.image, .int .i64 s.want, .int .i64 s.down, .int .i64 s.over, .int .i64 s.next, .int .i64 s.per, .int .i64 s.least, .int .i64 s.most, .int .i64 s.load, .int .i64 s.cool] 63)).heap.size = wr.heap.size + 1) := by show (wr.heap.push _).size = _; simp
      have HBX : Hid _ := heap_alloc_new wr (.cells #[.string s.name, .int .i64 s.version, .bool s.gone, .int .i64 s.image, .int .i64 s.want, .int .i64 s.down, .int .i64 s.over, .int .i64 s.next, .int .i64 s.per, .int .i64 s.least, .int .i64 s.most, .int .i64 s.load, .int .i64 s.cool] 63)
      have hw1 := below_box wr (.cells #[.string s.name, .int .i64 s.version, .bool s.gone, .int .i64 s.image, .int .i64 s.want, .int .i64 s.down, .int .i64 s.over, .int .i64 s.next, .int .i64 s.per, .int .i64 s.least, .int .i64 s.most, .int .i64 s.load, .int .i64 s.cool] 63)
      have hboxr : Hid _ := below_blk hw1 hbox.out (by omega)
      have hfnr : Hid (FnsS (wr.alloc (.cells #[.string s.name, .int .i64 s.version, .bool s.gone, .int .i64 s.image, .int .i64 s.want, .int .i64 s.down, .int .i64 s.over, .int .i64 s.next, .int .i64 s.per, .int .i64 s.least, .int .i64 s.most, .int .i64 s.load, .int .i64 s.cool] 63)) (w.heap.size + 1)) := below_blk hw1 hfn.out hNlt
      clear hsk
      by_cases hk0 : k = 0
      · have HK0 : Hid (k = 0) := hk0
        have hz : decide (0 < k) = false := by simp; omega
        clear hk0 hat hne
        go_wp2
        clear x0 x1 x2 x3 x4 x5 x6 x7 x8 x9 x10 x11 x12
        refine wp_region_quiet_below (by kernel_rfl) (by kernel_rfl) ?_
        repeat (first | go_big_quiet_step (fail) | quiet_step (fail))
        refine wpQuiet_nil ?_
        intro w2 hw'
        obtain ⟨⟨dq, osq⟩, hw''⟩ := hw'
        have hb2 : Below (wr.alloc (.cells #[.string s.name, .int .i64 s.version, .bool s.gone, .int .i64 s.image, .int .i64 s.want, .int .i64 s.down, .int .i64 s.over, .int .i64 s.next, .int .i64 s.per, .int .i64 s.least, .int .i64 s.most, .int .i64 s.load, .int .i64 s.cool] 63)).heap.size (wr.alloc (.cells #[.string s.name, .int .i64 s.version, .bool s.gone, .int .i64 s.image, .int .i64 s.want, .int .i64 s.down, .int .i64 s.over, .int .i64 s.next, .int .i64 s.per, .int .i64 s.least, .int .i64 s.most, .int .i64 s.load, .int .i64 s.cool] 63)) w2 := by rw [hw'']; exact below_regrown _ _ _
        clear hw''
        have hbr2 := hbr.trans (hb2.mono hbr.size)
        have bxr : Hid _ := below_blk hb2 HBX.out (by rw [HSZ.out]; omega)
        have box2 : Hid _ := below_blk hb2 hboxr.out (by rw [HSZ.out]; omega)
        have fns2 : Hid (FnsS w2 (w.heap.size + 1)) := below_blk hb2 hfnr.out (by rw [HSZ.out]; omega)
        have hz2 : wr.heap.size < w2.heap.size := by have := hb2.size; rw [HSZ.out] at this; omega
        have r0 := blk_cell bxr.out 0 rfl
        have r1 := blk_cell bxr.out 1 rfl
        have r2 := blk_cell bxr.out 2 rfl
        have r3 := blk_cell bxr.out 3 rfl
        have r4 := blk_cell bxr.out 4 rfl
        have r5 := blk_cell bxr.out 5 rfl
        have r6 := blk_cell bxr.out 6 rfl
        have r7 := blk_cell bxr.out 7 rfl
        have r8 := blk_cell bxr.out 8 rfl
        have r9 := blk_cell bxr.out 9 rfl
        have r10 := blk_cell bxr.out 10 rfl
        have r11 := blk_cell bxr.out 11 rfl
        have r12 := blk_cell bxr.out 12 rfl
        have q0 := blk_cell box2.out 0 rfl
        cases hver : inB s.version 1 B.now
        · have HNO : Hid (svcAtB B k = false) := by unfold Hid svcAtB; rw [HSK.out]; simp [svcB_split, hver]
          go_wp2_with (go_at_call 62; refine (within_any _ _ _ _).mono ?_; rintro e w' ⟨rfl, rfl⟩)
          go_ret
          exact ⟨ret_bool (allTo_no hlt HNO.out).symm, hbr2⟩
        cases hal : allTo (svcP s) 5
        · have HNO : Hid (svcAtB B k = false) := by unfold Hid svcAtB; rw [HSK.out]; simp [svcB_split, hver, ← svcP_all, hal]
          go_wp2_with (first | (go_at_call 62; refine (within_any _ _ _ _).mono ?_; rintro e w' ⟨rfl, rfl⟩) | (go_at_call 68; refine (allHoldS_any s (w.heap.size + 1) _ hmem fns2.out).mono ?_; rintro e w3 ⟨rfl, hb3⟩))
          go_ret
          exact ⟨ret_bool (allTo_no hlt HNO.out).symm, hbr2.trans (hb3.mono hbr2.size)⟩
        have HYES : Hid (svcAtB B k = true) := by unfold Hid svcAtB; rw [HSK.out]; simp [svcB_split, hver, ← svcP_all, hal, HK0.out]
        go_wp2_with (first | (go_at_call 62; refine (within_any _ _ _ _).mono ?_; rintro e w' ⟨rfl, rfl⟩) | (go_at_call 68; refine (allHoldS_any s (w.heap.size + 1) _ hmem fns2.out).mono ?_; rintro e w3 ⟨rfl, hb3⟩))
        have hb4 := hbr2.trans (hb3.mono hbr2.size)
        have box3 : Hid _ := below_blk hb3 box2.out (by omega)
        have fns3 : Hid (FnsS w3 (w.heap.size + 1)) := below_blk hb3 fns2.out (by omega)
        go_roundw
        case rel => exact ⟨k + 1, by omega, by go_num, hb4, box3, fns3, upTo_step hall.out HYES.out⟩
        case measure => simp [intOf]; omega
      obtain ⟨k', rfl⟩ : ∃ k', k = k' + 1 := ⟨k - 1, by omega⟩
      clear hk0
      obtain ⟨p, hpk⟩ : ∃ p, B.svcs[k']? = some p := ⟨B.svcs[k']'(by omega), by rw [List.getElem?_eq_getElem]⟩
      have HPK : Hid _ := hpk
      obtain ⟨y0, y1, y2, y3, y4, y5, y6, y7, y8, y9, y10, y11, y12⟩ := ((hat k' p hpk).below (hb.trans (hw1.mono hb.size)) hbs).grown
      have gx0 := gcell HBX.out 0 rfl
      have gb1 := gcell hboxr.out 1 rfl
      have HTRI := bytesLess_tri s.name.toList p.name.toList
      have HT : Hid _ := HTRI
      clear HTRI hpk hat hne
      cases hle : Op.bytesLess p.name.toList s.name.toList
      · have HNO : Hid (svcAtB B (k' + 1) = false) := by unfold Hid svcAtB; rw [HSK.out]; simp [HPK.out, hle]
        have hle2 : (Op.bytesLess s.name.toList p.name.toList || s.name.toList == p.name.toList) = true := by rw [HT.out, hle]; rfl
        clear hle
        go_wp2
        clear x0 x1 x2 x3 x4 x5 x6 x7 x8 x9 x10 x11 x12
        refine wp_region_quiet_below (by kernel_rfl) (by kernel_rfl) ?_
        repeat (first | go_big_quiet_step (fail) | quiet_step (fail))
        refine wpQuiet_nil ?_
        intro w2 hw'
        obtain ⟨⟨dq, osq⟩, hw''⟩ := hw'
        have hb2 : Below (wr.alloc (.cells #[.string s.name, .int .i64 s.version, .bool s.gone, .int .i64 s.image, .int .i64 s.want, .int .i64 s.down, .int .i64 s.over, .int .i64 s.next, .int .i64 s.per, .int .i64 s.least, .int .i64 s.most, .int .i64 s.load, .int .i64 s.cool] 63)).heap.size (wr.alloc (.cells #[.string s.name, .int .i64 s.version, .bool s.gone, .int .i64 s.image, .int .i64 s.want, .int .i64 s.down, .int .i64 s.over, .int .i64 s.next, .int .i64 s.per, .int .i64 s.least, .int .i64 s.most, .int .i64 s.load, .int .i64 s.cool] 63)) w2 := by rw [hw'']; exact below_regrown _ _ _
        clear hw''
        go_wp2
        go_ret
        exact ⟨ret_bool (allTo_no hlt HNO.out).symm, hbr.trans (hb2.mono hbr.size)⟩
      · have hle2 : (Op.bytesLess s.name.toList p.name.toList || s.name.toList == p.name.toList) = false := by rw [HT.out, hle]; rfl
        have HLE : Hid _ := hle
        clear hle
        go_wp2
        clear x0 x1 x2 x3 x4 x5 x6 x7 x8 x9 x10 x11 x12
        refine wp_region_quiet_below (by kernel_rfl) (by kernel_rfl) ?_
        repeat (first | go_big_quiet_step (fail) | quiet_step (fail))
        refine wpQuiet_nil ?_
        intro w2 hw'
        obtain ⟨⟨dq, osq⟩, hw''⟩ := hw'
        have hb2 : Below (wr.alloc (.cells #[.string s.name, .int .i64 s.version, .bool s.gone, .int .i64 s.image, .int .i64 s.want, .int .i64 s.down, .int .i64 s.over, .int .i64 s.next, .int .i64 s.per, .int .i64 s.least, .int .i64 s.most, .int .i64 s.load, .int .i64 s.cool] 63)).heap.size (wr.alloc (.cells #[.string s.name, .int .i64 s.version, .bool s.gone, .int .i64 s.image, .int .i64 s.want, .int .i64 s.down, .int .i64 s.over, .int .i64 s.next, .int .i64 s.per, .int .i64 s.least, .int .i64 s.most, .int .i64 s.load, .int .i64 s.cool] 63)) w2 := by rw [hw'']; exact below_regrown _ _ _
        clear hw''
        clear gx0 gb1 hle2 y0 y1 y2 y3 y4 y5 y6 y7 y8 y9 y10 y11 y12
        have hbr2 := hbr.trans (hb2.mono hbr.size)
        have bxr : Hid _ := below_blk hb2 HBX.out (by rw [HSZ.out]; omega)
        have box2 : Hid _ := below_blk hb2 hboxr.out (by rw [HSZ.out]; omega)
        have fns2 : Hid (FnsS w2 (w.heap.size + 1)) := below_blk hb2 hfnr.out (by rw [HSZ.out]; omega)
        have hz2 : wr.heap.size < w2.heap.size := by have := hb2.size; rw [HSZ.out] at this; omega
        have r0 := blk_cell bxr.out 0 rfl
        have r1 := blk_cell bxr.out 1 rfl
        have r2 := blk_cell bxr.out 2 rfl
        have r3 := blk_cell bxr.out 3 rfl
        have r4 := blk_cell bxr.out 4 rfl
        have r5 := blk_cell bxr.out 5 rfl
        have r6 := blk_cell bxr.out 6 rfl
        have r7 := blk_cell bxr.out 7 rfl
        have r8 := blk_cell bxr.out 8 rfl
        have r9 := blk_cell bxr.out 9 rfl
        have r10 := blk_cell bxr.out 10 rfl
        have r11 := blk_cell bxr.out 11 rfl
        have r12 := blk_cell bxr.out 12 rfl
        have q0 := blk_cell box2.out 0 rfl
        cases hver : inB s.version 1 B.now
        · have HNO : Hid (svcAtB B (k' + 1) = false) := by unfold Hid svcAtB; rw [HSK.out]; simp [svcB_split, hver]
          go_wp2_with (go_at_call 62; refine (within_any _ _ _ _).mono ?_; rintro e w' ⟨rfl, rfl⟩)
          go_ret
          exact ⟨ret_bool (allTo_no hlt HNO.out).symm, hbr2⟩
        cases hal : allTo (svcP s) 5
        · have HNO : Hid (svcAtB B (k' + 1) = false) := by unfold Hid svcAtB; rw [HSK.out]; simp [svcB_split, hver, ← svcP_all, hal]
          go_wp2_with (first | (go_at_call 62; refine (within_any _ _ _ _).mono ?_; rintro e w' ⟨rfl, rfl⟩) | (go_at_call 68; refine (allHoldS_any s (w.heap.size + 1) _ hmem fns2.out).mono ?_; rintro e w3 ⟨rfl, hb3⟩))
          go_ret
          exact ⟨ret_bool (allTo_no hlt HNO.out).symm, hbr2.trans (hb3.mono hbr2.size)⟩
        have HYES : Hid (svcAtB B (k' + 1) = true) := by unfold Hid svcAtB; rw [HSK.out]; simp [svcB_split, hver, ← svcP_all, hal, HPK.out, HLE.out]
        go_wp2_with (first | (go_at_call 62; refine (within_any _ _ _ _).mono ?_; rintro e w' ⟨rfl, rfl⟩) | (go_at_call 68; refine (allHoldS_any s (w.heap.size + 1) _ hmem fns2.out).mono ?_; rintro e w3 ⟨rfl, hb3⟩))
        have hb4 := hbr2.trans (hb3.mono hbr2.size)
        have box3 : Hid _ := below_blk hb3 box2.out (by omega)
        have fns3 : Hid (FnsS w3 (w.heap.size + 1)) := below_blk hb3 fns2.out (by omega)
        go_roundw
        case rel => exact ⟨(k' + 1) + 1, by omega, by go_num, hb4, box3, fns3, upTo_step hall.out HYES.out⟩
        case measure => simp [intOf]; omega
    · go_wp2
      go_ret
      exact ⟨ret_bool (allTo_yes fun i hi => hall.out i (by omega)).symm, hb⟩

end Go.Proofs.Ytbceafpodamnfaa
