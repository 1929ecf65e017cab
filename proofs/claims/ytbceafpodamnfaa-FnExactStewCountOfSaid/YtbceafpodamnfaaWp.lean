/-
  My own. The program's check of the berths.
-/
import Derived.Test.YtbceafpodamnfaaWn
namespace Go.Proofs.Ytbceafpodamnfaa
open Go.RowKit Go.Sort

set_option maxHeartbeats 8000000 in
theorem berthsHold_any (B : Bk) (a1 a2 a3 : Option Addr) (c1 c2 c3 : Nat) (w : World) (hS : B.small) (hZ : B.sized) (hB : BkAt w a1 a2 a3 B) :
    Calls Try.prog 44 #[.agg #[.int .i64 B.now, .slice a1 B.svcs.length c1, .slice a2 B.cps.length c2, .slice a3 B.bts.length c3]] w fun e w' => e = .returned (.bool (allTo (btAtB B) B.bts.length)) ∧ Below w.heap.size w w' := by
  obtain ⟨hl1, hl2, hl3⟩ := hS
  have T0 : Hid _ := heap_alloc_new w (.cells #[.int .i64 B.now, .slice a1 B.svcs.length c1, .slice a2 B.cps.length c2, .slice a3 B.bts.length c3] 27)
  go_enter Try.func44, Try.ntmps44
  go_wp2
  go_loopw [8] (fun iv wr => ∃ k : Nat, k ≤ B.bts.length ∧ iv = .int .i64 k ∧ Below w.heap.size w wr ∧ Hid (wr.heap[w.heap.size]? = some (.cells #[.int .i64 B.now, .slice a1 B.svcs.length c1, .slice a2 B.cps.length c2, .slice a3 B.bts.length c3] 27 (0, 0))) ∧ Hid (∀ i, i < k → btAtB B i = true)) (fun i _ => B.bts.length - (intOf i).toNat)
  case atStart => exact ⟨0, by omega, rfl, below_box _ _, T0, fun i hi => absurd hi (by omega)⟩
  case round =>
    obtain ⟨k, hk, rfl, hb, hbox, hall⟩ := hrel
    have hNlt : w.heap.size < wr.heap.size := (Array.getElem?_eq_some_iff.1 hbox.out).1
    by_cases hlt : k < B.bts.length
    · have hne : B.bts ≠ [] := by intro h; rw [h] at hlt; simp at hlt
      obtain ⟨b, off, ea, hbs, hat⟩ := hB.2.2 hne
      subst ea
      obtain ⟨s, hsk⟩ : ∃ s, B.bts[k]? = some s := ⟨B.bts[k], by simp [hlt]⟩
      have hmem := hZ.2.2.2.2.2 s (List.mem_of_getElem? hsk)
      have HSK : Hid _ := hsk
      have hcs := (hat k s hsk).below hb hbs
      unfold BtAt at hcs
      obtain ⟨x0, x1⟩ := hcs
      have hbr : Below w.heap.size w (wr.alloc (.cells #[.string s.name, .bool s.drain] 74)) := hb.alloc hb.size _
      have HSZ : Hid ((wr.alloc (.cells #[.string s.name, .bool s.drain] 74)).heap.size = wr.heap.size + 1) := by show (wr.heap.push _).size = _; simp
      have HBX : Hid _ := heap_alloc_new wr (.cells #[.string s.name, .bool s.drain] 74)
      have hw1 := below_box wr (.cells #[.string s.name, .bool s.drain] 74)
      have hboxr : Hid _ := below_blk hw1 hbox.out (by omega)
      clear hsk
      by_cases hk0 : k = 0
      · have HK0 : Hid (k = 0) := hk0
        have hz : decide (0 < k) = false := by simp; omega
        clear hk0 hat hne
        go_wp2
        clear x0 x1
        refine wp_region_quiet_below (by kernel_rfl) (by kernel_rfl) ?_
        repeat (first | go_big_quiet_step (fail) | quiet_step (fail))
        refine wpQuiet_nil ?_
        intro w2 hw'
        obtain ⟨⟨dq, osq⟩, hw''⟩ := hw'
        have hb2 : Below (wr.alloc (.cells #[.string s.name, .bool s.drain] 74)).heap.size (wr.alloc (.cells #[.string s.name, .bool s.drain] 74)) w2 := by rw [hw'']; exact below_regrown _ _ _
        clear hw''
        have hbr2 := hbr.trans (hb2.mono hbr.size)
        have bxr : Hid _ := below_blk hb2 HBX.out (by rw [HSZ.out]; omega)
        have box2 : Hid _ := below_blk hb2 hboxr.out (by rw [HSZ.out]; omega)
        have hz2 : wr.heap.size < w2.heap.size := by have := hb2.size; rw [HSZ.out] at this; omega
        have r0 := blk_cell bxr.out 0 rfl
        cases hver : nameB s.name
        · have HNO : Hid (btAtB B k = false) := by unfold Hid btAtB; rw [HSK.out]; simp [hver]
          go_wp2_with (go_at_call 69; refine (isName_any _ _ hmem).mono ?_; rintro e w' ⟨rfl, rfl⟩)
          go_ret
          exact ⟨ret_bool (allTo_no hlt HNO.out).symm, hbr2⟩
        have HYES : Hid (btAtB B k = true) := by unfold Hid btAtB; rw [HSK.out]; simp [hver, HK0.out]
        go_wp2_with (go_at_call 69; refine (isName_any _ _ hmem).mono ?_; rintro e w' ⟨rfl, rfl⟩)
        go_roundw
        case rel => exact ⟨k + 1, by omega, by go_num, hbr2, box2, upTo_step hall.out HYES.out⟩
        case measure => simp [intOf]; omega
      obtain ⟨k', rfl⟩ : ∃ k', k = k' + 1 := ⟨k - 1, by omega⟩
      clear hk0
      obtain ⟨p, hpk⟩ : ∃ p, B.bts[k']? = some p := ⟨B.bts[k']'(by omega), by rw [List.getElem?_eq_getElem]⟩
      have HPK : Hid _ := hpk
      obtain ⟨y0, y1⟩ := ((hat k' p hpk).below (hb.trans (hw1.mono hb.size)) hbs).grown
      have gx0 := gcell HBX.out 0 rfl
      have gb3 := gcell hboxr.out 3 rfl
      have HTRI := bytesLess_tri s.name.toList p.name.toList
      have HT : Hid _ := HTRI
      clear HTRI hpk hat hne
      cases hle : Op.bytesLess p.name.toList s.name.toList
      · have HNO : Hid (btAtB B (k' + 1) = false) := by unfold Hid btAtB; rw [HSK.out]; simp [HPK.out, hle]
        have hle2 : (Op.bytesLess s.name.toList p.name.toList || s.name.toList == p.name.toList) = true := by rw [HT.out, hle]; rfl
        clear hle
        go_wp2
        clear x0 x1
        refine wp_region_quiet_below (by kernel_rfl) (by kernel_rfl) ?_
        repeat (first | go_big_quiet_step (fail) | quiet_step (fail))
        refine wpQuiet_nil ?_
        intro w2 hw'
        obtain ⟨⟨dq, osq⟩, hw''⟩ := hw'
        have hb2 : Below (wr.alloc (.cells #[.string s.name, .bool s.drain] 74)).heap.size (wr.alloc (.cells #[.string s.name, .bool s.drain] 74)) w2 := by rw [hw'']; exact below_regrown _ _ _
        clear hw''
        go_wp2
        go_ret
        exact ⟨ret_bool (allTo_no hlt HNO.out).symm, hbr.trans (hb2.mono hbr.size)⟩
      · have hle2 : (Op.bytesLess s.name.toList p.name.toList || s.name.toList == p.name.toList) = false := by rw [HT.out, hle]; rfl
        have HLE : Hid _ := hle
        clear hle
        go_wp2
        clear x0 x1
        refine wp_region_quiet_below (by kernel_rfl) (by kernel_rfl) ?_
        repeat (first | go_big_quiet_step (fail) | quiet_step (fail))
        refine wpQuiet_nil ?_
        intro w2 hw'
        obtain ⟨⟨dq, osq⟩, hw''⟩ := hw'
        have hb2 : Below (wr.alloc (.cells #[.string s.name, .bool s.drain] 74)).heap.size (wr.alloc (.cells #[.string s.name, .bool s.drain] 74)) w2 := by rw [hw'']; exact below_regrown _ _ _
        clear hw''
        clear gx0 gb3 hle2 y0 y1
        have hbr2 := hbr.trans (hb2.mono hbr.size)
        have bxr : Hid _ := below_blk hb2 HBX.out (by rw [HSZ.out]; omega)
        have box2 : Hid _ := below_blk hb2 hboxr.out (by rw [HSZ.out]; omega)
        have hz2 : wr.heap.size < w2.heap.size := by have := hb2.size; rw [HSZ.out] at this; omega
        have r0 := blk_cell bxr.out 0 rfl
        cases hver : nameB s.name
        · have HNO : Hid (btAtB B (k' + 1) = false) := by unfold Hid btAtB; rw [HSK.out]; simp [hver]
          go_wp2_with (go_at_call 69; refine (isName_any _ _ hmem).mono ?_; rintro e w' ⟨rfl, rfl⟩)
          go_ret
          exact ⟨ret_bool (allTo_no hlt HNO.out).symm, hbr2⟩
        have HYES : Hid (btAtB B (k' + 1) = true) := by unfold Hid btAtB; rw [HSK.out]; simp [hver, HPK.out, HLE.out]
        go_wp2_with (go_at_call 69; refine (isName_any _ _ hmem).mono ?_; rintro e w' ⟨rfl, rfl⟩)
        go_roundw
        case rel => exact ⟨(k' + 1) + 1, by omega, by go_num, hbr2, box2, upTo_step hall.out HYES.out⟩
        case measure => simp [intOf]; omega
    · go_wp2
      go_ret
      exact ⟨ret_bool (allTo_yes fun i hi => hall.out i (by omega)).symm, hb⟩

end Go.Proofs.Ytbceafpodamnfaa
