/-
  My own: Wl, De, Wm, Wn, Wo.
-/
import Derived.Test.YtbceafpodamnfabGreatA01
import Derived.Laws.EntriesVeiled
/-
  My own. The specification's StewValid.
-/
namespace Go.Proofs.YtbceafpodamnfabGreat
open Go.RowKit Go.Sort

set_option maxHeartbeats 1000000 in
theorem l1Ahead_any (a b : Cp) (w : World) :
    Calls Tryz.prog 54 #[.agg #[.string a.service, .int .i64 a.number, .int .i64 a.version, .int .i64 a.image, .int .i64 a.state, .bool a.ending, .string a.berth], .agg #[.string b.service, .int .i64 b.number, .int .i64 b.version, .int .i64 b.image, .int .i64 b.state, .bool b.ending, .string b.berth]] w fun e w' => e = .returned (.bool (aheadB a b)) ∧ Below w.heap.size w w' := by
  have hfin : Below w.heap.size w ((w.alloc (.cells #[.string a.service, .int .i64 a.number, .int .i64 a.version, .int .i64 a.image, .int .i64 a.state, .bool a.ending, .string a.berth] 88)).alloc (.cells #[.string b.service, .int .i64 b.number, .int .i64 b.version, .int .i64 b.image, .int .i64 b.state, .bool b.ending, .string b.berth] 88)) := ((Below.refl _ _).alloc (Nat.le_refl _) _).alloc (by simp) _
  cases h1 : Op.bytesLess a.service.toList b.service.toList
  · cases h2 : (a.service.toList == b.service.toList)
    · go_enter Tryz.func54, Tryz.ntmps54
      go_wp2
      go_ret
      exact ⟨ret_bool (by simp [aheadB, h1, h2]), hfin⟩
    · go_enter Tryz.func54, Tryz.ntmps54
      go_wp2
      go_ret
      exact ⟨ret_bool (by simp [aheadB, h1, h2]), hfin⟩
  · go_enter Tryz.func54, Tryz.ntmps54
    go_wp2
    go_ret
    exact ⟨ret_bool (by simp [aheadB, h1]), hfin⟩

theorem l1NameOk_b (s : ByteArray) (w : World) (hs : s.size ≤ maxLen) :
    Calls Tryz.prog 52 #[.string s] w fun e w' => e = .returned (.bool (nameB s)) ∧ Below w.heap.size w w' :=
  (l1NameOk_any s w hs).mono fun e w' ⟨he, hw⟩ => ⟨he, by rw [hw]; exact Below.refl _ _⟩

set_option maxHeartbeats 4000000 in
theorem specValid_any (B : Bk) (a1 a2 a3 : Option Addr) (c1 c2 c3 : Nat) (w : World) (hS : B.small) (hZ : B.sized) (hB : BkAt w a1 a2 a3 B) :
    Calls Tryz.prog 22 #[.agg #[.int .i64 B.now, .slice a1 B.svcs.length c1, .slice a2 B.cps.length c2, .slice a3 B.bts.length c3]] w fun e w' => e = .returned (.bool (validB B)) ∧ Below w.heap.size w w' := by
  obtain ⟨hl1, hl2, hl3⟩ := hS
  have hbx := below_box w (.cells #[.int .i64 B.now, .slice a1 B.svcs.length c1, .slice a2 B.cps.length c2, .slice a3 B.bts.length c3] 34)
  have hbox : Hid _ := heap_alloc_new w (.cells #[.int .i64 B.now, .slice a1 B.svcs.length c1, .slice a2 B.cps.length c2, .slice a3 B.bts.length c3] 34)
  cases h0 : inB B.now 0 1000000
  · go_enter Tryz.func22, Tryz.ntmps22
    go_wp2_with (go_at_call 41; refine (l1In_any _ _ _ _).mono ?_; rintro e w' ⟨rfl, rfl⟩)
    go_ret
    exact ⟨ret_bool (by simp [validB, h0]), hbx⟩
  by_cases hs1 : 8 < (B.svcs.length : Int)
  · go_enter Tryz.func22, Tryz.ntmps22
    go_wp2_with (go_at_call 41; refine (l1In_any _ _ _ _).mono ?_; rintro e w' ⟨rfl, rfl⟩)
    go_ret
    exact ⟨ret_bool (by have : ¬ B.svcs.length ≤ 8 := by omega
                        simp [validB, this]), hbx⟩
  by_cases hs2 : 200 < (B.cps.length : Int)
  · go_enter Tryz.func22, Tryz.ntmps22
    go_wp2_with (go_at_call 41; refine (l1In_any _ _ _ _).mono ?_; rintro e w' ⟨rfl, rfl⟩)
    go_ret
    exact ⟨ret_bool (by have : ¬ B.cps.length ≤ 200 := by omega
                        simp [validB, this]), hbx⟩
  by_cases hs3 : 6 < (B.bts.length : Int)
  · go_enter Tryz.func22, Tryz.ntmps22
    go_wp2_with (go_at_call 41; refine (l1In_any _ _ _ _).mono ?_; rintro e w' ⟨rfl, rfl⟩)
    go_ret
    exact ⟨ret_bool (by have : ¬ B.bts.length ≤ 6 := by omega
                        simp [validB, this]), hbx⟩
  have HV : Hid (validB B = (allTo (svcAtB B) B.svcs.length && allTo (btAtB B) B.bts.length && allTo (cpAtB B) B.cps.length)) := by
    have q1 : B.svcs.length ≤ 8 := by omega
    have q2 : B.cps.length ≤ 200 := by omega
    have q3 : B.bts.length ≤ 6 := by omega
    unfold Hid; simp [validB, h0, q1, q2, q3]
  go_enter Tryz.func22, Tryz.ntmps22
  go_wp2_with (go_at_call 41; refine (l1In_any _ _ _ _).mono ?_; rintro e w' ⟨rfl, rfl⟩)
  clear h0
  go_loopw [3] (fun iv wr => ∃ k : Nat, k ≤ B.svcs.length ∧ iv = .int .i64 k ∧ Below w.heap.size w wr ∧ Hid (wr.heap[w.heap.size]? = some (.cells #[.int .i64 B.now, .slice a1 B.svcs.length c1, .slice a2 B.cps.length c2, .slice a3 B.bts.length c3] 34 (0, 0))) ∧ Hid (∀ i, i < k → svcAtB B i = true)) (fun i _ => B.svcs.length - (intOf i).toNat)
  case atStart => exact ⟨0, by omega, rfl, hbx, hbox, fun i hi => absurd hi (by omega)⟩
  case round =>
    obtain ⟨k, hk, rfl, hb, hbox1, hall⟩ := hrel
    have hNlt : w.heap.size < wr.heap.size := (Array.getElem?_eq_some_iff.1 hbox1.out).1
    have e0 := blk_cell hbox1.out 0 rfl
    have e1 := blk_cell hbox1.out 1 rfl
    have e2 := blk_cell hbox1.out 2 rfl
    have e3 := blk_cell hbox1.out 3 rfl
    by_cases hlt : k < B.svcs.length
    · have hne : B.svcs ≠ [] := by intro h; rw [h] at hlt; simp at hlt
      obtain ⟨b, off, ea, hbs, hat⟩ := hB.1 hne
      subst ea
      obtain ⟨s, hsk⟩ : ∃ s, B.svcs[k]? = some s := ⟨B.svcs[k], by simp [hlt]⟩
      have hmem := hZ.2.2.2.1 s (List.mem_of_getElem? hsk)
      obtain ⟨x0, x1, x2, x3, x4, x5, x6, x7, x8, x9, x10, x11, x12⟩ := ((hat k s hsk).below hb hbs).grown
      have g0 := gcell hbox1.out 0 rfl
      have g1 := gcell hbox1.out 1 rfl
      have g2 := gcell hbox1.out 2 rfl
      have g3 := gcell hbox1.out 3 rfl
      have hBr := hB.below hb
      cases hok : svcB B.now s
      · have HNO : Hid (svcAtB B k = false) := by unfold Hid svcAtB; rw [hsk]; simp [hok]
        clear hsk hat hne
        go_wp2
        refine wp_region_quiet_below (by kernel_rfl) (by kernel_rfl) ?_
        repeat (first | go_big_quiet_step (exact Calls.regrown_of (l1ServiceOk_any s B.now _ hmem)) | quiet_step (exact Calls.regrown_of (l1ServiceOk_any s B.now _ hmem)))
        refine wpQuiet_nil ?_
        intro w2 hw'
        obtain ⟨⟨dq, osq⟩, hw''⟩ := hw'
        have hb2 : Below wr.heap.size wr w2 := by rw [hw'']; exact below_regrown _ _ _
        clear hw''
        go_wp2
        go_ret
        exact ⟨ret_bool (by simp [validB, allTo_no hlt HNO.out]), hb.trans (hb2.mono hb.size)⟩
      by_cases hk0 : k = 0
      · have HYES : Hid (svcAtB B k = true) := by unfold Hid svcAtB; rw [hsk]; simp [hok, hk0]
        have hz : decide (0 < k) = false := by simp; omega
        clear hsk hat hne hk0
        go_wp2
        refine wp_region_quiet_below (by kernel_rfl) (by kernel_rfl) ?_
        repeat (first | go_big_quiet_step (exact Calls.regrown_of (l1ServiceOk_any s B.now _ hmem)) | quiet_step (exact Calls.regrown_of (l1ServiceOk_any s B.now _ hmem)))
        refine wpQuiet_nil ?_
        intro w2 hw'
        obtain ⟨⟨dq, osq⟩, hw''⟩ := hw'
        have hb2 : Below wr.heap.size wr w2 := by rw [hw'']; exact below_regrown _ _ _
        clear hw''
        have hbox2 : Hid _ := below_blk hb2 hbox1.out hNlt
        have hb3 := hb.trans (hb2.mono hb.size)
        clear g0 g1 g2 g3 x0 x1 x2 x3 x4 x5 x6 x7 x8 x9 x10 x11 x12 e0 e1 e2 e3
        go_wp2
        go_roundw
        case rel => exact ⟨k + 1, by omega, by go_num, hb3, hbox2, upTo_step hall.out HYES.out⟩
        case measure => simp [intOf]; omega
      obtain ⟨k', rfl⟩ : ∃ k', k = k' + 1 := ⟨k - 1, by omega⟩
      clear hk0
      obtain ⟨p, hpk⟩ : ∃ p, B.svcs[k']? = some p := ⟨B.svcs[k']'(by omega), by rw [List.getElem?_eq_getElem]⟩
      obtain ⟨y0, y1, y2, y3, y4, y5, y6, y7, y8, y9, y10, y11, y12⟩ := ((hat k' p hpk).below hb hbs).grown
      cases hle : Op.bytesLess p.name.toList s.name.toList
      · have HNO : Hid (svcAtB B (k' + 1) = false) := by unfold Hid svcAtB; rw [hsk]; simp [hok, hpk, hle]
        clear hsk hat hne hpk
        go_wp2
        refine wp_region_quiet_below (by kernel_rfl) (by kernel_rfl) ?_
        repeat (first | go_big_quiet_step (exact Calls.regrown_of (l1ServiceOk_any s B.now _ hmem)) | quiet_step (exact Calls.regrown_of (l1ServiceOk_any s B.now _ hmem)))
        refine wpQuiet_nil ?_
        intro w2 hw'
        obtain ⟨⟨dq, osq⟩, hw''⟩ := hw'
        have hb2 : Below wr.heap.size wr w2 := by rw [hw'']; exact below_regrown _ _ _
        clear hw''
        go_wp2
        go_ret
        exact ⟨ret_bool (by simp [validB, allTo_no hlt HNO.out]), hb.trans (hb2.mono hb.size)⟩
      · have HYES : Hid (svcAtB B (k' + 1) = true) := by unfold Hid svcAtB; rw [hsk]; simp [hok, hpk, hle]
        clear hsk hat hne hpk
        go_wp2
        refine wp_region_quiet_below (by kernel_rfl) (by kernel_rfl) ?_
        repeat (first | go_big_quiet_step (exact Calls.regrown_of (l1ServiceOk_any s B.now _ hmem)) | quiet_step (exact Calls.regrown_of (l1ServiceOk_any s B.now _ hmem)))
        refine wpQuiet_nil ?_
        intro w2 hw'
        obtain ⟨⟨dq, osq⟩, hw''⟩ := hw'
        have hb2 : Below wr.heap.size wr w2 := by rw [hw'']; exact below_regrown _ _ _
        clear hw''
        have hbox2 : Hid _ := below_blk hb2 hbox1.out hNlt
        have hb3 := hb.trans (hb2.mono hb.size)
        clear g0 g1 g2 g3 x0 x1 x2 x3 x4 x5 x6 x7 x8 x9 x10 x11 x12 y0 y1 y2 y3 y4 y5 y6 y7 y8 y9 y10 y11 y12 e0 e1 e2 e3
        go_wp2
        go_roundw
        case rel => exact ⟨k' + 1 + 1, by omega, by go_num, hb3, hbox2, upTo_step hall.out HYES.out⟩
        case measure => simp [intOf]; omega
    · have HALLsvcs : Hid (allTo (svcAtB B) B.svcs.length = true) := allTo_yes fun i hi => hall.out i (by omega)
      clear hall
      go_wp2
      go_loopw [4] (fun iv wr => ∃ k : Nat, k ≤ B.bts.length ∧ iv = .int .i64 k ∧ Below w.heap.size w wr ∧ Hid (wr.heap[w.heap.size]? = some (.cells #[.int .i64 B.now, .slice a1 B.svcs.length c1, .slice a2 B.cps.length c2, .slice a3 B.bts.length c3] 34 (0, 0))) ∧ Hid (∀ i, i < k → btAtB B i = true)) (fun i _ => B.bts.length - (intOf i).toNat)
      case atStart => exact ⟨0, by omega, rfl, hb, hbox1, fun i hi => absurd hi (by omega)⟩
      case round =>
        obtain ⟨k, hk, rfl, hb, hbox1, hall⟩ := hrel
        have hNlt : w.heap.size < wr.heap.size := (Array.getElem?_eq_some_iff.1 hbox1.out).1
        have e0 := blk_cell hbox1.out 0 rfl
        have e1 := blk_cell hbox1.out 1 rfl
        have e2 := blk_cell hbox1.out 2 rfl
        have e3 := blk_cell hbox1.out 3 rfl
        by_cases hlt : k < B.bts.length
        · have hne : B.bts ≠ [] := by intro h; rw [h] at hlt; simp at hlt
          obtain ⟨b, off, ea, hbs, hat⟩ := hB.2.2 hne
          subst ea
          obtain ⟨s, hsk⟩ : ∃ s, B.bts[k]? = some s := ⟨B.bts[k], by simp [hlt]⟩
          have hmem := hZ.2.2.2.2.2 s (List.mem_of_getElem? hsk)
          obtain ⟨x0, x1⟩ := ((hat k s hsk).below hb hbs).grown
          have g0 := gcell hbox1.out 0 rfl
          have g1 := gcell hbox1.out 1 rfl
          have g2 := gcell hbox1.out 2 rfl
          have g3 := gcell hbox1.out 3 rfl
          have hBr := hB.below hb
          cases hok : nameB s.name
          · have HNO : Hid (btAtB B k = false) := by unfold Hid btAtB; rw [hsk]; simp [hok]
            clear hsk hat hne
            go_wp2
            refine wp_region_quiet_below (by kernel_rfl) (by kernel_rfl) ?_
            repeat (first | go_big_quiet_step (exact Calls.regrown_of (l1NameOk_b s.name _ hmem)) | quiet_step (exact Calls.regrown_of (l1NameOk_b s.name _ hmem)))
            refine wpQuiet_nil ?_
            intro w2 hw'
            obtain ⟨⟨dq, osq⟩, hw''⟩ := hw'
            have hb2 : Below wr.heap.size wr w2 := by rw [hw'']; exact below_regrown _ _ _
            clear hw''
            go_wp2
            go_ret
            exact ⟨ret_bool (by simp [validB, allTo_no hlt HNO.out]), hb.trans (hb2.mono hb.size)⟩
          by_cases hk0 : k = 0
          · have HYES : Hid (btAtB B k = true) := by unfold Hid btAtB; rw [hsk]; simp [hok, hk0]
            have hz : decide (0 < k) = false := by simp; omega
            clear hsk hat hne hk0
            go_wp2
            refine wp_region_quiet_below (by kernel_rfl) (by kernel_rfl) ?_
            repeat (first | go_big_quiet_step (exact Calls.regrown_of (l1NameOk_b s.name _ hmem)) | quiet_step (exact Calls.regrown_of (l1NameOk_b s.name _ hmem)))
            refine wpQuiet_nil ?_
            intro w2 hw'
            obtain ⟨⟨dq, osq⟩, hw''⟩ := hw'
            have hb2 : Below wr.heap.size wr w2 := by rw [hw'']; exact below_regrown _ _ _
            clear hw''
            have hbox2 : Hid _ := below_blk hb2 hbox1.out hNlt
            have hb3 := hb.trans (hb2.mono hb.size)
            clear g0 g1 g2 g3 x0 x1 e0 e1 e2 e3
            go_wp2
            go_roundw
            case rel => exact ⟨k + 1, by omega, by go_num, hb3, hbox2, upTo_step hall.out HYES.out⟩
            case measure => simp [intOf]; omega
          obtain ⟨k', rfl⟩ : ∃ k', k = k' + 1 := ⟨k - 1, by omega⟩
          clear hk0
          obtain ⟨p, hpk⟩ : ∃ p, B.bts[k']? = some p := ⟨B.bts[k']'(by omega), by rw [List.getElem?_eq_getElem]⟩
          obtain ⟨y0, y1⟩ := ((hat k' p hpk).below hb hbs).grown
          cases hle : Op.bytesLess p.name.toList s.name.toList
          · have HNO : Hid (btAtB B (k' + 1) = false) := by unfold Hid btAtB; rw [hsk]; simp [hok, hpk, hle]
            clear hsk hat hne hpk
            go_wp2
            refine wp_region_quiet_below (by kernel_rfl) (by kernel_rfl) ?_
            repeat (first | go_big_quiet_step (exact Calls.regrown_of (l1NameOk_b s.name _ hmem)) | quiet_step (exact Calls.regrown_of (l1NameOk_b s.name _ hmem)))
            refine wpQuiet_nil ?_
            intro w2 hw'
            obtain ⟨⟨dq, osq⟩, hw''⟩ := hw'
            have hb2 : Below wr.heap.size wr w2 := by rw [hw'']; exact below_regrown _ _ _
            clear hw''
            go_wp2
            go_ret
            exact ⟨ret_bool (by simp [validB, allTo_no hlt HNO.out]), hb.trans (hb2.mono hb.size)⟩
          · have HYES : Hid (btAtB B (k' + 1) = true) := by unfold Hid btAtB; rw [hsk]; simp [hok, hpk, hle]
            clear hsk hat hne hpk
            go_wp2
            refine wp_region_quiet_below (by kernel_rfl) (by kernel_rfl) ?_
            repeat (first | go_big_quiet_step (exact Calls.regrown_of (l1NameOk_b s.name _ hmem)) | quiet_step (exact Calls.regrown_of (l1NameOk_b s.name _ hmem)))
            refine wpQuiet_nil ?_
            intro w2 hw'
            obtain ⟨⟨dq, osq⟩, hw''⟩ := hw'
            have hb2 : Below wr.heap.size wr w2 := by rw [hw'']; exact below_regrown _ _ _
            clear hw''
            have hbox2 : Hid _ := below_blk hb2 hbox1.out hNlt
            have hb3 := hb.trans (hb2.mono hb.size)
            clear g0 g1 g2 g3 x0 x1 y0 y1 e0 e1 e2 e3
            go_wp2
            go_roundw
            case rel => exact ⟨k' + 1 + 1, by omega, by go_num, hb3, hbox2, upTo_step hall.out HYES.out⟩
            case measure => simp [intOf]; omega
        · have HALLbts : Hid (allTo (btAtB B) B.bts.length = true) := allTo_yes fun i hi => hall.out i (by omega)
          clear hall
          go_wp2
          go_loopw [5] (fun iv wr => ∃ k : Nat, k ≤ B.cps.length ∧ iv = .int .i64 k ∧ Below w.heap.size w wr ∧ Hid (wr.heap[w.heap.size]? = some (.cells #[.int .i64 B.now, .slice a1 B.svcs.length c1, .slice a2 B.cps.length c2, .slice a3 B.bts.length c3] 34 (0, 0))) ∧ Hid (∀ i, i < k → cpAtB B i = true)) (fun i _ => B.cps.length - (intOf i).toNat)
          case atStart => exact ⟨0, by omega, rfl, hb, hbox1, fun i hi => absurd hi (by omega)⟩
          case round =>
            obtain ⟨k, hk, rfl, hb, hbox1, hall⟩ := hrel
            have hNlt : w.heap.size < wr.heap.size := (Array.getElem?_eq_some_iff.1 hbox1.out).1
            have e0 := blk_cell hbox1.out 0 rfl
            have e1 := blk_cell hbox1.out 1 rfl
            have e2 := blk_cell hbox1.out 2 rfl
            have e3 := blk_cell hbox1.out 3 rfl
            by_cases hlt : k < B.cps.length
            · have hne : B.cps ≠ [] := by intro h; rw [h] at hlt; simp at hlt
              obtain ⟨b, off, ea, hbs, hat⟩ := hB.2.1 hne
              subst ea
              obtain ⟨s, hsk⟩ : ∃ s, B.cps[k]? = some s := ⟨B.cps[k], by simp [hlt]⟩
              skip
              obtain ⟨x0, x1, x2, x3, x4, x5, x6⟩ := ((hat k s hsk).below hb hbs).grown
              have g0 := gcell hbox1.out 0 rfl
              have g1 := gcell hbox1.out 1 rfl
              have g2 := gcell hbox1.out 2 rfl
              have g3 := gcell hbox1.out 3 rfl
              have hBr := hB.below hb
              cases hok : cpB B s
              · have HNO : Hid (cpAtB B k = false) := by unfold Hid cpAtB; rw [hsk]; simp [hok]
                clear hsk hat hne
                go_wp2
                refine wp_region_quiet_below (by kernel_rfl) (by kernel_rfl) ?_
                repeat (first | go_big_quiet_step (exact Calls.regrown_of (l1CopyOk_any B s a1 _ a3 c1 c2 c3 _ ⟨hl1, hl2, hl3⟩ (hBr.grown _ _))) | quiet_step (exact Calls.regrown_of (l1CopyOk_any B s a1 _ a3 c1 c2 c3 _ ⟨hl1, hl2, hl3⟩ (hBr.grown _ _))))
                refine wpQuiet_nil ?_
                intro w2 hw'
                obtain ⟨⟨dq, osq⟩, hw''⟩ := hw'
                have hb2 : Below wr.heap.size wr w2 := by rw [hw'']; exact below_regrown _ _ _
                clear hw''
                go_wp2
                go_ret
                exact ⟨ret_bool (by simp [validB, allTo_no hlt HNO.out]), hb.trans (hb2.mono hb.size)⟩
              by_cases hk0 : k = 0
              · have HYES : Hid (cpAtB B k = true) := by unfold Hid cpAtB; rw [hsk]; simp [hok, hk0]
                have hz : decide (0 < k) = false := by simp; omega
                clear hsk hat hne hk0
                go_wp2
                refine wp_region_quiet_below (by kernel_rfl) (by kernel_rfl) ?_
                repeat (first | go_big_quiet_step (exact Calls.regrown_of (l1CopyOk_any B s a1 _ a3 c1 c2 c3 _ ⟨hl1, hl2, hl3⟩ (hBr.grown _ _))) | quiet_step (exact Calls.regrown_of (l1CopyOk_any B s a1 _ a3 c1 c2 c3 _ ⟨hl1, hl2, hl3⟩ (hBr.grown _ _))))
                refine wpQuiet_nil ?_
                intro w2 hw'
                obtain ⟨⟨dq, osq⟩, hw''⟩ := hw'
                have hb2 : Below wr.heap.size wr w2 := by rw [hw'']; exact below_regrown _ _ _
                clear hw''
                have hbox2 : Hid _ := below_blk hb2 hbox1.out hNlt
                have hb3 := hb.trans (hb2.mono hb.size)
                clear g0 g1 g2 g3 x0 x1 x2 x3 x4 x5 x6 e0 e1 e2 e3
                go_wp2
                go_roundw
                case rel => exact ⟨k + 1, by omega, by go_num, hb3, hbox2, upTo_step hall.out HYES.out⟩
                case measure => simp [intOf]; omega
              obtain ⟨k', rfl⟩ : ∃ k', k = k' + 1 := ⟨k - 1, by omega⟩
              clear hk0
              obtain ⟨p, hpk⟩ : ∃ p, B.cps[k']? = some p := ⟨B.cps[k']'(by omega), by rw [List.getElem?_eq_getElem]⟩
              obtain ⟨y0, y1, y2, y3, y4, y5, y6⟩ := ((hat k' p hpk).below hb hbs).grown
              cases hle : aheadB p s
              · have HNO : Hid (cpAtB B (k' + 1) = false) := by unfold Hid cpAtB; rw [hsk]; simp [hok, hpk, hle]
                clear hsk hat hne hpk
                go_wp2
                refine wp_region_quiet_below (by kernel_rfl) (by kernel_rfl) ?_
                repeat (first | go_big_quiet_step (first | exact Calls.regrown_of (l1CopyOk_any B s a1 _ a3 c1 c2 c3 _ ⟨hl1, hl2, hl3⟩ (hBr.grown _ _)) | exact Calls.regrown_of (l1Ahead_any p s _)) | quiet_step (first | exact Calls.regrown_of (l1CopyOk_any B s a1 _ a3 c1 c2 c3 _ ⟨hl1, hl2, hl3⟩ (hBr.grown _ _)) | exact Calls.regrown_of (l1Ahead_any p s _)))
                refine wpQuiet_nil ?_
                intro w2 hw'
                obtain ⟨⟨dq, osq⟩, hw''⟩ := hw'
                have hb2 : Below wr.heap.size wr w2 := by rw [hw'']; exact below_regrown _ _ _
                clear hw''
                go_wp2
                go_ret
                exact ⟨ret_bool (by simp [validB, allTo_no hlt HNO.out]), hb.trans (hb2.mono hb.size)⟩
              · have HYES : Hid (cpAtB B (k' + 1) = true) := by unfold Hid cpAtB; rw [hsk]; simp [hok, hpk, hle]
                clear hsk hat hne hpk
                go_wp2
                refine wp_region_quiet_below (by kernel_rfl) (by kernel_rfl) ?_
                repeat (first | go_big_quiet_step (first | exact Calls.regrown_of (l1CopyOk_any B s a1 _ a3 c1 c2 c3 _ ⟨hl1, hl2, hl3⟩ (hBr.grown _ _)) | exact Calls.regrown_of (l1Ahead_any p s _)) | quiet_step (first | exact Calls.regrown_of (l1CopyOk_any B s a1 _ a3 c1 c2 c3 _ ⟨hl1, hl2, hl3⟩ (hBr.grown _ _)) | exact Calls.regrown_of (l1Ahead_any p s _)))
                refine wpQuiet_nil ?_
                intro w2 hw'
                obtain ⟨⟨dq, osq⟩, hw''⟩ := hw'
                have hb2 : Below wr.heap.size wr w2 := by rw [hw'']; exact below_regrown _ _ _
                clear hw''
                have hbox2 : Hid _ := below_blk hb2 hbox1.out hNlt
                have hb3 := hb.trans (hb2.mono hb.size)
                clear g0 g1 g2 g3 x0 x1 x2 x3 x4 x5 x6 y0 y1 y2 y3 y4 y5 y6 e0 e1 e2 e3
                go_wp2
                go_roundw
                case rel => exact ⟨k' + 1 + 1, by omega, by go_num, hb3, hbox2, upTo_step hall.out HYES.out⟩
                case measure => simp [intOf]; omega
            · have HALLcps : Hid (allTo (cpAtB B) B.cps.length = true) := allTo_yes fun i hi => hall.out i (by omega)
              clear hall
              go_wp2
              go_ret
              exact ⟨ret_bool (by rw [HV.out, HALLsvcs.out, HALLbts.out, HALLcps.out]; rfl), hb⟩

end Go.Proofs.YtbceafpodamnfabGreat

/-
  My own. Plain data, more: the program's checks of a service, against the specification's.
-/
namespace Go.Proofs.YtbceafpodamnfabGreat
open Go.RowKit

def numB (s : Svc) : Bool := inB s.image 1 1000000 && inB s.next 1 1000000 && inB s.want 0 10
def spareB (s : Svc) : Bool := inB s.down 0 10 && inB s.over 0 10 && (s.down != 0 || s.over != 0)
def followB (s : Svc) : Bool := inB s.per 0 1000000 && inB s.load 0 1000000 && inB s.least 0 10 && inB s.most 0 10 && decide (s.least ≤ s.most) && inB s.cool 0 3
def stillB (s : Svc) : Bool := s.per != 0 || (s.least == 0 && s.most == 0 && s.load == 0 && s.cool == 0)

theorem svcB_split (now : Int) (s : Svc) : svcB now s = (inB s.version 1 now && (nameB s.name && numB s && spareB s && followB s && stillB s)) := by
  unfold svcB
  generalize nameB s.name = n
  cases n
  · simp
  · rw [Bool.eq_iff_iff]
    by_cases hp : s.per = 0
    · simp [perB, numB, spareB, followB, stillB, inB, hp]
      omega
    · simp only [perB, numB, spareB, followB, stillB, inB, Bool.and_eq_true, Bool.or_eq_true, decide_eq_true_eq, Bool.not_eq_true', beq_eq_false_iff_ne, bne_iff_ne, beq_iff_eq, ne_eq, true_and, if_neg hp]
      omega

theorem bytesLess_irrefl : ∀ l : List UInt8, Op.bytesLess l l = false
  | [] => rfl
  | a :: x => by simp [Op.bytesLess, bytesLess_irrefl x]
theorem bytesLess_tri : ∀ a b : List UInt8, (Op.bytesLess a b || a == b) = !(Op.bytesLess b a)
  | [], [] => by simp [Op.bytesLess]
  | [], _ :: _ => by simp [Op.bytesLess]
  | _ :: _, [] => by simp [Op.bytesLess]
  | a :: x, b :: y => by
    have ih := bytesLess_tri x y
    simp only [Op.bytesLess]
    rcases Nat.lt_trichotomy a.toNat b.toNat with h | h | h
    · have h1 : a < b := UInt8.lt_iff_toNat_lt.2 h
      have h2 : ¬ b < a := fun h' => by have := UInt8.lt_iff_toNat_lt.1 h'; omega
      have h3 : (b == a) = false := by rw [beq_eq_false_iff_ne]; intro e; rw [e] at h; omega
      simp [h1, h2, h3]
    · have e : a = b := UInt8.toNat_inj.1 h
      subst e
      have h2 : ¬ a < a := fun h' => by have := UInt8.lt_iff_toNat_lt.1 h'; omega
      simp [h2] at ih ⊢
      exact ih
    · have h1 : b < a := UInt8.lt_iff_toNat_lt.2 h
      have h2 : ¬ a < b := fun h' => by have := UInt8.lt_iff_toNat_lt.1 h'; omega
      have h3 : (a == b) = false := by rw [beq_eq_false_iff_ne]; intro e; rw [e] at h; omega
      simp [h1, h2, h3]
theorem bytesLess_trans : ∀ a b c : List UInt8, Op.bytesLess a b = true → Op.bytesLess b c = true → Op.bytesLess a c = true
  | _, [], _, h, _ => by simp [Op.bytesLess] at h
  | _, _ :: _, [], _, h => by simp [Op.bytesLess] at h
  | [], _ :: _, _ :: _, _, _ => by simp [Op.bytesLess]
  | a :: x, b :: y, c :: z, h, k => by
    simp only [Op.bytesLess, Bool.or_eq_true, Bool.and_eq_true, decide_eq_true_eq, beq_iff_eq, UInt8.lt_iff_toNat_lt] at *
    rcases h with h | ⟨rfl, h⟩
    · rcases k with k | ⟨rfl, k⟩
      · exact Or.inl (by omega)
      · exact Or.inl h
    · rcases k with k | ⟨rfl, k⟩
      · exact Or.inl k
      · exact Or.inr ⟨rfl, bytesLess_trans x y z h k⟩

end Go.Proofs.YtbceafpodamnfabGreat

/-
  My own. The program's checks of a service.
-/
namespace Go.Proofs.YtbceafpodamnfabGreat
open Go.RowKit Go.Sort

set_option maxHeartbeats 1000000 in
theorem serviceNamed_any (s : Svc) (w : World) (hs : s.name.size ≤ maxLen) :
    Calls Tryz.prog 97 #[.agg #[.string s.name, .int .i64 s.version, .bool s.gone, .int .i64 s.image, .int .i64 s.want, .int .i64 s.down, .int .i64 s.over, .int .i64 s.next, .int .i64 s.per, .int .i64 s.least, .int .i64 s.most, .int .i64 s.load, .int .i64 s.cool]] w fun e w' => e = .returned (.bool (nameB s.name)) ∧ Below w.heap.size w w' := by
  go_enter Tryz.func97, Tryz.ntmps97
  go_wp2_with (first | (go_at_call 103; refine (isName_any _ _ hs).mono ?_; rintro e w' ⟨rfl, rfl⟩))
  all_goals
    go_ret
    exact ⟨ret_bool rfl, below_box _ _⟩

set_option maxHeartbeats 1000000 in
theorem numbersHold_any (s : Svc) (w : World) :
    Calls Tryz.prog 98 #[.agg #[.string s.name, .int .i64 s.version, .bool s.gone, .int .i64 s.image, .int .i64 s.want, .int .i64 s.down, .int .i64 s.over, .int .i64 s.next, .int .i64 s.per, .int .i64 s.least, .int .i64 s.most, .int .i64 s.load, .int .i64 s.cool]] w fun e w' => e = .returned (.bool (numB s)) ∧ Below w.heap.size w w' := by
  go_enter Tryz.func98, Tryz.ntmps98
  go_wp2_with (first | (go_at_call 64; refine (within_any _ _ _ _).mono ?_; rintro e w' ⟨rfl, rfl⟩))
  all_goals
    go_ret
    exact ⟨ret_bool (by simp [numB, *]), below_box _ _⟩

set_option maxHeartbeats 1000000 in
theorem spareHolds_any (s : Svc) (w : World) :
    Calls Tryz.prog 99 #[.agg #[.string s.name, .int .i64 s.version, .bool s.gone, .int .i64 s.image, .int .i64 s.want, .int .i64 s.down, .int .i64 s.over, .int .i64 s.next, .int .i64 s.per, .int .i64 s.least, .int .i64 s.most, .int .i64 s.load, .int .i64 s.cool]] w fun e w' => e = .returned (.bool (spareB s)) ∧ Below w.heap.size w w' := by
  go_enter Tryz.func99, Tryz.ntmps99
  go_wp2_with (first | (go_at_call 64; refine (within_any _ _ _ _).mono ?_; rintro e w' ⟨rfl, rfl⟩))
  all_goals
    go_ret
    exact ⟨ret_bool (by simp [spareB, *] <;> (intro _; rfl)), below_box _ _⟩

set_option maxHeartbeats 1000000 in
theorem followHolds_any (s : Svc) (w : World) :
    Calls Tryz.prog 100 #[.agg #[.string s.name, .int .i64 s.version, .bool s.gone, .int .i64 s.image, .int .i64 s.want, .int .i64 s.down, .int .i64 s.over, .int .i64 s.next, .int .i64 s.per, .int .i64 s.least, .int .i64 s.most, .int .i64 s.load, .int .i64 s.cool]] w fun e w' => e = .returned (.bool (followB s)) ∧ Below w.heap.size w w' := by
  go_enter Tryz.func100, Tryz.ntmps100
  go_wp2_with (first | (go_at_call 64; refine (within_any _ _ _ _).mono ?_; rintro e w' ⟨rfl, rfl⟩))
  all_goals
    go_ret
    exact ⟨ret_bool (by simp [followB, *] <;> (intro h; exfalso; omega)), below_box _ _⟩

set_option maxHeartbeats 1000000 in
theorem stillWithoutPer_any (s : Svc) (w : World) :
    Calls Tryz.prog 101 #[.agg #[.string s.name, .int .i64 s.version, .bool s.gone, .int .i64 s.image, .int .i64 s.want, .int .i64 s.down, .int .i64 s.over, .int .i64 s.next, .int .i64 s.per, .int .i64 s.least, .int .i64 s.most, .int .i64 s.load, .int .i64 s.cool]] w fun e w' => e = .returned (.bool (stillB s)) ∧ Below w.heap.size w w' := by
  go_enter Tryz.func101, Tryz.ntmps101
  go_wp2
  all_goals
    go_ret
    exact ⟨ret_bool (by simp [stillB, *]), below_box _ _⟩

set_option maxHeartbeats 1000000 in
theorem nowHolds_any (B : Bk) (a1 a2 a3 : Option Addr) (c1 c2 c3 : Nat) (w : World) :
    Calls Tryz.prog 66 #[.agg #[.int .i64 B.now, .slice a1 B.svcs.length c1, .slice a2 B.cps.length c2, .slice a3 B.bts.length c3]] w fun e w' => e = .returned (.bool (inB B.now 0 1000000)) ∧ Below w.heap.size w w' := by
  go_enter Tryz.func66, Tryz.ntmps66
  go_wp2_with (go_at_call 64; refine (within_any _ _ _ _).mono ?_; rintro e w' ⟨rfl, rfl⟩)
  go_ret
  exact ⟨rfl, below_box _ _⟩

set_option maxHeartbeats 1000000 in
theorem sizesHold_any (B : Bk) (a1 a2 a3 : Option Addr) (c1 c2 c3 : Nat) (w : World) (hS : B.small) :
    Calls Tryz.prog 67 #[.agg #[.int .i64 B.now, .slice a1 B.svcs.length c1, .slice a2 B.cps.length c2, .slice a3 B.bts.length c3]] w fun e w' => e = .returned (.bool (decide (B.svcs.length ≤ 8) && decide (B.cps.length ≤ 200) && decide (B.bts.length ≤ 6))) ∧ Below w.heap.size w w' := by
  obtain ⟨hl1, hl2, hl3⟩ := hS
  go_enter Tryz.func67, Tryz.ntmps67
  go_wp2
  all_goals
    go_ret
    exact ⟨ret_bool (by rw [Bool.eq_iff_iff]; simp; try omega), below_box _ _⟩

set_option maxHeartbeats 1000000 in
theorem copyAhead_any (a b : Cp) (w : World) :
    Calls Tryz.prog 104 #[.agg #[.string a.service, .int .i64 a.number, .int .i64 a.version, .int .i64 a.image, .int .i64 a.state, .bool a.ending, .string a.berth], .agg #[.string b.service, .int .i64 b.number, .int .i64 b.version, .int .i64 b.image, .int .i64 b.state, .bool b.ending, .string b.berth]] w fun e w' => e = .returned (.bool (aheadB a b)) ∧ Below w.heap.size w w' := by
  have hfin : Below w.heap.size w ((w.alloc (.cells #[.string a.service, .int .i64 a.number, .int .i64 a.version, .int .i64 a.image, .int .i64 a.state, .bool a.ending, .string a.berth] 88)).alloc (.cells #[.string b.service, .int .i64 b.number, .int .i64 b.version, .int .i64 b.image, .int .i64 b.state, .bool b.ending, .string b.berth] 88)) := ((Below.refl _ _).alloc (Nat.le_refl _) _).alloc (by simp) _
  cases h2 : (a.service.toList == b.service.toList)
  · go_enter Tryz.func104, Tryz.ntmps104
    go_wp2
    go_ret
    exact ⟨ret_bool (by simp [aheadB, h2]), hfin⟩
  · have hirr : Hid (Op.bytesLess a.service.toList b.service.toList = false) := by
      unfold Hid
      rw [eq_of_beq h2]
      exact bytesLess_irrefl _
    go_enter Tryz.func104, Tryz.ntmps104
    go_wp2
    go_ret
    exact ⟨ret_bool (by simp [aheadB, h2, hirr.out]), hfin⟩

set_option maxHeartbeats 1000000 in
theorem copyHolds_any (c : Cp) (s : Svc) (now : Int) (w : World) :
    Calls Tryz.prog 105 #[.agg #[.string c.service, .int .i64 c.number, .int .i64 c.version, .int .i64 c.image, .int .i64 c.state, .bool c.ending, .string c.berth], .agg #[.string s.name, .int .i64 s.version, .bool s.gone, .int .i64 s.image, .int .i64 s.want, .int .i64 s.down, .int .i64 s.over, .int .i64 s.next, .int .i64 s.per, .int .i64 s.least, .int .i64 s.most, .int .i64 s.load, .int .i64 s.cool], .int .i64 now] w fun e w' => e = .returned (.bool (cpOk now s c)) ∧ Below w.heap.size w w' := by
  have hfin : Below w.heap.size w ((w.alloc (.cells #[.string c.service, .int .i64 c.number, .int .i64 c.version, .int .i64 c.image, .int .i64 c.state, .bool c.ending, .string c.berth] 88)).alloc (.cells #[.string s.name, .int .i64 s.version, .bool s.gone, .int .i64 s.image, .int .i64 s.want, .int .i64 s.down, .int .i64 s.over, .int .i64 s.next, .int .i64 s.per, .int .i64 s.least, .int .i64 s.most, .int .i64 s.load, .int .i64 s.cool] 48)) := ((Below.refl _ _).alloc (Nat.le_refl _) _).alloc (by simp) _
  go_enter Tryz.func105, Tryz.ntmps105
  go_wp2_with (go_at_call 64; refine (within_any _ _ _ _).mono ?_; rintro e w' ⟨rfl, rfl⟩)
  all_goals
    go_ret
    exact ⟨ret_bool (by simp [cpOk, *]), hfin⟩

end Go.Proofs.YtbceafpodamnfabGreat

/-
  My own. All checks in a list hold.
-/
namespace Go.Proofs.YtbceafpodamnfabGreat
open Go.RowKit Go.Sort

def svcP (s : Svc) : Nat → Bool
  | 0 => nameB s.name
  | 1 => numB s
  | 2 => spareB s
  | 3 => followB s
  | _ => stillB s
theorem svcP_all (s : Svc) : allTo (svcP s) 5 = (nameB s.name && numB s && spareB s && followB s && stillB s) := by
  simp [allTo, List.range, List.range.loop, svcP, Bool.and_assoc]

/-- The five checks lie at block b. -/
def FnsS (w : World) (b : Nat) : Prop := w.heap[b]? = some (.cells #[.func (.func 97) #[] #[], .func (.func 98) #[] #[], .func (.func 99) #[] #[], .func (.func 100) #[] #[], .func (.func 101) #[] #[]] 133 (0, 0))

set_option maxHeartbeats 4000000 in
theorem allHoldS_any (s : Svc) (b : Nat) (w : World) (hs : s.name.size ≤ maxLen) (hF : FnsS w b) :
    Calls Tryz.prog 102 #[.agg #[.string s.name, .int .i64 s.version, .bool s.gone, .int .i64 s.image, .int .i64 s.want, .int .i64 s.down, .int .i64 s.over, .int .i64 s.next, .int .i64 s.per, .int .i64 s.least, .int .i64 s.most, .int .i64 s.load, .int .i64 s.cool], .slice (some ⟨b, 0, none⟩) 5 5] w fun e w' => e = .returned (.bool (allTo (svcP s) 5)) ∧ Below w.heap.size w w' := by
  have hbx := below_box w (.cells #[.string s.name, .int .i64 s.version, .bool s.gone, .int .i64 s.image, .int .i64 s.want, .int .i64 s.down, .int .i64 s.over, .int .i64 s.next, .int .i64 s.per, .int .i64 s.least, .int .i64 s.most, .int .i64 s.load, .int .i64 s.cool] 48)
  have hbox : Hid _ := heap_alloc_new w (.cells #[.string s.name, .int .i64 s.version, .bool s.gone, .int .i64 s.image, .int .i64 s.want, .int .i64 s.down, .int .i64 s.over, .int .i64 s.next, .int .i64 s.per, .int .i64 s.least, .int .i64 s.most, .int .i64 s.load, .int .i64 s.cool] 48)
  have hblt : b < w.heap.size := (Array.getElem?_eq_some_iff.1 hF).1
  have HF : Hid (FnsS w b) := hF
  clear hF
  go_enter Tryz.func102, Tryz.ntmps102
  go_wp2
  go_loopw [9] (fun iv wr => ∃ k : Nat, k ≤ 5 ∧ iv = .int .i64 k ∧ Below w.heap.size w wr ∧ Hid (wr.heap[w.heap.size]? = some (.cells #[.string s.name, .int .i64 s.version, .bool s.gone, .int .i64 s.image, .int .i64 s.want, .int .i64 s.down, .int .i64 s.over, .int .i64 s.next, .int .i64 s.per, .int .i64 s.least, .int .i64 s.most, .int .i64 s.load, .int .i64 s.cool] 48 (0, 0))) ∧ Hid (∀ i, i < k → svcP s i = true)) (fun i _ => 5 - (intOf i).toNat)
  case atStart => exact ⟨0, by omega, rfl, hbx, hbox, fun i hi => absurd hi (by omega)⟩
  case round =>
    obtain ⟨k, hk, rfl, hb, hbox1, hall⟩ := hrel
    have hNlt : w.heap.size < wr.heap.size := (Array.getElem?_eq_some_iff.1 hbox1.out).1
    have hfn : Hid _ := below_blk hb HF.out hblt
    have x0 := blk_cell hbox1.out 0 rfl
    have x1 := blk_cell hbox1.out 1 rfl
    have x2 := blk_cell hbox1.out 2 rfl
    have x3 := blk_cell hbox1.out 3 rfl
    have x4 := blk_cell hbox1.out 4 rfl
    have x5 := blk_cell hbox1.out 5 rfl
    have x6 := blk_cell hbox1.out 6 rfl
    have x7 := blk_cell hbox1.out 7 rfl
    have x8 := blk_cell hbox1.out 8 rfl
    have x9 := blk_cell hbox1.out 9 rfl
    have x10 := blk_cell hbox1.out 10 rfl
    have x11 := blk_cell hbox1.out 11 rfl
    have x12 := blk_cell hbox1.out 12 rfl
    by_cases h0 : k = 0
    · subst h0
      have f0 := blk_cell hfn.out 0 rfl
      cases hv : nameB s.name
      · have HV : Hid ((svcP s) 0 = false) := hv
        go_wp2_with fail
        refine (serviceNamed_any s _ hs).mono ?_
        rintro e w1 ⟨rfl, hb1⟩
        have hb2 := hb.trans (hb1.mono hb.size)
        rw [hv]
        clear x0 x1 x2 x3 x4 x5 x6 x7 x8 x9 x10 x11 x12 f0
        go_wp2
        go_ret
        exact ⟨ret_bool (allTo_no (by omega) HV.out).symm, hb2⟩
      · have HV : Hid ((svcP s) 0 = true) := hv
        go_wp2_with fail
        refine (serviceNamed_any s _ hs).mono ?_
        rintro e w1 ⟨rfl, hb1⟩
        have hb2 := hb.trans (hb1.mono hb.size)
        have hbox2 : Hid _ := below_blk hb1 hbox1.out hNlt
        rw [hv]
        clear x0 x1 x2 x3 x4 x5 x6 x7 x8 x9 x10 x11 x12 f0
        go_wp2
        go_roundw
        case rel => exact ⟨0 + 1, by omega, by go_num, hb2, hbox2, upTo_step hall.out HV.out⟩
        case measure => simp [intOf]
    by_cases h1 : k = 1
    · subst h1
      have f1 := blk_cell hfn.out 1 rfl
      cases hv : numB s
      · have HV : Hid ((svcP s) 1 = false) := hv
        go_wp2_with fail
        refine (numbersHold_any s _).mono ?_
        rintro e w1 ⟨rfl, hb1⟩
        have hb2 := hb.trans (hb1.mono hb.size)
        rw [hv]
        clear x0 x1 x2 x3 x4 x5 x6 x7 x8 x9 x10 x11 x12 f1
        go_wp2
        go_ret
        exact ⟨ret_bool (allTo_no (by omega) HV.out).symm, hb2⟩
      · have HV : Hid ((svcP s) 1 = true) := hv
        go_wp2_with fail
        refine (numbersHold_any s _).mono ?_
        rintro e w1 ⟨rfl, hb1⟩
        have hb2 := hb.trans (hb1.mono hb.size)
        have hbox2 : Hid _ := below_blk hb1 hbox1.out hNlt
        rw [hv]
        clear x0 x1 x2 x3 x4 x5 x6 x7 x8 x9 x10 x11 x12 f1
        go_wp2
        go_roundw
        case rel => exact ⟨1 + 1, by omega, by go_num, hb2, hbox2, upTo_step hall.out HV.out⟩
        case measure => simp [intOf]
    by_cases h2 : k = 2
    · subst h2
      have f2 := blk_cell hfn.out 2 rfl
      cases hv : spareB s
      · have HV : Hid ((svcP s) 2 = false) := hv
        go_wp2_with fail
        refine (spareHolds_any s _).mono ?_
        rintro e w1 ⟨rfl, hb1⟩
        have hb2 := hb.trans (hb1.mono hb.size)
        rw [hv]
        clear x0 x1 x2 x3 x4 x5 x6 x7 x8 x9 x10 x11 x12 f2
        go_wp2
        go_ret
        exact ⟨ret_bool (allTo_no (by omega) HV.out).symm, hb2⟩
      · have HV : Hid ((svcP s) 2 = true) := hv
        go_wp2_with fail
        refine (spareHolds_any s _).mono ?_
        rintro e w1 ⟨rfl, hb1⟩
        have hb2 := hb.trans (hb1.mono hb.size)
        have hbox2 : Hid _ := below_blk hb1 hbox1.out hNlt
        rw [hv]
        clear x0 x1 x2 x3 x4 x5 x6 x7 x8 x9 x10 x11 x12 f2
        go_wp2
        go_roundw
        case rel => exact ⟨2 + 1, by omega, by go_num, hb2, hbox2, upTo_step hall.out HV.out⟩
        case measure => simp [intOf]
    by_cases h3 : k = 3
    · subst h3
      have f3 := blk_cell hfn.out 3 rfl
      cases hv : followB s
      · have HV : Hid ((svcP s) 3 = false) := hv
        go_wp2_with fail
        refine (followHolds_any s _).mono ?_
        rintro e w1 ⟨rfl, hb1⟩
        have hb2 := hb.trans (hb1.mono hb.size)
        rw [hv]
        clear x0 x1 x2 x3 x4 x5 x6 x7 x8 x9 x10 x11 x12 f3
        go_wp2
        go_ret
        exact ⟨ret_bool (allTo_no (by omega) HV.out).symm, hb2⟩
      · have HV : Hid ((svcP s) 3 = true) := hv
        go_wp2_with fail
        refine (followHolds_any s _).mono ?_
        rintro e w1 ⟨rfl, hb1⟩
        have hb2 := hb.trans (hb1.mono hb.size)
        have hbox2 : Hid _ := below_blk hb1 hbox1.out hNlt
        rw [hv]
        clear x0 x1 x2 x3 x4 x5 x6 x7 x8 x9 x10 x11 x12 f3
        go_wp2
        go_roundw
        case rel => exact ⟨3 + 1, by omega, by go_num, hb2, hbox2, upTo_step hall.out HV.out⟩
        case measure => simp [intOf]
    by_cases h4 : k = 4
    · subst h4
      have f4 := blk_cell hfn.out 4 rfl
      cases hv : stillB s
      · have HV : Hid ((svcP s) 4 = false) := hv
        go_wp2_with fail
        refine (stillWithoutPer_any s _).mono ?_
        rintro e w1 ⟨rfl, hb1⟩
        have hb2 := hb.trans (hb1.mono hb.size)
        rw [hv]
        clear x0 x1 x2 x3 x4 x5 x6 x7 x8 x9 x10 x11 x12 f4
        go_wp2
        go_ret
        exact ⟨ret_bool (allTo_no (by omega) HV.out).symm, hb2⟩
      · have HV : Hid ((svcP s) 4 = true) := hv
        go_wp2_with fail
        refine (stillWithoutPer_any s _).mono ?_
        rintro e w1 ⟨rfl, hb1⟩
        have hb2 := hb.trans (hb1.mono hb.size)
        have hbox2 : Hid _ := below_blk hb1 hbox1.out hNlt
        rw [hv]
        clear x0 x1 x2 x3 x4 x5 x6 x7 x8 x9 x10 x11 x12 f4
        go_wp2
        go_roundw
        case rel => exact ⟨4 + 1, by omega, by go_num, hb2, hbox2, upTo_step hall.out HV.out⟩
        case measure => simp [intOf]
    · have h5 : k = 5 := by omega
      subst h5
      clear x0 x1 x2 x3 x4 x5 x6 x7 x8 x9 x10 x11 x12
      go_wp2
      go_ret
      exact ⟨ret_bool (allTo_yes hall.out).symm, hb⟩

end Go.Proofs.YtbceafpodamnfabGreat

/-
  My own. The program's check of the services.
-/
namespace Go.Proofs.YtbceafpodamnfabGreat
open Go.RowKit Go.Sort

set_option maxHeartbeats 8000000 in
theorem servicesHold_any (B : Bk) (a1 a2 a3 : Option Addr) (c1 c2 c3 : Nat) (w : World) (hS : B.small) (hZ : B.sized) (hB : BkAt w a1 a2 a3 B) :
    Calls Tryz.prog 68 #[.agg #[.int .i64 B.now, .slice a1 B.svcs.length c1, .slice a2 B.cps.length c2, .slice a3 B.bts.length c3]] w fun e w' => e = .returned (.bool (allTo (svcAtB B) B.svcs.length)) ∧ Below w.heap.size w w' := by
  obtain ⟨hl1, hl2, hl3⟩ := hS
  obtain ⟨t0, t1, t2⟩ := two_new w (.cells #[.int .i64 B.now, .slice a1 B.svcs.length c1, .slice a2 B.cps.length c2, .slice a3 B.bts.length c3] 34) (.cells #[.func (.func 97) #[] #[], .func (.func 98) #[] #[], .func (.func 99) #[] #[], .func (.func 100) #[] #[], .func (.func 101) #[] #[]] 133)
  have T0 : Hid _ := t0
  have T1 : Hid _ := t1
  clear t0 t1 t2
  go_enter Tryz.func68, Tryz.ntmps68
  go_wp2
  go_loopw [10] (fun iv wr => ∃ k : Nat, k ≤ B.svcs.length ∧ iv = .int .i64 k ∧ Below w.heap.size w wr ∧ Hid (wr.heap[w.heap.size]? = some (.cells #[.int .i64 B.now, .slice a1 B.svcs.length c1, .slice a2 B.cps.length c2, .slice a3 B.bts.length c3] 34 (0, 0))) ∧ Hid (FnsS wr (w.heap.size + 1)) ∧ Hid (∀ i, i < k → svcAtB B i = true)) (fun i _ => B.svcs.length - (intOf i).toNat)
  case atStart => exact ⟨0, by omega, rfl, ((Below.refl _ _).alloc (Nat.le_refl _) _).alloc (by simp) _, T0, T1, fun i hi => absurd hi (by omega)⟩
  case round =>
    obtain ⟨k, hk, rfl, hb, hbox, hfn, hall⟩ := hrel
    have hNlt : w.heap.size + 1 < wr.heap.size := (Array.getElem?_eq_some_iff.1 hfn.out).1
    have hNlt0 : w.heap.size < wr.heap.size := by omega
    by_cases hlt : k < B.svcs.length
    · have hne : B.svcs ≠ [] := by intro h; rw [h] at hlt; simp at hlt
      obtain ⟨b, off, ea, hbs, hat⟩ := hB.1 hne
      subst ea
      obtain ⟨s, hsk⟩ : ∃ s, B.svcs[k]? = some s := ⟨B.svcs[k], by simp [hlt]⟩
      have hmem := hZ.2.2.2.1 s (List.mem_of_getElem? hsk)
      have HSK : Hid _ := hsk
      have hcs := (hat k s hsk).below hb hbs
      unfold SvcAt at hcs
      obtain ⟨x0, x1, x2, x3, x4, x5, x6, x7, x8, x9, x10, x11, x12⟩ := hcs
      have hbr : Below w.heap.size w (wr.alloc (.cells #[.string s.name, .int .i64 s.version, .bool s.gone, .int .i64 s.image, .int .i64 s.want, .int .i64 s.down, .int .i64 s.over, .int .i64 s.next, .int .i64 s.per, .int .i64 s.least, .int .i64 s.most, .int .i64 s.load, .int .i64 s.cool] 48)) := hb.alloc hb.size _
      have HSZ : Hid ((wr.alloc (.cells #[.string s.name, .int .i64 s.version, .bool s.gone, .int .i64 s.image, .int .i64 s.want, .int .i64 s.down, .int .i64 s.over, .int .i64 s.next, .int .i64 s.per, .int .i64 s.least, .int .i64 s.most, .int .i64 s.load, .int .i64 s.cool] 48)).heap.size = wr.heap.size + 1) := by show (wr.heap.push _).size = _; simp
      have HBX : Hid _ := heap_alloc_new wr (.cells #[.string s.name, .int .i64 s.version, .bool s.gone, .int .i64 s.image, .int .i64 s.want, .int .i64 s.down, .int .i64 s.over, .int .i64 s.next, .int .i64 s.per, .int .i64 s.least, .int .i64 s.most, .int .i64 s.load, .int .i64 s.cool] 48)
      have hw1 := below_box wr (.cells #[.string s.name, .int .i64 s.version, .bool s.gone, .int .i64 s.image, .int .i64 s.want, .int .i64 s.down, .int .i64 s.over, .int .i64 s.next, .int .i64 s.per, .int .i64 s.least, .int .i64 s.most, .int .i64 s.load, .int .i64 s.cool] 48)
      have hboxr : Hid _ := below_blk hw1 hbox.out (by omega)
      have hfnr : Hid (FnsS (wr.alloc (.cells #[.string s.name, .int .i64 s.version, .bool s.gone, .int .i64 s.image, .int .i64 s.want, .int .i64 s.down, .int .i64 s.over, .int .i64 s.next, .int .i64 s.per, .int .i64 s.least, .int .i64 s.most, .int .i64 s.load, .int .i64 s.cool] 48)) (w.heap.size + 1)) := below_blk hw1 hfn.out hNlt
      clear hsk
      by_cases hk0 : k = 0
      · have HK0 : Hid (k = 0) := hk0
        have hz : decide (0 < k) = false := by simp; omega
        clear hk0 hat hne
        go_wp2
        clear x0 x1 x2 x3 x4 x5 x6 x7 x8 x9 x10 x11 x12
        refine wp_region_quiet_below (by kernel_rfl) (by kernel_rfl) ?_
        repeat (first | go_big_quiet_step (fail) | quiet_step (fail))
        refine wpQuiet_nil ?_
        intro w2 hw'
        obtain ⟨⟨dq, osq⟩, hw''⟩ := hw'
        have hb2 : Below (wr.alloc (.cells #[.string s.name, .int .i64 s.version, .bool s.gone, .int .i64 s.image, .int .i64 s.want, .int .i64 s.down, .int .i64 s.over, .int .i64 s.next, .int .i64 s.per, .int .i64 s.least, .int .i64 s.most, .int .i64 s.load, .int .i64 s.cool] 48)).heap.size (wr.alloc (.cells #[.string s.name, .int .i64 s.version, .bool s.gone, .int .i64 s.image, .int .i64 s.want, .int .i64 s.down, .int .i64 s.over, .int .i64 s.next, .int .i64 s.per, .int .i64 s.least, .int .i64 s.most, .int .i64 s.load, .int .i64 s.cool] 48)) w2 := by rw [hw'']; exact below_regrown _ _ _
        clear hw''
        have hbr2 := hbr.trans (hb2.mono hbr.size)
        have bxr : Hid _ := below_blk hb2 HBX.out (by rw [HSZ.out]; omega)
        have box2 : Hid _ := below_blk hb2 hboxr.out (by rw [HSZ.out]; omega)
        have fns2 : Hid (FnsS w2 (w.heap.size + 1)) := below_blk hb2 hfnr.out (by rw [HSZ.out]; omega)
        have hz2 : wr.heap.size < w2.heap.size := by have := hb2.size; rw [HSZ.out] at this; omega
        have r0 := blk_cell bxr.out 0 rfl
        have r1 := blk_cell bxr.out 1 rfl
        have r2 := blk_cell bxr.out 2 rfl
        have r3 := blk_cell bxr.out 3 rfl
        have r4 := blk_cell bxr.out 4 rfl
        have r5 := blk_cell bxr.out 5 rfl
        have r6 := blk_cell bxr.out 6 rfl
        have r7 := blk_cell bxr.out 7 rfl
        have r8 := blk_cell bxr.out 8 rfl
        have r9 := blk_cell bxr.out 9 rfl
        have r10 := blk_cell bxr.out 10 rfl
        have r11 := blk_cell bxr.out 11 rfl
        have r12 := blk_cell bxr.out 12 rfl
        have q0 := blk_cell box2.out 0 rfl
        cases hver : inB s.version 1 B.now
        · have HNO : Hid (svcAtB B k = false) := by unfold Hid svcAtB; rw [HSK.out]; simp [svcB_split, hver]
          go_wp2_with (go_at_call 64; refine (within_any _ _ _ _).mono ?_; rintro e w' ⟨rfl, rfl⟩)
          go_ret
          exact ⟨ret_bool (allTo_no hlt HNO.out).symm, hbr2⟩
        cases hal : allTo (svcP s) 5
        · have HNO : Hid (svcAtB B k = false) := by unfold Hid svcAtB; rw [HSK.out]; simp [svcB_split, hver, ← svcP_all, hal]
          go_wp2_with (first | (go_at_call 64; refine (within_any _ _ _ _).mono ?_; rintro e w' ⟨rfl, rfl⟩) | (go_at_call 102; refine (allHoldS_any s (w.heap.size + 1) _ hmem fns2.out).mono ?_; rintro e w3 ⟨rfl, hb3⟩))
          go_ret
          exact ⟨ret_bool (allTo_no hlt HNO.out).symm, hbr2.trans (hb3.mono hbr2.size)⟩
        have HYES : Hid (svcAtB B k = true) := by unfold Hid svcAtB; rw [HSK.out]; simp [svcB_split, hver, ← svcP_all, hal, HK0.out]
        go_wp2_with (first | (go_at_call 64; refine (within_any _ _ _ _).mono ?_; rintro e w' ⟨rfl, rfl⟩) | (go_at_call 102; refine (allHoldS_any s (w.heap.size + 1) _ hmem fns2.out).mono ?_; rintro e w3 ⟨rfl, hb3⟩))
        have hb4 := hbr2.trans (hb3.mono hbr2.size)
        have box3 : Hid _ := below_blk hb3 box2.out (by omega)
        have fns3 : Hid (FnsS w3 (w.heap.size + 1)) := below_blk hb3 fns2.out (by omega)
        go_roundw
        case rel => exact ⟨k + 1, by omega, by go_num, hb4, box3, fns3, upTo_step hall.out HYES.out⟩
        case measure => simp [intOf]; omega
      obtain ⟨k', rfl⟩ : ∃ k', k = k' + 1 := ⟨k - 1, by omega⟩
      clear hk0
      obtain ⟨p, hpk⟩ : ∃ p, B.svcs[k']? = some p := ⟨B.svcs[k']'(by omega), by rw [List.getElem?_eq_getElem]⟩
      have HPK : Hid _ := hpk
      obtain ⟨y0, y1, y2, y3, y4, y5, y6, y7, y8, y9, y10, y11, y12⟩ := ((hat k' p hpk).below (hb.trans (hw1.mono hb.size)) hbs).grown
      have gx0 := gcell HBX.out 0 rfl
      have gb1 := gcell hboxr.out 1 rfl
      have HTRI := bytesLess_tri s.name.toList p.name.toList
      have HT : Hid _ := HTRI
      clear HTRI hpk hat hne
      cases hle : Op.bytesLess p.name.toList s.name.toList
      · have HNO : Hid (svcAtB B (k' + 1) = false) := by unfold Hid svcAtB; rw [HSK.out]; simp [HPK.out, hle]
        have hle2 : (Op.bytesLess s.name.toList p.name.toList || s.name.toList == p.name.toList) = true := by rw [HT.out, hle]; rfl
        clear hle
        go_wp2
        clear x0 x1 x2 x3 x4 x5 x6 x7 x8 x9 x10 x11 x12
        refine wp_region_quiet_below (by kernel_rfl) (by kernel_rfl) ?_
        repeat (first | go_big_quiet_step (fail) | quiet_step (fail))
        refine wpQuiet_nil ?_
        intro w2 hw'
        obtain ⟨⟨dq, osq⟩, hw''⟩ := hw'
        have hb2 : Below (wr.alloc (.cells #[.string s.name, .int .i64 s.version, .bool s.gone, .int .i64 s.image, .int .i64 s.want, .int .i64 s.down, .int .i64 s.over, .int .i64 s.next, .int .i64 s.per, .int .i64 s.least, .int .i64 s.most, .int .i64 s.load, .int .i64 s.cool] 48)).heap.size (wr.alloc (.cells #[.string s.name, .int .i64 s.version, .bool s.gone, .int .i64 s.image, .int .i64 s.want, .int .i64 s.down, .int .i64 s.over, .int .i64 s.next, .int .i64 s.per, .int .i64 s.least, .int .i64 s.most, .int .i64 s.load, .int .i64 s.cool] 48)) w2 := by rw [hw'']; exact below_regrown _ _ _
        clear hw''
        go_wp2
        go_ret
        exact ⟨ret_bool (allTo_no hlt HNO.out).symm, hbr.trans (hb2.mono hbr.size)⟩
      · have hle2 : (Op.bytesLess s.name.toList p.name.toList || s.name.toList == p.name.toList) = false := by rw [HT.out, hle]; rfl
        have HLE : Hid _ := hle
        clear hle
        go_wp2
        clear x0 x1 x2 x3 x4 x5 x6 x7 x8 x9 x10 x11 x12
        refine wp_region_quiet_below (by kernel_rfl) (by kernel_rfl) ?_
        repeat (first | go_big_quiet_step (fail) | quiet_step (fail))
        refine wpQuiet_nil ?_
        intro w2 hw'
        obtain ⟨⟨dq, osq⟩, hw''⟩ := hw'
        have hb2 : Below (wr.alloc (.cells #[.string s.name, .int .i64 s.version, .bool s.gone, .int .i64 s.image, .int .i64 s.want, .int .i64 s.down, .int .i64 s.over, .int .i64 s.next, .int .i64 s.per, .int .i64 s.least, .int .i64 s.most, .int .i64 s.load, .int .i64 s.cool] 48)).heap.size (wr.alloc (.cells #[.string s.name, .int .i64 s.version, .bool s.gone, .int .i64 s.image, .int .i64 s.want, .int .i64 s.down, .int .i64 s.over, .int .i64 s.next, .int .i64 s.per, .int .i64 s.least, .int .i64 s.most, .int .i64 s.load, .int .i64 s.cool] 48)) w2 := by rw [hw'']; exact below_regrown _ _ _
        clear hw''
        clear gx0 gb1 hle2 y0 y1 y2 y3 y4 y5 y6 y7 y8 y9 y10 y11 y12
        have hbr2 := hbr.trans (hb2.mono hbr.size)
        have bxr : Hid _ := below_blk hb2 HBX.out (by rw [HSZ.out]; omega)
        have box2 : Hid _ := below_blk hb2 hboxr.out (by rw [HSZ.out]; omega)
        have fns2 : Hid (FnsS w2 (w.heap.size + 1)) := below_blk hb2 hfnr.out (by rw [HSZ.out]; omega)
        have hz2 : wr.heap.size < w2.heap.size := by have := hb2.size; rw [HSZ.out] at this; omega
        have r0 := blk_cell bxr.out 0 rfl
        have r1 := blk_cell bxr.out 1 rfl
        have r2 := blk_cell bxr.out 2 rfl
        have r3 := blk_cell bxr.out 3 rfl
        have r4 := blk_cell bxr.out 4 rfl
        have r5 := blk_cell bxr.out 5 rfl
        have r6 := blk_cell bxr.out 6 rfl
        have r7 := blk_cell bxr.out 7 rfl
        have r8 := blk_cell bxr.out 8 rfl
        have r9 := blk_cell bxr.out 9 rfl
        have r10 := blk_cell bxr.out 10 rfl
        have r11 := blk_cell bxr.out 11 rfl
        have r12 := blk_cell bxr.out 12 rfl
        have q0 := blk_cell box2.out 0 rfl
        cases hver : inB s.version 1 B.now
        · have HNO : Hid (svcAtB B (k' + 1) = false) := by unfold Hid svcAtB; rw [HSK.out]; simp [svcB_split, hver]
          go_wp2_with (go_at_call 64; refine (within_any _ _ _ _).mono ?_; rintro e w' ⟨rfl, rfl⟩)
          go_ret
          exact ⟨ret_bool (allTo_no hlt HNO.out).symm, hbr2⟩
        cases hal : allTo (svcP s) 5
        · have HNO : Hid (svcAtB B (k' + 1) = false) := by unfold Hid svcAtB; rw [HSK.out]; simp [svcB_split, hver, ← svcP_all, hal]
          go_wp2_with (first | (go_at_call 64; refine (within_any _ _ _ _).mono ?_; rintro e w' ⟨rfl, rfl⟩) | (go_at_call 102; refine (allHoldS_any s (w.heap.size + 1) _ hmem fns2.out).mono ?_; rintro e w3 ⟨rfl, hb3⟩))
          go_ret
          exact ⟨ret_bool (allTo_no hlt HNO.out).symm, hbr2.trans (hb3.mono hbr2.size)⟩
        have HYES : Hid (svcAtB B (k' + 1) = true) := by unfold Hid svcAtB; rw [HSK.out]; simp [svcB_split, hver, ← svcP_all, hal, HPK.out, HLE.out]
        go_wp2_with (first | (go_at_call 64; refine (within_any _ _ _ _).mono ?_; rintro e w' ⟨rfl, rfl⟩) | (go_at_call 102; refine (allHoldS_any s (w.heap.size + 1) _ hmem fns2.out).mono ?_; rintro e w3 ⟨rfl, hb3⟩))
        have hb4 := hbr2.trans (hb3.mono hbr2.size)
        have box3 : Hid _ := below_blk hb3 box2.out (by omega)
        have fns3 : Hid (FnsS w3 (w.heap.size + 1)) := below_blk hb3 fns2.out (by omega)
        go_roundw
        case rel => exact ⟨(k' + 1) + 1, by omega, by go_num, hb4, box3, fns3, upTo_step hall.out HYES.out⟩
        case measure => simp [intOf]; omega
    · go_wp2
      go_ret
      exact ⟨ret_bool (allTo_yes fun i hi => hall.out i (by omega)).symm, hb⟩

end Go.Proofs.YtbceafpodamnfabGreat
