/-
  My own: Wn, Wo, Wp, Wu.
-/
import Derived.Test.YtbceafpodamnfabG02
import Derived.Test.YtbceafpodamnfabG01
import Derived.Laws.EntriesVeiled
/-
  My own. All checks in a list hold.
-/
namespace Go.Proofs.Ytbceafpodamnfab
open Go.RowKit Go.Sort

def svcP (s : Svc) : Nat → Bool
  | 0 => nameB s.name
  | 1 => numB s
  | 2 => spareB s
  | 3 => followB s
  | _ => stillB s
theorem svcP_all (s : Svc) : allTo (svcP s) 5 = (nameB s.name && numB s && spareB s && followB s && stillB s) := by
  simp [allTo, List.range, List.range.loop, svcP, Bool.and_assoc]

/-- The five checks lie at block b. -/
def FnsS (w : World) (b : Nat) : Prop := w.heap[b]? = some (.cells #[.func (.func 94) #[] #[], .func (.func 95) #[] #[], .func (.func 96) #[] #[], .func (.func 97) #[] #[], .func (.func 98) #[] #[]] 100 (0, 0))

set_option maxHeartbeats 4000000 in
theorem allHoldS_any (s : Svc) (b : Nat) (w : World) (hs : s.name.size ≤ maxLen) (hF : FnsS w b) :
    Calls Try.prog 99 #[.agg #[.string s.name, .int .i64 s.version, .bool s.gone, .int .i64 s.image, .int .i64 s.want, .int .i64 s.down, .int .i64 s.over, .int .i64 s.next, .int .i64 s.per, .int .i64 s.least, .int .i64 s.most, .int .i64 s.load, .int .i64 s.cool], .slice (some ⟨b, 0, none⟩) 5 5] w fun e w' => e = .returned (.bool (allTo (svcP s) 5)) ∧ Below w.heap.size w w' := by
  have hbx := below_box w (.cells #[.string s.name, .int .i64 s.version, .bool s.gone, .int .i64 s.image, .int .i64 s.want, .int .i64 s.down, .int .i64 s.over, .int .i64 s.next, .int .i64 s.per, .int .i64 s.least, .int .i64 s.most, .int .i64 s.load, .int .i64 s.cool] 57)
  have hbox : Hid _ := heap_alloc_new w (.cells #[.string s.name, .int .i64 s.version, .bool s.gone, .int .i64 s.image, .int .i64 s.want, .int .i64 s.down, .int .i64 s.over, .int .i64 s.next, .int .i64 s.per, .int .i64 s.least, .int .i64 s.most, .int .i64 s.load, .int .i64 s.cool] 57)
  have hblt : b < w.heap.size := (Array.getElem?_eq_some_iff.1 hF).1
  have HF : Hid (FnsS w b) := hF
  clear hF
  go_enter Try.func99, Try.ntmps99
  go_wp2
  go_loopw [9] (fun iv wr => ∃ k : Nat, k ≤ 5 ∧ iv = .int .i64 k ∧ Below w.heap.size w wr ∧ Hid (wr.heap[w.heap.size]? = some (.cells #[.string s.name, .int .i64 s.version, .bool s.gone, .int .i64 s.image, .int .i64 s.want, .int .i64 s.down, .int .i64 s.over, .int .i64 s.next, .int .i64 s.per, .int .i64 s.least, .int .i64 s.most, .int .i64 s.load, .int .i64 s.cool] 57 (0, 0))) ∧ Hid (∀ i, i < k → svcP s i = true)) (fun i _ => 5 - (intOf i).toNat)
  case atStart => exact ⟨0, by omega, rfl, hbx, hbox, fun i hi => absurd hi (by omega)⟩
  case round =>
    obtain ⟨k, hk, rfl, hb, hbox1, hall⟩ := hrel
    have hNlt : w.heap.size < wr.heap.size := (Array.getElem?_eq_some_iff.1 hbox1.out).1
    have hfn : Hid _ := below_blk hb HF.out hblt
    have x0 := blk_cell hbox1.out 0 rfl
    have x1 := blk_cell hbox1.out 1 rfl
    have x2 := blk_cell hbox1.out 2 rfl
    have x3 := blk_cell hbox1.out 3 rfl
    have x4 := blk_cell hbox1.out 4 rfl
    have x5 := blk_cell hbox1.out 5 rfl
    have x6 := blk_cell hbox1.out 6 rfl
    have x7 := blk_cell hbox1.out 7 rfl
    have x8 := blk_cell hbox1.out 8 rfl
    have x9 := blk_cell hbox1.out 9 rfl
    have x10 := blk_cell hbox1.out 10 rfl
    have x11 := blk_cell hbox1.out 11 rfl
    have x12 := blk_cell hbox1.out 12 rfl
    by_cases h0 : k = 0
    · subst h0
      have f0 := blk_cell hfn.out 0 rfl
      cases hv : nameB s.name
      · have HV : Hid ((svcP s) 0 = false) := hv
        go_wp2_with fail
        refine (serviceNamed_any s _ hs).mono ?_
        rintro e w1 ⟨rfl, hb1⟩
        have hb2 := hb.trans (hb1.mono hb.size)
        rw [hv]
        clear x0 x1 x2 x3 x4 x5 x6 x7 x8 x9 x10 x11 x12 f0
        go_wp2
        go_ret
        exact ⟨ret_bool (allTo_no (by omega) HV.out).symm, hb2⟩
      · have HV : Hid ((svcP s) 0 = true) := hv
        go_wp2_with fail
        refine (serviceNamed_any s _ hs).mono ?_
        rintro e w1 ⟨rfl, hb1⟩
        have hb2 := hb.trans (hb1.mono hb.size)
        have hbox2 : Hid _ := below_blk hb1 hbox1.out hNlt
        rw [hv]
        clear x0 x1 x2 x3 x4 x5 x6 x7 x8 x9 x10 x11 x12 f0
        go_wp2
        go_roundw
        case rel => exact ⟨0 + 1, by omega, by go_num, hb2, hbox2, upTo_step hall.out HV.out⟩
        case measure => simp [intOf]
    by_cases h1 : k = 1
    · subst h1
      have f1 := blk_cell hfn.out 1 rfl
      cases hv : numB s
      · have HV : Hid ((svcP s) 1 = false) := hv
        go_wp2_with fail
        refine (numbersHold_any s _).mono ?_
        rintro e w1 ⟨rfl, hb1⟩
        have hb2 := hb.trans (hb1.mono hb.size)
        rw [hv]
        clear x0 x1 x2 x3 x4 x5 x6 x7 x8 x9 x10 x11 x12 f1
        go_wp2
        go_ret
        exact ⟨ret_bool (allTo_no (by omega) HV.out).symm, hb2⟩
      · have HV : Hid ((svcP s) 1 = true) := hv
        go_wp2_with fail
        refine (numbersHold_any s _).mono ?_
        rintro e w1 ⟨rfl, hb1⟩
        have hb2 := hb.trans (hb1.mono hb.size)
        have hbox2 : Hid _ := below_blk hb1 hbox1.out hNlt
        rw [hv]
        clear x0 x1 x2 x3 x4 x5 x6 x7 x8 x9 x10 x11 x12 f1
        go_wp2
        go_roundw
        case rel => exact ⟨1 + 1, by omega, by go_num, hb2, hbox2, upTo_step hall.out HV.out⟩
        case measure => simp [intOf]
    by_cases h2 : k = 2
    · subst h2
      have f2 := blk_cell hfn.out 2 rfl
      cases hv : spareB s
      · have HV : Hid ((svcP s) 2 = false) := hv
        go_wp2_with fail
        refine (spareHolds_any s _).mono ?_
        rintro e w1 ⟨rfl, hb1⟩
        have hb2 := hb.trans (hb1.mono hb.size)
        rw [hv]
        clear x0 x1 x2 x3 x4 x5 x6 x7 x8 x9 x10 x11 x12 f2
        go_wp2
        go_ret
        exact ⟨ret_bool (allTo_no (by omega) HV.out).symm, hb2⟩
      · have HV : Hid ((svcP s) 2 = true) := hv
        go_wp2_with fail
        refine (spareHolds_any s _).mono ?_
        rintro e w1 ⟨rfl, hb1⟩
        have hb2 := hb.trans (hb1.mono hb.size)
        have hbox2 : Hid _ := below_blk hb1 hbox1.out hNlt
        rw [hv]
        clear x0 x1 x2 x3 x4 x5 x6 x7 x8 x9 x10 x11 x12 f2
        go_wp2
        go_roundw
        case rel => exact ⟨2 + 1, by omega, by go_num, hb2, hbox2, upTo_step hall.out HV.out⟩
        case measure => simp [intOf]
    by_cases h3 : k = 3
    · subst h3
      have f3 := blk_cell hfn.out 3 rfl
      cases hv : followB s
      · have HV : Hid ((svcP s) 3 = false) := hv
        go_wp2_with fail
        refine (followHolds_any s _).mono ?_
        rintro e w1 ⟨rfl, hb1⟩
        have hb2 := hb.trans (hb1.mono hb.size)
        rw [hv]
        clear x0 x1 x2 x3 x4 x5 x6 x7 x8 x9 x10 x11 x12 f3
        go_wp2
        go_ret
        exact ⟨ret_bool (allTo_no (by omega) HV.out).symm, hb2⟩
      · have HV : Hid ((svcP s) 3 = true) := hv
        go_wp2_with fail
        refine (followHolds_any s _).mono ?_
        rintro e w1 ⟨rfl, hb1⟩
        have hb2 := hb.trans (hb1.mono hb.size)
        have hbox2 : Hid _ := below_blk hb1 hbox1.out hNlt
        rw [hv]
        clear x0 x1 x2 x3 x4 x5 x6 x7 x8 x9 x10 x11 x12 f3
        go_wp2
        go_roundw
        case rel => exact ⟨3 + 1, by omega, by go_num, hb2, hbox2, upTo_step hall.out HV.out⟩
        case measure => simp [intOf]
    by_cases h4 : k = 4
    · subst h4
      have f4 := blk_cell hfn.out 4 rfl
      cases hv : stillB s
      · have HV : Hid ((svcP s) 4 = false) := hv
        go_wp2_with fail
        refine (stillWithoutPer_any s _).mono ?_
        rintro e w1 ⟨rfl, hb1⟩
        have hb2 := hb.trans (hb1.mono hb.size)
        rw [hv]
        clear x0 x1 x2 x3 x4 x5 x6 x7 x8 x9 x10 x11 x12 f4
        go_wp2
        go_ret
        exact ⟨ret_bool (allTo_no (by omega) HV.out).symm, hb2⟩
      · have HV : Hid ((svcP s) 4 = true) := hv
        go_wp2_with fail
        refine (stillWithoutPer_any s _).mono ?_
        rintro e w1 ⟨rfl, hb1⟩
        have hb2 := hb.trans (hb1.mono hb.size)
        have hbox2 : Hid _ := below_blk hb1 hbox1.out hNlt
        rw [hv]
        clear x0 x1 x2 x3 x4 x5 x6 x7 x8 x9 x10 x11 x12 f4
        go_wp2
        go_roundw
        case rel => exact ⟨4 + 1, by omega, by go_num, hb2, hbox2, upTo_step hall.out HV.out⟩
        case measure => simp [intOf]
    · have h5 : k = 5 := by omega
      subst h5
      clear x0 x1 x2 x3 x4 x5 x6 x7 x8 x9 x10 x11 x12
      go_wp2
      go_ret
      exact ⟨ret_bool (allTo_yes hall.out).symm, hb⟩

end Go.Proofs.Ytbceafpodamnfab

/-
  My own. The program's check of the services.
-/
namespace Go.Proofs.Ytbceafpodamnfab
open Go.RowKit Go.Sort

set_option maxHeartbeats 8000000 in
theorem servicesHold_any (B : Bk) (a1 a2 a3 : Option Addr) (c1 c2 c3 : Nat) (w : World) (hS : B.small) (hZ : B.sized) (hB : BkAt w a1 a2 a3 B) :
    Calls Try.prog 64 #[.agg #[.int .i64 B.now, .slice a1 B.svcs.length c1, .slice a2 B.cps.length c2, .slice a3 B.bts.length c3]] w fun e w' => e = .returned (.bool (allTo (svcAtB B) B.svcs.length)) ∧ Below w.heap.size w w' := by
  obtain ⟨hl1, hl2, hl3⟩ := hS
  obtain ⟨t0, t1, t2⟩ := two_new w (.cells #[.int .i64 B.now, .slice a1 B.svcs.length c1, .slice a2 B.cps.length c2, .slice a3 B.bts.length c3] 33) (.cells #[.func (.func 94) #[] #[], .func (.func 95) #[] #[], .func (.func 96) #[] #[], .func (.func 97) #[] #[], .func (.func 98) #[] #[]] 100)
  have T0 : Hid _ := t0
  have T1 : Hid _ := t1
  clear t0 t1 t2
  go_enter Try.func64, Try.ntmps64
  go_wp2
  go_loopw [10] (fun iv wr => ∃ k : Nat, k ≤ B.svcs.length ∧ iv = .int .i64 k ∧ Below w.heap.size w wr ∧ Hid (wr.heap[w.heap.size]? = some (.cells #[.int .i64 B.now, .slice a1 B.svcs.length c1, .slice a2 B.cps.length c2, .slice a3 B.bts.length c3] 33 (0, 0))) ∧ Hid (FnsS wr (w.heap.size + 1)) ∧ Hid (∀ i, i < k → svcAtB B i = true)) (fun i _ => B.svcs.length - (intOf i).toNat)
  case atStart => exact ⟨0, by omega, rfl, ((Below.refl _ _).alloc (Nat.le_refl _) _).alloc (by simp) _, T0, T1, fun i hi => absurd hi (by omega)⟩
  case round =>
    obtain ⟨k, hk, rfl, hb, hbox, hfn, hall⟩ := hrel
    have hNlt : w.heap.size + 1 < wr.heap.size := (Array.getElem?_eq_some_iff.1 hfn.out).1
    have hNlt0 : w.heap.size < wr.heap.size := by omega
    by_cases hlt : k < B.svcs.length
    · have hne : B.svcs ≠ [] := by intro h; rw [h] at hlt; simp at hlt
      obtain ⟨b, off, ea, hbs, hat⟩ := hB.1 hne
      subst ea
      obtain ⟨s, hsk⟩ : ∃ s, B.svcs[k]? = some s := ⟨B.svcs[k], by simp [hlt]⟩
      have hmem := hZ.2.2.2.1 s (List.mem_of_getElem? hsk)
      have HSK : Hid _ := hsk
      have hcs := (hat k s hsk).below hb hbs
      unfold SvcAt at hcs
      obtain ⟨x0, x1, x2, x3, x4, x5, x6, x7, x8, x9, x10, x11, x12⟩ := hcs
      have hbr : Below w.heap.size w (wr.alloc (.cells #[.string s.name, .int .i64 s.version, .bool s.gone, .int .i64 s.image, .int .i64 s.want, .int .i64 s.down, .int .i64 s.over, .int .i64 s.next, .int .i64 s.per, .int .i64 s.least, .int .i64 s.most, .int .i64 s.load, .int .i64 s.cool] 57)) := hb.alloc hb.size _
      have HSZ : Hid ((wr.alloc (.cells #[.string s.name, .int .i64 s.version, .bool s.gone, .int .i64 s.image, .int .i64 s.want, .int .i64 s.down, .int .i64 s.over, .int .i64 s.next, .int .i64 s.per, .int .i64 s.least, .int .i64 s.most, .int .i64 s.load, .int .i64 s.cool] 57)).heap.size = wr.heap.size + 1) := by show (wr.heap.push _).size = _; simp
      have HBX : Hid _ := heap_alloc_new wr (.cells #[.string s.name, .int .i64 s.version, .bool s.gone, .int .i64 s.image, .int .i64 s.want, .int .i64 s.down, .int .i64 s.over, .int .i64 s.next, .int .i64 s.per, .int .i64 s.least, .int .i64 s.most, .int .i64 s.load, .int .i64 s.cool] 57)
      have hw1 := below_box wr (.cells #[.string s.name, .int .i64 s.version, .bool s.gone, .int .i64 s.image, .int .i64 s.want, .int .i64 s.down, .int .i64 s.over, .int .i64 s.next, .int .i64 s.per, .int .i64 s.least, .int .i64 s.most, .int .i64 s.load, .int .i64 s.cool] 57)
      have hboxr : Hid _ := below_blk hw1 hbox.out (by omega)
      have hfnr : Hid (FnsS (wr.alloc (.cells #[.string s.name, .int .i64 s.version, .bool s.gone, .int .i64 s.image, .int .i64 s.want, .int .i64 s.down, .int .i64 s.over, .int .i64 s.next, .int .i64 s.per, .int .i64 s.least, .int .i64 s.most, .int .i64 s.load, .int .i64 s.cool] 57)) (w.heap.size + 1)) := below_blk hw1 hfn.out hNlt
      clear hsk
      by_cases hk0 : k = 0
      · have HK0 : Hid (k = 0) := hk0
        have hz : decide (0 < k) = false := by simp; omega
        clear hk0 hat hne
        go_wp2
        clear x0 x1 x2 x3 x4 x5 x6 x7 x8 x9 x10 x11 x12
        refine wp_region_quiet_below (by kernel_rfl) (by kernel_rfl) ?_
        repeat (first | go_big_quiet_step (fail) | quiet_step (fail))
        refine wpQuiet_nil ?_
        intro w2 hw'
        obtain ⟨⟨dq, osq⟩, hw''⟩ := hw'
        have hb2 : Below (wr.alloc (.cells #[.string s.name, .int .i64 s.version, .bool s.gone, .int .i64 s.image, .int .i64 s.want, .int .i64 s.down, .int .i64 s.over, .int .i64 s.next, .int .i64 s.per, .int .i64 s.least, .int .i64 s.most, .int .i64 s.load, .int .i64 s.cool] 57)).heap.size (wr.alloc (.cells #[.string s.name, .int .i64 s.version, .bool s.gone, .int .i64 s.image, .int .i64 s.want, .int .i64 s.down, .int .i64 s.over, .int .i64 s.next, .int .i64 s.per, .int .i64 s.least, .int .i64 s.most, .int .i64 s.load, .int .i64 s.cool] 57)) w2 := by rw [hw'']; exact below_regrown _ _ _
        clear hw''
        have hbr2 := hbr.trans (hb2.mono hbr.size)
        have bxr : Hid _ := below_blk hb2 HBX.out (by rw [HSZ.out]; omega)
        have box2 : Hid _ := below_blk hb2 hboxr.out (by rw [HSZ.out]; omega)
        have fns2 : Hid (FnsS w2 (w.heap.size + 1)) := below_blk hb2 hfnr.out (by rw [HSZ.out]; omega)
        have hz2 : wr.heap.size < w2.heap.size := by have := hb2.size; rw [HSZ.out] at this; omega
        have r0 := blk_cell bxr.out 0 rfl
        have r1 := blk_cell bxr.out 1 rfl
        have r2 := blk_cell bxr.out 2 rfl
        have r3 := blk_cell bxr.out 3 rfl
        have r4 := blk_cell bxr.out 4 rfl
        have r5 := blk_cell bxr.out 5 rfl
        have r6 := blk_cell bxr.out 6 rfl
        have r7 := blk_cell bxr.out 7 rfl
        have r8 := blk_cell bxr.out 8 rfl
        have r9 := blk_cell bxr.out 9 rfl
        have r10 := blk_cell bxr.out 10 rfl
        have r11 := blk_cell bxr.out 11 rfl
        have r12 := blk_cell bxr.out 12 rfl
        have q0 := blk_cell box2.out 0 rfl
        cases hver : inB s.version 1 B.now
        · have HNO : Hid (svcAtB B k = false) := by unfold Hid svcAtB; rw [HSK.out]; simp [svcB_split, hver]
          go_wp2_with (go_at_call 93; refine (within_any _ _ _ _).mono ?_; rintro e w' ⟨rfl, rfl⟩)
          go_ret
          exact ⟨ret_bool (allTo_no hlt HNO.out).symm, hbr2⟩
        cases hal : allTo (svcP s) 5
        · have HNO : Hid (svcAtB B k = false) := by unfold Hid svcAtB; rw [HSK.out]; simp [svcB_split, hver, ← svcP_all, hal]
          go_wp2_with (first | (go_at_call 93; refine (within_any _ _ _ _).mono ?_; rintro e w' ⟨rfl, rfl⟩) | (go_at_call 99; refine (allHoldS_any s (w.heap.size + 1) _ hmem fns2.out).mono ?_; rintro e w3 ⟨rfl, hb3⟩))
          go_ret
          exact ⟨ret_bool (allTo_no hlt HNO.out).symm, hbr2.trans (hb3.mono hbr2.size)⟩
        have HYES : Hid (svcAtB B k = true) := by unfold Hid svcAtB; rw [HSK.out]; simp [svcB_split, hver, ← svcP_all, hal, HK0.out]
        go_wp2_with (first | (go_at_call 93; refine (within_any _ _ _ _).mono ?_; rintro e w' ⟨rfl, rfl⟩) | (go_at_call 99; refine (allHoldS_any s (w.heap.size + 1) _ hmem fns2.out).mono ?_; rintro e w3 ⟨rfl, hb3⟩))
        have hb4 := hbr2.trans (hb3.mono hbr2.size)
        have box3 : Hid _ := below_blk hb3 box2.out (by omega)
        have fns3 : Hid (FnsS w3 (w.heap.size + 1)) := below_blk hb3 fns2.out (by omega)
        go_roundw
        case rel => exact ⟨k + 1, by omega, by go_num, hb4, box3, fns3, upTo_step hall.out HYES.out⟩
        case measure => simp [intOf]; omega
      obtain ⟨k', rfl⟩ : ∃ k', k = k' + 1 := ⟨k - 1, by omega⟩
      clear hk0
      obtain ⟨p, hpk⟩ : ∃ p, B.svcs[k']? = some p := ⟨B.svcs[k']'(by omega), by rw [List.getElem?_eq_getElem]⟩
      have HPK : Hid _ := hpk
      obtain ⟨y0, y1, y2, y3, y4, y5, y6, y7, y8, y9, y10, y11, y12⟩ := ((hat k' p hpk).below (hb.trans (hw1.mono hb.size)) hbs).grown
      have gx0 := gcell HBX.out 0 rfl
      have gb1 := gcell hboxr.out 1 rfl
      have HTRI := bytesLess_tri s.name.toList p.name.toList
      have HT : Hid _ := HTRI
      clear HTRI hpk hat hne
      cases hle : Op.bytesLess p.name.toList s.name.toList
      · have HNO : Hid (svcAtB B (k' + 1) = false) := by unfold Hid svcAtB; rw [HSK.out]; simp [HPK.out, hle]
        have hle2 : (Op.bytesLess s.name.toList p.name.toList || s.name.toList == p.name.toList) = true := by rw [HT.out, hle]; rfl
        clear hle
        go_wp2
        clear x0 x1 x2 x3 x4 x5 x6 x7 x8 x9 x10 x11 x12
        refine wp_region_quiet_below (by kernel_rfl) (by kernel_rfl) ?_
        repeat (first | go_big_quiet_step (fail) | quiet_step (fail))
        refine wpQuiet_nil ?_
        intro w2 hw'
        obtain ⟨⟨dq, osq⟩, hw''⟩ := hw'
        have hb2 : Below (wr.alloc (.cells #[.string s.name, .int .i64 s.version, .bool s.gone, .int .i64 s.image, .int .i64 s.want, .int .i64 s.down, .int .i64 s.over, .int .i64 s.next, .int .i64 s.per, .int .i64 s.least, .int .i64 s.most, .int .i64 s.load, .int .i64 s.cool] 57)).heap.size (wr.alloc (.cells #[.string s.name, .int .i64 s.version, .bool s.gone, .int .i64 s.image, .int .i64 s.want, .int .i64 s.down, .int .i64 s.over, .int .i64 s.next, .int .i64 s.per, .int .i64 s.least, .int .i64 s.most, .int .i64 s.load, .int .i64 s.cool] 57)) w2 := by rw [hw'']; exact below_regrown _ _ _
        clear hw''
        go_wp2
        go_ret
        exact ⟨ret_bool (allTo_no hlt HNO.out).symm, hbr.trans (hb2.mono hbr.size)⟩
      · have hle2 : (Op.bytesLess s.name.toList p.name.toList || s.name.toList == p.name.toList) = false := by rw [HT.out, hle]; rfl
        have HLE : Hid _ := hle
        clear hle
        go_wp2
        clear x0 x1 x2 x3 x4 x5 x6 x7 x8 x9 x10 x11 x12
        refine wp_region_quiet_below (by kernel_rfl) (by kernel_rfl) ?_
        repeat (first | go_big_quiet_step (fail) | quiet_step (fail))
        refine wpQuiet_nil ?_
        intro w2 hw'
        obtain ⟨⟨dq, osq⟩, hw''⟩ := hw'
        have hb2 : Below (wr.alloc (.cells #[.string s.name, .int .i64 s.version, .bool s.gone, .int .i64 s.image, .int .i64 s.want, .int .i64 s.down, .int .i64 s.over, .int .i64 s.next, .int .i64 s.per, .int .i64 s.least, .int .i64 s.most, .int .i64 s.load, .int .i64 s.cool] 57)).heap.size (wr.alloc (.cells #[.string s.name, .int .i64 s.version, .bool s.gone, .int .i64 s.image, .int .i64 s.want, .int .i64 s.down, .int .i64 s.over, .int .i64 s.next, .int .i64 s.per, .int .i64 s.least, .int .i64 s.most, .int .i64 s.load, .int .i64 s.cool] 57)) w2 := by rw [hw'']; exact below_regrown _ _ _
        clear hw''
        clear gx0 gb1 hle2 y0 y1 y2 y3 y4 y5 y6 y7 y8 y9 y10 y11 y12
        have hbr2 := hbr.trans (hb2.mono hbr.size)
        have bxr : Hid _ := below_blk hb2 HBX.out (by rw [HSZ.out]; omega)
        have box2 : Hid _ := below_blk hb2 hboxr.out (by rw [HSZ.out]; omega)
        have fns2 : Hid (FnsS w2 (w.heap.size + 1)) := below_blk hb2 hfnr.out (by rw [HSZ.out]; omega)
        have hz2 : wr.heap.size < w2.heap.size := by have := hb2.size; rw [HSZ.out] at this; omega
        have r0 := blk_cell bxr.out 0 rfl
        have r1 := blk_cell bxr.out 1 rfl
        have r2 := blk_cell bxr.out 2 rfl
        have r3 := blk_cell bxr.out 3 rfl
        have r4 := blk_cell bxr.out 4 rfl
        have r5 := blk_cell bxr.out 5 rfl
        have r6 := blk_cell bxr.out 6 rfl
        have r7 := blk_cell bxr.out 7 rfl
        have r8 := blk_cell bxr.out 8 rfl
        have r9 := blk_cell bxr.out 9 rfl
        have r10 := blk_cell bxr.out 10 rfl
        have r11 := blk_cell bxr.out 11 rfl
        have r12 := blk_cell bxr.out 12 rfl
        have q0 := blk_cell box2.out 0 rfl
        cases hver : inB s.version 1 B.now
        · have HNO : Hid (svcAtB B (k' + 1) = false) := by unfold Hid svcAtB; rw [HSK.out]; simp [svcB_split, hver]
          go_wp2_with (go_at_call 93; refine (within_any _ _ _ _).mono ?_; rintro e w' ⟨rfl, rfl⟩)
          go_ret
          exact ⟨ret_bool (allTo_no hlt HNO.out).symm, hbr2⟩
        cases hal : allTo (svcP s) 5
        · have HNO : Hid (svcAtB B (k' + 1) = false) := by unfold Hid svcAtB; rw [HSK.out]; simp [svcB_split, hver, ← svcP_all, hal]
          go_wp2_with (first | (go_at_call 93; refine (within_any _ _ _ _).mono ?_; rintro e w' ⟨rfl, rfl⟩) | (go_at_call 99; refine (allHoldS_any s (w.heap.size + 1) _ hmem fns2.out).mono ?_; rintro e w3 ⟨rfl, hb3⟩))
          go_ret
          exact ⟨ret_bool (allTo_no hlt HNO.out).symm, hbr2.trans (hb3.mono hbr2.size)⟩
        have HYES : Hid (svcAtB B (k' + 1) = true) := by unfold Hid svcAtB; rw [HSK.out]; simp [svcB_split, hver, ← svcP_all, hal, HPK.out, HLE.out]
        go_wp2_with (first | (go_at_call 93; refine (within_any _ _ _ _).mono ?_; rintro e w' ⟨rfl, rfl⟩) | (go_at_call 99; refine (allHoldS_any s (w.heap.size + 1) _ hmem fns2.out).mono ?_; rintro e w3 ⟨rfl, hb3⟩))
        have hb4 := hbr2.trans (hb3.mono hbr2.size)
        have box3 : Hid _ := below_blk hb3 box2.out (by omega)
        have fns3 : Hid (FnsS w3 (w.heap.size + 1)) := below_blk hb3 fns2.out (by omega)
        go_roundw
        case rel => exact ⟨(k' + 1) + 1, by omega, by go_num, hb4, box3, fns3, upTo_step hall.out HYES.out⟩
        case measure => simp [intOf]; omega
    · go_wp2
      go_ret
      exact ⟨ret_bool (allTo_yes fun i hi => hall.out i (by omega)).symm, hb⟩

end Go.Proofs.Ytbceafpodamnfab

/-
  My own. The program's check of the berths.
-/
namespace Go.Proofs.Ytbceafpodamnfab
open Go.RowKit Go.Sort

set_option maxHeartbeats 8000000 in
theorem berthsHold_any (B : Bk) (a1 a2 a3 : Option Addr) (c1 c2 c3 : Nat) (w : World) (hS : B.small) (hZ : B.sized) (hB : BkAt w a1 a2 a3 B) :
    Calls Try.prog 65 #[.agg #[.int .i64 B.now, .slice a1 B.svcs.length c1, .slice a2 B.cps.length c2, .slice a3 B.bts.length c3]] w fun e w' => e = .returned (.bool (allTo (btAtB B) B.bts.length)) ∧ Below w.heap.size w w' := by
  obtain ⟨hl1, hl2, hl3⟩ := hS
  have T0 : Hid _ := heap_alloc_new w (.cells #[.int .i64 B.now, .slice a1 B.svcs.length c1, .slice a2 B.cps.length c2, .slice a3 B.bts.length c3] 33)
  go_enter Try.func65, Try.ntmps65
  go_wp2
  go_loopw [8] (fun iv wr => ∃ k : Nat, k ≤ B.bts.length ∧ iv = .int .i64 k ∧ Below w.heap.size w wr ∧ Hid (wr.heap[w.heap.size]? = some (.cells #[.int .i64 B.now, .slice a1 B.svcs.length c1, .slice a2 B.cps.length c2, .slice a3 B.bts.length c3] 33 (0, 0))) ∧ Hid (∀ i, i < k → btAtB B i = true)) (fun i _ => B.bts.length - (intOf i).toNat)
  case atStart => exact ⟨0, by omega, rfl, below_box _ _, T0, fun i hi => absurd hi (by omega)⟩
  case round =>
    obtain ⟨k, hk, rfl, hb, hbox, hall⟩ := hrel
    have hNlt : w.heap.size < wr.heap.size := (Array.getElem?_eq_some_iff.1 hbox.out).1
    by_cases hlt : k < B.bts.length
    · have hne : B.bts ≠ [] := by intro h; rw [h] at hlt; simp at hlt
      obtain ⟨b, off, ea, hbs, hat⟩ := hB.2.2 hne
      subst ea
      obtain ⟨s, hsk⟩ : ∃ s, B.bts[k]? = some s := ⟨B.bts[k], by simp [hlt]⟩
      have hmem := hZ.2.2.2.2.2 s (List.mem_of_getElem? hsk)
      have HSK : Hid _ := hsk
      have hcs := (hat k s hsk).below hb hbs
      unfold BtAt at hcs
      obtain ⟨x0, x1⟩ := hcs
      have hbr : Below w.heap.size w (wr.alloc (.cells #[.string s.name, .bool s.drain] 94)) := hb.alloc hb.size _
      have HSZ : Hid ((wr.alloc (.cells #[.string s.name, .bool s.drain] 94)).heap.size = wr.heap.size + 1) := by show (wr.heap.push _).size = _; simp
      have HBX : Hid _ := heap_alloc_new wr (.cells #[.string s.name, .bool s.drain] 94)
      have hw1 := below_box wr (.cells #[.string s.name, .bool s.drain] 94)
      have hboxr : Hid _ := below_blk hw1 hbox.out (by omega)
      clear hsk
      by_cases hk0 : k = 0
      · have HK0 : Hid (k = 0) := hk0
        have hz : decide (0 < k) = false := by simp; omega
        clear hk0 hat hne
        go_wp2
        clear x0 x1
        refine wp_region_quiet_below (by kernel_rfl) (by kernel_rfl) ?_
        repeat (first | go_big_quiet_step (fail) | quiet_step (fail))
        refine wpQuiet_nil ?_
        intro w2 hw'
        obtain ⟨⟨dq, osq⟩, hw''⟩ := hw'
        have hb2 : Below (wr.alloc (.cells #[.string s.name, .bool s.drain] 94)).heap.size (wr.alloc (.cells #[.string s.name, .bool s.drain] 94)) w2 := by rw [hw'']; exact below_regrown _ _ _
        clear hw''
        have hbr2 := hbr.trans (hb2.mono hbr.size)
        have bxr : Hid _ := below_blk hb2 HBX.out (by rw [HSZ.out]; omega)
        have box2 : Hid _ := below_blk hb2 hboxr.out (by rw [HSZ.out]; omega)
        have hz2 : wr.heap.size < w2.heap.size := by have := hb2.size; rw [HSZ.out] at this; omega
        have r0 := blk_cell bxr.out 0 rfl
        cases hver : nameB s.name
        · have HNO : Hid (btAtB B k = false) := by unfold Hid btAtB; rw [HSK.out]; simp [hver]
          go_wp2_with (go_at_call 100; refine (isName_any _ _ hmem).mono ?_; rintro e w' ⟨rfl, rfl⟩)
          go_ret
          exact ⟨ret_bool (allTo_no hlt HNO.out).symm, hbr2⟩
        have HYES : Hid (btAtB B k = true) := by unfold Hid btAtB; rw [HSK.out]; simp [hver, HK0.out]
        go_wp2_with (go_at_call 100; refine (isName_any _ _ hmem).mono ?_; rintro e w' ⟨rfl, rfl⟩)
        go_roundw
        case rel => exact ⟨k + 1, by omega, by go_num, hbr2, box2, upTo_step hall.out HYES.out⟩
        case measure => simp [intOf]; omega
      obtain ⟨k', rfl⟩ : ∃ k', k = k' + 1 := ⟨k - 1, by omega⟩
      clear hk0
      obtain ⟨p, hpk⟩ : ∃ p, B.bts[k']? = some p := ⟨B.bts[k']'(by omega), by rw [List.getElem?_eq_getElem]⟩
      have HPK : Hid _ := hpk
      obtain ⟨y0, y1⟩ := ((hat k' p hpk).below (hb.trans (hw1.mono hb.size)) hbs).grown
      have gx0 := gcell HBX.out 0 rfl
      have gb3 := gcell hboxr.out 3 rfl
      have HTRI := bytesLess_tri s.name.toList p.name.toList
      have HT : Hid _ := HTRI
      clear HTRI hpk hat hne
      cases hle : Op.bytesLess p.name.toList s.name.toList
      · have HNO : Hid (btAtB B (k' + 1) = false) := by unfold Hid btAtB; rw [HSK.out]; simp [HPK.out, hle]
        have hle2 : (Op.bytesLess s.name.toList p.name.toList || s.name.toList == p.name.toList) = true := by rw [HT.out, hle]; rfl
        clear hle
        go_wp2
        clear x0 x1
        refine wp_region_quiet_below (by kernel_rfl) (by kernel_rfl) ?_
        repeat (first | go_big_quiet_step (fail) | quiet_step (fail))
        refine wpQuiet_nil ?_
        intro w2 hw'
        obtain ⟨⟨dq, osq⟩, hw''⟩ := hw'
        have hb2 : Below (wr.alloc (.cells #[.string s.name, .bool s.drain] 94)).heap.size (wr.alloc (.cells #[.string s.name, .bool s.drain] 94)) w2 := by rw [hw'']; exact below_regrown _ _ _
        clear hw''
        go_wp2
        go_ret
        exact ⟨ret_bool (allTo_no hlt HNO.out).symm, hbr.trans (hb2.mono hbr.size)⟩
      · have hle2 : (Op.bytesLess s.name.toList p.name.toList || s.name.toList == p.name.toList) = false := by rw [HT.out, hle]; rfl
        have HLE : Hid _ := hle
        clear hle
        go_wp2
        clear x0 x1
        refine wp_region_quiet_below (by kernel_rfl) (by kernel_rfl) ?_
        repeat (first | go_big_quiet_step (fail) | quiet_step (fail))
        refine wpQuiet_nil ?_
        intro w2 hw'
        obtain ⟨⟨dq, osq⟩, hw''⟩ := hw'
        have hb2 : Below (wr.alloc (.cells #[.string s.name, .bool s.drain] 94)).heap.size (wr.alloc (.cells #[.string s.name, .bool s.drain] 94)) w2 := by rw [hw'']; exact below_regrown _ _ _
        clear hw''
        clear gx0 gb3 hle2 y0 y1
        have hbr2 := hbr.trans (hb2.mono hbr.size)
        have bxr : Hid _ := below_blk hb2 HBX.out (by rw [HSZ.out]; omega)
        have box2 : Hid _ := below_blk hb2 hboxr.out (by rw [HSZ.out]; omega)
        have hz2 : wr.heap.size < w2.heap.size := by have := hb2.size; rw [HSZ.out] at this; omega
        have r0 := blk_cell bxr.out 0 rfl
        cases hver : nameB s.name
        · have HNO : Hid (btAtB B (k' + 1) = false) := by unfold Hid btAtB; rw [HSK.out]; simp [hver]
          go_wp2_with (go_at_call 100; refine (isName_any _ _ hmem).mono ?_; rintro e w' ⟨rfl, rfl⟩)
          go_ret
          exact ⟨ret_bool (allTo_no hlt HNO.out).symm, hbr2⟩
        have HYES : Hid (btAtB B (k' + 1) = true) := by unfold Hid btAtB; rw [HSK.out]; simp [hver, HPK.out, HLE.out]
        go_wp2_with (go_at_call 100; refine (isName_any _ _ hmem).mono ?_; rintro e w' ⟨rfl, rfl⟩)
        go_roundw
        case rel => exact ⟨(k' + 1) + 1, by omega, by go_num, hbr2, box2, upTo_step hall.out HYES.out⟩
        case measure => simp [intOf]; omega
    · go_wp2
      go_ret
      exact ⟨ret_bool (allTo_yes fun i hi => hall.out i (by omega)).symm, hb⟩

end Go.Proofs.Ytbceafpodamnfab

/-
  My own. The program's check of the copies.
-/
namespace Go.Proofs.Ytbceafpodamnfab
open Go.RowKit Go.Sort Go.Maps

set_option maxHeartbeats 16000000 in
theorem copiesHold_cons (B : Bk) (a1 a2 a3 : Option Addr) (c1 c2 c3 : Nat) (w : World) (hS : B.small) (hZ : B.sized) (hU : uniqS B) (hB : BkAt w a1 a2 a3 B) (hne0 : B.svcs ≠ []) :
    Calls Try.prog 66 #[.agg #[.int .i64 B.now, .slice a1 B.svcs.length c1, .slice a2 B.cps.length c2, .slice a3 B.bts.length c3]] w fun e w' => e = .returned (.bool (allTo (cpAtB B) B.cps.length)) ∧ Below w.heap.size w w' := by
  obtain ⟨bS, offS, eS, hbsS, hatS⟩ := hB.1 hne0
  subst eS
  have hS' := hS
  obtain ⟨hl1, hl2, hl3⟩ := hS'
  have T0 : Hid _ := heap_alloc_new w (.cells #[.int .i64 B.now, .slice (some ⟨bS, offS, none⟩) B.svcs.length c1, .slice a2 B.cps.length c2, .slice a3 B.bts.length c3] 33)
  have hb0 := below_box w (.cells #[.int .i64 B.now, .slice (some ⟨bS, offS, none⟩) B.svcs.length c1, .slice a2 B.cps.length c2, .slice a3 B.bts.length c3] 33)
  have hs0 : (w.alloc (.cells #[.int .i64 B.now, .slice (some ⟨bS, offS, none⟩) B.svcs.length c1, .slice a2 B.cps.length c2, .slice a3 B.bts.length c3] 33)).heap.size = w.heap.size + 1 := by show (w.heap.push _).size = _; simp
  have HS0 : Hid _ := hs0
  clear hs0
  go_enter Try.func66, Try.ntmps66
  go_wp2_with fail
  refine (placesIn_any B _ a2 a3 c1 c2 c3 _ hS hZ hU (hB.below hb0)).mono ?_
  rintro e w0 ⟨rfl, hpl0, hb1⟩
  rw [HS0.out] at hpl0 hb1
  rw [HS0.out]
  have hbb0 := hb0.trans (hb1.mono (by omega))
  have T0' : Hid _ := below_blk hb1 T0.out (by omega)
  have HP0 : Hid _ := hpl0
  have e2 := blk_cell T0'.out 2 rfl
  clear hpl0 hb1
  go_wp2
  clear e2
  go_loopw [13] (fun iv wr => ∃ k : Nat, k ≤ B.cps.length ∧ iv = .int .i64 k ∧ Below w.heap.size w wr ∧ Hid (wr.heap[w.heap.size]? = some (.cells #[.int .i64 B.now, .slice (some ⟨bS, offS, none⟩) B.svcs.length c1, .slice a2 B.cps.length c2, .slice a3 B.bts.length c3] 33 (0, 0))) ∧ Hid (PlacesAt wr (w.heap.size + 1 + 1) B B.svcs.length B.bts.length) ∧ Hid (∀ i, i < k → cpAtB B i = true)) (fun i _ => B.cps.length - (intOf i).toNat)
  case atStart => exact ⟨0, by omega, rfl, hbb0, T0', HP0, fun i hi => absurd hi (by omega)⟩
  case round =>
    clear hbb0 T0' HP0
    obtain ⟨k, hk, rfl, hb, hbox, hpl, hall⟩ := hrel
    have hNlt : w.heap.size + 1 + 1 < wr.heap.size := hpl.out.lt
    by_cases hlt : k < B.cps.length
    · have hne : B.cps ≠ [] := by intro h; rw [h] at hlt; simp at hlt
      obtain ⟨b, off, ea, hbs, hat⟩ := hB.2.1 hne
      subst ea
      obtain ⟨s, hsk⟩ : ∃ s, B.cps[k]? = some s := ⟨B.cps[k], by simp [hlt]⟩
      have hmem := hZ.2.2.2.2.1 s (List.mem_of_getElem? hsk)
      have HSK : Hid _ := hsk
      have hcs := (hat k s hsk).below hb hbs
      unfold CpAt at hcs
      obtain ⟨x0, x1, x2, x3, x4, x5, x6⟩ := hcs
      have hbr : Below w.heap.size w (wr.alloc (.cells #[.string s.service, .int .i64 s.number, .int .i64 s.version, .int .i64 s.image, .int .i64 s.state, .bool s.ending, .string s.berth] 72)) := hb.alloc hb.size _
      have HSZ : Hid ((wr.alloc (.cells #[.string s.service, .int .i64 s.number, .int .i64 s.version, .int .i64 s.image, .int .i64 s.state, .bool s.ending, .string s.berth] 72)).heap.size = wr.heap.size + 1) := by show (wr.heap.push _).size = _; simp
      have HBX : Hid _ := heap_alloc_new wr (.cells #[.string s.service, .int .i64 s.number, .int .i64 s.version, .int .i64 s.image, .int .i64 s.state, .bool s.ending, .string s.berth] 72)
      have hw1 := below_box wr (.cells #[.string s.service, .int .i64 s.number, .int .i64 s.version, .int .i64 s.image, .int .i64 s.state, .bool s.ending, .string s.berth] 72)
      have hboxr : Hid _ := below_blk hw1 hbox.out (by omega)
      have hplr : Hid (PlacesAt (wr.alloc (.cells #[.string s.service, .int .i64 s.number, .int .i64 s.version, .int .i64 s.image, .int .i64 s.state, .bool s.ending, .string s.berth] 72)) (w.heap.size + 1 + 1) B B.svcs.length B.bts.length) := hpl.out.below hw1 hNlt
      clear hsk
      by_cases hk0 : k = 0
      · have HK0 : Hid (k = 0) := hk0
        have hz : decide (0 < k) = false := by simp; omega
        clear hk0 hat hne
        go_wp2
        clear x0 x1 x2 x3 x4 x5 x6
        refine wp_region_quiet_below (by kernel_rfl) (by kernel_rfl) ?_
        repeat (first | go_big_quiet_step (fail) | quiet_step (fail))
        refine wpQuiet_nil ?_
        intro w2 hw'
        obtain ⟨⟨dq, osq⟩, hw''⟩ := hw'
        have hb2 : Below (wr.alloc (.cells #[.string s.service, .int .i64 s.number, .int .i64 s.version, .int .i64 s.image, .int .i64 s.state, .bool s.ending, .string s.berth] 72)).heap.size (wr.alloc (.cells #[.string s.service, .int .i64 s.number, .int .i64 s.version, .int .i64 s.image, .int .i64 s.state, .bool s.ending, .string s.berth] 72)) w2 := by rw [hw'']; exact below_regrown _ _ _
        clear hw''
        have hbr2 := hbr.trans (hb2.mono hbr.size)
        have bxr : Hid _ := below_blk hb2 HBX.out (by rw [HSZ.out]; omega)
        have box2 : Hid _ := below_blk hb2 hboxr.out (by rw [HSZ.out]; omega)
        have pl2 : Hid (PlacesAt w2 (w.heap.size + 1 + 1) B B.svcs.length B.bts.length) := hplr.out.below hb2 (by rw [HSZ.out]; omega)
        have hz2 : wr.heap.size < w2.heap.size := by have := hb2.size; rw [HSZ.out] at this; omega
        have r0 := blk_cell bxr.out 0 rfl
        obtain ⟨n, D, hn, hown2, h1, h2, h3, h4⟩ := pl2.out
        have H1 : Hid _ := h1
        have H2 : Hid _ := h2
        clear h1 h2 h3 h4
        cases hf : svcOf B s.service with
        | none =>
          have HNO : Hid (cpAtB B k = false) := by unfold Hid cpAtB; rw [HSK.out]; simp [cpB, hf]
          have HH : Hid (Maps.has D (key 1 s.service) = false) := H1.out s.service hmem.1 (svcOf_none hf)
          have HA : Hid (D.atKey (key 1 s.service) (.lit (.int .i64 0)) = .lit (.int .i64 0)) := atKey_of_not_has HH.out _
          go_wp2_with (at_lookup; refine wpList_lookup_is _ rfl (.tmp 32) (.tmp 35) 104 rfl 107 3 .i64 thingLaw Try.underlying104 Try.underlying3 (zeroInt _) (w.heap.size + 1 + 1) n D rfl hown2 _ _ rfl (key_ok 1 s.service wf1 hmem.1) 0 false HA.out HH.out ?_)
          refine wp_region_quiet_below (by kernel_rfl) (by kernel_rfl) ?_
          repeat (first | go_big_quiet_step (fail) | quiet_step (fail))
          refine wpQuiet_nil ?_
          intro w3 hw'
          obtain ⟨⟨dq, osq⟩, hw''⟩ := hw'
          have hb3 : Below w2.heap.size w2 w3 := by rw [hw'']; exact below_regrown _ _ _
          clear hw''
          go_wp2
          go_ret
          exact ⟨ret_bool (allTo_no hlt HNO.out).symm, hbr2.trans (hb3.mono hbr2.size)⟩
        | some sv =>
          obtain ⟨i, hil, hi, hnm⟩ := svcOf_some hf
          have H2' := H2.out i sv hil hi
          rw [hnm] at H2'
          have HH : Hid (Maps.has D (key 1 s.service) = true) := H2'.1
          have HA : Hid (D.atKey (key 1 s.service) (.lit (.int .i64 0)) = .lit (.int .i64 (i : Int))) := H2'.2
          have HCP : Hid (cpB B s = (cpOk B.now sv s && berthOk B.bts s)) := by unfold Hid cpB; rw [hf]
          obtain ⟨z0, z1, z2, z3, z4, z5, z6, z7, z8, z9, z10, z11, z12⟩ := ((hatS i sv hi).below hbr2 hbsS).grown
          have g0 := gcell box2.out 0 rfl
          have g1 := gcell box2.out 1 rfl
          have m0 := gcell bxr.out 0 rfl
          have m1 := gcell bxr.out 1 rfl
          have m2 := gcell bxr.out 2 rfl
          have m3 := gcell bxr.out 3 rfl
          have m4 := gcell bxr.out 4 rfl
          have m5 := gcell bxr.out 5 rfl
          have m6 := gcell bxr.out 6 rfl
          clear hf H2' hnm hi
          cases hok : cpOk B.now sv s
          · have HNO : Hid (cpAtB B k = false) := by unfold Hid cpAtB; rw [HSK.out]; simp [HCP.out, hok]
            go_wp2_with (at_lookup; refine wpList_lookup_is _ rfl (.tmp 32) (.tmp 35) 104 rfl 107 3 .i64 thingLaw Try.underlying104 Try.underlying3 (zeroInt _) (w.heap.size + 1 + 1) n D rfl hown2 _ _ rfl (key_ok 1 s.service wf1 hmem.1) (i : Int) true HA.out HH.out ?_)
            refine wp_region_quiet_below (by kernel_rfl) (by kernel_rfl) ?_
            repeat (first | go_big_quiet_step (first | exact Calls.regrown_of (copyHolds_any s sv B.now _) | exact Calls.regrown_of (berthFits_any B s (w.heap.size + 1 + 1) _ hmem.2 (pl2.out.below (below_regrown _ _ _) (by omega)))) | quiet_step (first | exact Calls.regrown_of (copyHolds_any s sv B.now _) | exact Calls.regrown_of (berthFits_any B s (w.heap.size + 1 + 1) _ hmem.2 (pl2.out.below (below_regrown _ _ _) (by omega)))))
            refine wpQuiet_nil ?_
            intro w3 hw'
            obtain ⟨⟨dq, osq⟩, hw''⟩ := hw'
            have hb3 : Below w2.heap.size w2 w3 := by rw [hw'']; exact below_regrown _ _ _
            clear hw''
            go_wp2
            go_ret
            exact ⟨ret_bool (allTo_no hlt HNO.out).symm, hbr2.trans (hb3.mono hbr2.size)⟩
          cases hbo : berthOk B.bts s
          · have HNO : Hid (cpAtB B k = false) := by unfold Hid cpAtB; rw [HSK.out]; simp [HCP.out, hok, hbo]
            go_wp2_with (at_lookup; refine wpList_lookup_is _ rfl (.tmp 32) (.tmp 35) 104 rfl 107 3 .i64 thingLaw Try.underlying104 Try.underlying3 (zeroInt _) (w.heap.size + 1 + 1) n D rfl hown2 _ _ rfl (key_ok 1 s.service wf1 hmem.1) (i : Int) true HA.out HH.out ?_)
            refine wp_region_quiet_below (by kernel_rfl) (by kernel_rfl) ?_
            repeat (first | go_big_quiet_step (first | exact Calls.regrown_of (copyHolds_any s sv B.now _) | exact Calls.regrown_of (berthFits_any B s (w.heap.size + 1 + 1) _ hmem.2 (pl2.out.below (below_regrown _ _ _) (by omega)))) | quiet_step (first | exact Calls.regrown_of (copyHolds_any s sv B.now _) | exact Calls.regrown_of (berthFits_any B s (w.heap.size + 1 + 1) _ hmem.2 (pl2.out.below (below_regrown _ _ _) (by omega)))))
            refine wpQuiet_nil ?_
            intro w3 hw'
            obtain ⟨⟨dq, osq⟩, hw''⟩ := hw'
            have hb3 : Below w2.heap.size w2 w3 := by rw [hw'']; exact below_regrown _ _ _
            clear hw''
            go_wp2
            go_ret
            exact ⟨ret_bool (allTo_no hlt HNO.out).symm, hbr2.trans (hb3.mono hbr2.size)⟩
          have HYES : Hid (cpAtB B k = true) := by unfold Hid cpAtB; rw [HSK.out]; simp [HCP.out, hok, hbo, HK0.out]
          go_wp2_with (at_lookup; refine wpList_lookup_is _ rfl (.tmp 32) (.tmp 35) 104 rfl 107 3 .i64 thingLaw Try.underlying104 Try.underlying3 (zeroInt _) (w.heap.size + 1 + 1) n D rfl hown2 _ _ rfl (key_ok 1 s.service wf1 hmem.1) (i : Int) true HA.out HH.out ?_)
          refine wp_region_quiet_below (by kernel_rfl) (by kernel_rfl) ?_
          repeat (first | go_big_quiet_step (first | exact Calls.regrown_of (copyHolds_any s sv B.now _) | exact Calls.regrown_of (berthFits_any B s (w.heap.size + 1 + 1) _ hmem.2 (pl2.out.below (below_regrown _ _ _) (by omega)))) | quiet_step (first | exact Calls.regrown_of (copyHolds_any s sv B.now _) | exact Calls.regrown_of (berthFits_any B s (w.heap.size + 1 + 1) _ hmem.2 (pl2.out.below (below_regrown _ _ _) (by omega)))))
          refine wpQuiet_nil ?_
          intro w3 hw'
          obtain ⟨⟨dq, osq⟩, hw''⟩ := hw'
          have hb3 : Below w2.heap.size w2 w3 := by rw [hw'']; exact below_regrown _ _ _
          clear hw''
          have hb4 := hbr2.trans (hb3.mono hbr2.size)
          have box3 : Hid _ := below_blk hb3 box2.out (by omega)
          have pl3 : Hid (PlacesAt w3 (w.heap.size + 1 + 1) B B.svcs.length B.bts.length) := pl2.out.below hb3 (by omega)
          clear g0 g1 m0 m1 m2 m3 m4 m5 m6 z0 z1 z2 z3 z4 z5 z6 z7 z8 z9 z10 z11 z12
          go_wp2
          go_roundw
          case rel => exact ⟨k + 1, by omega, by go_num, hb4, box3, pl3, upTo_step hall.out HYES.out⟩
          case measure => simp [intOf]; omega
      obtain ⟨k', rfl⟩ : ∃ k', k = k' + 1 := ⟨k - 1, by omega⟩
      clear hk0
      obtain ⟨p, hpk⟩ : ∃ p, B.cps[k']? = some p := ⟨B.cps[k']'(by omega), by rw [List.getElem?_eq_getElem]⟩
      have HPK : Hid _ := hpk
      obtain ⟨y0, y1, y2, y3, y4, y5, y6⟩ := ((hat k' p hpk).below (hb.trans (hw1.mono hb.size)) hbs).grown
      have gx0 := gcell HBX.out 0 rfl
      have gx1 := gcell HBX.out 1 rfl
      have gx2 := gcell HBX.out 2 rfl
      have gx3 := gcell HBX.out 3 rfl
      have gx4 := gcell HBX.out 4 rfl
      have gx5 := gcell HBX.out 5 rfl
      have gx6 := gcell HBX.out 6 rfl
      have gb2 := gcell hboxr.out 2 rfl
      clear hpk hat hne
      cases hle : aheadB p s
      · have HNO : Hid (cpAtB B (k' + 1) = false) := by unfold Hid cpAtB; rw [HSK.out]; simp [HPK.out, hle]
        go_wp2
        clear x0 x1 x2 x3 x4 x5 x6
        refine wp_region_quiet_below (by kernel_rfl) (by kernel_rfl) ?_
        repeat (first | go_big_quiet_step (exact Calls.regrown_of (copyAhead_any p s _)) | quiet_step (exact Calls.regrown_of (copyAhead_any p s _)))
        refine wpQuiet_nil ?_
        intro w2 hw'
        obtain ⟨⟨dq, osq⟩, hw''⟩ := hw'
        have hb2 : Below (wr.alloc (.cells #[.string s.service, .int .i64 s.number, .int .i64 s.version, .int .i64 s.image, .int .i64 s.state, .bool s.ending, .string s.berth] 72)).heap.size (wr.alloc (.cells #[.string s.service, .int .i64 s.number, .int .i64 s.version, .int .i64 s.image, .int .i64 s.state, .bool s.ending, .string s.berth] 72)) w2 := by rw [hw'']; exact below_regrown _ _ _
        clear hw''
        go_wp2
        go_ret
        exact ⟨ret_bool (allTo_no hlt HNO.out).symm, hbr.trans (hb2.mono hbr.size)⟩
      · have HLE : Hid (aheadB p s = true) := hle
        go_wp2
        clear x0 x1 x2 x3 x4 x5 x6
        refine wp_region_quiet_below (by kernel_rfl) (by kernel_rfl) ?_
        repeat (first | go_big_quiet_step (exact Calls.regrown_of (copyAhead_any p s _)) | quiet_step (exact Calls.regrown_of (copyAhead_any p s _)))
        refine wpQuiet_nil ?_
        intro w2 hw'
        obtain ⟨⟨dq, osq⟩, hw''⟩ := hw'
        have hb2 : Below (wr.alloc (.cells #[.string s.service, .int .i64 s.number, .int .i64 s.version, .int .i64 s.image, .int .i64 s.state, .bool s.ending, .string s.berth] 72)).heap.size (wr.alloc (.cells #[.string s.service, .int .i64 s.number, .int .i64 s.version, .int .i64 s.image, .int .i64 s.state, .bool s.ending, .string s.berth] 72)) w2 := by rw [hw'']; exact below_regrown _ _ _
        clear hw''
        clear gx0 gx1 gx2 gx3 gx4 gx5 gx6 gb2 hle y0 y1 y2 y3 y4 y5 y6
        have hbr2 := hbr.trans (hb2.mono hbr.size)
        have bxr : Hid _ := below_blk hb2 HBX.out (by rw [HSZ.out]; omega)
        have box2 : Hid _ := below_blk hb2 hboxr.out (by rw [HSZ.out]; omega)
        have pl2 : Hid (PlacesAt w2 (w.heap.size + 1 + 1) B B.svcs.length B.bts.length) := hplr.out.below hb2 (by rw [HSZ.out]; omega)
        have hz2 : wr.heap.size < w2.heap.size := by have := hb2.size; rw [HSZ.out] at this; omega
        have r0 := blk_cell bxr.out 0 rfl
        obtain ⟨n, D, hn, hown2, h1, h2, h3, h4⟩ := pl2.out
        have H1 : Hid _ := h1
        have H2 : Hid _ := h2
        clear h1 h2 h3 h4
        cases hf : svcOf B s.service with
        | none =>
          have HNO : Hid (cpAtB B (k' + 1) = false) := by unfold Hid cpAtB; rw [HSK.out]; simp [cpB, hf]
          have HH : Hid (Maps.has D (key 1 s.service) = false) := H1.out s.service hmem.1 (svcOf_none hf)
          have HA : Hid (D.atKey (key 1 s.service) (.lit (.int .i64 0)) = .lit (.int .i64 0)) := atKey_of_not_has HH.out _
          go_wp2_with (at_lookup; refine wpList_lookup_is _ rfl (.tmp 32) (.tmp 35) 104 rfl 107 3 .i64 thingLaw Try.underlying104 Try.underlying3 (zeroInt _) (w.heap.size + 1 + 1) n D rfl hown2 _ _ rfl (key_ok 1 s.service wf1 hmem.1) 0 false HA.out HH.out ?_)
          refine wp_region_quiet_below (by kernel_rfl) (by kernel_rfl) ?_
          repeat (first | go_big_quiet_step (fail) | quiet_step (fail))
          refine wpQuiet_nil ?_
          intro w3 hw'
          obtain ⟨⟨dq, osq⟩, hw''⟩ := hw'
          have hb3 : Below w2.heap.size w2 w3 := by rw [hw'']; exact below_regrown _ _ _
          clear hw''
          go_wp2
          go_ret
          exact ⟨ret_bool (allTo_no hlt HNO.out).symm, hbr2.trans (hb3.mono hbr2.size)⟩
        | some sv =>
          obtain ⟨i, hil, hi, hnm⟩ := svcOf_some hf
          have H2' := H2.out i sv hil hi
          rw [hnm] at H2'
          have HH : Hid (Maps.has D (key 1 s.service) = true) := H2'.1
          have HA : Hid (D.atKey (key 1 s.service) (.lit (.int .i64 0)) = .lit (.int .i64 (i : Int))) := H2'.2
          have HCP : Hid (cpB B s = (cpOk B.now sv s && berthOk B.bts s)) := by unfold Hid cpB; rw [hf]
          obtain ⟨z0, z1, z2, z3, z4, z5, z6, z7, z8, z9, z10, z11, z12⟩ := ((hatS i sv hi).below hbr2 hbsS).grown
          have g0 := gcell box2.out 0 rfl
          have g1 := gcell box2.out 1 rfl
          have m0 := gcell bxr.out 0 rfl
          have m1 := gcell bxr.out 1 rfl
          have m2 := gcell bxr.out 2 rfl
          have m3 := gcell bxr.out 3 rfl
          have m4 := gcell bxr.out 4 rfl
          have m5 := gcell bxr.out 5 rfl
          have m6 := gcell bxr.out 6 rfl
          clear hf H2' hnm hi
          cases hok : cpOk B.now sv s
          · have HNO : Hid (cpAtB B (k' + 1) = false) := by unfold Hid cpAtB; rw [HSK.out]; simp [HCP.out, hok]
            go_wp2_with (at_lookup; refine wpList_lookup_is _ rfl (.tmp 32) (.tmp 35) 104 rfl 107 3 .i64 thingLaw Try.underlying104 Try.underlying3 (zeroInt _) (w.heap.size + 1 + 1) n D rfl hown2 _ _ rfl (key_ok 1 s.service wf1 hmem.1) (i : Int) true HA.out HH.out ?_)
            refine wp_region_quiet_below (by kernel_rfl) (by kernel_rfl) ?_
            repeat (first | go_big_quiet_step (first | exact Calls.regrown_of (copyHolds_any s sv B.now _) | exact Calls.regrown_of (berthFits_any B s (w.heap.size + 1 + 1) _ hmem.2 (pl2.out.below (below_regrown _ _ _) (by omega)))) | quiet_step (first | exact Calls.regrown_of (copyHolds_any s sv B.now _) | exact Calls.regrown_of (berthFits_any B s (w.heap.size + 1 + 1) _ hmem.2 (pl2.out.below (below_regrown _ _ _) (by omega)))))
            refine wpQuiet_nil ?_
            intro w3 hw'
            obtain ⟨⟨dq, osq⟩, hw''⟩ := hw'
            have hb3 : Below w2.heap.size w2 w3 := by rw [hw'']; exact below_regrown _ _ _
            clear hw''
            go_wp2
            go_ret
            exact ⟨ret_bool (allTo_no hlt HNO.out).symm, hbr2.trans (hb3.mono hbr2.size)⟩
          cases hbo : berthOk B.bts s
          · have HNO : Hid (cpAtB B (k' + 1) = false) := by unfold Hid cpAtB; rw [HSK.out]; simp [HCP.out, hok, hbo]
            go_wp2_with (at_lookup; refine wpList_lookup_is _ rfl (.tmp 32) (.tmp 35) 104 rfl 107 3 .i64 thingLaw Try.underlying104 Try.underlying3 (zeroInt _) (w.heap.size + 1 + 1) n D rfl hown2 _ _ rfl (key_ok 1 s.service wf1 hmem.1) (i : Int) true HA.out HH.out ?_)
            refine wp_region_quiet_below (by kernel_rfl) (by kernel_rfl) ?_
            repeat (first | go_big_quiet_step (first | exact Calls.regrown_of (copyHolds_any s sv B.now _) | exact Calls.regrown_of (berthFits_any B s (w.heap.size + 1 + 1) _ hmem.2 (pl2.out.below (below_regrown _ _ _) (by omega)))) | quiet_step (first | exact Calls.regrown_of (copyHolds_any s sv B.now _) | exact Calls.regrown_of (berthFits_any B s (w.heap.size + 1 + 1) _ hmem.2 (pl2.out.below (below_regrown _ _ _) (by omega)))))
            refine wpQuiet_nil ?_
            intro w3 hw'
            obtain ⟨⟨dq, osq⟩, hw''⟩ := hw'
            have hb3 : Below w2.heap.size w2 w3 := by rw [hw'']; exact below_regrown _ _ _
            clear hw''
            go_wp2
            go_ret
            exact ⟨ret_bool (allTo_no hlt HNO.out).symm, hbr2.trans (hb3.mono hbr2.size)⟩
          have HYES : Hid (cpAtB B (k' + 1) = true) := by unfold Hid cpAtB; rw [HSK.out]; simp [HCP.out, hok, hbo, HPK.out, HLE.out]
          go_wp2_with (at_lookup; refine wpList_lookup_is _ rfl (.tmp 32) (.tmp 35) 104 rfl 107 3 .i64 thingLaw Try.underlying104 Try.underlying3 (zeroInt _) (w.heap.size + 1 + 1) n D rfl hown2 _ _ rfl (key_ok 1 s.service wf1 hmem.1) (i : Int) true HA.out HH.out ?_)
          refine wp_region_quiet_below (by kernel_rfl) (by kernel_rfl) ?_
          repeat (first | go_big_quiet_step (first | exact Calls.regrown_of (copyHolds_any s sv B.now _) | exact Calls.regrown_of (berthFits_any B s (w.heap.size + 1 + 1) _ hmem.2 (pl2.out.below (below_regrown _ _ _) (by omega)))) | quiet_step (first | exact Calls.regrown_of (copyHolds_any s sv B.now _) | exact Calls.regrown_of (berthFits_any B s (w.heap.size + 1 + 1) _ hmem.2 (pl2.out.below (below_regrown _ _ _) (by omega)))))
          refine wpQuiet_nil ?_
          intro w3 hw'
          obtain ⟨⟨dq, osq⟩, hw''⟩ := hw'
          have hb3 : Below w2.heap.size w2 w3 := by rw [hw'']; exact below_regrown _ _ _
          clear hw''
          have hb4 := hbr2.trans (hb3.mono hbr2.size)
          have box3 : Hid _ := below_blk hb3 box2.out (by omega)
          have pl3 : Hid (PlacesAt w3 (w.heap.size + 1 + 1) B B.svcs.length B.bts.length) := pl2.out.below hb3 (by omega)
          clear g0 g1 m0 m1 m2 m3 m4 m5 m6 z0 z1 z2 z3 z4 z5 z6 z7 z8 z9 z10 z11 z12
          go_wp2
          go_roundw
          case rel => exact ⟨(k' + 1) + 1, by omega, by go_num, hb4, box3, pl3, upTo_step hall.out HYES.out⟩
          case measure => simp [intOf]; omega
    · go_wp2
      go_ret
      exact ⟨ret_bool (allTo_yes fun i hi => hall.out i (by omega)).symm, hb⟩

end Go.Proofs.Ytbceafpodamnfab
