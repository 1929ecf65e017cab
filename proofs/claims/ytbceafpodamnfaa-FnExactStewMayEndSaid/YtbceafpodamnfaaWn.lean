/-
  My own. All checks in a list hold.
-/
import Derived.Test.YtbceafpodamnfaaWm
import Derived.Test.YtbceafpodamnfaaWk
import Derived.Laws.EntriesVeiled
namespace Go.Proofs.Ytbceafpodamnfaa
open Go.RowKit Go.Sort

def svcP (s : Svc) : Nat → Bool
  | 0 => nameB s.name
  | 1 => numB s
  | 2 => spareB s
  | 3 => followB s
  | _ => stillB s
theorem svcP_all (s : Svc) : allTo (svcP s) 5 = (nameB s.name && numB s && spareB s && followB s && stillB s) := by
  simp [allTo, List.range, List.range.loop, svcP, Bool.and_assoc]

/-- The five checks lie at block b. -/
def FnsS (w : World) (b : Nat) : Prop := w.heap[b]? = some (.cells #[.func (.func 63) #[] #[], .func (.func 64) #[] #[], .func (.func 65) #[] #[], .func (.func 66) #[] #[], .func (.func 67) #[] #[]] 110 (0, 0))

set_option maxHeartbeats 4000000 in
theorem allHoldS_any (s : Svc) (b : Nat) (w : World) (hs : s.name.size ≤ maxLen) (hF : FnsS w b) :
    Calls Try.prog 68 #[.agg #[.string s.name, .int .i64 s.version, .bool s.gone, .int .i64 s.image, .int .i64 s.want, .int .i64 s.down, .int .i64 s.over, .int .i64 s.next, .int .i64 s.per, .int .i64 s.least, .int .i64 s.most, .int .i64 s.load, .int .i64 s.cool], .slice (some ⟨b, 0, none⟩) 5 5] w fun e w' => e = .returned (.bool (allTo (svcP s) 5)) ∧ Below w.heap.size w w' := by
  have hbx := below_box w (.cells #[.string s.name, .int .i64 s.version, .bool s.gone, .int .i64 s.image, .int .i64 s.want, .int .i64 s.down, .int .i64 s.over, .int .i64 s.next, .int .i64 s.per, .int .i64 s.least, .int .i64 s.most, .int .i64 s.load, .int .i64 s.cool] 63)
  have hbox : Hid _ := heap_alloc_new w (.cells #[.string s.name, .int .i64 s.version, .bool s.gone, .int .i64 s.image, .int .i64 s.want, .int .i64 s.down, .int .i64 s.over, .int .i64 s.next, .int .i64 s.per, .int .i64 s.least, .int .i64 s.most, .int .i64 s.load, .int .i64 s.cool] 63)
  have hblt : b < w.heap.size := (Array.getElem?_eq_some_iff.1 hF).1
  have HF : Hid (FnsS w b) := hF
  clear hF
  go_enter Try.func68, Try.ntmps68
  go_wp2
  go_loopw [9] (fun iv wr => ∃ k : Nat, k ≤ 5 ∧ iv = .int .i64 k ∧ Below w.heap.size w wr ∧ Hid (wr.heap[w.heap.size]? = some (.cells #[.string s.name, .int .i64 s.version, .bool s.gone, .int .i64 s.image, .int .i64 s.want, .int .i64 s.down, .int .i64 s.over, .int .i64 s.next, .int .i64 s.per, .int .i64 s.least, .int .i64 s.most, .int .i64 s.load, .int .i64 s.cool] 63 (0, 0))) ∧ Hid (∀ i, i < k → svcP s i = true)) (fun i _ => 5 - (intOf i).toNat)
  case atStart => exact ⟨0, by omega, rfl, hbx, hbox, fun i hi => absurd hi (by omega)⟩
  case round =>
    obtain ⟨k, hk, rfl, hb, hbox1, hall⟩ := hrel
    have hNlt : w.heap.size < wr.heap.size := (Array.getElem?_eq_some_iff.1 hbox1.out).1
    have hfn : Hid _ := below_blk hb HF.out hblt
    have x0 := blk_cell hbox1.out 0 rfl
    have x1 := blk_cell hbox1.out 1 rfl
    have x2 := blk_cell hbox1.out 2 rfl
    have x3 := blk_cell hbox1.out 3 rfl
    have x4 := blk_cell hbox1.out 4 rfl
    have x5 := blk_cell hbox1.out 5 rfl
    have x6 := blk_cell hbox1.out 6 rfl
    have x7 := blk_cell hbox1.out 7 rfl
    have x8 := blk_cell hbox1.out 8 rfl
    have x9 := blk_cell hbox1.out 9 rfl
    have x10 := blk_cell hbox1.out 10 rfl
    have x11 := blk_cell hbox1.out 11 rfl
    have x12 := blk_cell hbox1.out 12 rfl
    by_cases h0 : k = 0
    · subst h0
      have f0 := blk_cell hfn.out 0 rfl
      cases hv : nameB s.name
      · have HV : Hid ((svcP s) 0 = false) := hv
        go_wp2_with fail
        refine (serviceNamed_any s _ hs).mono ?_
        rintro e w1 ⟨rfl, hb1⟩
        have hb2 := hb.trans (hb1.mono hb.size)
        rw [hv]
        clear x0 x1 x2 x3 x4 x5 x6 x7 x8 x9 x10 x11 x12 f0
        go_wp2
        go_ret
        exact ⟨ret_bool (allTo_no (by omega) HV.out).symm, hb2⟩
      · have HV : Hid ((svcP s) 0 = true) := hv
        go_wp2_with fail
        refine (serviceNamed_any s _ hs).mono ?_
        rintro e w1 ⟨rfl, hb1⟩
        have hb2 := hb.trans (hb1.mono hb.size)
        have hbox2 : Hid _ := below_blk hb1 hbox1.out hNlt
        rw [hv]
        clear x0 x1 x2 x3 x4 x5 x6 x7 x8 x9 x10 x11 x12 f0
        go_wp2
        go_roundw
        case rel => exact ⟨0 + 1, by omega, by go_num, hb2, hbox2, upTo_step hall.out HV.out⟩
        case measure => simp [intOf]
    by_cases h1 : k = 1
    · subst h1
      have f1 := blk_cell hfn.out 1 rfl
      cases hv : numB s
      · have HV : Hid ((svcP s) 1 = false) := hv
        go_wp2_with fail
        refine (numbersHold_any s _).mono ?_
        rintro e w1 ⟨rfl, hb1⟩
        have hb2 := hb.trans (hb1.mono hb.size)
        rw [hv]
        clear x0 x1 x2 x3 x4 x5 x6 x7 x8 x9 x10 x11 x12 f1
        go_wp2
        go_ret
        exact ⟨ret_bool (allTo_no (by omega) HV.out).symm, hb2⟩
      · have HV : Hid ((svcP s) 1 = true) := hv
        go_wp2_with fail
        refine (numbersHold_any s _).mono ?_
        rintro e w1 ⟨rfl, hb1⟩
        have hb2 := hb.trans (hb1.mono hb.size)
        have hbox2 : Hid _ := below_blk hb1 hbox1.out hNlt
        rw [hv]
        clear x0 x1 x2 x3 x4 x5 x6 x7 x8 x9 x10 x11 x12 f1
        go_wp2
        go_roundw
        case rel => exact ⟨1 + 1, by omega, by go_num, hb2, hbox2, upTo_step hall.out HV.out⟩
        case measure => simp [intOf]
    by_cases h2 : k = 2
    · subst h2
      have f2 := blk_cell hfn.out 2 rfl
      cases hv : spareB s
      · have HV : Hid ((svcP s) 2 = false) := hv
        go_wp2_with fail
        refine (spareHolds_any s _).mono ?_
        rintro e w1 ⟨rfl, hb1⟩
        have hb2 := hb.trans (hb1.mono hb.size)
        rw [hv]
        clear x0 x1 x2 x3 x4 x5 x6 x7 x8 x9 x10 x11 x12 f2
        go_wp2
        go_ret
        exact ⟨ret_bool (allTo_no (by omega) HV.out).symm, hb2⟩
      · have HV : Hid ((svcP s) 2 = true) := hv
        go_wp2_with fail
        refine (spareHolds_any s _).mono ?_
        rintro e w1 ⟨rfl, hb1⟩
        have hb2 := hb.trans (hb1.mono hb.size)
        have hbox2 : Hid _ := below_blk hb1 hbox1.out hNlt
        rw [hv]
        clear x0 x1 x2 x3 x4 x5 x6 x7 x8 x9 x10 x11 x12 f2
        go_wp2
        go_roundw
        case rel => exact ⟨2 + 1, by omega, by go_num, hb2, hbox2, upTo_step hall.out HV.out⟩
        case measure => simp [intOf]
    by_cases h3 : k = 3
    · subst h3
      have f3 := blk_cell hfn.out 3 rfl
      cases hv : followB s
      · have HV : Hid ((svcP s) 3 = false) := hv
        go_wp2_with fail
        refine (followHolds_any s _).mono ?_
        rintro e w1 ⟨rfl, hb1⟩
        have hb2 := hb.trans (hb1.mono hb.size)
        rw [hv]
        clear x0 x1 x2 x3 x4 x5 x6 x7 x8 x9 x10 x11 x12 f3
        go_wp2
        go_ret
        exact ⟨ret_bool (allTo_no (by omega) HV.out).symm, hb2⟩
      · have HV : Hid ((svcP s) 3 = true) := hv
        go_wp2_with fail
        refine (followHolds_any s _).mono ?_
        rintro e w1 ⟨rfl, hb1⟩
        have hb2 := hb.trans (hb1.mono hb.size)
        have hbox2 : Hid _ := below_blk hb1 hbox1.out hNlt
        rw [hv]
        clear x0 x1 x2 x3 x4 x5 x6 x7 x8 x9 x10 x11 x12 f3
        go_wp2
        go_roundw
        case rel => exact ⟨3 + 1, by omega, by go_num, hb2, hbox2, upTo_step hall.out HV.out⟩
        case measure => simp [intOf]
    by_cases h4 : k = 4
    · subst h4
      have f4 := blk_cell hfn.out 4 rfl
      cases hv : stillB s
      · have HV : Hid ((svcP s) 4 = false) := hv
        go_wp2_with fail
        refine (stillWithoutPer_any s _).mono ?_
        rintro e w1 ⟨rfl, hb1⟩
        have hb2 := hb.trans (hb1.mono hb.size)
        rw [hv]
        clear x0 x1 x2 x3 x4 x5 x6 x7 x8 x9 x10 x11 x12 f4
        go_wp2
        go_ret
        exact ⟨ret_bool (allTo_no (by omega) HV.out).symm, hb2⟩
      · have HV : Hid ((svcP s) 4 = true) := hv
        go_wp2_with fail
        refine (stillWithoutPer_any s _).mono ?_
        rintro e w1 ⟨rfl, hb1⟩
        have hb2 := hb.trans (hb1.mono hb.size)
        have hbox2 : Hid _ := below_blk hb1 hbox1.out hNlt
        rw [hv]
        clear x0 x1 x2 x3 x4 x5 x6 x7 x8 x9 x10 x11 x12 f4
        go_wp2
        go_roundw
        case rel => exact ⟨4 + 1, by omega, by go_num, hb2, hbox2, upTo_step hall.out HV.out⟩
        case measure => simp [intOf]
    · have h5 : k = 5 := by omega
      subst h5
      clear x0 x1 x2 x3 x4 x5 x6 x7 x8 x9 x10 x11 x12
      go_wp2
      go_ret
      exact ⟨ret_bool (allTo_yes hall.out).symm, hb⟩

end Go.Proofs.Ytbceafpodamnfaa
