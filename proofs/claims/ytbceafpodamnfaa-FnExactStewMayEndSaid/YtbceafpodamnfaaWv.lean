/-
  My own. The program's StewValid.
-/
import Derived.Test.YtbceafpodamnfaaWo
import Derived.Test.YtbceafpodamnfaaWp
import Derived.Test.YtbceafpodamnfaaWu
namespace Go.Proofs.Ytbceafpodamnfaa
open Go.RowKit Go.Sort Go.Maps

def bkP (B : Bk) : Nat → Bool
  | 0 => inB B.now 0 1000000
  | 1 => decide (B.svcs.length ≤ 8) && decide (B.cps.length ≤ 200) && decide (B.bts.length ≤ 6)
  | 2 => allTo (svcAtB B) B.svcs.length
  | 3 => allTo (btAtB B) B.bts.length
  | _ => allTo (cpAtB B) B.cps.length
theorem bkP_all (B : Bk) : allTo (bkP B) 5 = validB B := by
  have h : allTo (bkP B) 5 = (bkP B 0 && (bkP B 1 && (bkP B 2 && (bkP B 3 && (bkP B 4 && true))))) := rfl
  rw [h]
  simp only [bkP, validB, Bool.and_true, Bool.and_assoc]

theorem svcs_less {B : Bk} (h : ∀ i, i < B.svcs.length → svcAtB B i = true) : ∀ (j i : Nat) s t, i < j → B.svcs[i]? = some s → B.svcs[j]? = some t → Op.bytesLess s.name.toList t.name.toList = true
  | 0, i, _, _, hi, _, _ => absurd hi (by omega)
  | j + 1, i, s, t, hi, hs, ht => by
    have hlt : j + 1 < B.svcs.length := (List.getElem?_eq_some_iff.1 ht).1
    obtain ⟨p, hp⟩ : ∃ p, B.svcs[j]? = some p := ⟨B.svcs[j]'(by omega), by rw [List.getElem?_eq_getElem]⟩
    have h1 : Op.bytesLess p.name.toList t.name.toList = true := by
      have := h (j + 1) hlt
      unfold svcAtB at this
      rw [ht] at this
      simp [hp] at this
      exact this.2
    rcases Nat.lt_or_ge i j with h' | h'
    · exact bytesLess_trans _ _ _ (svcs_less h j i s p h' hs hp) h1
    · have e : i = j := by omega
      subst e
      rw [hp] at hs
      cases hs
      exact h1
theorem uniq_of {B : Bk} (h : allTo (svcAtB B) B.svcs.length = true) : uniqS B := fun i j s t hij hs ht e => by
  have h' : ∀ i, i < B.svcs.length → svcAtB B i = true := fun i hi => by
    unfold allTo at h; exact List.all_eq_true.1 h i (List.mem_range.2 hi)
  have := svcs_less h' j i s t hij hs ht
  rw [e, bytesLess_irrefl] at this
  cases this

theorem copiesHold_any (B : Bk) (a1 a2 a3 : Option Addr) (c1 c2 c3 : Nat) (w : World) (hS : B.small) (hZ : B.sized) (hU : uniqS B) (hB : BkAt w a1 a2 a3 B) :
    Calls Try.prog 45 #[.agg #[.int .i64 B.now, .slice a1 B.svcs.length c1, .slice a2 B.cps.length c2, .slice a3 B.bts.length c3]] w fun e w' => e = .returned (.bool (allTo (cpAtB B) B.cps.length)) ∧ Below w.heap.size w w' := by
  by_cases h : B.svcs = []
  · exact copiesHold_nil B a1 a2 a3 c1 c2 c3 w hS hZ hU hB h
  · exact copiesHold_cons B a1 a2 a3 c1 c2 c3 w hS hZ hU hB h

/-- The five checks lie at block b. -/
def FnsB (w : World) (b : Nat) : Prop := w.heap[b]? = some (.cells #[.func (.func 41) #[] #[], .func (.func 42) #[] #[], .func (.func 43) #[] #[], .func (.func 44) #[] #[], .func (.func 45) #[] #[]] 38 (0, 0))

set_option maxHeartbeats 4000000 in
theorem allHoldB_any (B : Bk) (a1 a2 a3 : Option Addr) (c1 c2 c3 : Nat) (b : Nat) (w : World) (hS : B.small) (hZ : B.sized) (hB : BkAt w a1 a2 a3 B) (hF : FnsB w b) :
    Calls Try.prog 40 #[.agg #[.int .i64 B.now, .slice a1 B.svcs.length c1, .slice a2 B.cps.length c2, .slice a3 B.bts.length c3], .slice (some ⟨b, 0, none⟩) 5 5] w fun e w' => e = .returned (.bool (allTo (bkP B) 5)) ∧ Below w.heap.size w w' := by
  have hbx := below_box w (.cells #[.int .i64 B.now, .slice a1 B.svcs.length c1, .slice a2 B.cps.length c2, .slice a3 B.bts.length c3] 27)
  have hbox : Hid _ := heap_alloc_new w (.cells #[.int .i64 B.now, .slice a1 B.svcs.length c1, .slice a2 B.cps.length c2, .slice a3 B.bts.length c3] 27)
  have hblt : b < w.heap.size := (Array.getElem?_eq_some_iff.1 hF).1
  have HF : Hid (FnsB w b) := hF
  clear hF
  go_enter Try.func40, Try.ntmps40
  go_wp2
  go_loopw [9] (fun iv wr => ∃ k : Nat, k ≤ 5 ∧ iv = .int .i64 k ∧ Below w.heap.size w wr ∧ Hid (wr.heap[w.heap.size]? = some (.cells #[.int .i64 B.now, .slice a1 B.svcs.length c1, .slice a2 B.cps.length c2, .slice a3 B.bts.length c3] 27 (0, 0))) ∧ Hid (∀ i, i < k → bkP B i = true)) (fun i _ => 5 - (intOf i).toNat)
  case atStart => exact ⟨0, by omega, rfl, hbx, hbox, fun i hi => absurd hi (by omega)⟩
  case round =>
    obtain ⟨k, hk, rfl, hb, hbox1, hall⟩ := hrel
    have hNlt : w.heap.size < wr.heap.size := (Array.getElem?_eq_some_iff.1 hbox1.out).1
    have hfn : Hid _ := below_blk hb HF.out hblt
    have x0 := blk_cell hbox1.out 0 rfl
    have x1 := blk_cell hbox1.out 1 rfl
    have x2 := blk_cell hbox1.out 2 rfl
    have x3 := blk_cell hbox1.out 3 rfl
    by_cases h0 : k = 0
    · subst h0
      have f0 := blk_cell hfn.out 0 rfl
      cases hv : (inB B.now 0 1000000)
      · have HV : Hid (bkP B 0 = false) := hv
        go_wp2_with fail
        refine (nowHolds_any B a1 a2 a3 c1 c2 c3 _).mono ?_
        rintro e w1 ⟨he, hb1⟩
        subst he
        have hb2 := hb.trans (hb1.mono hb.size)
        rw [hv]
        clear x0 x1 x2 x3 f0
        go_wp2
        go_ret
        exact ⟨ret_bool (allTo_no (by omega) HV.out).symm, hb2⟩
      · have HV : Hid (bkP B 0 = true) := hv
        go_wp2_with fail
        refine (nowHolds_any B a1 a2 a3 c1 c2 c3 _).mono ?_
        rintro e w1 ⟨he, hb1⟩
        subst he
        have hb2 := hb.trans (hb1.mono hb.size)
        have hbox2 : Hid _ := below_blk hb1 hbox1.out hNlt
        rw [hv]
        clear x0 x1 x2 x3 f0
        go_wp2
        go_roundw
        case rel => exact ⟨0 + 1, by omega, by go_num, hb2, hbox2, upTo_step hall.out HV.out⟩
        case measure => simp [intOf]
    by_cases h1 : k = 1
    · subst h1
      have f1 := blk_cell hfn.out 1 rfl
      cases hv : (decide (B.svcs.length ≤ 8) && decide (B.cps.length ≤ 200) && decide (B.bts.length ≤ 6))
      · have HV : Hid (bkP B 1 = false) := hv
        go_wp2_with fail
        refine (sizesHold_any B a1 a2 a3 c1 c2 c3 _ hS).mono ?_
        rintro e w1 ⟨he, hb1⟩
        subst he
        have hb2 := hb.trans (hb1.mono hb.size)
        rw [hv]
        clear x0 x1 x2 x3 f1
        go_wp2
        go_ret
        exact ⟨ret_bool (allTo_no (by omega) HV.out).symm, hb2⟩
      · have HV : Hid (bkP B 1 = true) := hv
        go_wp2_with fail
        refine (sizesHold_any B a1 a2 a3 c1 c2 c3 _ hS).mono ?_
        rintro e w1 ⟨he, hb1⟩
        subst he
        have hb2 := hb.trans (hb1.mono hb.size)
        have hbox2 : Hid _ := below_blk hb1 hbox1.out hNlt
        rw [hv]
        clear x0 x1 x2 x3 f1
        go_wp2
        go_roundw
        case rel => exact ⟨1 + 1, by omega, by go_num, hb2, hbox2, upTo_step hall.out HV.out⟩
        case measure => simp [intOf]
    by_cases h2 : k = 2
    · subst h2
      have f2 := blk_cell hfn.out 2 rfl
      cases hv : (allTo (svcAtB B) B.svcs.length)
      · have HV : Hid (bkP B 2 = false) := hv
        go_wp2_with fail
        refine (servicesHold_any B a1 a2 a3 c1 c2 c3 _ hS hZ (hB.below hb)).mono ?_
        rintro e w1 ⟨he, hb1⟩
        subst he
        have hb2 := hb.trans (hb1.mono hb.size)
        rw [hv]
        clear x0 x1 x2 x3 f2
        go_wp2
        go_ret
        exact ⟨ret_bool (allTo_no (by omega) HV.out).symm, hb2⟩
      · have HV : Hid (bkP B 2 = true) := hv
        go_wp2_with fail
        refine (servicesHold_any B a1 a2 a3 c1 c2 c3 _ hS hZ (hB.below hb)).mono ?_
        rintro e w1 ⟨he, hb1⟩
        subst he
        have hb2 := hb.trans (hb1.mono hb.size)
        have hbox2 : Hid _ := below_blk hb1 hbox1.out hNlt
        rw [hv]
        clear x0 x1 x2 x3 f2
        go_wp2
        go_roundw
        case rel => exact ⟨2 + 1, by omega, by go_num, hb2, hbox2, upTo_step hall.out HV.out⟩
        case measure => simp [intOf]
    by_cases h3 : k = 3
    · subst h3
      have f3 := blk_cell hfn.out 3 rfl
      cases hv : (allTo (btAtB B) B.bts.length)
      · have HV : Hid (bkP B 3 = false) := hv
        go_wp2_with fail
        refine (berthsHold_any B a1 a2 a3 c1 c2 c3 _ hS hZ (hB.below hb)).mono ?_
        rintro e w1 ⟨he, hb1⟩
        subst he
        have hb2 := hb.trans (hb1.mono hb.size)
        rw [hv]
        clear x0 x1 x2 x3 f3
        go_wp2
        go_ret
        exact ⟨ret_bool (allTo_no (by omega) HV.out).symm, hb2⟩
      · have HV : Hid (bkP B 3 = true) := hv
        go_wp2_with fail
        refine (berthsHold_any B a1 a2 a3 c1 c2 c3 _ hS hZ (hB.below hb)).mono ?_
        rintro e w1 ⟨he, hb1⟩
        subst he
        have hb2 := hb.trans (hb1.mono hb.size)
        have hbox2 : Hid _ := below_blk hb1 hbox1.out hNlt
        rw [hv]
        clear x0 x1 x2 x3 f3
        go_wp2
        go_roundw
        case rel => exact ⟨3 + 1, by omega, by go_num, hb2, hbox2, upTo_step hall.out HV.out⟩
        case measure => simp [intOf]
    by_cases h4 : k = 4
    · subst h4
      have f4 := blk_cell hfn.out 4 rfl
      cases hv : (allTo (cpAtB B) B.cps.length)
      · have HV : Hid (bkP B 4 = false) := hv
        go_wp2_with fail
        refine (copiesHold_any B a1 a2 a3 c1 c2 c3 _ hS hZ (uniq_of (hall.out 2 (by omega))) (hB.below hb)).mono ?_
        rintro e w1 ⟨he, hb1⟩
        subst he
        have hb2 := hb.trans (hb1.mono hb.size)
        rw [hv]
        clear x0 x1 x2 x3 f4
        go_wp2
        go_ret
        exact ⟨ret_bool (allTo_no (by omega) HV.out).symm, hb2⟩
      · have HV : Hid (bkP B 4 = true) := hv
        go_wp2_with fail
        refine (copiesHold_any B a1 a2 a3 c1 c2 c3 _ hS hZ (uniq_of (hall.out 2 (by omega))) (hB.below hb)).mono ?_
        rintro e w1 ⟨he, hb1⟩
        subst he
        have hb2 := hb.trans (hb1.mono hb.size)
        have hbox2 : Hid _ := below_blk hb1 hbox1.out hNlt
        rw [hv]
        clear x0 x1 x2 x3 f4
        go_wp2
        go_roundw
        case rel => exact ⟨4 + 1, by omega, by go_num, hb2, hbox2, upTo_step hall.out HV.out⟩
        case measure => simp [intOf]
    · have h5 : k = 5 := by omega
      subst h5
      clear x0 x1 x2 x3
      go_wp2
      go_ret
      exact ⟨ret_bool (allTo_yes hall.out).symm, hb⟩

set_option maxHeartbeats 1000000 in
theorem implValid_any (B : Bk) (a1 a2 a3 : Option Addr) (c1 c2 c3 : Nat) (w : World) (hS : B.small) (hZ : B.sized) (hB : BkAt w a1 a2 a3 B) :
    Calls Try.prog 16 #[.agg #[.int .i64 B.now, .slice a1 B.svcs.length c1, .slice a2 B.cps.length c2, .slice a3 B.bts.length c3]] w fun e w' => e = .returned (.bool (validB B)) ∧ Below w.heap.size w w' := by
  obtain ⟨t0, t1, t2⟩ := two_new w (.cells #[.int .i64 B.now, .slice a1 B.svcs.length c1, .slice a2 B.cps.length c2, .slice a3 B.bts.length c3] 27) (.cells #[.func (.func 41) #[] #[], .func (.func 42) #[] #[], .func (.func 43) #[] #[], .func (.func 44) #[] #[], .func (.func 45) #[] #[]] 38)
  have hb0 : Below w.heap.size w ((w.alloc (.cells #[.int .i64 B.now, .slice a1 B.svcs.length c1, .slice a2 B.cps.length c2, .slice a3 B.bts.length c3] 27)).alloc (.cells #[.func (.func 41) #[] #[], .func (.func 42) #[] #[], .func (.func 43) #[] #[], .func (.func 44) #[] #[], .func (.func 45) #[] #[]] 38)) := ((Below.refl _ _).alloc (Nat.le_refl _) _).alloc (by simp) _
  have T1 : Hid _ := t1
  clear t0 t1 t2
  go_enter Try.func16, Try.ntmps16
  go_wp2_with fail
  refine (allHoldB_any B a1 a2 a3 c1 c2 c3 (w.heap.size + 1) _ hS hZ (hB.below hb0) T1.out).mono ?_
  rintro e w1 ⟨rfl, hb1⟩
  rw [bkP_all]
  go_wp2
  go_ret
  exact ⟨rfl, hb0.trans (hb1.mono hb0.size)⟩

end Go.Proofs.Ytbceafpodamnfaa
