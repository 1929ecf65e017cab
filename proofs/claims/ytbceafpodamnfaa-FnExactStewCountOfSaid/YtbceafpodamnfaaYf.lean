/-
  My own. StewCountOf: the specification's and the program's.
-/
import Derived.Test.YtbceafpodamnfaaYh
import Derived.Test.YtbceafpodamnfaaYi
import Derived.Test.YtbceafpodamnfaaWv
import Derived.Test.YtbceafpodamnfaaWt
import Derived.Deep.RegionWith
namespace Go.Proofs.Ytbceafpodamnfaa
open Go.RowKit Go.Sort Go.Maps

/-- What StewCountOf answers. -/
def cntOf (B : Bk) (sv : ByteArray) : Cnt := if validB B then cntB B sv else Cnt.none

set_option maxHeartbeats 4000000 in
theorem specCountOf_any (B : Bk) (sv : ByteArray) (a1 a2 a3 : Option Addr) (c1 c2 c3 : Nat) (w : World) (hS : B.small) (hZ : B.sized) (hB : BkAt w a1 a2 a3 B) :
    Calls Try.prog 11 #[.agg #[.int .i64 B.now, .slice a1 B.svcs.length c1, .slice a2 B.cps.length c2, .slice a3 B.bts.length c3], .string sv] w fun e w' => e = .returned (.agg (cntCells (cntOf B sv))) ∧ Below w.heap.size w w' := by
  obtain ⟨t0, t1, t2⟩ := two_new w (.cells #[.int .i64 B.now, .slice a1 B.svcs.length c1, .slice a2 B.cps.length c2, .slice a3 B.bts.length c3] 27) (.cells #[.int .i64 0, .int .i64 0, .int .i64 0, .int .i64 0, .int .i64 0] 32)
  have T0 : Hid _ := t0
  have T1 : Hid _ := t1
  have T2 : Hid _ := t2
  clear t0 t1 t2
  have hb0 : Below w.heap.size w ((w.alloc (.cells #[.int .i64 B.now, .slice a1 B.svcs.length c1, .slice a2 B.cps.length c2, .slice a3 B.bts.length c3] 27)).alloc (.cells #[.int .i64 0, .int .i64 0, .int .i64 0, .int .i64 0, .int .i64 0] 32)) := ((Below.refl _ _).alloc (Nat.le_refl _) _).alloc (by simp) _
  go_enter Try.func11, Try.ntmps11
  go_wp2_with fail
  refine (specValid_any B a1 a2 a3 c1 c2 c3 _ hS hZ (hB.below hb0)).mono ?_
  rintro e w1 ⟨rfl, hb1⟩
  have hbb1 := hb0.trans (hb1.mono hb0.size)
  rw [T2.out] at hb1
  have U0 : Hid _ := below_blk hb1 T0.out (by omega)
  have U1 : Hid _ := below_blk hb1 T1.out (by omega)
  have hz1 : w.heap.size + 1 < w1.heap.size := by have := hb1.size; rw [T2.out] at this; omega
  clear hb1 hb0 T0 T1 T2
  cases hv : validB B
  · obtain ⟨N, HN⟩ : ∃ N, Hid (N = cntOf B sv) := ⟨_, rfl⟩
    have HZ : Hid (N = Cnt.none) := by unfold Hid; rw [HN.out]; simp [cntOf, hv]
    have p0 := blk_cell U1.out 0 rfl
    have p1 := blk_cell U1.out 1 rfl
    have p2 := blk_cell U1.out 2 rfl
    have p3 := blk_cell U1.out 3 rfl
    have p4 := blk_cell U1.out 4 rfl
    have g0 := blk_frozen U1.out 0
    have g1 := blk_frozen U1.out 1
    have g2 := blk_frozen U1.out 2
    have g3 := blk_frozen U1.out 3
    have g4 := blk_frozen U1.out 4
    go_wp2
    refine bodyPost_ret (v := .agg #[.int .i64 0, .int .i64 0, .int .i64 0, .int .i64 0, .int .i64 0]) (by simp [results, Try.results11, go_sem, p0, p1, p2, p3, p4]) rfl ⟨by rw [← HN.out, HZ.out]; rfl, ?_⟩
    exact ((((hbb1.setCell (by simp) _).setCell (by simp) _).setCell (by simp) _).setCell (by simp) _).setCell (by simp) _
  · obtain ⟨N, HN⟩ : ∃ N, Hid (N = cntB B sv) := ⟨_, rfl⟩
    have HO : Hid (cntOf B sv = N) := by unfold Hid; rw [HN.out]; simp [cntOf, hv]
    have e0 := blk_cell U0.out 0 rfl
    have e1 := blk_cell U0.out 1 rfl
    have e2 := blk_cell U0.out 2 rfl
    have e3 := blk_cell U0.out 3 rfl
    go_wp2_with fail
    refine (l2Count_any B sv a1 a2 a3 c1 c2 c3 _ hS (hB.below hbb1) N HN).mono ?_
    rintro e w2 ⟨rfl, hb2⟩
    have hbb2 := hbb1.trans (hb2.mono hbb1.size)
    have V1 : Hid _ := below_blk hb2 U1.out hz1
    clear e0 e1 e2 e3 hb2
    have p0 := blk_cell V1.out 0 rfl
    have p1 := blk_cell V1.out 1 rfl
    have p2 := blk_cell V1.out 2 rfl
    have p3 := blk_cell V1.out 3 rfl
    have p4 := blk_cell V1.out 4 rfl
    have g0 := blk_frozen V1.out 0
    have g1 := blk_frozen V1.out 1
    have g2 := blk_frozen V1.out 2
    have g3 := blk_frozen V1.out 3
    have g4 := blk_frozen V1.out 4
    go_wp2
    refine bodyPost_ret (v := .agg #[.int .i64 N.live, .int .i64 N.ready, .int .i64 N.old, .int .i64 N.failed, .int .i64 N.ending]) (by simp [results, Try.results11, go_sem, p0, p1, p2, p3, p4]) rfl ⟨by rw [HO.out]; rfl, ?_⟩
    exact ((((hbb2.setCell (by simp) _).setCell (by simp) _).setCell (by simp) _).setCell (by simp) _).setCell (by simp) _

set_option maxHeartbeats 8000000 in
theorem implCountOf_any (B : Bk) (sv : ByteArray) (a1 a2 a3 : Option Addr) (c1 c2 c3 : Nat) (w : World) (HK : Hid (B.cps.length ≤ c2)) (hsv : sv.size ≤ maxLen) (hS : B.small) (hZ : B.sized) (hB : BkAt w a1 a2 a3 B) :
    Calls Try.prog 10 #[.agg #[.int .i64 B.now, .slice a1 B.svcs.length c1, .slice a2 B.cps.length c2, .slice a3 B.bts.length c3], .string sv] w fun e w' => e = .returned (.agg (cntCells (cntOf B sv))) ∧ Below w.heap.size w w' := by
  obtain ⟨t0, t1, t2⟩ := two_new w (.cells #[.int .i64 B.now, .slice a1 B.svcs.length c1, .slice a2 B.cps.length c2, .slice a3 B.bts.length c3] 27) (.cells #[.int .i64 0, .int .i64 0, .int .i64 0, .int .i64 0, .int .i64 0] 32)
  have T0 : Hid _ := t0
  have T1 : Hid _ := t1
  have T2 : Hid _ := t2
  clear t0 t1 t2
  have hb0 : Below w.heap.size w ((w.alloc (.cells #[.int .i64 B.now, .slice a1 B.svcs.length c1, .slice a2 B.cps.length c2, .slice a3 B.bts.length c3] 27)).alloc (.cells #[.int .i64 0, .int .i64 0, .int .i64 0, .int .i64 0, .int .i64 0] 32)) := ((Below.refl _ _).alloc (Nat.le_refl _) _).alloc (by simp) _
  go_enter Try.func10, Try.ntmps10
  go_wp2_with fail
  refine (implValid_any B a1 a2 a3 c1 c2 c3 _ hS hZ (hB.below hb0)).mono ?_
  rintro e w1 ⟨rfl, hb1⟩
  have hbb1 := hb0.trans (hb1.mono hb0.size)
  rw [T2.out] at hb1
  have U0 : Hid _ := below_blk hb1 T0.out (by omega)
  have U1 : Hid _ := below_blk hb1 T1.out (by omega)
  have hz1 : w.heap.size + 1 < w1.heap.size := by have := hb1.size; rw [T2.out] at this; omega
  clear hb1 hb0 T0 T1 T2
  cases hv : validB B
  · obtain ⟨N, HN⟩ : ∃ N, Hid (N = cntOf B sv) := ⟨_, rfl⟩
    have HZ : Hid (N = Cnt.none) := by unfold Hid; rw [HN.out]; simp [cntOf, hv]
    have p0 := blk_cell U1.out 0 rfl
    have p1 := blk_cell U1.out 1 rfl
    have p2 := blk_cell U1.out 2 rfl
    have p3 := blk_cell U1.out 3 rfl
    have p4 := blk_cell U1.out 4 rfl
    have g0 := blk_frozen U1.out 0
    have g1 := blk_frozen U1.out 1
    have g2 := blk_frozen U1.out 2
    have g3 := blk_frozen U1.out 3
    have g4 := blk_frozen U1.out 4
    go_wp2
    refine bodyPost_ret (v := .agg #[.int .i64 0, .int .i64 0, .int .i64 0, .int .i64 0, .int .i64 0]) (by simp [results, Try.results10, go_sem, p0, p1, p2, p3, p4]) rfl ⟨by rw [← HN.out, HZ.out]; rfl, ?_⟩
    exact ((((hbb1.setCell (by simp) _).setCell (by simp) _).setCell (by simp) _).setCell (by simp) _).setCell (by simp) _
  · have hU : uniqS B := by
      have := hv
      simp only [validB, Bool.and_eq_true] at this
      exact uniq_of this.1.1.2
    have HV : Hid (validB B = true) := hv
    clear hv
    have e0 := blk_cell U0.out 0 rfl
    have e1 := blk_cell U0.out 1 rfl
    have e2 := blk_cell U0.out 2 rfl
    have e3 := blk_cell U0.out 3 rfl
    go_wp2_with fail
    refine (placesIn_any B a1 a2 a3 c1 c2 c3 _ hS hZ hU (hB.below hbb1)).mono ?_
    rintro e w2 ⟨rfl, hpl, hb2⟩
    have hbb2 := hbb1.trans (hb2.mono hbb1.size)
    have V0 : Hid _ := below_blk hb2 U0.out (by omega)
    have V1 : Hid _ := below_blk hb2 U1.out hz1
    have hz2 : w.heap.size + 1 < w2.heap.size := Nat.lt_of_lt_of_le hz1 hb2.size
    obtain ⟨n, D, hn, hown2, q1, q2, q3, q4⟩ := hpl
    have H1 : Hid _ := q1
    have H2 : Hid _ := q2
    clear e0 e1 e2 e3 hb2 q1 q2 q3 q4
    cases hf : svcOf B sv with
    | none =>
      have HO : Hid (cntOf B sv = Cnt.none) := by unfold Hid cntOf; rw [HV.out]; simp [cntB, hf]
      have HH : Hid (Maps.has D (key 1 sv) = false) := H1.out sv hsv (svcOf_none hf)
      have HA : Hid (D.atKey (key 1 sv) (.lit (.int .i64 0)) = .lit (.int .i64 0)) := atKey_of_not_has HH.out _
      clear hf
      have p0 := blk_cell V1.out 0 rfl
      have p1 := blk_cell V1.out 1 rfl
      have p2 := blk_cell V1.out 2 rfl
      have p3 := blk_cell V1.out 3 rfl
      have p4 := blk_cell V1.out 4 rfl
      have g0 := blk_frozen V1.out 0
      have g1 := blk_frozen V1.out 1
      have g2 := blk_frozen V1.out 2
      have g3 := blk_frozen V1.out 3
      have g4 := blk_frozen V1.out 4
      go_wp2_with (at_lookup; refine wpList_lookup_is _ rfl (.tmp 13) (.tmp 15) 64 rfl 67 3 .i64 thingLaw Try.underlying64 Try.underlying3 (zeroInt _) (w1.heap.size + 1) n D rfl hown2 _ _ rfl (key_ok 1 sv wf1 hsv) 0 false HA.out HH.out ?_)
      refine bodyPost_ret (v := .agg #[.int .i64 0, .int .i64 0, .int .i64 0, .int .i64 0, .int .i64 0]) (by simp [results, Try.results10, go_sem, p0, p1, p2, p3, p4]) rfl ⟨by rw [HO.out]; rfl, ?_⟩
      exact ((((hbb2.setCell (by simp) _).setCell (by simp) _).setCell (by simp) _).setCell (by simp) _).setCell (by simp) _
    | some s =>
      obtain ⟨i, hil, hi, hnm⟩ := svcOf_some hf
      obtain ⟨N, HN⟩ : ∃ N, Hid (N = cntTo s.image s.name B.cps B.cps.length) := ⟨_, rfl⟩
      have HO : Hid (cntOf B sv = N) := by unfold Hid cntOf; rw [HV.out, HN.out, hnm]; simp [cntB, hf]
      have H2' := H2.out i s hil hi
      rw [hnm] at H2'
      have HH : Hid (Maps.has D (key 1 sv) = true) := H2'.1
      have HA : Hid (D.atKey (key 1 sv) (.lit (.int .i64 0)) = .lit (.int .i64 (i : Int))) := H2'.2
      have hne : B.svcs ≠ [] := by intro h; rw [h] at hil; simp at hil
      obtain ⟨bS, offS, eS, hbsS, hatS⟩ := hB.1 hne
      subst eS
      have hsx := (hatS i s hi).below hbb2 hbsS
      unfold SvcAt at hsx
      obtain ⟨z0, z1, z2, z3, z4, z5, z6, z7, z8, z9, z10, z11, z12⟩ := hsx
      have hC2 : SlC w2.drew a2 B.cps := (hB.below hbb2.drew).2.1
      have hS' := hS
      obtain ⟨hl1, hl2, hl3⟩ := hS'
      have e0 := blk_cell V0.out 0 rfl
      have e1 := blk_cell V0.out 1 rfl
      have e2 := blk_cell V0.out 2 rfl
      have e3 := blk_cell V0.out 3 rfl
      clear hf H2' hnm hi hne hatS
      go_wp2_with (at_lookup; refine wpList_lookup_is _ rfl (.tmp 13) (.tmp 15) 64 rfl 67 3 .i64 thingLaw Try.underlying64 Try.underlying3 (zeroInt _) (w1.heap.size + 1) n D rfl hown2 _ _ rfl (key_ok 1 sv wf1 hsv) (i : Int) true HA.out HH.out ?_)
      go_region_with (go_at_call 26; refine (countCopies_any B s _ a2 a3 c1 c2 c3 _ hl2 (riseC_of (validB_iff.1 HV.out)) HK hC2 N HN).mono ?_; rintro e w4 ⟨rfl, hb4⟩; have X1 : Hid _ := below_blk hb4 V1.out hz2; have p0 := blk_cell X1.out 0 rfl; have p1 := blk_cell X1.out 1 rfl; have p2 := blk_cell X1.out 2 rfl; have p3 := blk_cell X1.out 3 rfl; have p4 := blk_cell X1.out 4 rfl; have g0 := blk_frozen X1.out 0; have g1 := blk_frozen X1.out 1; have g2 := blk_frozen X1.out 2; have g3 := blk_frozen X1.out 3; have g4 := blk_frozen X1.out 4)
      all_goals
        go_wp2
        refine bodyPost_ret (v := .agg #[.int .i64 N.live, .int .i64 N.ready, .int .i64 N.old, .int .i64 N.failed, .int .i64 N.ending]) (by simp [results, Try.results10, go_sem, p0, p1, p2, p3, p4]) rfl ⟨by rw [HO.out]; rfl, ?_⟩
        have hbF := hbb2.drew.trans (hb4.mono hbb2.size)
        exact ((((hbF.setCell (by simp) _).setCell (by simp) _).setCell (by simp) _).setCell (by simp) _).setCell (by simp) _

end Go.Proofs.Ytbceafpodamnfaa
