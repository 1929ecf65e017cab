/-
  My own. The program's StewMayEnd.
-/
import Derived.Test.YtbceafpodamnfaaDg
import Derived.Test.YtbceafpodamnfaaZd
import Derived.Test.YtbceafpodamnfaaYf
namespace Go.Proofs.Ytbceafpodamnfaa
open Go.RowKit Go.Sort Go.Maps

set_option maxRecDepth 100000 in
set_option maxHeartbeats 8000000 in
theorem implMayEnd_any (B : Bk) (sv : ByteArray) (num : Int) (a1 a2 a3 : Option Addr) (c1 c2 c3 : Nat) (w : World) (HK : Hid (B.cps.length ≤ c2)) (hsv : sv.size ≤ maxLen) (hnum : (Lit.int .i64 num).wf = true) (hS : B.small) (hZ : B.sized) (hB : BkAt w a1 a2 a3 B) :
    Calls Try.prog 8 #[.agg #[.int .i64 B.now, .slice a1 B.svcs.length c1, .slice a2 B.cps.length c2, .slice a3 B.bts.length c3], .string sv, .int .i64 num] w fun e w' => e = .returned (.bool (mayOf B sv num)) ∧ Below w.heap.size w w' := by
  have hb0 := below_box w (.cells #[.int .i64 B.now, .slice a1 B.svcs.length c1, .slice a2 B.cps.length c2, .slice a3 B.bts.length c3] 27)
  have T0 : Hid _ := heap_alloc_new w (.cells #[.int .i64 B.now, .slice a1 B.svcs.length c1, .slice a2 B.cps.length c2, .slice a3 B.bts.length c3] 27)
  have HS0 : Hid _ := size_alloc' w (.cells #[.int .i64 B.now, .slice a1 B.svcs.length c1, .slice a2 B.cps.length c2, .slice a3 B.bts.length c3] 27)
  have HNUM : Hid _ := hnum
  clear hnum
  go_enter Try.func8, Try.ntmps8
  go_wp2_with fail
  refine (implValid_any B a1 a2 a3 c1 c2 c3 _ hS hZ (hB.below hb0)).mono ?_
  rintro e w1 ⟨rfl, hb1⟩
  have hbb1 := hb0.trans (hb1.mono hb0.size)
  rw [HS0.out] at hb1
  have T1 : Hid _ := below_blk hb1 T0.out (by omega)
  have hz1 : w.heap.size < w1.heap.size := by have := hb1.size; rw [HS0.out] at this; omega
  clear hb1 hb0 T0 HS0
  cases hv : validB B
  · have HO : Hid (mayOf B sv num = false) := by unfold Hid mayOf; rw [hv]; rfl
    go_wp2
    go_ret
    exact ⟨ret_bool HO.out.symm, hbb1⟩
  · have hval := validB_iff.1 hv
    have HSO : Hid (RiseC B.cps) := riseC_of hval
    have HVB : Hid _ := hv
    have hU : uniqS B := uniq_of hval.svcs
    clear hv
    have e0 := blk_cell T1.out 0 rfl
    have e1 := blk_cell T1.out 1 rfl
    have e2 := blk_cell T1.out 2 rfl
    have e3 := blk_cell T1.out 3 rfl
    go_wp2_with fail
    refine (copyPlaces_any B a1 a2 a3 c1 c2 c3 _ hS hZ hval.wfC (uniqC_of hval.cps) (hB.below hbb1)).mono ?_
    rintro e w2 ⟨rfl, hpl, hb2⟩
    have hbb2 := hbb1.trans (hb2.mono hbb1.size)
    have T2 : Hid _ := below_blk hb2 T1.out hz1
    have hz2 : w.heap.size < w2.heap.size := Nat.lt_of_lt_of_le hz1 hb2.size
    obtain ⟨n, D, hn, hown2, q1, q2⟩ := hpl
    have H1 : Hid _ := q1
    have H2 : Hid _ := q2
    clear e0 e1 e2 e3 hb2 q1 q2 hbb1 T1
    cases hf : B.cps.find? (isC sv num) with
    | none =>
      have HO : Hid (mayOf B sv num = false) := by unfold Hid mayOf; rw [hf, Bool.and_false]
      have HH : Hid (Maps.has D (nkey sv num) = false) := H1.out sv num hsv HNUM.out fun i c _ hc hh => by
        rw [List.find?_eq_none] at hf
        exact hf c (List.mem_of_getElem? hc) (isC_iff.2 hh)
      have HA : Hid (D.atKey (nkey sv num) (.lit (.int .i64 0)) = .lit (.int .i64 0)) := atKey_of_not_has HH.out _
      clear hf
      go_wp2_with (at_lookup; refine wpList_lookup_is _ rfl (.tmp 15) (.tmp 18) 58 rfl 61 3 .i64 numLaw Try.underlying58 Try.underlying3 (zeroInt _) (w1.heap.size + 1) n D rfl hown2 _ _ rfl (nkey_ok sv num HNUM.out hsv) 0 false HA.out HH.out ?_)
      go_ret
      exact ⟨ret_bool HO.out.symm, hbb2⟩
    | some c =>
      obtain ⟨ic, hic, hidc⟩ : ∃ i : Nat, B.cps[i]? = some c ∧ idxC B.cps sv num = (i : Int) := idxOf_find hf
      have hiclt : ic < B.cps.length := (List.getElem?_eq_some_iff.1 hic).1
      obtain ⟨hcs, hcn⟩ := isC_iff.1 (List.find?_some hf)
      have hcm := List.mem_of_getElem? hic
      obtain ⟨s, hsv', _⟩ := hval.svc hcm
      rw [hcs] at hsv'
      have hsi := hval.svcIn (svcOf_mem hsv')
      obtain ⟨ix, hixlt, hix, hnm⟩ := svcOf_some hsv'
      obtain ⟨bS, offS, eS, hbsS, hatS⟩ := hB.1 (by intro h; rw [h] at hixlt; simp at hixlt)
      obtain ⟨bC, offC, eC, hbsC, hatC⟩ := hB.2.1 (by intro h; rw [h] at hiclt; simp at hiclt)
      subst eS eC
      have hsx := hatS ix s hix
      have hcx := hatC ic c hic
      obtain ⟨N, HN⟩ : ∃ N, Hid (N = cntTo s.image s.name B.cps B.cps.length) := ⟨_, rfl⟩
      have hup := cntTo_upTo s.image s.name B.cps B.cps.length (Nat.le_refl _)
      rw [← HN.out] at hup
      have hr0 := hup.2.2.1
      have hr1 := hup.2.2.2.1
      have HO : Hid (mayOf B sv num = mayR s c N.ready) := by
        unfold Hid mayOf
        rw [HVB.out, hf, hsv', HN.out, hnm]
        simp only [Bool.true_and]
        exact mayL_R B s sv c
      have H2' := H2.out ic c hiclt hic
      rw [hcs, hcn] at H2'
      have HH : Hid (Maps.has D (nkey sv num) = true) := H2'.1
      have HA : Hid (D.atKey (nkey sv num) (.lit (.int .i64 0)) = .lit (.int .i64 (ic : Int))) := H2'.2
      have HSX : Hid _ := hix
      have HNM : Hid _ := hnm
      have HG1 : Hid (∀ W, Below w2.heap.size w2 W → W.heap[w.heap.size]? = some (.cells #[.int .i64 B.now, .slice (some ⟨bS, offS, none⟩) B.svcs.length c1, .slice (some ⟨bC, offC, none⟩) B.cps.length c2, .slice a3 B.bts.length c3] 27 (0, 0))) := fun W hW => below_blk hW T2.out hz2
      have HG2 : Hid (∀ W, Below w2.heap.size w2 W → w.heap.size < W.heap.size) := fun W hW => Nat.lt_of_lt_of_le hz2 hW.size
      have HG3 : Hid (∀ W, Below w2.heap.size w2 W → Below w.heap.size w W) := fun W hW => hbb2.trans (hW.mono hbb2.size)
      have hl := hS
      obtain ⟨hl1, hl2, hl3⟩ := hl
      have hr2 : N.ready ≤ 1048576 := by omega
      clear hf hic hidc hcs hcn hcm hsv' hnm hix hatS hatC hup H2' H1 H2 hval HVB hbb2 T2
      go_wp2_with (at_lookup; refine wpList_lookup_is _ rfl (.tmp 15) (.tmp 18) 58 rfl 61 3 .i64 numLaw Try.underlying58 Try.underlying3 (zeroInt _) (w1.heap.size + 1) n D rfl hown2 _ _ rfl (nkey_ok sv num HNUM.out hsv) (ic : Int) true HA.out HH.out ?_)
      clear hown2 HA HH
      refine wp_region_grows 10 (by kernel_rfl) (by kernel_rfl) ?_
      apply grow_eq
      · intro V W K A hW hd hA hK
        simp only [putAll, List.getElem?_toArray, List.getElem?_cons_succ, List.getElem?_cons_zero, Option.bind_some, Act.put, List.setIfInBounds_toArray, List.set_cons_succ, List.set_cons_zero] at hA
        clear hd
        generalize V 0 = x0 at hA
        generalize V 1 = x1 at hA
        generalize V 2 = x2 at hA
        generalize V 3 = x3 at hA
        generalize V 4 = x4 at hA
        generalize V 5 = x5 at hA
        generalize V 6 = x6 at hA
        generalize V 7 = x7 at hA
        generalize V 8 = x8 at hA
        generalize V 9 = x9 at hA
        obtain rfl := hA
        go_wp2
        exact hK.out _ (Below.refl _ _)
      apply grow_eq
      · intro V W K A hW hd hA hK
        have d0 : V 0 = _ := hd 0 (by kernel_rfl)
        simp only [putAll, List.getElem?_toArray, List.getElem?_cons_succ, List.getElem?_cons_zero, Option.bind_some, Act.put, List.setIfInBounds_toArray, List.set_cons_succ, List.set_cons_zero] at hA
        clear hd
        generalize V 0 = x0 at d0 hA
        generalize V 1 = x1 at hA
        generalize V 2 = x2 at hA
        generalize V 3 = x3 at hA
        generalize V 4 = x4 at hA
        generalize V 5 = x5 at hA
        generalize V 6 = x6 at hA
        generalize V 7 = x7 at hA
        generalize V 8 = x8 at hA
        generalize V 9 = x9 at hA
        subst d0
        obtain rfl := hA
        have e0 := blk_cell (HG1.out W hW) 0 rfl
        have e1 := blk_cell (HG1.out W hW) 1 rfl
        have e2 := blk_cell (HG1.out W hW) 2 rfl
        have e3 := blk_cell (HG1.out W hW) 3 rfl
        go_wp2
        exact hK.out _ (Below.refl _ _)
      apply grow_eq
      · intro V W K A hW hd hA hK
        simp only [putAll, List.getElem?_toArray, List.getElem?_cons_succ, List.getElem?_cons_zero, Option.bind_some, Act.put, List.setIfInBounds_toArray, List.set_cons_succ, List.set_cons_zero] at hA
        clear hd
        generalize V 0 = x0 at hA
        generalize V 1 = x1 at hA
        generalize V 2 = x2 at hA
        generalize V 3 = x3 at hA
        generalize V 4 = x4 at hA
        generalize V 5 = x5 at hA
        generalize V 6 = x6 at hA
        generalize V 7 = x7 at hA
        generalize V 8 = x8 at hA
        generalize V 9 = x9 at hA
        obtain rfl := hA
        have e0 := blk_cell (HG1.out W hW) 0 rfl
        have e1 := blk_cell (HG1.out W hW) 1 rfl
        have e2 := blk_cell (HG1.out W hW) 2 rfl
        have e3 := blk_cell (HG1.out W hW) 3 rfl
        go_wp2
        exact hK.out _ (Below.refl _ _)
      refine grow_op (fun v W => ∃ m, v = .map (some m) ∧ PlacesAt W m B B.svcs.length B.bts.length) (fun v W W2 ⟨m, h1, h2⟩ hb => ⟨m, h1, h2.below hb h2.lt⟩) ?_ ?_
      · intro V W K A hW hd hA hK
        have d2 : V 2 = _ := hd 2 (by kernel_rfl)
        simp only [putAll, List.getElem?_toArray, List.getElem?_cons_succ, List.getElem?_cons_zero, Option.bind_some, Act.put, List.setIfInBounds_toArray, List.set_cons_succ, List.set_cons_zero] at hA
        clear hd
        generalize V 0 = x0 at hA
        generalize V 1 = x1 at hA
        generalize V 2 = x2 at d2 hA
        generalize V 3 = x3 at hA
        generalize V 4 = x4 at hA
        generalize V 5 = x5 at hA
        generalize V 6 = x6 at hA
        generalize V 7 = x7 at hA
        generalize V 8 = x8 at hA
        generalize V 9 = x9 at hA
        subst d2
        obtain rfl := hA
        go_wp2_with fail
        refine (placesIn_any B _ _ a3 c1 c2 c3 _ hS hZ hU (hB.below (HG3.out W hW))).mono ?_
        rintro e w3 ⟨rfl, hpl, hb3⟩
        have HPL : Hid _ := hpl
        clear hpl
        go_wp2
        exact hK.out _ _ hb3 ⟨_, rfl, HPL.out⟩
      apply grow_eq
      · intro V W K A hW hd hA hK
        simp only [putAll, List.getElem?_toArray, List.getElem?_cons_succ, List.getElem?_cons_zero, Option.bind_some, Act.put, List.setIfInBounds_toArray, List.set_cons_succ, List.set_cons_zero] at hA
        clear hd
        generalize V 0 = x0 at hA
        generalize V 1 = x1 at hA
        generalize V 2 = x2 at hA
        generalize V 3 = x3 at hA
        generalize V 4 = x4 at hA
        generalize V 5 = x5 at hA
        generalize V 6 = x6 at hA
        generalize V 7 = x7 at hA
        generalize V 8 = x8 at hA
        generalize V 9 = x9 at hA
        obtain rfl := hA
        go_wp2
        exact hK.out _ (Below.refl _ _)
      apply grow_eq
      · intro V W K A hW hd hA hK
        have d4 : V 4 = _ := hd 4 (by kernel_rfl)
        simp only [putAll, List.getElem?_toArray, List.getElem?_cons_succ, List.getElem?_cons_zero, Option.bind_some, Act.put, List.setIfInBounds_toArray, List.set_cons_succ, List.set_cons_zero] at hA
        clear hd
        generalize V 0 = x0 at hA
        generalize V 1 = x1 at hA
        generalize V 2 = x2 at hA
        generalize V 3 = x3 at hA
        generalize V 4 = x4 at d4 hA
        generalize V 5 = x5 at hA
        generalize V 6 = x6 at hA
        generalize V 7 = x7 at hA
        generalize V 8 = x8 at hA
        generalize V 9 = x9 at hA
        subst d4
        obtain rfl := hA
        go_wp2
        exact hK.out _ (Below.refl _ _)
      apply grow_eq
      · intro V W K A hW hd hA hK
        have d3 : (fun v W => ∃ m, v = .map (some m) ∧ PlacesAt W m B B.svcs.length B.bts.length) (V 3) W := hd 3 (by kernel_rfl)
        have d5 : V 5 = _ := hd 5 (by kernel_rfl)
        simp only [putAll, List.getElem?_toArray, List.getElem?_cons_succ, List.getElem?_cons_zero, Option.bind_some, Act.put, List.setIfInBounds_toArray, List.set_cons_succ, List.set_cons_zero] at hA
        clear hd
        generalize V 0 = x0 at hA
        generalize V 1 = x1 at hA
        generalize V 2 = x2 at hA
        generalize V 3 = x3 at d3 hA
        generalize V 4 = x4 at hA
        generalize V 5 = x5 at d5 hA
        generalize V 6 = x6 at hA
        generalize V 7 = x7 at hA
        generalize V 8 = x8 at hA
        generalize V 9 = x9 at hA
        subst d5
        obtain rfl := hA
        obtain ⟨m, rfl, hpl⟩ := d3
        obtain ⟨n, D, hn, hown, q1, q2, q3, q4⟩ := hpl
        have H2 := q2 ix s hixlt HSX.out
        rw [HNM.out] at H2
        have HAT : Hid _ := H2.2
        clear q1 q2 q3 q4 H2
        refine wpList_lookup_own_int _ rfl (.tmp 27) (.tmp 29) 64 rfl 67 3 .i64 thingLaw Try.underlying64 Try.underlying3 (zeroInt _) m n D rfl hown _ _ rfl (key_ok 1 sv wf1 hsv) fun c0 hc0 _ => ?_
        have hcc : c0 = (ix : Int) := by rw [HAT.out] at hc0; simpa using hc0.symm
        subst hcc
        exact hK.out _ (Below.refl _ _)
      apply grow_eq
      · intro V W K A hW hd hA hK
        have d1 : V 1 = _ := hd 1 (by kernel_rfl)
        have d6 : V 6 = _ := hd 6 (by kernel_rfl)
        simp only [putAll, List.getElem?_toArray, List.getElem?_cons_succ, List.getElem?_cons_zero, Option.bind_some, Act.put, List.setIfInBounds_toArray, List.set_cons_succ, List.set_cons_zero] at hA
        clear hd
        generalize V 0 = x0 at hA
        generalize V 1 = x1 at d1 hA
        generalize V 2 = x2 at hA
        generalize V 3 = x3 at hA
        generalize V 4 = x4 at hA
        generalize V 5 = x5 at hA
        generalize V 6 = x6 at d6 hA
        generalize V 7 = x7 at hA
        generalize V 8 = x8 at hA
        generalize V 9 = x9 at hA
        subst d1
        subst d6
        obtain rfl := hA
        go_wp2
        exact hK.out _ (Below.refl _ _)
      apply grow_eq
      · intro V W K A hW hd hA hK
        have d7 : V 7 = _ := hd 7 (by kernel_rfl)
        simp only [putAll, List.getElem?_toArray, List.getElem?_cons_succ, List.getElem?_cons_zero, Option.bind_some, Act.put, List.setIfInBounds_toArray, List.set_cons_succ, List.set_cons_zero] at hA
        clear hd
        generalize V 0 = x0 at hA
        generalize V 1 = x1 at hA
        generalize V 2 = x2 at hA
        generalize V 3 = x3 at hA
        generalize V 4 = x4 at hA
        generalize V 5 = x5 at hA
        generalize V 6 = x6 at hA
        generalize V 7 = x7 at d7 hA
        generalize V 8 = x8 at hA
        generalize V 9 = x9 at hA
        subst d7
        obtain rfl := hA
        have hq := hsx.below (HG3.out W hW) hbsS
        unfold SvcAt at hq
        obtain ⟨q0, q1, q2, q3, q4, q5, q6, q7, q8, q9, q10, q11, q12⟩ := hq
        go_wp2
        exact hK.out _ (Below.refl _ _)
      refine grow_op (fun v W => ∃ p, v = .pointer (some ⟨p, 0, none⟩) ∧ w.heap.size < p ∧ W.heap[p]? = some (.cells #[.string ⟨#[]⟩, .int .i64 0, .bool false, .int .i64 0, .int .i64 0, .int .i64 0, .int .i64 0, .int .i64 0, .int .i64 0, .int .i64 0, .int .i64 0, .int .i64 0, .int .i64 0] 63 (0, 0))) (fun v W W2 ⟨p, h1, h2, h3⟩ hb => ⟨p, h1, h2, below_blk hb h3 (Array.getElem?_eq_some_iff.1 h3).1⟩) ?_ ?_
      · intro V W K A hW hd hA hK
        simp only [putAll, List.getElem?_toArray, List.getElem?_cons_succ, List.getElem?_cons_zero, Option.bind_some, Act.put, List.setIfInBounds_toArray, List.set_cons_succ, List.set_cons_zero] at hA
        clear hd
        generalize V 0 = x0 at hA
        generalize V 1 = x1 at hA
        generalize V 2 = x2 at hA
        generalize V 3 = x3 at hA
        generalize V 4 = x4 at hA
        generalize V 5 = x5 at hA
        generalize V 6 = x6 at hA
        generalize V 7 = x7 at hA
        generalize V 8 = x8 at hA
        generalize V 9 = x9 at hA
        obtain rfl := hA
        go_wp2
        exact hK.out _ _ (below_box W _) ⟨_, rfl, HG2.out W hW, heap_alloc_new W _⟩
      intro V W A hW hS hA
      have d0 : V 0 = _ := hS 0 (by omega)
      have d1 : V 1 = _ := hS 1 (by omega)
      have d2 : V 2 = _ := hS 2 (by omega)
      have d3 : (fun v W => ∃ m, v = .map (some m) ∧ PlacesAt W m B B.svcs.length B.bts.length) (V 3) W := hS 3 (by omega)
      have d4 : V 4 = _ := hS 4 (by omega)
      have d5 : V 5 = _ := hS 5 (by omega)
      have d6 : V 6 = _ := hS 6 (by omega)
      have d7 : V 7 = _ := hS 7 (by omega)
      have d8 : V 8 = _ := hS 8 (by omega)
      have d9 : (fun v W => ∃ p, v = .pointer (some ⟨p, 0, none⟩) ∧ w.heap.size < p ∧ W.heap[p]? = some (.cells #[.string ⟨#[]⟩, .int .i64 0, .bool false, .int .i64 0, .int .i64 0, .int .i64 0, .int .i64 0, .int .i64 0, .int .i64 0, .int .i64 0, .int .i64 0, .int .i64 0, .int .i64 0] 63 (0, 0))) (V 9) W := hS 9 (by omega)
      simp only [putAll, List.getElem?_toArray, List.getElem?_cons_succ, List.getElem?_cons_zero, Option.bind_some, Act.put, List.setIfInBounds_toArray, List.set_cons_succ, List.set_cons_zero] at hA
      clear hS
      generalize V 0 = x0 at d0 hA
      generalize V 1 = x1 at d1 hA
      generalize V 2 = x2 at d2 hA
      generalize V 3 = x3 at d3 hA
      generalize V 4 = x4 at d4 hA
      generalize V 5 = x5 at d5 hA
      generalize V 6 = x6 at d6 hA
      generalize V 7 = x7 at d7 hA
      generalize V 8 = x8 at d8 hA
      generalize V 9 = x9 at d9 hA
      subst d0
      subst d1
      subst d2
      subst d4
      subst d5
      subst d6
      subst d7
      subst d8
      obtain rfl := hA
      simp only [List.drop_succ_cons, List.drop_zero]
      obtain ⟨p, rfl, hp, hz⟩ := d9
      clear d3
      have hle : w.heap.size ≤ p := by omega
      refine wpList_store_at rfl 63 (.tmp 9) (.tmp 32) rfl p 0 #[.string s.name, .int .i64 s.version, .bool s.gone, .int .i64 s.image, .int .i64 s.want, .int .i64 s.down, .int .i64 s.over, .int .i64 s.next, .int .i64 s.per, .int .i64 s.least, .int .i64 s.most, .int .i64 s.load, .int .i64 s.cool] rfl rfl 63 #[.string ⟨#[]⟩, .int .i64 0, .bool false, .int .i64 0, .int .i64 0, .int .i64 0, .int .i64 0, .int .i64 0, .int .i64 0, .int .i64 0, .int .i64 0, .int .i64 0, .int .i64 0] hz Try.infosService (Nat.le_refl 13) (one_Svc s) ?_
      intro w5 hrow2 hsz2 hb2
      have hxs : Hid (w5.heap[p]? = some (.cells #[.string s.name, .int .i64 s.version, .bool s.gone, .int .i64 s.image, .int .i64 s.want, .int .i64 s.down, .int .i64 s.over, .int .i64 s.next, .int .i64 s.per, .int .i64 s.least, .int .i64 s.most, .int .i64 s.load, .int .i64 s.cool] 63 (0, 0))) := hrow2
      have hbox : Hid _ := (hb2.block _ hp).trans (HG1.out W hW)
      have hbc := (HG3.out W hW).trans (hb2.mono hle)
      clear hrow2 hsz2 hb2 hz hW HG1 HG2 HG3
      have hbl : w.heap.size < w5.heap.size := (Array.getElem?_eq_some_iff.1 hbox.out).1
      have hxl : p < w5.heap.size := (Array.getElem?_eq_some_iff.1 hxs.out).1
      go_wp2
      refine wp_region_grows 11 (by kernel_rfl) (by kernel_rfl) ?_
      apply grow_eq
      · intro V W K A hW hd hA hK
        simp only [putAll, List.getElem?_toArray, List.getElem?_cons_succ, List.getElem?_cons_zero, Option.bind_some, Act.put, List.setIfInBounds_toArray, List.set_cons_succ, List.set_cons_zero] at hA
        clear hd
        generalize V 0 = x0 at hA
        generalize V 1 = x1 at hA
        generalize V 2 = x2 at hA
        generalize V 3 = x3 at hA
        generalize V 4 = x4 at hA
        generalize V 5 = x5 at hA
        generalize V 6 = x6 at hA
        generalize V 7 = x7 at hA
        generalize V 8 = x8 at hA
        generalize V 9 = x9 at hA
        generalize V 10 = x10 at hA
        obtain rfl := hA
        have z0 := blk_cell (below_blk hW hxs.out hxl) 0 rfl
        have z1 := blk_cell (below_blk hW hxs.out hxl) 1 rfl
        have z2 := blk_cell (below_blk hW hxs.out hxl) 2 rfl
        have z3 := blk_cell (below_blk hW hxs.out hxl) 3 rfl
        have z4 := blk_cell (below_blk hW hxs.out hxl) 4 rfl
        have z5 := blk_cell (below_blk hW hxs.out hxl) 5 rfl
        have z6 := blk_cell (below_blk hW hxs.out hxl) 6 rfl
        have z7 := blk_cell (below_blk hW hxs.out hxl) 7 rfl
        have z8 := blk_cell (below_blk hW hxs.out hxl) 8 rfl
        have z9 := blk_cell (below_blk hW hxs.out hxl) 9 rfl
        have z10 := blk_cell (below_blk hW hxs.out hxl) 10 rfl
        have z11 := blk_cell (below_blk hW hxs.out hxl) 11 rfl
        have z12 := blk_cell (below_blk hW hxs.out hxl) 12 rfl
        go_wp2
        exact hK.out _ (Below.refl _ _)
      apply grow_eq
      · intro V W K A hW hd hA hK
        simp only [putAll, List.getElem?_toArray, List.getElem?_cons_succ, List.getElem?_cons_zero, Option.bind_some, Act.put, List.setIfInBounds_toArray, List.set_cons_succ, List.set_cons_zero] at hA
        clear hd
        generalize V 0 = x0 at hA
        generalize V 1 = x1 at hA
        generalize V 2 = x2 at hA
        generalize V 3 = x3 at hA
        generalize V 4 = x4 at hA
        generalize V 5 = x5 at hA
        generalize V 6 = x6 at hA
        generalize V 7 = x7 at hA
        generalize V 8 = x8 at hA
        generalize V 9 = x9 at hA
        generalize V 10 = x10 at hA
        obtain rfl := hA
        go_wp2
        exact hK.out _ (Below.refl _ _)
      apply grow_eq
      · intro V W K A hW hd hA hK
        have d1 : V 1 = _ := hd 1 (by kernel_rfl)
        simp only [putAll, List.getElem?_toArray, List.getElem?_cons_succ, List.getElem?_cons_zero, Option.bind_some, Act.put, List.setIfInBounds_toArray, List.set_cons_succ, List.set_cons_zero] at hA
        clear hd
        generalize V 0 = x0 at hA
        generalize V 1 = x1 at d1 hA
        generalize V 2 = x2 at hA
        generalize V 3 = x3 at hA
        generalize V 4 = x4 at hA
        generalize V 5 = x5 at hA
        generalize V 6 = x6 at hA
        generalize V 7 = x7 at hA
        generalize V 8 = x8 at hA
        generalize V 9 = x9 at hA
        generalize V 10 = x10 at hA
        subst d1
        obtain rfl := hA
        have e0 := blk_cell (below_blk hW hbox.out hbl) 0 rfl
        have e1 := blk_cell (below_blk hW hbox.out hbl) 1 rfl
        have e2 := blk_cell (below_blk hW hbox.out hbl) 2 rfl
        have e3 := blk_cell (below_blk hW hbox.out hbl) 3 rfl
        go_wp2
        exact hK.out _ (Below.refl _ _)
      apply grow_eq
      · intro V W K A hW hd hA hK
        simp only [putAll, List.getElem?_toArray, List.getElem?_cons_succ, List.getElem?_cons_zero, Option.bind_some, Act.put, List.setIfInBounds_toArray, List.set_cons_succ, List.set_cons_zero] at hA
        clear hd
        generalize V 0 = x0 at hA
        generalize V 1 = x1 at hA
        generalize V 2 = x2 at hA
        generalize V 3 = x3 at hA
        generalize V 4 = x4 at hA
        generalize V 5 = x5 at hA
        generalize V 6 = x6 at hA
        generalize V 7 = x7 at hA
        generalize V 8 = x8 at hA
        generalize V 9 = x9 at hA
        generalize V 10 = x10 at hA
        obtain rfl := hA
        go_wp2
        exact hK.out _ (Below.refl _ _)
      apply grow_eq
      · intro V W K A hW hd hA hK
        have d2 : V 2 = _ := hd 2 (by kernel_rfl)
        have d3 : V 3 = _ := hd 3 (by kernel_rfl)
        simp only [putAll, List.getElem?_toArray, List.getElem?_cons_succ, List.getElem?_cons_zero, Option.bind_some, Act.put, List.setIfInBounds_toArray, List.set_cons_succ, List.set_cons_zero] at hA
        clear hd
        generalize V 0 = x0 at hA
        generalize V 1 = x1 at hA
        generalize V 2 = x2 at d2 hA
        generalize V 3 = x3 at d3 hA
        generalize V 4 = x4 at hA
        generalize V 5 = x5 at hA
        generalize V 6 = x6 at hA
        generalize V 7 = x7 at hA
        generalize V 8 = x8 at hA
        generalize V 9 = x9 at hA
        generalize V 10 = x10 at hA
        subst d2
        subst d3
        obtain rfl := hA
        go_wp2
        exact hK.out _ (Below.refl _ _)
      apply grow_eq
      · intro V W K A hW hd hA hK
        have d4 : V 4 = _ := hd 4 (by kernel_rfl)
        simp only [putAll, List.getElem?_toArray, List.getElem?_cons_succ, List.getElem?_cons_zero, Option.bind_some, Act.put, List.setIfInBounds_toArray, List.set_cons_succ, List.set_cons_zero] at hA
        clear hd
        generalize V 0 = x0 at hA
        generalize V 1 = x1 at hA
        generalize V 2 = x2 at hA
        generalize V 3 = x3 at hA
        generalize V 4 = x4 at d4 hA
        generalize V 5 = x5 at hA
        generalize V 6 = x6 at hA
        generalize V 7 = x7 at hA
        generalize V 8 = x8 at hA
        generalize V 9 = x9 at hA
        generalize V 10 = x10 at hA
        subst d4
        obtain rfl := hA
        have hq := hcx.below (hbc.trans (hW.mono hbc.size)) hbsC
        unfold CpAt at hq
        obtain ⟨q0, q1, q2, q3, q4, q5, q6⟩ := hq
        go_wp2
        exact hK.out _ (Below.refl _ _)
      apply grow_eq
      · intro V W K A hW hd hA hK
        simp only [putAll, List.getElem?_toArray, List.getElem?_cons_succ, List.getElem?_cons_zero, Option.bind_some, Act.put, List.setIfInBounds_toArray, List.set_cons_succ, List.set_cons_zero] at hA
        clear hd
        generalize V 0 = x0 at hA
        generalize V 1 = x1 at hA
        generalize V 2 = x2 at hA
        generalize V 3 = x3 at hA
        generalize V 4 = x4 at hA
        generalize V 5 = x5 at hA
        generalize V 6 = x6 at hA
        generalize V 7 = x7 at hA
        generalize V 8 = x8 at hA
        generalize V 9 = x9 at hA
        generalize V 10 = x10 at hA
        obtain rfl := hA
        have e0 := blk_cell (below_blk hW hbox.out hbl) 0 rfl
        have e1 := blk_cell (below_blk hW hbox.out hbl) 1 rfl
        have e2 := blk_cell (below_blk hW hbox.out hbl) 2 rfl
        have e3 := blk_cell (below_blk hW hbox.out hbl) 3 rfl
        go_wp2
        exact hK.out _ (Below.refl _ _)
      apply grow_eq
      · intro V W K A hW hd hA hK
        simp only [putAll, List.getElem?_toArray, List.getElem?_cons_succ, List.getElem?_cons_zero, Option.bind_some, Act.put, List.setIfInBounds_toArray, List.set_cons_succ, List.set_cons_zero] at hA
        clear hd
        generalize V 0 = x0 at hA
        generalize V 1 = x1 at hA
        generalize V 2 = x2 at hA
        generalize V 3 = x3 at hA
        generalize V 4 = x4 at hA
        generalize V 5 = x5 at hA
        generalize V 6 = x6 at hA
        generalize V 7 = x7 at hA
        generalize V 8 = x8 at hA
        generalize V 9 = x9 at hA
        generalize V 10 = x10 at hA
        obtain rfl := hA
        have z0 := blk_cell (below_blk hW hxs.out hxl) 0 rfl
        have z1 := blk_cell (below_blk hW hxs.out hxl) 1 rfl
        have z2 := blk_cell (below_blk hW hxs.out hxl) 2 rfl
        have z3 := blk_cell (below_blk hW hxs.out hxl) 3 rfl
        have z4 := blk_cell (below_blk hW hxs.out hxl) 4 rfl
        have z5 := blk_cell (below_blk hW hxs.out hxl) 5 rfl
        have z6 := blk_cell (below_blk hW hxs.out hxl) 6 rfl
        have z7 := blk_cell (below_blk hW hxs.out hxl) 7 rfl
        have z8 := blk_cell (below_blk hW hxs.out hxl) 8 rfl
        have z9 := blk_cell (below_blk hW hxs.out hxl) 9 rfl
        have z10 := blk_cell (below_blk hW hxs.out hxl) 10 rfl
        have z11 := blk_cell (below_blk hW hxs.out hxl) 11 rfl
        have z12 := blk_cell (below_blk hW hxs.out hxl) 12 rfl
        go_wp2
        exact hK.out _ (Below.refl _ _)
      apply grow_eq
      · intro V W K A hW hd hA hK
        have d6 : V 6 = _ := hd 6 (by kernel_rfl)
        have d7 : V 7 = _ := hd 7 (by kernel_rfl)
        simp only [putAll, List.getElem?_toArray, List.getElem?_cons_succ, List.getElem?_cons_zero, Option.bind_some, Act.put, List.setIfInBounds_toArray, List.set_cons_succ, List.set_cons_zero] at hA
        clear hd
        generalize V 0 = x0 at hA
        generalize V 1 = x1 at hA
        generalize V 2 = x2 at hA
        generalize V 3 = x3 at hA
        generalize V 4 = x4 at hA
        generalize V 5 = x5 at hA
        generalize V 6 = x6 at d6 hA
        generalize V 7 = x7 at d7 hA
        generalize V 8 = x8 at hA
        generalize V 9 = x9 at hA
        generalize V 10 = x10 at hA
        subst d6
        subst d7
        obtain rfl := hA
        go_wp2_with fail
        refine (countCopies_any B s _ _ a3 c1 c2 c3 _ hl2 HSO HK ((hB.below (hbc.trans (hW.mono hbc.size))).2.1) N HN).mono ?_
        rintro e w3 ⟨rfl, hb3⟩
        go_wp2
        exact hK.out _ hb3
      apply grow_eq
      · intro V W K A hW hd hA hK
        have d8 : V 8 = _ := hd 8 (by kernel_rfl)
        simp only [putAll, List.getElem?_toArray, List.getElem?_cons_succ, List.getElem?_cons_zero, Option.bind_some, Act.put, List.setIfInBounds_toArray, List.set_cons_succ, List.set_cons_zero] at hA
        clear hd
        generalize V 0 = x0 at hA
        generalize V 1 = x1 at hA
        generalize V 2 = x2 at hA
        generalize V 3 = x3 at hA
        generalize V 4 = x4 at hA
        generalize V 5 = x5 at hA
        generalize V 6 = x6 at hA
        generalize V 7 = x7 at hA
        generalize V 8 = x8 at d8 hA
        generalize V 9 = x9 at hA
        generalize V 10 = x10 at hA
        subst d8
        obtain rfl := hA
        have hfld := run_field_count
        go_wp2
        exact hK.out _ (Below.refl _ _)
      apply grow_eq
      · intro V W K A hW hd hA hK
        have d0 : V 0 = _ := hd 0 (by kernel_rfl)
        have d5 : V 5 = _ := hd 5 (by kernel_rfl)
        have d9 : V 9 = _ := hd 9 (by kernel_rfl)
        simp only [putAll, List.getElem?_toArray, List.getElem?_cons_succ, List.getElem?_cons_zero, Option.bind_some, Act.put, List.setIfInBounds_toArray, List.set_cons_succ, List.set_cons_zero] at hA
        clear hd
        generalize V 0 = x0 at d0 hA
        generalize V 1 = x1 at hA
        generalize V 2 = x2 at hA
        generalize V 3 = x3 at hA
        generalize V 4 = x4 at hA
        generalize V 5 = x5 at d5 hA
        generalize V 6 = x6 at hA
        generalize V 7 = x7 at hA
        generalize V 8 = x8 at hA
        generalize V 9 = x9 at d9 hA
        generalize V 10 = x10 at hA
        subst d0
        subst d5
        subst d9
        obtain rfl := hA
        go_wp2_with fail
        refine (mayEnd_any s c N.ready _ hr0 hr2 hsi.want0 hsi.want1 hsi.down0 hsi.down1).mono ?_
        rintro e w3 ⟨rfl, hb3⟩
        go_wp2
        exact hK.out _ hb3
      intro V W A hW hS hA
      have d0 : V 0 = _ := hS 0 (by omega)
      have d1 : V 1 = _ := hS 1 (by omega)
      have d2 : V 2 = _ := hS 2 (by omega)
      have d3 : V 3 = _ := hS 3 (by omega)
      have d4 : V 4 = _ := hS 4 (by omega)
      have d5 : V 5 = _ := hS 5 (by omega)
      have d6 : V 6 = _ := hS 6 (by omega)
      have d7 : V 7 = _ := hS 7 (by omega)
      have d8 : V 8 = _ := hS 8 (by omega)
      have d9 : V 9 = _ := hS 9 (by omega)
      have d10 : V 10 = _ := hS 10 (by omega)
      simp only [putAll, List.getElem?_toArray, List.getElem?_cons_succ, List.getElem?_cons_zero, Option.bind_some, Act.put, List.setIfInBounds_toArray, List.set_cons_succ, List.set_cons_zero] at hA
      clear hS
      generalize V 0 = x0 at d0 hA
      generalize V 1 = x1 at d1 hA
      generalize V 2 = x2 at d2 hA
      generalize V 3 = x3 at d3 hA
      generalize V 4 = x4 at d4 hA
      generalize V 5 = x5 at d5 hA
      generalize V 6 = x6 at d6 hA
      generalize V 7 = x7 at d7 hA
      generalize V 8 = x8 at d8 hA
      generalize V 9 = x9 at d9 hA
      generalize V 10 = x10 at d10 hA
      subst d0
      subst d1
      subst d2
      subst d3
      subst d4
      subst d5
      subst d6
      subst d7
      subst d8
      subst d9
      subst d10
      obtain rfl := hA
      simp only [List.drop_succ_cons, List.drop_zero]
      go_wp2
      go_ret
      exact ⟨ret_bool HO.out.symm, hbc.trans (hW.mono hbc.size)⟩

end Go.Proofs.Ytbceafpodamnfaa
