/-
  My own: Vb.
-/
import Derived.Test.YtbceafpodamnfabG10
import Derived.Test.YtbceafpodamnfabG01
import Derived.Test.YtbceafpodamnfabG04
import Derived.Deep.DeepCutAuto
/-
  My own. The rank, by the specification: its walk.
-/
namespace Go.Proofs.Ytbceafpodamnfab
open Go.RowKit Go.Sort

theorem Try.infosIntV : (Try.prog.info? 3).map (·.size) = some 1 := by kernel_rfl
theorem Try.infosCpV : (Try.prog.info? 72).map (·.size) = some 7 := by kernel_rfl

set_option maxRecDepth 100000 in
set_option maxHeartbeats 32000000 in
theorem specRank_any (B : Bk) (a1 a2 a3 : Option Addr) (c1 c2 c3 : Nat) (w : World) (hS : B.small) (hZ : B.sized) (hB : BkAt w a1 a2 a3 B) :
    Calls Try.prog 11 #[.agg #[.int .i64 B.now, .slice a1 B.svcs.length c1, .slice a2 B.cps.length c2, .slice a3 B.bts.length c3]] w fun e w' => ∃ (g : Nat) (r : Rk), Hid (r = rankOf B) ∧ e = .returned (.slice (some ⟨g, 0, none⟩) 5 5) ∧ w.heap.size ≤ g ∧ Hid (w'.heap[g]? = some (.cells #[.int .i64 r.a, .int .i64 r.b, .int .i64 r.c, .int .i64 r.d, .int .i64 r.e] 3 (0, 0))) ∧ Below w.heap.size w w' := by
  obtain ⟨t0, t1, t2⟩ := two_new w (.cells #[.int .i64 B.now, .slice a1 B.svcs.length c1, .slice a2 B.cps.length c2, .slice a3 B.bts.length c3] 33) (.cells #[.int .i64 0, .int .i64 0, .int .i64 0, .int .i64 0, .int .i64 0] 3)
  have hb0 : Below w.heap.size w ((w.alloc (.cells #[.int .i64 B.now, .slice a1 B.svcs.length c1, .slice a2 B.cps.length c2, .slice a3 B.bts.length c3] 33)).alloc (.cells #[.int .i64 0, .int .i64 0, .int .i64 0, .int .i64 0, .int .i64 0] 3)) := ((Below.refl _ _).alloc (Nat.le_refl _) _).alloc (by simp) _
  obtain ⟨W0, hW0⟩ : ∃ W, (w.alloc (.cells #[.int .i64 B.now, .slice a1 B.svcs.length c1, .slice a2 B.cps.length c2, .slice a3 B.bts.length c3] 33)).alloc (.cells #[.int .i64 0, .int .i64 0, .int .i64 0, .int .i64 0, .int .i64 0] 3) = W := ⟨_, rfl⟩
  rw [hW0] at t0 t1 t2 hb0
  have T0 : Hid _ := t0
  have T1 : Hid _ := t1
  have hz0 : w.heap.size + 1 + 1 ≤ W0.heap.size := by omega
  clear t0 t1 t2
  go_enter Try.func11, Try.ntmps11
  go_upto_region 2 with fail
  clear hW0
  have e0 := blk_cell T0.out 0 rfl
  have e1 := blk_cell T0.out 1 rfl
  have e2 := blk_cell T0.out 2 rfl
  have e3 := blk_cell T0.out 3 rfl
  go_wp2_with fail
  refine (specValid_any B a1 a2 a3 c1 c2 c3 _ hS hZ (hB.below hb0)).mono ?_
  rintro e w1 ⟨rfl, hb1⟩
  have hbw1 := hb0.trans (hb1.mono hb0.size)
  have hz1 := hb1.size
  have U0 : Hid _ := below_blk hb1 T0.out (by omega)
  have U1 : Hid _ := below_blk hb1 T1.out (by omega)
  clear e0 e1 e2 e3 hb1 hb0 T0 T1
  obtain ⟨v, HV⟩ : ∃ v, Hid (validB B = v) := ⟨_, rfl⟩
  rw [HV.out]
  cases v
  · go_wp2
    go_ret
    exact ⟨w.heap.size + 1, ⟨0, 0, 0, 0, 0⟩, by unfold Hid rankOf; rw [HV.out]; rfl, rfl, by omega, U1, hbw1⟩
  have hV := validB_iff.1 HV.out
  have hls := hV.ls
  have hlc := hV.lc
  go_wp2
  go_loopw [4] (fun iv wr => ∃ (k : Nat) (r : Rk), k ≤ B.svcs.length ∧ iv = .int .i64 k ∧ Hid (r = rkTo B k) ∧ Below w.heap.size w wr ∧ Hid (wr.heap[w.heap.size]? = some (.cells #[.int .i64 B.now, .slice a1 B.svcs.length c1, .slice a2 B.cps.length c2, .slice a3 B.bts.length c3] 33 (0, 0))) ∧ Hid (wr.heap[w.heap.size + 1]? = some (.cells #[.int .i64 r.a, .int .i64 r.b, .int .i64 r.c, .int .i64 r.d, .int .i64 r.e] 3 (0, 0)))) (fun i _ => B.svcs.length - (intOf i).toNat)
  case atStart => exact ⟨0, ⟨0, 0, 0, 0, 0⟩, by omega, rfl, rfl, hbw1, U0, U1⟩
  case round =>
    clear hbw1 U0 U1 hz0 hz1
    obtain ⟨k, r, hk, rfl, HR, hb, HX, HG⟩ := hrel
    have hzg : w.heap.size + 1 < wr.heap.size := (Array.getElem?_eq_some_iff.1 HG.out).1
    have e1 := blk_cell HX.out 1 rfl
    by_cases hlt : k < B.svcs.length
    · obtain ⟨s, hsk⟩ : ∃ s, B.svcs[k]? = some s := ⟨B.svcs[k], by simp [hlt]⟩
      have hmem := List.mem_of_getElem? hsk
      have hru := rkTo_upTo hV k hk
      rw [← HR.out] at hru
      obtain ⟨q0, q1, q2, q3, q4, q5, q6, q7, q8, q9⟩ := hru
      have hsi := hV.svcIn hmem
      have hw0 := hsi.want0
      have hw1 := hsi.want1
      have HRS : Hid (rkTo B (k + 1) = rkS B r s) := by unfold Hid; rw [rkTo_succ hsk, ← HR.out]
      have HLU : Hid (∀ m, m ≤ (liveTo B s.name B.cps.length).length → (rkL B s r m).upTo (1000 * k + 400 + m)) := by
        intro m hm
        have h := rkTo_upTo hV k hk
        rw [← HR.out] at h
        exact rkL_upTo hV hmem h (by omega) m hm
      have hne : B.svcs ≠ [] := by intro h; rw [h] at hlt; simp at hlt
      obtain ⟨bS, oS, ea, hbs, hat⟩ := (hB.below hb).1 hne
      subst ea
      have hsx := hat k s hsk
      unfold SvcAt at hsx
      obtain ⟨x0, x1, x2, x3, x4, x5, x6, x7, x8, x9, x10, x11, x12⟩ := hsx
      have hcu := cntB_le B s.name
      obtain ⟨N, HN⟩ : ∃ N, Hid (N = cntB B s.name) := ⟨_, rfl⟩
      rw [← HN.out] at hcu
      unfold Cnt.upTo at hcu
      obtain ⟨n0, n1, _, _, _, _, _, _, n8, n9⟩ := hcu
      obtain ⟨Wa, hWa⟩ : ∃ W, wr.alloc (.cells #[.string s.name, .int .i64 s.version, .bool s.gone, .int .i64 s.image, .int .i64 s.want, .int .i64 s.down, .int .i64 s.over, .int .i64 s.next, .int .i64 s.per, .int .i64 s.least, .int .i64 s.most, .int .i64 s.load, .int .i64 s.cool] 57) = W := ⟨_, rfl⟩
      have hba := below_box wr (.cells #[.string s.name, .int .i64 s.version, .bool s.gone, .int .i64 s.image, .int .i64 s.want, .int .i64 s.down, .int .i64 s.over, .int .i64 s.next, .int .i64 s.per, .int .i64 s.least, .int .i64 s.most, .int .i64 s.load, .int .i64 s.cool] 57)
      have Xa : Hid _ := heap_alloc_new wr (.cells #[.string s.name, .int .i64 s.version, .bool s.gone, .int .i64 s.image, .int .i64 s.want, .int .i64 s.down, .int .i64 s.over, .int .i64 s.next, .int .i64 s.per, .int .i64 s.least, .int .i64 s.most, .int .i64 s.load, .int .i64 s.cool] 57)
      have hza : wr.heap.size < (wr.alloc (.cells #[.string s.name, .int .i64 s.version, .bool s.gone, .int .i64 s.image, .int .i64 s.want, .int .i64 s.down, .int .i64 s.over, .int .i64 s.next, .int .i64 s.per, .int .i64 s.least, .int .i64 s.most, .int .i64 s.load, .int .i64 s.cool] 57)).heap.size := by simp
      rw [hWa] at hba Xa hza
      clear hsk hne hat hmem hsi
      go_upto_region 8 with fail
      clear hWa e1 x0 x1 x2 x3 x4 x5 x6 x7 x8 x9 x10 x11 x12
      have hbwa := hb.trans (hba.mono hb.size)
      have Ba : Hid _ := below_blk hba HX.out (by omega)
      have Ga : Hid _ := below_blk hba HG.out hzg
      have e0 := blk_cell Ba.out 0 rfl
      have e1 := blk_cell Ba.out 1 rfl
      have e2 := blk_cell Ba.out 2 rfl
      have e3 := blk_cell Ba.out 3 rfl
      have e4 := blk_cell Xa.out 0 rfl
      go_wp2_with fail
      refine (l2Count_any B s.name _ a2 a3 c1 c2 c3 _ hS (hB.below hbwa) N HN).mono ?_
      rintro e w2 ⟨rfl, hb2⟩
      have hz2 := hb2.size
      obtain ⟨W3, hW3⟩ : ∃ W, w2.alloc (.cells #[.int .i64 N.live, .int .i64 N.ready, .int .i64 N.old, .int .i64 N.failed, .int .i64 N.ending] 68) = W := ⟨_, rfl⟩
      have hb3 := hb2.trans ((below_box w2 (.cells #[.int .i64 N.live, .int .i64 N.ready, .int .i64 N.old, .int .i64 N.failed, .int .i64 N.ending] 68)).mono hz2)
      have M3 : Hid _ := heap_alloc_new w2 (.cells #[.int .i64 N.live, .int .i64 N.ready, .int .i64 N.old, .int .i64 N.failed, .int .i64 N.ending] 68)
      have hz3 : w2.heap.size < (w2.alloc (.cells #[.int .i64 N.live, .int .i64 N.ready, .int .i64 N.old, .int .i64 N.failed, .int .i64 N.ending] 68)).heap.size := by simp
      rw [hW3] at hb3 M3 hz3
      go_upto_region 9 with fail
      clear hW3 e0 e1 e2 e3 e4
      have hbw3 := hbwa.trans (hb3.mono hbwa.size)
      have X3 : Hid _ := below_blk hb3 Xa.out hza
      have B3 : Hid _ := below_blk hb3 Ba.out (by omega)
      have G3 : Hid _ := below_blk hb3 Ga.out (by omega)
      clear hb2 hb3 Xa Ba Ga hba hbwa HX HG hb
      refine wp_region_grows 8 (by kernel_rfl) (by kernel_rfl) ?_
      apply grow_eq
      · intro V W K A hW hd hA hK
        simp only [putAll, List.getElem?_toArray, List.getElem?_cons_succ, List.getElem?_cons_zero, Option.bind_some, Act.put, List.setIfInBounds_toArray, List.set_cons_succ, List.set_cons_zero] at hA
        clear hd
        generalize V 0 = x0 at hA
        generalize V 1 = x1 at hA
        generalize V 2 = x2 at hA
        generalize V 3 = x3 at hA
        generalize V 4 = x4 at hA
        generalize V 5 = x5 at hA
        generalize V 6 = x6 at hA
        generalize V 7 = x7 at hA
        obtain rfl := hA
        go_wp2
        exact hK.out _ (Below.refl _ _)
      apply grow_eq
      · intro V W K A hW hd hA hK
        simp only [putAll, List.getElem?_toArray, List.getElem?_cons_succ, List.getElem?_cons_zero, Option.bind_some, Act.put, List.setIfInBounds_toArray, List.set_cons_succ, List.set_cons_zero] at hA
        clear hd
        generalize V 0 = x0 at hA
        generalize V 1 = x1 at hA
        generalize V 2 = x2 at hA
        generalize V 3 = x3 at hA
        generalize V 4 = x4 at hA
        generalize V 5 = x5 at hA
        generalize V 6 = x6 at hA
        generalize V 7 = x7 at hA
        obtain rfl := hA
        go_wp2
        exact hK.out _ (Below.refl _ _)
      apply grow_eq
      · intro V W K A hW hd hA hK
        have d1 : V 1 = _ := hd 1 (by kernel_rfl)
        simp only [putAll, List.getElem?_toArray, List.getElem?_cons_succ, List.getElem?_cons_zero, Option.bind_some, Act.put, List.setIfInBounds_toArray, List.set_cons_succ, List.set_cons_zero] at hA
        clear hd
        generalize V 0 = x0 at hA
        generalize V 1 = x1 at d1 hA
        generalize V 2 = x2 at hA
        generalize V 3 = x3 at hA
        generalize V 4 = x4 at hA
        generalize V 5 = x5 at hA
        generalize V 6 = x6 at hA
        generalize V 7 = x7 at hA
        subst d1
        obtain rfl := hA
        go_wp2
        exact hK.out _ (Below.refl _ _)
      apply grow_eq
      · intro V W K A hW hd hA hK
        have d2 : V 2 = _ := hd 2 (by kernel_rfl)
        simp only [putAll, List.getElem?_toArray, List.getElem?_cons_succ, List.getElem?_cons_zero, Option.bind_some, Act.put, List.setIfInBounds_toArray, List.set_cons_succ, List.set_cons_zero] at hA
        clear hd
        generalize V 0 = x0 at hA
        generalize V 1 = x1 at hA
        generalize V 2 = x2 at d2 hA
        generalize V 3 = x3 at hA
        generalize V 4 = x4 at hA
        generalize V 5 = x5 at hA
        generalize V 6 = x6 at hA
        generalize V 7 = x7 at hA
        subst d2
        obtain rfl := hA
        have y1 := blk_cell (below_blk hW G3.out (by omega)) 1 rfl
        go_wp2
        exact hK.out _ (Below.refl _ _)
      apply grow_eq
      · intro V W K A hW hd hA hK
        simp only [putAll, List.getElem?_toArray, List.getElem?_cons_succ, List.getElem?_cons_zero, Option.bind_some, Act.put, List.setIfInBounds_toArray, List.set_cons_succ, List.set_cons_zero] at hA
        clear hd
        generalize V 0 = x0 at hA
        generalize V 1 = x1 at hA
        generalize V 2 = x2 at hA
        generalize V 3 = x3 at hA
        generalize V 4 = x4 at hA
        generalize V 5 = x5 at hA
        generalize V 6 = x6 at hA
        generalize V 7 = x7 at hA
        obtain rfl := hA
        go_wp2
        exact hK.out _ (Below.refl _ _)
      apply grow_eq
      · intro V W K A hW hd hA hK
        have d4 : V 4 = _ := hd 4 (by kernel_rfl)
        simp only [putAll, List.getElem?_toArray, List.getElem?_cons_succ, List.getElem?_cons_zero, Option.bind_some, Act.put, List.setIfInBounds_toArray, List.set_cons_succ, List.set_cons_zero] at hA
        clear hd
        generalize V 0 = x0 at hA
        generalize V 1 = x1 at hA
        generalize V 2 = x2 at hA
        generalize V 3 = x3 at hA
        generalize V 4 = x4 at d4 hA
        generalize V 5 = x5 at hA
        generalize V 6 = x6 at hA
        generalize V 7 = x7 at hA
        subst d4
        obtain rfl := hA
        have m4 := blk_cell (below_blk hW M3.out (by omega)) 4 rfl
        go_wp2
        exact hK.out _ (Below.refl _ _)
      apply grow_eq
      · intro V W K A hW hd hA hK
        have d3 : V 3 = _ := hd 3 (by kernel_rfl)
        have d5 : V 5 = _ := hd 5 (by kernel_rfl)
        simp only [putAll, List.getElem?_toArray, List.getElem?_cons_succ, List.getElem?_cons_zero, Option.bind_some, Act.put, List.setIfInBounds_toArray, List.set_cons_succ, List.set_cons_zero] at hA
        clear hd
        generalize V 0 = x0 at hA
        generalize V 1 = x1 at hA
        generalize V 2 = x2 at hA
        generalize V 3 = x3 at d3 hA
        generalize V 4 = x4 at hA
        generalize V 5 = x5 at d5 hA
        generalize V 6 = x6 at hA
        generalize V 7 = x7 at hA
        subst d3
        subst d5
        obtain rfl := hA
        go_wp2
        exact hK.out _ (Below.refl _ _)
      apply grow_eq
      · intro V W K A hW hd hA hK
        have d0 : V 0 = _ := hd 0 (by kernel_rfl)
        simp only [putAll, List.getElem?_toArray, List.getElem?_cons_succ, List.getElem?_cons_zero, Option.bind_some, Act.put, List.setIfInBounds_toArray, List.set_cons_succ, List.set_cons_zero] at hA
        clear hd
        generalize V 0 = x0 at d0 hA
        generalize V 1 = x1 at hA
        generalize V 2 = x2 at hA
        generalize V 3 = x3 at hA
        generalize V 4 = x4 at hA
        generalize V 5 = x5 at hA
        generalize V 6 = x6 at hA
        generalize V 7 = x7 at hA
        subst d0
        obtain rfl := hA
        go_wp2
        exact hK.out _ (Below.refl _ _)
      intro V W A hW hS hA
      have d0 : V 0 = _ := hS 0 (by omega)
      have d1 : V 1 = _ := hS 1 (by omega)
      have d2 : V 2 = _ := hS 2 (by omega)
      have d3 : V 3 = _ := hS 3 (by omega)
      have d4 : V 4 = _ := hS 4 (by omega)
      have d5 : V 5 = _ := hS 5 (by omega)
      have d6 : V 6 = _ := hS 6 (by omega)
      have d7 : V 7 = _ := hS 7 (by omega)
      simp only [putAll, List.getElem?_toArray, List.getElem?_cons_succ, List.getElem?_cons_zero, Option.bind_some, Act.put, List.setIfInBounds_toArray, List.set_cons_succ, List.set_cons_zero] at hA
      clear hS
      generalize V 0 = x0 at d0 hA
      generalize V 1 = x1 at d1 hA
      generalize V 2 = x2 at d2 hA
      generalize V 3 = x3 at d3 hA
      generalize V 4 = x4 at d4 hA
      generalize V 5 = x5 at d5 hA
      generalize V 6 = x6 at d6 hA
      generalize V 7 = x7 at d7 hA
      subst d0
      subst d1
      subst d2
      subst d3
      subst d4
      subst d5
      subst d6
      subst d7
      obtain rfl := hA
      simp only [List.drop_succ_cons, List.drop_zero]
      have hzW := hW.size
      have hbw4 := hbw3.trans (hW.mono hbw3.size)
      have X4 : Hid _ := below_blk hW X3.out (by omega)
      have B4 : Hid _ := below_blk hW B3.out (by omega)
      have G4 : Hid _ := below_blk hW G3.out (by omega)
      have M4 : Hid _ := below_blk hW M3.out (by omega)
      clear hW hbw3 X3 B3 G3 M3
      go_upto_region 10 with (first
        | (refine wpList_store_one rfl 3 (.tmp 39) (.tmp 38) rfl (w.heap.size + 1) 1 (.int .i64 (r.b + N.ending)) rfl rfl Try.infosIntV rfl rfl 3 #[.int .i64 r.a, .int .i64 r.b, .int .i64 r.c, .int .i64 r.d, .int .i64 r.e] G4.out (Nat.le_of_ble_eq_true rfl) ?_; intro w5 hz on; have G5 : Hid (w5.heap[(w.heap.size + 1)]? = some (.cells #[.int .i64 r.a, .int .i64 (r.b + N.ending), .int .i64 r.c, .int .i64 r.d, .int .i64 r.e] 3 (0, 0))) := hz; have X5 : Hid _ := (on.other wr.heap.size (by omega)).trans X4.out; have M5 : Hid _ := (on.other w2.heap.size (by omega)).trans M4.out; have B5 : Hid _ := (on.other w.heap.size (by omega)).trans B4.out; have hbw5 := hbw4.trans (on.below.mono (by omega)); have hz5 := (show W.heap.size ≤ w5.heap.size by rw [on.size]; exact Nat.le_refl _); clear hz on))
      clear hbw4 X4 B4 G4 M4
      have x2a := blk_cell X5.out 2 rfl
      rcases Bool.eq_false_or_eq_true s.gone with hgo0 | hgo0
      · have hgo : Hid (s.gone = true) := hgo0
        have x2 : w5.cell? ⟨wr.heap.size, 2, none⟩ = some (.bool true) := by rw [hgo0] at x2a; exact x2a
        clear hgo0 x2a
        have y0 := blk_cell G5.out 0 rfl
        go_upto_region 12 with (first
          | (refine wpList_store_one rfl 3 (.tmp 46) (.tmp 45) rfl (w.heap.size + 1) 0 (.int .i64 (r.a + 1)) rfl rfl Try.infosIntV rfl rfl 3 #[.int .i64 r.a, .int .i64 (r.b + N.ending), .int .i64 r.c, .int .i64 r.d, .int .i64 r.e] G5.out (Nat.le_of_ble_eq_true rfl) ?_; intro w6 hz on; have G6 : Hid (w6.heap[(w.heap.size + 1)]? = some (.cells #[.int .i64 (r.a + 1), .int .i64 (r.b + N.ending), .int .i64 r.c, .int .i64 r.d, .int .i64 r.e] 3 (0, 0))) := hz; have X6 : Hid _ := (on.other wr.heap.size (by omega)).trans X5.out; have M6 : Hid _ := (on.other w2.heap.size (by omega)).trans M5.out; have B6 : Hid _ := (on.other w.heap.size (by omega)).trans B5.out; have hbw6 := hbw5.trans (on.below.mono (by omega)); have hz6 := (show w5.heap.size ≤ w6.heap.size by rw [on.size]; exact Nat.le_refl _); clear hz on))
        clear y0 x2
        refine wp_region_grows 8 (by kernel_rfl) (by kernel_rfl) ?_
        apply grow_eq
        · intro V W K A hW hd hA hK
          simp only [putAll, List.getElem?_toArray, List.getElem?_cons_succ, List.getElem?_cons_zero, Option.bind_some, Act.put, List.setIfInBounds_toArray, List.set_cons_succ, List.set_cons_zero] at hA
          clear hd
          generalize V 0 = x0 at hA
          generalize V 1 = x1 at hA
          generalize V 2 = x2 at hA
          generalize V 3 = x3 at hA
          generalize V 4 = x4 at hA
          generalize V 5 = x5 at hA
          generalize V 6 = x6 at hA
          generalize V 7 = x7 at hA
          obtain rfl := hA
          go_wp2
          exact hK.out _ (Below.refl _ _)
        apply grow_eq
        · intro V W K A hW hd hA hK
          simp only [putAll, List.getElem?_toArray, List.getElem?_cons_succ, List.getElem?_cons_zero, Option.bind_some, Act.put, List.setIfInBounds_toArray, List.set_cons_succ, List.set_cons_zero] at hA
          clear hd
          generalize V 0 = x0 at hA
          generalize V 1 = x1 at hA
          generalize V 2 = x2 at hA
          generalize V 3 = x3 at hA
          generalize V 4 = x4 at hA
          generalize V 5 = x5 at hA
          generalize V 6 = x6 at hA
          generalize V 7 = x7 at hA
          obtain rfl := hA
          go_wp2
          exact hK.out _ (Below.refl _ _)
        apply grow_eq
        · intro V W K A hW hd hA hK
          have d1 : V 1 = _ := hd 1 (by kernel_rfl)
          simp only [putAll, List.getElem?_toArray, List.getElem?_cons_succ, List.getElem?_cons_zero, Option.bind_some, Act.put, List.setIfInBounds_toArray, List.set_cons_succ, List.set_cons_zero] at hA
          clear hd
          generalize V 0 = x0 at hA
          generalize V 1 = x1 at d1 hA
          generalize V 2 = x2 at hA
          generalize V 3 = x3 at hA
          generalize V 4 = x4 at hA
          generalize V 5 = x5 at hA
          generalize V 6 = x6 at hA
          generalize V 7 = x7 at hA
          subst d1
          obtain rfl := hA
          go_wp2
          exact hK.out _ (Below.refl _ _)
        apply grow_eq
        · intro V W K A hW hd hA hK
          have d2 : V 2 = _ := hd 2 (by kernel_rfl)
          simp only [putAll, List.getElem?_toArray, List.getElem?_cons_succ, List.getElem?_cons_zero, Option.bind_some, Act.put, List.setIfInBounds_toArray, List.set_cons_succ, List.set_cons_zero] at hA
          clear hd
          generalize V 0 = x0 at hA
          generalize V 1 = x1 at hA
          generalize V 2 = x2 at d2 hA
          generalize V 3 = x3 at hA
          generalize V 4 = x4 at hA
          generalize V 5 = x5 at hA
          generalize V 6 = x6 at hA
          generalize V 7 = x7 at hA
          subst d2
          obtain rfl := hA
          have y1 := blk_cell (below_blk hW G6.out (by omega)) 1 rfl
          go_wp2
          exact hK.out _ (Below.refl _ _)
        apply grow_eq
        · intro V W K A hW hd hA hK
          simp only [putAll, List.getElem?_toArray, List.getElem?_cons_succ, List.getElem?_cons_zero, Option.bind_some, Act.put, List.setIfInBounds_toArray, List.set_cons_succ, List.set_cons_zero] at hA
          clear hd
          generalize V 0 = x0 at hA
          generalize V 1 = x1 at hA
          generalize V 2 = x2 at hA
          generalize V 3 = x3 at hA
          generalize V 4 = x4 at hA
          generalize V 5 = x5 at hA
          generalize V 6 = x6 at hA
          generalize V 7 = x7 at hA
          obtain rfl := hA
          go_wp2
          exact hK.out _ (Below.refl _ _)
        apply grow_eq
        · intro V W K A hW hd hA hK
          have d4 : V 4 = _ := hd 4 (by kernel_rfl)
          simp only [putAll, List.getElem?_toArray, List.getElem?_cons_succ, List.getElem?_cons_zero, Option.bind_some, Act.put, List.setIfInBounds_toArray, List.set_cons_succ, List.set_cons_zero] at hA
          clear hd
          generalize V 0 = x0 at hA
          generalize V 1 = x1 at hA
          generalize V 2 = x2 at hA
          generalize V 3 = x3 at hA
          generalize V 4 = x4 at d4 hA
          generalize V 5 = x5 at hA
          generalize V 6 = x6 at hA
          generalize V 7 = x7 at hA
          subst d4
          obtain rfl := hA
          have m0 := blk_cell (below_blk hW M6.out (by omega)) 0 rfl
          go_wp2
          exact hK.out _ (Below.refl _ _)
        apply grow_eq
        · intro V W K A hW hd hA hK
          have d3 : V 3 = _ := hd 3 (by kernel_rfl)
          have d5 : V 5 = _ := hd 5 (by kernel_rfl)
          simp only [putAll, List.getElem?_toArray, List.getElem?_cons_succ, List.getElem?_cons_zero, Option.bind_some, Act.put, List.setIfInBounds_toArray, List.set_cons_succ, List.set_cons_zero] at hA
          clear hd
          generalize V 0 = x0 at hA
          generalize V 1 = x1 at hA
          generalize V 2 = x2 at hA
          generalize V 3 = x3 at d3 hA
          generalize V 4 = x4 at hA
          generalize V 5 = x5 at d5 hA
          generalize V 6 = x6 at hA
          generalize V 7 = x7 at hA
          subst d3
          subst d5
          obtain rfl := hA
          go_wp2
          exact hK.out _ (Below.refl _ _)
        apply grow_eq
        · intro V W K A hW hd hA hK
          have d0 : V 0 = _ := hd 0 (by kernel_rfl)
          simp only [putAll, List.getElem?_toArray, List.getElem?_cons_succ, List.getElem?_cons_zero, Option.bind_some, Act.put, List.setIfInBounds_toArray, List.set_cons_succ, List.set_cons_zero] at hA
          clear hd
          generalize V 0 = x0 at d0 hA
          generalize V 1 = x1 at hA
          generalize V 2 = x2 at hA
          generalize V 3 = x3 at hA
          generalize V 4 = x4 at hA
          generalize V 5 = x5 at hA
          generalize V 6 = x6 at hA
          generalize V 7 = x7 at hA
          subst d0
          obtain rfl := hA
          go_wp2
          exact hK.out _ (Below.refl _ _)
        intro V W A hW hS hA
        have d0 : V 0 = _ := hS 0 (by omega)
        have d1 : V 1 = _ := hS 1 (by omega)
        have d2 : V 2 = _ := hS 2 (by omega)
        have d3 : V 3 = _ := hS 3 (by omega)
        have d4 : V 4 = _ := hS 4 (by omega)
        have d5 : V 5 = _ := hS 5 (by omega)
        have d6 : V 6 = _ := hS 6 (by omega)
        have d7 : V 7 = _ := hS 7 (by omega)
        simp only [putAll, List.getElem?_toArray, List.getElem?_cons_succ, List.getElem?_cons_zero, Option.bind_some, Act.put, List.setIfInBounds_toArray, List.set_cons_succ, List.set_cons_zero] at hA
        clear hS
        generalize V 0 = x0 at d0 hA
        generalize V 1 = x1 at d1 hA
        generalize V 2 = x2 at d2 hA
        generalize V 3 = x3 at d3 hA
        generalize V 4 = x4 at d4 hA
        generalize V 5 = x5 at d5 hA
        generalize V 6 = x6 at d6 hA
        generalize V 7 = x7 at d7 hA
        subst d0
        subst d1
        subst d2
        subst d3
        subst d4
        subst d5
        subst d6
        subst d7
        obtain rfl := hA
        simp only [List.drop_succ_cons, List.drop_zero]
        have hzW2 := hW.size
        have hbw7 := hbw6.trans (hW.mono hbw6.size)
        have X7 : Hid _ := below_blk hW X6.out (by omega)
        have B7 : Hid _ := below_blk hW B6.out (by omega)
        have G7 : Hid _ := below_blk hW G6.out (by omega)
        have M7 : Hid _ := below_blk hW M6.out (by omega)
        clear hW hbw6 X6 B6 G6 M6
        go_wp2_with (first
          | (refine wpList_store_one rfl 3 (.tmp 54) (.tmp 53) rfl (w.heap.size + 1) 1 (.int .i64 (r.b + N.ending + N.live)) rfl rfl Try.infosIntV rfl rfl 3 #[.int .i64 (r.a + 1), .int .i64 (r.b + N.ending), .int .i64 r.c, .int .i64 r.d, .int .i64 r.e] G7.out (Nat.le_of_ble_eq_true rfl) ?_; intro w8 hz on; have G8 : Hid (w8.heap[(w.heap.size + 1)]? = some (.cells #[.int .i64 (r.a + 1), .int .i64 (r.b + N.ending + N.live), .int .i64 r.c, .int .i64 r.d, .int .i64 r.e] 3 (0, 0))) := hz; have X8 : Hid _ := (on.other wr.heap.size (by omega)).trans X7.out; have M8 : Hid _ := (on.other w2.heap.size (by omega)).trans M7.out; have B8 : Hid _ := (on.other w.heap.size (by omega)).trans B7.out; have hbw8 := hbw7.trans (on.below.mono (by omega)); clear hz on))
        go_wp2
        go_roundw
        case rel => exact ⟨k + 1, ⟨r.a + 1, r.b + N.ending + N.live, r.c, r.d, r.e⟩, by omega, by go_num, by unfold Hid; rw [HRS.out]; unfold rkS; rw [if_pos hgo.out, HN.out], hbw8, B8, G8⟩
        case measure => simp [intOf]; omega
      have hgo : Hid (s.gone = false) := hgo0
      have x2 : w5.cell? ⟨wr.heap.size, 2, none⟩ = some (.bool false) := by rw [hgo0] at x2a; exact x2a
      clear hgo0 x2a
      have x4 := blk_cell X5.out 4 rfl
      have m0 := blk_cell M5.out 0 rfl
      obtain ⟨d, hdq, hdl, hdu⟩ : ∃ d, N.live - s.want = d ∧ -400 ≤ d ∧ d ≤ 400 := ⟨_, rfl, by omega, by omega⟩
      have HDQ : Hid (N.live - s.want = d) := hdq
      obtain ⟨dd, HD, hd0, hd1⟩ : ∃ dd, Hid (absI d = dd) ∧ 0 ≤ dd ∧ dd ≤ 400 := ⟨_, rfl, (absI_in _ 400 (by omega) (by omega)).1, (absI_in _ 400 (by omega) (by omega)).2⟩
      go_upto_region 14 with fail
      clear hdq x2 x4 m0
      have y2 := blk_cell G5.out 2 rfl
      go_upto_if 61 with fail
      go_cut [7] (fun v wx => v = .int .i64 dd ∧ w5 = wx)
      case first =>
        by_cases hd : d < 0
        · have hneg : -d = dd := by rw [← HD.out]; unfold absI; rw [if_pos hd]
          go_wp2
          go_meet
          case rel => exact ⟨rfl, rfl⟩
        · obtain rfl : d = dd := by rw [← HD.out]; unfold absI; rw [if_neg hd]
          go_wp2
          go_meet
          case rel => exact ⟨rfl, rfl⟩
      case rest =>
        obtain ⟨rfl, rfl⟩ := hcut
        go_upto_region 17 with (first
          | (refine wpList_store_one rfl 3 (.tmp 70) (.tmp 69) rfl (w.heap.size + 1) 2 (.int .i64 (r.c + dd)) rfl rfl Try.infosIntV rfl rfl 3 #[.int .i64 r.a, .int .i64 (r.b + N.ending), .int .i64 r.c, .int .i64 r.d, .int .i64 r.e] G5.out (Nat.le_of_ble_eq_true rfl) ?_; intro w6 hz on; have G6 : Hid (w6.heap[(w.heap.size + 1)]? = some (.cells #[.int .i64 r.a, .int .i64 (r.b + N.ending), .int .i64 (r.c + dd), .int .i64 r.d, .int .i64 r.e] 3 (0, 0))) := hz; have X6 : Hid _ := (on.other wr.heap.size (by omega)).trans X5.out; have M6 : Hid _ := (on.other w2.heap.size (by omega)).trans M5.out; have B6 : Hid _ := (on.other w.heap.size (by omega)).trans B5.out; have hbw6 := hbw5.trans (on.below.mono (by omega)); have hz6 := (show w5.heap.size ≤ w6.heap.size by rw [on.size]; exact Nat.le_refl _); clear hz on))
        have G6d : Hid (w6.heap[w.heap.size + 1]? = some (.cells #[.int .i64 r.a, .int .i64 (r.b + N.ending), .int .i64 (r.c + dd), .int .i64 r.d, .int .i64 r.e] 3 (0, 0))) := G6
        clear y2 G6
        have e0 := blk_cell B6.out 0 rfl
        have e1 := blk_cell B6.out 1 rfl
        have e2 := blk_cell B6.out 2 rfl
        have e3 := blk_cell B6.out 3 rfl
        have e4 := blk_cell X6.out 0 rfl
        go_wp2_with fail
        refine (l5Live_any B s.name _ a2 a3 c1 c2 c3 _ hS (hB.below hbw6).2.1).mono ?_
        obtain ⟨L, HLL⟩ : ∃ L, Hid (liveTo B s.name B.cps.length = L) := ⟨_, rfl⟩
        have hLl : L.length ≤ B.cps.length := by rw [← HLL.out]; exact liveTo_len _ _ _
        have HL : Hid (∀ i ∈ L, i < B.cps.length) := fun i hi => by rw [← HLL.out] at hi; exact liveTo_lt hi
        rw [HLL.out]
        rw [HLL.out] at HLU
        rintro e w7 ⟨gL, cap, rfl, hgL, hrow, hb7⟩
        have hz7 := hb7.size
        have hbw7 := hbw6.trans (hb7.mono hbw6.size)
        have X7 : Hid _ := below_blk hb7 X6.out (by omega)
        have B7 : Hid _ := below_blk hb7 B6.out (by omega)
        have G7 : Hid _ := below_blk hb7 G6d.out (by omega)
        have L7 : Hid (RowIs w7 3 1 gL L.length cap (intsV L)) := hrow
        have HQ1 : Hid (rkL B s r 0 = ⟨r.a, r.b + N.ending, r.c + dd, r.d, r.e⟩) := by unfold Hid; rw [rkL_zero]; unfold rk1; rw [← HN.out, HDQ.out, HD.out]
        have HRF : Hid (rkTo B (k + 1) = rkL B s r L.length) := by unfold Hid; rw [HRS.out]; unfold rkS; rw [if_neg (by rw [hgo.out]; simp), HLL.out]
        obtain ⟨pS, hpS, hpz, hpg⟩ : ∃ p, wr.heap.size = p ∧ w.heap.size + 1 < p ∧ p < gL := ⟨_, rfl, hzg, by omega⟩
        rw [hpS] at X7
        rw [hpS]
        clear e0 e1 e2 e3 e4 hb7 X6 B6 G6d M6 hbw6 hrow X5 B5 G5 M5 hbw5 hpS
        go_wp2
        go_loopw [9] (fun iv wq => ∃ (m : Nat) (q : Rk), m ≤ L.length ∧ iv = .int .i64 m ∧ Hid (q = rkL B s r m) ∧ Below w.heap.size w wq ∧ Hid (wq.heap[w.heap.size]? = some (.cells #[.int .i64 B.now, .slice (some ⟨bS, oS, none⟩) B.svcs.length c1, .slice a2 B.cps.length c2, .slice a3 B.bts.length c3] 33 (0, 0))) ∧ Hid (wq.heap[pS]? = some (.cells #[.string s.name, .int .i64 s.version, .bool s.gone, .int .i64 s.image, .int .i64 s.want, .int .i64 s.down, .int .i64 s.over, .int .i64 s.next, .int .i64 s.per, .int .i64 s.least, .int .i64 s.most, .int .i64 s.load, .int .i64 s.cool] 57 (0, 0))) ∧ Hid (wq.heap[w.heap.size + 1]? = some (.cells #[.int .i64 q.a, .int .i64 q.b, .int .i64 q.c, .int .i64 q.d, .int .i64 q.e] 3 (0, 0))) ∧ Hid (RowIs wq 3 1 gL L.length cap (intsV L))) (fun i _ => L.length - (intOf i).toNat)
        case atStart => exact ⟨0, ⟨r.a, r.b + N.ending, r.c + dd, r.d, r.e⟩, by omega, rfl, HQ1.out.symm, hbw7, B7, X7, G7, L7⟩
        case round =>
          clear hbw7 B7 X7 G7 L7 HQ1
          obtain ⟨m, q, hm, rfl, HQ, hb, HX, HS, HG, HLr⟩ := hrel
          have hzx : w.heap.size < wr.heap.size := (Array.getElem?_eq_some_iff.1 HX.out).1
          have hzs : pS < wr.heap.size := (Array.getElem?_eq_some_iff.1 HS.out).1
          have hzq : w.heap.size + 1 < wr.heap.size := (Array.getElem?_eq_some_iff.1 HG.out).1
          have hzl := HLr.out.lt
          by_cases hlm : m < L.length
          · obtain ⟨i, hik⟩ : ∃ i, L[m]? = some i := ⟨L[m], by simp [hlm]⟩
            have hilt := HL.out i (List.mem_of_getElem? hik)
            have HLK : Hid _ := intsV_at hik
            have hqu := HLU.out m hm
            rw [← HQ.out] at hqu
            obtain ⟨_, _, _, u3, u4, _, _, _, u8, u9⟩ := hqu
            obtain ⟨c, hc⟩ : ∃ c, cpD B i = c := ⟨_, rfl⟩
            have HQS : Hid (rkL B s r (m + 1) = rkC B s q c) := by unfold Hid; rw [rkL_succ (by rw [HLL.out]; exact hik), ← HQ.out, hc]
            have hne : B.cps ≠ [] := by intro h; rw [h] at hilt; simp at hilt
            have HBq : Hid (BkAt wr (some ⟨bS, oS, none⟩) a2 a3 B) := hB.below hb
            obtain ⟨bC, oC, ea, hbC, hat⟩ := HBq.out.2.1 hne
            subst ea
            have hcx := hat i c (by rw [cpD_some hilt, hc])
            clear hik hne hat hc
            go_wp2
            refine wp_region_grows 9 (by kernel_rfl) (by kernel_rfl) ?_
            apply grow_eq
            · intro V W K A hW hd hA hK
              simp only [putAll, List.getElem?_toArray, List.getElem?_cons_succ, List.getElem?_cons_zero, Option.bind_some, Act.put, List.setIfInBounds_toArray, List.set_cons_succ, List.set_cons_zero] at hA
              clear hd
              generalize V 0 = x0 at hA
              generalize V 1 = x1 at hA
              generalize V 2 = x2 at hA
              generalize V 3 = x3 at hA
              generalize V 4 = x4 at hA
              generalize V 5 = x5 at hA
              generalize V 6 = x6 at hA
              generalize V 7 = x7 at hA
              generalize V 8 = x8 at hA
              obtain rfl := hA
              go_wp2
              exact hK.out _ (Below.refl _ _)
            apply grow_eq
            · intro V W K A hW hd hA hK
              have d0 : V 0 = _ := hd 0 (by kernel_rfl)
              simp only [putAll, List.getElem?_toArray, List.getElem?_cons_succ, List.getElem?_cons_zero, Option.bind_some, Act.put, List.setIfInBounds_toArray, List.set_cons_succ, List.set_cons_zero] at hA
              clear hd
              generalize V 0 = x0 at d0 hA
              generalize V 1 = x1 at hA
              generalize V 2 = x2 at hA
              generalize V 3 = x3 at hA
              generalize V 4 = x4 at hA
              generalize V 5 = x5 at hA
              generalize V 6 = x6 at hA
              generalize V 7 = x7 at hA
              generalize V 8 = x8 at hA
              subst d0
              obtain rfl := hA
              have e2 := blk_cell (below_blk hW HX.out hzx) 2 rfl
              go_wp2
              exact hK.out _ (Below.refl _ _)
            apply grow_eq
            · intro V W K A hW hd hA hK
              simp only [putAll, List.getElem?_toArray, List.getElem?_cons_succ, List.getElem?_cons_zero, Option.bind_some, Act.put, List.setIfInBounds_toArray, List.set_cons_succ, List.set_cons_zero] at hA
              clear hd
              generalize V 0 = x0 at hA
              generalize V 1 = x1 at hA
              generalize V 2 = x2 at hA
              generalize V 3 = x3 at hA
              generalize V 4 = x4 at hA
              generalize V 5 = x5 at hA
              generalize V 6 = x6 at hA
              generalize V 7 = x7 at hA
              generalize V 8 = x8 at hA
              obtain rfl := hA
              go_wp2
              exact hK.out _ (Below.refl _ _)
            apply grow_eq
            · intro V W K A hW hd hA hK
              simp only [putAll, List.getElem?_toArray, List.getElem?_cons_succ, List.getElem?_cons_zero, Option.bind_some, Act.put, List.setIfInBounds_toArray, List.set_cons_succ, List.set_cons_zero] at hA
              clear hd
              generalize V 0 = x0 at hA
              generalize V 1 = x1 at hA
              generalize V 2 = x2 at hA
              generalize V 3 = x3 at hA
              generalize V 4 = x4 at hA
              generalize V 5 = x5 at hA
              generalize V 6 = x6 at hA
              generalize V 7 = x7 at hA
              generalize V 8 = x8 at hA
              obtain rfl := hA
              go_wp2
              exact hK.out _ (Below.refl _ _)
            apply grow_eq
            · intro V W K A hW hd hA hK
              have d2 : V 2 = _ := hd 2 (by kernel_rfl)
              have d3 : V 3 = _ := hd 3 (by kernel_rfl)
              simp only [putAll, List.getElem?_toArray, List.getElem?_cons_succ, List.getElem?_cons_zero, Option.bind_some, Act.put, List.setIfInBounds_toArray, List.set_cons_succ, List.set_cons_zero] at hA
              clear hd
              generalize V 0 = x0 at hA
              generalize V 1 = x1 at hA
              generalize V 2 = x2 at d2 hA
              generalize V 3 = x3 at d3 hA
              generalize V 4 = x4 at hA
              generalize V 5 = x5 at hA
              generalize V 6 = x6 at hA
              generalize V 7 = x7 at hA
              generalize V 8 = x8 at hA
              subst d2
              subst d3
              obtain rfl := hA
              go_wp2
              exact hK.out _ (Below.refl _ _)
            apply grow_eq
            · intro V W K A hW hd hA hK
              have d4 : V 4 = _ := hd 4 (by kernel_rfl)
              simp only [putAll, List.getElem?_toArray, List.getElem?_cons_succ, List.getElem?_cons_zero, Option.bind_some, Act.put, List.setIfInBounds_toArray, List.set_cons_succ, List.set_cons_zero] at hA
              clear hd
              generalize V 0 = x0 at hA
              generalize V 1 = x1 at hA
              generalize V 2 = x2 at hA
              generalize V 3 = x3 at hA
              generalize V 4 = x4 at d4 hA
              generalize V 5 = x5 at hA
              generalize V 6 = x6 at hA
              generalize V 7 = x7 at hA
              generalize V 8 = x8 at hA
              subst d4
              obtain rfl := hA
              have y0 := (HLr.out.below hW HLr.out.lt).cell HLK.out
              go_wp2
              exact hK.out _ (Below.refl _ _)
            apply grow_eq
            · intro V W K A hW hd hA hK
              have d1 : V 1 = _ := hd 1 (by kernel_rfl)
              have d5 : V 5 = _ := hd 5 (by kernel_rfl)
              simp only [putAll, List.getElem?_toArray, List.getElem?_cons_succ, List.getElem?_cons_zero, Option.bind_some, Act.put, List.setIfInBounds_toArray, List.set_cons_succ, List.set_cons_zero] at hA
              clear hd
              generalize V 0 = x0 at hA
              generalize V 1 = x1 at d1 hA
              generalize V 2 = x2 at hA
              generalize V 3 = x3 at hA
              generalize V 4 = x4 at hA
              generalize V 5 = x5 at d5 hA
              generalize V 6 = x6 at hA
              generalize V 7 = x7 at hA
              generalize V 8 = x8 at hA
              subst d1
              subst d5
              obtain rfl := hA
              go_wp2
              exact hK.out _ (Below.refl _ _)
            apply grow_eq
            · intro V W K A hW hd hA hK
              have d6 : V 6 = _ := hd 6 (by kernel_rfl)
              simp only [putAll, List.getElem?_toArray, List.getElem?_cons_succ, List.getElem?_cons_zero, Option.bind_some, Act.put, List.setIfInBounds_toArray, List.set_cons_succ, List.set_cons_zero] at hA
              clear hd
              generalize V 0 = x0 at hA
              generalize V 1 = x1 at hA
              generalize V 2 = x2 at hA
              generalize V 3 = x3 at hA
              generalize V 4 = x4 at hA
              generalize V 5 = x5 at hA
              generalize V 6 = x6 at d6 hA
              generalize V 7 = x7 at hA
              generalize V 8 = x8 at hA
              subst d6
              obtain rfl := hA
              have hq := hcx.below hW hbC
              unfold CpAt at hq
              obtain ⟨z0, z1, z2, z3, z4, z5, z6⟩ := hq
              go_wp2
              exact hK.out _ (Below.refl _ _)
            refine grow_op (fun v V => ∃ p, v = .pointer (some ⟨p, 0, none⟩) ∧ wr.heap.size ≤ p ∧ V.heap[p]? = some (.cells #[.string ⟨#[]⟩, .int .i64 0, .int .i64 0, .int .i64 0, .int .i64 0, .bool false, .string ⟨#[]⟩] 72 (0, 0))) (fun v W W2 ⟨p, h1, h2, h3⟩ hb => ⟨p, h1, h2, below_blk hb h3 (Array.getElem?_eq_some_iff.1 h3).1⟩) ?_ ?_
            · intro V W K A hW hd hA hK
              simp only [putAll, List.getElem?_toArray, List.getElem?_cons_succ, List.getElem?_cons_zero, Option.bind_some, Act.put, List.setIfInBounds_toArray, List.set_cons_succ, List.set_cons_zero] at hA
              clear hd
              generalize V 0 = x0 at hA
              generalize V 1 = x1 at hA
              generalize V 2 = x2 at hA
              generalize V 3 = x3 at hA
              generalize V 4 = x4 at hA
              generalize V 5 = x5 at hA
              generalize V 6 = x6 at hA
              generalize V 7 = x7 at hA
              generalize V 8 = x8 at hA
              obtain rfl := hA
              go_wp2
              exact hK.out _ _ (below_box W _) ⟨_, rfl, hW.size, heap_alloc_new W _⟩
            intro V W A hW hS hA
            have d0 : V 0 = _ := hS 0 (by omega)
            have d1 : V 1 = _ := hS 1 (by omega)
            have d2 : V 2 = _ := hS 2 (by omega)
            have d3 : V 3 = _ := hS 3 (by omega)
            have d4 : V 4 = _ := hS 4 (by omega)
            have d5 : V 5 = _ := hS 5 (by omega)
            have d6 : V 6 = _ := hS 6 (by omega)
            have d7 : V 7 = _ := hS 7 (by omega)
            have d8 : (fun v V => ∃ p, v = .pointer (some ⟨p, 0, none⟩) ∧ wr.heap.size ≤ p ∧ V.heap[p]? = some (.cells #[.string ⟨#[]⟩, .int .i64 0, .int .i64 0, .int .i64 0, .int .i64 0, .bool false, .string ⟨#[]⟩] 72 (0, 0))) (V 8) W := hS 8 (by omega)
            simp only [putAll, List.getElem?_toArray, List.getElem?_cons_succ, List.getElem?_cons_zero, Option.bind_some, Act.put, List.setIfInBounds_toArray, List.set_cons_succ, List.set_cons_zero] at hA
            clear hS
            generalize V 0 = x0 at d0 hA
            generalize V 1 = x1 at d1 hA
            generalize V 2 = x2 at d2 hA
            generalize V 3 = x3 at d3 hA
            generalize V 4 = x4 at d4 hA
            generalize V 5 = x5 at d5 hA
            generalize V 6 = x6 at d6 hA
            generalize V 7 = x7 at d7 hA
            generalize V 8 = x8 at d8 hA
            subst d0
            subst d1
            subst d2
            subst d3
            subst d4
            subst d5
            subst d6
            subst d7
            obtain rfl := hA
            simp only [List.drop_succ_cons, List.drop_zero]
            obtain ⟨p8, rfl, hp8z, hp8⟩ := d8
            have hzW8 := hW.size
            go_upto_region 22 with (first
              | (refine wpList_store_only rfl 72 (.tmp 10) (.tmp 88) rfl p8 0 #[.string c.service, .int .i64 c.number, .int .i64 c.version, .int .i64 c.image, .int .i64 c.state, .bool c.ending, .string c.berth] rfl rfl 72 #[.string ⟨#[]⟩, .int .i64 0, .int .i64 0, .int .i64 0, .int .i64 0, .bool false, .string ⟨#[]⟩] hp8 Try.infosCpV (Nat.le_of_ble_eq_true rfl) (by simp [Value.oneCell']) ?_; intro wA hz on; have CA : Hid (wA.heap[p8]? = some (.cells #[.string c.service, .int .i64 c.number, .int .i64 c.version, .int .i64 c.image, .int .i64 c.state, .bool c.ending, .string c.berth] 72 (0, 0))) := hz; have BA : Hid _ := (on.other w.heap.size (by omega)).trans (below_blk hW HX.out hzx); have SA : Hid _ := (on.other pS (by omega)).trans (below_blk hW HS.out hzs); have GA : Hid _ := (on.other (w.heap.size + 1) (by omega)).trans (below_blk hW HG.out hzq); have RA : Hid (RowIs wA 3 1 gL L.length cap (intsV L)) := (HLr.out.below hW HLr.out.lt).blk (on.other gL (by omega)); have hbA := (hb.trans (hW.mono hb.size)).trans (on.below.mono (by omega)); clear hz on))
            have HBA : Hid (BkAt wA (some ⟨bS, oS, none⟩) (some ⟨bC, oC, none⟩) a3 B) := hB.below hbA
            clear hW hp8 hcx HX HS HG HLr hb HBq
            obtain ⟨im, him⟩ : ∃ im, Hid ((c.image != s.image) = im) := ⟨_, rfl⟩
            obtain ⟨fl, hfl⟩ : ∃ fl, Hid ((c.image != s.image || drainsB B c) = fl) := ⟨_, rfl⟩
            obtain ⟨st, hst⟩ : ∃ st, Hid ((c.state != 3) = st) := ⟨_, rfl⟩
            have HQD : Hid (rkC B s q c = ⟨q.a, q.b, q.c, addB fl q.d, addB st q.e⟩) := by unfold Hid rkC; rw [hfl.out, hst.out]
            simp only [Act.put]
            go_cut [98] (fun v wx => v = .bool fl ∧ Below wA.heap.size wA wx)
            case first =>
              have ci3 := blk_cell CA.out 3 rfl
              have s3 := blk_cell SA.out 3 rfl
              cases im
              · have him0 : (c.image != s.image) = false := him.out
                have e0 := blk_cell BA.out 0 rfl
                have e1 := blk_cell BA.out 1 rfl
                have e2 := blk_cell BA.out 2 rfl
                have e3 := blk_cell BA.out 3 rfl
                have ci0 := blk_cell CA.out 0 rfl
                have ci1 := blk_cell CA.out 1 rfl
                have ci2 := blk_cell CA.out 2 rfl
                have ci4 := blk_cell CA.out 4 rfl
                have ci5 := blk_cell CA.out 5 rfl
                have ci6 := blk_cell CA.out 6 rfl
                have HDF : Hid (drainsB B c = fl) := by unfold Hid; rw [← hfl.out, him.out]; rfl
                have HDC : Hid (Calls Try.prog 39 #[.agg #[.int .i64 B.now, .slice (some ⟨bS, oS, none⟩) B.svcs.length c1, .slice (some ⟨bC, oC, none⟩) B.cps.length c2, .slice a3 B.bts.length c3], .agg #[.string c.service, .int .i64 c.number, .int .i64 c.version, .int .i64 c.image, .int .i64 c.state, .bool c.ending, .string c.berth]] wA fun e w' => e = .returned (.bool fl) ∧ Below wA.heap.size wA w') := by have := l5Drains_any B c (some ⟨bS, oS, none⟩) (some ⟨bC, oC, none⟩) a3 c1 c2 c3 wA hS HBA.out; rw [HDF.out] at this; exact this
                go_wp2_with fail
                refine HDC.out.mono ?_
                rintro e wD ⟨rfl, hbD⟩
                go_wp2
                go_meet
                case rel => exact ⟨rfl, hbD⟩
              · have him0 : (c.image != s.image) = true := him.out
                have HFT : Hid (fl = true) := by unfold Hid; rw [← hfl.out, him.out]; rfl
                go_wp2
                go_meet
                case rel => exact ⟨by rw [HFT.out], Below.refl _ _⟩
            case rest =>
              obtain ⟨rfl, hbD⟩ := hcut
              have hzD := hbD.size
              have BD : Hid _ := below_blk hbD BA.out (Array.getElem?_eq_some_iff.1 BA.out).1
              have SD : Hid _ := below_blk hbD SA.out (Array.getElem?_eq_some_iff.1 SA.out).1
              have CD : Hid _ := below_blk hbD CA.out (Array.getElem?_eq_some_iff.1 CA.out).1
              have GD : Hid _ := below_blk hbD GA.out (Array.getElem?_eq_some_iff.1 GA.out).1
              have RD : Hid (RowIs wc 3 1 gL L.length cap (intsV L)) := RA.out.below hbD RA.out.lt
              have hbD' := hbA.trans (hbD.mono hbA.size)
              clear BA SA CA GA RA hbA hbD HBA him hfl
              have zB := (Array.getElem?_eq_some_iff.1 BD.out).1
              have zS := (Array.getElem?_eq_some_iff.1 SD.out).1
              have zG := (Array.getElem?_eq_some_iff.1 GD.out).1
              have zC := (Array.getElem?_eq_some_iff.1 CD.out).1
              go_upto_if 98 with fail
              go_cut [9] (fun v wx => v = .int .i64 m ∧ ∃ qd : Int, Hid (qd = addB fl q.d) ∧ Below w.heap.size w wx ∧ wc.heap.size ≤ wx.heap.size ∧ Hid (wx.heap[w.heap.size]? = some (.cells #[.int .i64 B.now, .slice (some ⟨bS, oS, none⟩) B.svcs.length c1, .slice (some ⟨bC, oC, none⟩) B.cps.length c2, .slice a3 B.bts.length c3] 33 (0, 0))) ∧ Hid (wx.heap[pS]? = some (.cells #[.string s.name, .int .i64 s.version, .bool s.gone, .int .i64 s.image, .int .i64 s.want, .int .i64 s.down, .int .i64 s.over, .int .i64 s.next, .int .i64 s.per, .int .i64 s.least, .int .i64 s.most, .int .i64 s.load, .int .i64 s.cool] 57 (0, 0))) ∧ Hid (wx.heap[p8]? = some (.cells #[.string c.service, .int .i64 c.number, .int .i64 c.version, .int .i64 c.image, .int .i64 c.state, .bool c.ending, .string c.berth] 72 (0, 0))) ∧ Hid (wx.heap[w.heap.size + 1]? = some (.cells #[.int .i64 q.a, .int .i64 q.b, .int .i64 q.c, .int .i64 qd, .int .i64 q.e] 3 (0, 0))) ∧ Hid (RowIs wx 3 1 gL L.length cap (intsV L)))
              case first =>
                cases fl
                · go_wp2
                  go_meet
                  case rel => exact ⟨rfl, q.d, rfl, hbD', Nat.le_refl _, BD, SD, CD, GD, RD⟩
                · have g3 := blk_cell GD.out 3 rfl
                  go_wp2_with (first
                    | (refine wpList_store_one rfl 3 (.tmp 103) (.tmp 102) rfl (w.heap.size + 1) 3 (.int .i64 (q.d + 1)) rfl rfl Try.infosIntV rfl rfl 3 #[.int .i64 q.a, .int .i64 q.b, .int .i64 q.c, .int .i64 q.d, .int .i64 q.e] GD.out (Nat.le_of_ble_eq_true rfl) ?_; intro wE hz on; have GE : Hid (wE.heap[(w.heap.size + 1)]? = some (.cells #[.int .i64 q.a, .int .i64 q.b, .int .i64 q.c, .int .i64 (q.d + 1), .int .i64 q.e] 3 (0, 0))) := hz; have BE : Hid _ := (on.other w.heap.size (by omega)).trans BD.out; have SE : Hid _ := (on.other pS (by omega)).trans SD.out; have CE : Hid _ := (on.other p8 (by omega)).trans CD.out; have hzE := (show wc.heap.size ≤ wE.heap.size by rw [on.size]; exact Nat.le_refl _); have RE : Hid (RowIs wE 3 1 gL L.length cap (intsV L)) := RD.out.blk (on.other gL (by omega)); have hbE := hbD'.trans (on.below.mono (by omega)); clear hz on))
                  go_meet
                  case rel => exact ⟨rfl, q.d + 1, rfl, hbE, hzE, BE, SE, CE, GE, RE⟩
              case rest =>
                rename_i wc0 _
                obtain ⟨rfl, qd, HQ3, hbE, hzE, BE, SE, CE, GE, RE⟩ := hcut
                have hqd := addB_in fl q.d
                rw [← HQ3.out] at hqd
                clear hbD' BD SD CD GD RD
                have ci4 := blk_cell CE.out 4 rfl
                have HST : (c.state != 3) = st := hst.out
                go_upto_if 106 with fail
                clear ci4 HST
                cases st
                · go_wp2
                  go_roundw
                  case rel => exact ⟨m + 1, ⟨q.a, q.b, q.c, qd, q.e⟩, by omega, by go_num, by unfold Hid; rw [HQS.out, HQD.out, HQ3.out]; rfl, hbE, BE, SE, GE, RE⟩
                  case measure => simp [intOf]; omega
                · have g4 := blk_cell GE.out 4 rfl
                  go_wp2_with (first
                    | (refine wpList_store_one rfl 3 (.tmp 111) (.tmp 110) rfl (w.heap.size + 1) 4 (.int .i64 (q.e + 1)) rfl rfl Try.infosIntV rfl rfl 3 #[.int .i64 q.a, .int .i64 q.b, .int .i64 q.c, .int .i64 qd, .int .i64 q.e] GE.out (Nat.le_of_ble_eq_true rfl) ?_; intro wF hz on; have GF : Hid (wF.heap[(w.heap.size + 1)]? = some (.cells #[.int .i64 q.a, .int .i64 q.b, .int .i64 q.c, .int .i64 qd, .int .i64 (q.e + 1)] 3 (0, 0))) := hz; have BF : Hid _ := (on.other w.heap.size (by omega)).trans BE.out; have SF : Hid _ := (on.other pS (by omega)).trans SE.out; have RF : Hid (RowIs wF 3 1 gL L.length cap (intsV L)) := RE.out.blk (on.other gL (by omega)); have hbF := hbE.trans (on.below.mono (by omega)); clear hz on))
                  go_wp2
                  go_roundw
                  case rel => exact ⟨m + 1, ⟨q.a, q.b, q.c, qd, q.e + 1⟩, by omega, by go_num, by unfold Hid; rw [HQS.out, HQD.out, HQ3.out]; rfl, hbF, BF, SF, GF, RF⟩
                  case measure => simp [intOf]; omega
          · have hml : m = L.length := by omega
            have HF : Hid (q = rkTo B (k + 1)) := by unfold Hid; rw [HQ.out, HRF.out, hml]
            go_wp2
            go_roundw
            case rel => exact ⟨k + 1, q, by omega, by go_num, HF, hb, HX, HG⟩
            case measure => simp [intOf]; omega
    · have HE : Hid (r = rankOf B) := by unfold Hid rankOf; rw [HV.out, if_pos rfl, HR.out, show k = B.svcs.length by omega]
      go_wp2
      go_ret
      exact ⟨w.heap.size + 1, r, HE, rfl, by omega, HG, hb⟩

end Go.Proofs.Ytbceafpodamnfab
