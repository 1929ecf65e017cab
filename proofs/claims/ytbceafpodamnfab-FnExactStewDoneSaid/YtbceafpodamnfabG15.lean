/-
  My own: Vc.
-/
import Derived.Test.YtbceafpodamnfabG14
import Derived.Test.YtbceafpodamnfabG09
import Derived.Test.YtbceafpodamnfabG13
/-
  My own. Done, by the specification.
-/
namespace Go.Proofs.Ytbceafpodamnfab
open Go.RowKit Go.Sort

/-- What StewDone answers. -/
def doneS (B : Bk) : Bool := validB B && (zeroR (rankOf B) && B.svcs.all fun s => !missB s)

set_option maxRecDepth 100000 in
set_option maxHeartbeats 32000000 in
theorem specDone_any (B : Bk) (a1 a2 a3 : Option Addr) (c1 c2 c3 : Nat) (w : World) (hS : B.small) (hZ : B.sized) (hB : BkAt w a1 a2 a3 B) :
    Calls Try.prog 7 #[.agg #[.int .i64 B.now, .slice a1 B.svcs.length c1, .slice a2 B.cps.length c2, .slice a3 B.bts.length c3]] w fun e w' => e = .returned (.bool (doneS B)) ∧ Below w.heap.size w w' := by
  have hb0 := below_box w (.cells #[.int .i64 B.now, .slice a1 B.svcs.length c1, .slice a2 B.cps.length c2, .slice a3 B.bts.length c3] 33)
  have T0 : Hid _ := heap_alloc_new w (.cells #[.int .i64 B.now, .slice a1 B.svcs.length c1, .slice a2 B.cps.length c2, .slice a3 B.bts.length c3] 33)
  obtain ⟨W0, hW0⟩ : ∃ W, w.alloc (.cells #[.int .i64 B.now, .slice a1 B.svcs.length c1, .slice a2 B.cps.length c2, .slice a3 B.bts.length c3] 33) = W := ⟨_, rfl⟩
  have hz0 : w.heap.size < (w.alloc (.cells #[.int .i64 B.now, .slice a1 B.svcs.length c1, .slice a2 B.cps.length c2, .slice a3 B.bts.length c3] 33)).heap.size := by simp
  rw [hW0] at hb0 T0 hz0
  obtain ⟨dn, HDN⟩ : ∃ d, Hid (doneS B = d) := ⟨_, rfl⟩
  rw [HDN.out]
  go_enter Try.func7, Try.ntmps7
  go_upto_region 1 with fail
  clear hW0
  have e0 := blk_cell T0.out 0 rfl
  have e1 := blk_cell T0.out 1 rfl
  have e2 := blk_cell T0.out 2 rfl
  have e3 := blk_cell T0.out 3 rfl
  go_wp2_with fail
  refine (specValid_any B a1 a2 a3 c1 c2 c3 _ hS hZ (hB.below hb0)).mono ?_
  rintro e w1 ⟨rfl, hb1⟩
  have hbw1 := hb0.trans (hb1.mono hb0.size)
  have hz1 := hb1.size
  have U0 : Hid _ := below_blk hb1 T0.out (by omega)
  clear e0 e1 e2 e3 hb1 hb0 T0
  obtain ⟨v, HV⟩ : ∃ v, Hid (validB B = v) := ⟨_, rfl⟩
  rw [HV.out]
  cases v
  · go_wp2
    go_ret
    exact ⟨by rw [← HDN.out]; unfold doneS; rw [HV.out]; rfl, hbw1⟩
  have hV := validB_iff.1 HV.out
  have hls := hV.ls
  go_upto_region 3 with fail
  have e0 := blk_cell U0.out 0 rfl
  have e1 := blk_cell U0.out 1 rfl
  have e2 := blk_cell U0.out 2 rfl
  have e3 := blk_cell U0.out 3 rfl
  go_wp2_with fail
  refine (specRank_any B a1 a2 a3 c1 c2 c3 _ hS hZ (hB.below hbw1)).mono ?_
  rintro e w2 ⟨g, r, HR, rfl, hg, HG, hb2⟩
  have hz2 := hb2.size
  have hbw2 := hbw1.trans (hb2.mono hbw1.size)
  have V0 : Hid _ := below_blk hb2 U0.out (by omega)
  clear e0 e1 e2 e3 hb2 hbw1 U0
  go_wp2
  go_loopw [4] (fun iv wr => ∃ k : Nat, k ≤ 5 ∧ iv = .int .i64 k ∧ w2 = wr ∧ Hid (∀ i, i < k → rkN r i = 0)) (fun i _ => 5 - (intOf i).toNat)
  case atStart => exact ⟨0, by omega, rfl, rfl, fun i hi => absurd hi (by omega)⟩
  case round =>
    obtain ⟨k, hk, rfl, rfl, HZ⟩ := hrel
    by_cases hlt : k < 5
    · have y := blk_cell HG.out k (rk_cell r hlt)
      obtain ⟨x, hx⟩ : ∃ x, Hid (rkN r k = x) := ⟨_, rfl⟩
      rw [hx.out] at y
      by_cases hx0 : x = 0
      · subst hx0
        go_wp2
        go_roundw
        case rel => exact ⟨k + 1, by omega, by go_num, (by first | rfl | trivial), fun i hi => by
          rcases Nat.lt_or_ge i k with h | h
          · exact HZ.out i h
          · rw [show i = k by omega]; exact hx.out⟩
        case measure => simp [intOf]; omega
      · go_wp2
        go_ret
        exact ⟨by rw [← HDN.out]; unfold doneS; rw [HV.out, ← HR.out, zeroR_not hlt (by rw [hx.out]; exact hx0)]; rfl, hbw2⟩
    · have HZ5 : Hid (zeroR r = true) := zeroR_yes fun i hi => HZ.out i (by omega)
      have hk5 : k = 5 := by omega
      subst hk5
      have HDM : Hid (doneS B = B.svcs.all fun s => !missB s) := by unfold Hid doneS; rw [HV.out, ← HR.out, HZ5.out]; rfl
      clear HZ HG HR
      go_wp2
      go_loopw [5] (fun iv wr => ∃ k : Nat, k ≤ B.svcs.length ∧ iv = .int .i64 k ∧ Hid (∀ (i : Nat) s, i < k → B.svcs[i]? = some s → missB s = false) ∧ Below w.heap.size w wr ∧ Hid (wr.heap[w.heap.size]? = some (.cells #[.int .i64 B.now, .slice a1 B.svcs.length c1, .slice a2 B.cps.length c2, .slice a3 B.bts.length c3] 33 (0, 0)))) (fun i _ => B.svcs.length - (intOf i).toNat)
      case atStart => exact ⟨0, by omega, rfl, fun i s hi => absurd hi (by omega), hbw2, V0⟩
      case round =>
        clear hbw2 V0 hz2 hz1 hz0
        rename_i wr0 _
        obtain ⟨k, hk, rfl, HM, hb, HX⟩ := hrel
        have hzx : w.heap.size < wr.heap.size := (Array.getElem?_eq_some_iff.1 HX.out).1
        have e1 := blk_cell HX.out 1 rfl
        by_cases hlt : k < B.svcs.length
        · obtain ⟨s, hsk⟩ : ∃ s, B.svcs[k]? = some s := ⟨B.svcs[k], by simp [hlt]⟩
          have hmem := List.mem_of_getElem? hsk
          have HSK : Hid _ := hsk
          have HMEM : Hid (s ∈ B.svcs) := hmem
          have hper := perInV hV hmem
          have hne : B.svcs ≠ [] := by intro h; rw [h] at hlt; simp at hlt
          obtain ⟨bS, oS, ea, hbs, hat⟩ := (hB.below hb).1 hne
          subst ea
          have hsx := hat k s hsk
          unfold SvcAt at hsx
          obtain ⟨x0, x1, x2, x3, x4, x5, x6, x7, x8, x9, x10, x11, x12⟩ := hsx
          obtain ⟨Wa, hWa⟩ : ∃ W, wr.alloc (.cells #[.string s.name, .int .i64 s.version, .bool s.gone, .int .i64 s.image, .int .i64 s.want, .int .i64 s.down, .int .i64 s.over, .int .i64 s.next, .int .i64 s.per, .int .i64 s.least, .int .i64 s.most, .int .i64 s.load, .int .i64 s.cool] 57) = W := ⟨_, rfl⟩
          have hba := below_box wr (.cells #[.string s.name, .int .i64 s.version, .bool s.gone, .int .i64 s.image, .int .i64 s.want, .int .i64 s.down, .int .i64 s.over, .int .i64 s.next, .int .i64 s.per, .int .i64 s.least, .int .i64 s.most, .int .i64 s.load, .int .i64 s.cool] 57)
          have T0 : Hid _ := heap_alloc_new wr (.cells #[.string s.name, .int .i64 s.version, .bool s.gone, .int .i64 s.image, .int .i64 s.want, .int .i64 s.down, .int .i64 s.over, .int .i64 s.next, .int .i64 s.per, .int .i64 s.least, .int .i64 s.most, .int .i64 s.load, .int .i64 s.cool] 57)
          have hza : wr.heap.size < (wr.alloc (.cells #[.string s.name, .int .i64 s.version, .bool s.gone, .int .i64 s.image, .int .i64 s.want, .int .i64 s.down, .int .i64 s.over, .int .i64 s.next, .int .i64 s.per, .int .i64 s.least, .int .i64 s.most, .int .i64 s.load, .int .i64 s.cool] 57)).heap.size := by simp
          rw [hWa] at hba T0 hza
          clear hsk hne hat hmem
          go_upto_region 13 with fail
          clear hWa e1 x0 x1 x2 x3 x4 x5 x6 x7 x8 x9 x10 x11 x12
          have hbwa := hb.trans (hba.mono hb.size)
          have Ba : Hid _ := below_blk hba HX.out hzx
          obtain ⟨mb, HMB⟩ : ∃ m, Hid (missB s = m) := ⟨_, rfl⟩
          have HYES : Hid (missB s = true → dn = false) := fun h => by
            rw [← HDN.out, HDM.out]
            rw [Bool.eq_false_iff]
            intro h'
            have := List.all_eq_true.1 h' s HMEM.out
            rw [h] at this
            cases this
          have HNO : Hid (missB s = false → ∀ (i : Nat) t, i < k + 1 → B.svcs[i]? = some t → missB t = false) := fun h i t hi ht => by
            rcases Nat.lt_or_ge i k with h1 | h1
            · exact HM.out i t h1 ht
            · rw [show i = k by omega, HSK.out] at ht
              cases ht
              exact h
          clear HM
          by_cases hp : 0 < s.per
          · obtain ⟨_, hpi, hlm⟩ := hper (by omega)
            obtain ⟨D, HD, HC⟩ : ∃ d, Hid (desV s = d) ∧ Hid (∀ W, Calls Try.prog 26 #[.agg #[.string s.name, .int .i64 s.version, .bool s.gone, .int .i64 s.image, .int .i64 s.want, .int .i64 s.down, .int .i64 s.over, .int .i64 s.next, .int .i64 s.per, .int .i64 s.least, .int .i64 s.most, .int .i64 s.load, .int .i64 s.cool]] W fun e w' => e = .returned (.int .i64 d) ∧ Below W.heap.size W w') := ⟨_, rfl, fun W => l5DesiredV_any s W hpi.load0 hpi.load1 (by omega) hpi.per1 hpi.least0 hpi.least1 hpi.most0 hpi.most1⟩
            have hpd : decide (0 < s.per) = true := decide_eq_true hp
            clear hpi hlm hper
            obtain ⟨wd, HWD⟩ : ∃ b, Hid ((s.want != D) = b) := ⟨_, rfl⟩
            cases wd
            · obtain ⟨cl, HCL⟩ : ∃ b, Hid ((s.cool != 0) = b) := ⟨_, rfl⟩
              have HMS : Hid (missB s = cl) := by unfold Hid missB; rw [HD.out, HWD.out, HCL.out, decide_eq_true hp]; simp
              refine wp_region_grows 14 (by kernel_rfl) (by kernel_rfl) ?_
              apply grow_eq
              · intro V W K A hW hd hA hK
                simp only [putAll, List.getElem?_toArray, List.getElem?_cons_succ, List.getElem?_cons_zero, Option.bind_some, Act.put, List.setIfInBounds_toArray, List.set_cons_succ, List.set_cons_zero] at hA
                clear hd
                generalize V 0 = x0 at hA
                generalize V 1 = x1 at hA
                generalize V 2 = x2 at hA
                generalize V 3 = x3 at hA
                generalize V 4 = x4 at hA
                generalize V 5 = x5 at hA
                generalize V 6 = x6 at hA
                generalize V 7 = x7 at hA
                generalize V 8 = x8 at hA
                generalize V 9 = x9 at hA
                generalize V 10 = x10 at hA
                generalize V 11 = x11 at hA
                generalize V 12 = x12 at hA
                generalize V 13 = x13 at hA
                obtain rfl := hA
                go_wp2
                exact hK.out _ (Below.refl _ _)
              apply grow_eq
              · intro V W K A hW hd hA hK
                have d0 : V 0 = _ := hd 0 (by kernel_rfl)
                simp only [putAll, List.getElem?_toArray, List.getElem?_cons_succ, List.getElem?_cons_zero, Option.bind_some, Act.put, List.setIfInBounds_toArray, List.set_cons_succ, List.set_cons_zero] at hA
                clear hd
                generalize V 0 = x0 at d0 hA
                generalize V 1 = x1 at hA
                generalize V 2 = x2 at hA
                generalize V 3 = x3 at hA
                generalize V 4 = x4 at hA
                generalize V 5 = x5 at hA
                generalize V 6 = x6 at hA
                generalize V 7 = x7 at hA
                generalize V 8 = x8 at hA
                generalize V 9 = x9 at hA
                generalize V 10 = x10 at hA
                generalize V 11 = x11 at hA
                generalize V 12 = x12 at hA
                generalize V 13 = x13 at hA
                subst d0
                obtain rfl := hA
                have y8 := blk_cell (below_blk hW T0.out (by omega)) 8 rfl
                go_wp2
                exact hK.out _ (Below.refl _ _)
              apply grow_eq
              · intro V W K A hW hd hA hK
                have d1 : V 1 = _ := hd 1 (by kernel_rfl)
                simp only [putAll, List.getElem?_toArray, List.getElem?_cons_succ, List.getElem?_cons_zero, Option.bind_some, Act.put, List.setIfInBounds_toArray, List.set_cons_succ, List.set_cons_zero] at hA
                clear hd
                generalize V 0 = x0 at hA
                generalize V 1 = x1 at d1 hA
                generalize V 2 = x2 at hA
                generalize V 3 = x3 at hA
                generalize V 4 = x4 at hA
                generalize V 5 = x5 at hA
                generalize V 6 = x6 at hA
                generalize V 7 = x7 at hA
                generalize V 8 = x8 at hA
                generalize V 9 = x9 at hA
                generalize V 10 = x10 at hA
                generalize V 11 = x11 at hA
                generalize V 12 = x12 at hA
                generalize V 13 = x13 at hA
                subst d1
                obtain rfl := hA
                go_wp2
                exact hK.out _ (Below.refl _ _)
              apply grow_eq
              · intro V W K A hW hd hA hK
                have d2 : V 2 = _ := hd 2 (by kernel_rfl)
                simp only [putAll, List.getElem?_toArray, List.getElem?_cons_succ, List.getElem?_cons_zero, Option.bind_some, Act.put, List.setIfInBounds_toArray, List.set_cons_succ, List.set_cons_zero] at hA
                clear hd
                generalize V 0 = x0 at hA
                generalize V 1 = x1 at hA
                generalize V 2 = x2 at d2 hA
                generalize V 3 = x3 at hA
                generalize V 4 = x4 at hA
                generalize V 5 = x5 at hA
                generalize V 6 = x6 at hA
                generalize V 7 = x7 at hA
                generalize V 8 = x8 at hA
                generalize V 9 = x9 at hA
                generalize V 10 = x10 at hA
                generalize V 11 = x11 at hA
                generalize V 12 = x12 at hA
                generalize V 13 = x13 at hA
                subst d2
                obtain rfl := hA
                go_wp2
                exact hK.out _ (Below.refl _ _)
              apply grow_eq
              · intro V W K A hW hd hA hK
                have d3 : V 3 = _ := hd 3 (by kernel_rfl)
                simp only [putAll, List.getElem?_toArray, List.getElem?_cons_succ, List.getElem?_cons_zero, Option.bind_some, Act.put, List.setIfInBounds_toArray, List.set_cons_succ, List.set_cons_zero] at hA
                clear hd
                generalize V 0 = x0 at hA
                generalize V 1 = x1 at hA
                generalize V 2 = x2 at hA
                generalize V 3 = x3 at d3 hA
                generalize V 4 = x4 at hA
                generalize V 5 = x5 at hA
                generalize V 6 = x6 at hA
                generalize V 7 = x7 at hA
                generalize V 8 = x8 at hA
                generalize V 9 = x9 at hA
                generalize V 10 = x10 at hA
                generalize V 11 = x11 at hA
                generalize V 12 = x12 at hA
                generalize V 13 = x13 at hA
                subst d3
                obtain rfl := hA
                go_wp2
                exact hK.out _ (Below.refl _ _)
              apply grow_eq
              · intro V W K A hW hd hA hK
                have d3 : V 3 = _ := hd 3 (by kernel_rfl)
                have d4 : V 4 = _ := hd 4 (by kernel_rfl)
                simp only [putAll, List.getElem?_toArray, List.getElem?_cons_succ, List.getElem?_cons_zero, Option.bind_some, Act.put, List.setIfInBounds_toArray, List.set_cons_succ, List.set_cons_zero] at hA
                clear hd
                generalize V 0 = x0 at hA
                generalize V 1 = x1 at hA
                generalize V 2 = x2 at hA
                generalize V 3 = x3 at d3 hA
                generalize V 4 = x4 at d4 hA
                generalize V 5 = x5 at hA
                generalize V 6 = x6 at hA
                generalize V 7 = x7 at hA
                generalize V 8 = x8 at hA
                generalize V 9 = x9 at hA
                generalize V 10 = x10 at hA
                generalize V 11 = x11 at hA
                generalize V 12 = x12 at hA
                generalize V 13 = x13 at hA
                subst d3
                subst d4
                obtain rfl := hA
                have y4 := blk_cell (below_blk hW T0.out (by omega)) 4 rfl
                go_wp2
                exact hK.out _ (Below.refl _ _)
              apply grow_eq
              · intro V W K A hW hd hA hK
                have d3 : V 3 = _ := hd 3 (by kernel_rfl)
                simp only [putAll, List.getElem?_toArray, List.getElem?_cons_succ, List.getElem?_cons_zero, Option.bind_some, Act.put, List.setIfInBounds_toArray, List.set_cons_succ, List.set_cons_zero] at hA
                clear hd
                generalize V 0 = x0 at hA
                generalize V 1 = x1 at hA
                generalize V 2 = x2 at hA
                generalize V 3 = x3 at d3 hA
                generalize V 4 = x4 at hA
                generalize V 5 = x5 at hA
                generalize V 6 = x6 at hA
                generalize V 7 = x7 at hA
                generalize V 8 = x8 at hA
                generalize V 9 = x9 at hA
                generalize V 10 = x10 at hA
                generalize V 11 = x11 at hA
                generalize V 12 = x12 at hA
                generalize V 13 = x13 at hA
                subst d3
                obtain rfl := hA
                have y0 := blk_cell (below_blk hW T0.out (by omega)) 0 rfl
                have y1 := blk_cell (below_blk hW T0.out (by omega)) 1 rfl
                have y2 := blk_cell (below_blk hW T0.out (by omega)) 2 rfl
                have y3 := blk_cell (below_blk hW T0.out (by omega)) 3 rfl
                have y4 := blk_cell (below_blk hW T0.out (by omega)) 4 rfl
                have y5 := blk_cell (below_blk hW T0.out (by omega)) 5 rfl
                have y6 := blk_cell (below_blk hW T0.out (by omega)) 6 rfl
                have y7 := blk_cell (below_blk hW T0.out (by omega)) 7 rfl
                have y8 := blk_cell (below_blk hW T0.out (by omega)) 8 rfl
                have y9 := blk_cell (below_blk hW T0.out (by omega)) 9 rfl
                have y10 := blk_cell (below_blk hW T0.out (by omega)) 10 rfl
                have y11 := blk_cell (below_blk hW T0.out (by omega)) 11 rfl
                have y12 := blk_cell (below_blk hW T0.out (by omega)) 12 rfl
                go_wp2
                exact hK.out _ (Below.refl _ _)
              apply grow_eq
              · intro V W K A hW hd hA hK
                have d3 : V 3 = _ := hd 3 (by kernel_rfl)
                have d6 : V 6 = _ := hd 6 (by kernel_rfl)
                simp only [putAll, List.getElem?_toArray, List.getElem?_cons_succ, List.getElem?_cons_zero, Option.bind_some, Act.put, List.setIfInBounds_toArray, List.set_cons_succ, List.set_cons_zero] at hA
                clear hd
                generalize V 0 = x0 at hA
                generalize V 1 = x1 at hA
                generalize V 2 = x2 at hA
                generalize V 3 = x3 at d3 hA
                generalize V 4 = x4 at hA
                generalize V 5 = x5 at hA
                generalize V 6 = x6 at d6 hA
                generalize V 7 = x7 at hA
                generalize V 8 = x8 at hA
                generalize V 9 = x9 at hA
                generalize V 10 = x10 at hA
                generalize V 11 = x11 at hA
                generalize V 12 = x12 at hA
                generalize V 13 = x13 at hA
                subst d3
                subst d6
                obtain rfl := hA
                go_wp2_with fail
                refine (HC.out _).mono ?_
                rintro e w3 ⟨rfl, hb3⟩
                go_wp2
                exact hK.out _ hb3
              apply grow_eq
              · intro V W K A hW hd hA hK
                have d3 : V 3 = _ := hd 3 (by kernel_rfl)
                have d5 : V 5 = _ := hd 5 (by kernel_rfl)
                have d7 : V 7 = _ := hd 7 (by kernel_rfl)
                simp only [putAll, List.getElem?_toArray, List.getElem?_cons_succ, List.getElem?_cons_zero, Option.bind_some, Act.put, List.setIfInBounds_toArray, List.set_cons_succ, List.set_cons_zero] at hA
                clear hd
                generalize V 0 = x0 at hA
                generalize V 1 = x1 at hA
                generalize V 2 = x2 at hA
                generalize V 3 = x3 at d3 hA
                generalize V 4 = x4 at hA
                generalize V 5 = x5 at d5 hA
                generalize V 6 = x6 at hA
                generalize V 7 = x7 at d7 hA
                generalize V 8 = x8 at hA
                generalize V 9 = x9 at hA
                generalize V 10 = x10 at hA
                generalize V 11 = x11 at hA
                generalize V 12 = x12 at hA
                generalize V 13 = x13 at hA
                subst d3
                subst d5
                subst d7
                obtain rfl := hA
                have HWD0 := HWD.out
                go_wp2
                exact hK.out _ (Below.refl _ _)
              apply grow_eq
              · intro V W K A hW hd hA hK
                have d3 : V 3 = _ := hd 3 (by kernel_rfl)
                have d8 : V 8 = _ := hd 8 (by kernel_rfl)
                simp only [putAll, List.getElem?_toArray, List.getElem?_cons_succ, List.getElem?_cons_zero, Option.bind_some, Act.put, List.setIfInBounds_toArray, List.set_cons_succ, List.set_cons_zero] at hA
                clear hd
                generalize V 0 = x0 at hA
                generalize V 1 = x1 at hA
                generalize V 2 = x2 at hA
                generalize V 3 = x3 at d3 hA
                generalize V 4 = x4 at hA
                generalize V 5 = x5 at hA
                generalize V 6 = x6 at hA
                generalize V 7 = x7 at hA
                generalize V 8 = x8 at d8 hA
                generalize V 9 = x9 at hA
                generalize V 10 = x10 at hA
                generalize V 11 = x11 at hA
                generalize V 12 = x12 at hA
                generalize V 13 = x13 at hA
                subst d3
                subst d8
                obtain rfl := hA
                go_wp2
                exact hK.out _ (Below.refl _ _)
              apply grow_eq
              · intro V W K A hW hd hA hK
                have d9 : V 9 = _ := hd 9 (by kernel_rfl)
                simp only [putAll, List.getElem?_toArray, List.getElem?_cons_succ, List.getElem?_cons_zero, Option.bind_some, Act.put, List.setIfInBounds_toArray, List.set_cons_succ, List.set_cons_zero] at hA
                clear hd
                generalize V 0 = x0 at hA
                generalize V 1 = x1 at hA
                generalize V 2 = x2 at hA
                generalize V 3 = x3 at hA
                generalize V 4 = x4 at hA
                generalize V 5 = x5 at hA
                generalize V 6 = x6 at hA
                generalize V 7 = x7 at hA
                generalize V 8 = x8 at hA
                generalize V 9 = x9 at d9 hA
                generalize V 10 = x10 at hA
                generalize V 11 = x11 at hA
                generalize V 12 = x12 at hA
                generalize V 13 = x13 at hA
                subst d9
                obtain rfl := hA
                go_wp2
                exact hK.out _ (Below.refl _ _)
              apply grow_eq
              · intro V W K A hW hd hA hK
                have d9 : V 9 = _ := hd 9 (by kernel_rfl)
                have d10 : V 10 = _ := hd 10 (by kernel_rfl)
                simp only [putAll, List.getElem?_toArray, List.getElem?_cons_succ, List.getElem?_cons_zero, Option.bind_some, Act.put, List.setIfInBounds_toArray, List.set_cons_succ, List.set_cons_zero] at hA
                clear hd
                generalize V 0 = x0 at hA
                generalize V 1 = x1 at hA
                generalize V 2 = x2 at hA
                generalize V 3 = x3 at hA
                generalize V 4 = x4 at hA
                generalize V 5 = x5 at hA
                generalize V 6 = x6 at hA
                generalize V 7 = x7 at hA
                generalize V 8 = x8 at hA
                generalize V 9 = x9 at d9 hA
                generalize V 10 = x10 at d10 hA
                generalize V 11 = x11 at hA
                generalize V 12 = x12 at hA
                generalize V 13 = x13 at hA
                subst d9
                subst d10
                obtain rfl := hA
                have y12 := blk_cell (below_blk hW T0.out (by omega)) 12 rfl
                go_wp2
                exact hK.out _ (Below.refl _ _)
              apply grow_eq
              · intro V W K A hW hd hA hK
                have d9 : V 9 = _ := hd 9 (by kernel_rfl)
                have d11 : V 11 = _ := hd 11 (by kernel_rfl)
                simp only [putAll, List.getElem?_toArray, List.getElem?_cons_succ, List.getElem?_cons_zero, Option.bind_some, Act.put, List.setIfInBounds_toArray, List.set_cons_succ, List.set_cons_zero] at hA
                clear hd
                generalize V 0 = x0 at hA
                generalize V 1 = x1 at hA
                generalize V 2 = x2 at hA
                generalize V 3 = x3 at hA
                generalize V 4 = x4 at hA
                generalize V 5 = x5 at hA
                generalize V 6 = x6 at hA
                generalize V 7 = x7 at hA
                generalize V 8 = x8 at hA
                generalize V 9 = x9 at d9 hA
                generalize V 10 = x10 at hA
                generalize V 11 = x11 at d11 hA
                generalize V 12 = x12 at hA
                generalize V 13 = x13 at hA
                subst d9
                subst d11
                obtain rfl := hA
                have HCL0 : (s.cool != 0) = cl := HCL.out
                go_wp2
                exact hK.out _ (Below.refl _ _)
              apply grow_eq
              · intro V W K A hW hd hA hK
                have d3 : V 3 = _ := hd 3 (by kernel_rfl)
                have d9 : V 9 = _ := hd 9 (by kernel_rfl)
                have d12 : V 12 = _ := hd 12 (by kernel_rfl)
                simp only [putAll, List.getElem?_toArray, List.getElem?_cons_succ, List.getElem?_cons_zero, Option.bind_some, Act.put, List.setIfInBounds_toArray, List.set_cons_succ, List.set_cons_zero] at hA
                clear hd
                generalize V 0 = x0 at hA
                generalize V 1 = x1 at hA
                generalize V 2 = x2 at hA
                generalize V 3 = x3 at d3 hA
                generalize V 4 = x4 at hA
                generalize V 5 = x5 at hA
                generalize V 6 = x6 at hA
                generalize V 7 = x7 at hA
                generalize V 8 = x8 at hA
                generalize V 9 = x9 at d9 hA
                generalize V 10 = x10 at hA
                generalize V 11 = x11 at hA
                generalize V 12 = x12 at d12 hA
                generalize V 13 = x13 at hA
                subst d3
                subst d9
                subst d12
                obtain rfl := hA
                go_wp2
                exact hK.out _ (Below.refl _ _)
              intro V W A hW hS hA
              have d0 : V 0 = _ := hS 0 (by omega)
              have d1 : V 1 = _ := hS 1 (by omega)
              have d2 : V 2 = _ := hS 2 (by omega)
              have d3 : V 3 = _ := hS 3 (by omega)
              have d4 : V 4 = _ := hS 4 (by omega)
              have d5 : V 5 = _ := hS 5 (by omega)
              have d6 : V 6 = _ := hS 6 (by omega)
              have d7 : V 7 = _ := hS 7 (by omega)
              have d8 : V 8 = _ := hS 8 (by omega)
              have d9 : V 9 = _ := hS 9 (by omega)
              have d10 : V 10 = _ := hS 10 (by omega)
              have d11 : V 11 = _ := hS 11 (by omega)
              have d12 : V 12 = _ := hS 12 (by omega)
              have d13 : V 13 = _ := hS 13 (by omega)
              simp only [putAll, List.getElem?_toArray, List.getElem?_cons_succ, List.getElem?_cons_zero, Option.bind_some, Act.put, List.setIfInBounds_toArray, List.set_cons_succ, List.set_cons_zero] at hA
              clear hS
              generalize V 0 = x0 at d0 hA
              generalize V 1 = x1 at d1 hA
              generalize V 2 = x2 at d2 hA
              generalize V 3 = x3 at d3 hA
              generalize V 4 = x4 at d4 hA
              generalize V 5 = x5 at d5 hA
              generalize V 6 = x6 at d6 hA
              generalize V 7 = x7 at d7 hA
              generalize V 8 = x8 at d8 hA
              generalize V 9 = x9 at d9 hA
              generalize V 10 = x10 at d10 hA
              generalize V 11 = x11 at d11 hA
              generalize V 12 = x12 at d12 hA
              generalize V 13 = x13 at d13 hA
              subst d0
              subst d1
              subst d2
              subst d3
              subst d4
              subst d5
              subst d6
              subst d7
              subst d8
              subst d9
              subst d10
              subst d11
              subst d12
              subst d13
              obtain rfl := hA
              simp only [List.drop_succ_cons, List.drop_zero]
              have hbw := hbwa.trans (hW.mono (by omega))
              have Bw : Hid _ := below_blk hW Ba.out (by omega)
              clear hpd
              cases cl
              · go_wp2
                go_roundw
                case rel => exact ⟨k + 1, by omega, by go_num, HNO.out HMS.out, hbw, Bw⟩
                case measure => simp [intOf]; omega
              · go_wp2
                go_ret
                exact ⟨ret_bool (HYES.out HMS.out).symm, hbw⟩
            · have HMS : Hid (missB s = true) := by unfold Hid missB; rw [HD.out, HWD.out, decide_eq_true hp]; simp
              refine wp_region_grows 14 (by kernel_rfl) (by kernel_rfl) ?_
              apply grow_eq
              · intro V W K A hW hd hA hK
                simp only [putAll, List.getElem?_toArray, List.getElem?_cons_succ, List.getElem?_cons_zero, Option.bind_some, Act.put, List.setIfInBounds_toArray, List.set_cons_succ, List.set_cons_zero] at hA
                clear hd
                generalize V 0 = x0 at hA
                generalize V 1 = x1 at hA
                generalize V 2 = x2 at hA
                generalize V 3 = x3 at hA
                generalize V 4 = x4 at hA
                generalize V 5 = x5 at hA
                generalize V 6 = x6 at hA
                generalize V 7 = x7 at hA
                generalize V 8 = x8 at hA
                generalize V 9 = x9 at hA
                generalize V 10 = x10 at hA
                generalize V 11 = x11 at hA
                generalize V 12 = x12 at hA
                generalize V 13 = x13 at hA
                obtain rfl := hA
                go_wp2
                exact hK.out _ (Below.refl _ _)
              apply grow_eq
              · intro V W K A hW hd hA hK
                have d0 : V 0 = _ := hd 0 (by kernel_rfl)
                simp only [putAll, List.getElem?_toArray, List.getElem?_cons_succ, List.getElem?_cons_zero, Option.bind_some, Act.put, List.setIfInBounds_toArray, List.set_cons_succ, List.set_cons_zero] at hA
                clear hd
                generalize V 0 = x0 at d0 hA
                generalize V 1 = x1 at hA
                generalize V 2 = x2 at hA
                generalize V 3 = x3 at hA
                generalize V 4 = x4 at hA
                generalize V 5 = x5 at hA
                generalize V 6 = x6 at hA
                generalize V 7 = x7 at hA
                generalize V 8 = x8 at hA
                generalize V 9 = x9 at hA
                generalize V 10 = x10 at hA
                generalize V 11 = x11 at hA
                generalize V 12 = x12 at hA
                generalize V 13 = x13 at hA
                subst d0
                obtain rfl := hA
                have y8 := blk_cell (below_blk hW T0.out (by omega)) 8 rfl
                go_wp2
                exact hK.out _ (Below.refl _ _)
              apply grow_eq
              · intro V W K A hW hd hA hK
                have d1 : V 1 = _ := hd 1 (by kernel_rfl)
                simp only [putAll, List.getElem?_toArray, List.getElem?_cons_succ, List.getElem?_cons_zero, Option.bind_some, Act.put, List.setIfInBounds_toArray, List.set_cons_succ, List.set_cons_zero] at hA
                clear hd
                generalize V 0 = x0 at hA
                generalize V 1 = x1 at d1 hA
                generalize V 2 = x2 at hA
                generalize V 3 = x3 at hA
                generalize V 4 = x4 at hA
                generalize V 5 = x5 at hA
                generalize V 6 = x6 at hA
                generalize V 7 = x7 at hA
                generalize V 8 = x8 at hA
                generalize V 9 = x9 at hA
                generalize V 10 = x10 at hA
                generalize V 11 = x11 at hA
                generalize V 12 = x12 at hA
                generalize V 13 = x13 at hA
                subst d1
                obtain rfl := hA
                go_wp2
                exact hK.out _ (Below.refl _ _)
              apply grow_eq
              · intro V W K A hW hd hA hK
                have d2 : V 2 = _ := hd 2 (by kernel_rfl)
                simp only [putAll, List.getElem?_toArray, List.getElem?_cons_succ, List.getElem?_cons_zero, Option.bind_some, Act.put, List.setIfInBounds_toArray, List.set_cons_succ, List.set_cons_zero] at hA
                clear hd
                generalize V 0 = x0 at hA
                generalize V 1 = x1 at hA
                generalize V 2 = x2 at d2 hA
                generalize V 3 = x3 at hA
                generalize V 4 = x4 at hA
                generalize V 5 = x5 at hA
                generalize V 6 = x6 at hA
                generalize V 7 = x7 at hA
                generalize V 8 = x8 at hA
                generalize V 9 = x9 at hA
                generalize V 10 = x10 at hA
                generalize V 11 = x11 at hA
                generalize V 12 = x12 at hA
                generalize V 13 = x13 at hA
                subst d2
                obtain rfl := hA
                go_wp2
                exact hK.out _ (Below.refl _ _)
              apply grow_eq
              · intro V W K A hW hd hA hK
                have d3 : V 3 = _ := hd 3 (by kernel_rfl)
                simp only [putAll, List.getElem?_toArray, List.getElem?_cons_succ, List.getElem?_cons_zero, Option.bind_some, Act.put, List.setIfInBounds_toArray, List.set_cons_succ, List.set_cons_zero] at hA
                clear hd
                generalize V 0 = x0 at hA
                generalize V 1 = x1 at hA
                generalize V 2 = x2 at hA
                generalize V 3 = x3 at d3 hA
                generalize V 4 = x4 at hA
                generalize V 5 = x5 at hA
                generalize V 6 = x6 at hA
                generalize V 7 = x7 at hA
                generalize V 8 = x8 at hA
                generalize V 9 = x9 at hA
                generalize V 10 = x10 at hA
                generalize V 11 = x11 at hA
                generalize V 12 = x12 at hA
                generalize V 13 = x13 at hA
                subst d3
                obtain rfl := hA
                go_wp2
                exact hK.out _ (Below.refl _ _)
              apply grow_eq
              · intro V W K A hW hd hA hK
                have d3 : V 3 = _ := hd 3 (by kernel_rfl)
                have d4 : V 4 = _ := hd 4 (by kernel_rfl)
                simp only [putAll, List.getElem?_toArray, List.getElem?_cons_succ, List.getElem?_cons_zero, Option.bind_some, Act.put, List.setIfInBounds_toArray, List.set_cons_succ, List.set_cons_zero] at hA
                clear hd
                generalize V 0 = x0 at hA
                generalize V 1 = x1 at hA
                generalize V 2 = x2 at hA
                generalize V 3 = x3 at d3 hA
                generalize V 4 = x4 at d4 hA
                generalize V 5 = x5 at hA
                generalize V 6 = x6 at hA
                generalize V 7 = x7 at hA
                generalize V 8 = x8 at hA
                generalize V 9 = x9 at hA
                generalize V 10 = x10 at hA
                generalize V 11 = x11 at hA
                generalize V 12 = x12 at hA
                generalize V 13 = x13 at hA
                subst d3
                subst d4
                obtain rfl := hA
                have y4 := blk_cell (below_blk hW T0.out (by omega)) 4 rfl
                go_wp2
                exact hK.out _ (Below.refl _ _)
              apply grow_eq
              · intro V W K A hW hd hA hK
                have d3 : V 3 = _ := hd 3 (by kernel_rfl)
                simp only [putAll, List.getElem?_toArray, List.getElem?_cons_succ, List.getElem?_cons_zero, Option.bind_some, Act.put, List.setIfInBounds_toArray, List.set_cons_succ, List.set_cons_zero] at hA
                clear hd
                generalize V 0 = x0 at hA
                generalize V 1 = x1 at hA
                generalize V 2 = x2 at hA
                generalize V 3 = x3 at d3 hA
                generalize V 4 = x4 at hA
                generalize V 5 = x5 at hA
                generalize V 6 = x6 at hA
                generalize V 7 = x7 at hA
                generalize V 8 = x8 at hA
                generalize V 9 = x9 at hA
                generalize V 10 = x10 at hA
                generalize V 11 = x11 at hA
                generalize V 12 = x12 at hA
                generalize V 13 = x13 at hA
                subst d3
                obtain rfl := hA
                have y0 := blk_cell (below_blk hW T0.out (by omega)) 0 rfl
                have y1 := blk_cell (below_blk hW T0.out (by omega)) 1 rfl
                have y2 := blk_cell (below_blk hW T0.out (by omega)) 2 rfl
                have y3 := blk_cell (below_blk hW T0.out (by omega)) 3 rfl
                have y4 := blk_cell (below_blk hW T0.out (by omega)) 4 rfl
                have y5 := blk_cell (below_blk hW T0.out (by omega)) 5 rfl
                have y6 := blk_cell (below_blk hW T0.out (by omega)) 6 rfl
                have y7 := blk_cell (below_blk hW T0.out (by omega)) 7 rfl
                have y8 := blk_cell (below_blk hW T0.out (by omega)) 8 rfl
                have y9 := blk_cell (below_blk hW T0.out (by omega)) 9 rfl
                have y10 := blk_cell (below_blk hW T0.out (by omega)) 10 rfl
                have y11 := blk_cell (below_blk hW T0.out (by omega)) 11 rfl
                have y12 := blk_cell (below_blk hW T0.out (by omega)) 12 rfl
                go_wp2
                exact hK.out _ (Below.refl _ _)
              apply grow_eq
              · intro V W K A hW hd hA hK
                have d3 : V 3 = _ := hd 3 (by kernel_rfl)
                have d6 : V 6 = _ := hd 6 (by kernel_rfl)
                simp only [putAll, List.getElem?_toArray, List.getElem?_cons_succ, List.getElem?_cons_zero, Option.bind_some, Act.put, List.setIfInBounds_toArray, List.set_cons_succ, List.set_cons_zero] at hA
                clear hd
                generalize V 0 = x0 at hA
                generalize V 1 = x1 at hA
                generalize V 2 = x2 at hA
                generalize V 3 = x3 at d3 hA
                generalize V 4 = x4 at hA
                generalize V 5 = x5 at hA
                generalize V 6 = x6 at d6 hA
                generalize V 7 = x7 at hA
                generalize V 8 = x8 at hA
                generalize V 9 = x9 at hA
                generalize V 10 = x10 at hA
                generalize V 11 = x11 at hA
                generalize V 12 = x12 at hA
                generalize V 13 = x13 at hA
                subst d3
                subst d6
                obtain rfl := hA
                go_wp2_with fail
                refine (HC.out _).mono ?_
                rintro e w3 ⟨rfl, hb3⟩
                go_wp2
                exact hK.out _ hb3
              apply grow_eq
              · intro V W K A hW hd hA hK
                have d3 : V 3 = _ := hd 3 (by kernel_rfl)
                have d5 : V 5 = _ := hd 5 (by kernel_rfl)
                have d7 : V 7 = _ := hd 7 (by kernel_rfl)
                simp only [putAll, List.getElem?_toArray, List.getElem?_cons_succ, List.getElem?_cons_zero, Option.bind_some, Act.put, List.setIfInBounds_toArray, List.set_cons_succ, List.set_cons_zero] at hA
                clear hd
                generalize V 0 = x0 at hA
                generalize V 1 = x1 at hA
                generalize V 2 = x2 at hA
                generalize V 3 = x3 at d3 hA
                generalize V 4 = x4 at hA
                generalize V 5 = x5 at d5 hA
                generalize V 6 = x6 at hA
                generalize V 7 = x7 at d7 hA
                generalize V 8 = x8 at hA
                generalize V 9 = x9 at hA
                generalize V 10 = x10 at hA
                generalize V 11 = x11 at hA
                generalize V 12 = x12 at hA
                generalize V 13 = x13 at hA
                subst d3
                subst d5
                subst d7
                obtain rfl := hA
                have HWD0 := HWD.out
                go_wp2
                exact hK.out _ (Below.refl _ _)
              apply grow_eq
              · intro V W K A hW hd hA hK
                have d3 : V 3 = _ := hd 3 (by kernel_rfl)
                have d8 : V 8 = _ := hd 8 (by kernel_rfl)
                simp only [putAll, List.getElem?_toArray, List.getElem?_cons_succ, List.getElem?_cons_zero, Option.bind_some, Act.put, List.setIfInBounds_toArray, List.set_cons_succ, List.set_cons_zero] at hA
                clear hd
                generalize V 0 = x0 at hA
                generalize V 1 = x1 at hA
                generalize V 2 = x2 at hA
                generalize V 3 = x3 at d3 hA
                generalize V 4 = x4 at hA
                generalize V 5 = x5 at hA
                generalize V 6 = x6 at hA
                generalize V 7 = x7 at hA
                generalize V 8 = x8 at d8 hA
                generalize V 9 = x9 at hA
                generalize V 10 = x10 at hA
                generalize V 11 = x11 at hA
                generalize V 12 = x12 at hA
                generalize V 13 = x13 at hA
                subst d3
                subst d8
                obtain rfl := hA
                go_wp2
                exact hK.out _ (Below.refl _ _)
              apply grow_eq
              · intro V W K A hW hd hA hK
                have d9 : V 9 = _ := hd 9 (by kernel_rfl)
                simp only [putAll, List.getElem?_toArray, List.getElem?_cons_succ, List.getElem?_cons_zero, Option.bind_some, Act.put, List.setIfInBounds_toArray, List.set_cons_succ, List.set_cons_zero] at hA
                clear hd
                generalize V 0 = x0 at hA
                generalize V 1 = x1 at hA
                generalize V 2 = x2 at hA
                generalize V 3 = x3 at hA
                generalize V 4 = x4 at hA
                generalize V 5 = x5 at hA
                generalize V 6 = x6 at hA
                generalize V 7 = x7 at hA
                generalize V 8 = x8 at hA
                generalize V 9 = x9 at d9 hA
                generalize V 10 = x10 at hA
                generalize V 11 = x11 at hA
                generalize V 12 = x12 at hA
                generalize V 13 = x13 at hA
                subst d9
                obtain rfl := hA
                go_wp2
                exact hK.out _ (Below.refl _ _)
              apply grow_eq
              · intro V W K A hW hd hA hK
                have d9 : V 9 = _ := hd 9 (by kernel_rfl)
                simp only [putAll, List.getElem?_toArray, List.getElem?_cons_succ, List.getElem?_cons_zero, Option.bind_some, Act.put, List.setIfInBounds_toArray, List.set_cons_succ, List.set_cons_zero] at hA
                clear hd
                generalize V 0 = x0 at hA
                generalize V 1 = x1 at hA
                generalize V 2 = x2 at hA
                generalize V 3 = x3 at hA
                generalize V 4 = x4 at hA
                generalize V 5 = x5 at hA
                generalize V 6 = x6 at hA
                generalize V 7 = x7 at hA
                generalize V 8 = x8 at hA
                generalize V 9 = x9 at d9 hA
                generalize V 10 = x10 at hA
                generalize V 11 = x11 at hA
                generalize V 12 = x12 at hA
                generalize V 13 = x13 at hA
                subst d9
                obtain rfl := hA
                go_wp2
                exact hK.out _ (Below.refl _ _)
              apply grow_eq
              · intro V W K A hW hd hA hK
                have d9 : V 9 = _ := hd 9 (by kernel_rfl)
                simp only [putAll, List.getElem?_toArray, List.getElem?_cons_succ, List.getElem?_cons_zero, Option.bind_some, Act.put, List.setIfInBounds_toArray, List.set_cons_succ, List.set_cons_zero] at hA
                clear hd
                generalize V 0 = x0 at hA
                generalize V 1 = x1 at hA
                generalize V 2 = x2 at hA
                generalize V 3 = x3 at hA
                generalize V 4 = x4 at hA
                generalize V 5 = x5 at hA
                generalize V 6 = x6 at hA
                generalize V 7 = x7 at hA
                generalize V 8 = x8 at hA
                generalize V 9 = x9 at d9 hA
                generalize V 10 = x10 at hA
                generalize V 11 = x11 at hA
                generalize V 12 = x12 at hA
                generalize V 13 = x13 at hA
                subst d9
                obtain rfl := hA
                go_wp2
                exact hK.out _ (Below.refl _ _)
              apply grow_eq
              · intro V W K A hW hd hA hK
                have d3 : V 3 = _ := hd 3 (by kernel_rfl)
                have d9 : V 9 = _ := hd 9 (by kernel_rfl)
                simp only [putAll, List.getElem?_toArray, List.getElem?_cons_succ, List.getElem?_cons_zero, Option.bind_some, Act.put, List.setIfInBounds_toArray, List.set_cons_succ, List.set_cons_zero] at hA
                clear hd
                generalize V 0 = x0 at hA
                generalize V 1 = x1 at hA
                generalize V 2 = x2 at hA
                generalize V 3 = x3 at d3 hA
                generalize V 4 = x4 at hA
                generalize V 5 = x5 at hA
                generalize V 6 = x6 at hA
                generalize V 7 = x7 at hA
                generalize V 8 = x8 at hA
                generalize V 9 = x9 at d9 hA
                generalize V 10 = x10 at hA
                generalize V 11 = x11 at hA
                generalize V 12 = x12 at hA
                generalize V 13 = x13 at hA
                subst d3
                subst d9
                obtain rfl := hA
                go_wp2
                exact hK.out _ (Below.refl _ _)
              intro V W A hW hS hA
              have d0 : V 0 = _ := hS 0 (by omega)
              have d1 : V 1 = _ := hS 1 (by omega)
              have d2 : V 2 = _ := hS 2 (by omega)
              have d3 : V 3 = _ := hS 3 (by omega)
              have d4 : V 4 = _ := hS 4 (by omega)
              have d5 : V 5 = _ := hS 5 (by omega)
              have d6 : V 6 = _ := hS 6 (by omega)
              have d7 : V 7 = _ := hS 7 (by omega)
              have d8 : V 8 = _ := hS 8 (by omega)
              have d9 : V 9 = _ := hS 9 (by omega)
              have d10 : V 10 = _ := hS 10 (by omega)
              have d11 : V 11 = _ := hS 11 (by omega)
              have d12 : V 12 = _ := hS 12 (by omega)
              have d13 : V 13 = _ := hS 13 (by omega)
              simp only [putAll, List.getElem?_toArray, List.getElem?_cons_succ, List.getElem?_cons_zero, Option.bind_some, Act.put, List.setIfInBounds_toArray, List.set_cons_succ, List.set_cons_zero] at hA
              clear hS
              generalize V 0 = x0 at d0 hA
              generalize V 1 = x1 at d1 hA
              generalize V 2 = x2 at d2 hA
              generalize V 3 = x3 at d3 hA
              generalize V 4 = x4 at d4 hA
              generalize V 5 = x5 at d5 hA
              generalize V 6 = x6 at d6 hA
              generalize V 7 = x7 at d7 hA
              generalize V 8 = x8 at d8 hA
              generalize V 9 = x9 at d9 hA
              generalize V 10 = x10 at d10 hA
              generalize V 11 = x11 at d11 hA
              generalize V 12 = x12 at d12 hA
              generalize V 13 = x13 at d13 hA
              subst d0
              subst d1
              subst d2
              subst d3
              subst d4
              subst d5
              subst d6
              subst d7
              subst d8
              subst d9
              subst d10
              subst d11
              subst d12
              subst d13
              obtain rfl := hA
              simp only [List.drop_succ_cons, List.drop_zero]
              have hbw := hbwa.trans (hW.mono (by omega))
              go_wp2
              go_ret
              exact ⟨ret_bool (HYES.out HMS.out).symm, hbw⟩
          · have HP0 : Hid (s.per = 0) := by
              unfold Hid
              by_cases h : s.per = 0
              · exact h
              · exact absurd (hper h).1 hp
            have HMS : Hid (missB s = false) := by unfold Hid missB; rw [decide_eq_false hp]; simp
            clear hper hp
            refine wp_region_grows 14 (by kernel_rfl) (by kernel_rfl) ?_
            apply grow_eq
            · intro V W K A hW hd hA hK
              simp only [putAll, List.getElem?_toArray, List.getElem?_cons_succ, List.getElem?_cons_zero, Option.bind_some, Act.put, List.setIfInBounds_toArray, List.set_cons_succ, List.set_cons_zero] at hA
              clear hd
              generalize V 0 = x0 at hA
              generalize V 1 = x1 at hA
              generalize V 2 = x2 at hA
              generalize V 3 = x3 at hA
              generalize V 4 = x4 at hA
              generalize V 5 = x5 at hA
              generalize V 6 = x6 at hA
              generalize V 7 = x7 at hA
              generalize V 8 = x8 at hA
              generalize V 9 = x9 at hA
              generalize V 10 = x10 at hA
              generalize V 11 = x11 at hA
              generalize V 12 = x12 at hA
              generalize V 13 = x13 at hA
              obtain rfl := hA
              go_wp2
              exact hK.out _ (Below.refl _ _)
            apply grow_eq
            · intro V W K A hW hd hA hK
              have d0 : V 0 = _ := hd 0 (by kernel_rfl)
              simp only [putAll, List.getElem?_toArray, List.getElem?_cons_succ, List.getElem?_cons_zero, Option.bind_some, Act.put, List.setIfInBounds_toArray, List.set_cons_succ, List.set_cons_zero] at hA
              clear hd
              generalize V 0 = x0 at d0 hA
              generalize V 1 = x1 at hA
              generalize V 2 = x2 at hA
              generalize V 3 = x3 at hA
              generalize V 4 = x4 at hA
              generalize V 5 = x5 at hA
              generalize V 6 = x6 at hA
              generalize V 7 = x7 at hA
              generalize V 8 = x8 at hA
              generalize V 9 = x9 at hA
              generalize V 10 = x10 at hA
              generalize V 11 = x11 at hA
              generalize V 12 = x12 at hA
              generalize V 13 = x13 at hA
              subst d0
              obtain rfl := hA
              have y8 := blk_cell (below_blk hW T0.out (by omega)) 8 rfl
              rw [HP0.out] at y8
              go_wp2
              exact hK.out _ (Below.refl _ _)
            apply grow_eq
            · intro V W K A hW hd hA hK
              have d1 : V 1 = _ := hd 1 (by kernel_rfl)
              simp only [putAll, List.getElem?_toArray, List.getElem?_cons_succ, List.getElem?_cons_zero, Option.bind_some, Act.put, List.setIfInBounds_toArray, List.set_cons_succ, List.set_cons_zero] at hA
              clear hd
              generalize V 0 = x0 at hA
              generalize V 1 = x1 at d1 hA
              generalize V 2 = x2 at hA
              generalize V 3 = x3 at hA
              generalize V 4 = x4 at hA
              generalize V 5 = x5 at hA
              generalize V 6 = x6 at hA
              generalize V 7 = x7 at hA
              generalize V 8 = x8 at hA
              generalize V 9 = x9 at hA
              generalize V 10 = x10 at hA
              generalize V 11 = x11 at hA
              generalize V 12 = x12 at hA
              generalize V 13 = x13 at hA
              subst d1
              obtain rfl := hA
              go_wp2
              exact hK.out _ (Below.refl _ _)
            apply grow_eq
            · intro V W K A hW hd hA hK
              have d2 : V 2 = _ := hd 2 (by kernel_rfl)
              simp only [putAll, List.getElem?_toArray, List.getElem?_cons_succ, List.getElem?_cons_zero, Option.bind_some, Act.put, List.setIfInBounds_toArray, List.set_cons_succ, List.set_cons_zero] at hA
              clear hd
              generalize V 0 = x0 at hA
              generalize V 1 = x1 at hA
              generalize V 2 = x2 at d2 hA
              generalize V 3 = x3 at hA
              generalize V 4 = x4 at hA
              generalize V 5 = x5 at hA
              generalize V 6 = x6 at hA
              generalize V 7 = x7 at hA
              generalize V 8 = x8 at hA
              generalize V 9 = x9 at hA
              generalize V 10 = x10 at hA
              generalize V 11 = x11 at hA
              generalize V 12 = x12 at hA
              generalize V 13 = x13 at hA
              subst d2
              obtain rfl := hA
              go_wp2
              exact hK.out _ (Below.refl _ _)
            apply grow_eq
            · intro V W K A hW hd hA hK
              have d3 : V 3 = _ := hd 3 (by kernel_rfl)
              simp only [putAll, List.getElem?_toArray, List.getElem?_cons_succ, List.getElem?_cons_zero, Option.bind_some, Act.put, List.setIfInBounds_toArray, List.set_cons_succ, List.set_cons_zero] at hA
              clear hd
              generalize V 0 = x0 at hA
              generalize V 1 = x1 at hA
              generalize V 2 = x2 at hA
              generalize V 3 = x3 at d3 hA
              generalize V 4 = x4 at hA
              generalize V 5 = x5 at hA
              generalize V 6 = x6 at hA
              generalize V 7 = x7 at hA
              generalize V 8 = x8 at hA
              generalize V 9 = x9 at hA
              generalize V 10 = x10 at hA
              generalize V 11 = x11 at hA
              generalize V 12 = x12 at hA
              generalize V 13 = x13 at hA
              subst d3
              obtain rfl := hA
              go_wp2
              exact hK.out _ (Below.refl _ _)
            apply grow_eq
            · intro V W K A hW hd hA hK
              have d3 : V 3 = _ := hd 3 (by kernel_rfl)
              simp only [putAll, List.getElem?_toArray, List.getElem?_cons_succ, List.getElem?_cons_zero, Option.bind_some, Act.put, List.setIfInBounds_toArray, List.set_cons_succ, List.set_cons_zero] at hA
              clear hd
              generalize V 0 = x0 at hA
              generalize V 1 = x1 at hA
              generalize V 2 = x2 at hA
              generalize V 3 = x3 at d3 hA
              generalize V 4 = x4 at hA
              generalize V 5 = x5 at hA
              generalize V 6 = x6 at hA
              generalize V 7 = x7 at hA
              generalize V 8 = x8 at hA
              generalize V 9 = x9 at hA
              generalize V 10 = x10 at hA
              generalize V 11 = x11 at hA
              generalize V 12 = x12 at hA
              generalize V 13 = x13 at hA
              subst d3
              obtain rfl := hA
              go_wp2
              exact hK.out _ (Below.refl _ _)
            apply grow_eq
            · intro V W K A hW hd hA hK
              have d3 : V 3 = _ := hd 3 (by kernel_rfl)
              simp only [putAll, List.getElem?_toArray, List.getElem?_cons_succ, List.getElem?_cons_zero, Option.bind_some, Act.put, List.setIfInBounds_toArray, List.set_cons_succ, List.set_cons_zero] at hA
              clear hd
              generalize V 0 = x0 at hA
              generalize V 1 = x1 at hA
              generalize V 2 = x2 at hA
              generalize V 3 = x3 at d3 hA
              generalize V 4 = x4 at hA
              generalize V 5 = x5 at hA
              generalize V 6 = x6 at hA
              generalize V 7 = x7 at hA
              generalize V 8 = x8 at hA
              generalize V 9 = x9 at hA
              generalize V 10 = x10 at hA
              generalize V 11 = x11 at hA
              generalize V 12 = x12 at hA
              generalize V 13 = x13 at hA
              subst d3
              obtain rfl := hA
              go_wp2
              exact hK.out _ (Below.refl _ _)
            apply grow_eq
            · intro V W K A hW hd hA hK
              have d3 : V 3 = _ := hd 3 (by kernel_rfl)
              simp only [putAll, List.getElem?_toArray, List.getElem?_cons_succ, List.getElem?_cons_zero, Option.bind_some, Act.put, List.setIfInBounds_toArray, List.set_cons_succ, List.set_cons_zero] at hA
              clear hd
              generalize V 0 = x0 at hA
              generalize V 1 = x1 at hA
              generalize V 2 = x2 at hA
              generalize V 3 = x3 at d3 hA
              generalize V 4 = x4 at hA
              generalize V 5 = x5 at hA
              generalize V 6 = x6 at hA
              generalize V 7 = x7 at hA
              generalize V 8 = x8 at hA
              generalize V 9 = x9 at hA
              generalize V 10 = x10 at hA
              generalize V 11 = x11 at hA
              generalize V 12 = x12 at hA
              generalize V 13 = x13 at hA
              subst d3
              obtain rfl := hA
              go_wp2
              exact hK.out _ (Below.refl _ _)
            apply grow_eq
            · intro V W K A hW hd hA hK
              have d3 : V 3 = _ := hd 3 (by kernel_rfl)
              simp only [putAll, List.getElem?_toArray, List.getElem?_cons_succ, List.getElem?_cons_zero, Option.bind_some, Act.put, List.setIfInBounds_toArray, List.set_cons_succ, List.set_cons_zero] at hA
              clear hd
              generalize V 0 = x0 at hA
              generalize V 1 = x1 at hA
              generalize V 2 = x2 at hA
              generalize V 3 = x3 at d3 hA
              generalize V 4 = x4 at hA
              generalize V 5 = x5 at hA
              generalize V 6 = x6 at hA
              generalize V 7 = x7 at hA
              generalize V 8 = x8 at hA
              generalize V 9 = x9 at hA
              generalize V 10 = x10 at hA
              generalize V 11 = x11 at hA
              generalize V 12 = x12 at hA
              generalize V 13 = x13 at hA
              subst d3
              obtain rfl := hA
              go_wp2
              exact hK.out _ (Below.refl _ _)
            apply grow_eq
            · intro V W K A hW hd hA hK
              have d3 : V 3 = _ := hd 3 (by kernel_rfl)
              simp only [putAll, List.getElem?_toArray, List.getElem?_cons_succ, List.getElem?_cons_zero, Option.bind_some, Act.put, List.setIfInBounds_toArray, List.set_cons_succ, List.set_cons_zero] at hA
              clear hd
              generalize V 0 = x0 at hA
              generalize V 1 = x1 at hA
              generalize V 2 = x2 at hA
              generalize V 3 = x3 at d3 hA
              generalize V 4 = x4 at hA
              generalize V 5 = x5 at hA
              generalize V 6 = x6 at hA
              generalize V 7 = x7 at hA
              generalize V 8 = x8 at hA
              generalize V 9 = x9 at hA
              generalize V 10 = x10 at hA
              generalize V 11 = x11 at hA
              generalize V 12 = x12 at hA
              generalize V 13 = x13 at hA
              subst d3
              obtain rfl := hA
              go_wp2
              exact hK.out _ (Below.refl _ _)
            apply grow_eq
            · intro V W K A hW hd hA hK
              have d9 : V 9 = _ := hd 9 (by kernel_rfl)
              simp only [putAll, List.getElem?_toArray, List.getElem?_cons_succ, List.getElem?_cons_zero, Option.bind_some, Act.put, List.setIfInBounds_toArray, List.set_cons_succ, List.set_cons_zero] at hA
              clear hd
              generalize V 0 = x0 at hA
              generalize V 1 = x1 at hA
              generalize V 2 = x2 at hA
              generalize V 3 = x3 at hA
              generalize V 4 = x4 at hA
              generalize V 5 = x5 at hA
              generalize V 6 = x6 at hA
              generalize V 7 = x7 at hA
              generalize V 8 = x8 at hA
              generalize V 9 = x9 at d9 hA
              generalize V 10 = x10 at hA
              generalize V 11 = x11 at hA
              generalize V 12 = x12 at hA
              generalize V 13 = x13 at hA
              subst d9
              obtain rfl := hA
              go_wp2
              exact hK.out _ (Below.refl _ _)
            apply grow_eq
            · intro V W K A hW hd hA hK
              have d9 : V 9 = _ := hd 9 (by kernel_rfl)
              simp only [putAll, List.getElem?_toArray, List.getElem?_cons_succ, List.getElem?_cons_zero, Option.bind_some, Act.put, List.setIfInBounds_toArray, List.set_cons_succ, List.set_cons_zero] at hA
              clear hd
              generalize V 0 = x0 at hA
              generalize V 1 = x1 at hA
              generalize V 2 = x2 at hA
              generalize V 3 = x3 at hA
              generalize V 4 = x4 at hA
              generalize V 5 = x5 at hA
              generalize V 6 = x6 at hA
              generalize V 7 = x7 at hA
              generalize V 8 = x8 at hA
              generalize V 9 = x9 at d9 hA
              generalize V 10 = x10 at hA
              generalize V 11 = x11 at hA
              generalize V 12 = x12 at hA
              generalize V 13 = x13 at hA
              subst d9
              obtain rfl := hA
              go_wp2
              exact hK.out _ (Below.refl _ _)
            apply grow_eq
            · intro V W K A hW hd hA hK
              have d9 : V 9 = _ := hd 9 (by kernel_rfl)
              simp only [putAll, List.getElem?_toArray, List.getElem?_cons_succ, List.getElem?_cons_zero, Option.bind_some, Act.put, List.setIfInBounds_toArray, List.set_cons_succ, List.set_cons_zero] at hA
              clear hd
              generalize V 0 = x0 at hA
              generalize V 1 = x1 at hA
              generalize V 2 = x2 at hA
              generalize V 3 = x3 at hA
              generalize V 4 = x4 at hA
              generalize V 5 = x5 at hA
              generalize V 6 = x6 at hA
              generalize V 7 = x7 at hA
              generalize V 8 = x8 at hA
              generalize V 9 = x9 at d9 hA
              generalize V 10 = x10 at hA
              generalize V 11 = x11 at hA
              generalize V 12 = x12 at hA
              generalize V 13 = x13 at hA
              subst d9
              obtain rfl := hA
              go_wp2
              exact hK.out _ (Below.refl _ _)
            apply grow_eq
            · intro V W K A hW hd hA hK
              have d3 : V 3 = _ := hd 3 (by kernel_rfl)
              simp only [putAll, List.getElem?_toArray, List.getElem?_cons_succ, List.getElem?_cons_zero, Option.bind_some, Act.put, List.setIfInBounds_toArray, List.set_cons_succ, List.set_cons_zero] at hA
              clear hd
              generalize V 0 = x0 at hA
              generalize V 1 = x1 at hA
              generalize V 2 = x2 at hA
              generalize V 3 = x3 at d3 hA
              generalize V 4 = x4 at hA
              generalize V 5 = x5 at hA
              generalize V 6 = x6 at hA
              generalize V 7 = x7 at hA
              generalize V 8 = x8 at hA
              generalize V 9 = x9 at hA
              generalize V 10 = x10 at hA
              generalize V 11 = x11 at hA
              generalize V 12 = x12 at hA
              generalize V 13 = x13 at hA
              subst d3
              obtain rfl := hA
              go_wp2
              exact hK.out _ (Below.refl _ _)
            intro V W A hW hS hA
            have d0 : V 0 = _ := hS 0 (by omega)
            have d1 : V 1 = _ := hS 1 (by omega)
            have d2 : V 2 = _ := hS 2 (by omega)
            have d3 : V 3 = _ := hS 3 (by omega)
            have d4 : V 4 = _ := hS 4 (by omega)
            have d5 : V 5 = _ := hS 5 (by omega)
            have d6 : V 6 = _ := hS 6 (by omega)
            have d7 : V 7 = _ := hS 7 (by omega)
            have d8 : V 8 = _ := hS 8 (by omega)
            have d9 : V 9 = _ := hS 9 (by omega)
            have d10 : V 10 = _ := hS 10 (by omega)
            have d11 : V 11 = _ := hS 11 (by omega)
            have d12 : V 12 = _ := hS 12 (by omega)
            have d13 : V 13 = _ := hS 13 (by omega)
            simp only [putAll, List.getElem?_toArray, List.getElem?_cons_succ, List.getElem?_cons_zero, Option.bind_some, Act.put, List.setIfInBounds_toArray, List.set_cons_succ, List.set_cons_zero] at hA
            clear hS
            generalize V 0 = x0 at d0 hA
            generalize V 1 = x1 at d1 hA
            generalize V 2 = x2 at d2 hA
            generalize V 3 = x3 at d3 hA
            generalize V 4 = x4 at d4 hA
            generalize V 5 = x5 at d5 hA
            generalize V 6 = x6 at d6 hA
            generalize V 7 = x7 at d7 hA
            generalize V 8 = x8 at d8 hA
            generalize V 9 = x9 at d9 hA
            generalize V 10 = x10 at d10 hA
            generalize V 11 = x11 at d11 hA
            generalize V 12 = x12 at d12 hA
            generalize V 13 = x13 at d13 hA
            subst d0
            subst d1
            subst d2
            subst d3
            subst d4
            subst d5
            subst d6
            subst d7
            subst d8
            subst d9
            subst d10
            subst d11
            subst d12
            subst d13
            obtain rfl := hA
            simp only [List.drop_succ_cons, List.drop_zero]
            have hbw := hbwa.trans (hW.mono (by omega))
            have Bw : Hid _ := below_blk hW Ba.out (by omega)
            go_wp2
            go_roundw
            case rel => exact ⟨k + 1, by omega, by go_num, HNO.out HMS.out, hbw, Bw⟩
            case measure => simp [intOf]; omega
        · have HT : Hid (dn = true) := by
            unfold Hid
            rw [← HDN.out, HDM.out]
            refine List.all_eq_true.2 fun s hs => ?_
            obtain ⟨i, hi⟩ := List.getElem?_of_mem hs
            rw [HM.out i s (by have := (List.getElem?_eq_some_iff.1 hi).1; omega) hi]
            rfl
          go_wp2
          go_ret
          exact ⟨ret_bool HT.out.symm, hb⟩

end Go.Proofs.Ytbceafpodamnfab
