/-
  My own: Io.
-/
import Derived.Test.YtbceafpodamnfabGreatG14
import Derived.Test.YtbceafpodamnfabGreatG16
set_option linter.unusedVariables false
set_option linter.unusedSimpArgs false
namespace Go.Proofs.YtbceafpodamnfabGreat
open Go.RowKit Go.Sort Go.Maps
set_option maxRecDepth 100000 in
set_option maxHeartbeats 16000000 in
theorem strike_any (B : Bk) (nm : ByteArray) (num : Int) (N A : Nat) (a1 a2 a3 : Option Addr) (k1 k2 k3 : Nat) (w : World) (hF : Fit B) (hwc : wfC B) (huc : uniqC B) (hwf : (Lit.int .i64 num).wf = true) (hnm : nm.size ≤ maxLen) (hN : N ≤ w.heap.size) (hV : BkVar w N A B a1 a2 a3 k1 k2 k3) :
  Calls Tryz.prog 129 #[.agg #[.pointer (some ⟨A, 0, none⟩), .string nm, .int .i64 num]] w fun e w' => e = .returned (.int .i64 (failB B nm num B.now).2) ∧ ((failB B nm num B.now).2 = 0 → ∃ b1 b2 b3 d1 d2 d3, BkVar w' N A (failB B nm num B.now).1 b1 b2 b3 d1 d2 d3) ∧ Below N w w' := by
 obtain ⟨fr, HFR⟩ : ∃ fr, Hid (failB B nm num B.now = fr) := ⟨_, rfl⟩
 rw [HFR.out]
 have hAl := (Array.getElem?_eq_some_iff.1 hV.box).1
 obtain ⟨W0, hW0⟩ : ∃ W, w.alloc (.cells #[.pointer (some ⟨A, 0, none⟩), .string nm, .int .i64 num] 169) = W := ⟨_, rfl⟩
 have hb0 := below_box w (.cells #[.pointer (some ⟨A, 0, none⟩), .string nm, .int .i64 num] 169)
 have E0 : Hid (W0.heap[w.heap.size]? = some (.cells #[.pointer (some ⟨A, 0, none⟩), .string nm, .int .i64 num] 169 (0, 0))) := by unfold Hid; rw [← hW0]; exact heap_alloc_new w (.cells #[.pointer (some ⟨A, 0, none⟩), .string nm, .int .i64 num] 169)
 rw [hW0] at hb0
 have hz0 := (Array.getElem?_eq_some_iff.1 E0.out).1
 have V0 := hidBkVar (hV.below hb0)
 skip
 have A0 : Hid (W0.heap[A]? = some (.cells #[.int .i64 B.now, .slice a1 B.svcs.length k1, .slice a2 B.cps.length k2, .slice a3 B.bts.length k3] 34 (0, 0))) := V0.out.box
 have hA0 : A < W0.heap.size := (Array.getElem?_eq_some_iff.1 A0.out).1
 clear hV
 cases hat : atIdx (isC nm num) B.cps with
 | none =>
  have HL : Hid (fr = (B, 3)) := by unfold Hid; rw [← HFR.out]; unfold failB; rw [hat]
  have HPH : Hid (∀ D : DataW Unit, (∀ (x : ByteArray) (m : Int), x.size ≤ maxLen → (Lit.int .i64 m).wf = true → (∀ (i : Nat) c, i < B.cps.length → B.cps[i]? = some c → ¬ (c.service = x ∧ c.number = m)) → Maps.has D (nkey x m) = false) → (∀ (i : Nat) c, i < B.cps.length → B.cps[i]? = some c → Maps.has D (nkey c.service c.number) = true ∧ D.atKey (nkey c.service c.number) (.lit (.int .i64 0)) = .lit (.int .i64 i)) →  Maps.has D (nkey nm num) = false) := fun D p1 p2 => p1 nm num hnm hwf fun i c _ hc e => atIdx_no hat c (List.mem_of_getElem? hc) (isC_iff.2 e)
  have HPA : Hid (∀ D : DataW Unit, (∀ (x : ByteArray) (m : Int), x.size ≤ maxLen → (Lit.int .i64 m).wf = true → (∀ (i : Nat) c, i < B.cps.length → B.cps[i]? = some c → ¬ (c.service = x ∧ c.number = m)) → Maps.has D (nkey x m) = false) → (∀ (i : Nat) c, i < B.cps.length → B.cps[i]? = some c → Maps.has D (nkey c.service c.number) = true ∧ D.atKey (nkey c.service c.number) (.lit (.int .i64 0)) = .lit (.int .i64 i)) →  D.atKey (nkey nm num) (.lit (.int .i64 0)) = .lit (.int .i64 0)) := fun D p1 p2 => atKey_of_not_has (HPH.out D p1 p2) _
  clear hat
  go_enter Tryz.func129, Tryz.ntmps129
  go_upto_region 1 with fail
  clear hW0
  refine wp_region_grows 13 (by kernel_rfl) (by kernel_rfl) ?_
  apply grow_eq
  ·intro V W K A hW hd hA hK
   simp only [putAll, List.getElem?_toArray, List.getElem?_cons_succ, List.getElem?_cons_zero, Option.bind_some, Act.put, List.setIfInBounds_toArray, List.set_cons_succ, List.set_cons_zero] at hA
   clear hd
   generalize V 0 = x0 at hA
   generalize V 1 = x1 at hA
   generalize V 2 = x2 at hA
   generalize V 3 = x3 at hA
   generalize V 4 = x4 at hA
   generalize V 5 = x5 at hA
   generalize V 6 = x6 at hA
   generalize V 7 = x7 at hA
   generalize V 8 = x8 at hA
   generalize V 9 = x9 at hA
   generalize V 10 = x10 at hA
   generalize V 11 = x11 at hA
   generalize V 12 = x12 at hA
   obtain rfl := hA
   go_wp2
   exact hK.out _ (Below.refl _ _)
  apply grow_eq
  ·intro V W K A hW hd hA hK
   have d0 : V 0 = _ := hd 0 (by kernel_rfl)
   simp only [putAll, List.getElem?_toArray, List.getElem?_cons_succ, List.getElem?_cons_zero, Option.bind_some, Act.put, List.setIfInBounds_toArray, List.set_cons_succ, List.set_cons_zero] at hA
   clear hd
   generalize V 0 = x0 at d0 hA
   generalize V 1 = x1 at hA
   generalize V 2 = x2 at hA
   generalize V 3 = x3 at hA
   generalize V 4 = x4 at hA
   generalize V 5 = x5 at hA
   generalize V 6 = x6 at hA
   generalize V 7 = x7 at hA
   generalize V 8 = x8 at hA
   generalize V 9 = x9 at hA
   generalize V 10 = x10 at hA
   generalize V 11 = x11 at hA
   generalize V 12 = x12 at hA
   subst d0
   obtain rfl := hA
   go_wp2
   exact hK.out _ (Below.refl _ _)
  apply grow_eq
  ·intro V W K A hW hd hA hK
   have d1 : V 1 = _ := hd 1 (by kernel_rfl)
   simp only [putAll, List.getElem?_toArray, List.getElem?_cons_succ, List.getElem?_cons_zero, Option.bind_some, Act.put, List.setIfInBounds_toArray, List.set_cons_succ, List.set_cons_zero] at hA
   clear hd
   generalize V 0 = x0 at hA
   generalize V 1 = x1 at d1 hA
   generalize V 2 = x2 at hA
   generalize V 3 = x3 at hA
   generalize V 4 = x4 at hA
   generalize V 5 = x5 at hA
   generalize V 6 = x6 at hA
   generalize V 7 = x7 at hA
   generalize V 8 = x8 at hA
   generalize V 9 = x9 at hA
   generalize V 10 = x10 at hA
   generalize V 11 = x11 at hA
   generalize V 12 = x12 at hA
   subst d1
   obtain rfl := hA
   have q0 := blk_cell (below_blk hW E0.out hz0) 0 rfl
   go_wp2
   exact hK.out _ (Below.refl _ _)
  apply grow_eq
  ·intro V W K A hW hd hA hK
   have d2 : V 2 = _ := hd 2 (by kernel_rfl)
   simp only [putAll, List.getElem?_toArray, List.getElem?_cons_succ, List.getElem?_cons_zero, Option.bind_some, Act.put, List.setIfInBounds_toArray, List.set_cons_succ, List.set_cons_zero] at hA
   clear hd
   generalize V 0 = x0 at hA
   generalize V 1 = x1 at hA
   generalize V 2 = x2 at d2 hA
   generalize V 3 = x3 at hA
   generalize V 4 = x4 at hA
   generalize V 5 = x5 at hA
   generalize V 6 = x6 at hA
   generalize V 7 = x7 at hA
   generalize V 8 = x8 at hA
   generalize V 9 = x9 at hA
   generalize V 10 = x10 at hA
   generalize V 11 = x11 at hA
   generalize V 12 = x12 at hA
   subst d2
   obtain rfl := hA
   go_wp2
   exact hK.out _ (Below.refl _ _)
  apply grow_eq
  ·intro V W K A hW hd hA hK
   have d3 : V 3 = _ := hd 3 (by kernel_rfl)
   simp only [putAll, List.getElem?_toArray, List.getElem?_cons_succ, List.getElem?_cons_zero, Option.bind_some, Act.put, List.setIfInBounds_toArray, List.set_cons_succ, List.set_cons_zero] at hA
   clear hd
   generalize V 0 = x0 at hA
   generalize V 1 = x1 at hA
   generalize V 2 = x2 at hA
   generalize V 3 = x3 at d3 hA
   generalize V 4 = x4 at hA
   generalize V 5 = x5 at hA
   generalize V 6 = x6 at hA
   generalize V 7 = x7 at hA
   generalize V 8 = x8 at hA
   generalize V 9 = x9 at hA
   generalize V 10 = x10 at hA
   generalize V 11 = x11 at hA
   generalize V 12 = x12 at hA
   subst d3
   obtain rfl := hA
   refine wpList_load_row rfl 34 (.tmp 10) rfl A rfl 34 #[.int .i64 B.now, .slice a1 B.svcs.length k1, .slice a2 B.cps.length k2, .slice a3 B.bts.length k3] (0, 0) _ (below_blk hW A0.out hA0) Tryz.underlying34 rfl Tryz.infosBkX ?_
   go_wp2
   exact hK.out _ (Below.refl _ _)
  refine grow_op (fun vv W => ∃ b, vv = .map (some b) ∧ CopiesAt W b B B.cps.length) (fun v W W2 ⟨b, h1, h2⟩ hb => ⟨b, h1, h2.blk (hb.block b h2.lt)⟩) ?_ ?_
  ·intro V W K A hW hd hA hK
   have d4 : V 4 = _ := hd 4 (by kernel_rfl)
   simp only [putAll, List.getElem?_toArray, List.getElem?_cons_succ, List.getElem?_cons_zero, Option.bind_some, Act.put, List.setIfInBounds_toArray, List.set_cons_succ, List.set_cons_zero] at hA
   clear hd
   generalize V 0 = x0 at hA
   generalize V 1 = x1 at hA
   generalize V 2 = x2 at hA
   generalize V 3 = x3 at hA
   generalize V 4 = x4 at d4 hA
   generalize V 5 = x5 at hA
   generalize V 6 = x6 at hA
   generalize V 7 = x7 at hA
   generalize V 8 = x8 at hA
   generalize V 9 = x9 at hA
   generalize V 10 = x10 at hA
   generalize V 11 = x11 at hA
   generalize V 12 = x12 at hA
   subst d4
   obtain rfl := hA
   go_wp2_with fail
   refine (copyPlaces_any B a1 a2 a3 k1 k2 k3 W hF.small hF.sized hwc huc (V0.out.rows.at.below hW)).mono ?_
   rintro e w2 ⟨rfl, hpl, hbq⟩
   have HPL : Hid (CopiesAt w2 (W.heap.size + 1) B B.cps.length) := hpl
   clear hpl
   go_wp2
   exact hK.out _ _ hbq ⟨_, rfl, HPL.out⟩
  apply grow_eq
  ·intro V W K A hW hd hA hK
   simp only [putAll, List.getElem?_toArray, List.getElem?_cons_succ, List.getElem?_cons_zero, Option.bind_some, Act.put, List.setIfInBounds_toArray, List.set_cons_succ, List.set_cons_zero] at hA
   clear hd
   generalize V 0 = x0 at hA
   generalize V 1 = x1 at hA
   generalize V 2 = x2 at hA
   generalize V 3 = x3 at hA
   generalize V 4 = x4 at hA
   generalize V 5 = x5 at hA
   generalize V 6 = x6 at hA
   generalize V 7 = x7 at hA
   generalize V 8 = x8 at hA
   generalize V 9 = x9 at hA
   generalize V 10 = x10 at hA
   generalize V 11 = x11 at hA
   generalize V 12 = x12 at hA
   obtain rfl := hA
   go_wp2
   exact hK.out _ (Below.refl _ _)
  apply grow_eq
  ·intro V W K A hW hd hA hK
   have d6 : V 6 = _ := hd 6 (by kernel_rfl)
   simp only [putAll, List.getElem?_toArray, List.getElem?_cons_succ, List.getElem?_cons_zero, Option.bind_some, Act.put, List.setIfInBounds_toArray, List.set_cons_succ, List.set_cons_zero] at hA
   clear hd
   generalize V 0 = x0 at hA
   generalize V 1 = x1 at hA
   generalize V 2 = x2 at hA
   generalize V 3 = x3 at hA
   generalize V 4 = x4 at hA
   generalize V 5 = x5 at hA
   generalize V 6 = x6 at d6 hA
   generalize V 7 = x7 at hA
   generalize V 8 = x8 at hA
   generalize V 9 = x9 at hA
   generalize V 10 = x10 at hA
   generalize V 11 = x11 at hA
   generalize V 12 = x12 at hA
   subst d6
   obtain rfl := hA
   have q1 := blk_cell (below_blk hW E0.out hz0) 1 rfl
   have q2 := blk_cell (below_blk hW E0.out hz0) 2 rfl
   go_wp2
   exact hK.out _ (Below.refl _ _)
  apply grow_eq
  ·intro V W K A hW hd hA hK
   have d5 : (fun vv W => ∃ b, vv = .map (some b) ∧ CopiesAt W b B B.cps.length) (V 5) W := hd 5 (by kernel_rfl)
   have d7 : V 7 = _ := hd 7 (by kernel_rfl)
   simp only [putAll, List.getElem?_toArray, List.getElem?_cons_succ, List.getElem?_cons_zero, Option.bind_some, Act.put, List.setIfInBounds_toArray, List.set_cons_succ, List.set_cons_zero] at hA
   clear hd
   generalize V 0 = x0 at hA
   generalize V 1 = x1 at hA
   generalize V 2 = x2 at hA
   generalize V 3 = x3 at hA
   generalize V 4 = x4 at hA
   generalize V 5 = x5 at d5 hA
   generalize V 6 = x6 at hA
   generalize V 7 = x7 at d7 hA
   generalize V 8 = x8 at hA
   generalize V 9 = x9 at hA
   generalize V 10 = x10 at hA
   generalize V 11 = x11 at hA
   generalize V 12 = x12 at hA
   subst d7
   obtain rfl := hA
   obtain ⟨b, rfl, n, D, hn, hown, p1, p2⟩ := d5
   have HH : Hid (Maps.has D (nkey nm num) = false) := HPH.out D p1 p2
   have HAK : Hid (D.atKey (nkey nm num) (.lit (.int .i64 0)) = .lit (.int .i64 0)) := HPA.out D p1 p2
   clear p1 p2
   go_wp2_with (at_lookup; refine wpList_lookup_is _ rfl (.tmp 12) (.tmp 14) 191 rfl 167 3 .i64 numLaw Tryz.underlying191 Tryz.underlying3 (zeroInt _) b n D rfl hown _ _ rfl (nkey_ok nm num hwf hnm) 0 false HAK.out HH.out ?_)
   exact hK.out _ (Below.refl _ _)
  apply grow_eq
  ·intro V W K A hW hd hA hK
   have d8 : V 8 = _ := hd 8 (by kernel_rfl)
   simp only [putAll, List.getElem?_toArray, List.getElem?_cons_succ, List.getElem?_cons_zero, Option.bind_some, Act.put, List.setIfInBounds_toArray, List.set_cons_succ, List.set_cons_zero] at hA
   clear hd
   generalize V 0 = x0 at hA
   generalize V 1 = x1 at hA
   generalize V 2 = x2 at hA
   generalize V 3 = x3 at hA
   generalize V 4 = x4 at hA
   generalize V 5 = x5 at hA
   generalize V 6 = x6 at hA
   generalize V 7 = x7 at hA
   generalize V 8 = x8 at d8 hA
   generalize V 9 = x9 at hA
   generalize V 10 = x10 at hA
   generalize V 11 = x11 at hA
   generalize V 12 = x12 at hA
   subst d8
   obtain rfl := hA
   go_wp2
   exact hK.out _ (Below.refl _ _)
  apply grow_eq
  ·intro V W K A hW hd hA hK
   have d9 : V 9 = _ := hd 9 (by kernel_rfl)
   simp only [putAll, List.getElem?_toArray, List.getElem?_cons_succ, List.getElem?_cons_zero, Option.bind_some, Act.put, List.setIfInBounds_toArray, List.set_cons_succ, List.set_cons_zero] at hA
   clear hd
   generalize V 0 = x0 at hA
   generalize V 1 = x1 at hA
   generalize V 2 = x2 at hA
   generalize V 3 = x3 at hA
   generalize V 4 = x4 at hA
   generalize V 5 = x5 at hA
   generalize V 6 = x6 at hA
   generalize V 7 = x7 at hA
   generalize V 8 = x8 at hA
   generalize V 9 = x9 at d9 hA
   generalize V 10 = x10 at hA
   generalize V 11 = x11 at hA
   generalize V 12 = x12 at hA
   subst d9
   obtain rfl := hA
   go_wp2
   exact hK.out _ (Below.refl _ _)
  apply grow_eq
  ·intro V W K A hW hd hA hK
   have d9 : V 9 = _ := hd 9 (by kernel_rfl)
   simp only [putAll, List.getElem?_toArray, List.getElem?_cons_succ, List.getElem?_cons_zero, Option.bind_some, Act.put, List.setIfInBounds_toArray, List.set_cons_succ, List.set_cons_zero] at hA
   clear hd
   generalize V 0 = x0 at hA
   generalize V 1 = x1 at hA
   generalize V 2 = x2 at hA
   generalize V 3 = x3 at hA
   generalize V 4 = x4 at hA
   generalize V 5 = x5 at hA
   generalize V 6 = x6 at hA
   generalize V 7 = x7 at hA
   generalize V 8 = x8 at hA
   generalize V 9 = x9 at d9 hA
   generalize V 10 = x10 at hA
   generalize V 11 = x11 at hA
   generalize V 12 = x12 at hA
   subst d9
   obtain rfl := hA
   go_wp2
   exact hK.out _ (Below.refl _ _)
  apply grow_eq
  ·intro V W K A hW hd hA hK
   have d10 : V 10 = _ := hd 10 (by kernel_rfl)
   simp only [putAll, List.getElem?_toArray, List.getElem?_cons_succ, List.getElem?_cons_zero, Option.bind_some, Act.put, List.setIfInBounds_toArray, List.set_cons_succ, List.set_cons_zero] at hA
   clear hd
   generalize V 0 = x0 at hA
   generalize V 1 = x1 at hA
   generalize V 2 = x2 at hA
   generalize V 3 = x3 at hA
   generalize V 4 = x4 at hA
   generalize V 5 = x5 at hA
   generalize V 6 = x6 at hA
   generalize V 7 = x7 at hA
   generalize V 8 = x8 at hA
   generalize V 9 = x9 at hA
   generalize V 10 = x10 at d10 hA
   generalize V 11 = x11 at hA
   generalize V 12 = x12 at hA
   subst d10
   obtain rfl := hA
   go_wp2
   exact hK.out _ (Below.refl _ _)
  intro V W A hW hS hA
  have d0 : V 0 = _ := hS 0 (by omega)
  have d1 : V 1 = _ := hS 1 (by omega)
  have d2 : V 2 = _ := hS 2 (by omega)
  have d3 : V 3 = _ := hS 3 (by omega)
  have d4 : V 4 = _ := hS 4 (by omega)
  have d5 : (fun vv W => ∃ b, vv = .map (some b) ∧ CopiesAt W b B B.cps.length) (V 5) W := hS 5 (by omega)
  have d6 : V 6 = _ := hS 6 (by omega)
  have d7 : V 7 = _ := hS 7 (by omega)
  have d8 : V 8 = _ := hS 8 (by omega)
  have d9 : V 9 = _ := hS 9 (by omega)
  have d10 : V 10 = _ := hS 10 (by omega)
  have d11 : V 11 = _ := hS 11 (by omega)
  have d12 : V 12 = _ := hS 12 (by omega)
  simp only [putAll, List.getElem?_toArray, List.getElem?_cons_succ, List.getElem?_cons_zero, Option.bind_some, Act.put, List.setIfInBounds_toArray, List.set_cons_succ, List.set_cons_zero] at hA
  clear hS
  generalize V 0 = x0 at d0 hA
  generalize V 1 = x1 at d1 hA
  generalize V 2 = x2 at d2 hA
  generalize V 3 = x3 at d3 hA
  generalize V 4 = x4 at d4 hA
  generalize V 5 = x5 at d5 hA
  generalize V 6 = x6 at d6 hA
  generalize V 7 = x7 at d7 hA
  generalize V 8 = x8 at d8 hA
  generalize V 9 = x9 at d9 hA
  generalize V 10 = x10 at d10 hA
  generalize V 11 = x11 at d11 hA
  generalize V 12 = x12 at d12 hA
  subst d0
  subst d1
  subst d2
  subst d3
  subst d4
  subst d6
  subst d7
  subst d8
  subst d9
  subst d10
  subst d11
  subst d12
  obtain rfl := hA
  simp only [List.drop_succ_cons, List.drop_zero]
  have hbW := hb0.trans (hW.mono hb0.size)
  go_wp2
  go_ret
  exact ⟨by rw [HL.out]; rfl, fun h => absurd h (by rw [HL.out]; simp), hbW.mono' hN⟩
 | some p =>
  obtain ⟨i, c⟩ := p
  obtain ⟨_, hic, hpc⟩ := atIdx_some hat
  have hin : i < B.cps.length := (List.getElem?_eq_some_iff.1 hic).1
  have hll := hF.l2
  have HIC : Hid (B.cps[i]? = some c) := hic
  have HPH2 : Hid (∀ D : DataW Unit, (∀ (x : ByteArray) (m : Int), x.size ≤ maxLen → (Lit.int .i64 m).wf = true → (∀ (i : Nat) c, i < B.cps.length → B.cps[i]? = some c → ¬ (c.service = x ∧ c.number = m)) → Maps.has D (nkey x m) = false) → (∀ (i : Nat) c, i < B.cps.length → B.cps[i]? = some c → Maps.has D (nkey c.service c.number) = true ∧ D.atKey (nkey c.service c.number) (.lit (.int .i64 0)) = .lit (.int .i64 i)) →  (Maps.has D (nkey nm num) = true ∧ D.atKey (nkey nm num) (.lit (.int .i64 0)) = .lit (.int .i64 (i : Int)))) := fun D p1 p2 => by
   obtain ⟨e1, e2⟩ := isC_iff.1 hpc
   have := p2 i c hin hic
   rw [e1, e2] at this
   exact this
  have HPH : Hid (∀ D : DataW Unit, (∀ (x : ByteArray) (m : Int), x.size ≤ maxLen → (Lit.int .i64 m).wf = true → (∀ (i : Nat) c, i < B.cps.length → B.cps[i]? = some c → ¬ (c.service = x ∧ c.number = m)) → Maps.has D (nkey x m) = false) → (∀ (i : Nat) c, i < B.cps.length → B.cps[i]? = some c → Maps.has D (nkey c.service c.number) = true ∧ D.atKey (nkey c.service c.number) (.lit (.int .i64 0)) = .lit (.int .i64 i)) →  Maps.has D (nkey nm num) = true) := fun D p1 p2 => (HPH2.out D p1 p2).1
  have HPA : Hid (∀ D : DataW Unit, (∀ (x : ByteArray) (m : Int), x.size ≤ maxLen → (Lit.int .i64 m).wf = true → (∀ (i : Nat) c, i < B.cps.length → B.cps[i]? = some c → ¬ (c.service = x ∧ c.number = m)) → Maps.has D (nkey x m) = false) → (∀ (i : Nat) c, i < B.cps.length → B.cps[i]? = some c → Maps.has D (nkey c.service c.number) = true ∧ D.atKey (nkey c.service c.number) (.lit (.int .i64 0)) = .lit (.int .i64 i)) →  D.atKey (nkey nm num) (.lit (.int .i64 0)) = .lit (.int .i64 (i : Int))) := fun D p1 p2 => (HPH2.out D p1 p2).2
  have HAT : Hid _ := hat
  clear hic hpc hat HPH2
  go_enter Tryz.func129, Tryz.ntmps129
  go_upto_region 1 with fail
  clear hW0
  refine wp_region_grows 13 (by kernel_rfl) (by kernel_rfl) ?_
  apply grow_eq
  ·intro V W K A hW hd hA hK
   simp only [putAll, List.getElem?_toArray, List.getElem?_cons_succ, List.getElem?_cons_zero, Option.bind_some, Act.put, List.setIfInBounds_toArray, List.set_cons_succ, List.set_cons_zero] at hA
   clear hd
   generalize V 0 = x0 at hA
   generalize V 1 = x1 at hA
   generalize V 2 = x2 at hA
   generalize V 3 = x3 at hA
   generalize V 4 = x4 at hA
   generalize V 5 = x5 at hA
   generalize V 6 = x6 at hA
   generalize V 7 = x7 at hA
   generalize V 8 = x8 at hA
   generalize V 9 = x9 at hA
   generalize V 10 = x10 at hA
   generalize V 11 = x11 at hA
   generalize V 12 = x12 at hA
   obtain rfl := hA
   go_wp2
   exact hK.out _ (Below.refl _ _)
  apply grow_eq
  ·intro V W K A hW hd hA hK
   have d0 : V 0 = _ := hd 0 (by kernel_rfl)
   simp only [putAll, List.getElem?_toArray, List.getElem?_cons_succ, List.getElem?_cons_zero, Option.bind_some, Act.put, List.setIfInBounds_toArray, List.set_cons_succ, List.set_cons_zero] at hA
   clear hd
   generalize V 0 = x0 at d0 hA
   generalize V 1 = x1 at hA
   generalize V 2 = x2 at hA
   generalize V 3 = x3 at hA
   generalize V 4 = x4 at hA
   generalize V 5 = x5 at hA
   generalize V 6 = x6 at hA
   generalize V 7 = x7 at hA
   generalize V 8 = x8 at hA
   generalize V 9 = x9 at hA
   generalize V 10 = x10 at hA
   generalize V 11 = x11 at hA
   generalize V 12 = x12 at hA
   subst d0
   obtain rfl := hA
   go_wp2
   exact hK.out _ (Below.refl _ _)
  apply grow_eq
  ·intro V W K A hW hd hA hK
   have d1 : V 1 = _ := hd 1 (by kernel_rfl)
   simp only [putAll, List.getElem?_toArray, List.getElem?_cons_succ, List.getElem?_cons_zero, Option.bind_some, Act.put, List.setIfInBounds_toArray, List.set_cons_succ, List.set_cons_zero] at hA
   clear hd
   generalize V 0 = x0 at hA
   generalize V 1 = x1 at d1 hA
   generalize V 2 = x2 at hA
   generalize V 3 = x3 at hA
   generalize V 4 = x4 at hA
   generalize V 5 = x5 at hA
   generalize V 6 = x6 at hA
   generalize V 7 = x7 at hA
   generalize V 8 = x8 at hA
   generalize V 9 = x9 at hA
   generalize V 10 = x10 at hA
   generalize V 11 = x11 at hA
   generalize V 12 = x12 at hA
   subst d1
   obtain rfl := hA
   have q0 := blk_cell (below_blk hW E0.out hz0) 0 rfl
   go_wp2
   exact hK.out _ (Below.refl _ _)
  apply grow_eq
  ·intro V W K A hW hd hA hK
   have d2 : V 2 = _ := hd 2 (by kernel_rfl)
   simp only [putAll, List.getElem?_toArray, List.getElem?_cons_succ, List.getElem?_cons_zero, Option.bind_some, Act.put, List.setIfInBounds_toArray, List.set_cons_succ, List.set_cons_zero] at hA
   clear hd
   generalize V 0 = x0 at hA
   generalize V 1 = x1 at hA
   generalize V 2 = x2 at d2 hA
   generalize V 3 = x3 at hA
   generalize V 4 = x4 at hA
   generalize V 5 = x5 at hA
   generalize V 6 = x6 at hA
   generalize V 7 = x7 at hA
   generalize V 8 = x8 at hA
   generalize V 9 = x9 at hA
   generalize V 10 = x10 at hA
   generalize V 11 = x11 at hA
   generalize V 12 = x12 at hA
   subst d2
   obtain rfl := hA
   go_wp2
   exact hK.out _ (Below.refl _ _)
  apply grow_eq
  ·intro V W K A hW hd hA hK
   have d3 : V 3 = _ := hd 3 (by kernel_rfl)
   simp only [putAll, List.getElem?_toArray, List.getElem?_cons_succ, List.getElem?_cons_zero, Option.bind_some, Act.put, List.setIfInBounds_toArray, List.set_cons_succ, List.set_cons_zero] at hA
   clear hd
   generalize V 0 = x0 at hA
   generalize V 1 = x1 at hA
   generalize V 2 = x2 at hA
   generalize V 3 = x3 at d3 hA
   generalize V 4 = x4 at hA
   generalize V 5 = x5 at hA
   generalize V 6 = x6 at hA
   generalize V 7 = x7 at hA
   generalize V 8 = x8 at hA
   generalize V 9 = x9 at hA
   generalize V 10 = x10 at hA
   generalize V 11 = x11 at hA
   generalize V 12 = x12 at hA
   subst d3
   obtain rfl := hA
   refine wpList_load_row rfl 34 (.tmp 10) rfl A rfl 34 #[.int .i64 B.now, .slice a1 B.svcs.length k1, .slice a2 B.cps.length k2, .slice a3 B.bts.length k3] (0, 0) _ (below_blk hW A0.out hA0) Tryz.underlying34 rfl Tryz.infosBkX ?_
   go_wp2
   exact hK.out _ (Below.refl _ _)
  refine grow_op (fun vv W => ∃ b, vv = .map (some b) ∧ CopiesAt W b B B.cps.length) (fun v W W2 ⟨b, h1, h2⟩ hb => ⟨b, h1, h2.blk (hb.block b h2.lt)⟩) ?_ ?_
  ·intro V W K A hW hd hA hK
   have d4 : V 4 = _ := hd 4 (by kernel_rfl)
   simp only [putAll, List.getElem?_toArray, List.getElem?_cons_succ, List.getElem?_cons_zero, Option.bind_some, Act.put, List.setIfInBounds_toArray, List.set_cons_succ, List.set_cons_zero] at hA
   clear hd
   generalize V 0 = x0 at hA
   generalize V 1 = x1 at hA
   generalize V 2 = x2 at hA
   generalize V 3 = x3 at hA
   generalize V 4 = x4 at d4 hA
   generalize V 5 = x5 at hA
   generalize V 6 = x6 at hA
   generalize V 7 = x7 at hA
   generalize V 8 = x8 at hA
   generalize V 9 = x9 at hA
   generalize V 10 = x10 at hA
   generalize V 11 = x11 at hA
   generalize V 12 = x12 at hA
   subst d4
   obtain rfl := hA
   go_wp2_with fail
   refine (copyPlaces_any B a1 a2 a3 k1 k2 k3 W hF.small hF.sized hwc huc (V0.out.rows.at.below hW)).mono ?_
   rintro e w2 ⟨rfl, hpl, hbq⟩
   have HPL : Hid (CopiesAt w2 (W.heap.size + 1) B B.cps.length) := hpl
   clear hpl
   go_wp2
   exact hK.out _ _ hbq ⟨_, rfl, HPL.out⟩
  apply grow_eq
  ·intro V W K A hW hd hA hK
   simp only [putAll, List.getElem?_toArray, List.getElem?_cons_succ, List.getElem?_cons_zero, Option.bind_some, Act.put, List.setIfInBounds_toArray, List.set_cons_succ, List.set_cons_zero] at hA
   clear hd
   generalize V 0 = x0 at hA
   generalize V 1 = x1 at hA
   generalize V 2 = x2 at hA
   generalize V 3 = x3 at hA
   generalize V 4 = x4 at hA
   generalize V 5 = x5 at hA
   generalize V 6 = x6 at hA
   generalize V 7 = x7 at hA
   generalize V 8 = x8 at hA
   generalize V 9 = x9 at hA
   generalize V 10 = x10 at hA
   generalize V 11 = x11 at hA
   generalize V 12 = x12 at hA
   obtain rfl := hA
   go_wp2
   exact hK.out _ (Below.refl _ _)
  apply grow_eq
  ·intro V W K A hW hd hA hK
   have d6 : V 6 = _ := hd 6 (by kernel_rfl)
   simp only [putAll, List.getElem?_toArray, List.getElem?_cons_succ, List.getElem?_cons_zero, Option.bind_some, Act.put, List.setIfInBounds_toArray, List.set_cons_succ, List.set_cons_zero] at hA
   clear hd
   generalize V 0 = x0 at hA
   generalize V 1 = x1 at hA
   generalize V 2 = x2 at hA
   generalize V 3 = x3 at hA
   generalize V 4 = x4 at hA
   generalize V 5 = x5 at hA
   generalize V 6 = x6 at d6 hA
   generalize V 7 = x7 at hA
   generalize V 8 = x8 at hA
   generalize V 9 = x9 at hA
   generalize V 10 = x10 at hA
   generalize V 11 = x11 at hA
   generalize V 12 = x12 at hA
   subst d6
   obtain rfl := hA
   have q1 := blk_cell (below_blk hW E0.out hz0) 1 rfl
   have q2 := blk_cell (below_blk hW E0.out hz0) 2 rfl
   go_wp2
   exact hK.out _ (Below.refl _ _)
  apply grow_eq
  ·intro V W K A hW hd hA hK
   have d5 : (fun vv W => ∃ b, vv = .map (some b) ∧ CopiesAt W b B B.cps.length) (V 5) W := hd 5 (by kernel_rfl)
   have d7 : V 7 = _ := hd 7 (by kernel_rfl)
   simp only [putAll, List.getElem?_toArray, List.getElem?_cons_succ, List.getElem?_cons_zero, Option.bind_some, Act.put, List.setIfInBounds_toArray, List.set_cons_succ, List.set_cons_zero] at hA
   clear hd
   generalize V 0 = x0 at hA
   generalize V 1 = x1 at hA
   generalize V 2 = x2 at hA
   generalize V 3 = x3 at hA
   generalize V 4 = x4 at hA
   generalize V 5 = x5 at d5 hA
   generalize V 6 = x6 at hA
   generalize V 7 = x7 at d7 hA
   generalize V 8 = x8 at hA
   generalize V 9 = x9 at hA
   generalize V 10 = x10 at hA
   generalize V 11 = x11 at hA
   generalize V 12 = x12 at hA
   subst d7
   obtain rfl := hA
   obtain ⟨b, rfl, n, D, hn, hown, p1, p2⟩ := d5
   have HH : Hid (Maps.has D (nkey nm num) = true) := HPH.out D p1 p2
   have HAK : Hid (D.atKey (nkey nm num) (.lit (.int .i64 0)) = .lit (.int .i64 (i : Int))) := HPA.out D p1 p2
   clear p1 p2
   go_wp2_with (at_lookup; refine wpList_lookup_is _ rfl (.tmp 12) (.tmp 14) 191 rfl 167 3 .i64 numLaw Tryz.underlying191 Tryz.underlying3 (zeroInt _) b n D rfl hown _ _ rfl (nkey_ok nm num hwf hnm) (i : Int) true HAK.out HH.out ?_)
   exact hK.out _ (Below.refl _ _)
  apply grow_eq
  ·intro V W K A hW hd hA hK
   have d8 : V 8 = _ := hd 8 (by kernel_rfl)
   simp only [putAll, List.getElem?_toArray, List.getElem?_cons_succ, List.getElem?_cons_zero, Option.bind_some, Act.put, List.setIfInBounds_toArray, List.set_cons_succ, List.set_cons_zero] at hA
   clear hd
   generalize V 0 = x0 at hA
   generalize V 1 = x1 at hA
   generalize V 2 = x2 at hA
   generalize V 3 = x3 at hA
   generalize V 4 = x4 at hA
   generalize V 5 = x5 at hA
   generalize V 6 = x6 at hA
   generalize V 7 = x7 at hA
   generalize V 8 = x8 at d8 hA
   generalize V 9 = x9 at hA
   generalize V 10 = x10 at hA
   generalize V 11 = x11 at hA
   generalize V 12 = x12 at hA
   subst d8
   obtain rfl := hA
   go_wp2
   exact hK.out _ (Below.refl _ _)
  apply grow_eq
  ·intro V W K A hW hd hA hK
   have d9 : V 9 = _ := hd 9 (by kernel_rfl)
   simp only [putAll, List.getElem?_toArray, List.getElem?_cons_succ, List.getElem?_cons_zero, Option.bind_some, Act.put, List.setIfInBounds_toArray, List.set_cons_succ, List.set_cons_zero] at hA
   clear hd
   generalize V 0 = x0 at hA
   generalize V 1 = x1 at hA
   generalize V 2 = x2 at hA
   generalize V 3 = x3 at hA
   generalize V 4 = x4 at hA
   generalize V 5 = x5 at hA
   generalize V 6 = x6 at hA
   generalize V 7 = x7 at hA
   generalize V 8 = x8 at hA
   generalize V 9 = x9 at d9 hA
   generalize V 10 = x10 at hA
   generalize V 11 = x11 at hA
   generalize V 12 = x12 at hA
   subst d9
   obtain rfl := hA
   go_wp2
   exact hK.out _ (Below.refl _ _)
  apply grow_eq
  ·intro V W K A hW hd hA hK
   have d9 : V 9 = _ := hd 9 (by kernel_rfl)
   simp only [putAll, List.getElem?_toArray, List.getElem?_cons_succ, List.getElem?_cons_zero, Option.bind_some, Act.put, List.setIfInBounds_toArray, List.set_cons_succ, List.set_cons_zero] at hA
   clear hd
   generalize V 0 = x0 at hA
   generalize V 1 = x1 at hA
   generalize V 2 = x2 at hA
   generalize V 3 = x3 at hA
   generalize V 4 = x4 at hA
   generalize V 5 = x5 at hA
   generalize V 6 = x6 at hA
   generalize V 7 = x7 at hA
   generalize V 8 = x8 at hA
   generalize V 9 = x9 at d9 hA
   generalize V 10 = x10 at hA
   generalize V 11 = x11 at hA
   generalize V 12 = x12 at hA
   subst d9
   obtain rfl := hA
   go_wp2
   exact hK.out _ (Below.refl _ _)
  apply grow_eq
  ·intro V W K A hW hd hA hK
   have d10 : V 10 = _ := hd 10 (by kernel_rfl)
   simp only [putAll, List.getElem?_toArray, List.getElem?_cons_succ, List.getElem?_cons_zero, Option.bind_some, Act.put, List.setIfInBounds_toArray, List.set_cons_succ, List.set_cons_zero] at hA
   clear hd
   generalize V 0 = x0 at hA
   generalize V 1 = x1 at hA
   generalize V 2 = x2 at hA
   generalize V 3 = x3 at hA
   generalize V 4 = x4 at hA
   generalize V 5 = x5 at hA
   generalize V 6 = x6 at hA
   generalize V 7 = x7 at hA
   generalize V 8 = x8 at hA
   generalize V 9 = x9 at hA
   generalize V 10 = x10 at d10 hA
   generalize V 11 = x11 at hA
   generalize V 12 = x12 at hA
   subst d10
   obtain rfl := hA
   go_wp2
   exact hK.out _ (Below.refl _ _)
  intro V W A hW hS hA
  have d0 : V 0 = _ := hS 0 (by omega)
  have d1 : V 1 = _ := hS 1 (by omega)
  have d2 : V 2 = _ := hS 2 (by omega)
  have d3 : V 3 = _ := hS 3 (by omega)
  have d4 : V 4 = _ := hS 4 (by omega)
  have d5 : (fun vv W => ∃ b, vv = .map (some b) ∧ CopiesAt W b B B.cps.length) (V 5) W := hS 5 (by omega)
  have d6 : V 6 = _ := hS 6 (by omega)
  have d7 : V 7 = _ := hS 7 (by omega)
  have d8 : V 8 = _ := hS 8 (by omega)
  have d9 : V 9 = _ := hS 9 (by omega)
  have d10 : V 10 = _ := hS 10 (by omega)
  have d11 : V 11 = _ := hS 11 (by omega)
  have d12 : V 12 = _ := hS 12 (by omega)
  simp only [putAll, List.getElem?_toArray, List.getElem?_cons_succ, List.getElem?_cons_zero, Option.bind_some, Act.put, List.setIfInBounds_toArray, List.set_cons_succ, List.set_cons_zero] at hA
  clear hS
  generalize V 0 = x0 at d0 hA
  generalize V 1 = x1 at d1 hA
  generalize V 2 = x2 at d2 hA
  generalize V 3 = x3 at d3 hA
  generalize V 4 = x4 at d4 hA
  generalize V 5 = x5 at d5 hA
  generalize V 6 = x6 at d6 hA
  generalize V 7 = x7 at d7 hA
  generalize V 8 = x8 at d8 hA
  generalize V 9 = x9 at d9 hA
  generalize V 10 = x10 at d10 hA
  generalize V 11 = x11 at d11 hA
  generalize V 12 = x12 at d12 hA
  subst d0
  subst d1
  subst d2
  subst d3
  subst d4
  subst d6
  subst d7
  subst d8
  subst d9
  subst d10
  subst d11
  subst d12
  obtain rfl := hA
  simp only [List.drop_succ_cons, List.drop_zero]
  have hbW := hb0.trans (hW.mono hb0.size)
  have VW := hidBkVar (V0.out.below hW)
  have EW : Hid (W.heap[w.heap.size]? = some (.cells #[.pointer (some ⟨A, 0, none⟩), .string nm, .int .i64 num] 169 (0, 0))) := below_blk hW E0.out hz0
  have AW : Hid (W.heap[A]? = some (.cells #[.int .i64 B.now, .slice a1 B.svcs.length k1, .slice a2 B.cps.length k2, .slice a3 B.bts.length k3] 34 (0, 0))) := below_blk hW A0.out hA0
  obtain ⟨g, ea, hNg, hr⟩ := VW.out.rows.cps.some (by omega)
  have HR : Hid (RowIs W 88 7 g B.cps.length k2 (cpsV B.cps)) := hr
  have hcap := hr.2.1
  have e2 : W.cell? ⟨A, 2, none⟩ = some (.slice (some ⟨g, 0, none⟩) B.cps.length k2) := by have h := blk_cell AW.out 2 rfl; rw [ea] at h; exact h
  have HEA : Hid (a2 = some ⟨g, 0, none⟩) := ea
  have q0 := blk_cell EW.out 0 rfl
  have y4 := HR.out.cell (flat_at (c := Cp.cells) (n := 7) (fun _ => rfl) B.cps i c 4 (.int .i64 c.state) HIC.out rfl)
  clear hr ea HPH HPA hb0 V0 E0 A0 hz0 hA0 hW
  by_cases hst : c.state = 3 ∨ c.state = 2
  ·have HL : Hid (fr = ({ B with now := B.now, cps := B.cps.set i { c with state := 4, version := B.now } }, 0)) := by unfold Hid; rw [← HFR.out]; unfold failB; rw [HAT.out]; simp only; rw [if_pos hst]
   have h32 : (c.state != 3) = false ∨ ((c.state != 3) = true ∧ (c.state != 2) = false) := by rcases hst with h | h <;> simp [h]
   clear hst
   rcases h32 with h3 | ⟨h3, h2⟩
   ·go_upto_region 7 with fail
    go_wp2_with fail
    refine (turn_any B.now 4 A g i B.cps.length k2 (.slice a1 B.svcs.length k1) (.slice a2 B.cps.length k2) (.slice a3 B.bts.length k3) B.cps c W AW.out HR.out rfl HIC.out).mono ?_
    rintro e w2 ⟨rfl, hr2, hkp, hb2⟩
    have HKP : Hid _ := hkp
    have R2 : Hid (RowIs w2 88 7 g B.cps.length k2 (cpsV (B.cps.set i { c with state := 4, version := B.now }))) := hr2
    have hsz := hb2.size
    clear hkp hr2 q0 e2 y4
    have HRO : Hid (RowOnly a2 N W w2) := ⟨fun q hq hne => HKP.out q hq (fun e => hne (by rw [HEA.out, e])), hsz, hb2.mono' hNg⟩
    have HA2 : Hid (a2 ≠ some ⟨A, 0, none⟩) := VW.out.rows.cps.ne AW.out (by decide)
    have HV : Hid (BkVar w2 N A { B with now := B.now, cps := B.cps.set i { c with state := 4, version := B.now } } a1 a2 a3 k1 k2 k3) := by
     have hB := VW.out.rows
     refine ⟨VW.out.lo, ?_, hB.svcs.rowOnly HRO.out hB.cps (by decide), ?_, hB.bts.rowOnly HRO.out hB.cps (by decide)⟩
     ·have h := (HRO.out.block A (Array.getElem?_eq_some_iff.1 AW.out).1 HA2.out).trans AW.out; simpa using h
     ·exact .inr ⟨g, HEA.out, hNg, by have h := R2.out; simpa using h⟩
    have hbf : Below N w w2 := (hbW.mono' hN).trans HRO.out.below
    clear HRO HA2 VW AW EW HR R2 HKP
    go_wp2
    go_ret
    exact ⟨by rw [HL.out]; rfl, fun _ => by rw [HL.out]; exact ⟨_, _, _, _, _, _, HV.out⟩, hbf⟩
   ·go_upto_region 7 with fail
    go_wp2_with fail
    refine (turn_any B.now 4 A g i B.cps.length k2 (.slice a1 B.svcs.length k1) (.slice a2 B.cps.length k2) (.slice a3 B.bts.length k3) B.cps c W AW.out HR.out rfl HIC.out).mono ?_
    rintro e w2 ⟨rfl, hr2, hkp, hb2⟩
    have HKP : Hid _ := hkp
    have R2 : Hid (RowIs w2 88 7 g B.cps.length k2 (cpsV (B.cps.set i { c with state := 4, version := B.now }))) := hr2
    have hsz := hb2.size
    clear hkp hr2 q0 e2 y4
    have HRO : Hid (RowOnly a2 N W w2) := ⟨fun q hq hne => HKP.out q hq (fun e => hne (by rw [HEA.out, e])), hsz, hb2.mono' hNg⟩
    have HA2 : Hid (a2 ≠ some ⟨A, 0, none⟩) := VW.out.rows.cps.ne AW.out (by decide)
    have HV : Hid (BkVar w2 N A { B with now := B.now, cps := B.cps.set i { c with state := 4, version := B.now } } a1 a2 a3 k1 k2 k3) := by
     have hB := VW.out.rows
     refine ⟨VW.out.lo, ?_, hB.svcs.rowOnly HRO.out hB.cps (by decide), ?_, hB.bts.rowOnly HRO.out hB.cps (by decide)⟩
     ·have h := (HRO.out.block A (Array.getElem?_eq_some_iff.1 AW.out).1 HA2.out).trans AW.out; simpa using h
     ·exact .inr ⟨g, HEA.out, hNg, by have h := R2.out; simpa using h⟩
    have hbf : Below N w w2 := (hbW.mono' hN).trans HRO.out.below
    clear HRO HA2 VW AW EW HR R2 HKP
    go_wp2
    go_ret
    exact ⟨by rw [HL.out]; rfl, fun _ => by rw [HL.out]; exact ⟨_, _, _, _, _, _, HV.out⟩, hbf⟩
  ·have HL : Hid (fr = (B, 3)) := by unfold Hid; rw [← HFR.out]; unfold failB; rw [HAT.out]; simp only; rw [if_neg hst]
   have h3 : (c.state != 3) = true := by simp only [bne_iff_ne]; exact fun h => hst (.inl h)
   have h2 : (c.state != 2) = true := by simp only [bne_iff_ne]; exact fun h => hst (.inr h)
   clear hst
   go_wp2
   go_ret
   exact ⟨by rw [HL.out]; rfl, fun h => absurd h (by rw [HL.out]; simp), hbW.mono' hN⟩
end Go.Proofs.YtbceafpodamnfabGreat
