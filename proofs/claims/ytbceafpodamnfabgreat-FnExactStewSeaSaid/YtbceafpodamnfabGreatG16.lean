/-
  My own: It, Zb, Dh, Zu, Zd.
-/
import Derived.Test.YtbceafpodamnfabGreatG15
import Derived.Test.YtbceafpodamnfabGreatG08
import Derived.Test.YtbceafpodamnfabGreatG03
set_option linter.unusedVariables false
set_option linter.unusedSimpArgs false
namespace Go.Proofs.YtbceafpodamnfabGreat
open Go.RowKit Go.Sort
def readyTo (v : Int) (l : List Cp) (k : Nat) : List Cp := (l.take k).map (tickC v) ++ l.drop k
theorem readyTo_len (v : Int) (l : List Cp) (k : Nat) : (readyTo v l k).length = l.length := by
 unfold readyTo
 rw [List.length_append, List.length_map, List.length_take, List.length_drop]
 omega
theorem readyTo_at {v : Int} {l : List Cp} {k : Nat} {c : Cp} (h : l[k]? = some c) : (readyTo v l k)[k]? = some c := by
 have hk := (List.getElem?_eq_some_iff.1 h).1
 unfold readyTo
 rw [List.getElem?_append_right (by rw [List.length_map, List.length_take]; omega), List.length_map, List.length_take, Nat.min_eq_left (by omega), Nat.sub_self, List.getElem?_drop, Nat.add_zero]
 exact h
theorem readyTo_succ {v : Int} {l : List Cp} {k : Nat} {c : Cp} (h : l[k]? = some c) : readyTo v l (k + 1) = (readyTo v l k).set k (tickC v c) := by
 have hk := (List.getElem?_eq_some_iff.1 h).1
 have hd : l.drop k = c :: l.drop (k + 1) := by rw [List.drop_eq_getElem_cons hk]; congr 1; rw [List.getElem?_eq_getElem hk] at h; exact Option.some.inj h
 have hlen : ((l.take k).map (tickC v)).length = k := by rw [List.length_map, List.length_take]; omega
 unfold readyTo
 rw [List.set_append_right _ _ (by omega), hlen, Nat.sub_self, hd, List.set_cons_zero, List.take_add_one, h, List.map_append, List.append_assoc]
 rfl
theorem readyTo_all (v : Int) (l : List Cp) : readyTo v l l.length = l.map (tickC v) := by
 unfold readyTo
 rw [List.take_length, List.drop_length, List.append_nil]
theorem set_same {α : Type} {l : List α} {i : Nat} {x : α} (h : l[i]? = some x) : l.set i x = l := by
 refine List.ext_getElem? fun j => ?_
 by_cases hj : j = i
 ·subst hj
  rw [List.getElem?_set_self (List.getElem?_eq_some_iff.1 h).1, h]
 ·rw [List.getElem?_set_ne (by omega)]
theorem leftL_mem {v : Int} {l : List Cp} {d : Cp} (h : d ∈ leftL v l) : ∃ c ∈ l, d = tickC v c := by
 unfold leftL at h
 obtain ⟨c, hc, rfl⟩ := List.mem_map.1 h
 exact ⟨c, (List.mem_filter.1 hc).1, rfl⟩
theorem tick0_fit {B : Bk} (h : Fit B) : Fit (tick0 B B.now) := by
 obtain ⟨z1, z2, z3, z4, z5, z6⟩ := h.sized
 have hl : (leftL B.now B.cps).length ≤ B.cps.length := leftL_len _ _
 refine ⟨h.l1, Nat.le_trans hl h.l2, h.l3, ⟨z1, Nat.le_trans hl z2, z3, z4, fun d hd => ?_, z6⟩, h.uS, h.uB, h.ascS, h.ascB⟩
 obtain ⟨c, hc, rfl⟩ := leftL_mem hd
 rw [(tickC_same _ c).1, (tickC_same _ c).2]
 exact z5 c hc
theorem tick0_placed {B : Bk} (h : Placed B) : Placed (tick0 B B.now) := by
 refine ⟨h.names, fun d hd hs => ?_, h.uB⟩
 obtain ⟨c, hc, rfl⟩ := leftL_mem hd
 rw [(tickC_same _ c).2]
 refine h.waits c hc ?_
 unfold tickC at hs
 split at hs
 ·exact absurd hs (by simp)
 ·exact hs
set_option maxRecDepth 100000 in
set_option maxHeartbeats 16000000 in
theorem pass_any (B : Bk) (N A : Nat) (a1 a2 a3 : Option Addr) (k1 k2 k3 : Nat) (w : World) (hF : Fit B) (hP : Placed B) (hN : N ≤ w.heap.size) (hV : BkVar w N A B a1 a2 a3 k1 k2 k3) :
  Calls Tryz.prog 127 #[.agg #[.pointer (some ⟨A, 0, none⟩)]] w fun e w' => e = .returned (.tuple #[]) ∧ (∃ b1 b2 b3 d1 d2 d3, BkVar w' N A (tickB B B.now) b1 b2 b3 d1 d2 d3) ∧ Below N w w' := by
 have hl2 := hF.l2
 have hAl := (Array.getElem?_eq_some_iff.1 hV.box).1
 obtain ⟨W0, hW0⟩ : ∃ W, w.alloc (.cells #[.pointer (some ⟨A, 0, none⟩)] 162) = W := ⟨_, rfl⟩
 have hb0 := below_box w (.cells #[.pointer (some ⟨A, 0, none⟩)] 162)
 have E0 : Hid (W0.heap[w.heap.size]? = some (.cells #[.pointer (some ⟨A, 0, none⟩)] 162 (0, 0))) := by unfold Hid; rw [← hW0]; exact heap_alloc_new w (.cells #[.pointer (some ⟨A, 0, none⟩)] 162)
 rw [hW0] at hb0
 have hz0 := (Array.getElem?_eq_some_iff.1 E0.out).1
 have V0 := hidBkVar (hV.below hb0)
 skip
 have A0 : Hid (W0.heap[A]? = some (.cells #[.int .i64 B.now, .slice a1 B.svcs.length k1, .slice a2 B.cps.length k2, .slice a3 B.bts.length k3] 34 (0, 0))) := V0.out.box
 have HE2 : Hid (a2 ≠ some ⟨w.heap.size, 0, none⟩) := V0.out.rows.cps.ne E0.out (by decide)
 have HA2 : Hid (a2 ≠ some ⟨A, 0, none⟩) := V0.out.rows.cps.ne A0.out (by decide)
 have hA0 : A < W0.heap.size := by omega
 clear hV
 go_enter Tryz.func127, Tryz.ntmps127
 go_upto_region 1 with fail
 clear hW0
 refine wp_region_ownsJ 12 3 [[], [0], [1], [], [3], [4], [5], [6], [7], [8], [2], [10]] [9] [9] [9] [9] [] (fun W => RowOnly a2 N W0 W) (fun W => RowN W N 88 7 a2 B.cps.length k2 (cpsV B.cps)) (fun _ _ _ => True) (fun W h => RowOnly.of h (by omega)) (fun W h => V0.out.rows.cps.below h) (fun W W2 h hb => h.grow hb (by omega)) (fun W W2 _ h hb => h.below hb) (by kernel_rfl) (by kernel_rfl) (by kernel_rfl) ?_
 apply ownJ_eq (by kernel_rfl)
 ·intro V W K A hI hJ hd hA hK
  clear hJ
  simp only [putAll, List.getElem?_toArray, List.getElem?_cons_succ, List.getElem?_cons_zero, Option.bind_some, Act.put, List.setIfInBounds_toArray, List.set_cons_succ, List.set_cons_zero] at hA
  clear hd
  generalize V 0 = x0 at hA
  generalize V 1 = x1 at hA
  generalize V 2 = x2 at hA
  generalize V 3 = x3 at hA
  generalize V 4 = x4 at hA
  generalize V 5 = x5 at hA
  generalize V 6 = x6 at hA
  generalize V 7 = x7 at hA
  generalize V 8 = x8 at hA
  generalize V 9 = x9 at hA
  generalize V 10 = x10 at hA
  generalize V 11 = x11 at hA
  obtain rfl := hA
  go_wp2
  exact hK.out _ (Below.refl _ _)
 apply ownJ_eq (by kernel_rfl)
 ·intro V W K A hI hJ hd hA hK
  clear hJ
  have d0 : V 0 = _ := hd 0 (by kernel_rfl)
  simp only [putAll, List.getElem?_toArray, List.getElem?_cons_succ, List.getElem?_cons_zero, Option.bind_some, Act.put, List.setIfInBounds_toArray, List.set_cons_succ, List.set_cons_zero] at hA
  clear hd
  generalize V 0 = x0 at d0 hA
  generalize V 1 = x1 at hA
  generalize V 2 = x2 at hA
  generalize V 3 = x3 at hA
  generalize V 4 = x4 at hA
  generalize V 5 = x5 at hA
  generalize V 6 = x6 at hA
  generalize V 7 = x7 at hA
  generalize V 8 = x8 at hA
  generalize V 9 = x9 at hA
  generalize V 10 = x10 at hA
  generalize V 11 = x11 at hA
  subst d0
  obtain rfl := hA
  go_wp2
  exact hK.out _ (Below.refl _ _)
 apply ownJ_eq (by kernel_rfl)
 ·intro V W K A hI hJ hd hA hK
  clear hJ
  have d1 : V 1 = _ := hd 1 (by kernel_rfl)
  simp only [putAll, List.getElem?_toArray, List.getElem?_cons_succ, List.getElem?_cons_zero, Option.bind_some, Act.put, List.setIfInBounds_toArray, List.set_cons_succ, List.set_cons_zero] at hA
  clear hd
  generalize V 0 = x0 at hA
  generalize V 1 = x1 at d1 hA
  generalize V 2 = x2 at hA
  generalize V 3 = x3 at hA
  generalize V 4 = x4 at hA
  generalize V 5 = x5 at hA
  generalize V 6 = x6 at hA
  generalize V 7 = x7 at hA
  generalize V 8 = x8 at hA
  generalize V 9 = x9 at hA
  generalize V 10 = x10 at hA
  generalize V 11 = x11 at hA
  subst d1
  obtain rfl := hA
  have q0 := blk_cell ((hI.block w.heap.size hz0 HE2.out).trans E0.out) 0 rfl
  go_wp2
  exact hK.out _ (Below.refl _ _)
 apply ownJ_eq (by kernel_rfl)
 ·intro V W K A hI hJ hd hA hK
  clear hJ
  simp only [putAll, List.getElem?_toArray, List.getElem?_cons_succ, List.getElem?_cons_zero, Option.bind_some, Act.put, List.setIfInBounds_toArray, List.set_cons_succ, List.set_cons_zero] at hA
  clear hd
  generalize V 0 = x0 at hA
  generalize V 1 = x1 at hA
  generalize V 2 = x2 at hA
  generalize V 3 = x3 at hA
  generalize V 4 = x4 at hA
  generalize V 5 = x5 at hA
  generalize V 6 = x6 at hA
  generalize V 7 = x7 at hA
  generalize V 8 = x8 at hA
  generalize V 9 = x9 at hA
  generalize V 10 = x10 at hA
  generalize V 11 = x11 at hA
  obtain rfl := hA
  go_wp2
  exact hK.out _ (Below.refl _ _)
 apply ownJ_eq (by kernel_rfl)
 ·intro V W K A hI hJ hd hA hK
  clear hJ
  have d3 : V 3 = _ := hd 3 (by kernel_rfl)
  simp only [putAll, List.getElem?_toArray, List.getElem?_cons_succ, List.getElem?_cons_zero, Option.bind_some, Act.put, List.setIfInBounds_toArray, List.set_cons_succ, List.set_cons_zero] at hA
  clear hd
  generalize V 0 = x0 at hA
  generalize V 1 = x1 at hA
  generalize V 2 = x2 at hA
  generalize V 3 = x3 at d3 hA
  generalize V 4 = x4 at hA
  generalize V 5 = x5 at hA
  generalize V 6 = x6 at hA
  generalize V 7 = x7 at hA
  generalize V 8 = x8 at hA
  generalize V 9 = x9 at hA
  generalize V 10 = x10 at hA
  generalize V 11 = x11 at hA
  subst d3
  obtain rfl := hA
  go_wp2
  exact hK.out _ (Below.refl _ _)
 apply ownJ_eq (by kernel_rfl)
 ·intro V W K A hI hJ hd hA hK
  clear hJ
  have d4 : V 4 = _ := hd 4 (by kernel_rfl)
  simp only [putAll, List.getElem?_toArray, List.getElem?_cons_succ, List.getElem?_cons_zero, Option.bind_some, Act.put, List.setIfInBounds_toArray, List.set_cons_succ, List.set_cons_zero] at hA
  clear hd
  generalize V 0 = x0 at hA
  generalize V 1 = x1 at hA
  generalize V 2 = x2 at hA
  generalize V 3 = x3 at hA
  generalize V 4 = x4 at d4 hA
  generalize V 5 = x5 at hA
  generalize V 6 = x6 at hA
  generalize V 7 = x7 at hA
  generalize V 8 = x8 at hA
  generalize V 9 = x9 at hA
  generalize V 10 = x10 at hA
  generalize V 11 = x11 at hA
  subst d4
  obtain rfl := hA
  have q0 := blk_cell ((hI.block w.heap.size hz0 HE2.out).trans E0.out) 0 rfl
  go_wp2
  exact hK.out _ (Below.refl _ _)
 apply ownJ_eq (by kernel_rfl)
 ·intro V W K A hI hJ hd hA hK
  clear hJ
  have d5 : V 5 = _ := hd 5 (by kernel_rfl)
  simp only [putAll, List.getElem?_toArray, List.getElem?_cons_succ, List.getElem?_cons_zero, Option.bind_some, Act.put, List.setIfInBounds_toArray, List.set_cons_succ, List.set_cons_zero] at hA
  clear hd
  generalize V 0 = x0 at hA
  generalize V 1 = x1 at hA
  generalize V 2 = x2 at hA
  generalize V 3 = x3 at hA
  generalize V 4 = x4 at hA
  generalize V 5 = x5 at d5 hA
  generalize V 6 = x6 at hA
  generalize V 7 = x7 at hA
  generalize V 8 = x8 at hA
  generalize V 9 = x9 at hA
  generalize V 10 = x10 at hA
  generalize V 11 = x11 at hA
  subst d5
  obtain rfl := hA
  go_wp2
  exact hK.out _ (Below.refl _ _)
 apply ownJ_eq (by kernel_rfl)
 ·intro V W K A hI hJ hd hA hK
  clear hJ
  have d6 : V 6 = _ := hd 6 (by kernel_rfl)
  simp only [putAll, List.getElem?_toArray, List.getElem?_cons_succ, List.getElem?_cons_zero, Option.bind_some, Act.put, List.setIfInBounds_toArray, List.set_cons_succ, List.set_cons_zero] at hA
  clear hd
  generalize V 0 = x0 at hA
  generalize V 1 = x1 at hA
  generalize V 2 = x2 at hA
  generalize V 3 = x3 at hA
  generalize V 4 = x4 at hA
  generalize V 5 = x5 at hA
  generalize V 6 = x6 at d6 hA
  generalize V 7 = x7 at hA
  generalize V 8 = x8 at hA
  generalize V 9 = x9 at hA
  generalize V 10 = x10 at hA
  generalize V 11 = x11 at hA
  subst d6
  obtain rfl := hA
  go_wp2
  exact hK.out _ (Below.refl _ _)
 apply ownJ_eq (by kernel_rfl)
 ·intro V W K A hI hJ hd hA hK
  clear hJ
  have d7 : V 7 = _ := hd 7 (by kernel_rfl)
  simp only [putAll, List.getElem?_toArray, List.getElem?_cons_succ, List.getElem?_cons_zero, Option.bind_some, Act.put, List.setIfInBounds_toArray, List.set_cons_succ, List.set_cons_zero] at hA
  clear hd
  generalize V 0 = x0 at hA
  generalize V 1 = x1 at hA
  generalize V 2 = x2 at hA
  generalize V 3 = x3 at hA
  generalize V 4 = x4 at hA
  generalize V 5 = x5 at hA
  generalize V 6 = x6 at hA
  generalize V 7 = x7 at d7 hA
  generalize V 8 = x8 at hA
  generalize V 9 = x9 at hA
  generalize V 10 = x10 at hA
  generalize V 11 = x11 at hA
  subst d7
  obtain rfl := hA
  have e2 := blk_cell ((hI.block A hA0 HA2.out).trans A0.out) 2 rfl
  go_wp2
  exact hK.out _ (Below.refl _ _)
 refine ownJ_own (fun (_ : Nat → Value) vv W => ∃ bo n' kk, vv = .slice bo n' kk ∧ n' = (B.cps.filter fun c => !(c.ending)).length ∧ RowN W N 88 7 bo n' kk (cpsV (B.cps.filter fun c => !(c.ending)))) (fun _ v W W2 ⟨bo, n2, kk, h1, h2, h3⟩ hb => ⟨bo, n2, kk, h1, h2, h3.below hb⟩) (fun _ _ _ _ _ h => h) (by kernel_rfl) (by kernel_rfl) ?_ ?_
 ·intro V W K A hI hJ hd hA hK
  have hJ := hJ (by kernel_rfl)
  have d8 : V 8 = _ := hd 8 (by kernel_rfl)
  simp only [putAll, List.getElem?_toArray, List.getElem?_cons_succ, List.getElem?_cons_zero, Option.bind_some, Act.put, List.setIfInBounds_toArray, List.set_cons_succ, List.set_cons_zero] at hA
  clear hd
  generalize hV0 : V 0 = x0 at hA hK
  generalize hV1 : V 1 = x1 at hA hK
  generalize hV2 : V 2 = x2 at hA hK
  generalize hV3 : V 3 = x3 at hA hK
  generalize hV4 : V 4 = x4 at hA hK
  generalize hV5 : V 5 = x5 at hA hK
  generalize hV6 : V 6 = x6 at hA hK
  generalize hV7 : V 7 = x7 at hA hK
  generalize hV8 : V 8 = x8 at d8 hA hK
  generalize hV9 : V 9 = x9 at hA hK
  generalize hV10 : V 10 = x10 at hA hK
  generalize hV11 : V 11 = x11 at hA hK
  subst d8
  obtain rfl := hA
  have HI : Hid (RowOnly a2 N W0 W) := hI
  have HJ := hidRowN hJ
  have hsz := hI.size
  clear hI hJ hV0 hV1 hV2 hV3 hV4 hV5 hV6 hV7 hV8 hV9 hV10 hV11
  go_wp2_with fail
  refine (deleteE_any B.cps a2 B.cps.length k2 N W rfl (by have := hF.l2; omega) (by omega) HJ.out).mono ?_
  rintro e w2 ⟨bo, n2, kk, rfl, hn2, hr2, hkp, hbq⟩
  have HR2 := hidRowN hr2
  have HN2 : Hid _ := hn2
  have HKP : Hid _ := hkp
  clear hr2 hn2 hkp
  go_wp2
  exact hK.out _ _ trivial ⟨fun q hq hne => (HKP.out q (by omega) hne).trans (HI.out.block q hq hne), Nat.le_trans hsz hbq.size, HI.out.below.trans hbq⟩ ⟨bo, n2, kk, rfl, HN2.out, HR2.out⟩
 apply ownJ_eq (by kernel_rfl)
 ·intro V W K A hI hJ hd hA hK
  clear hJ
  have d2 : V 2 = _ := hd 2 (by kernel_rfl)
  simp only [putAll, List.getElem?_toArray, List.getElem?_cons_succ, List.getElem?_cons_zero, Option.bind_some, Act.put, List.setIfInBounds_toArray, List.set_cons_succ, List.set_cons_zero] at hA
  clear hd
  generalize V 0 = x0 at hA
  generalize V 1 = x1 at hA
  generalize V 2 = x2 at d2 hA
  generalize V 3 = x3 at hA
  generalize V 4 = x4 at hA
  generalize V 5 = x5 at hA
  generalize V 6 = x6 at hA
  generalize V 7 = x7 at hA
  generalize V 8 = x8 at hA
  generalize V 9 = x9 at hA
  generalize V 10 = x10 at hA
  generalize V 11 = x11 at hA
  subst d2
  obtain rfl := hA
  go_wp2
  exact hK.out _ (Below.refl _ _)
 apply ownJ_eq (by kernel_rfl)
 ·intro V W K A hI hJ hd hA hK
  clear hJ
  have d10 : V 10 = _ := hd 10 (by kernel_rfl)
  simp only [putAll, List.getElem?_toArray, List.getElem?_cons_succ, List.getElem?_cons_zero, Option.bind_some, Act.put, List.setIfInBounds_toArray, List.set_cons_succ, List.set_cons_zero] at hA
  clear hd
  generalize V 0 = x0 at hA
  generalize V 1 = x1 at hA
  generalize V 2 = x2 at hA
  generalize V 3 = x3 at hA
  generalize V 4 = x4 at hA
  generalize V 5 = x5 at hA
  generalize V 6 = x6 at hA
  generalize V 7 = x7 at hA
  generalize V 8 = x8 at hA
  generalize V 9 = x9 at hA
  generalize V 10 = x10 at d10 hA
  generalize V 11 = x11 at hA
  subst d10
  obtain rfl := hA
  go_wp2
  exact hK.out _ (Below.refl _ _)
 refine ⟨fun i j hk V v W W' hr hq => ?_, ?_⟩
 ·simp at hk
 intro V W A hI hS hA
 have d0 : V 0 = _ := hS 0 (by omega) (.inr (by kernel_rfl))
 have d1 : V 1 = _ := hS 1 (by omega) (.inr (by kernel_rfl))
 have d2 : V 2 = _ := hS 2 (by omega) (.inr (by kernel_rfl))
 have d3 : V 3 = _ := hS 3 (by omega) (.inr (by kernel_rfl))
 have d4 : V 4 = _ := hS 4 (by omega) (.inr (by kernel_rfl))
 have d5 : V 5 = _ := hS 5 (by omega) (.inr (by kernel_rfl))
 have d6 : V 6 = _ := hS 6 (by omega) (.inr (by kernel_rfl))
 have d7 : V 7 = _ := hS 7 (by omega) (.inr (by kernel_rfl))
 have d8 : V 8 = _ := hS 8 (by omega) (.inr (by kernel_rfl))
 have d9 : (fun (_ : Nat → Value) vv W => ∃ bo n' kk, vv = .slice bo n' kk ∧ n' = (B.cps.filter fun c => !(c.ending)).length ∧ RowN W N 88 7 bo n' kk (cpsV (B.cps.filter fun c => !(c.ending)))) V (V 9) W := hS 9 (by omega) (.inl (by kernel_rfl))
 have d10 : V 10 = _ := hS 10 (by omega) (.inr (by kernel_rfl))
 have d11 : V 11 = _ := hS 11 (by omega) (.inr (by kernel_rfl))
 simp only [putAll, List.getElem?_toArray, List.getElem?_cons_succ, List.getElem?_cons_zero, Option.bind_some, Act.put, List.setIfInBounds_toArray, List.set_cons_succ, List.set_cons_zero] at hA
 dsimp only at d9
 clear hS
 generalize V 0 = x0 at d0 hA
 generalize V 1 = x1 at d1 hA
 generalize V 2 = x2 at d2 hA
 generalize V 3 = x3 at d3 hA
 generalize V 4 = x4 at d4 hA
 generalize V 5 = x5 at d5 hA
 generalize V 6 = x6 at d6 hA
 generalize V 7 = x7 at d7 hA
 generalize V 8 = x8 at d8 hA
 generalize V 9 = x9 at d9 hA
 generalize V 10 = x10 at d10 hA
 generalize V 11 = x11 at d11 hA
 subst d0
 subst d1
 subst d2
 subst d3
 subst d4
 subst d5
 subst d6
 subst d7
 subst d8
 subst d10
 subst d11
 obtain rfl := hA
 simp only [List.drop_succ_cons, List.drop_zero]
 obtain ⟨bo, n', kk, rfl, hn', hr⟩ := d9
 have HN' : Hid (n' = (B.cps.filter fun c => !(c.ending)).length) := hn'
 have HRC := hidRowN hr
 have HI : Hid (RowOnly a2 N W0 W) := hI
 have AW : Hid (W.heap[A]? = some (.cells #[.int .i64 B.now, .slice a1 B.svcs.length k1, .slice a2 B.cps.length k2, .slice a3 B.bts.length k3] 34 (0, 0))) := (hI.block A hA0 HA2.out).trans A0.out
 have EW : Hid (W.heap[w.heap.size]? = some (.cells #[.pointer (some ⟨A, 0, none⟩)] 162 (0, 0))) := (hI.block w.heap.size hz0 HE2.out).trans E0.out
 have hsW := hI.size
 have hn1 : n' ≤ 1000 := by rw [hn']; have := List.length_filter_le (fun c : Cp => !(c.ending)) B.cps; omega
 clear hn' hr hI
 go_upto_region 2 with (refine wpList_store_one rfl 31 (.tmp 15) (.tmp 13) rfl A 2 (.slice bo n' kk) rfl rfl Tryz.infosCpsI rfl rfl 34 #[.int .i64 B.now, .slice a1 B.svcs.length k1, .slice a2 B.cps.length k2, .slice a3 B.bts.length k3] AW.out (Nat.le_of_ble_eq_true rfl) ?_; intro w1 hz on; have A1 : Hid (w1.heap[A]? = some (.cells #[.int .i64 B.now, .slice a1 B.svcs.length k1, .slice bo n' kk, .slice a3 B.bts.length k3] 34 (0, 0))) := hz; have HON : Hid (Only A W w1) := on; clear hz on)
 have hAn : A ≠ w.heap.size := by omega
 have E1 : Hid (w1.heap[w.heap.size]? = some (.cells #[.pointer (some ⟨A, 0, none⟩)] 162 (0, 0))) := (HON.out.other _ (Ne.symm hAn)).trans EW.out
 have RS1 : Hid (RowN w1 N 48 13 a1 B.svcs.length k1 (svcsV B.svcs)) := (V0.out.rows.svcs.rowOnly HI.out V0.out.rows.cps (by decide)).only HON.out AW.out (by decide)
 have RB1 : Hid (RowN w1 N 86 2 a3 B.bts.length k3 (btsV B.bts)) := (V0.out.rows.bts.rowOnly HI.out V0.out.rows.cps (by decide)).only HON.out AW.out (by decide)
 have RC1 : Hid (RowN w1 N 88 7 bo n' kk (cpsV (readyTo B.now (B.cps.filter fun c => !(c.ending)) 0))) := by
  have h := HRC.out.only HON.out AW.out (by decide)
  unfold Hid readyTo
  simpa using h
 have hlo := V0.out.lo
 have hb1 : Below N w w1 := (hb0.mono' hN).trans (HI.out.below.trans (HON.out.below.mono' hlo))
 have q0 := blk_cell E1.out 0 rfl
 have e2 := blk_cell A1.out 2 rfl
 clear AW EW HI HRC V0 A0 E0 HE2 HA2 HON hsW
 go_upto_region 3 with fail
 clear q0 e2
 go_wp2
 go_loopw [23] (fun iv wr => ∃ k : Nat, k ≤ n' ∧ iv = .int .i64 k ∧ Hid (wr.heap[w.heap.size]? = some (.cells #[.pointer (some ⟨A, 0, none⟩)] 162 (0, 0))) ∧ Hid (wr.heap[A]? = some (.cells #[.int .i64 B.now, .slice a1 B.svcs.length k1, .slice bo n' kk, .slice a3 B.bts.length k3] 34 (0, 0))) ∧ Hid (RowN wr N 48 13 a1 B.svcs.length k1 (svcsV B.svcs)) ∧ Hid (RowN wr N 86 2 a3 B.bts.length k3 (btsV B.bts)) ∧ Hid (RowN wr N 88 7 bo n' kk (cpsV (readyTo B.now (B.cps.filter fun c => !(c.ending)) k))) ∧ Below N w wr) (fun i _ => n' - (intOf i).toNat)
 case atStart => exact ⟨0, by omega, rfl, E1, A1, RS1, RB1, RC1, hb1⟩
 case round =>
  clear E1 A1 RS1 RB1 RC1 hb1
  obtain ⟨k, hk, rfl, E2, A2, RS2, RB2, RC2, hb2⟩ := hrel
  by_cases hlt : k < n'
  ·obtain ⟨c, hc⟩ : ∃ c, (B.cps.filter fun c => !(c.ending))[k]? = some c := ⟨(B.cps.filter fun c => !(c.ending))[k]'(by rw [← HN'.out]; exact hlt), by rw [List.getElem?_eq_getElem]⟩
   have HC : Hid ((B.cps.filter fun c => !(c.ending))[k]? = some c) := hc
   have HCR : Hid ((readyTo B.now (B.cps.filter fun c => !(c.ending)) k)[k]? = some c) := readyTo_at hc
   have HRS : Hid (readyTo B.now (B.cps.filter fun c => !(c.ending)) (k + 1) = (readyTo B.now (B.cps.filter fun c => !(c.ending)) k).set k (tickC B.now c)) := readyTo_succ hc
   have HRL : Hid ((readyTo B.now (B.cps.filter fun c => !(c.ending)) k).length = n') := by unfold Hid; rw [readyTo_len, HN'.out]
   obtain ⟨g, ea, hNg, hr⟩ := RC2.out.some (by omega)
   have HEA : Hid (bo = some ⟨g, 0, none⟩) := ea
   have HR : Hid (RowIs wr 88 7 g n' kk (cpsV (readyTo B.now (B.cps.filter fun c => !(c.ending)) k))) := hr
   have hcap := hr.2.1
   have q0 := blk_cell E2.out 0 rfl
   have e2 : wr.cell? ⟨A, 2, none⟩ = some (.slice (some ⟨g, 0, none⟩) n' kk) := by have h := blk_cell A2.out 2 rfl; rw [ea] at h; exact h
   have y4 := HR.out.cell (flat_at (c := Cp.cells) (n := 7) (fun _ => rfl) (readyTo B.now (B.cps.filter fun c => !(c.ending)) k) k c 4 (.int .i64 c.state) HCR.out rfl)
   clear hc hr ea
   cases hst : (c.state == 2)
   ·have HT : Hid (readyTo B.now (B.cps.filter fun c => !(c.ending)) (k + 1) = readyTo B.now (B.cps.filter fun c => !(c.ending)) k) := by
     unfold Hid
     rw [HRS.out]
     have : tickC B.now c = c := by unfold tickC; rw [if_neg (by simpa using hst)]
     rw [this]
     exact set_same HCR.out
    go_wp2
    go_roundw
    case rel => exact ⟨k + 1, by omega, by go_num, E2, A2, RS2, RB2, by unfold Hid; rw [HT.out]; exact RC2.out, hb2⟩
    case measure => simp [intOf]; omega
   ·have HT : Hid (tickC B.now c = turnC 3 B.now c) := by unfold Hid tickC; rw [if_pos (by simpa using hst)]; rfl
    go_upto_region 7 with fail
    clear y4 e2
    go_wp2_with fail
    refine (turn_any B.now 3 A g k n' kk (.slice a1 B.svcs.length k1) (.slice bo n' kk) (.slice a3 B.bts.length k3) (readyTo B.now (B.cps.filter fun c => !(c.ending)) k) c wr A2.out HR.out HRL.out HCR.out).mono ?_
    rintro e w3 ⟨rfl, hr3, hkp, hb3⟩
    have HKP : Hid _ := hkp
    have R3 : Hid (RowIs w3 88 7 g n' kk (cpsV (readyTo B.now (B.cps.filter fun c => !(c.ending)) (k + 1)))) := by unfold Hid; rw [HRS.out, HT.out]; exact hr3
    have hs3 := hb3.size
    have HRO : Hid (RowOnly bo N wr w3) := ⟨fun q hq hne => HKP.out q hq (fun e => hne (by rw [HEA.out, e])), hs3, hb3.mono' hNg⟩
    have E3 : Hid (w3.heap[w.heap.size]? = some (.cells #[.pointer (some ⟨A, 0, none⟩)] 162 (0, 0))) := (HRO.out.block _ (Array.getElem?_eq_some_iff.1 E2.out).1 (RC2.out.ne E2.out (by decide))).trans E2.out
    have A3 : Hid (w3.heap[A]? = some (.cells #[.int .i64 B.now, .slice a1 B.svcs.length k1, .slice bo n' kk, .slice a3 B.bts.length k3] 34 (0, 0))) := (HRO.out.block _ (Array.getElem?_eq_some_iff.1 A2.out).1 (RC2.out.ne A2.out (by decide))).trans A2.out
    have RS3 : Hid (RowN w3 N 48 13 a1 B.svcs.length k1 (svcsV B.svcs)) := RS2.out.rowOnly HRO.out RC2.out (by decide)
    have RB3 : Hid (RowN w3 N 86 2 a3 B.bts.length k3 (btsV B.bts)) := RB2.out.rowOnly HRO.out RC2.out (by decide)
    have hb4 : Below N w w3 := hb2.trans HRO.out.below
    clear hkp hr3 q0 hb3 HKP HRO
    go_wp2
    go_roundw
    case rel => exact ⟨k + 1, by omega, by go_num, E3, A3, RS3, RB3, .inr ⟨g, HEA.out, hNg, R3.out⟩, hb4⟩
    case measure => simp [intOf]; omega
  ·have HKE : Hid (k = n') := by unfold Hid; omega
   have HLE : Hid (readyTo B.now (B.cps.filter fun c => !(c.ending)) k = leftL B.now B.cps) := by unfold Hid leftL; rw [HKE.out, HN'.out, readyTo_all]
   have VX : Hid (BkVar wr N A (tick0 B B.now) a1 bo a3 k1 kk k3) := by
    have hn2 : n' = (tick0 B B.now).cps.length := by show n' = (leftL B.now B.cps).length; rw [← HLE.out, readyTo_len]; exact HN'.out
    refine ⟨hlo, ?_, RS2.out, ?_, RB2.out⟩
    ·have h := A2.out; rw [hn2] at h; exact h
    ·have h := RC2.out; rw [HLE.out, hn2] at h; exact h
   have HFX : Hid (Fit (tick0 B B.now)) := tick0_fit hF
   have HPX : Hid (Placed (tick0 B B.now)) := tick0_placed hP
   have q0 := blk_cell E2.out 0 rfl
   go_wp2_with fail
   refine (place_any (tick0 B B.now) N A a1 bo a3 k1 kk k3 wr HFX.out HPX.out (by have := hb2.size; omega) VX.out).mono ?_
   rintro e w3 ⟨rfl, hv3, hb3⟩
   have V3 := hidBkVar hv3
   have hb4 : Below N w w3 := hb2.trans hb3
   clear hv3 hb3 q0
   go_wp2
   exact Go.Great.bodyPost_end0 rfl rfl ⟨rfl, ⟨_, _, _, _, _, _, V3.out⟩, hb4⟩
end Go.Proofs.YtbceafpodamnfabGreat

namespace Go.Proofs.YtbceafpodamnfabGreat
open Go.RowKit Go.Sort
end Go.Proofs.YtbceafpodamnfabGreat

namespace Go.Proofs.YtbceafpodamnfabGreat
open Go.RowKit Go.Sort
theorem isC_iff {sv : ByteArray} {num : Int} {c : Cp} : isC sv num c = true ↔ c.service = sv ∧ c.number = num := by
 unfold isC
 rw [Bool.and_eq_true, beq_iff_eq (a := c.number)]
 exact and_congr_left fun _ => same_nm
end Go.Proofs.YtbceafpodamnfabGreat

namespace Go.Proofs.YtbceafpodamnfabGreat
open Go.RowKit Go.Sort Go.Maps
def uniqC (B : Bk) : Prop := ∀ (i j : Nat) c d, i < j → B.cps[i]? = some c → B.cps[j]? = some d → ¬ (c.service = d.service ∧ c.number = d.number)
def wfC (B : Bk) : Prop := ∀ c ∈ B.cps, (Lit.int .i64 c.number).wf = true
theorem aheadB_trans {a b c : Cp} (h1 : aheadB a b = true) (h2 : aheadB b c = true) : aheadB a c = true := by
 unfold aheadB at *
 simp only [Bool.or_eq_true, Bool.and_eq_true, decide_eq_true_eq, beq_iff_eq] at *
 rcases h1 with h1 | ⟨e1, n1⟩
 ·rcases h2 with h2 | ⟨e2, n2⟩
  ·exact .inl (bytesLess_trans _ _ _ h1 h2)
  ·exact .inl (by rw [← e2]; exact h1)
 ·rcases h2 with h2 | ⟨e2, n2⟩
  ·exact .inl (by rw [e1]; exact h2)
  ·exact .inr ⟨e1.trans e2, by omega⟩
theorem cps_ahead {B : Bk} (h : ∀ i, i < B.cps.length → cpAtB B i = true) : ∀ (j i : Nat) s t, i < j → B.cps[i]? = some s → B.cps[j]? = some t → aheadB s t = true
 | 0, i, _, _, hi, _, _ => absurd hi (by omega)
 | j + 1, i, s, t, hi, hs, ht => by
  have hlt : j + 1 < B.cps.length := (List.getElem?_eq_some_iff.1 ht).1
  obtain ⟨p, hp⟩ : ∃ p, B.cps[j]? = some p := ⟨B.cps[j]'(by omega), by rw [List.getElem?_eq_getElem]⟩
  have h1 : aheadB p t = true := by
   have := h (j + 1) hlt
   unfold cpAtB at this
   rw [ht] at this
   simp [hp] at this
   exact this.2
  rcases Nat.lt_or_ge i j with h' | h'
  ·exact aheadB_trans (cps_ahead h j i s p h' hs hp) h1
  ·have e : i = j := by omega
   subst e
   rw [hp] at hs
   cases hs
   exact h1
theorem uniqC_of {B : Bk} (h : allTo (cpAtB B) B.cps.length = true) : uniqC B := fun i j c d hij hc hd ⟨e1, e2⟩ => by
 have := cps_ahead (cpAt_of h) j i c d hij hc hd
 unfold aheadB at this
 rw [e1, e2, bytesLess_irrefl] at this
 simp at this
end Go.Proofs.YtbceafpodamnfabGreat

namespace Go.Proofs.YtbceafpodamnfabGreat
open Go.RowKit Go.Sort Go.Maps
theorem numRow : (167 : TypeId) < Tryz.prog.types.size := of_decide_eq_true (by kernel_rfl)
theorem numWide : (match Tryz.prog.underlying 167 with | some (.array _ _) | some (.struct _) => true | _ => false) = true := by kernel_rfl
set_option maxRecDepth 100000 in
theorem numLaw : Keyed Tryz.prog 167 := Keyed.of_law (deep_law_laid Tryz.laidOutB (m := 3) (by omega) numRow (by kernel_rfl) numWide)
theorem numCells : Tryz.prog.cellsOf 167 = 2 := by kernel_rfl
theorem numKey : Tryz.prog.keyType 167 = true := by kernel_rfl
def nkey (s : ByteArray) (n : Int) : Lit := .string (keyBytes [.string s.data.toList, .int .i64 n])
theorem nkey_ok (s : ByteArray) (n : Int) (hk : (Lit.int .i64 n).wf = true) (hs : s.size ≤ maxLen) : keyOf Tryz.prog 167 (.agg #[.string s, .int .i64 n]) = some (nkey s n) := by
 have hf : (Value.agg #[.string s, .int .i64 n]).formed Tryz.prog 167 = true := by
  simp [Value.formed, Tryz.underlying167, numCells]
 unfold keyOf
 rw [Tryz.underlying167]
 simp only [numKey, hf, Bool.and_self, if_true]
 generalize hn : Tryz.prog.types.size = m
 match m, hn with
 | 0, hn => have := numRow; rw [hn] at this; exact absurd this (Nat.not_lt_zero _)
 | m + 1, _ =>
  simp [Program.keyLits, Tryz.underlying167, numCells, intCells, stringCells, Tryz.underlying3, Tryz.underlying9, Value.cells, hk, hs, nkey]
theorem nkey_inj {n n' : Int} {s s' : ByteArray} (hk : (Lit.int .i64 n).wf = true) (hk' : (Lit.int .i64 n').wf = true) (hs : s.size ≤ maxLen) (hs' : s'.size ≤ maxLen) (h : nkey s n = nkey s' n') : s = s' ∧ n = n' := by
 have h1 := nkey_ok s n hk hs
 have h2 := nkey_ok s' n' hk' hs'
 rw [← h] at h2
 have := numLaw.inj h1 h2
 simpa using this
theorem nkey_isKey (s : ByteArray) (n : Int) : WideAt.IsKeyLit (nkey s n) := trivial
theorem run_makeMap_c (n : Int) (w : World) : (Instr.makeMap 191 (some (.int .i64 n))).run Tryz.prog w = .ok (.map (some w.heap.size)) (w.alloc (.map #[] 0)) := by
 simp [Instr.makeMap, run_underlying Tryz.underlying191, asInt, asIntOf]
def CopiesAt (w : World) (b : Nat) (B : Bk) (k : Nat) : Prop := ∃ (n : Nat) (D : DataW Unit), n ≤ k ∧ w.ownsMap Tryz.prog 167 (plainElem Tryz.prog 3) b n D ∧
 (∀ (x : ByteArray) (m : Int), x.size ≤ maxLen → (Lit.int .i64 m).wf = true → (∀ (i : Nat) c, i < k → B.cps[i]? = some c → ¬ (c.service = x ∧ c.number = m)) → Maps.has D (nkey x m) = false) ∧
 (∀ (i : Nat) c, i < k → B.cps[i]? = some c → Maps.has D (nkey c.service c.number) = true ∧ D.atKey (nkey c.service c.number) (.lit (.int .i64 0)) = .lit (.int .i64 i))
theorem CopiesAt.blk {w w' : World} {b : Nat} {B : Bk} {k : Nat} (h : CopiesAt w b B k) (hb : w'.heap[b]? = w.heap[b]?) : CopiesAt w' b B k := by
 obtain ⟨n, D, hn, ⟨es, clock, he, F, hs, hD⟩, r⟩ := h
 exact ⟨n, D, hn, ⟨es, clock, by rw [hb]; exact he, F, hs, hD⟩, r⟩
theorem CopiesAt.lt {w : World} {b : Nat} {B : Bk} {k : Nat} (h : CopiesAt w b B k) : b < w.heap.size := by
 obtain ⟨n, D, hn, hown, _⟩ := h
 exact hown.lt
theorem CopiesAt.start (w : World) (B : Bk) : CopiesAt (w.alloc (.map #[] 0)) w.heap.size B 0 :=
 ⟨0, .map [], Nat.le_refl _, World.ownsMap_made w _ _ _, fun _ _ _ _ _ => rfl, fun i s hi => absurd hi (by omega)⟩
theorem CopiesAt.step {w' : World} {b : Nat} {B : Bk} {k n : Nat} {D : DataW Unit} {s : Cp} (hz : ∀ s ∈ B.cps, s.service.size ≤ maxLen ∧ s.berth.size ≤ maxLen) (hw : wfC B) (hu : uniqC B) (hsk : B.cps[k]? = some s)
  (hn : n ≤ k) (h1 : ∀ (x : ByteArray) (m : Int), x.size ≤ maxLen → (Lit.int .i64 m).wf = true → (∀ (i : Nat) c, i < k → B.cps[i]? = some c → ¬ (c.service = x ∧ c.number = m)) → Maps.has D (nkey x m) = false)
  (h2 : ∀ (i : Nat) c, i < k → B.cps[i]? = some c → Maps.has D (nkey c.service c.number) = true ∧ D.atKey (nkey c.service c.number) (.lit (.int .i64 0)) = .lit (.int .i64 i))
  (hD : IsMap D)
  (hown : w'.ownsMap Tryz.prog 167 (plainElem Tryz.prog 3) b (n + 1) (D.put (nkey s.service s.number) (.lit (.int .i64 (k : Int))))) : CopiesAt w' b B (k + 1) := by
 have hss := (hz s (List.mem_of_getElem? hsk)).1
 have hsw := hw s (List.mem_of_getElem? hsk)
 refine ⟨n + 1, _, by omega, hown, fun x m hx hm hno => ?_, fun i t hi ht => ?_⟩
 ·rw [has_put_other (fun e => hno k s (by omega) hsk (let ⟨a, b⟩ := nkey_inj hm hsw hx hss e; ⟨a.symm, b.symm⟩))]
  exact h1 x m hx hm fun i t hi ht => hno i t (by omega) ht
 ·rcases Nat.lt_or_ge i k with h' | h'
  ·have hts := (hz t (List.mem_of_getElem? ht)).1
   have htw := hw t (List.mem_of_getElem? ht)
   have hne : nkey t.service t.number ≠ nkey s.service s.number := fun e => hu i k t s h' ht hsk (nkey_inj htw hsw hts hss e)
   rw [has_put_other hne, atKey_put_other hne]
   exact h2 i t h' ht
  ·have e : i = k := by omega
   subst e
   rw [hsk] at ht
   cases ht
   exact ⟨has_put_same hD (nkey_isKey _ _) _, atKey_put_same hD (nkey_isKey _ _) _ _⟩
set_option maxHeartbeats 4000000 in
theorem copyPlaces_any (B : Bk) (a1 a2 a3 : Option Addr) (c1 c2 c3 : Nat) (w : World) (hS : B.small) (hZ : B.sized) (hW : wfC B) (hU : uniqC B) (hB : BkAt w a1 a2 a3 B) :
  Calls Tryz.prog 150 #[.agg #[.int .i64 B.now, .slice a1 B.svcs.length c1, .slice a2 B.cps.length c2, .slice a3 B.bts.length c3]] w fun e w' => e = .returned (.map (some (w.heap.size + 1))) ∧ CopiesAt w' (w.heap.size + 1) B B.cps.length ∧ Below w.heap.size w w' := by
 obtain ⟨hl1, hl2, hl3⟩ := hS
 have hmm := run_makeMap_c
 obtain ⟨t0, t1, t2⟩ := two_new w (.cells #[.int .i64 B.now, .slice a1 B.svcs.length c1, .slice a2 B.cps.length c2, .slice a3 B.bts.length c3] 34) (.map #[] 0)
 have T0 : Hid _ := t0
 have T1 : Hid (CopiesAt ((w.alloc (.cells #[.int .i64 B.now, .slice a1 B.svcs.length c1, .slice a2 B.cps.length c2, .slice a3 B.bts.length c3] 34)).alloc (.map #[] 0)) (w.heap.size + 1) B 0) := by
  have := CopiesAt.start (w.alloc (.cells #[.int .i64 B.now, .slice a1 B.svcs.length c1, .slice a2 B.cps.length c2, .slice a3 B.bts.length c3] 34)) B
  have e : (w.alloc (.cells #[.int .i64 B.now, .slice a1 B.svcs.length c1, .slice a2 B.cps.length c2, .slice a3 B.bts.length c3] 34)).heap.size = w.heap.size + 1 := by show (w.heap.push _).size = _; simp
  rw [e] at this
  exact this
 clear t0 t1 t2
 go_enter Tryz.func150, Tryz.ntmps150
 go_wp2
 clear hmm
 go_loopw [13] (fun iv wr => ∃ k : Nat, k ≤ B.cps.length ∧ iv = .int .i64 k ∧ Below w.heap.size w wr ∧ Hid (CopiesAt wr (w.heap.size + 1) B k)) (fun i _ => B.cps.length - (intOf i).toNat)
 case atStart => exact ⟨0, by omega, rfl, ((Below.refl _ _).alloc (Nat.le_refl _) _).alloc (by simp) _, T1⟩
 case round =>
  obtain ⟨k, hk, rfl, hb, hpl⟩ := hrel
  have hNlt : w.heap.size + 1 < wr.heap.size := hpl.out.lt
  by_cases hlt : k < B.cps.length
  ·have hne : B.cps ≠ [] := by intro h; rw [h] at hlt; simp at hlt
   obtain ⟨b, off, ea, hbs, hat⟩ := hB.2.1 hne
   subst ea
   obtain ⟨s, hsk⟩ : ∃ s, B.cps[k]? = some s := ⟨B.cps[k], by simp [hlt]⟩
   have hmem := (hZ.2.2.2.2.1 s (List.mem_of_getElem? hsk)).1
   have hwf := hW s (List.mem_of_getElem? hsk)
   have HWF : Hid _ := hwf
   have HSK : Hid _ := hsk
   have hcs := (hat k s hsk).below hb hbs
   unfold CpAt at hcs
   obtain ⟨x0, x1, x2, x3, x4, x5, x6⟩ := hcs
   obtain ⟨n, D, hn, hown, h1, h2⟩ := hpl.out
   have H1 : Hid _ := h1
   have H2 : Hid _ := h2
   have hnn : n < maxLen := by unfold maxLen; omega
   clear hsk hat hne h1 h2 hwf
   go_wp2_with (at_mapUpdate; refine wpList_mapUpdate_own _ rfl (.tmp 18) (.tmp 23) (.tmp 24) 191 rfl 167 3 numLaw Tryz.underlying191 (plainElem Tryz.prog 3) (w.heap.size + 1) n D rfl (hown.alloc _) hnn _ _ _ rfl rfl (nkey_ok s.service s.number HWF.out hmem) _ [] (plainElem_int Tryz.underlying3 (WalkArith.wf_i64 (by omega))) ?_; intro w1 hown1 hgrow1)
   have hsz : (wr.alloc (.cells #[.string s.service, .int .i64 s.number, .int .i64 s.version, .int .i64 s.image, .int .i64 s.state, .bool s.ending, .string s.berth] 88)).heap.size = wr.heap.size + 1 := by show (wr.heap.push _).size = _; simp
   have hb1 : Below w.heap.size w w1 := (hb.alloc hb.size _).grown hgrow1 (by rw [hsz]; omega) (fun j hj => by cases hj; omega)
   have hpl1 : Hid _ := CopiesAt.step hZ.2.2.2.2.1 hW hU HSK.out hn H1.out H2.out hown.isMap hown1
   go_roundw
   case rel => exact ⟨k + 1, by omega, by go_num, hb1, hpl1⟩
   case measure => simp [intOf]; omega
  ·go_wp2
   go_ret
   have hkl : k = B.cps.length := by omega
   subst hkl
   exact ⟨rfl, hpl.out, hb⟩
end Go.Proofs.YtbceafpodamnfabGreat
