/-
  My own: Md, Qh, Td, Nd, Jb, Jc.
-/
import Derived.Test.YtbceafpodamnfabGreatG24
import Derived.Test.YtbceafpodamnfabGreatG04
import Derived.Test.YtbceafpodamnfabGreatG14
import Derived.Test.YtbceafpodamnfabGreatG23
set_option linter.unusedVariables false
set_option linter.unusedSimpArgs false
namespace Go.Proofs.YtbceafpodamnfabGreat
open Go.RowKit Go.Sort
set_option maxRecDepth 100000 in
set_option maxHeartbeats 8000000 in
theorem heldSvcS_any (n : Nat) (ao : Option Addr) (cap : Nat) (k0 : Int) (w : World) (hl : n ≤ 1048576) (h0 : 1 ≤ k0) (h1 : k0 + 13 * n < 100000000) (hC : SlS w ao (marksSvc k0 n)) :
  Calls Tryz.prog 46 #[.slice ao n cap, .int .i64 k0] w fun e w' => e = .returned (.int .i64 (k0 + 13 * n)) ∧ Below w.heap.size w w' := by
 go_enter Tryz.func46, Tryz.ntmps46
 go_wp2
 go_loopw [1, 5] (fun kv iv wr => ∃ (i : Nat) (k : Int), i ≤ n ∧ iv = .int .i64 i ∧ kv = .int .i64 k ∧ Hid (k = k0 + 13 * i) ∧ 1 ≤ k ∧ k ≤ k0 + 13 * i ∧ Below w.heap.size w wr) (fun _ i _ => n - (intOf i).toNat)
 case atStart => exact ⟨0, k0, by omega, rfl, rfl, by unfold Hid; simp, h0, by simp, Below.refl _ _⟩
 case round =>
  obtain ⟨i, k, hi, rfl, rfl, HK, hk1, hk2, hb⟩ := hrel
  by_cases hlt : i < n
  ·obtain ⟨b, off, ea, hbs, hat⟩ := hC (by intro h; have := marksSvc_len k0 n; rw [h] at this; simp at this; omega)
   subst ea
   have hcx := hat i _ (marksSvc_at hlt)
   rw [← HK.out] at hcx
   have HCX : Hid (SvcAt w b (off + i * 13) (markSvc k)) := hcx
   clear hat hcx
   go_wp2
   refine wp_region_grows 7 (by kernel_rfl) (by kernel_rfl) ?_
   apply grow_eq
   ·intro V W K A hW hd hA hK
    simp only [putAll, List.getElem?_toArray, List.getElem?_cons_succ, List.getElem?_cons_zero, Option.bind_some, Act.put, List.setIfInBounds_toArray, List.set_cons_succ, List.set_cons_zero] at hA
    clear hd
    generalize V 0 = x0 at hA
    generalize V 1 = x1 at hA
    generalize V 2 = x2 at hA
    generalize V 3 = x3 at hA
    generalize V 4 = x4 at hA
    generalize V 5 = x5 at hA
    generalize V 6 = x6 at hA
    obtain rfl := hA
    go_wp2
    exact hK.out _ (Below.refl _ _)
   apply grow_eq
   ·intro V W K A hW hd hA hK
    simp only [putAll, List.getElem?_toArray, List.getElem?_cons_succ, List.getElem?_cons_zero, Option.bind_some, Act.put, List.setIfInBounds_toArray, List.set_cons_succ, List.set_cons_zero] at hA
    clear hd
    generalize V 0 = x0 at hA
    generalize V 1 = x1 at hA
    generalize V 2 = x2 at hA
    generalize V 3 = x3 at hA
    generalize V 4 = x4 at hA
    generalize V 5 = x5 at hA
    generalize V 6 = x6 at hA
    obtain rfl := hA
    go_wp2
    exact hK.out _ (Below.refl _ _)
   apply grow_eq
   ·intro V W K A hW hd hA hK
    have d0 : V 0 = _ := hd 0 (by kernel_rfl)
    have d1 : V 1 = _ := hd 1 (by kernel_rfl)
    simp only [putAll, List.getElem?_toArray, List.getElem?_cons_succ, List.getElem?_cons_zero, Option.bind_some, Act.put, List.setIfInBounds_toArray, List.set_cons_succ, List.set_cons_zero] at hA
    clear hd
    generalize V 0 = x0 at d0 hA
    generalize V 1 = x1 at d1 hA
    generalize V 2 = x2 at hA
    generalize V 3 = x3 at hA
    generalize V 4 = x4 at hA
    generalize V 5 = x5 at hA
    generalize V 6 = x6 at hA
    subst d0
    subst d1
    obtain rfl := hA
    go_wp2
    exact hK.out _ (Below.refl _ _)
   apply grow_eq
   ·intro V W K A hW hd hA hK
    have d2 : V 2 = _ := hd 2 (by kernel_rfl)
    simp only [putAll, List.getElem?_toArray, List.getElem?_cons_succ, List.getElem?_cons_zero, Option.bind_some, Act.put, List.setIfInBounds_toArray, List.set_cons_succ, List.set_cons_zero] at hA
    clear hd
    generalize V 0 = x0 at hA
    generalize V 1 = x1 at hA
    generalize V 2 = x2 at d2 hA
    generalize V 3 = x3 at hA
    generalize V 4 = x4 at hA
    generalize V 5 = x5 at hA
    generalize V 6 = x6 at hA
    subst d2
    obtain rfl := hA
    go_wp2
    exact hK.out _ (Below.refl _ _)
   apply grow_eq
   ·intro V W K A hW hd hA hK
    have d3 : V 3 = _ := hd 3 (by kernel_rfl)
    simp only [putAll, List.getElem?_toArray, List.getElem?_cons_succ, List.getElem?_cons_zero, Option.bind_some, Act.put, List.setIfInBounds_toArray, List.set_cons_succ, List.set_cons_zero] at hA
    clear hd
    generalize V 0 = x0 at hA
    generalize V 1 = x1 at hA
    generalize V 2 = x2 at hA
    generalize V 3 = x3 at d3 hA
    generalize V 4 = x4 at hA
    generalize V 5 = x5 at hA
    generalize V 6 = x6 at hA
    subst d3
    obtain rfl := hA
    have hq := HCX.out.below (hb.trans (hW.mono hb.size)) hbs
    unfold SvcAt markSvc at hq
    dsimp only at hq
    obtain ⟨q0, q1, q2, q3, q4, q5, q6, q7, q8, q9, q10, q11, q12⟩ := hq
    go_wp2
    exact hK.out _ (Below.refl _ _)
   apply grow_eq
   ·intro V W K A hW hd hA hK
    simp only [putAll, List.getElem?_toArray, List.getElem?_cons_succ, List.getElem?_cons_zero, Option.bind_some, Act.put, List.setIfInBounds_toArray, List.set_cons_succ, List.set_cons_zero] at hA
    clear hd
    generalize V 0 = x0 at hA
    generalize V 1 = x1 at hA
    generalize V 2 = x2 at hA
    generalize V 3 = x3 at hA
    generalize V 4 = x4 at hA
    generalize V 5 = x5 at hA
    generalize V 6 = x6 at hA
    obtain rfl := hA
    go_wp2
    exact hK.out _ (Below.refl _ _)
   apply grow_eq
   ·intro V W K A hW hd hA hK
    have d5 : V 5 = _ := hd 5 (by kernel_rfl)
    simp only [putAll, List.getElem?_toArray, List.getElem?_cons_succ, List.getElem?_cons_zero, Option.bind_some, Act.put, List.setIfInBounds_toArray, List.set_cons_succ, List.set_cons_zero] at hA
    clear hd
    generalize V 0 = x0 at hA
    generalize V 1 = x1 at hA
    generalize V 2 = x2 at hA
    generalize V 3 = x3 at hA
    generalize V 4 = x4 at hA
    generalize V 5 = x5 at d5 hA
    generalize V 6 = x6 at hA
    subst d5
    obtain rfl := hA
    go_wp2_with fail
    refine (markText_any (k) _ (by omega) (by omega)).mono ?_
    rintro e w3 ⟨rfl, hb3⟩
    go_wp2
    exact hK.out _ hb3
   intro V W A hW hS hA
   have d0 : V 0 = _ := hS 0 (by omega)
   have d1 : V 1 = _ := hS 1 (by omega)
   have d2 : V 2 = _ := hS 2 (by omega)
   have d3 : V 3 = _ := hS 3 (by omega)
   have d4 : V 4 = _ := hS 4 (by omega)
   have d5 : V 5 = _ := hS 5 (by omega)
   have d6 : V 6 = _ := hS 6 (by omega)
   simp only [putAll, List.getElem?_toArray, List.getElem?_cons_succ, List.getElem?_cons_zero, Option.bind_some, Act.put, List.setIfInBounds_toArray, List.set_cons_succ, List.set_cons_zero] at hA
   clear hS
   generalize V 0 = x0 at d0 hA
   generalize V 1 = x1 at d1 hA
   generalize V 2 = x2 at d2 hA
   generalize V 3 = x3 at d3 hA
   generalize V 4 = x4 at d4 hA
   generalize V 5 = x5 at d5 hA
   generalize V 6 = x6 at d6 hA
   subst d0
   subst d1
   subst d2
   subst d3
   subst d4
   subst d5
   subst d6
   obtain rfl := hA
   simp only [List.drop_succ_cons, List.drop_zero]
   have hbt0 := hb.trans (hW.mono hb.size)
   clear hW
   have hq := HCX.out.below (hbt0) hbs
   unfold SvcAt markSvc at hq
   dsimp only at hq
   obtain ⟨q0, q1, q2, q3, q4, q5, q6, q7, q8, q9, q10, q11, q12⟩ := hq
   go_wp2
   go_roundw
   case rel => exact ⟨i + 1, k + 1 + 1 + 1 + 1 + 1 + 1 + 1 + 1 + 1 + 1 + 1 + 1 + 1, by omega, by go_num, rfl, by unfold Hid; rw [HK.out]; push_cast; omega, by omega, by push_cast; omega, hbt0⟩
   case measure => simp [intOf]; omega
  ·go_wp2
   go_ret
   have hil : i = n := by omega
   subst hil
   have hkk := HK.out
   subst hkk
   exact ⟨rfl, hb⟩
set_option maxRecDepth 100000 in
set_option maxHeartbeats 8000000 in
theorem heldCpS_any (n : Nat) (ao : Option Addr) (cap : Nat) (k0 : Int) (w : World) (hl : n ≤ 1048576) (h0 : 1 ≤ k0) (h1 : k0 + 7 * n < 100000000) (hC : SlC w ao (marksCp k0 n)) :
  Calls Tryz.prog 47 #[.slice ao n cap, .int .i64 k0] w fun e w' => e = .returned (.int .i64 (k0 + 7 * n)) ∧ Below w.heap.size w w' := by
 go_enter Tryz.func47, Tryz.ntmps47
 go_wp2
 go_loopw [1, 5] (fun kv iv wr => ∃ (i : Nat) (k : Int), i ≤ n ∧ iv = .int .i64 i ∧ kv = .int .i64 k ∧ Hid (k = k0 + 7 * i) ∧ 1 ≤ k ∧ k ≤ k0 + 7 * i ∧ Below w.heap.size w wr) (fun _ i _ => n - (intOf i).toNat)
 case atStart => exact ⟨0, k0, by omega, rfl, rfl, by unfold Hid; simp, h0, by simp, Below.refl _ _⟩
 case round =>
  obtain ⟨i, k, hi, rfl, rfl, HK, hk1, hk2, hb⟩ := hrel
  by_cases hlt : i < n
  ·obtain ⟨b, off, ea, hbs, hat⟩ := hC (by intro h; have := marksCp_len k0 n; rw [h] at this; simp at this; omega)
   subst ea
   have hcx := hat i _ (marksCp_at hlt)
   rw [← HK.out] at hcx
   have HCX : Hid (CpAt w b (off + i * 7) (markCp k)) := hcx
   clear hat hcx
   go_wp2
   refine wp_region_grows 7 (by kernel_rfl) (by kernel_rfl) ?_
   apply grow_eq
   ·intro V W K A hW hd hA hK
    simp only [putAll, List.getElem?_toArray, List.getElem?_cons_succ, List.getElem?_cons_zero, Option.bind_some, Act.put, List.setIfInBounds_toArray, List.set_cons_succ, List.set_cons_zero] at hA
    clear hd
    generalize V 0 = x0 at hA
    generalize V 1 = x1 at hA
    generalize V 2 = x2 at hA
    generalize V 3 = x3 at hA
    generalize V 4 = x4 at hA
    generalize V 5 = x5 at hA
    generalize V 6 = x6 at hA
    obtain rfl := hA
    go_wp2
    exact hK.out _ (Below.refl _ _)
   apply grow_eq
   ·intro V W K A hW hd hA hK
    simp only [putAll, List.getElem?_toArray, List.getElem?_cons_succ, List.getElem?_cons_zero, Option.bind_some, Act.put, List.setIfInBounds_toArray, List.set_cons_succ, List.set_cons_zero] at hA
    clear hd
    generalize V 0 = x0 at hA
    generalize V 1 = x1 at hA
    generalize V 2 = x2 at hA
    generalize V 3 = x3 at hA
    generalize V 4 = x4 at hA
    generalize V 5 = x5 at hA
    generalize V 6 = x6 at hA
    obtain rfl := hA
    go_wp2
    exact hK.out _ (Below.refl _ _)
   apply grow_eq
   ·intro V W K A hW hd hA hK
    have d0 : V 0 = _ := hd 0 (by kernel_rfl)
    have d1 : V 1 = _ := hd 1 (by kernel_rfl)
    simp only [putAll, List.getElem?_toArray, List.getElem?_cons_succ, List.getElem?_cons_zero, Option.bind_some, Act.put, List.setIfInBounds_toArray, List.set_cons_succ, List.set_cons_zero] at hA
    clear hd
    generalize V 0 = x0 at d0 hA
    generalize V 1 = x1 at d1 hA
    generalize V 2 = x2 at hA
    generalize V 3 = x3 at hA
    generalize V 4 = x4 at hA
    generalize V 5 = x5 at hA
    generalize V 6 = x6 at hA
    subst d0
    subst d1
    obtain rfl := hA
    go_wp2
    exact hK.out _ (Below.refl _ _)
   apply grow_eq
   ·intro V W K A hW hd hA hK
    have d2 : V 2 = _ := hd 2 (by kernel_rfl)
    simp only [putAll, List.getElem?_toArray, List.getElem?_cons_succ, List.getElem?_cons_zero, Option.bind_some, Act.put, List.setIfInBounds_toArray, List.set_cons_succ, List.set_cons_zero] at hA
    clear hd
    generalize V 0 = x0 at hA
    generalize V 1 = x1 at hA
    generalize V 2 = x2 at d2 hA
    generalize V 3 = x3 at hA
    generalize V 4 = x4 at hA
    generalize V 5 = x5 at hA
    generalize V 6 = x6 at hA
    subst d2
    obtain rfl := hA
    go_wp2
    exact hK.out _ (Below.refl _ _)
   apply grow_eq
   ·intro V W K A hW hd hA hK
    have d3 : V 3 = _ := hd 3 (by kernel_rfl)
    simp only [putAll, List.getElem?_toArray, List.getElem?_cons_succ, List.getElem?_cons_zero, Option.bind_some, Act.put, List.setIfInBounds_toArray, List.set_cons_succ, List.set_cons_zero] at hA
    clear hd
    generalize V 0 = x0 at hA
    generalize V 1 = x1 at hA
    generalize V 2 = x2 at hA
    generalize V 3 = x3 at d3 hA
    generalize V 4 = x4 at hA
    generalize V 5 = x5 at hA
    generalize V 6 = x6 at hA
    subst d3
    obtain rfl := hA
    have hq := HCX.out.below (hb.trans (hW.mono hb.size)) hbs
    unfold CpAt markCp at hq
    dsimp only at hq
    obtain ⟨q0, q1, q2, q3, q4, q5, q6⟩ := hq
    go_wp2
    exact hK.out _ (Below.refl _ _)
   apply grow_eq
   ·intro V W K A hW hd hA hK
    simp only [putAll, List.getElem?_toArray, List.getElem?_cons_succ, List.getElem?_cons_zero, Option.bind_some, Act.put, List.setIfInBounds_toArray, List.set_cons_succ, List.set_cons_zero] at hA
    clear hd
    generalize V 0 = x0 at hA
    generalize V 1 = x1 at hA
    generalize V 2 = x2 at hA
    generalize V 3 = x3 at hA
    generalize V 4 = x4 at hA
    generalize V 5 = x5 at hA
    generalize V 6 = x6 at hA
    obtain rfl := hA
    go_wp2
    exact hK.out _ (Below.refl _ _)
   apply grow_eq
   ·intro V W K A hW hd hA hK
    have d5 : V 5 = _ := hd 5 (by kernel_rfl)
    simp only [putAll, List.getElem?_toArray, List.getElem?_cons_succ, List.getElem?_cons_zero, Option.bind_some, Act.put, List.setIfInBounds_toArray, List.set_cons_succ, List.set_cons_zero] at hA
    clear hd
    generalize V 0 = x0 at hA
    generalize V 1 = x1 at hA
    generalize V 2 = x2 at hA
    generalize V 3 = x3 at hA
    generalize V 4 = x4 at hA
    generalize V 5 = x5 at d5 hA
    generalize V 6 = x6 at hA
    subst d5
    obtain rfl := hA
    go_wp2_with fail
    refine (markText_any (k) _ (by omega) (by omega)).mono ?_
    rintro e w3 ⟨rfl, hb3⟩
    go_wp2
    exact hK.out _ hb3
   intro V W A hW hS hA
   have d0 : V 0 = _ := hS 0 (by omega)
   have d1 : V 1 = _ := hS 1 (by omega)
   have d2 : V 2 = _ := hS 2 (by omega)
   have d3 : V 3 = _ := hS 3 (by omega)
   have d4 : V 4 = _ := hS 4 (by omega)
   have d5 : V 5 = _ := hS 5 (by omega)
   have d6 : V 6 = _ := hS 6 (by omega)
   simp only [putAll, List.getElem?_toArray, List.getElem?_cons_succ, List.getElem?_cons_zero, Option.bind_some, Act.put, List.setIfInBounds_toArray, List.set_cons_succ, List.set_cons_zero] at hA
   clear hS
   generalize V 0 = x0 at d0 hA
   generalize V 1 = x1 at d1 hA
   generalize V 2 = x2 at d2 hA
   generalize V 3 = x3 at d3 hA
   generalize V 4 = x4 at d4 hA
   generalize V 5 = x5 at d5 hA
   generalize V 6 = x6 at d6 hA
   subst d0
   subst d1
   subst d2
   subst d3
   subst d4
   subst d5
   subst d6
   obtain rfl := hA
   simp only [List.drop_succ_cons, List.drop_zero]
   have hbt0 := hb.trans (hW.mono hb.size)
   clear hW
   have hq := HCX.out.below (hbt0) hbs
   unfold CpAt markCp at hq
   dsimp only at hq
   obtain ⟨q0, q1, q2, q3, q4, q5, q6⟩ := hq
   go_wp2
   clear q0 q1 q2 q3 q4 q5 q6
   refine wp_region_grows 7 (by kernel_rfl) (by kernel_rfl) ?_
   apply grow_eq
   ·intro V W K A hW hd hA hK
    simp only [putAll, List.getElem?_toArray, List.getElem?_cons_succ, List.getElem?_cons_zero, Option.bind_some, Act.put, List.setIfInBounds_toArray, List.set_cons_succ, List.set_cons_zero] at hA
    clear hd
    generalize V 0 = x0 at hA
    generalize V 1 = x1 at hA
    generalize V 2 = x2 at hA
    generalize V 3 = x3 at hA
    generalize V 4 = x4 at hA
    generalize V 5 = x5 at hA
    generalize V 6 = x6 at hA
    obtain rfl := hA
    go_wp2
    exact hK.out _ (Below.refl _ _)
   apply grow_eq
   ·intro V W K A hW hd hA hK
    simp only [putAll, List.getElem?_toArray, List.getElem?_cons_succ, List.getElem?_cons_zero, Option.bind_some, Act.put, List.setIfInBounds_toArray, List.set_cons_succ, List.set_cons_zero] at hA
    clear hd
    generalize V 0 = x0 at hA
    generalize V 1 = x1 at hA
    generalize V 2 = x2 at hA
    generalize V 3 = x3 at hA
    generalize V 4 = x4 at hA
    generalize V 5 = x5 at hA
    generalize V 6 = x6 at hA
    obtain rfl := hA
    go_wp2
    exact hK.out _ (Below.refl _ _)
   apply grow_eq
   ·intro V W K A hW hd hA hK
    have d0 : V 0 = _ := hd 0 (by kernel_rfl)
    have d1 : V 1 = _ := hd 1 (by kernel_rfl)
    simp only [putAll, List.getElem?_toArray, List.getElem?_cons_succ, List.getElem?_cons_zero, Option.bind_some, Act.put, List.setIfInBounds_toArray, List.set_cons_succ, List.set_cons_zero] at hA
    clear hd
    generalize V 0 = x0 at d0 hA
    generalize V 1 = x1 at d1 hA
    generalize V 2 = x2 at hA
    generalize V 3 = x3 at hA
    generalize V 4 = x4 at hA
    generalize V 5 = x5 at hA
    generalize V 6 = x6 at hA
    subst d0
    subst d1
    obtain rfl := hA
    go_wp2
    exact hK.out _ (Below.refl _ _)
   apply grow_eq
   ·intro V W K A hW hd hA hK
    have d2 : V 2 = _ := hd 2 (by kernel_rfl)
    simp only [putAll, List.getElem?_toArray, List.getElem?_cons_succ, List.getElem?_cons_zero, Option.bind_some, Act.put, List.setIfInBounds_toArray, List.set_cons_succ, List.set_cons_zero] at hA
    clear hd
    generalize V 0 = x0 at hA
    generalize V 1 = x1 at hA
    generalize V 2 = x2 at d2 hA
    generalize V 3 = x3 at hA
    generalize V 4 = x4 at hA
    generalize V 5 = x5 at hA
    generalize V 6 = x6 at hA
    subst d2
    obtain rfl := hA
    go_wp2
    exact hK.out _ (Below.refl _ _)
   apply grow_eq
   ·intro V W K A hW hd hA hK
    have d3 : V 3 = _ := hd 3 (by kernel_rfl)
    simp only [putAll, List.getElem?_toArray, List.getElem?_cons_succ, List.getElem?_cons_zero, Option.bind_some, Act.put, List.setIfInBounds_toArray, List.set_cons_succ, List.set_cons_zero] at hA
    clear hd
    generalize V 0 = x0 at hA
    generalize V 1 = x1 at hA
    generalize V 2 = x2 at hA
    generalize V 3 = x3 at d3 hA
    generalize V 4 = x4 at hA
    generalize V 5 = x5 at hA
    generalize V 6 = x6 at hA
    subst d3
    obtain rfl := hA
    have hq := HCX.out.below (hbt0.trans (hW.mono hbt0.size)) hbs
    unfold CpAt markCp at hq
    dsimp only at hq
    obtain ⟨q0, q1, q2, q3, q4, q5, q6⟩ := hq
    go_wp2
    exact hK.out _ (Below.refl _ _)
   apply grow_eq
   ·intro V W K A hW hd hA hK
    simp only [putAll, List.getElem?_toArray, List.getElem?_cons_succ, List.getElem?_cons_zero, Option.bind_some, Act.put, List.setIfInBounds_toArray, List.set_cons_succ, List.set_cons_zero] at hA
    clear hd
    generalize V 0 = x0 at hA
    generalize V 1 = x1 at hA
    generalize V 2 = x2 at hA
    generalize V 3 = x3 at hA
    generalize V 4 = x4 at hA
    generalize V 5 = x5 at hA
    generalize V 6 = x6 at hA
    obtain rfl := hA
    go_wp2
    exact hK.out _ (Below.refl _ _)
   apply grow_eq
   ·intro V W K A hW hd hA hK
    have d5 : V 5 = _ := hd 5 (by kernel_rfl)
    simp only [putAll, List.getElem?_toArray, List.getElem?_cons_succ, List.getElem?_cons_zero, Option.bind_some, Act.put, List.setIfInBounds_toArray, List.set_cons_succ, List.set_cons_zero] at hA
    clear hd
    generalize V 0 = x0 at hA
    generalize V 1 = x1 at hA
    generalize V 2 = x2 at hA
    generalize V 3 = x3 at hA
    generalize V 4 = x4 at hA
    generalize V 5 = x5 at d5 hA
    generalize V 6 = x6 at hA
    subst d5
    obtain rfl := hA
    go_wp2_with fail
    refine (markText_any (k + 1 + 1 + 1 + 1 + 1 + 1) _ (by omega) (by omega)).mono ?_
    rintro e w3 ⟨rfl, hb3⟩
    go_wp2
    exact hK.out _ hb3
   intro V W A hW hS hA
   have d0 : V 0 = _ := hS 0 (by omega)
   have d1 : V 1 = _ := hS 1 (by omega)
   have d2 : V 2 = _ := hS 2 (by omega)
   have d3 : V 3 = _ := hS 3 (by omega)
   have d4 : V 4 = _ := hS 4 (by omega)
   have d5 : V 5 = _ := hS 5 (by omega)
   have d6 : V 6 = _ := hS 6 (by omega)
   simp only [putAll, List.getElem?_toArray, List.getElem?_cons_succ, List.getElem?_cons_zero, Option.bind_some, Act.put, List.setIfInBounds_toArray, List.set_cons_succ, List.set_cons_zero] at hA
   clear hS
   generalize V 0 = x0 at d0 hA
   generalize V 1 = x1 at d1 hA
   generalize V 2 = x2 at d2 hA
   generalize V 3 = x3 at d3 hA
   generalize V 4 = x4 at d4 hA
   generalize V 5 = x5 at d5 hA
   generalize V 6 = x6 at d6 hA
   subst d0
   subst d1
   subst d2
   subst d3
   subst d4
   subst d5
   subst d6
   obtain rfl := hA
   simp only [List.drop_succ_cons, List.drop_zero]
   have hbt1 := hbt0.trans (hW.mono hbt0.size)
   clear hW
   have hq := HCX.out.below (hbt1) hbs
   unfold CpAt markCp at hq
   dsimp only at hq
   obtain ⟨q0, q1, q2, q3, q4, q5, q6⟩ := hq
   go_wp2
   go_roundw
   case rel => exact ⟨i + 1, k + 1 + 1 + 1 + 1 + 1 + 1 + 1, by omega, by go_num, rfl, by unfold Hid; rw [HK.out]; push_cast; omega, by omega, by push_cast; omega, hbt1⟩
   case measure => simp [intOf]; omega
  ·go_wp2
   go_ret
   have hil : i = n := by omega
   subst hil
   have hkk := HK.out
   subst hkk
   exact ⟨rfl, hb⟩
set_option maxRecDepth 100000 in
set_option maxHeartbeats 8000000 in
theorem heldBtS_any (n : Nat) (ao : Option Addr) (cap : Nat) (k0 : Int) (w : World) (hl : n ≤ 1048576) (h0 : 1 ≤ k0) (h1 : k0 + 2 * n < 100000000) (hC : SlB w ao (marksBt k0 n)) :
  Calls Tryz.prog 48 #[.slice ao n cap, .int .i64 k0] w fun e w' => e = .returned (.int .i64 (k0 + 2 * n)) ∧ Below w.heap.size w w' := by
 go_enter Tryz.func48, Tryz.ntmps48
 go_wp2
 go_loopw [1, 5] (fun kv iv wr => ∃ (i : Nat) (k : Int), i ≤ n ∧ iv = .int .i64 i ∧ kv = .int .i64 k ∧ Hid (k = k0 + 2 * i) ∧ 1 ≤ k ∧ k ≤ k0 + 2 * i ∧ Below w.heap.size w wr) (fun _ i _ => n - (intOf i).toNat)
 case atStart => exact ⟨0, k0, by omega, rfl, rfl, by unfold Hid; simp, h0, by simp, Below.refl _ _⟩
 case round =>
  obtain ⟨i, k, hi, rfl, rfl, HK, hk1, hk2, hb⟩ := hrel
  by_cases hlt : i < n
  ·obtain ⟨b, off, ea, hbs, hat⟩ := hC (by intro h; have := marksBt_len k0 n; rw [h] at this; simp at this; omega)
   subst ea
   have hcx := hat i _ (marksBt_at hlt)
   rw [← HK.out] at hcx
   have HCX : Hid (BtAt w b (off + i * 2) (markBt k)) := hcx
   clear hat hcx
   go_wp2
   refine wp_region_grows 7 (by kernel_rfl) (by kernel_rfl) ?_
   apply grow_eq
   ·intro V W K A hW hd hA hK
    simp only [putAll, List.getElem?_toArray, List.getElem?_cons_succ, List.getElem?_cons_zero, Option.bind_some, Act.put, List.setIfInBounds_toArray, List.set_cons_succ, List.set_cons_zero] at hA
    clear hd
    generalize V 0 = x0 at hA
    generalize V 1 = x1 at hA
    generalize V 2 = x2 at hA
    generalize V 3 = x3 at hA
    generalize V 4 = x4 at hA
    generalize V 5 = x5 at hA
    generalize V 6 = x6 at hA
    obtain rfl := hA
    go_wp2
    exact hK.out _ (Below.refl _ _)
   apply grow_eq
   ·intro V W K A hW hd hA hK
    simp only [putAll, List.getElem?_toArray, List.getElem?_cons_succ, List.getElem?_cons_zero, Option.bind_some, Act.put, List.setIfInBounds_toArray, List.set_cons_succ, List.set_cons_zero] at hA
    clear hd
    generalize V 0 = x0 at hA
    generalize V 1 = x1 at hA
    generalize V 2 = x2 at hA
    generalize V 3 = x3 at hA
    generalize V 4 = x4 at hA
    generalize V 5 = x5 at hA
    generalize V 6 = x6 at hA
    obtain rfl := hA
    go_wp2
    exact hK.out _ (Below.refl _ _)
   apply grow_eq
   ·intro V W K A hW hd hA hK
    have d0 : V 0 = _ := hd 0 (by kernel_rfl)
    have d1 : V 1 = _ := hd 1 (by kernel_rfl)
    simp only [putAll, List.getElem?_toArray, List.getElem?_cons_succ, List.getElem?_cons_zero, Option.bind_some, Act.put, List.setIfInBounds_toArray, List.set_cons_succ, List.set_cons_zero] at hA
    clear hd
    generalize V 0 = x0 at d0 hA
    generalize V 1 = x1 at d1 hA
    generalize V 2 = x2 at hA
    generalize V 3 = x3 at hA
    generalize V 4 = x4 at hA
    generalize V 5 = x5 at hA
    generalize V 6 = x6 at hA
    subst d0
    subst d1
    obtain rfl := hA
    go_wp2
    exact hK.out _ (Below.refl _ _)
   apply grow_eq
   ·intro V W K A hW hd hA hK
    have d2 : V 2 = _ := hd 2 (by kernel_rfl)
    simp only [putAll, List.getElem?_toArray, List.getElem?_cons_succ, List.getElem?_cons_zero, Option.bind_some, Act.put, List.setIfInBounds_toArray, List.set_cons_succ, List.set_cons_zero] at hA
    clear hd
    generalize V 0 = x0 at hA
    generalize V 1 = x1 at hA
    generalize V 2 = x2 at d2 hA
    generalize V 3 = x3 at hA
    generalize V 4 = x4 at hA
    generalize V 5 = x5 at hA
    generalize V 6 = x6 at hA
    subst d2
    obtain rfl := hA
    go_wp2
    exact hK.out _ (Below.refl _ _)
   apply grow_eq
   ·intro V W K A hW hd hA hK
    have d3 : V 3 = _ := hd 3 (by kernel_rfl)
    simp only [putAll, List.getElem?_toArray, List.getElem?_cons_succ, List.getElem?_cons_zero, Option.bind_some, Act.put, List.setIfInBounds_toArray, List.set_cons_succ, List.set_cons_zero] at hA
    clear hd
    generalize V 0 = x0 at hA
    generalize V 1 = x1 at hA
    generalize V 2 = x2 at hA
    generalize V 3 = x3 at d3 hA
    generalize V 4 = x4 at hA
    generalize V 5 = x5 at hA
    generalize V 6 = x6 at hA
    subst d3
    obtain rfl := hA
    have hq := HCX.out.below (hb.trans (hW.mono hb.size)) hbs
    unfold BtAt markBt at hq
    dsimp only at hq
    obtain ⟨q0, q1⟩ := hq
    go_wp2
    exact hK.out _ (Below.refl _ _)
   apply grow_eq
   ·intro V W K A hW hd hA hK
    simp only [putAll, List.getElem?_toArray, List.getElem?_cons_succ, List.getElem?_cons_zero, Option.bind_some, Act.put, List.setIfInBounds_toArray, List.set_cons_succ, List.set_cons_zero] at hA
    clear hd
    generalize V 0 = x0 at hA
    generalize V 1 = x1 at hA
    generalize V 2 = x2 at hA
    generalize V 3 = x3 at hA
    generalize V 4 = x4 at hA
    generalize V 5 = x5 at hA
    generalize V 6 = x6 at hA
    obtain rfl := hA
    go_wp2
    exact hK.out _ (Below.refl _ _)
   apply grow_eq
   ·intro V W K A hW hd hA hK
    have d5 : V 5 = _ := hd 5 (by kernel_rfl)
    simp only [putAll, List.getElem?_toArray, List.getElem?_cons_succ, List.getElem?_cons_zero, Option.bind_some, Act.put, List.setIfInBounds_toArray, List.set_cons_succ, List.set_cons_zero] at hA
    clear hd
    generalize V 0 = x0 at hA
    generalize V 1 = x1 at hA
    generalize V 2 = x2 at hA
    generalize V 3 = x3 at hA
    generalize V 4 = x4 at hA
    generalize V 5 = x5 at d5 hA
    generalize V 6 = x6 at hA
    subst d5
    obtain rfl := hA
    go_wp2_with fail
    refine (markText_any (k) _ (by omega) (by omega)).mono ?_
    rintro e w3 ⟨rfl, hb3⟩
    go_wp2
    exact hK.out _ hb3
   intro V W A hW hS hA
   have d0 : V 0 = _ := hS 0 (by omega)
   have d1 : V 1 = _ := hS 1 (by omega)
   have d2 : V 2 = _ := hS 2 (by omega)
   have d3 : V 3 = _ := hS 3 (by omega)
   have d4 : V 4 = _ := hS 4 (by omega)
   have d5 : V 5 = _ := hS 5 (by omega)
   have d6 : V 6 = _ := hS 6 (by omega)
   simp only [putAll, List.getElem?_toArray, List.getElem?_cons_succ, List.getElem?_cons_zero, Option.bind_some, Act.put, List.setIfInBounds_toArray, List.set_cons_succ, List.set_cons_zero] at hA
   clear hS
   generalize V 0 = x0 at d0 hA
   generalize V 1 = x1 at d1 hA
   generalize V 2 = x2 at d2 hA
   generalize V 3 = x3 at d3 hA
   generalize V 4 = x4 at d4 hA
   generalize V 5 = x5 at d5 hA
   generalize V 6 = x6 at d6 hA
   subst d0
   subst d1
   subst d2
   subst d3
   subst d4
   subst d5
   subst d6
   obtain rfl := hA
   simp only [List.drop_succ_cons, List.drop_zero]
   have hbt0 := hb.trans (hW.mono hb.size)
   clear hW
   have hq := HCX.out.below (hbt0) hbs
   unfold BtAt markBt at hq
   dsimp only at hq
   obtain ⟨q0, q1⟩ := hq
   go_wp2
   go_roundw
   case rel => exact ⟨i + 1, k + 1 + 1, by omega, by go_num, rfl, by unfold Hid; rw [HK.out]; push_cast; omega, by omega, by push_cast; omega, hbt0⟩
   case measure => simp [intOf]; omega
  ·go_wp2
   go_ret
   have hil : i = n := by omega
   subst hil
   have hkk := HK.out
   subst hkk
   exact ⟨rfl, hb⟩
end Go.Proofs.YtbceafpodamnfabGreat

namespace Go.Proofs.YtbceafpodamnfabGreat
open Go.RowKit Go.Sort
def marksBk (now k : Int) (n1 n2 n3 : Nat) : Bk := ⟨now, marksSvc k n1, marksCp (k + 13 * n1) n2, marksBt (k + 13 * n1 + 7 * n2) n3⟩
set_option maxHeartbeats 2000000 in
theorem heldBook_any (now : Int) (n1 n2 n3 : Nat) (a1 a2 a3 : Option Addr) (c1 c2 c3 : Nat) (k0 : Int) (w : World) (hl1 : n1 ≤ 1048576) (hl2 : n2 ≤ 1048576) (hl3 : n3 ≤ 1048576) (h0 : 1 ≤ k0) (h1 : k0 ≤ 1000000) (hB : BkAt w a1 a2 a3 (marksBk now k0 n1 n2 n3)) :
  Calls Tryz.prog 18 #[.agg #[.int .i64 now, .slice a1 n1 c1, .slice a2 n2 c2, .slice a3 n3 c3], .int .i64 k0] w fun e w' => e = .returned (.int .i64 (k0 + 13 * n1 + 7 * n2 + 2 * n3)) ∧ Below w.heap.size w w' := by
 have hbx := below_box w (.cells #[.int .i64 now, .slice a1 n1 c1, .slice a2 n2 c2, .slice a3 n3 c3] 34)
 have T0 : Hid _ := heap_alloc_new w (.cells #[.int .i64 now, .slice a1 n1 c1, .slice a2 n2 c2, .slice a3 n3 c3] 34)
 have HSZ : Hid ((w.alloc (.cells #[.int .i64 now, .slice a1 n1 c1, .slice a2 n2 c2, .slice a3 n3 c3] 34)).heap.size = w.heap.size + 1) := by unfold Hid; show (w.heap.push _).size = _; simp
 obtain ⟨hB1, hB2, hB3⟩ := hB
 go_enter Tryz.func18, Tryz.ntmps18
 go_wp2_with fail
 refine (heldSvcS_any n1 a1 c1 k0 _ hl1 h0 (by omega) (hB1.below hbx)).mono ?_
 rintro e w1 ⟨rfl, hb1⟩
 have hbb1 := hbx.trans (hb1.mono hbx.size)
 have T1 : Hid _ := (hb1.block w.heap.size (by rw [HSZ.out]; omega)).trans T0.out
 have z1 := hb1.size
 rw [HSZ.out] at z1
 clear hb1 T0
 have e2 := blk_cell T1.out 2 rfl
 go_wp2_with fail
 refine (heldCpS_any n2 a2 c2 (k0 + 13 * n1) _ hl2 (by omega) (by omega) (hB2.below hbb1)).mono ?_
 rintro e w2 ⟨rfl, hb2⟩
 have hbb2 := hbb1.trans (hb2.mono hbb1.size)
 have T2 : Hid _ := (hb2.block w.heap.size (by omega)).trans T1.out
 clear hb2 T1 e2
 have e3 := blk_cell T2.out 3 rfl
 go_wp2_with fail
 refine (heldBtS_any n3 a3 c3 (k0 + 13 * n1 + 7 * n2) _ hl3 (by omega) (by omega) (hB3.below hbb2)).mono ?_
 rintro e w3 ⟨rfl, hb3⟩
 have hbb3 := hbb2.trans (hb3.mono hbb2.size)
 go_wp2
 go_ret
 exact ⟨rfl, hbb3⟩
end Go.Proofs.YtbceafpodamnfabGreat

namespace Go.Proofs.YtbceafpodamnfabGreat
open Go.RowKit Go.Sort
abbrev ActR := Ac × Option Addr × Nat
def AcAt (w : World) (b o : Nat) (r : ActR) : Prop := w.cell? ⟨b, o, none⟩ = some (.string r.1.service) ∧ w.cell? ⟨b, o + 1, none⟩ = some (.int .i64 r.1.seen) ∧ w.cell? ⟨b, o + 2, none⟩ = some (.int .i64 r.1.create) ∧ w.cell? ⟨b, o + 3, none⟩ = some (.int .i64 r.1.want) ∧ w.cell? ⟨b, o + 4, none⟩ = some (.int .i64 r.1.cool) ∧ w.cell? ⟨b, o + 5, none⟩ = some (.bool r.1.scale) ∧ w.cell? ⟨b, o + 6, none⟩ = some (.slice r.2.1 r.1.ends.length r.2.2) ∧ w.cell? ⟨b, o + 7, none⟩ = some (.bool r.1.drop)
theorem AcAt.below {N : Nat} {w w' : World} {b o : Nat} {r : ActR} (h : AcAt w b o r) (hb : Below N w w') (hB : b < N) : AcAt w' b o r := by
 unfold AcAt at *
 simp only [fun o => hb.cell (p := ⟨b, o, none⟩) hB]
 exact h
theorem AcAt.blk {w w' : World} {b o : Nat} {r : ActR} (h : AcAt w b o r) (hb : w'.heap[b]? = w.heap[b]?) : AcAt w' b o r := by
 unfold AcAt at *
 simp only [fun o => World.cell?_of_block (w := w) (w' := w') (a := ⟨b, o, none⟩) hb]
 exact h
def SlA (w : World) (ao : Option Addr) (R : List ActR) : Prop := R ≠ [] → ∃ b off, ao = some ⟨b, off, none⟩ ∧ b < w.heap.size ∧ ∀ i r, R[i]? = some r → AcAt w b (off + i * 8) r ∧ SlE w r.2.1 r.1.ends
theorem SlA.below {w w' : World} {ao : Option Addr} {R : List ActR} (h : SlA w ao R) (hb : Below w.heap.size w w') : SlA w' ao R := fun hn =>
 let ⟨b, off, e, hlt, hat⟩ := h hn
 ⟨b, off, e, Nat.lt_of_lt_of_le hlt hb.size, fun i r hr => ⟨(hat i r hr).1.below hb hlt, (hat i r hr).2.below hb⟩⟩
end Go.Proofs.YtbceafpodamnfabGreat

namespace Go.Proofs.YtbceafpodamnfabGreat
open Go.RowKit Go.Sort
theorem hid_of' {p : Prop} (h : p) : Hid p := h
structure Keep (lo hi : Nat) (w w' : World) : Prop where
 os : w'.os = w.os
 tape : w'.tape = w.tape
 output : w'.output = w.output
 size : w.heap.size ≤ w'.heap.size
 block : ∀ q, q < w.heap.size → (q < lo ∨ hi < q) → w'.heap[q]? = w.heap[q]?
theorem Keep.trans {lo hi : Nat} {a b c : World} (h : Keep lo hi a b) (k : Keep lo hi b c) : Keep lo hi a c :=
 ⟨k.os.trans h.os, k.tape.trans h.tape, k.output.trans h.output, Nat.le_trans h.size k.size, fun q hq hr => (k.block q (Nat.lt_of_lt_of_le hq h.size) hr).trans (h.block q hq hr)⟩
theorem keep_grown {lo hi g : Nat} {w w' : World} (h : w.grownBy w' (some g)) (h1 : lo ≤ g) (h2 : g ≤ hi) : Keep lo hi w w' :=
 ⟨h.os, h.tape, h.output, h.size, fun q hq hr => h.block q hq (fun e => by have := Option.some.inj e; omega)⟩
theorem keep_below {lo hi : Nat} {w w' : World} (h : Below w.heap.size w w') : Keep lo hi w w' := ⟨h.os, h.tape, h.output, h.size, fun q hq _ => h.block q hq⟩
theorem Keep.toBelow {lo hi n : Nat} {w w' : World} (h : Keep lo hi w w') (h1 : n ≤ lo) (h2 : n ≤ w.heap.size) : Below n w w' := ⟨h.os, h.tape, h.output, h.size, fun q hq => h.block q (by omega) (.inl (by omega))⟩
set_option maxHeartbeats 2000000 in
theorem markBook_any (B : Bk) (lo b1 b2 b3 : Nat) (k0 : Int) (w : World) (hS : B.small) (h0 : 1 ≤ k0) (h1 : k0 ≤ 1000000) (hO : BkOwn lo w b1 b2 b3 B) :
  Calls Tryz.prog 11 #[.agg #[.int .i64 B.now, .slice (some ⟨b1, 0, none⟩) B.svcs.length B.svcs.length, .slice (some ⟨b2, 0, none⟩) B.cps.length B.cps.length, .slice (some ⟨b3, 0, none⟩) B.bts.length B.bts.length], .int .i64 k0] w fun e w' => e = .returned (.int .i64 (k0 + 13 * B.svcs.length + 7 * B.cps.length + 2 * B.bts.length)) ∧ Keep b1 b3 w w' := by
 obtain ⟨hl1, hl2, hl3⟩ := hS
 obtain ⟨_, h12, h23, oS, oC, oB⟩ := hO
 have hsz : (w.alloc (.cells #[.int .i64 B.now, .slice (some ⟨b1, 0, none⟩) B.svcs.length B.svcs.length, .slice (some ⟨b2, 0, none⟩) B.cps.length B.cps.length, .slice (some ⟨b3, 0, none⟩) B.bts.length B.bts.length] 34)).heap.size = w.heap.size + 1 := by show (w.heap.push _).size = _; simp
 have HSZ : Hid _ := hsz
 clear hsz
 have hbx := below_box w (.cells #[.int .i64 B.now, .slice (some ⟨b1, 0, none⟩) B.svcs.length B.svcs.length, .slice (some ⟨b2, 0, none⟩) B.cps.length B.cps.length, .slice (some ⟨b3, 0, none⟩) B.bts.length B.bts.length] 34)
 have T0 : Hid _ := heap_alloc_new w (.cells #[.int .i64 B.now, .slice (some ⟨b1, 0, none⟩) B.svcs.length B.svcs.length, .slice (some ⟨b2, 0, none⟩) B.cps.length B.cps.length, .slice (some ⟨b3, 0, none⟩) B.bts.length B.bts.length] 34)
 have l1 := oS.lt
 have l2 := oC.lt
 have l3 := oB.lt
 have RS := hid_of' (oS.room.blk (hbx.block b1 l1))
 have RC := hid_of' (oC.room.blk (hbx.block b2 l2))
 have RB := hid_of' (oB.room.blk (hbx.block b3 l3))
 clear oS oC oB
 go_enter Tryz.func11, Tryz.ntmps11
 go_wp2_with fail
 refine (markSvcS_any B.svcs.length b1 _ k0 _ hl1 h0 (by omega) RS.out).mono ?_
 rintro e w1 ⟨rfl, _, g1⟩
 have T1 : Hid _ := (g1.block w.heap.size (by rw [HSZ.out]; omega) (fun e => by have := Option.some.inj e; omega)).trans T0.out
 have RC1 := hid_of' (RC.out.blk (g1.block b2 (by rw [HSZ.out]; omega) (fun e => by have := Option.some.inj e; omega)))
 have RB1 := hid_of' (RB.out.blk (g1.block b3 (by rw [HSZ.out]; omega) (fun e => by have := Option.some.inj e; omega)))
 have z1 := g1.size
 rw [HSZ.out] at z1
 have K1 := (keep_below (lo := b1) (hi := b3) hbx).trans (keep_grown g1 (Nat.le_refl _) (by omega))
 clear g1 RS RC RB T0
 have e2 := blk_cell T1.out 2 rfl
 go_wp2_with fail
 refine (markCpS_any B.cps.length b2 _ (k0 + 13 * B.svcs.length) _ hl2 (by omega) (by omega) RC1.out).mono ?_
 rintro e w2 ⟨rfl, _, g2⟩
 have T2 : Hid _ := (g2.block w.heap.size (by omega) (fun e => by have := Option.some.inj e; omega)).trans T1.out
 have RB2 := hid_of' (RB1.out.blk (g2.block b3 (by omega) (fun e => by have := Option.some.inj e; omega)))
 have z2 := g2.size
 have K2 := K1.trans (keep_grown g2 (by omega) (by omega))
 clear g2 RC1 RB1 T1 e2
 have e3 := blk_cell T2.out 3 rfl
 go_wp2_with fail
 refine (markBtS_any B.bts.length b3 _ (k0 + 13 * B.svcs.length + 7 * B.cps.length) _ hl3 (by omega) (by omega) RB2.out).mono ?_
 rintro e w3 ⟨rfl, _, g3⟩
 have K3 := K2.trans (keep_grown g3 (by omega) (Nat.le_refl _))
 go_wp2
 go_ret
 exact ⟨rfl, K3⟩
def SlEx (P : Nat → Prop) (w : World) (ao : Option Addr) (l : List En) : Prop := l ≠ [] → ∃ b off, ao = some ⟨b, off, none⟩ ∧ b < w.heap.size ∧ P b ∧ EnsAt w b off l
def SlAx (P : Nat → Prop) (w : World) (ao : Option Addr) (R : List ActR) : Prop := R ≠ [] → ∃ b off, ao = some ⟨b, off, none⟩ ∧ b < w.heap.size ∧ P b ∧ ∀ i r, R[i]? = some r → AcAt w b (off + i * 8) r ∧ SlEx P w r.2.1 r.1.ends
theorem SlEx.sl {P : Nat → Prop} {w : World} {ao : Option Addr} {l : List En} (h : SlEx P w ao l) : SlE w ao l := fun hn => let ⟨b, off, e, h1, _, h2⟩ := h hn; ⟨b, off, e, h1, h2⟩
theorem SlAx.sl {P : Nat → Prop} {w : World} {ao : Option Addr} {R : List ActR} (h : SlAx P w ao R) : SlA w ao R := fun hn => let ⟨b, off, e, h1, _, h2⟩ := h hn; ⟨b, off, e, h1, fun i r hr => ⟨(h2 i r hr).1, (h2 i r hr).2.sl⟩⟩
theorem SlEx.keep {P : Nat → Prop} {w w' : World} {ao : Option Addr} {l : List En} (h : SlEx P w ao l) (hs : w.heap.size ≤ w'.heap.size) (hb : ∀ q, q < w.heap.size → P q → w'.heap[q]? = w.heap[q]?) : SlEx P w' ao l := fun hn =>
 let ⟨b, off, e, h1, hp, h2⟩ := h hn; ⟨b, off, e, Nat.lt_of_lt_of_le h1 hs, hp, fun i s hs' => (h2 i s hs').blk (hb b h1 hp)⟩
theorem SlAx.keep {P : Nat → Prop} {w w' : World} {ao : Option Addr} {R : List ActR} (h : SlAx P w ao R) (hs : w.heap.size ≤ w'.heap.size) (hb : ∀ q, q < w.heap.size → P q → w'.heap[q]? = w.heap[q]?) : SlAx P w' ao R := fun hn =>
 let ⟨b, off, e, h1, hp, h2⟩ := h hn; ⟨b, off, e, Nat.lt_of_lt_of_le h1 hs, hp, fun i r hr => ⟨(h2 i r hr).1.blk (hb b h1 hp), (h2 i r hr).2.keep hs hb⟩⟩
end Go.Proofs.YtbceafpodamnfabGreat

namespace Go.Proofs.YtbceafpodamnfabGreat
open Go.RowKit Go.Sort
set_option maxHeartbeats 1000000 in
theorem markNilS (ao : Option Addr) (cap : Nat) (k0 : Int) (w : World) :
  Calls Tryz.prog 34 #[.slice ao 0 cap, .int .i64 k0] w fun e w' => e = .returned (.int .i64 k0) ∧ w' = w := by
 go_enter Tryz.func34, Tryz.ntmps34
 go_wp2
 go_loop [1, 5] (fun kv i => kv = .int .i64 k0 ∧ i = .int .i64 0) (fun _ _ => 0)
 case atStart => exact ⟨rfl, rfl⟩
 case round =>
  obtain ⟨rfl, rfl⟩ := hrel
  go_wp2
  go_ret
  exact ⟨rfl, rfl⟩
def FillNS (w : World) (ao : Option Addr) (l : List Svc) : Prop := (ao = none ∧ l = []) ∨ ∃ g, ao = some ⟨g, 0, none⟩ ∧ FillS w g l
theorem FillNS.rowOnly {w w' : World} {N M : Nat} {t : TypeId} {sz : Nat} {ao bo : Option Addr} {m c : Nat} {l : List Svc} {ys : List Value} (h : FillNS w ao l) (hk : RowOnly bo M w w') (hb : RowN w N t sz bo m c ys) (ht : 48 ≠ t) : FillNS w' ao l := by
 rcases h with h | ⟨g, h1, h2⟩
 ·exact .inl h
 ·obtain ⟨cur, hc, _⟩ := id h2
  exact .inr ⟨g, h1, h2.blk (hk.block g (Array.getElem?_eq_some_iff.1 hc).1 (hb.ne hc ht))⟩
theorem FillNS.sl {w : World} {ao : Option Addr} {l : List Svc} (h : FillNS w ao l) : SlS w ao l := by
 rcases h with ⟨_, h2⟩ | ⟨g, rfl, h2⟩
 ·rw [h2]; exact fun h => absurd rfl h
 ·exact h2.sl
theorem markRowS (l : List Svc) (N : Nat) (ao : Option Addr) (cap : Nat) (k0 : Int) (w : World) (hl : l.length ≤ 1048576) (h0 : 1 ≤ k0) (h1 : k0 + 13 * l.length < 100000000) (hN : N ≤ w.heap.size) (hR : RowN w N 48 13 ao l.length cap (svcsV l)) :
  Calls Tryz.prog 34 #[.slice ao l.length cap, .int .i64 k0] w fun e w' => e = .returned (.int .i64 (k0 + 13 * l.length)) ∧ FillNS w' ao (marksSvc k0 l.length) ∧ RowOnly ao N w w' := by
 rcases hR with ⟨rfl, hn, rfl, _⟩ | ⟨g, rfl, hNg, hr⟩
 ·rw [hn]
  exact (markNilS none 0 k0 w).mono fun e w' ⟨he, hw⟩ => by rw [hw]; exact ⟨by rw [he]; simp, .inl ⟨rfl, rfl⟩, RowOnly.refl _ _ _⟩
 ·have hroom : RoomS w g l.length := by obtain ⟨h1, h2, cur, hc, hs, _⟩ := hr; exact ⟨cur, hc, by rw [hs]; exact Nat.mul_le_mul_right _ h2⟩
  exact (markSvcS_any l.length g cap k0 w hl h0 h1 hroom).mono fun e w' ⟨he, hf, hg⟩ => ⟨he, .inr ⟨g, rfl, hf⟩, ⟨fun q hq hne => hg.block q hq (fun e => hne (by have := Option.some.inj e; rw [this])), hg.size, ⟨hg.os, hg.tape, hg.output, hg.size, fun q hq => hg.block q (by omega) (fun e => by have := Option.some.inj e; omega)⟩⟩⟩
set_option maxHeartbeats 1000000 in
theorem markNilC (ao : Option Addr) (cap : Nat) (k0 : Int) (w : World) :
  Calls Tryz.prog 35 #[.slice ao 0 cap, .int .i64 k0] w fun e w' => e = .returned (.int .i64 k0) ∧ w' = w := by
 go_enter Tryz.func35, Tryz.ntmps35
 go_wp2
 go_loop [1, 5] (fun kv i => kv = .int .i64 k0 ∧ i = .int .i64 0) (fun _ _ => 0)
 case atStart => exact ⟨rfl, rfl⟩
 case round =>
  obtain ⟨rfl, rfl⟩ := hrel
  go_wp2
  go_ret
  exact ⟨rfl, rfl⟩
def FillNC (w : World) (ao : Option Addr) (l : List Cp) : Prop := (ao = none ∧ l = []) ∨ ∃ g, ao = some ⟨g, 0, none⟩ ∧ FillC w g l
theorem FillNC.rowOnly {w w' : World} {N M : Nat} {t : TypeId} {sz : Nat} {ao bo : Option Addr} {m c : Nat} {l : List Cp} {ys : List Value} (h : FillNC w ao l) (hk : RowOnly bo M w w') (hb : RowN w N t sz bo m c ys) (ht : 88 ≠ t) : FillNC w' ao l := by
 rcases h with h | ⟨g, h1, h2⟩
 ·exact .inl h
 ·obtain ⟨cur, hc, _⟩ := id h2
  exact .inr ⟨g, h1, h2.blk (hk.block g (Array.getElem?_eq_some_iff.1 hc).1 (hb.ne hc ht))⟩
theorem FillNC.sl {w : World} {ao : Option Addr} {l : List Cp} (h : FillNC w ao l) : SlC w ao l := by
 rcases h with ⟨_, h2⟩ | ⟨g, rfl, h2⟩
 ·rw [h2]; exact fun h => absurd rfl h
 ·exact h2.sl
theorem markRowC (l : List Cp) (N : Nat) (ao : Option Addr) (cap : Nat) (k0 : Int) (w : World) (hl : l.length ≤ 1048576) (h0 : 1 ≤ k0) (h1 : k0 + 7 * l.length < 100000000) (hN : N ≤ w.heap.size) (hR : RowN w N 88 7 ao l.length cap (cpsV l)) :
  Calls Tryz.prog 35 #[.slice ao l.length cap, .int .i64 k0] w fun e w' => e = .returned (.int .i64 (k0 + 7 * l.length)) ∧ FillNC w' ao (marksCp k0 l.length) ∧ RowOnly ao N w w' := by
 rcases hR with ⟨rfl, hn, rfl, _⟩ | ⟨g, rfl, hNg, hr⟩
 ·rw [hn]
  exact (markNilC none 0 k0 w).mono fun e w' ⟨he, hw⟩ => by rw [hw]; exact ⟨by rw [he]; simp, .inl ⟨rfl, rfl⟩, RowOnly.refl _ _ _⟩
 ·have hroom : RoomC w g l.length := by obtain ⟨h1, h2, cur, hc, hs, _⟩ := hr; exact ⟨cur, hc, by rw [hs]; exact Nat.mul_le_mul_right _ h2⟩
  exact (markCpS_any l.length g cap k0 w hl h0 h1 hroom).mono fun e w' ⟨he, hf, hg⟩ => ⟨he, .inr ⟨g, rfl, hf⟩, ⟨fun q hq hne => hg.block q hq (fun e => hne (by have := Option.some.inj e; rw [this])), hg.size, ⟨hg.os, hg.tape, hg.output, hg.size, fun q hq => hg.block q (by omega) (fun e => by have := Option.some.inj e; omega)⟩⟩⟩
set_option maxHeartbeats 1000000 in
theorem markNilB (ao : Option Addr) (cap : Nat) (k0 : Int) (w : World) :
  Calls Tryz.prog 36 #[.slice ao 0 cap, .int .i64 k0] w fun e w' => e = .returned (.int .i64 k0) ∧ w' = w := by
 go_enter Tryz.func36, Tryz.ntmps36
 go_wp2
 go_loop [1, 5] (fun kv i => kv = .int .i64 k0 ∧ i = .int .i64 0) (fun _ _ => 0)
 case atStart => exact ⟨rfl, rfl⟩
 case round =>
  obtain ⟨rfl, rfl⟩ := hrel
  go_wp2
  go_ret
  exact ⟨rfl, rfl⟩
def FillNB (w : World) (ao : Option Addr) (l : List Bt) : Prop := (ao = none ∧ l = []) ∨ ∃ g, ao = some ⟨g, 0, none⟩ ∧ FillB w g l
theorem FillNB.rowOnly {w w' : World} {N M : Nat} {t : TypeId} {sz : Nat} {ao bo : Option Addr} {m c : Nat} {l : List Bt} {ys : List Value} (h : FillNB w ao l) (hk : RowOnly bo M w w') (hb : RowN w N t sz bo m c ys) (ht : 86 ≠ t) : FillNB w' ao l := by
 rcases h with h | ⟨g, h1, h2⟩
 ·exact .inl h
 ·obtain ⟨cur, hc, _⟩ := id h2
  exact .inr ⟨g, h1, h2.blk (hk.block g (Array.getElem?_eq_some_iff.1 hc).1 (hb.ne hc ht))⟩
theorem FillNB.sl {w : World} {ao : Option Addr} {l : List Bt} (h : FillNB w ao l) : SlB w ao l := by
 rcases h with ⟨_, h2⟩ | ⟨g, rfl, h2⟩
 ·rw [h2]; exact fun h => absurd rfl h
 ·exact h2.sl
theorem markRowB (l : List Bt) (N : Nat) (ao : Option Addr) (cap : Nat) (k0 : Int) (w : World) (hl : l.length ≤ 1048576) (h0 : 1 ≤ k0) (h1 : k0 + 2 * l.length < 100000000) (hN : N ≤ w.heap.size) (hR : RowN w N 86 2 ao l.length cap (btsV l)) :
  Calls Tryz.prog 36 #[.slice ao l.length cap, .int .i64 k0] w fun e w' => e = .returned (.int .i64 (k0 + 2 * l.length)) ∧ FillNB w' ao (marksBt k0 l.length) ∧ RowOnly ao N w w' := by
 rcases hR with ⟨rfl, hn, rfl, _⟩ | ⟨g, rfl, hNg, hr⟩
 ·rw [hn]
  exact (markNilB none 0 k0 w).mono fun e w' ⟨he, hw⟩ => by rw [hw]; exact ⟨by rw [he]; simp, .inl ⟨rfl, rfl⟩, RowOnly.refl _ _ _⟩
 ·have hroom : RoomB w g l.length := by obtain ⟨h1, h2, cur, hc, hs, _⟩ := hr; exact ⟨cur, hc, by rw [hs]; exact Nat.mul_le_mul_right _ h2⟩
  exact (markBtS_any l.length g cap k0 w hl h0 h1 hroom).mono fun e w' ⟨he, hf, hg⟩ => ⟨he, .inr ⟨g, rfl, hf⟩, ⟨fun q hq hne => hg.block q hq (fun e => hne (by have := Option.some.inj e; rw [this])), hg.size, ⟨hg.os, hg.tape, hg.output, hg.size, fun q hq => hg.block q (by omega) (fun e => by have := Option.some.inj e; omega)⟩⟩⟩
set_option maxHeartbeats 4000000 in
theorem markBookN (B : Bk) (N : Nat) (a1 a2 a3 : Option Addr) (k1 k2 k3 : Nat) (k0 : Int) (w : World) (hS : B.small) (h0 : 1 ≤ k0) (h1 : k0 ≤ 1000000) (hN : N ≤ w.heap.size) (hO : BkOf w N B a1 a2 a3 k1 k2 k3) :
  Calls Tryz.prog 11 #[.agg #[.int .i64 B.now, .slice a1 B.svcs.length k1, .slice a2 B.cps.length k2, .slice a3 B.bts.length k3], .int .i64 k0] w fun e w' => e = .returned (.int .i64 (k0 + 13 * B.svcs.length + 7 * B.cps.length + 2 * B.bts.length)) ∧ BkAt w' a1 a2 a3 (marksBk B.now k0 B.svcs.length B.cps.length B.bts.length) ∧ Below N w w' ∧ (∀ (q : Nat) cs fr, w.heap[q]? = some (.cells cs 34 fr) → w'.heap[q]? = w.heap[q]?) := by
 obtain ⟨hl1, hl2, hl3⟩ := hS
 obtain ⟨W0, hW0⟩ : ∃ W, w.alloc (.cells #[.int .i64 B.now, .slice a1 B.svcs.length k1, .slice a2 B.cps.length k2, .slice a3 B.bts.length k3] 34) = W := ⟨_, rfl⟩
 have hb0 := below_box w (.cells #[.int .i64 B.now, .slice a1 B.svcs.length k1, .slice a2 B.cps.length k2, .slice a3 B.bts.length k3] 34)
 have T0 : Hid (W0.heap[w.heap.size]? = some (.cells #[.int .i64 B.now, .slice a1 B.svcs.length k1, .slice a2 B.cps.length k2, .slice a3 B.bts.length k3] 34 (0, 0))) := by unfold Hid; rw [← hW0]; exact heap_alloc_new w (.cells #[.int .i64 B.now, .slice a1 B.svcs.length k1, .slice a2 B.cps.length k2, .slice a3 B.bts.length k3] 34)
 rw [hW0] at hb0
 have O0 := hid_of' (hO.below hb0)
 have hN0 : N ≤ W0.heap.size := Nat.le_trans hN hb0.size
 have e1 := blk_cell T0.out 1 rfl
 clear hO
 go_enter Tryz.func11, Tryz.ntmps11
 go_upto_region 1 with fail
 clear hW0
 go_wp2_with fail
 refine (markRowS B.svcs N a1 k1 k0 W0 hl1 h0 (by omega) hN0 O0.out.svcs).mono ?_
 rintro e w1 ⟨rfl, hf1, ho1⟩
 have F1 := hid_of' hf1
 have T1 : Hid (w1.heap[w.heap.size]? = some (.cells #[.int .i64 B.now, .slice a1 B.svcs.length k1, .slice a2 B.cps.length k2, .slice a3 B.bts.length k3] 34 (0, 0))) := (ho1.block _ (Array.getElem?_eq_some_iff.1 T0.out).1 (O0.out.svcs.ne T0.out (by decide))).trans T0.out
 have C1 := hid_of' (O0.out.cps.rowOnly ho1 O0.out.svcs (by decide))
 have R1 := hid_of' (O0.out.bts.rowOnly ho1 O0.out.svcs (by decide))
 have hN1 : N ≤ w1.heap.size := Nat.le_trans hN0 ho1.size
 have K1 : Hid (∀ (q : Nat) cs fr, w.heap[q]? = some (.cells cs 34 fr) → w1.heap[q]? = w.heap[q]?) := fun q cs fr hq => by
  have hl := (Array.getElem?_eq_some_iff.1 hq).1
  have h0 := hb0.block q hl
  exact (ho1.block q (Nat.lt_of_lt_of_le hl hb0.size) (O0.out.svcs.ne (h0.trans hq) (by decide))).trans h0
 have hb1 : Below N w w1 := (hb0.mono' hN).trans ho1.below
 clear hf1 ho1 e1 T0 O0 hb0 hN0
 have e2 := blk_cell T1.out 2 rfl
 go_wp2_with fail
 refine (markRowC B.cps N a2 k2 (k0 + 13 * B.svcs.length) w1 hl2 (by omega) (by omega) hN1 C1.out).mono ?_
 rintro e w2 ⟨rfl, hf2, ho2⟩
 have F2 := hid_of' hf2
 have F1' := hid_of' (F1.out.rowOnly ho2 C1.out (by decide))
 have T2 : Hid (w2.heap[w.heap.size]? = some (.cells #[.int .i64 B.now, .slice a1 B.svcs.length k1, .slice a2 B.cps.length k2, .slice a3 B.bts.length k3] 34 (0, 0))) := (ho2.block _ (Array.getElem?_eq_some_iff.1 T1.out).1 (C1.out.ne T1.out (by decide))).trans T1.out
 have R2 := hid_of' (R1.out.rowOnly ho2 C1.out (by decide))
 have hN2 : N ≤ w2.heap.size := Nat.le_trans hN1 ho2.size
 have K2 : Hid (∀ (q : Nat) cs fr, w.heap[q]? = some (.cells cs 34 fr) → w2.heap[q]? = w.heap[q]?) := fun q cs fr hq => by
  have h1 := K1.out q cs fr hq
  exact (ho2.block q (Array.getElem?_eq_some_iff.1 (h1.trans hq)).1 (C1.out.ne (h1.trans hq) (by decide))).trans h1
 have hb2 : Below N w w2 := hb1.trans ho2.below
 clear hf2 ho2 e2 T1 C1 R1 F1 hb1 hN1
 have e3 := blk_cell T2.out 3 rfl
 go_wp2_with fail
 refine (markRowB B.bts N a3 k3 (k0 + 13 * B.svcs.length + 7 * B.cps.length) w2 hl3 (by omega) (by omega) hN2 R2.out).mono ?_
 rintro e w3 ⟨rfl, hf3, ho3⟩
 have F3 := hid_of' hf3
 have F1s := hid_of' (F1'.out.rowOnly ho3 R2.out (by decide))
 have F2s := hid_of' (F2.out.rowOnly ho3 R2.out (by decide))
 have hb3 : Below N w w3 := hb2.trans ho3.below
 have K3 : Hid (∀ (q : Nat) cs fr, w.heap[q]? = some (.cells cs 34 fr) → w3.heap[q]? = w.heap[q]?) := fun q cs fr hq => by
  have h1 := K2.out q cs fr hq
  exact (ho3.block q (Array.getElem?_eq_some_iff.1 (h1.trans hq)).1 (R2.out.ne (h1.trans hq) (by decide))).trans h1
 clear hf3 ho3 e3 T2 R2 F1' F2 hb2 hN2
 go_wp2
 go_ret
 exact ⟨rfl, ⟨F1s.out.sl, F2s.out.sl, F3.out.sl⟩, hb3, K3.out⟩
end Go.Proofs.YtbceafpodamnfabGreat

namespace Go.Proofs.YtbceafpodamnfabGreat
open Go.RowKit Go.Sort
theorem noStr {w : World} {b : Nat} {t : TypeId} {fr : Nat × Nat} (hb : w.heap[b]? = some (.cells #[.int .i64 0, .slice none 0 0, .slice none 0 0, .slice none 0 0] t fr)) (o : Nat) (nm : ByteArray) : w.cell? ⟨b, o, none⟩ ≠ some (.string nm) := by
 rw [cell_of_row w b o _ _ _ hb]
 intro h
 rcases o with _ | _ | _ | _ | o <;> simp at h
theorem cell_other {w w' : World} {g q : Nat} (on : Only g w w') (hne : q ≠ g) (o : Nat) : w'.cell? ⟨q, o, none⟩ = w.cell? ⟨q, o, none⟩ := by
 simp only [World.cell?, on.other q hne]
theorem SlS.book {w w' : World} {ao : Option Addr} {l : List Svc} {g : Nat} {t : TypeId} {fr : Nat × Nat} (h : SlS w ao l) (hb : w.heap[g]? = some (.cells #[.int .i64 0, .slice none 0 0, .slice none 0 0, .slice none 0 0] t fr)) (on : Only g w w') : SlS w' ao l := fun hl => by
 obtain ⟨q, off, e, hlt, hat⟩ := h hl
 have hne : q ≠ g := fun e => by
  subst e
  cases l with
  | nil => exact absurd rfl hl
  | cons x l => exact noStr hb _ _ (hat 0 x rfl).1
 refine ⟨q, off, e, by rw [on.size]; exact hlt, fun i s hs => ?_⟩
 have h := hat i s hs
 unfold SvcAt at *
 simp only [cell_other on hne]
 exact h
theorem SlC.book {w w' : World} {ao : Option Addr} {l : List Cp} {g : Nat} {t : TypeId} {fr : Nat × Nat} (h : SlC w ao l) (hb : w.heap[g]? = some (.cells #[.int .i64 0, .slice none 0 0, .slice none 0 0, .slice none 0 0] t fr)) (on : Only g w w') : SlC w' ao l := fun hl => by
 obtain ⟨q, off, e, hlt, hat⟩ := h hl
 have hne : q ≠ g := fun e => by
  subst e
  cases l with
  | nil => exact absurd rfl hl
  | cons x l => exact noStr hb _ _ (hat 0 x rfl).1
 refine ⟨q, off, e, by rw [on.size]; exact hlt, fun i s hs => ?_⟩
 have h := hat i s hs
 unfold CpAt at *
 simp only [cell_other on hne]
 exact h
theorem SlB.book {w w' : World} {ao : Option Addr} {l : List Bt} {g : Nat} {t : TypeId} {fr : Nat × Nat} (h : SlB w ao l) (hb : w.heap[g]? = some (.cells #[.int .i64 0, .slice none 0 0, .slice none 0 0, .slice none 0 0] t fr)) (on : Only g w w') : SlB w' ao l := fun hl => by
 obtain ⟨q, off, e, hlt, hat⟩ := h hl
 have hne : q ≠ g := fun e => by
  subst e
  cases l with
  | nil => exact absurd rfl hl
  | cons x l => exact noStr hb _ _ (hat 0 x rfl).1
 refine ⟨q, off, e, by rw [on.size]; exact hlt, fun i s hs => ?_⟩
 have h := hat i s hs
 unfold BtAt at *
 simp only [cell_other on hne]
 exact h
theorem BkAt.book {w w' : World} {a1 a2 a3 : Option Addr} {B : Bk} {g : Nat} {t : TypeId} {fr : Nat × Nat} (h : BkAt w a1 a2 a3 B) (hb : w.heap[g]? = some (.cells #[.int .i64 0, .slice none 0 0, .slice none 0 0, .slice none 0 0] t fr)) (on : Only g w w') : BkAt w' a1 a2 a3 B := ⟨h.1.book hb on, h.2.1.book hb on, h.2.2.book hb on⟩
theorem seaAns_small {B : Bk} {E : Ev} (hS : B.small) : (seaAns B E).1.small := by
 unfold seaAns
 split
 ·rename_i hv
  split
  ·exact hS
  ·split
   ·split
    ·exact seaOf_small hv
    ·exact hS
   ·exact hS
 ·exact ⟨by decide, by decide, by decide⟩
end Go.Proofs.YtbceafpodamnfabGreat
