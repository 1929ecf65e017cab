/-
  My own: Md, Qh, Tc, Mz, Td, Qa, Qb, Na, Nd, Mf.
-/
import Derived.Test.YtbceafpodamnfabGreatDoorG39
import Derived.Test.YtbceafpodamnfabGreatDoorG07
import Derived.Test.YtbceafpodamnfabGreatDoorG38
import Derived.Test.YtbceafpodamnfabGreatDoorG10
import Derived.Test.YtbceafpodamnfabGreatDoorG09
set_option linter.unusedVariables false
set_option linter.unusedSimpArgs false
namespace Go.Proofs.YtbceafpodamnfabGreatDoor
open Go.RowKit Go.Sort
set_option maxRecDepth 100000 in
set_option maxHeartbeats 8000000 in
theorem heldSvcS_any (n : Nat) (ao : Option Addr) (cap : Nat) (k0 : Int) (w : World) (hl : n ≤ 1048576) (h0 : 1 ≤ k0) (h1 : k0 + 13 * n < 100000000) (hC : SlS w ao (marksSvc k0 n)) :
  Calls Tryz.prog 56 #[.slice ao n cap, .int .i64 k0] w fun e w' => e = .returned (.int .i64 (k0 + 13 * n)) ∧ Below w.heap.size w w' := by
 go_enter Tryz.func56, Tryz.ntmps56
 go_wp2
 go_loopw [1, 5] (fun kv iv wr => ∃ (i : Nat) (k : Int), i ≤ n ∧ iv = .int .i64 i ∧ kv = .int .i64 k ∧ Hid (k = k0 + 13 * i) ∧ 1 ≤ k ∧ k ≤ k0 + 13 * i ∧ Below w.heap.size w wr) (fun _ i _ => n - (intOf i).toNat)
 case atStart => exact ⟨0, k0, by omega, rfl, rfl, by unfold Hid; simp, h0, by simp, Below.refl _ _⟩
 case round =>
  obtain ⟨i, k, hi, rfl, rfl, HK, hk1, hk2, hb⟩ := hrel
  by_cases hlt : i < n
  ·obtain ⟨b, off, ea, hbs, hat⟩ := hC (by intro h; have := marksSvc_len k0 n; rw [h] at this; simp at this; omega)
   subst ea
   have hcx := hat i _ (marksSvc_at hlt)
   rw [← HK.out] at hcx
   have HCX : Hid (SvcAt w b (off + i * 13) (markSvc k)) := hcx
   clear hat hcx
   go_wp2
   refine wp_region_grows 7 (by kernel_rfl) (by kernel_rfl) ?_
   apply grow_eq
   ·intro V W K A hW hd hA hK
    simp only [putAll, pz1, pz2, pz3, pz4, Act.put, pz5, pz6, pz7] at hA
    clear hd
    obtain rfl := hA
    go_wp2
    exact hK.out _ brf
   apply grow_eq
   ·intro V W K A hW hd hA hK
    simp only [putAll, pz1, pz2, pz3, pz4, Act.put, pz5, pz6, pz7] at hA
    clear hd
    obtain rfl := hA
    go_wp2
    exact hK.out _ brf
   apply grow_eq
   ·intro V W K A hW hd hA hK
    have d0 : V 0 = _ := hd 0 (by kernel_rfl)
    have d1 : V 1 = _ := hd 1 (by kernel_rfl)
    simp only [putAll, pz1, pz2, pz3, pz4, Act.put, pz5, pz6, pz7, d0, d1] at hA
    clear hd d0 d1
    obtain rfl := hA
    go_wp2
    exact hK.out _ brf
   apply grow_eq
   ·intro V W K A hW hd hA hK
    have d2 : V 2 = _ := hd 2 (by kernel_rfl)
    simp only [putAll, pz1, pz2, pz3, pz4, Act.put, pz5, pz6, pz7, d2] at hA
    clear hd d2
    obtain rfl := hA
    go_wp2
    exact hK.out _ brf
   apply grow_eq
   ·intro V W K A hW hd hA hK
    have d3 : V 3 = _ := hd 3 (by kernel_rfl)
    simp only [putAll, pz1, pz2, pz3, pz4, Act.put, pz5, pz6, pz7, d3] at hA
    clear hd d3
    obtain rfl := hA
    have hq := HCX.out.below (hb.trans (hW.mono hb.size)) hbs
    unfold SvcAt markSvc at hq
    dsimp only at hq
    obtain ⟨q0, q1, q2, q3, q4, q5, q6, q7, q8, q9, q10, q11, q12⟩ := hq
    go_wp2
    exact hK.out _ brf
   apply grow_eq
   ·intro V W K A hW hd hA hK
    simp only [putAll, pz1, pz2, pz3, pz4, Act.put, pz5, pz6, pz7] at hA
    clear hd
    obtain rfl := hA
    go_wp2
    exact hK.out _ brf
   apply grow_eq
   ·intro V W K A hW hd hA hK
    have d5 : V 5 = _ := hd 5 (by kernel_rfl)
    simp only [putAll, pz1, pz2, pz3, pz4, Act.put, pz5, pz6, pz7, d5] at hA
    clear hd d5
    obtain rfl := hA
    go_wp2_with fail
    refine (markText_any (k) _ (by omega) (by omega)).mono ?_
    rintro e w3 ⟨rfl, hb3⟩
    go_wp2
    exact hK.out _ hb3
   intro V W A hW hS hA
   have d0 : V 0 = _ := hS 0 (by omega)
   have d1 : V 1 = _ := hS 1 (by omega)
   have d2 : V 2 = _ := hS 2 (by omega)
   have d3 : V 3 = _ := hS 3 (by omega)
   have d4 : V 4 = _ := hS 4 (by omega)
   have d5 : V 5 = _ := hS 5 (by omega)
   have d6 : V 6 = _ := hS 6 (by omega)
   simp only [putAll, pz1, pz2, pz3, pz4, Act.put, pz5, pz6, pz7, d0, d1, d2, d3, d4, d5, d6] at hA
   clear hS d0 d1 d2 d3 d4 d5 d6
   obtain rfl := hA
   simp only [List.drop_succ_cons, List.drop_zero]
   have hbt0 := hb.trans (hW.mono hb.size)
   clear hW
   have hq := HCX.out.below (hbt0) hbs
   unfold SvcAt markSvc at hq
   dsimp only at hq
   obtain ⟨q0, q1, q2, q3, q4, q5, q6, q7, q8, q9, q10, q11, q12⟩ := hq
   go_wp2
   go_roundw
   case rel => exact ⟨i + 1, k + 1 + 1 + 1 + 1 + 1 + 1 + 1 + 1 + 1 + 1 + 1 + 1 + 1, by omega, by go_num, rfl, by unfold Hid; rw [HK.out]; push_cast; omega, by omega, by push_cast; omega, hbt0⟩
   case measure => simp [intOf]; omega
  ·go_wp2
   go_ret
   have hil : i = n := by omega
   subst hil
   have hkk := HK.out
   subst hkk
   exact ⟨rfl, hb⟩
set_option maxRecDepth 100000 in
set_option maxHeartbeats 8000000 in
theorem heldCpS_any (n : Nat) (ao : Option Addr) (cap : Nat) (k0 : Int) (w : World) (hl : n ≤ 1048576) (h0 : 1 ≤ k0) (h1 : k0 + 7 * n < 100000000) (hC : SlC w ao (marksCp k0 n)) :
  Calls Tryz.prog 57 #[.slice ao n cap, .int .i64 k0] w fun e w' => e = .returned (.int .i64 (k0 + 7 * n)) ∧ Below w.heap.size w w' := by
 go_enter Tryz.func57, Tryz.ntmps57
 go_wp2
 go_loopw [1, 5] (fun kv iv wr => ∃ (i : Nat) (k : Int), i ≤ n ∧ iv = .int .i64 i ∧ kv = .int .i64 k ∧ Hid (k = k0 + 7 * i) ∧ 1 ≤ k ∧ k ≤ k0 + 7 * i ∧ Below w.heap.size w wr) (fun _ i _ => n - (intOf i).toNat)
 case atStart => exact ⟨0, k0, by omega, rfl, rfl, by unfold Hid; simp, h0, by simp, Below.refl _ _⟩
 case round =>
  obtain ⟨i, k, hi, rfl, rfl, HK, hk1, hk2, hb⟩ := hrel
  by_cases hlt : i < n
  ·obtain ⟨b, off, ea, hbs, hat⟩ := hC (by intro h; have := marksCp_len k0 n; rw [h] at this; simp at this; omega)
   subst ea
   have hcx := hat i _ (marksCp_at hlt)
   rw [← HK.out] at hcx
   have HCX : Hid (CpAt w b (off + i * 7) (markCp k)) := hcx
   clear hat hcx
   go_wp2
   refine wp_region_grows 7 (by kernel_rfl) (by kernel_rfl) ?_
   apply grow_eq
   ·intro V W K A hW hd hA hK
    simp only [putAll, pz1, pz2, pz3, pz4, Act.put, pz5, pz6, pz7] at hA
    clear hd
    obtain rfl := hA
    go_wp2
    exact hK.out _ brf
   apply grow_eq
   ·intro V W K A hW hd hA hK
    simp only [putAll, pz1, pz2, pz3, pz4, Act.put, pz5, pz6, pz7] at hA
    clear hd
    obtain rfl := hA
    go_wp2
    exact hK.out _ brf
   apply grow_eq
   ·intro V W K A hW hd hA hK
    have d0 : V 0 = _ := hd 0 (by kernel_rfl)
    have d1 : V 1 = _ := hd 1 (by kernel_rfl)
    simp only [putAll, pz1, pz2, pz3, pz4, Act.put, pz5, pz6, pz7, d0, d1] at hA
    clear hd d0 d1
    obtain rfl := hA
    go_wp2
    exact hK.out _ brf
   apply grow_eq
   ·intro V W K A hW hd hA hK
    have d2 : V 2 = _ := hd 2 (by kernel_rfl)
    simp only [putAll, pz1, pz2, pz3, pz4, Act.put, pz5, pz6, pz7, d2] at hA
    clear hd d2
    obtain rfl := hA
    go_wp2
    exact hK.out _ brf
   apply grow_eq
   ·intro V W K A hW hd hA hK
    have d3 : V 3 = _ := hd 3 (by kernel_rfl)
    simp only [putAll, pz1, pz2, pz3, pz4, Act.put, pz5, pz6, pz7, d3] at hA
    clear hd d3
    obtain rfl := hA
    have hq := HCX.out.below (hb.trans (hW.mono hb.size)) hbs
    unfold CpAt markCp at hq
    dsimp only at hq
    obtain ⟨q0, q1, q2, q3, q4, q5, q6⟩ := hq
    go_wp2
    exact hK.out _ brf
   apply grow_eq
   ·intro V W K A hW hd hA hK
    simp only [putAll, pz1, pz2, pz3, pz4, Act.put, pz5, pz6, pz7] at hA
    clear hd
    obtain rfl := hA
    go_wp2
    exact hK.out _ brf
   apply grow_eq
   ·intro V W K A hW hd hA hK
    have d5 : V 5 = _ := hd 5 (by kernel_rfl)
    simp only [putAll, pz1, pz2, pz3, pz4, Act.put, pz5, pz6, pz7, d5] at hA
    clear hd d5
    obtain rfl := hA
    go_wp2_with fail
    refine (markText_any (k) _ (by omega) (by omega)).mono ?_
    rintro e w3 ⟨rfl, hb3⟩
    go_wp2
    exact hK.out _ hb3
   intro V W A hW hS hA
   have d0 : V 0 = _ := hS 0 (by omega)
   have d1 : V 1 = _ := hS 1 (by omega)
   have d2 : V 2 = _ := hS 2 (by omega)
   have d3 : V 3 = _ := hS 3 (by omega)
   have d4 : V 4 = _ := hS 4 (by omega)
   have d5 : V 5 = _ := hS 5 (by omega)
   have d6 : V 6 = _ := hS 6 (by omega)
   simp only [putAll, pz1, pz2, pz3, pz4, Act.put, pz5, pz6, pz7, d0, d1, d2, d3, d4, d5, d6] at hA
   clear hS d0 d1 d2 d3 d4 d5 d6
   obtain rfl := hA
   simp only [List.drop_succ_cons, List.drop_zero]
   have hbt0 := hb.trans (hW.mono hb.size)
   clear hW
   have hq := HCX.out.below (hbt0) hbs
   unfold CpAt markCp at hq
   dsimp only at hq
   obtain ⟨q0, q1, q2, q3, q4, q5, q6⟩ := hq
   go_wp2
   clear q0 q1 q2 q3 q4 q5 q6
   refine wp_region_grows 7 (by kernel_rfl) (by kernel_rfl) ?_
   apply grow_eq
   ·intro V W K A hW hd hA hK
    simp only [putAll, pz1, pz2, pz3, pz4, Act.put, pz5, pz6, pz7] at hA
    clear hd
    obtain rfl := hA
    go_wp2
    exact hK.out _ brf
   apply grow_eq
   ·intro V W K A hW hd hA hK
    simp only [putAll, pz1, pz2, pz3, pz4, Act.put, pz5, pz6, pz7] at hA
    clear hd
    obtain rfl := hA
    go_wp2
    exact hK.out _ brf
   apply grow_eq
   ·intro V W K A hW hd hA hK
    have d0 : V 0 = _ := hd 0 (by kernel_rfl)
    have d1 : V 1 = _ := hd 1 (by kernel_rfl)
    simp only [putAll, pz1, pz2, pz3, pz4, Act.put, pz5, pz6, pz7, d0, d1] at hA
    clear hd d0 d1
    obtain rfl := hA
    go_wp2
    exact hK.out _ brf
   apply grow_eq
   ·intro V W K A hW hd hA hK
    have d2 : V 2 = _ := hd 2 (by kernel_rfl)
    simp only [putAll, pz1, pz2, pz3, pz4, Act.put, pz5, pz6, pz7, d2] at hA
    clear hd d2
    obtain rfl := hA
    go_wp2
    exact hK.out _ brf
   apply grow_eq
   ·intro V W K A hW hd hA hK
    have d3 : V 3 = _ := hd 3 (by kernel_rfl)
    simp only [putAll, pz1, pz2, pz3, pz4, Act.put, pz5, pz6, pz7, d3] at hA
    clear hd d3
    obtain rfl := hA
    have hq := HCX.out.below (hbt0.trans (hW.mono hbt0.size)) hbs
    unfold CpAt markCp at hq
    dsimp only at hq
    obtain ⟨q0, q1, q2, q3, q4, q5, q6⟩ := hq
    go_wp2
    exact hK.out _ brf
   apply grow_eq
   ·intro V W K A hW hd hA hK
    simp only [putAll, pz1, pz2, pz3, pz4, Act.put, pz5, pz6, pz7] at hA
    clear hd
    obtain rfl := hA
    go_wp2
    exact hK.out _ brf
   apply grow_eq
   ·intro V W K A hW hd hA hK
    have d5 : V 5 = _ := hd 5 (by kernel_rfl)
    simp only [putAll, pz1, pz2, pz3, pz4, Act.put, pz5, pz6, pz7, d5] at hA
    clear hd d5
    obtain rfl := hA
    go_wp2_with fail
    refine (markText_any (k + 1 + 1 + 1 + 1 + 1 + 1) _ (by omega) (by omega)).mono ?_
    rintro e w3 ⟨rfl, hb3⟩
    go_wp2
    exact hK.out _ hb3
   intro V W A hW hS hA
   have d0 : V 0 = _ := hS 0 (by omega)
   have d1 : V 1 = _ := hS 1 (by omega)
   have d2 : V 2 = _ := hS 2 (by omega)
   have d3 : V 3 = _ := hS 3 (by omega)
   have d4 : V 4 = _ := hS 4 (by omega)
   have d5 : V 5 = _ := hS 5 (by omega)
   have d6 : V 6 = _ := hS 6 (by omega)
   simp only [putAll, pz1, pz2, pz3, pz4, Act.put, pz5, pz6, pz7, d0, d1, d2, d3, d4, d5, d6] at hA
   clear hS d0 d1 d2 d3 d4 d5 d6
   obtain rfl := hA
   simp only [List.drop_succ_cons, List.drop_zero]
   have hbt1 := hbt0.trans (hW.mono hbt0.size)
   clear hW
   have hq := HCX.out.below (hbt1) hbs
   unfold CpAt markCp at hq
   dsimp only at hq
   obtain ⟨q0, q1, q2, q3, q4, q5, q6⟩ := hq
   go_wp2
   go_roundw
   case rel => exact ⟨i + 1, k + 1 + 1 + 1 + 1 + 1 + 1 + 1, by omega, by go_num, rfl, by unfold Hid; rw [HK.out]; push_cast; omega, by omega, by push_cast; omega, hbt1⟩
   case measure => simp [intOf]; omega
  ·go_wp2
   go_ret
   have hil : i = n := by omega
   subst hil
   have hkk := HK.out
   subst hkk
   exact ⟨rfl, hb⟩
set_option maxRecDepth 100000 in
set_option maxHeartbeats 8000000 in
theorem heldBtS_any (n : Nat) (ao : Option Addr) (cap : Nat) (k0 : Int) (w : World) (hl : n ≤ 1048576) (h0 : 1 ≤ k0) (h1 : k0 + 2 * n < 100000000) (hC : SlB w ao (marksBt k0 n)) :
  Calls Tryz.prog 58 #[.slice ao n cap, .int .i64 k0] w fun e w' => e = .returned (.int .i64 (k0 + 2 * n)) ∧ Below w.heap.size w w' := by
 go_enter Tryz.func58, Tryz.ntmps58
 go_wp2
 go_loopw [1, 5] (fun kv iv wr => ∃ (i : Nat) (k : Int), i ≤ n ∧ iv = .int .i64 i ∧ kv = .int .i64 k ∧ Hid (k = k0 + 2 * i) ∧ 1 ≤ k ∧ k ≤ k0 + 2 * i ∧ Below w.heap.size w wr) (fun _ i _ => n - (intOf i).toNat)
 case atStart => exact ⟨0, k0, by omega, rfl, rfl, by unfold Hid; simp, h0, by simp, Below.refl _ _⟩
 case round =>
  obtain ⟨i, k, hi, rfl, rfl, HK, hk1, hk2, hb⟩ := hrel
  by_cases hlt : i < n
  ·obtain ⟨b, off, ea, hbs, hat⟩ := hC (by intro h; have := marksBt_len k0 n; rw [h] at this; simp at this; omega)
   subst ea
   have hcx := hat i _ (marksBt_at hlt)
   rw [← HK.out] at hcx
   have HCX : Hid (BtAt w b (off + i * 2) (markBt k)) := hcx
   clear hat hcx
   go_wp2
   refine wp_region_grows 7 (by kernel_rfl) (by kernel_rfl) ?_
   apply grow_eq
   ·intro V W K A hW hd hA hK
    simp only [putAll, pz1, pz2, pz3, pz4, Act.put, pz5, pz6, pz7] at hA
    clear hd
    obtain rfl := hA
    go_wp2
    exact hK.out _ brf
   apply grow_eq
   ·intro V W K A hW hd hA hK
    simp only [putAll, pz1, pz2, pz3, pz4, Act.put, pz5, pz6, pz7] at hA
    clear hd
    obtain rfl := hA
    go_wp2
    exact hK.out _ brf
   apply grow_eq
   ·intro V W K A hW hd hA hK
    have d0 : V 0 = _ := hd 0 (by kernel_rfl)
    have d1 : V 1 = _ := hd 1 (by kernel_rfl)
    simp only [putAll, pz1, pz2, pz3, pz4, Act.put, pz5, pz6, pz7, d0, d1] at hA
    clear hd d0 d1
    obtain rfl := hA
    go_wp2
    exact hK.out _ brf
   apply grow_eq
   ·intro V W K A hW hd hA hK
    have d2 : V 2 = _ := hd 2 (by kernel_rfl)
    simp only [putAll, pz1, pz2, pz3, pz4, Act.put, pz5, pz6, pz7, d2] at hA
    clear hd d2
    obtain rfl := hA
    go_wp2
    exact hK.out _ brf
   apply grow_eq
   ·intro V W K A hW hd hA hK
    have d3 : V 3 = _ := hd 3 (by kernel_rfl)
    simp only [putAll, pz1, pz2, pz3, pz4, Act.put, pz5, pz6, pz7, d3] at hA
    clear hd d3
    obtain rfl := hA
    have hq := HCX.out.below (hb.trans (hW.mono hb.size)) hbs
    unfold BtAt markBt at hq
    dsimp only at hq
    obtain ⟨q0, q1⟩ := hq
    go_wp2
    exact hK.out _ brf
   apply grow_eq
   ·intro V W K A hW hd hA hK
    simp only [putAll, pz1, pz2, pz3, pz4, Act.put, pz5, pz6, pz7] at hA
    clear hd
    obtain rfl := hA
    go_wp2
    exact hK.out _ brf
   apply grow_eq
   ·intro V W K A hW hd hA hK
    have d5 : V 5 = _ := hd 5 (by kernel_rfl)
    simp only [putAll, pz1, pz2, pz3, pz4, Act.put, pz5, pz6, pz7, d5] at hA
    clear hd d5
    obtain rfl := hA
    go_wp2_with fail
    refine (markText_any (k) _ (by omega) (by omega)).mono ?_
    rintro e w3 ⟨rfl, hb3⟩
    go_wp2
    exact hK.out _ hb3
   intro V W A hW hS hA
   have d0 : V 0 = _ := hS 0 (by omega)
   have d1 : V 1 = _ := hS 1 (by omega)
   have d2 : V 2 = _ := hS 2 (by omega)
   have d3 : V 3 = _ := hS 3 (by omega)
   have d4 : V 4 = _ := hS 4 (by omega)
   have d5 : V 5 = _ := hS 5 (by omega)
   have d6 : V 6 = _ := hS 6 (by omega)
   simp only [putAll, pz1, pz2, pz3, pz4, Act.put, pz5, pz6, pz7, d0, d1, d2, d3, d4, d5, d6] at hA
   clear hS d0 d1 d2 d3 d4 d5 d6
   obtain rfl := hA
   simp only [List.drop_succ_cons, List.drop_zero]
   have hbt0 := hb.trans (hW.mono hb.size)
   clear hW
   have hq := HCX.out.below (hbt0) hbs
   unfold BtAt markBt at hq
   dsimp only at hq
   obtain ⟨q0, q1⟩ := hq
   go_wp2
   go_roundw
   case rel => exact ⟨i + 1, k + 1 + 1, by omega, by go_num, rfl, by unfold Hid; rw [HK.out]; push_cast; omega, by omega, by push_cast; omega, hbt0⟩
   case measure => simp [intOf]; omega
  ·go_wp2
   go_ret
   have hil : i = n := by omega
   subst hil
   have hkk := HK.out
   subst hkk
   exact ⟨rfl, hb⟩
end Go.Proofs.YtbceafpodamnfabGreatDoor

namespace Go.Proofs.YtbceafpodamnfabGreatDoor
open Go.RowKit Go.Sort
def marksBk (now k : Int) (n1 n2 n3 : Nat) : Bk := ⟨now, marksSvc k n1, marksCp (k + 13 * n1) n2, marksBt (k + 13 * n1 + 7 * n2) n3⟩
set_option maxHeartbeats 2000000 in
theorem heldBook_any (now : Int) (n1 n2 n3 : Nat) (a1 a2 a3 : Option Addr) (c1 c2 c3 : Nat) (k0 : Int) (w : World) (hl1 : n1 ≤ 1048576) (hl2 : n2 ≤ 1048576) (hl3 : n3 ≤ 1048576) (h0 : 1 ≤ k0) (h1 : k0 ≤ 1000000) (hB : BkAt w a1 a2 a3 (marksBk now k0 n1 n2 n3)) :
  Calls Tryz.prog 17 #[.agg #[.int .i64 now, .slice a1 n1 c1, .slice a2 n2 c2, .slice a3 n3 c3], .int .i64 k0] w fun e w' => e = .returned (.int .i64 (k0 + 13 * n1 + 7 * n2 + 2 * n3)) ∧ Below w.heap.size w w' := by
 have hbx := below_box w (.cells #[.int .i64 now, .slice a1 n1 c1, .slice a2 n2 c2, .slice a3 n3 c3] 36)
 have T0 : Hid _ := heap_alloc_new w (.cells #[.int .i64 now, .slice a1 n1 c1, .slice a2 n2 c2, .slice a3 n3 c3] 36)
 have HSZ : Hid ((w.alloc (.cells #[.int .i64 now, .slice a1 n1 c1, .slice a2 n2 c2, .slice a3 n3 c3] 36)).heap.size = w.heap.size + 1) := by unfold Hid; show (w.heap.push _).size = _; simp
 obtain ⟨hB1, hB2, hB3⟩ := hB
 go_enter Tryz.func17, Tryz.ntmps17
 go_wp2_with fail
 refine (heldSvcS_any n1 a1 c1 k0 _ hl1 h0 (by omega) (hB1.below hbx)).mono ?_
 rintro e w1 ⟨rfl, hb1⟩
 have hbb1 := hbx.trans (hb1.mono hbx.size)
 have T1 : Hid _ := (hb1.block w.heap.size (by rw [HSZ.out]; omega)).trans T0.out
 have z1 := hb1.size
 rw [HSZ.out] at z1
 clear hb1 T0
 have e2 := blk_cell T1.out 2 rfl
 go_wp2_with fail
 refine (heldCpS_any n2 a2 c2 (k0 + 13 * n1) _ hl2 (by omega) (by omega) (hB2.below hbb1)).mono ?_
 rintro e w2 ⟨rfl, hb2⟩
 have hbb2 := hbb1.trans (hb2.mono hbb1.size)
 have T2 : Hid _ := (hb2.block w.heap.size (by omega)).trans T1.out
 clear hb2 T1 e2
 have e3 := blk_cell T2.out 3 rfl
 go_wp2_with fail
 refine (heldBtS_any n3 a3 c3 (k0 + 13 * n1 + 7 * n2) _ hl3 (by omega) (by omega) (hB3.below hbb2)).mono ?_
 rintro e w3 ⟨rfl, hb3⟩
 have hbb3 := hbb2.trans (hb3.mono hbb2.size)
 go_wp2
 go_ret
 exact ⟨rfl, hbb3⟩
end Go.Proofs.YtbceafpodamnfabGreatDoor

namespace Go.Proofs.YtbceafpodamnfabGreatDoor
open Go.RowKit Go.Sort
set_option maxHeartbeats 1000000 in
theorem toEnd_any (s : En) (w : World) :
  Calls Tryz.prog 99 #[.agg #[.int .i64 s.number, .int .i64 s.seen]] w fun e w' => e = .returned (.agg #[.int .i64 s.number, .int .i64 s.seen]) ∧ Below w.heap.size w w' := by
 go_enter Tryz.func99, Tryz.ntmps99
 go_wp2
 refine bodyPost_ret (v := .agg #[.int .i64 s.number, .int .i64 s.seen]) (by simp [results, Tryz.results99, go_sem]) rfl ⟨rfl, ?_⟩
 exact (((Below.refl _ _).alloc (Nat.le_refl _) _).alloc (by simp) _).alloc (by simp; omega) _
end Go.Proofs.YtbceafpodamnfabGreatDoor

namespace Go.Proofs.YtbceafpodamnfabGreatDoor
open Go.RowKit Go.Sort
set_option maxHeartbeats 1000000 in
theorem toEndS_own (l : List En) (ao : Option Addr) (cap : Nat) (w : World) (hl : l.length ≤ 1048576)
  (hc : l ≠ [] → ∃ b off, ao = some ⟨b, off, none⟩ ∧ b < w.heap.size ∧ EnsAt w b off l) :
  Calls Tryz.prog 45 #[.slice ao l.length cap] w fun e w' => e = .returned (.slice (some ⟨w.heap.size, 0, none⟩) l.length l.length) ∧ w.heap.size < w'.heap.size ∧ OwnE w' w.heap.size l ∧ Below w.heap.size w w' := by
 go_enter Tryz.func45, Tryz.ntmps45
 go_wp2_with (at_make; refine wpList_make_at rfl (.tmp 6) (.tmp 6) 40 rfl 155 _ 2 16 Tryz.underlying40 Tryz.infoEnd l.length rfl rfl (by omega) (by unfold maxLen; omega) ?_; intro w0 hrow0 hsz0 hb0)
 go_loopw [4] (fun iv wr => ∃ (k : Nat), k ≤ l.length ∧ iv = .int .i64 k ∧ w.heap.size < wr.heap.size ∧ Below w.heap.size w wr ∧ ∃ cur : Array Value, Hid (wr.heap[w.heap.size]? = some (.cells cur 155 (0, 0))) ∧ Hid (Filled En.cells 2 l k cur.toList)) (fun i _ => l.length - (intOf i).toNat)
 case atStart => exact ⟨0, by omega, rfl, by rw [hsz0.out]; omega, hb0, _, hrow0, ⟨by rw [Array.length_toList, size_madeCells], fun i s hi => absurd hi (by omega)⟩⟩
 case round =>
  obtain ⟨k, hk, rfl, hsz, hb, cur, hrow, hfill⟩ := hrel
  by_cases hlt : k < l.length
  ·obtain ⟨b, off, rfl, hbs, hat⟩ := hc (by intro h; rw [h] at hlt; simp at hlt)
   obtain ⟨s, hsk⟩ : ∃ s, l[k]? = some s := ⟨l[k], by simp [hlt]⟩
   have hcs := (hat k s hsk).below hb hbs
   have hsk' : Hid (l[k]? = some s) := hsk
   unfold EnAt at hcs
   obtain ⟨c0, c1⟩ := hcs
   clear hsk hat hc
   go_wp2_with fail
   refine (toEnd_any s _).mono ?_
   rintro e w1 ⟨rfl, hb1⟩
   clear c0 c1
   have hb2 := hb.trans (hb1.mono hb.size)
   have hrow1 : Hid (w1.heap[w.heap.size]? = some (.cells cur 155 (0, 0))) := (hb1.block _ hsz).trans hrow.out
   have hlen := hfill.out.1
   have hfit : k * 2 + 2 ≤ cur.size := by rw [Array.length_toList] at hlen; omega
   go_wp2_with (refine wpList_store_at rfl 155 (.tmp 21) (.tmp 20) rfl w.heap.size (k * 2) #[.int .i64 s.number, .int .i64 s.seen] rfl rfl 155 cur hrow1.out Tryz.infosEnd hfit (one_En s) ?_; intro w2 hrow2 hsz2 hb3)
   have hsz3 : w.heap.size < w2.heap.size := by rw [hsz2.out]; exact Nat.lt_of_lt_of_le hsz hb1.size
   have hb4 : Below w.heap.size w w2 := hb2.trans hb3
   go_roundw
   case rel => exact ⟨k + 1, by omega, by go_num, hsz3, hb4, _, hrow2, hfill.out.step hsk'.out rfl⟩
   case measure => simp [intOf]; omega
  ·go_wp2
   go_ret
   have hkl : k = l.length := by omega
   rw [hkl] at hfill
   exact ⟨rfl, hsz, ⟨_, hrow.out, hfill.out⟩, hb⟩
end Go.Proofs.YtbceafpodamnfabGreatDoor

namespace Go.Proofs.YtbceafpodamnfabGreatDoor
open Go.RowKit Go.Sort
end Go.Proofs.YtbceafpodamnfabGreatDoor

namespace Go.Proofs.YtbceafpodamnfabGreatDoor
open Go.RowKit Go.Sort
set_option maxHeartbeats 1000000 in
theorem szEndS_any (n : Nat) (ao : Option Addr) (cap : Nat) (left : Int) (w : World) (hn : n ≤ maxLen) (h0 : 0 ≤ left) (h1 : left ≤ 1048576) :
  Calls Tryz.prog 38 #[.slice ao n cap, .int .i64 left] w fun e w' => ∃ r, e = .returned (.int .i64 r) ∧ -1 ≤ r ∧ r ≤ left ∧ (0 ≤ r → (n : Int) ≤ left) ∧ w' = w := by
 unfold maxLen at hn
 by_cases hneg : left - n < 0
 ·go_enter Tryz.func38, Tryz.ntmps38
  go_wp2
  go_ret
  exact ⟨-1, rfl, by omega, by omega, by omega, rfl⟩
 ·go_enter Tryz.func38, Tryz.ntmps38
  go_wp2
  go_ret
  exact ⟨left - n, rfl, by omega, by omega, by omega, rfl⟩
def Ac.sized (A : Ac) : Prop := A.service.size ≤ maxLen ∧ A.ends.length ≤ maxLen
def Ac.small (A : Ac) : Prop := A.service.size ≤ 1048576 ∧ A.ends.length ≤ 1048576
set_option maxHeartbeats 1000000 in
theorem szAct_any (A : Ac) (ae : Option Addr) (ce : Nat) (left : Int) (w : World) (hZ : A.sized) (h0 : 0 ≤ left) (h1 : left ≤ 1048576) :
  Calls Tryz.prog 8 #[.agg #[.string A.service, .int .i64 A.seen, .int .i64 A.create, .int .i64 A.want, .int .i64 A.cool, .bool A.scale, .slice ae A.ends.length ce, .bool A.drop], .int .i64 left] w fun e w' => ∃ r, e = .returned (.int .i64 r) ∧ -1 ≤ r ∧ r ≤ left ∧ Hid (0 ≤ r → A.small) ∧ Below w.heap.size w w' := by
 obtain ⟨hz1, hz2⟩ := hZ
 have HZ2 : Hid _ := hz2
 clear hz2
 unfold maxLen at hz1
 have hbx := below_box w (.cells #[.string A.service, .int .i64 A.seen, .int .i64 A.create, .int .i64 A.want, .int .i64 A.cool, .bool A.scale, .slice ae A.ends.length ce, .bool A.drop] 29)
 by_cases hneg : left - A.service.size < 0
 ·go_enter Tryz.func8, Tryz.ntmps8
  go_wp2
  go_ret
  exact ⟨-1, rfl, by omega, by omega, fun h => absurd h (by omega), hbx⟩
 ·go_enter Tryz.func8, Tryz.ntmps8
  go_wp2_with fail
  refine (szEndS_any A.ends.length ae ce (left - A.service.size) _ HZ2.out (by omega) (by omega)).mono ?_
  rintro e w1 ⟨r, rfl, hr0, hr1, hq, rfl⟩
  have HQ : Hid _ := hq
  clear hq
  by_cases hn : r < 0
  ·go_wp2
   go_ret
   exact ⟨-1, rfl, by omega, by omega, fun h => absurd h (by omega), hbx⟩
  ·go_wp2
   go_ret
   exact ⟨r, rfl, by omega, by omega, fun _ => ⟨by omega, by have := HQ.out (by omega); omega⟩, hbx⟩
end Go.Proofs.YtbceafpodamnfabGreatDoor

namespace Go.Proofs.YtbceafpodamnfabGreatDoor
open Go.RowKit Go.Sort
theorem Tryz.infosEnds' : (Tryz.prog.info? 40).map (·.size) = some 1 := by kernel_rfl
theorem Tryz.infosAct' : (Tryz.prog.info? 42).map (·.size) = some 8 := by kernel_rfl
theorem Tryz.infosBoolq : (Tryz.prog.info? 4).map (·.size) = some 1 := by kernel_rfl
set_option maxHeartbeats 4000000 in
theorem toAct_own (A : Ac) (ae : Option Addr) (ce : Nat) (w : World) (hl : A.ends.length ≤ 1048576) (hE : SlE w ae A.ends) :
  Calls Tryz.prog 11 #[.agg #[.string A.service, .int .i64 A.seen, .int .i64 A.create, .int .i64 A.want, .int .i64 A.cool, .bool A.scale, .slice ae A.ends.length ce, .bool A.drop]] w fun e w' => ∃ b, e = .returned (.agg #[.string A.service, .int .i64 A.seen, .int .i64 A.create, .int .i64 A.want, .int .i64 A.cool, .bool A.scale, .slice (some ⟨b, 0, none⟩) A.ends.length A.ends.length, .bool A.drop]) ∧ w.heap.size ≤ b ∧ OwnE w' b A.ends ∧ Below w.heap.size w w' := by
 obtain ⟨t0, t1, t2, t3⟩ := three_new w (.cells #[.string A.service, .int .i64 A.seen, .int .i64 A.create, .int .i64 A.want, .int .i64 A.cool, .bool A.scale, .slice ae A.ends.length ce, .bool A.drop] 29) (.cells #[.string ⟨#[]⟩, .int .i64 0, .int .i64 0, .int .i64 0, .int .i64 0, .bool false, .slice none 0 0, .bool false] 42) (.cells #[.string A.service, .int .i64 A.seen, .int .i64 A.create, .int .i64 A.want, .int .i64 A.cool, .bool A.scale, .slice none 0 0, .bool false] 42)
 have T0 : Hid _ := t0
 have T1 : Hid _ := t1
 have T2 : Hid _ := t2
 have HS3 : Hid _ := t3
 clear t0 t1 t2 t3
 have hb0 : Below w.heap.size w (((w.alloc (.cells #[.string A.service, .int .i64 A.seen, .int .i64 A.create, .int .i64 A.want, .int .i64 A.cool, .bool A.scale, .slice ae A.ends.length ce, .bool A.drop] 29)).alloc (.cells #[.string ⟨#[]⟩, .int .i64 0, .int .i64 0, .int .i64 0, .int .i64 0, .bool false, .slice none 0 0, .bool false] 42)).alloc (.cells #[.string A.service, .int .i64 A.seen, .int .i64 A.create, .int .i64 A.want, .int .i64 A.cool, .bool A.scale, .slice none 0 0, .bool false] 42)) := (((Below.refl _ _).alloc (Nat.le_refl _) _).alloc (by simp) _).alloc (by simp; omega) _
 go_enter Tryz.func11, Tryz.ntmps11
 go_wp2_with fail
 refine (toEndS_own A.ends ae ce _ hl (hE.below hb0)).mono ?_
 rintro e w1 ⟨rfl, hz1, hO, hb1⟩
 rw [HS3.out] at hz1 hO hb1
 rw [HS3.out]
 have hbw1 := hb0.trans (hb1.mono (by omega))
 have U0 : Hid (w1.heap[w.heap.size]? = some (.cells #[.string A.service, .int .i64 A.seen, .int .i64 A.create, .int .i64 A.want, .int .i64 A.cool, .bool A.scale, .slice ae A.ends.length ce, .bool A.drop] 29 (0, 0))) := (hb1.block _ (by omega)).trans T0.out
 have U1 : Hid (w1.heap[w.heap.size + 1]? = some (.cells #[.string ⟨#[]⟩, .int .i64 0, .int .i64 0, .int .i64 0, .int .i64 0, .bool false, .slice none 0 0, .bool false] 42 (0, 0))) := (hb1.block _ (by omega)).trans T1.out
 have U2 : Hid (w1.heap[w.heap.size + 1 + 1]? = some (.cells #[.string A.service, .int .i64 A.seen, .int .i64 A.create, .int .i64 A.want, .int .i64 A.cool, .bool A.scale, .slice none 0 0, .bool false] 42 (0, 0))) := (hb1.block _ (by omega)).trans T2.out
 have HO : Hid (OwnE w1 (w.heap.size + 1 + 1 + 1) A.ends) := hO
 clear hO hb1 hb0 T0 T1 T2 HS3
 go_wp2_with (first
  | (refine wpList_store_one rfl 40 (.tmp 25) (.tmp 24) rfl (w.heap.size + 1 + 1) 6 (.slice (some ⟨w.heap.size + 1 + 1 + 1, 0, none⟩) A.ends.length A.ends.length) rfl rfl Tryz.infosEnds' rfl rfl 42 #[.string A.service, .int .i64 A.seen, .int .i64 A.create, .int .i64 A.want, .int .i64 A.cool, .bool A.scale, .slice none 0 0, .bool false] U2.out (Nat.le_of_ble_eq_true rfl) ?_; intro w2 hz on; have V2 : Hid (w2.heap[w.heap.size + 1 + 1]? = some (.cells #[.string A.service, .int .i64 A.seen, .int .i64 A.create, .int .i64 A.want, .int .i64 A.cool, .bool A.scale, .slice (some ⟨w.heap.size + 1 + 1 + 1, 0, none⟩) A.ends.length A.ends.length, .bool false] 42 (0, 0))) := hz; have V1 : Hid _ := (on.other (w.heap.size + 1) (by omega)).trans U1.out; have V0 : Hid _ := (on.other w.heap.size (by omega)).trans U0.out; have O2 : Hid (OwnE w2 (w.heap.size + 1 + 1 + 1) A.ends) := HO.out.blk (on.other _ (by omega)); have hbw2 := hbw1.trans (on.below.mono (by omega)); clear hz on; have v7 := blk_cell V0.out 7 rfl)
  | (refine wpList_store_one rfl 4 (.tmp 28) (.tmp 27) rfl (w.heap.size + 1 + 1) 7 (.bool A.drop) rfl rfl Tryz.infosBoolq rfl rfl 42 #[.string A.service, .int .i64 A.seen, .int .i64 A.create, .int .i64 A.want, .int .i64 A.cool, .bool A.scale, .slice (some ⟨w.heap.size + 1 + 1 + 1, 0, none⟩) A.ends.length A.ends.length, .bool false] V2.out (Nat.le_of_ble_eq_true rfl) ?_; intro w3 hz on; have X2 : Hid (w3.heap[w.heap.size + 1 + 1]? = some (.cells #[.string A.service, .int .i64 A.seen, .int .i64 A.create, .int .i64 A.want, .int .i64 A.cool, .bool A.scale, .slice (some ⟨w.heap.size + 1 + 1 + 1, 0, none⟩) A.ends.length A.ends.length, .bool A.drop] 42 (0, 0))) := hz; have X1 : Hid _ := (on.other (w.heap.size + 1) (by omega)).trans V1.out; have O3 : Hid (OwnE w3 (w.heap.size + 1 + 1 + 1) A.ends) := O2.out.blk (on.other _ (by omega)); have hbw3 := hbw2.trans (on.below.mono (by omega)); clear hz on; have q0 := blk_cell X2.out 0 rfl; have q1 := blk_cell X2.out 1 rfl; have q2 := blk_cell X2.out 2 rfl; have q3 := blk_cell X2.out 3 rfl; have q4 := blk_cell X2.out 4 rfl; have q5 := blk_cell X2.out 5 rfl; have q6 := blk_cell X2.out 6 rfl; have q7 := blk_cell X2.out 7 rfl)
  | (refine wpList_store_only rfl 42 (.tmp 2) (.tmp 29) rfl (w.heap.size + 1) 0 #[.string A.service, .int .i64 A.seen, .int .i64 A.create, .int .i64 A.want, .int .i64 A.cool, .bool A.scale, .slice (some ⟨w.heap.size + 1 + 1 + 1, 0, none⟩) A.ends.length A.ends.length, .bool A.drop] rfl rfl 42 #[.string ⟨#[]⟩, .int .i64 0, .int .i64 0, .int .i64 0, .int .i64 0, .bool false, .slice none 0 0, .bool false] X1.out Tryz.infosAct' (Nat.le_of_ble_eq_true rfl) (by simp [Value.oneCell']) ?_; intro wf hz on; have RF : Hid (wf.heap[w.heap.size + 1]? = some (.cells #[.string A.service, .int .i64 A.seen, .int .i64 A.create, .int .i64 A.want, .int .i64 A.cool, .bool A.scale, .slice (some ⟨w.heap.size + 1 + 1 + 1, 0, none⟩) A.ends.length A.ends.length, .bool A.drop] 42 (0, 0))) := hz; have OF : Hid (OwnE wf (w.heap.size + 1 + 1 + 1) A.ends) := O3.out.blk (on.other _ (by omega)); have hbf := hbw3.trans (on.below.mono (by omega)); clear hz on; have p0 := blk_cell RF.out 0 rfl; have p1 := blk_cell RF.out 1 rfl; have p2 := blk_cell RF.out 2 rfl; have p3 := blk_cell RF.out 3 rfl; have p4 := blk_cell RF.out 4 rfl; have p5 := blk_cell RF.out 5 rfl; have p6 := blk_cell RF.out 6 rfl; have p7 := blk_cell RF.out 7 rfl))
 refine bodyPost_ret (v := .agg #[.string A.service, .int .i64 A.seen, .int .i64 A.create, .int .i64 A.want, .int .i64 A.cool, .bool A.scale, .slice (some ⟨w.heap.size + 1 + 1 + 1, 0, none⟩) A.ends.length A.ends.length, .bool A.drop]) (by simp [results, Tryz.results11, go_sem, p0, p1, p2, p3, p4, p5, p6, p7]) rfl ⟨w.heap.size + 1 + 1 + 1, rfl, by omega, OF.out, hbf⟩
end Go.Proofs.YtbceafpodamnfabGreatDoor

namespace Go.Proofs.YtbceafpodamnfabGreatDoor
open Go.RowKit Go.Sort
set_option maxRecDepth 100000 in
set_option maxHeartbeats 4000000 in
theorem eqAct_same (A : Ac) (ae af : Option Addr) (ce cf : Nat) (w : World) (hl : A.ends.length ≤ 1048576) (h1 : SlE w ae A.ends) (h2 : SlE w af A.ends) :
  Calls Tryz.prog 14 #[.agg #[.string A.service, .int .i64 A.seen, .int .i64 A.create, .int .i64 A.want, .int .i64 A.cool, .bool A.scale, .slice ae A.ends.length ce, .bool A.drop], .agg #[.string A.service, .int .i64 A.seen, .int .i64 A.create, .int .i64 A.want, .int .i64 A.cool, .bool A.scale, .slice af A.ends.length cf, .bool A.drop]] w fun e w' => e = .returned (.bool true) ∧ Below w.heap.size w w' := by
 have hb0 : Below w.heap.size w ((w.alloc (.cells #[.string A.service, .int .i64 A.seen, .int .i64 A.create, .int .i64 A.want, .int .i64 A.cool, .bool A.scale, .slice ae A.ends.length ce, .bool A.drop] 42)).alloc (.cells #[.string A.service, .int .i64 A.seen, .int .i64 A.create, .int .i64 A.want, .int .i64 A.cool, .bool A.scale, .slice af A.ends.length cf, .bool A.drop] 42)) := ((Below.refl _ _).alloc (Nat.le_refl _) _).alloc (by simp) _
 go_enter Tryz.func14, Tryz.ntmps14
 go_wp2_with fail
 refine (eqEndS_same A.ends ae af ce cf _ hl (h1.below hb0) (h2.below hb0)).mono ?_
 rintro e w1 ⟨rfl, hb1⟩
 have hbb := hb0.trans (hb1.mono hb0.size)
 obtain ⟨hc1, hf1⟩ := bcell hb1
 clear hf1
 have hz1 : w.heap.size + 1 < w1.heap.size := by have := hb1.size; simp at this; omega
 have hz0 : w.heap.size < w1.heap.size := by omega
 go_wp2
 go_ret
 exact ⟨rfl, hbb⟩
end Go.Proofs.YtbceafpodamnfabGreatDoor

namespace Go.Proofs.YtbceafpodamnfabGreatDoor
open Go.RowKit Go.Sort
theorem hid_of' {p : Prop} (h : p) : Hid p := h
structure Keep (lo hi : Nat) (w w' : World) : Prop where
 os : w'.os = w.os
 tape : w'.tape = w.tape
 output : w'.output = w.output
 size : w.heap.size ≤ w'.heap.size
 block : ∀ q, q < w.heap.size → (q < lo ∨ hi < q) → w'.heap[q]? = w.heap[q]?
theorem Keep.trans {lo hi : Nat} {a b c : World} (h : Keep lo hi a b) (k : Keep lo hi b c) : Keep lo hi a c :=
 ⟨k.os.trans h.os, k.tape.trans h.tape, k.output.trans h.output, Nat.le_trans h.size k.size, fun q hq hr => (k.block q (Nat.lt_of_lt_of_le hq h.size) hr).trans (h.block q hq hr)⟩
theorem keep_grown {lo hi g : Nat} {w w' : World} (h : w.grownBy w' (some g)) (h1 : lo ≤ g) (h2 : g ≤ hi) : Keep lo hi w w' :=
 ⟨h.os, h.tape, h.output, h.size, fun q hq hr => h.block q hq (fun e => by have := Option.some.inj e; omega)⟩
theorem keep_below {lo hi : Nat} {w w' : World} (h : Below w.heap.size w w') : Keep lo hi w w' := ⟨h.os, h.tape, h.output, h.size, fun q hq _ => h.block q hq⟩
theorem Keep.toBelow {lo hi n : Nat} {w w' : World} (h : Keep lo hi w w') (h1 : n ≤ lo) (h2 : n ≤ w.heap.size) : Below n w w' := ⟨h.os, h.tape, h.output, h.size, fun q hq => h.block q (by omega) (.inl (by omega))⟩
set_option maxHeartbeats 2000000 in
theorem markBook_any (B : Bk) (lo b1 b2 b3 : Nat) (k0 : Int) (w : World) (hS : B.small) (h0 : 1 ≤ k0) (h1 : k0 ≤ 1000000) (hO : BkOwn lo w b1 b2 b3 B) :
  Calls Tryz.prog 15 #[.agg #[.int .i64 B.now, .slice (some ⟨b1, 0, none⟩) B.svcs.length B.svcs.length, .slice (some ⟨b2, 0, none⟩) B.cps.length B.cps.length, .slice (some ⟨b3, 0, none⟩) B.bts.length B.bts.length], .int .i64 k0] w fun e w' => e = .returned (.int .i64 (k0 + 13 * B.svcs.length + 7 * B.cps.length + 2 * B.bts.length)) ∧ Keep b1 b3 w w' := by
 obtain ⟨hl1, hl2, hl3⟩ := hS
 obtain ⟨_, h12, h23, oS, oC, oB⟩ := hO
 have hsz : (w.alloc (.cells #[.int .i64 B.now, .slice (some ⟨b1, 0, none⟩) B.svcs.length B.svcs.length, .slice (some ⟨b2, 0, none⟩) B.cps.length B.cps.length, .slice (some ⟨b3, 0, none⟩) B.bts.length B.bts.length] 36)).heap.size = w.heap.size + 1 := by show (w.heap.push _).size = _; simp
 have HSZ : Hid _ := hsz
 clear hsz
 have hbx := below_box w (.cells #[.int .i64 B.now, .slice (some ⟨b1, 0, none⟩) B.svcs.length B.svcs.length, .slice (some ⟨b2, 0, none⟩) B.cps.length B.cps.length, .slice (some ⟨b3, 0, none⟩) B.bts.length B.bts.length] 36)
 have T0 : Hid _ := heap_alloc_new w (.cells #[.int .i64 B.now, .slice (some ⟨b1, 0, none⟩) B.svcs.length B.svcs.length, .slice (some ⟨b2, 0, none⟩) B.cps.length B.cps.length, .slice (some ⟨b3, 0, none⟩) B.bts.length B.bts.length] 36)
 have l1 := oS.lt
 have l2 := oC.lt
 have l3 := oB.lt
 have RS := hid_of' (oS.room.blk (hbx.block b1 l1))
 have RC := hid_of' (oC.room.blk (hbx.block b2 l2))
 have RB := hid_of' (oB.room.blk (hbx.block b3 l3))
 clear oS oC oB
 go_enter Tryz.func15, Tryz.ntmps15
 go_wp2_with fail
 refine (markSvcS_any B.svcs.length b1 _ k0 _ hl1 h0 (by omega) RS.out).mono ?_
 rintro e w1 ⟨rfl, _, g1⟩
 have T1 : Hid _ := (g1.block w.heap.size (by rw [HSZ.out]; omega) (fun e => by have := Option.some.inj e; omega)).trans T0.out
 have RC1 := hid_of' (RC.out.blk (g1.block b2 (by rw [HSZ.out]; omega) (fun e => by have := Option.some.inj e; omega)))
 have RB1 := hid_of' (RB.out.blk (g1.block b3 (by rw [HSZ.out]; omega) (fun e => by have := Option.some.inj e; omega)))
 have z1 := g1.size
 rw [HSZ.out] at z1
 have K1 := (keep_below (lo := b1) (hi := b3) hbx).trans (keep_grown g1 (Nat.le_refl _) (by omega))
 clear g1 RS RC RB T0
 have e2 := blk_cell T1.out 2 rfl
 go_wp2_with fail
 refine (markCpS_any B.cps.length b2 _ (k0 + 13 * B.svcs.length) _ hl2 (by omega) (by omega) RC1.out).mono ?_
 rintro e w2 ⟨rfl, _, g2⟩
 have T2 : Hid _ := (g2.block w.heap.size (by omega) (fun e => by have := Option.some.inj e; omega)).trans T1.out
 have RB2 := hid_of' (RB1.out.blk (g2.block b3 (by omega) (fun e => by have := Option.some.inj e; omega)))
 have z2 := g2.size
 have K2 := K1.trans (keep_grown g2 (by omega) (by omega))
 clear g2 RC1 RB1 T1 e2
 have e3 := blk_cell T2.out 3 rfl
 go_wp2_with fail
 refine (markBtS_any B.bts.length b3 _ (k0 + 13 * B.svcs.length + 7 * B.cps.length) _ hl3 (by omega) (by omega) RB2.out).mono ?_
 rintro e w3 ⟨rfl, _, g3⟩
 have K3 := K2.trans (keep_grown g3 (by omega) (Nat.le_refl _))
 go_wp2
 go_ret
 exact ⟨rfl, K3⟩
end Go.Proofs.YtbceafpodamnfabGreatDoor

namespace Go.Proofs.YtbceafpodamnfabGreatDoor
open Go.RowKit Go.Sort
set_option maxHeartbeats 1000000 in
theorem markEnS_nil (ao : Option Addr) (cap : Nat) (k0 : Int) (w : World) :
  Calls Tryz.prog 55 #[.slice ao 0 cap, .int .i64 k0] w fun e w' => e = .returned (.int .i64 k0) ∧ w' = w := by
 go_enter Tryz.func55, Tryz.ntmps55
 go_wp2
 go_loop [1, 5] (fun kv i => kv = .int .i64 k0 ∧ i = .int .i64 0) (fun _ _ => 0)
 case atStart => exact ⟨rfl, rfl⟩
 case round =>
  obtain ⟨rfl, rfl⟩ := hrel
  go_wp2
  go_ret
  exact ⟨rfl, rfl⟩
theorem markEnds_any (l : List En) (ao : Option Addr) (cap : Nat) (k0 : Int) (W : World) (hl : l.length ≤ 1048576) (h0 : 1 ≤ k0) (h1 : k0 + 2 * l.length < 100000000) (hO : l ≠ [] → ∃ ge, ao = some ⟨ge, 0, none⟩ ∧ RoomE W ge l.length) :
  Calls Tryz.prog 55 #[.slice ao l.length cap, .int .i64 k0] W fun e w' => e = .returned (.int .i64 (k0 + 2 * l.length)) ∧ (l = [] → w' = W) ∧ (l ≠ [] → ∃ ge, ao = some ⟨ge, 0, none⟩ ∧ FillE w' ge (marksEn k0 l.length) ∧ W.grownBy w' (some ge)) := by
 cases l with
 | nil => exact (markEnS_nil ao cap k0 W).mono fun e w' ⟨he, hw⟩ => ⟨by rw [he]; simp, fun _ => hw, fun h => absurd rfl h⟩
 | cons x l =>
  obtain ⟨ge, ea, hr⟩ := hO (by simp)
  subst ea
  exact (markEnS_any (x :: l).length ge cap k0 W hl h0 h1 hr).mono fun e w' ⟨he, hf, hg⟩ => ⟨he, fun h => absurd h (by simp), fun _ => ⟨ge, rfl, hf, hg⟩⟩
end Go.Proofs.YtbceafpodamnfabGreatDoor
