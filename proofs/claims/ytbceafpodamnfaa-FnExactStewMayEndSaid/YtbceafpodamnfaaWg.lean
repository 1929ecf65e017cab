/-
  My own. Equality of slices of structs, of books.
-/
import Derived.Test.YtbceafpodamnfaaWf
import Derived.Test.YtbceafpodamnfaaLq
namespace Go.Proofs.Ytbceafpodamnfaa
open Go.RowKit Go.Sort

set_option maxHeartbeats 1000000 in
theorem eqServiceS_same (l : List Svc) (ao ap : Option Addr) (cap cap' : Nat) (w : World) (hl : l.length ≤ 1048576) (h1 : SlS w ao l) (h2 : SlS w ap l) :
    Calls Try.prog 46 #[.slice ao l.length cap, .slice ap l.length cap'] w fun e w' => e = .returned (.bool true) ∧ Below w.heap.size w w' := by
  go_enter Try.func46, Try.ntmps46
  go_wp2
  go_loopw [5] (fun iv wr => ∃ (k : Nat), k ≤ l.length ∧ iv = .int .i64 k ∧ Below w.heap.size w wr) (fun i _ => l.length - (intOf i).toNat)
  case atStart => exact ⟨0, by omega, rfl, Below.refl _ _⟩
  case round =>
    obtain ⟨k, hk, rfl, hb⟩ := hrel
    by_cases hlt : k < l.length
    · have hne : l ≠ [] := by intro h; rw [h] at hlt; simp at hlt
      obtain ⟨b, off, rfl, hbs, hat⟩ := h1 hne
      obtain ⟨b', off', rfl, hbs', hat'⟩ := h2 hne
      obtain ⟨s, hsk⟩ : ∃ s, l[k]? = some s := ⟨l[k], by simp [hlt]⟩
      obtain ⟨c0, c1, c2, c3, c4, c5, c6, c7, c8, c9, c10, c11, c12⟩ := ((hat k s hsk).below hb hbs).grown
      obtain ⟨d0, d1, d2, d3, d4, d5, d6, d7, d8, d9, d10, d11, d12⟩ := ((hat' k s hsk).below hb hbs').grown
      clear hsk hat hat' h1 h2 hne
      go_wp2
      refine wp_region_quiet_below (by kernel_rfl) (by kernel_rfl) ?_
      repeat (first | go_big_quiet_step (exact Calls.regrown_of (eqService_same s _)) | quiet_step (exact Calls.regrown_of (eqService_same s _)))
      refine wpQuiet_nil ?_
      intro w1 hw'
      obtain ⟨⟨dq, osq⟩, hw''⟩ := hw'
      have hb1 : Below wr.heap.size wr w1 := by rw [hw'']; exact below_regrown _ _ _
      clear hw'' c0 d0 c1 d1 c2 d2 c3 d3 c4 d4 c5 d5 c6 d6 c7 d7 c8 d8 c9 d9 c10 d10 c11 d11 c12 d12
      have hb2 := hb.trans (hb1.mono hb.size)
      go_wp2
      go_roundw
      case rel => exact ⟨k + 1, by omega, by go_num, hb2⟩
      case measure => simp [intOf]; omega
    · go_wp2
      go_ret
      exact ⟨rfl, hb⟩

set_option maxHeartbeats 1000000 in
theorem eqCopyS_same (l : List Cp) (ao ap : Option Addr) (cap cap' : Nat) (w : World) (hl : l.length ≤ 1048576) (h1 : SlC w ao l) (h2 : SlC w ap l) :
    Calls Try.prog 47 #[.slice ao l.length cap, .slice ap l.length cap'] w fun e w' => e = .returned (.bool true) ∧ Below w.heap.size w w' := by
  go_enter Try.func47, Try.ntmps47
  go_wp2
  go_loopw [5] (fun iv wr => ∃ (k : Nat), k ≤ l.length ∧ iv = .int .i64 k ∧ Below w.heap.size w wr) (fun i _ => l.length - (intOf i).toNat)
  case atStart => exact ⟨0, by omega, rfl, Below.refl _ _⟩
  case round =>
    obtain ⟨k, hk, rfl, hb⟩ := hrel
    by_cases hlt : k < l.length
    · have hne : l ≠ [] := by intro h; rw [h] at hlt; simp at hlt
      obtain ⟨b, off, rfl, hbs, hat⟩ := h1 hne
      obtain ⟨b', off', rfl, hbs', hat'⟩ := h2 hne
      obtain ⟨s, hsk⟩ : ∃ s, l[k]? = some s := ⟨l[k], by simp [hlt]⟩
      obtain ⟨c0, c1, c2, c3, c4, c5, c6⟩ := ((hat k s hsk).below hb hbs).grown
      obtain ⟨d0, d1, d2, d3, d4, d5, d6⟩ := ((hat' k s hsk).below hb hbs').grown
      clear hsk hat hat' h1 h2 hne
      go_wp2
      refine wp_region_quiet_below (by kernel_rfl) (by kernel_rfl) ?_
      repeat (first | go_big_quiet_step (exact Calls.regrown_of (eqCopy_same s _)) | quiet_step (exact Calls.regrown_of (eqCopy_same s _)))
      refine wpQuiet_nil ?_
      intro w1 hw'
      obtain ⟨⟨dq, osq⟩, hw''⟩ := hw'
      have hb1 : Below wr.heap.size wr w1 := by rw [hw'']; exact below_regrown _ _ _
      clear hw'' c0 d0 c1 d1 c2 d2 c3 d3 c4 d4 c5 d5 c6 d6
      have hb2 := hb.trans (hb1.mono hb.size)
      go_wp2
      go_roundw
      case rel => exact ⟨k + 1, by omega, by go_num, hb2⟩
      case measure => simp [intOf]; omega
    · go_wp2
      go_ret
      exact ⟨rfl, hb⟩

set_option maxHeartbeats 1000000 in
theorem eqBerthS_same (l : List Bt) (ao ap : Option Addr) (cap cap' : Nat) (w : World) (hl : l.length ≤ 1048576) (h1 : SlB w ao l) (h2 : SlB w ap l) :
    Calls Try.prog 48 #[.slice ao l.length cap, .slice ap l.length cap'] w fun e w' => e = .returned (.bool true) ∧ Below w.heap.size w w' := by
  go_enter Try.func48, Try.ntmps48
  go_wp2
  go_loopw [5] (fun iv wr => ∃ (k : Nat), k ≤ l.length ∧ iv = .int .i64 k ∧ Below w.heap.size w wr) (fun i _ => l.length - (intOf i).toNat)
  case atStart => exact ⟨0, by omega, rfl, Below.refl _ _⟩
  case round =>
    obtain ⟨k, hk, rfl, hb⟩ := hrel
    by_cases hlt : k < l.length
    · have hne : l ≠ [] := by intro h; rw [h] at hlt; simp at hlt
      obtain ⟨b, off, rfl, hbs, hat⟩ := h1 hne
      obtain ⟨b', off', rfl, hbs', hat'⟩ := h2 hne
      obtain ⟨s, hsk⟩ : ∃ s, l[k]? = some s := ⟨l[k], by simp [hlt]⟩
      obtain ⟨c0, c1⟩ := ((hat k s hsk).below hb hbs).grown
      obtain ⟨d0, d1⟩ := ((hat' k s hsk).below hb hbs').grown
      clear hsk hat hat' h1 h2 hne
      go_wp2
      refine wp_region_quiet_below (by kernel_rfl) (by kernel_rfl) ?_
      repeat (first | go_big_quiet_step (exact Calls.regrown_of (eqBerth_same s _)) | quiet_step (exact Calls.regrown_of (eqBerth_same s _)))
      refine wpQuiet_nil ?_
      intro w1 hw'
      obtain ⟨⟨dq, osq⟩, hw''⟩ := hw'
      have hb1 : Below wr.heap.size wr w1 := by rw [hw'']; exact below_regrown _ _ _
      clear hw'' c0 d0 c1 d1
      have hb2 := hb.trans (hb1.mono hb.size)
      go_wp2
      go_roundw
      case rel => exact ⟨k + 1, by omega, by go_num, hb2⟩
      case measure => simp [intOf]; omega
    · go_wp2
      go_ret
      exact ⟨rfl, hb⟩

set_option maxHeartbeats 1000000 in
theorem eqBook_same (B : Bk) (a1 a2 a3 x1 x2 x3 : Option Addr) (c1 c2 c3 y1 y2 y3 : Nat) (w : World) (hS : B.small) (hB : BkAt w a1 a2 a3 B) (hX : BkAt w x1 x2 x3 B) :
    Calls Try.prog 17 #[.agg #[.int .i64 B.now, .slice a1 B.svcs.length c1, .slice a2 B.cps.length c2, .slice a3 B.bts.length c3], .agg #[.int .i64 B.now, .slice x1 B.svcs.length y1, .slice x2 B.cps.length y2, .slice x3 B.bts.length y3]] w fun e w' => e = .returned (.bool true) ∧ Below w.heap.size w w' := by
  go_enter Try.func17, Try.ntmps17
  go_wp2_with fail
  have hb0 : Below w.heap.size w ((w.alloc (.cells #[.int .i64 B.now, .slice a1 B.svcs.length c1, .slice a2 B.cps.length c2, .slice a3 B.bts.length c3] 27)).alloc (.cells #[.int .i64 B.now, .slice x1 B.svcs.length y1, .slice x2 B.cps.length y2, .slice x3 B.bts.length y3] 27)) := ((Below.refl _ _).alloc (Nat.le_refl _) _).alloc (by simp) _
  refine (eqServiceS_same B.svcs a1 x1 c1 y1 _ hS.1 (hB.1.below hb0) (hX.1.below hb0)).mono ?_
  rintro e w1 ⟨rfl, hb1⟩
  have hbb1 := hb0.trans (hb1.mono hb0.size)
  obtain ⟨hc1, hf1⟩ := bcell hb1
  clear hf1
  have hz1 : w.heap.size + 1 < w1.heap.size := by have := hb1.size; simp at this; omega
  have hz0 : w.heap.size < w1.heap.size := by omega
  go_wp2_with fail
  refine (eqCopyS_same B.cps a2 x2 c2 y2 _ hS.2.1 (hB.2.1.below hbb1) (hX.2.1.below hbb1)).mono ?_
  rintro e w2 ⟨rfl, hb2⟩
  have hbb2 := hbb1.trans (hb2.mono hbb1.size)
  obtain ⟨hc2, hf2⟩ := bcell hb2
  clear hf2
  go_wp2_with fail
  refine (eqBerthS_same B.bts a3 x3 c3 y3 _ hS.2.2 (hB.2.2.below hbb2) (hX.2.2.below hbb2)).mono ?_
  rintro e w3 ⟨rfl, hb3⟩
  have hbb3 := hbb2.trans (hb3.mono hbb2.size)
  go_wp2
  go_ret
  exact ⟨rfl, hbb3⟩

end Go.Proofs.Ytbceafpodamnfaa
