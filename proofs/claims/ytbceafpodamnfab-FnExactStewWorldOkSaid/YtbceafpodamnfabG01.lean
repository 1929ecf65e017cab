/-
  My own: Wf, Lq, Wg, Wa2, Wh, Wi, Wj, Wk, La, Lb, Lc.
-/
import Derived.Test.YtbceafpodamnfabG00
import Derived.Lib.QuietBelow
import Derived.BigQuiet
import Derived.Laws.AppendOwn
/-
  My own. Equality of structs with themselves.
-/
namespace Go.Proofs.Ytbceafpodamnfab
open Go.RowKit

set_option maxHeartbeats 1000000 in
theorem eqService_same (s : Svc) (w : World) :
    Calls Try.prog 69 #[.agg #[.string s.name, .int .i64 s.version, .bool s.gone, .int .i64 s.image, .int .i64 s.want, .int .i64 s.down, .int .i64 s.over, .int .i64 s.next, .int .i64 s.per, .int .i64 s.least, .int .i64 s.most, .int .i64 s.load, .int .i64 s.cool], .agg #[.string s.name, .int .i64 s.version, .bool s.gone, .int .i64 s.image, .int .i64 s.want, .int .i64 s.down, .int .i64 s.over, .int .i64 s.next, .int .i64 s.per, .int .i64 s.least, .int .i64 s.most, .int .i64 s.load, .int .i64 s.cool]] w fun e w' => e = .returned (.bool true) ∧ Below w.heap.size w w' := by
  go_enter Try.func69, Try.ntmps69
  go_wp2
  go_ret
  exact ⟨rfl, ((Below.refl _ _).alloc (Nat.le_refl _) _).alloc (by simp) _⟩

set_option maxHeartbeats 1000000 in
theorem eqCopy_same (s : Cp) (w : World) :
    Calls Try.prog 70 #[.agg #[.string s.service, .int .i64 s.number, .int .i64 s.version, .int .i64 s.image, .int .i64 s.state, .bool s.ending, .string s.berth], .agg #[.string s.service, .int .i64 s.number, .int .i64 s.version, .int .i64 s.image, .int .i64 s.state, .bool s.ending, .string s.berth]] w fun e w' => e = .returned (.bool true) ∧ Below w.heap.size w w' := by
  go_enter Try.func70, Try.ntmps70
  go_wp2
  go_ret
  exact ⟨rfl, ((Below.refl _ _).alloc (Nat.le_refl _) _).alloc (by simp) _⟩

set_option maxHeartbeats 1000000 in
theorem eqBerth_same (s : Bt) (w : World) :
    Calls Try.prog 71 #[.agg #[.string s.name, .bool s.drain], .agg #[.string s.name, .bool s.drain]] w fun e w' => e = .returned (.bool true) ∧ Below w.heap.size w w' := by
  go_enter Try.func71, Try.ntmps71
  go_wp2
  go_ret
  exact ⟨rfl, ((Below.refl _ _).alloc (Nat.le_refl _) _).alloc (by simp) _⟩

end Go.Proofs.Ytbceafpodamnfab

/-
  My own. What lies in a world, in every world that has grown out of it: for regions that draw their order.
-/
namespace Go.Proofs.Ytbceafpodamnfab
open Go.RowKit Go.Sort

theorem SvcAt.grown {w : World} {b o : Nat} {s : Svc} (h : SvcAt w b o s) : (∀ p : Regrown, (grow (redrawn w p.d) p.os).cell? ⟨b, o, none⟩ = some (.string s.name)) ∧ (∀ p : Regrown, (grow (redrawn w p.d) p.os).cell? ⟨b, o + 1, none⟩ = some (.int .i64 s.version)) ∧ (∀ p : Regrown, (grow (redrawn w p.d) p.os).cell? ⟨b, o + 2, none⟩ = some (.bool s.gone)) ∧ (∀ p : Regrown, (grow (redrawn w p.d) p.os).cell? ⟨b, o + 3, none⟩ = some (.int .i64 s.image)) ∧ (∀ p : Regrown, (grow (redrawn w p.d) p.os).cell? ⟨b, o + 4, none⟩ = some (.int .i64 s.want)) ∧ (∀ p : Regrown, (grow (redrawn w p.d) p.os).cell? ⟨b, o + 5, none⟩ = some (.int .i64 s.down)) ∧ (∀ p : Regrown, (grow (redrawn w p.d) p.os).cell? ⟨b, o + 6, none⟩ = some (.int .i64 s.over)) ∧ (∀ p : Regrown, (grow (redrawn w p.d) p.os).cell? ⟨b, o + 7, none⟩ = some (.int .i64 s.next)) ∧ (∀ p : Regrown, (grow (redrawn w p.d) p.os).cell? ⟨b, o + 8, none⟩ = some (.int .i64 s.per)) ∧ (∀ p : Regrown, (grow (redrawn w p.d) p.os).cell? ⟨b, o + 9, none⟩ = some (.int .i64 s.least)) ∧ (∀ p : Regrown, (grow (redrawn w p.d) p.os).cell? ⟨b, o + 10, none⟩ = some (.int .i64 s.most)) ∧ (∀ p : Regrown, (grow (redrawn w p.d) p.os).cell? ⟨b, o + 11, none⟩ = some (.int .i64 s.load)) ∧ (∀ p : Regrown, (grow (redrawn w p.d) p.os).cell? ⟨b, o + 12, none⟩ = some (.int .i64 s.cool)) := by
  unfold SvcAt at h
  obtain ⟨c0, c1, c2, c3, c4, c5, c6, c7, c8, c9, c10, c11, c12⟩ := h
  exact ⟨fun p => cell_regrown c0 p.d p.os, fun p => cell_regrown c1 p.d p.os, fun p => cell_regrown c2 p.d p.os, fun p => cell_regrown c3 p.d p.os, fun p => cell_regrown c4 p.d p.os, fun p => cell_regrown c5 p.d p.os, fun p => cell_regrown c6 p.d p.os, fun p => cell_regrown c7 p.d p.os, fun p => cell_regrown c8 p.d p.os, fun p => cell_regrown c9 p.d p.os, fun p => cell_regrown c10 p.d p.os, fun p => cell_regrown c11 p.d p.os, fun p => cell_regrown c12 p.d p.os⟩

theorem CpAt.grown {w : World} {b o : Nat} {s : Cp} (h : CpAt w b o s) : (∀ p : Regrown, (grow (redrawn w p.d) p.os).cell? ⟨b, o, none⟩ = some (.string s.service)) ∧ (∀ p : Regrown, (grow (redrawn w p.d) p.os).cell? ⟨b, o + 1, none⟩ = some (.int .i64 s.number)) ∧ (∀ p : Regrown, (grow (redrawn w p.d) p.os).cell? ⟨b, o + 2, none⟩ = some (.int .i64 s.version)) ∧ (∀ p : Regrown, (grow (redrawn w p.d) p.os).cell? ⟨b, o + 3, none⟩ = some (.int .i64 s.image)) ∧ (∀ p : Regrown, (grow (redrawn w p.d) p.os).cell? ⟨b, o + 4, none⟩ = some (.int .i64 s.state)) ∧ (∀ p : Regrown, (grow (redrawn w p.d) p.os).cell? ⟨b, o + 5, none⟩ = some (.bool s.ending)) ∧ (∀ p : Regrown, (grow (redrawn w p.d) p.os).cell? ⟨b, o + 6, none⟩ = some (.string s.berth)) := by
  unfold CpAt at h
  obtain ⟨c0, c1, c2, c3, c4, c5, c6⟩ := h
  exact ⟨fun p => cell_regrown c0 p.d p.os, fun p => cell_regrown c1 p.d p.os, fun p => cell_regrown c2 p.d p.os, fun p => cell_regrown c3 p.d p.os, fun p => cell_regrown c4 p.d p.os, fun p => cell_regrown c5 p.d p.os, fun p => cell_regrown c6 p.d p.os⟩

theorem BtAt.grown {w : World} {b o : Nat} {s : Bt} (h : BtAt w b o s) : (∀ p : Regrown, (grow (redrawn w p.d) p.os).cell? ⟨b, o, none⟩ = some (.string s.name)) ∧ (∀ p : Regrown, (grow (redrawn w p.d) p.os).cell? ⟨b, o + 1, none⟩ = some (.bool s.drain)) := by
  unfold BtAt at h
  obtain ⟨c0, c1⟩ := h
  exact ⟨fun p => cell_regrown c0 p.d p.os, fun p => cell_regrown c1 p.d p.os⟩

theorem SlS.grown {w : World} {ao : Option Addr} {l : List Svc} (h : SlS w ao l) (d : Nat) (os : Array Obj) : SlS (grow (redrawn w d) os) ao l := h.below (below_regrown w d os)
theorem SlC.grown {w : World} {ao : Option Addr} {l : List Cp} (h : SlC w ao l) (d : Nat) (os : Array Obj) : SlC (grow (redrawn w d) os) ao l := h.below (below_regrown w d os)
theorem SlB.grown {w : World} {ao : Option Addr} {l : List Bt} (h : SlB w ao l) (d : Nat) (os : Array Obj) : SlB (grow (redrawn w d) os) ao l := h.below (below_regrown w d os)
theorem BkAt.grown {w : World} {a1 a2 a3 : Option Addr} {B : Bk} (h : BkAt w a1 a2 a3 B) (d : Nat) (os : Array Obj) : BkAt (grow (redrawn w d) os) a1 a2 a3 B := h.below (below_regrown w d os)

end Go.Proofs.Ytbceafpodamnfab

/-
  My own. Equality of slices of structs, of books.
-/
namespace Go.Proofs.Ytbceafpodamnfab
open Go.RowKit Go.Sort

set_option maxHeartbeats 1000000 in
theorem eqServiceS_same (l : List Svc) (ao ap : Option Addr) (cap cap' : Nat) (w : World) (hl : l.length ≤ 1048576) (h1 : SlS w ao l) (h2 : SlS w ap l) :
    Calls Try.prog 34 #[.slice ao l.length cap, .slice ap l.length cap'] w fun e w' => e = .returned (.bool true) ∧ Below w.heap.size w w' := by
  go_enter Try.func34, Try.ntmps34
  go_wp2
  go_loopw [5] (fun iv wr => ∃ (k : Nat), k ≤ l.length ∧ iv = .int .i64 k ∧ Below w.heap.size w wr) (fun i _ => l.length - (intOf i).toNat)
  case atStart => exact ⟨0, by omega, rfl, Below.refl _ _⟩
  case round =>
    obtain ⟨k, hk, rfl, hb⟩ := hrel
    by_cases hlt : k < l.length
    · have hne : l ≠ [] := by intro h; rw [h] at hlt; simp at hlt
      obtain ⟨b, off, rfl, hbs, hat⟩ := h1 hne
      obtain ⟨b', off', rfl, hbs', hat'⟩ := h2 hne
      obtain ⟨s, hsk⟩ : ∃ s, l[k]? = some s := ⟨l[k], by simp [hlt]⟩
      obtain ⟨c0, c1, c2, c3, c4, c5, c6, c7, c8, c9, c10, c11, c12⟩ := ((hat k s hsk).below hb hbs).grown
      obtain ⟨d0, d1, d2, d3, d4, d5, d6, d7, d8, d9, d10, d11, d12⟩ := ((hat' k s hsk).below hb hbs').grown
      clear hsk hat hat' h1 h2 hne
      go_wp2
      refine wp_region_quiet_below (by kernel_rfl) (by kernel_rfl) ?_
      repeat (first | go_big_quiet_step (exact Calls.regrown_of (eqService_same s _)) | quiet_step (exact Calls.regrown_of (eqService_same s _)))
      refine wpQuiet_nil ?_
      intro w1 hw'
      obtain ⟨⟨dq, osq⟩, hw''⟩ := hw'
      have hb1 : Below wr.heap.size wr w1 := by rw [hw'']; exact below_regrown _ _ _
      clear hw'' c0 d0 c1 d1 c2 d2 c3 d3 c4 d4 c5 d5 c6 d6 c7 d7 c8 d8 c9 d9 c10 d10 c11 d11 c12 d12
      have hb2 := hb.trans (hb1.mono hb.size)
      go_wp2
      go_roundw
      case rel => exact ⟨k + 1, by omega, by go_num, hb2⟩
      case measure => simp [intOf]; omega
    · go_wp2
      go_ret
      exact ⟨rfl, hb⟩

set_option maxHeartbeats 1000000 in
theorem eqCopyS_same (l : List Cp) (ao ap : Option Addr) (cap cap' : Nat) (w : World) (hl : l.length ≤ 1048576) (h1 : SlC w ao l) (h2 : SlC w ap l) :
    Calls Try.prog 35 #[.slice ao l.length cap, .slice ap l.length cap'] w fun e w' => e = .returned (.bool true) ∧ Below w.heap.size w w' := by
  go_enter Try.func35, Try.ntmps35
  go_wp2
  go_loopw [5] (fun iv wr => ∃ (k : Nat), k ≤ l.length ∧ iv = .int .i64 k ∧ Below w.heap.size w wr) (fun i _ => l.length - (intOf i).toNat)
  case atStart => exact ⟨0, by omega, rfl, Below.refl _ _⟩
  case round =>
    obtain ⟨k, hk, rfl, hb⟩ := hrel
    by_cases hlt : k < l.length
    · have hne : l ≠ [] := by intro h; rw [h] at hlt; simp at hlt
      obtain ⟨b, off, rfl, hbs, hat⟩ := h1 hne
      obtain ⟨b', off', rfl, hbs', hat'⟩ := h2 hne
      obtain ⟨s, hsk⟩ : ∃ s, l[k]? = some s := ⟨l[k], by simp [hlt]⟩
      obtain ⟨c0, c1, c2, c3, c4, c5, c6⟩ := ((hat k s hsk).below hb hbs).grown
      obtain ⟨d0, d1, d2, d3, d4, d5, d6⟩ := ((hat' k s hsk).below hb hbs').grown
      clear hsk hat hat' h1 h2 hne
      go_wp2
      refine wp_region_quiet_below (by kernel_rfl) (by kernel_rfl) ?_
      repeat (first | go_big_quiet_step (exact Calls.regrown_of (eqCopy_same s _)) | quiet_step (exact Calls.regrown_of (eqCopy_same s _)))
      refine wpQuiet_nil ?_
      intro w1 hw'
      obtain ⟨⟨dq, osq⟩, hw''⟩ := hw'
      have hb1 : Below wr.heap.size wr w1 := by rw [hw'']; exact below_regrown _ _ _
      clear hw'' c0 d0 c1 d1 c2 d2 c3 d3 c4 d4 c5 d5 c6 d6
      have hb2 := hb.trans (hb1.mono hb.size)
      go_wp2
      go_roundw
      case rel => exact ⟨k + 1, by omega, by go_num, hb2⟩
      case measure => simp [intOf]; omega
    · go_wp2
      go_ret
      exact ⟨rfl, hb⟩

set_option maxHeartbeats 1000000 in
theorem eqBerthS_same (l : List Bt) (ao ap : Option Addr) (cap cap' : Nat) (w : World) (hl : l.length ≤ 1048576) (h1 : SlB w ao l) (h2 : SlB w ap l) :
    Calls Try.prog 36 #[.slice ao l.length cap, .slice ap l.length cap'] w fun e w' => e = .returned (.bool true) ∧ Below w.heap.size w w' := by
  go_enter Try.func36, Try.ntmps36
  go_wp2
  go_loopw [5] (fun iv wr => ∃ (k : Nat), k ≤ l.length ∧ iv = .int .i64 k ∧ Below w.heap.size w wr) (fun i _ => l.length - (intOf i).toNat)
  case atStart => exact ⟨0, by omega, rfl, Below.refl _ _⟩
  case round =>
    obtain ⟨k, hk, rfl, hb⟩ := hrel
    by_cases hlt : k < l.length
    · have hne : l ≠ [] := by intro h; rw [h] at hlt; simp at hlt
      obtain ⟨b, off, rfl, hbs, hat⟩ := h1 hne
      obtain ⟨b', off', rfl, hbs', hat'⟩ := h2 hne
      obtain ⟨s, hsk⟩ : ∃ s, l[k]? = some s := ⟨l[k], by simp [hlt]⟩
      obtain ⟨c0, c1⟩ := ((hat k s hsk).below hb hbs).grown
      obtain ⟨d0, d1⟩ := ((hat' k s hsk).below hb hbs').grown
      clear hsk hat hat' h1 h2 hne
      go_wp2
      refine wp_region_quiet_below (by kernel_rfl) (by kernel_rfl) ?_
      repeat (first | go_big_quiet_step (exact Calls.regrown_of (eqBerth_same s _)) | quiet_step (exact Calls.regrown_of (eqBerth_same s _)))
      refine wpQuiet_nil ?_
      intro w1 hw'
      obtain ⟨⟨dq, osq⟩, hw''⟩ := hw'
      have hb1 : Below wr.heap.size wr w1 := by rw [hw'']; exact below_regrown _ _ _
      clear hw'' c0 d0 c1 d1
      have hb2 := hb.trans (hb1.mono hb.size)
      go_wp2
      go_roundw
      case rel => exact ⟨k + 1, by omega, by go_num, hb2⟩
      case measure => simp [intOf]; omega
    · go_wp2
      go_ret
      exact ⟨rfl, hb⟩

set_option maxHeartbeats 1000000 in
theorem eqBook_same (B : Bk) (a1 a2 a3 x1 x2 x3 : Option Addr) (c1 c2 c3 y1 y2 y3 : Nat) (w : World) (hS : B.small) (hB : BkAt w a1 a2 a3 B) (hX : BkAt w x1 x2 x3 B) :
    Calls Try.prog 10 #[.agg #[.int .i64 B.now, .slice a1 B.svcs.length c1, .slice a2 B.cps.length c2, .slice a3 B.bts.length c3], .agg #[.int .i64 B.now, .slice x1 B.svcs.length y1, .slice x2 B.cps.length y2, .slice x3 B.bts.length y3]] w fun e w' => e = .returned (.bool true) ∧ Below w.heap.size w w' := by
  go_enter Try.func10, Try.ntmps10
  go_wp2_with fail
  have hb0 : Below w.heap.size w ((w.alloc (.cells #[.int .i64 B.now, .slice a1 B.svcs.length c1, .slice a2 B.cps.length c2, .slice a3 B.bts.length c3] 33)).alloc (.cells #[.int .i64 B.now, .slice x1 B.svcs.length y1, .slice x2 B.cps.length y2, .slice x3 B.bts.length y3] 33)) := ((Below.refl _ _).alloc (Nat.le_refl _) _).alloc (by simp) _
  refine (eqServiceS_same B.svcs a1 x1 c1 y1 _ hS.1 (hB.1.below hb0) (hX.1.below hb0)).mono ?_
  rintro e w1 ⟨rfl, hb1⟩
  have hbb1 := hb0.trans (hb1.mono hb0.size)
  obtain ⟨hc1, hf1⟩ := bcell hb1
  clear hf1
  have hz1 : w.heap.size + 1 < w1.heap.size := by have := hb1.size; simp at this; omega
  have hz0 : w.heap.size < w1.heap.size := by omega
  go_wp2_with fail
  refine (eqCopyS_same B.cps a2 x2 c2 y2 _ hS.2.1 (hB.2.1.below hbb1) (hX.2.1.below hbb1)).mono ?_
  rintro e w2 ⟨rfl, hb2⟩
  have hbb2 := hbb1.trans (hb2.mono hbb1.size)
  obtain ⟨hc2, hf2⟩ := bcell hb2
  clear hf2
  go_wp2_with fail
  refine (eqBerthS_same B.bts a3 x3 c3 y3 _ hS.2.2 (hB.2.2.below hbb2) (hX.2.2.below hbb2)).mono ?_
  rintro e w3 ⟨rfl, hb3⟩
  have hbb3 := hbb2.trans (hb3.mono hbb2.size)
  go_wp2
  go_ret
  exact ⟨rfl, hbb3⟩

end Go.Proofs.Ytbceafpodamnfab

/-
  My own. Leaf walks of the program.
-/
namespace Go.Proofs.Ytbceafpodamnfab
open Go.RowKit

set_option maxHeartbeats 400000 in
theorem within_any (n lo hi : Int) (w : World) :
    Calls Try.prog 93 #[.int .i64 n, .int .i64 lo, .int .i64 hi] w fun e w' => e = .returned (.bool (inB n lo hi)) ∧ w' = w := by
  go_enter Try.func93, Try.ntmps93
  go_wp2
  all_goals
    go_ret
    exact ⟨ret_bool (by rw [Bool.eq_iff_iff]; simp [inB]; try omega), rfl⟩

set_option maxHeartbeats 400000 in
theorem nameByte_any (c : Int) (w : World) :
    Calls Try.prog 108 #[.int .u8 c] w fun e w' => e = .returned (.bool (byteB c)) ∧ w' = w := by
  go_enter Try.func108, Try.ntmps108
  go_wp2
  all_goals
    go_ret
    exact ⟨ret_bool (by rw [Bool.eq_iff_iff]; simp [byteB]; try omega), rfl⟩

def subL (left n : Int) : Int := if left - n < 0 then -1 else left - n

end Go.Proofs.Ytbceafpodamnfab

/-
  My own. Names.
-/
namespace Go.Proofs.Ytbceafpodamnfab
open Go.RowKit

set_option maxHeartbeats 1000000 in
theorem l1NameOk_any (s : ByteArray) (w : World) (hs : s.size ≤ maxLen) :
    Calls Try.prog 56 #[.string s] w fun e w' => e = .returned (.bool (nameB s)) ∧ w' = w := by
  unfold maxLen at hs
  have hsz : (s.size : Int) ≤ 9223372036854775807 := by omega
  clear hs
  by_cases hin : inB s.size 1 20 = true
  · go_enter Try.func56, Try.ntmps56
    go_wp2_with (go_at_call 54; refine (l1In_any _ _ _ _).mono ?_; rintro e w' ⟨rfl, rfl⟩)
    have HIN : Hid (inB s.size 1 20 = true) := hin
    clear hin
    go_loop [3] (fun i => ∃ k : Nat, k ≤ s.size ∧ i = .int .i64 k ∧ Hid (∀ i (h : i < s.size), i < k → byteB (s[i]'h).toNat = true)) (fun i => s.size - (intOf i).toNat)
    case atStart => exact ⟨0, by omega, rfl, fun i _ h => absurd h (by omega)⟩
    case round =>
      obtain ⟨k, hk, rfl, hall⟩ := hrel
      by_cases hlt : k < s.size
      · go_wp2
        all_goals first
          | (go_ret
             exact ⟨ret_bool (nameB_no s k hlt (by clear hall HIN; simp only [byteB]; simp at *; omega)).symm, rfl⟩)
          | (go_round
             case rel =>
               refine ⟨k + 1, by omega, by go_num, fun i h hi => ?_⟩
               rcases Nat.lt_or_ge i k with h' | h'
               · exact hall.out i h h'
               · have e : i = k := by omega
                 subst e
                 clear hall HIN
                 simp only [byteB]; simp at *; omega
             case measure => simp [intOf]; omega)
      · go_wp2
        go_ret
        exact ⟨ret_bool ((nameB_iff s).2 ⟨HIN.out, fun i h => hall.out i h (by omega)⟩).symm, rfl⟩
  · have hin' : inB s.size 1 20 = false := by simpa using hin
    clear hin
    go_enter Try.func56, Try.ntmps56
    go_wp2_with (go_at_call 54; refine (l1In_any _ _ _ _).mono ?_; rintro e w' ⟨rfl, rfl⟩)
    go_ret
    exact ⟨ret_bool (nameB_size s hin').symm, rfl⟩

set_option maxHeartbeats 1000000 in
theorem isName_any (s : ByteArray) (w : World) (hs : s.size ≤ maxLen) :
    Calls Try.prog 100 #[.string s] w fun e w' => e = .returned (.bool (nameB s)) ∧ w' = w := by
  unfold maxLen at hs
  have hsz : (s.size : Int) ≤ 9223372036854775807 := by omega
  clear hs
  by_cases hin : inB s.size 1 20 = true
  · go_enter Try.func100, Try.ntmps100
    go_wp2_with (go_at_call 93; refine (within_any _ _ _ _).mono ?_; rintro e w' ⟨rfl, rfl⟩)
    have HIN : Hid (inB s.size 1 20 = true) := hin
    clear hin
    go_loop [10] (fun i => ∃ k : Nat, k ≤ s.size ∧ i = .int .i64 k ∧ Hid (∀ i (h : i < s.size), i < k → byteB (s[i]'h).toNat = true)) (fun i => s.size - (intOf i).toNat)
    case atStart => exact ⟨0, by omega, rfl, fun i _ h => absurd h (by omega)⟩
    case round =>
      obtain ⟨k, hk, rfl, hall⟩ := hrel
      by_cases hlt : k < s.size
      · cases hbt : byteB (s[k]'hlt).toNat
        · go_wp2_with (go_at_call 108; refine (nameByte_any _ _).mono ?_; rintro e w' ⟨rfl, rfl⟩)
          go_ret
          exact ⟨ret_bool (nameB_no s k hlt hbt).symm, rfl⟩
        · go_wp2_with (go_at_call 108; refine (nameByte_any _ _).mono ?_; rintro e w' ⟨rfl, rfl⟩)
          go_round
          case rel =>
            refine ⟨k + 1, by omega, by go_num, fun i h hi => ?_⟩
            rcases Nat.lt_or_ge i k with h' | h'
            · exact hall.out i h h'
            · have e : i = k := by omega
              subst e
              exact hbt
          case measure => simp [intOf]; omega
      · go_wp2
        go_ret
        exact ⟨ret_bool ((nameB_iff s).2 ⟨HIN.out, fun i h => hall.out i h (by omega)⟩).symm, rfl⟩
  · have hin' : inB s.size 1 20 = false := by simpa using hin
    clear hin
    go_enter Try.func100, Try.ntmps100
    go_wp2_with (go_at_call 93; refine (within_any _ _ _ _).mono ?_; rintro e w' ⟨rfl, rfl⟩)
    go_ret
    exact ⟨ret_bool (nameB_size s hin').symm, rfl⟩

end Go.Proofs.Ytbceafpodamnfab

/-
  My own. The specification's checks of a service, of a copy.
-/
namespace Go.Proofs.Ytbceafpodamnfab
open Go.RowKit

theorem below_box0 (w : World) (o : Obj) : Below w.heap.size w (w.alloc o) := (Below.refl _ _).alloc (Nat.le_refl _) _

theorem wrap_sum {a b : Int} (ha : inB a 0 10 = true) (hb : inB b 0 10 = true) : wrap64 (a + b) = a + b := by
  simp [inB] at ha hb
  exact IntWalk.wrap64_in _ (by omega)

set_option maxHeartbeats 2000000 in
theorem l1ServiceOk_any (s : Svc) (now : Int) (w : World) (hs : s.name.size ≤ maxLen) :
    Calls Try.prog 55 #[.agg #[.string s.name, .int .i64 s.version, .bool s.gone, .int .i64 s.image, .int .i64 s.want, .int .i64 s.down, .int .i64 s.over, .int .i64 s.next, .int .i64 s.per, .int .i64 s.least, .int .i64 s.most, .int .i64 s.load, .int .i64 s.cool], .int .i64 now] w fun e w' => e = .returned (.bool (svcB now s)) ∧ Below w.heap.size w w' := by
  go_enter Try.func55, Try.ntmps55
  go_wp2_with (first | (go_at_call 54; refine (l1In_any _ _ _ _).mono ?_; rintro e w' ⟨rfl, rfl⟩) | (go_at_call 56; refine (l1NameOk_any _ _ hs).mono ?_; rintro e w' ⟨rfl, rfl⟩))
  all_goals
    go_ret
    refine ⟨ret_bool ?_, below_box0 _ _⟩
    first
      | (have hw := wrap_sum (a := s.down) (b := s.over) ‹_› ‹_›
         simp only [hw, beq_iff_eq, beq_eq_false_iff_ne, ne_eq] at *
         simp [svcB, perB, *]; done)
      | (simp [svcB, perB, *]; done)

end Go.Proofs.Ytbceafpodamnfab

/-
  My own. Looking for a service, a berth.
-/
namespace Go.Proofs.Ytbceafpodamnfab
open Go.RowKit Go.Sort

set_option maxHeartbeats 1000000 in
theorem l1Service_any (B : Bk) (n : ByteArray) (a1 a2 a3 : Option Addr) (c1 c2 c3 : Nat) (w : World) (hS : B.small) (hB : SlS w a1 B.svcs) :
    Calls Try.prog 72 #[.agg #[.int .i64 B.now, .slice a1 B.svcs.length c1, .slice a2 B.cps.length c2, .slice a3 B.bts.length c3], .string n] w fun e w' => e = .returned (.int .i64 (idxS B.svcs n)) ∧ Below w.heap.size w w' := by
  obtain ⟨hl1, hl2, hl3⟩ := hS
  go_enter Try.func72, Try.ntmps72
  go_wp2
  go_loop [5] (fun i => ∃ k : Nat, k ≤ B.svcs.length ∧ i = .int .i64 k ∧ Hid (∀ i, i < k → ∀ s, B.svcs[i]? = some s → (s.name.toList == n.toList) = false)) (fun i => B.svcs.length - (intOf i).toNat)
  case atStart => exact ⟨0, by omega, rfl, fun i hi => absurd hi (by omega)⟩
  case round =>
    obtain ⟨k, hk, rfl, hno⟩ := hrel
    by_cases hlt : k < B.svcs.length
    · have hne : B.svcs ≠ [] := by intro h; rw [h] at hlt; simp at hlt
      obtain ⟨b, off, rfl, hbs, hat⟩ := hB hne
      obtain ⟨s, hsk⟩ : ∃ s, B.svcs[k]? = some s := ⟨B.svcs[k], by simp [hlt]⟩
      have HSK : Hid (B.svcs[k]? = some s) := hsk
      have hc := hat k s hsk
      unfold SvcAt at hc
      have hc0 := hc.1
      clear hat hc hsk hne
      cases hq : (s.name.toList == n.toList)
      · go_wp2
        go_round
        case rel =>
          refine ⟨k + 1, by omega, by go_num, fun i hi t ht => ?_⟩
          rcases Nat.lt_or_ge i k with h' | h'
          · exact hno.out i h' t ht
          · have e : i = k := by omega
            subst e
            rw [HSK.out] at ht; cases ht; exact hq
        case measure => simp [intOf]; omega
      · go_wp2
        go_ret
        exact ⟨ret_int (idxOf_here HSK.out hq hno.out).symm, below_box _ _⟩
    · go_wp2
      go_ret
      exact ⟨ret_int (idxOf_none fun i s hs => hno.out i (by have := (List.getElem?_eq_some_iff.1 hs).1; omega) s hs).symm, below_box _ _⟩

set_option maxHeartbeats 1000000 in
theorem l1Berth_any (B : Bk) (n : ByteArray) (a1 a2 a3 : Option Addr) (c1 c2 c3 : Nat) (w : World) (hS : B.small) (hB : SlB w a3 B.bts) :
    Calls Try.prog 73 #[.agg #[.int .i64 B.now, .slice a1 B.svcs.length c1, .slice a2 B.cps.length c2, .slice a3 B.bts.length c3], .string n] w fun e w' => e = .returned (.int .i64 (idxB B.bts n)) ∧ Below w.heap.size w w' := by
  obtain ⟨hl1, hl2, hl3⟩ := hS
  go_enter Try.func73, Try.ntmps73
  go_wp2
  go_loop [5] (fun i => ∃ k : Nat, k ≤ B.bts.length ∧ i = .int .i64 k ∧ Hid (∀ i, i < k → ∀ s, B.bts[i]? = some s → (s.name.toList == n.toList) = false)) (fun i => B.bts.length - (intOf i).toNat)
  case atStart => exact ⟨0, by omega, rfl, fun i hi => absurd hi (by omega)⟩
  case round =>
    obtain ⟨k, hk, rfl, hno⟩ := hrel
    by_cases hlt : k < B.bts.length
    · have hne : B.bts ≠ [] := by intro h; rw [h] at hlt; simp at hlt
      obtain ⟨b, off, rfl, hbs, hat⟩ := hB hne
      obtain ⟨s, hsk⟩ : ∃ s, B.bts[k]? = some s := ⟨B.bts[k], by simp [hlt]⟩
      have HSK : Hid (B.bts[k]? = some s) := hsk
      have hc := hat k s hsk
      unfold BtAt at hc
      have hc0 := hc.1
      clear hat hc hsk hne
      cases hq : (s.name.toList == n.toList)
      · go_wp2
        go_round
        case rel =>
          refine ⟨k + 1, by omega, by go_num, fun i hi t ht => ?_⟩
          rcases Nat.lt_or_ge i k with h' | h'
          · exact hno.out i h' t ht
          · have e : i = k := by omega
            subst e
            rw [HSK.out] at ht; cases ht; exact hq
        case measure => simp [intOf]; omega
      · go_wp2
        go_ret
        exact ⟨ret_int (idxOf_here HSK.out hq hno.out).symm, below_box _ _⟩
    · go_wp2
      go_ret
      exact ⟨ret_int (idxOf_none fun i s hs => hno.out i (by have := (List.getElem?_eq_some_iff.1 hs).1; omega) s hs).symm, below_box _ _⟩

end Go.Proofs.Ytbceafpodamnfab

/-
  My own. The specification's check of a copy.
-/
namespace Go.Proofs.Ytbceafpodamnfab
open Go.RowKit Go.Sort

theorem below_blk {N : Nat} {w w' : World} {k : Nat} {x : Option Obj} (hb : Below N w w') (h : w.heap[k]? = x) (hk : k < N) : w'.heap[k]? = x := (hb.block k hk).trans h
theorem gcell {w : World} {b : Nat} {cs : Array Value} {t : TypeId} {fr : Nat × Nat} (h : w.heap[b]? = some (.cells cs t fr)) (o : Nat) {v : Value} (hv : cs[o]? = some v) : ∀ p : Regrown, (grow (redrawn w p.d) p.os).cell? ⟨b, o, none⟩ = some v :=
  fun p => cell_regrown (blk_cell h o hv) p.d p.os
theorem two_new (w : World) (A B : Obj) : ((w.alloc A).alloc B).heap[w.heap.size]? = some A ∧ ((w.alloc A).alloc B).heap[w.heap.size + 1]? = some B ∧ ((w.alloc A).alloc B).heap.size = w.heap.size + 1 + 1 := by
  have e : ((w.alloc A).alloc B).heap = (w.heap.push A).push B := rfl
  rw [e]
  refine ⟨?_, ?_, by simp⟩
  · rw [Array.getElem?_push, if_neg (by simp), Array.getElem?_push, if_pos rfl]
  · rw [Array.getElem?_push, if_pos (by simp)]
theorem l1In_b (n lo hi : Int) (w : World) :
    Calls Try.prog 54 #[.int .i64 n, .int .i64 lo, .int .i64 hi] w fun e w' => e = .returned (.bool (inB n lo hi)) ∧ Below w.heap.size w w' :=
  (l1In_any n lo hi w).mono fun e w' ⟨he, hw⟩ => ⟨he, by rw [hw]; exact Below.refl _ _⟩

set_option maxHeartbeats 4000000 in
theorem l1CopyOk_any (B : Bk) (c : Cp) (a1 a2 a3 : Option Addr) (c1 c2 c3 : Nat) (w : World) (hS : B.small) (hB : BkAt w a1 a2 a3 B) :
    Calls Try.prog 57 #[.agg #[.int .i64 B.now, .slice a1 B.svcs.length c1, .slice a2 B.cps.length c2, .slice a3 B.bts.length c3], .agg #[.string c.service, .int .i64 c.number, .int .i64 c.version, .int .i64 c.image, .int .i64 c.state, .bool c.ending, .string c.berth]] w fun e w' => e = .returned (.bool (cpB B c)) ∧ Below w.heap.size w w' := by
  obtain ⟨t0, t1, t2⟩ := two_new w (.cells #[.int .i64 B.now, .slice a1 B.svcs.length c1, .slice a2 B.cps.length c2, .slice a3 B.bts.length c3] 33) (.cells #[.string c.service, .int .i64 c.number, .int .i64 c.version, .int .i64 c.image, .int .i64 c.state, .bool c.ending, .string c.berth] 72)
  have hb0 : Below w.heap.size w ((w.alloc (.cells #[.int .i64 B.now, .slice a1 B.svcs.length c1, .slice a2 B.cps.length c2, .slice a3 B.bts.length c3] 33)).alloc (.cells #[.string c.service, .int .i64 c.number, .int .i64 c.version, .int .i64 c.image, .int .i64 c.state, .bool c.ending, .string c.berth] 72)) := ((Below.refl _ _).alloc (Nat.le_refl _) _).alloc (by simp) _
  have T0 : Hid _ := t0
  have T1 : Hid _ := t1
  have T2 : Hid _ := t2
  clear t0 t1 t2
  cases hf : svcOf B c.service with
  | none =>
    have hcp : Hid (cpB B c = false) := by unfold Hid cpB; rw [hf]
    have hidx : idxS B.svcs c.service = -1 := idxOf_find_none hf
    clear hf
    go_enter Try.func57, Try.ntmps57
    go_wp2_with fail
    refine (l1Service_any B c.service a1 a2 a3 c1 c2 c3 _ hS (hB.1.below hb0)).mono ?_
    rintro e w1 ⟨rfl, hb1⟩
    have hbb1 := hb0.trans (hb1.mono hb0.size)
    rw [hidx]
    clear hidx
    go_wp2
    refine wp_region_quiet_below (by kernel_rfl) (by kernel_rfl) ?_
    repeat (first | go_big_quiet_step (exact Calls.regrown_of (l1In_b _ _ _ _)) | quiet_step (exact Calls.regrown_of (l1In_b _ _ _ _)))
    refine wpQuiet_nil ?_
    intro w2 hw'
    obtain ⟨⟨dq, osq⟩, hw''⟩ := hw'
    have hb2 : Below w1.heap.size w1 w2 := by rw [hw'']; exact below_regrown _ _ _
    clear hw''
    go_wp2
    go_ret
    exact ⟨ret_bool hcp.out.symm, hbb1.trans (hb2.mono hbb1.size)⟩
  | some s =>
    have hcp : Hid (cpB B c = (cpOk B.now s c && berthOk B.bts c)) := by unfold Hid cpB; rw [hf]
    obtain ⟨i, hi, hidx⟩ : ∃ i : Nat, B.svcs[i]? = some s ∧ idxS B.svcs c.service = (i : Int) := idxOf_find hf
    have hilt : i < B.svcs.length := (List.getElem?_eq_some_iff.1 hi).1
    clear hf
    have hne : B.svcs ≠ [] := by intro h; rw [h] at hilt; simp at hilt
    obtain ⟨b, off, ea1, hbs, hat⟩ := hB.1 hne
    subst ea1
    go_enter Try.func57, Try.ntmps57
    go_wp2_with fail
    refine (l1Service_any B c.service _ a2 a3 c1 c2 c3 _ hS (hB.1.below hb0)).mono ?_
    rintro e w1 ⟨rfl, hb1⟩
    have hbb1 := hb0.trans (hb1.mono hb0.size)
    rw [hidx]
    clear hidx
    rw [T2.out] at hb1
    have T0' : Hid _ := below_blk hb1 T0.out (by omega)
    have T1' : Hid _ := below_blk hb1 T1.out (by omega)
    have hz1 : w.heap.size + 1 < w1.heap.size := by have := hb1.size; rw [T2.out] at this; omega
    obtain ⟨q0, q1, q2, q3, q4, q5, q6, q7, q8, q9, q10, q11, q12⟩ := ((hat i s hi).below hbb1 hbs).grown
    clear q0 q1 q2 q3 q4 q5 q6 q8 q9 q10 q11 q12
    have g0 := gcell T0'.out 0 rfl
    have g1 := gcell T0'.out 1 rfl
    have k1 := gcell T1'.out 1 rfl
    have k2 := gcell T1'.out 2 rfl
    have k3 := gcell T1'.out 3 rfl
    have k4 := gcell T1'.out 4 rfl
    have HAT : Hid _ := hat
    have HI : Hid _ := hi
    clear hat hi hne hb1
    go_wp2
    cases h1 : inB c.number 1 (wrap64 (s.next - 1))
    · refine wp_region_quiet_below (by kernel_rfl) (by kernel_rfl) ?_
      repeat (first | go_big_quiet_step (exact Calls.regrown_of (l1In_b _ _ _ _)) | quiet_step (exact Calls.regrown_of (l1In_b _ _ _ _)))
      refine wpQuiet_nil ?_
      intro w2 hw'
      obtain ⟨⟨dq, osq⟩, hw''⟩ := hw'
      have hb2 : Below w1.heap.size w1 w2 := by rw [hw'']; exact below_regrown _ _ _
      clear hw''
      go_wp2
      go_ret
      exact ⟨ret_bool (by rw [hcp.out]; simp [cpOk, h1]), hbb1.trans (hb2.mono hbb1.size)⟩
    cases h2 : inB c.version 1 B.now
    · refine wp_region_quiet_below (by kernel_rfl) (by kernel_rfl) ?_
      repeat (first | go_big_quiet_step (exact Calls.regrown_of (l1In_b _ _ _ _)) | quiet_step (exact Calls.regrown_of (l1In_b _ _ _ _)))
      refine wpQuiet_nil ?_
      intro w2 hw'
      obtain ⟨⟨dq, osq⟩, hw''⟩ := hw'
      have hb2 : Below w1.heap.size w1 w2 := by rw [hw'']; exact below_regrown _ _ _
      clear hw''
      go_wp2
      go_ret
      exact ⟨ret_bool (by rw [hcp.out]; simp [cpOk, h1, h2]), hbb1.trans (hb2.mono hbb1.size)⟩
    cases h3 : inB c.image 1 1000000
    · refine wp_region_quiet_below (by kernel_rfl) (by kernel_rfl) ?_
      repeat (first | go_big_quiet_step (exact Calls.regrown_of (l1In_b _ _ _ _)) | quiet_step (exact Calls.regrown_of (l1In_b _ _ _ _)))
      refine wpQuiet_nil ?_
      intro w2 hw'
      obtain ⟨⟨dq, osq⟩, hw''⟩ := hw'
      have hb2 : Below w1.heap.size w1 w2 := by rw [hw'']; exact below_regrown _ _ _
      clear hw''
      go_wp2
      go_ret
      exact ⟨ret_bool (by rw [hcp.out]; simp [cpOk, h1, h2, h3]), hbb1.trans (hb2.mono hbb1.size)⟩
    cases h4 : inB c.state 1 4
    · refine wp_region_quiet_below (by kernel_rfl) (by kernel_rfl) ?_
      repeat (first | go_big_quiet_step (exact Calls.regrown_of (l1In_b _ _ _ _)) | quiet_step (exact Calls.regrown_of (l1In_b _ _ _ _)))
      refine wpQuiet_nil ?_
      intro w2 hw'
      obtain ⟨⟨dq, osq⟩, hw''⟩ := hw'
      have hb2 : Below w1.heap.size w1 w2 := by rw [hw'']; exact below_regrown _ _ _
      clear hw''
      go_wp2
      go_ret
      exact ⟨ret_bool (by rw [hcp.out]; simp [cpOk, h1, h2, h3, h4]), hbb1.trans (hb2.mono hbb1.size)⟩
    refine wp_region_quiet_below (by kernel_rfl) (by kernel_rfl) ?_
    repeat (first | go_big_quiet_step (exact Calls.regrown_of (l1In_b _ _ _ _)) | quiet_step (exact Calls.regrown_of (l1In_b _ _ _ _)))
    refine wpQuiet_nil ?_
    intro w2 hw'
    obtain ⟨⟨dq, osq⟩, hw''⟩ := hw'
    have hb2 : Below w1.heap.size w1 w2 := by rw [hw'']; exact below_regrown _ _ _
    clear hw''
    have hcp2 : Hid (cpB B c = berthOk B.bts c) := by unfold Hid; rw [hcp.out]; simp [cpOk, h1, h2, h3, h4]
    have hbb2 := hbb1.trans (hb2.mono hbb1.size)
    have T0'' : Hid _ := below_blk hb2 T0'.out (by omega)
    have T1'' : Hid _ := below_blk hb2 T1'.out (by omega)
    clear g0 g1 k1 k2 k3 k4 h1 h2 h3 h4 q7
    have m0 := blk_cell T0''.out 0 rfl
    have m1 := blk_cell T0''.out 1 rfl
    have m2 := blk_cell T0''.out 2 rfl
    have m3 := blk_cell T0''.out 3 rfl
    have n4 := blk_cell T1''.out 4 rfl
    have n6 := blk_cell T1''.out 6 rfl
    by_cases h5 : c.state = 1
    · have H5 : Hid (c.state = 1) := h5
      have h5' : (c.state == 1) = true := by simp [h5]
      clear h5
      go_wp2
      go_ret
      exact ⟨ret_bool (by rw [hcp2.out]; simp [berthOk, H5.out]), hbb2⟩
    · have H5 : Hid (¬ c.state = 1) := h5
      have h5' : (c.state == 1) = false := by simp [h5]
      clear h5
      go_wp2_with fail
      refine (l1Berth_any B c.berth _ a2 a3 c1 c2 c3 _ hS (hB.2.2.below hbb2)).mono ?_
      rintro e w3 ⟨rfl, hb3⟩
      have HG : Hid (decide (0 ≤ idxB B.bts c.berth) = B.bts.any fun b => b.name.toList == c.berth.toList) := idxOf_ge _ _
      generalize idxB B.bts c.berth = z at *
      go_wp2
      go_ret
      exact ⟨ret_bool (by rw [hcp2.out]; simp [berthOk, H5.out, ← HG.out]), hbb2.trans (hb3.mono hbb2.size)⟩

end Go.Proofs.Ytbceafpodamnfab

/-
  My own. Rows that a call has made for itself; 'append' onto them.
-/
namespace Go.Proofs.Ytbceafpodamnfab
open Go.RowKit

/-- At block g lie cap places of this size, of which the first n hold xs. -/
def RowIs (w : World) (e : TypeId) (size g n cap : Nat) (xs : List Value) : Prop :=
  xs.length = n * size ∧ n ≤ cap ∧ ∃ cur : Array Value, w.heap[g]? = some (.cells cur e (0, 0)) ∧ cur.size = cap * size ∧ cur.toList.take (n * size) = xs

theorem RowIs.lt {w : World} {e : TypeId} {size g n cap : Nat} {xs : List Value} (h : RowIs w e size g n cap xs) : g < w.heap.size := by
  obtain ⟨_, _, cur, hg, _⟩ := h
  exact (Array.getElem?_eq_some_iff.1 hg).1
theorem RowIs.blk {w w' : World} {e : TypeId} {size g n cap : Nat} {xs : List Value} (h : RowIs w e size g n cap xs) (hb : w'.heap[g]? = w.heap[g]?) : RowIs w' e size g n cap xs := by
  obtain ⟨h1, h2, cur, hg, r⟩ := h
  exact ⟨h1, h2, cur, hb.trans hg, r⟩
theorem RowIs.below {w w' : World} {e : TypeId} {size g n cap N : Nat} {xs : List Value} (h : RowIs w e size g n cap xs) (hb : Below N w w') (hN : g < N) : RowIs w' e size g n cap xs := h.blk (hb.block g hN)
theorem RowIs.grown {w w' : World} {e : TypeId} {size g n cap : Nat} {xs : List Value} {r : Option Nat} (h : RowIs w e size g n cap xs) (hb : w.grownBy w' r) (hr : some g ≠ r) : RowIs w' e size g n cap xs := h.blk (hb.block g h.lt hr)
theorem RowIs.cell {w : World} {e : TypeId} {size g n cap : Nat} {xs : List Value} (h : RowIs w e size g n cap xs) {j : Nat} {u : Value} (hu : xs[j]? = some u) : w.cell? ⟨g, j, none⟩ = some u := by
  obtain ⟨h1, h2, cur, hg, hs, ht⟩ := h
  rw [cell_row hg]
  rw [← ht, List.getElem?_take] at hu
  split at hu
  · exact hu
  · cases hu
theorem RowIs.new (w : World) (e : TypeId) (size : Nat) : RowIs (w.alloc (.cells #[] e)) e size w.heap.size 0 0 [] :=
  ⟨by simp, Nat.le_refl _, #[], heap_alloc_new w _, by simp, by simp⟩

theorem below_of_grown {w w' : World} {g N : Nat} (h : w.grownBy w' (some g)) (hN : N ≤ g) (hs : N ≤ w.heap.size) : Below N w w' :=
  ⟨h.os, h.tape, h.output, h.size, fun k hk => h.block k (by omega) (fun e => by have := Option.some.inj e; omega)⟩
theorem grown_refl (w : World) (r : Option Nat) : w.grownBy w r := ⟨rfl, rfl, rfl, Nat.le_refl _, fun _ _ _ => rfl⟩

/-- What a slice of just these cells holds. -/
theorem news_row {w : World} {b : Nat} {cs : Array Value} {t : TypeId} {fr : Nat × Nat} (h : w.heap[b]? = some (.cells cs t fr)) : ∀ j u, cs.toList[j]? = some u → w.cell? ((⟨b, 0, none⟩ : Addr).add j) = some u := fun j u hu => by
  rw [Addr.add_lit, cell_row h, Nat.zero_add]
  exact hu

section
variable {P : Program}

theorem run_append_row (w : World) (t ty e : TypeId) (z : Value) (size bytes : Nat) (ht : P.underlying t = some (.slice e)) (hinfo : (P.info? e).map (fun i => (i.zero, i.size, i.bytes)) = some (some z, size, bytes)) (hzs : z.cells.size = size)
    (g n cap : Nat) (xs : List Value) (hrow : RowIs w e size g n cap xs)
    (ad : Addr) (m c : Nat) (news : List Value) (hl : news.length = m * size) (hnews : ∀ j u, news[j]? = some u → w.cell? (ad.add j) = some u) (h1 : ∀ u ∈ news, u.oneCell' = true)
    (h63 : n + m ≤ maxLen) (hbytes : (n + m) * bytes ≤ 140737488355328) :
    ∃ g' cap' w', (Builtin.append_ #[t, t] ty #[.slice (some ⟨g, 0, none⟩) n cap, .slice (some ad) m c]).run P w = .ok (.slice (some ⟨g', 0, none⟩) (n + m) cap') w' ∧ (g' = g ∨ g' = w.heap.size) ∧
      RowIs w' e size g' (n + m) cap' (xs ++ news) ∧ w.grownBy w' (some g) := by
  obtain ⟨i, hi, hz, hs, hb⟩ := info_parts hinfo
  subst hs hb
  have hr0 := hrow
  obtain ⟨hx, hnc, cur, hg, hcs, htake⟩ := hrow
  have hlen : (xs ++ news).length = (n + m) * i.size := by rw [List.length_append, hx, hl, Nat.add_mul]
  have hsmall : n + m ≤ 9223372036854775807 := by simp only [maxLen] at h63; omega
  by_cases hroom : n + m ≤ cap
  · have hfit : n * i.size + news.length ≤ cur.size := by rw [hl, hcs, ← Nat.add_mul]; exact Nat.mul_le_mul_right _ hroom
    have hr := run_append_room (P := P) w t ty e i ht hi g n cap cur hg ad m c news hl hnews h1 hroom hfit
    refine ⟨g, cap, _, hr, .inl rfl, ⟨hlen, hroom, _, setRow_heap w g cur _ e _ hg, ?_, ?_⟩, ⟨rfl, rfl, rfl, by simp, fun k _ hk => setRow_other w g k _ (fun e => hk (by rw [e]))⟩⟩
    · simp only [List.size_toArray, List.length_append, List.length_take, List.length_drop, Array.length_toList]
      omega
    · rw [htake, ← hlen]
      exact List.take_left
  · have holds : ∀ j u, xs[j]? = some u → w.cell? ((⟨g, 0, none⟩ : Addr).add j) = some u := fun j u hu => by
      have := hr0.cell hu
      simpa [Addr.add_lit] using this
    have hr := run_append_grow (P := P) w t ty e i z ht hi hz ⟨g, 0, none⟩ n cap xs hx holds ad m c news hl hnews (by omega) (by omega) (growslice_fits (by omega) hbytes)
    have hge := grownCap_ge w (n + m) cap e
    refine ⟨w.heap.size, _, _, hr, .inr rfl, ⟨hlen, hge, _, heap_alloc_new w.drew _, ?_, ?_⟩, ⟨rfl, rfl, rfl, by simp, fun k hk _ => by show (w.heap.push _)[k]? = _; rw [Array.getElem?_push, if_neg (by omega)]⟩⟩
    · simp only [Array.size_append, List.size_toArray, size_zeroCells, hzs, hx, hl, ← Nat.add_mul]
      congr 1
      omega
    · simp only [Array.toList_append, List.append_assoc]
      rw [← List.append_assoc, ← hlen]
      exact List.take_left

theorem wpList_append_row {ops : Array Oper} {rest : List Oper} {o : Oper} {a : Act} {w : World} {Q : Exit → Act → World → Prop} (hgd : o.guard = none) (s x : Operand) (t : TypeId)
    (ho : o.op = .call { callee := .builtin .append, args := #[s, x], argTypes := #[t, t] })
    (e : TypeId) (z : Value) (size bytes : Nat) (ht : P.underlying t = some (.slice e)) (hinfo : (P.info? e).map (fun i => (i.zero, i.size, i.bytes)) = some (some z, size, bytes)) (hzs : z.cells.size = size)
    (g n cap : Nat) (xs : List Value) (hs : a.eval s = .slice (some ⟨g, 0, none⟩) n cap) (hrow : RowIs w e size g n cap xs)
    (ad : Addr) (m c : Nat) (news : List Value) (hx : a.eval x = .slice (some ad) m c) (hl : news.length = m * size) (hnews : ∀ j u, news[j]? = some u → w.cell? (ad.add j) = some u) (h1 : ∀ u ∈ news, u.oneCell' = true)
    (h63 : n + m ≤ maxLen) (hbytes : (n + m) * bytes ≤ 140737488355328)
    (h : ∀ g' cap' w', (g' = g ∨ g' = w.heap.size) → Hid (RowIs w' e size g' (n + m) cap' (xs ++ news)) → w.grownBy w' (some g) → wpList P ops Q rest (a.put o.dst (.slice (some ⟨g', 0, none⟩) (n + m) cap')) w') : wpList P ops Q (o :: rest) a w := by
  refine wpList_plain hgd fun K hK => ?_
  obtain ⟨g', cap', w', hr, h2, h3, h4⟩ := run_append_row (P := P) w t o.type e z size bytes ht hinfo hzs g n cap xs hrow ad m c news hl hnews h1 h63 hbytes
  unfold Oper.wp execOp
  simp only [ho, resolve, invoke, builtin, Sem.run_bind, Sem.run_pure, Result.andThen_ok, List.map_toArray, List.map_cons, List.map_nil, hs, hx, hr]
  exact hK _ _ (h g' cap' w' h2 h3 h4)
end

end Go.Proofs.Ytbceafpodamnfab

/-
  My own. Stores into rows: just one block turns.
-/
namespace Go.Proofs.Ytbceafpodamnfab
open Go.RowKit

section
variable {P : Program}

/-- Of all blocks just this one has turned. -/
structure Only (g : Nat) (w w' : World) : Prop where
  other : ∀ k, k ≠ g → w'.heap[k]? = w.heap[k]?
  below : Below g w w'
  size : w'.heap.size = w.heap.size

theorem only_setRow (w : World) (g : Nat) (cs : Array Value) : Only g w (w.setRow g cs) := ⟨fun k hk => setRow_block w g k cs hk, below_setRow' w g cs, setRow_size w g cs⟩

theorem run_storeVar_one (w : World) (g off : Nat) (t ty : TypeId) (cur : Array Value) (v : Value) (hg : w.heap[g]? = some (.cells cur t (0, 0))) (hi : (P.info? ty).map (·.size) = some 1) (hv : v.cells = #[v])
    (hfit : off + 1 ≤ cur.size) (h1 : v.oneCell' = true) :
    (storeVar ty ⟨g, off, none⟩ v).run P w = .ok () (w.setRow g (splice cur.toList off [v]).toArray) := by
  have := run_storeCells_at P g off t [v] 0 cur w hg (by simpa using hfit) (fun u hu => by simp at hu; subst hu; exact h1)
  cases hq : P.info? ty with
  | none => simp [hq] at hi
  | some i =>
    have hs : i.size = 1 := by simpa [hq] using hi
    simp only [Nat.add_zero, List.append_assoc] at this
    simp [storeVar, sizeOf, typeInfo, hq, hv, hs, this, splice]

/-- One cell stored into a row. Behind it the world is a variable. -/
theorem wpList_store_one {ops : Array Oper} {rest : List Oper} {o : Oper} {a : Act} {w : World} {Q : Exit → Act → World → Prop} (hgd : o.guard = none) (ty : TypeId) (x y : Operand) (ho : o.op = .store ty x y)
    (g off : Nat) (v : Value) (hx : a.eval x = .pointer (some ⟨g, off, none⟩)) (hy : a.eval y = v) (hi : (P.info? ty).map (·.size) = some 1) (hv : v.cells = #[v]) (h1 : v.oneCell' = true)
    (t : TypeId) (cur : Array Value) (hg : w.heap[g]? = some (.cells cur t (0, 0))) (hfit : off + 1 ≤ cur.size)
    (h : ∀ w', Hid (w'.heap[g]? = some (.cells (splice cur.toList off [v]).toArray t (0, 0))) → Only g w w' → wpList P ops Q rest (a.put o.dst undef) w') : wpList P ops Q (o :: rest) a w := by
  refine wpList_plain hgd fun K hK => ?_
  unfold Oper.wp execOp
  simp only [ho, hx, hy, Instr.storeAt, Instr.sureAddr, Sem.run_bind, Sem.run_pure, Result.andThen_ok, run_storeVar_one w g off t ty cur v hg hi hv hfit h1]
  exact hK _ _ (h _ (setRow_heap w g cur _ t _ hg) (only_setRow w g _))

/-- A struct stored into a row: just its block turns. -/
theorem wpList_store_only {ops : Array Oper} {rest : List Oper} {o : Oper} {a : Act} {w : World} {Q : Exit → Act → World → Prop} (hgd : o.guard = none) (ty : TypeId) (x y : Operand) (ho : o.op = .store ty x y)
    (g off : Nat) (cells : Array Value) (hx : a.eval x = .pointer (some ⟨g, off, none⟩)) (hy : a.eval y = .agg cells) (t : TypeId) (cur : Array Value) (hg : w.heap[g]? = some (.cells cur t (0, 0)))
    (hi : (P.info? ty).map (·.size) = some cells.size) (hfit : off + cells.size ≤ cur.size) (h1 : cells.all (·.oneCell') = true)
    (h : ∀ w', Hid (w'.heap[g]? = some (.cells (splice cur.toList off cells.toList).toArray t (0, 0))) → Only g w w' → wpList P ops Q rest (a.put o.dst undef) w') : wpList P ops Q (o :: rest) a w := by
  refine wpList_plain hgd fun K hK => ?_
  unfold Oper.wp execOp
  simp only [ho, hx, hy, Instr.storeAt, Instr.sureAddr, Sem.run_bind, Sem.run_pure, Result.andThen_ok, run_storeVar_at w g off t ty cur cells hg hi hfit h1]
  exact hK _ _ (h _ (setRow_heap w g cur _ t _ hg) (only_setRow w g _))
end

end Go.Proofs.Ytbceafpodamnfab

/-
  My own. 'append([]T{}, xs...)': a copy of a slice, whatever it is.
-/
namespace Go.Proofs.Ytbceafpodamnfab
open Go.RowKit

section
variable {P : Program}

theorem below_setRow_same (w : World) (g : Nat) (cur : Array Value) (t : TypeId) (hg : w.heap[g]? = some (.cells cur t (0, 0))) : Below w.heap.size w (w.setRow g cur) :=
  ⟨rfl, rfl, rfl, by rw [setRow_size]; exact Nat.le_refl _, fun k _ => by
    by_cases h : k = g
    · subst h; rw [setRow_heap w k cur cur t _ hg, hg]
    · exact setRow_block w g k cur h⟩

theorem run_append_fresh (w : World) (t ty e : TypeId) (z : Value) (size bytes : Nat) (ht : P.underlying t = some (.slice e)) (hinfo : (P.info? e).map (fun i => (i.zero, i.size, i.bytes)) = some (some z, size, bytes)) (hzs : z.cells.size = size)
    (g : Nat) (hg : w.heap[g]? = some (.cells #[] e (0, 0)))
    (ao : Option Addr) (m c : Nat) (news : List Value) (hl : news.length = m * size) (hsrc : m ≠ 0 → ∃ ad, ao = some ad ∧ ∀ j u, news[j]? = some u → w.cell? (ad.add j) = some u) (h1 : ∀ u ∈ news, u.oneCell' = true)
    (h63 : m ≤ maxLen) (hbytes : m * bytes ≤ 140737488355328) :
    ∃ g' cap' w', (Builtin.append_ #[t, t] ty #[.slice (some ⟨g, 0, none⟩) 0 0, .slice ao m c]).run P w = .ok (.slice (some ⟨g', 0, none⟩) m cap') w' ∧ (g' = g ∨ g' = w.heap.size) ∧ RowIs w' e size g' m cap' news ∧ Below w.heap.size w w' := by
  by_cases hm : m = 0
  · subst hm
    have hn : news = [] := List.eq_nil_of_length_eq_zero (by simpa using hl)
    subst hn
    obtain ⟨i, hi, hz, hs, hb⟩ := info_parts hinfo
    subst hs hb
    cases ao with
    | none =>
      refine ⟨g, 0, w, ?_, .inl rfl, ⟨by simp, Nat.le_refl _, #[], hg, by simp, by simp⟩, Below.refl _ _⟩
      simp [Builtin.append_, run_underlying ht, sizeOf, typeInfo, hi, Builtin.lenOf, Builtin.firstCells, storeCells]
    | some ad =>
      have hr := run_append_room (P := P) w t ty e i ht hi g 0 0 #[] hg ad 0 c [] (by simp) (by simp) (by simp) (Nat.le_refl _) (by simp)
      refine ⟨g, 0, _, by simpa using hr, .inl rfl, ⟨by simp, Nat.le_refl _, #[], setRow_heap w g #[] #[] e _ hg, by simp, by simp⟩, below_setRow_same w g #[] e hg⟩
  · obtain ⟨ad, rfl, hnews⟩ := hsrc hm
    obtain ⟨i, hi, hz, hs, hb⟩ := info_parts hinfo
    subst hs hb
    have hr := run_append_grow (P := P) w t ty e i z ht hi hz ⟨g, 0, none⟩ 0 0 [] (by simp) (by simp) ad m c news hl hnews (by omega) (by unfold maxLen at h63; omega) (growslice_fits (by omega) (by simpa using hbytes))
    simp only [Nat.zero_add] at hr
    have hge := grownCap_ge w m 0 e
    refine ⟨w.heap.size, _, _, hr, .inr rfl, ⟨hl, hge, _, heap_alloc_new w.drew _, ?_, ?_⟩, ⟨rfl, rfl, rfl, by simp, fun k hk => by show (w.heap.push _)[k]? = _; rw [Array.getElem?_push, if_neg (by omega)]⟩⟩
    · simp only [Array.size_append, List.size_toArray, size_zeroCells, hzs, hl, List.length_nil, Nat.zero_add]
      rw [← Nat.add_mul]
      congr 1
      omega
    · simp only [Array.toList_append, List.nil_append]
      rw [← hl]
      exact List.take_left

theorem wpList_append_fresh {ops : Array Oper} {rest : List Oper} {o : Oper} {a : Act} {w : World} {Q : Exit → Act → World → Prop} (hgd : o.guard = none) (s x : Operand) (t : TypeId)
    (ho : o.op = .call { callee := .builtin .append, args := #[s, x], argTypes := #[t, t] })
    (e : TypeId) (z : Value) (size bytes : Nat) (ht : P.underlying t = some (.slice e)) (hinfo : (P.info? e).map (fun i => (i.zero, i.size, i.bytes)) = some (some z, size, bytes)) (hzs : z.cells.size = size)
    (g : Nat) (hs : a.eval s = .slice (some ⟨g, 0, none⟩) 0 0) (hg : w.heap[g]? = some (.cells #[] e (0, 0)))
    (ao : Option Addr) (m c : Nat) (news : List Value) (hx : a.eval x = .slice ao m c) (hl : news.length = m * size) (hsrc : m ≠ 0 → ∃ ad, ao = some ad ∧ ∀ j u, news[j]? = some u → w.cell? (ad.add j) = some u) (h1 : ∀ u ∈ news, u.oneCell' = true)
    (h63 : m ≤ maxLen) (hbytes : m * bytes ≤ 140737488355328)
    (h : ∀ g' cap' w', (g' = g ∨ g' = w.heap.size) → Hid (RowIs w' e size g' m cap' news) → Below w.heap.size w w' → wpList P ops Q rest (a.put o.dst (.slice (some ⟨g', 0, none⟩) m cap')) w') : wpList P ops Q (o :: rest) a w := by
  refine wpList_plain hgd fun K hK => ?_
  obtain ⟨g', cap', w', hr, h2, h3, h4⟩ := run_append_fresh (P := P) w t o.type e z size bytes ht hinfo hzs g hg ao m c news hl hsrc h1 h63 hbytes
  unfold Oper.wp execOp
  simp only [ho, resolve, invoke, builtin, Sem.run_bind, Sem.run_pure, Result.andThen_ok, List.map_toArray, List.map_cons, List.map_nil, hs, hx, hr]
  exact hK _ _ (h g' cap' w' h2 h3 h4)
end

end Go.Proofs.Ytbceafpodamnfab
