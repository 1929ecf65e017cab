/-
  My own: Wg, Wa2, Wh, Wi, Db, Wj, Dc, Wk.
-/
import Derived.Test.YtbceafpodamnfabGreatDoorG00
set_option linter.unusedVariables false
set_option linter.unusedSimpArgs false
namespace Go.Proofs.YtbceafpodamnfabGreatDoor
open Go.RowKit Go.Sort
set_option maxHeartbeats 1000000 in
theorem eqServiceS_same (l : List Svc) (ao ap : Option Addr) (cap cap' : Nat) (w : World) (hl : l.length ≤ 1048576) (h1 : SlS w ao l) (h2 : SlS w ap l) :
  Calls Tryz.prog 48 #[.slice ao l.length cap, .slice ap l.length cap'] w fun e w' => e = .returned (.bool true) ∧ Below w.heap.size w w' := by
 go_enter Tryz.func48, Tryz.ntmps48
 go_wp2
 go_loopw [5] (fun iv wr => ∃ (k : Nat), k ≤ l.length ∧ iv = .int .i64 k ∧ Below w.heap.size w wr) (fun i _ => l.length - (intOf i).toNat)
 case atStart => exact ⟨0, by omega, rfl, Below.refl _ _⟩
 case round =>
  obtain ⟨k, hk, rfl, hb⟩ := hrel
  by_cases hlt : k < l.length
  ·have hne : l ≠ [] := by intro h; rw [h] at hlt; simp at hlt
   obtain ⟨b, off, rfl, hbs, hat⟩ := h1 hne
   obtain ⟨b', off', rfl, hbs', hat'⟩ := h2 hne
   obtain ⟨s, hsk⟩ : ∃ s, l[k]? = some s := ⟨l[k], by simp [hlt]⟩
   obtain ⟨c0, c1, c2, c3, c4, c5, c6, c7, c8, c9, c10, c11, c12⟩ := ((hat k s hsk).below hb hbs).grown
   obtain ⟨d0, d1, d2, d3, d4, d5, d6, d7, d8, d9, d10, d11, d12⟩ := ((hat' k s hsk).below hb hbs').grown
   clear hsk hat hat' h1 h2 hne
   go_wp2
   refine wp_region_quiet_below (by kernel_rfl) (by kernel_rfl) ?_
   repeat (first | go_big_quiet_step (exact Calls.regrown_of (eqService_same s _)) | quiet_step (exact Calls.regrown_of (eqService_same s _)))
   refine wpQuiet_nil ?_
   intro w1 hw'
   obtain ⟨⟨dq, osq⟩, hw''⟩ := hw'
   have hb1 : Below wr.heap.size wr w1 := by rw [hw'']; exact below_regrown _ _ _
   clear hw'' c0 d0 c1 d1 c2 d2 c3 d3 c4 d4 c5 d5 c6 d6 c7 d7 c8 d8 c9 d9 c10 d10 c11 d11 c12 d12
   have hb2 := hb.trans (hb1.mono hb.size)
   go_wp2
   go_roundw
   case rel => exact ⟨k + 1, by omega, by go_num, hb2⟩
   case measure => simp [intOf]; omega
  ·go_wp2
   go_ret
   exact ⟨rfl, hb⟩
set_option maxHeartbeats 1000000 in
theorem eqCopyS_same (l : List Cp) (ao ap : Option Addr) (cap cap' : Nat) (w : World) (hl : l.length ≤ 1048576) (h1 : SlC w ao l) (h2 : SlC w ap l) :
  Calls Tryz.prog 49 #[.slice ao l.length cap, .slice ap l.length cap'] w fun e w' => e = .returned (.bool true) ∧ Below w.heap.size w w' := by
 go_enter Tryz.func49, Tryz.ntmps49
 go_wp2
 go_loopw [5] (fun iv wr => ∃ (k : Nat), k ≤ l.length ∧ iv = .int .i64 k ∧ Below w.heap.size w wr) (fun i _ => l.length - (intOf i).toNat)
 case atStart => exact ⟨0, by omega, rfl, Below.refl _ _⟩
 case round =>
  obtain ⟨k, hk, rfl, hb⟩ := hrel
  by_cases hlt : k < l.length
  ·have hne : l ≠ [] := by intro h; rw [h] at hlt; simp at hlt
   obtain ⟨b, off, rfl, hbs, hat⟩ := h1 hne
   obtain ⟨b', off', rfl, hbs', hat'⟩ := h2 hne
   obtain ⟨s, hsk⟩ : ∃ s, l[k]? = some s := ⟨l[k], by simp [hlt]⟩
   obtain ⟨c0, c1, c2, c3, c4, c5, c6⟩ := ((hat k s hsk).below hb hbs).grown
   obtain ⟨d0, d1, d2, d3, d4, d5, d6⟩ := ((hat' k s hsk).below hb hbs').grown
   clear hsk hat hat' h1 h2 hne
   go_wp2
   refine wp_region_quiet_below (by kernel_rfl) (by kernel_rfl) ?_
   repeat (first | go_big_quiet_step (exact Calls.regrown_of (eqCopy_same s _)) | quiet_step (exact Calls.regrown_of (eqCopy_same s _)))
   refine wpQuiet_nil ?_
   intro w1 hw'
   obtain ⟨⟨dq, osq⟩, hw''⟩ := hw'
   have hb1 : Below wr.heap.size wr w1 := by rw [hw'']; exact below_regrown _ _ _
   clear hw'' c0 d0 c1 d1 c2 d2 c3 d3 c4 d4 c5 d5 c6 d6
   have hb2 := hb.trans (hb1.mono hb.size)
   go_wp2
   go_roundw
   case rel => exact ⟨k + 1, by omega, by go_num, hb2⟩
   case measure => simp [intOf]; omega
  ·go_wp2
   go_ret
   exact ⟨rfl, hb⟩
set_option maxHeartbeats 1000000 in
theorem eqBerthS_same (l : List Bt) (ao ap : Option Addr) (cap cap' : Nat) (w : World) (hl : l.length ≤ 1048576) (h1 : SlB w ao l) (h2 : SlB w ap l) :
  Calls Tryz.prog 50 #[.slice ao l.length cap, .slice ap l.length cap'] w fun e w' => e = .returned (.bool true) ∧ Below w.heap.size w w' := by
 go_enter Tryz.func50, Tryz.ntmps50
 go_wp2
 go_loopw [5] (fun iv wr => ∃ (k : Nat), k ≤ l.length ∧ iv = .int .i64 k ∧ Below w.heap.size w wr) (fun i _ => l.length - (intOf i).toNat)
 case atStart => exact ⟨0, by omega, rfl, Below.refl _ _⟩
 case round =>
  obtain ⟨k, hk, rfl, hb⟩ := hrel
  by_cases hlt : k < l.length
  ·have hne : l ≠ [] := by intro h; rw [h] at hlt; simp at hlt
   obtain ⟨b, off, rfl, hbs, hat⟩ := h1 hne
   obtain ⟨b', off', rfl, hbs', hat'⟩ := h2 hne
   obtain ⟨s, hsk⟩ : ∃ s, l[k]? = some s := ⟨l[k], by simp [hlt]⟩
   obtain ⟨c0, c1⟩ := ((hat k s hsk).below hb hbs).grown
   obtain ⟨d0, d1⟩ := ((hat' k s hsk).below hb hbs').grown
   clear hsk hat hat' h1 h2 hne
   go_wp2
   refine wp_region_quiet_below (by kernel_rfl) (by kernel_rfl) ?_
   repeat (first | go_big_quiet_step (exact Calls.regrown_of (eqBerth_same s _)) | quiet_step (exact Calls.regrown_of (eqBerth_same s _)))
   refine wpQuiet_nil ?_
   intro w1 hw'
   obtain ⟨⟨dq, osq⟩, hw''⟩ := hw'
   have hb1 : Below wr.heap.size wr w1 := by rw [hw'']; exact below_regrown _ _ _
   clear hw'' c0 d0 c1 d1
   have hb2 := hb.trans (hb1.mono hb.size)
   go_wp2
   go_roundw
   case rel => exact ⟨k + 1, by omega, by go_num, hb2⟩
   case measure => simp [intOf]; omega
  ·go_wp2
   go_ret
   exact ⟨rfl, hb⟩
set_option maxHeartbeats 1000000 in
theorem eqBook_same (B : Bk) (a1 a2 a3 x1 x2 x3 : Option Addr) (c1 c2 c3 y1 y2 y3 : Nat) (w : World) (hS : B.small) (hB : BkAt w a1 a2 a3 B) (hX : BkAt w x1 x2 x3 B) :
  Calls Tryz.prog 13 #[.agg #[.int .i64 B.now, .slice a1 B.svcs.length c1, .slice a2 B.cps.length c2, .slice a3 B.bts.length c3], .agg #[.int .i64 B.now, .slice x1 B.svcs.length y1, .slice x2 B.cps.length y2, .slice x3 B.bts.length y3]] w fun e w' => e = .returned (.bool true) ∧ Below w.heap.size w w' := by
 go_enter Tryz.func13, Tryz.ntmps13
 go_wp2_with fail
 have hb0 : Below w.heap.size w ((w.alloc (.cells #[.int .i64 B.now, .slice a1 B.svcs.length c1, .slice a2 B.cps.length c2, .slice a3 B.bts.length c3] 36)).alloc (.cells #[.int .i64 B.now, .slice x1 B.svcs.length y1, .slice x2 B.cps.length y2, .slice x3 B.bts.length y3] 36)) := ((Below.refl _ _).alloc (Nat.le_refl _) _).alloc (by simp) _
 refine (eqServiceS_same B.svcs a1 x1 c1 y1 _ hS.1 (hB.1.below hb0) (hX.1.below hb0)).mono ?_
 rintro e w1 ⟨rfl, hb1⟩
 have hbb1 := hb0.trans (hb1.mono hb0.size)
 obtain ⟨hc1, hf1⟩ := bcell hb1
 clear hf1
 have hz1 : w.heap.size + 1 < w1.heap.size := by have := hb1.size; simp at this; omega
 have hz0 : w.heap.size < w1.heap.size := by omega
 go_wp2_with fail
 refine (eqCopyS_same B.cps a2 x2 c2 y2 _ hS.2.1 (hB.2.1.below hbb1) (hX.2.1.below hbb1)).mono ?_
 rintro e w2 ⟨rfl, hb2⟩
 have hbb2 := hbb1.trans (hb2.mono hbb1.size)
 obtain ⟨hc2, hf2⟩ := bcell hb2
 clear hf2
 go_wp2_with fail
 refine (eqBerthS_same B.bts a3 x3 c3 y3 _ hS.2.2 (hB.2.2.below hbb2) (hX.2.2.below hbb2)).mono ?_
 rintro e w3 ⟨rfl, hb3⟩
 have hbb3 := hbb2.trans (hb3.mono hbb2.size)
 go_wp2
 go_ret
 exact ⟨rfl, hbb3⟩
end Go.Proofs.YtbceafpodamnfabGreatDoor

namespace Go.Proofs.YtbceafpodamnfabGreatDoor
open Go.RowKit
set_option maxHeartbeats 400000 in
theorem within_any (n lo hi : Int) (w : World) :
  Calls Tryz.prog 154 #[.int .i64 n, .int .i64 lo, .int .i64 hi] w fun e w' => e = .returned (.bool (inB n lo hi)) ∧ w' = w := by
 go_enter Tryz.func154, Tryz.ntmps154
 go_wp2
 all_goals
  go_ret
  exact ⟨ret_bool (by rw [Bool.eq_iff_iff]; simp [inB]; try omega), rfl⟩
set_option maxHeartbeats 400000 in
theorem nameByte_any (c : Int) (w : World) :
  Calls Tryz.prog 220 #[.int .u8 c] w fun e w' => e = .returned (.bool (byteB c)) ∧ w' = w := by
 go_enter Tryz.func220, Tryz.ntmps220
 go_wp2
 all_goals
  go_ret
  exact ⟨ret_bool (by rw [Bool.eq_iff_iff]; simp [byteB]; try omega), rfl⟩
end Go.Proofs.YtbceafpodamnfabGreatDoor

namespace Go.Proofs.YtbceafpodamnfabGreatDoor
open Go.RowKit
set_option maxHeartbeats 1000000 in
theorem l1NameOk_any (s : ByteArray) (w : World) (hs : s.size ≤ maxLen) :
    Calls Tryz.prog 88 #[.string s] w fun e w' => e = .returned (.bool (nameB s)) ∧ w' = w := by
  unfold maxLen at hs
  have hsz : (s.size : Int) ≤ 9223372036854775807 := by omega
  clear hs
  by_cases hin : inB s.size 1 20 = true
  · go_enter Tryz.func88, Tryz.ntmps88
    go_wp2_with (go_at_call 86; refine (l1In_any _ _ _ _).mono ?_; rintro e w' ⟨rfl, rfl⟩)
    have HIN : Hid (inB s.size 1 20 = true) := hin
    clear hin
    go_loop [3] (fun i => ∃ k : Nat, k ≤ s.size ∧ i = .int .i64 k ∧ Hid (∀ i (h : i < s.size), i < k → byteB (s[i]'h).toNat = true)) (fun i => s.size - (intOf i).toNat)
    case atStart => exact ⟨0, by omega, rfl, fun i _ h => absurd h (by omega)⟩
    case round =>
      obtain ⟨k, hk, rfl, hall⟩ := hrel
      by_cases hlt : k < s.size
      · go_wp2
        all_goals first
          | (go_ret
             exact ⟨ret_bool (nameB_no s k hlt (by clear hall HIN; simp only [byteB]; simp at *; omega)).symm, rfl⟩)
          | (go_round
             case rel =>
               refine ⟨k + 1, by omega, by go_num, fun i h hi => ?_⟩
               rcases Nat.lt_or_ge i k with h' | h'
               · exact hall.out i h h'
               · have e : i = k := by omega
                 subst e
                 clear hall HIN
                 simp only [byteB]; simp at *; omega
             case measure => simp [intOf]; omega)
      · go_wp2
        go_ret
        exact ⟨ret_bool ((nameB_iff s).2 ⟨HIN.out, fun i h => hall.out i h (by omega)⟩).symm, rfl⟩
  · have hin' : inB s.size 1 20 = false := by simpa using hin
    clear hin
    go_enter Tryz.func88, Tryz.ntmps88
    go_wp2_with (go_at_call 86; refine (l1In_any _ _ _ _).mono ?_; rintro e w' ⟨rfl, rfl⟩)
    go_ret
    exact ⟨ret_bool (nameB_size s hin').symm, rfl⟩
set_option maxHeartbeats 1000000 in
theorem isName_any (s : ByteArray) (w : World) (hs : s.size ≤ maxLen) :
    Calls Tryz.prog 161 #[.string s] w fun e w' => e = .returned (.bool (nameB s)) ∧ w' = w := by
  unfold maxLen at hs
  have hsz : (s.size : Int) ≤ 9223372036854775807 := by omega
  clear hs
  by_cases hin : inB s.size 1 20 = true
  · go_enter Tryz.func161, Tryz.ntmps161
    go_wp2_with (go_at_call 154; refine (within_any _ _ _ _).mono ?_; rintro e w' ⟨rfl, rfl⟩)
    have HIN : Hid (inB s.size 1 20 = true) := hin
    clear hin
    go_loop [10] (fun i => ∃ k : Nat, k ≤ s.size ∧ i = .int .i64 k ∧ Hid (∀ i (h : i < s.size), i < k → byteB (s[i]'h).toNat = true)) (fun i => s.size - (intOf i).toNat)
    case atStart => exact ⟨0, by omega, rfl, fun i _ h => absurd h (by omega)⟩
    case round =>
      obtain ⟨k, hk, rfl, hall⟩ := hrel
      by_cases hlt : k < s.size
      · cases hbt : byteB (s[k]'hlt).toNat
        · go_wp2_with (go_at_call 220; refine (nameByte_any _ _).mono ?_; rintro e w' ⟨rfl, rfl⟩)
          go_ret
          exact ⟨ret_bool (nameB_no s k hlt hbt).symm, rfl⟩
        · go_wp2_with (go_at_call 220; refine (nameByte_any _ _).mono ?_; rintro e w' ⟨rfl, rfl⟩)
          go_round
          case rel =>
            refine ⟨k + 1, by omega, by go_num, fun i h hi => ?_⟩
            rcases Nat.lt_or_ge i k with h' | h'
            · exact hall.out i h h'
            · have e : i = k := by omega
              subst e
              exact hbt
          case measure => simp [intOf]; omega
      · go_wp2
        go_ret
        exact ⟨ret_bool ((nameB_iff s).2 ⟨HIN.out, fun i h => hall.out i h (by omega)⟩).symm, rfl⟩
  · have hin' : inB s.size 1 20 = false := by simpa using hin
    clear hin
    go_enter Tryz.func161, Tryz.ntmps161
    go_wp2_with (go_at_call 154; refine (within_any _ _ _ _).mono ?_; rintro e w' ⟨rfl, rfl⟩)
    go_ret
    exact ⟨ret_bool (nameB_size s hin').symm, rfl⟩
end Go.Proofs.YtbceafpodamnfabGreatDoor

namespace Go.Proofs.YtbceafpodamnfabGreatDoor
open Go.RowKit
theorem below_box0 (w : World) (o : Obj) : Below w.heap.size w (w.alloc o) := (Below.refl _ _).alloc (Nat.le_refl _) _
theorem wrap_sum {a b : Int} (ha : inB a 0 10 = true) (hb : inB b 0 10 = true) : wrap64 (a + b) = a + b := by
  simp [inB] at ha hb
  exact IntWalk.wrap64_in _ (by omega)
set_option maxHeartbeats 2000000 in
theorem l1ServiceOk_any (s : Svc) (now : Int) (w : World) (hs : s.name.size ≤ maxLen) :
    Calls Tryz.prog 87 #[.agg #[.string s.name, .int .i64 s.version, .bool s.gone, .int .i64 s.image, .int .i64 s.want, .int .i64 s.down, .int .i64 s.over, .int .i64 s.next, .int .i64 s.per, .int .i64 s.least, .int .i64 s.most, .int .i64 s.load, .int .i64 s.cool], .int .i64 now] w fun e w' => e = .returned (.bool (svcB now s)) ∧ Below w.heap.size w w' := by
  go_enter Tryz.func87, Tryz.ntmps87
  go_wp2_with (first | (go_at_call 86; refine (l1In_any _ _ _ _).mono ?_; rintro e w' ⟨rfl, rfl⟩) | (go_at_call 88; refine (l1NameOk_any _ _ hs).mono ?_; rintro e w' ⟨rfl, rfl⟩))
  all_goals
    go_ret
    refine ⟨ret_bool ?_, below_box0 _ _⟩
    first
      | (have hw := wrap_sum (a := s.down) (b := s.over) ‹_› ‹_›
         simp only [hw, beq_iff_eq, beq_eq_false_iff_ne, ne_eq] at *
         simp [svcB, perB, *]; done)
      | (simp [svcB, perB, *]; done)
end Go.Proofs.YtbceafpodamnfabGreatDoor

namespace Go.Proofs.YtbceafpodamnfabGreatDoor
open Go.RowKit
def idxOf {α : Type} (p : α → Bool) (l : List α) : Int := match l.findIdx? p with | some i => (i : Int) | none => -1
def idxS (l : List Svc) (n : ByteArray) : Int := idxOf (fun s => s.name.toList == n.toList) l
def idxB (l : List Bt) (n : ByteArray) : Int := idxOf (fun s => s.name.toList == n.toList) l
theorem idxOf_here {α : Type} {p : α → Bool} {l : List α} {k : Nat} {s : α} (hk : l[k]? = some s) (hp : p s = true) (hno : ∀ i, i < k → ∀ s, l[i]? = some s → p s = false) : idxOf p l = k := by
 obtain ⟨h1, h2⟩ := List.getElem?_eq_some_iff.1 hk
 have : l.findIdx? p = some k := by
  rw [List.findIdx?_eq_some_iff_getElem]
  refine ⟨h1, by rw [h2]; exact hp, fun j hj => ?_⟩
  rw [hno j hj _ (List.getElem?_eq_getElem (by omega))]; simp
 simp [idxOf, this]
theorem idxOf_none {α : Type} {p : α → Bool} {l : List α} (hno : ∀ (i : Nat) s, l[i]? = some s → p s = false) : idxOf p l = -1 := by
 have : l.findIdx? p = none := by
  rw [List.findIdx?_eq_none_iff]
  intro x hx
  obtain ⟨i, hi, rfl⟩ := List.mem_iff_getElem.1 hx
  exact hno i _ (List.getElem?_eq_getElem hi)
 simp [idxOf, this]
end Go.Proofs.YtbceafpodamnfabGreatDoor

namespace Go.Proofs.YtbceafpodamnfabGreatDoor
open Go.RowKit Go.Sort
set_option maxHeartbeats 1000000 in
theorem l1Service_any (B : Bk) (n : ByteArray) (a1 a2 a3 : Option Addr) (c1 c2 c3 : Nat) (w : World) (hS : B.small) (hB : SlS w a1 B.svcs) :
  Calls Tryz.prog 92 #[.agg #[.int .i64 B.now, .slice a1 B.svcs.length c1, .slice a2 B.cps.length c2, .slice a3 B.bts.length c3], .string n] w fun e w' => e = .returned (.int .i64 (idxS B.svcs n)) ∧ Below w.heap.size w w' := by
 obtain ⟨hl1, hl2, hl3⟩ := hS
 go_enter Tryz.func92, Tryz.ntmps92
 go_wp2
 go_loop [5] (fun i => ∃ k : Nat, k ≤ B.svcs.length ∧ i = .int .i64 k ∧ Hid (∀ i, i < k → ∀ s, B.svcs[i]? = some s → (s.name.toList == n.toList) = false)) (fun i => B.svcs.length - (intOf i).toNat)
 case atStart => exact ⟨0, by omega, rfl, fun i hi => absurd hi (by omega)⟩
 case round =>
  obtain ⟨k, hk, rfl, hno⟩ := hrel
  by_cases hlt : k < B.svcs.length
  ·have hne : B.svcs ≠ [] := by intro h; rw [h] at hlt; simp at hlt
   obtain ⟨b, off, rfl, hbs, hat⟩ := hB hne
   obtain ⟨s, hsk⟩ : ∃ s, B.svcs[k]? = some s := ⟨B.svcs[k], by simp [hlt]⟩
   have HSK : Hid (B.svcs[k]? = some s) := hsk
   have hc := hat k s hsk
   unfold SvcAt at hc
   have hc0 := hc.1
   clear hat hc hsk hne
   cases hq : (s.name.toList == n.toList)
   ·go_wp2
    go_round
    case rel =>
     refine ⟨k + 1, by omega, by go_num, fun i hi t ht => ?_⟩
     rcases Nat.lt_or_ge i k with h' | h'
     ·exact hno.out i h' t ht
     ·have e : i = k := by omega
      subst e
      rw [HSK.out] at ht; cases ht; exact hq
    case measure => simp [intOf]; omega
   ·go_wp2
    go_ret
    exact ⟨ret_int (idxOf_here HSK.out hq hno.out).symm, below_box _ _⟩
  ·go_wp2
   go_ret
   exact ⟨ret_int (idxOf_none fun i s hs => hno.out i (by have := (List.getElem?_eq_some_iff.1 hs).1; omega) s hs).symm, below_box _ _⟩
set_option maxHeartbeats 1000000 in
theorem l1Berth_any (B : Bk) (n : ByteArray) (a1 a2 a3 : Option Addr) (c1 c2 c3 : Nat) (w : World) (hS : B.small) (hB : SlB w a3 B.bts) :
  Calls Tryz.prog 153 #[.agg #[.int .i64 B.now, .slice a1 B.svcs.length c1, .slice a2 B.cps.length c2, .slice a3 B.bts.length c3], .string n] w fun e w' => e = .returned (.int .i64 (idxB B.bts n)) ∧ Below w.heap.size w w' := by
 obtain ⟨hl1, hl2, hl3⟩ := hS
 go_enter Tryz.func153, Tryz.ntmps153
 go_wp2
 go_loop [5] (fun i => ∃ k : Nat, k ≤ B.bts.length ∧ i = .int .i64 k ∧ Hid (∀ i, i < k → ∀ s, B.bts[i]? = some s → (s.name.toList == n.toList) = false)) (fun i => B.bts.length - (intOf i).toNat)
 case atStart => exact ⟨0, by omega, rfl, fun i hi => absurd hi (by omega)⟩
 case round =>
  obtain ⟨k, hk, rfl, hno⟩ := hrel
  by_cases hlt : k < B.bts.length
  ·have hne : B.bts ≠ [] := by intro h; rw [h] at hlt; simp at hlt
   obtain ⟨b, off, rfl, hbs, hat⟩ := hB hne
   obtain ⟨s, hsk⟩ : ∃ s, B.bts[k]? = some s := ⟨B.bts[k], by simp [hlt]⟩
   have HSK : Hid (B.bts[k]? = some s) := hsk
   have hc := hat k s hsk
   unfold BtAt at hc
   have hc0 := hc.1
   clear hat hc hsk hne
   cases hq : (s.name.toList == n.toList)
   ·go_wp2
    go_round
    case rel =>
     refine ⟨k + 1, by omega, by go_num, fun i hi t ht => ?_⟩
     rcases Nat.lt_or_ge i k with h' | h'
     ·exact hno.out i h' t ht
     ·have e : i = k := by omega
      subst e
      rw [HSK.out] at ht; cases ht; exact hq
    case measure => simp [intOf]; omega
   ·go_wp2
    go_ret
    exact ⟨ret_int (idxOf_here HSK.out hq hno.out).symm, below_box _ _⟩
  ·go_wp2
   go_ret
   exact ⟨ret_int (idxOf_none fun i s hs => hno.out i (by have := (List.getElem?_eq_some_iff.1 hs).1; omega) s hs).symm, below_box _ _⟩
end Go.Proofs.YtbceafpodamnfabGreatDoor

namespace Go.Proofs.YtbceafpodamnfabGreatDoor
open Go.RowKit
theorem idxOf_find {α : Type} {p : α → Bool} {l : List α} {s : α} (h : l.find? p = some s) : ∃ i : Nat, l[i]? = some s ∧ idxOf p l = (i : Int) := by
 rw [List.find?_eq_some_iff_getElem] at h
 obtain ⟨hp, i, hi, hs, hno⟩ := h
 refine ⟨i, by rw [List.getElem?_eq_getElem hi, hs], idxOf_here (by rw [List.getElem?_eq_getElem hi, hs]) hp fun j hj t ht => ?_⟩
 have := hno j hj
 obtain ⟨h1, h2⟩ := List.getElem?_eq_some_iff.1 ht
 rw [h2] at this
 simpa using this
theorem idxOf_find_none {α : Type} {p : α → Bool} {l : List α} (h : l.find? p = none) : idxOf p l = -1 := by
 rw [List.find?_eq_none] at h
 exact idxOf_none fun i s hs => by have := h s (List.mem_of_getElem? hs); simpa using this
theorem idxOf_ge {α : Type} (p : α → Bool) (l : List α) : decide (0 ≤ idxOf p l) = l.any p := by
 cases h : l.find? p with
 | none =>
  rw [idxOf_find_none h]
  rw [List.find?_eq_none] at h
  symm
  rw [show decide ((0 : Int) ≤ -1) = false from by decide, List.any_eq_false]
  exact h
 | some s =>
  obtain ⟨i, hi, e⟩ := idxOf_find h
  rw [e]
  have : decide (0 ≤ (i : Int)) = true := by simp
  rw [this]; symm
  rw [List.any_eq_true]
  exact ⟨s, List.mem_of_getElem? hi, List.find?_some h⟩
def svcOf (B : Bk) (n : ByteArray) : Option Svc := B.svcs.find? fun s => s.name.toList == n.toList
def cpOk (now : Int) (s : Svc) (c : Cp) : Bool := inB c.number 1 (wrap64 (s.next - 1)) && inB c.version 1 now && inB c.image 1 1000000 && inB c.state 1 4
def berthOk (bts : List Bt) (c : Cp) : Bool := if c.state = 1 then c.berth.toList.isEmpty else bts.any fun b => b.name.toList == c.berth.toList
def cpB (B : Bk) (c : Cp) : Bool := match svcOf B c.service with | none => false | some s => cpOk B.now s c && berthOk B.bts c
end Go.Proofs.YtbceafpodamnfabGreatDoor

namespace Go.Proofs.YtbceafpodamnfabGreatDoor
open Go.RowKit Go.Sort
theorem below_blk {N : Nat} {w w' : World} {k : Nat} {x : Option Obj} (hb : Below N w w') (h : w.heap[k]? = x) (hk : k < N) : w'.heap[k]? = x := (hb.block k hk).trans h
theorem gcell {w : World} {b : Nat} {cs : Array Value} {t : TypeId} {fr : Nat × Nat} (h : w.heap[b]? = some (.cells cs t fr)) (o : Nat) {v : Value} (hv : cs[o]? = some v) : ∀ p : Regrown, (grow (redrawn w p.d) p.os).cell? ⟨b, o, none⟩ = some v :=
 fun p => cell_regrown (blk_cell h o hv) p.d p.os
theorem two_new (w : World) (A B : Obj) : ((w.alloc A).alloc B).heap[w.heap.size]? = some A ∧ ((w.alloc A).alloc B).heap[w.heap.size + 1]? = some B ∧ ((w.alloc A).alloc B).heap.size = w.heap.size + 1 + 1 := by
 have e : ((w.alloc A).alloc B).heap = (w.heap.push A).push B := rfl
 rw [e]
 refine ⟨?_, ?_, by simp⟩
 ·rw [Array.getElem?_push, if_neg (by simp), Array.getElem?_push, if_pos rfl]
 ·rw [Array.getElem?_push, if_pos (by simp)]
theorem l1In_b (n lo hi : Int) (w : World) :
  Calls Tryz.prog 86 #[.int .i64 n, .int .i64 lo, .int .i64 hi] w fun e w' => e = .returned (.bool (inB n lo hi)) ∧ Below w.heap.size w w' :=
 (l1In_any n lo hi w).mono fun e w' ⟨he, hw⟩ => ⟨he, by rw [hw]; exact Below.refl _ _⟩
set_option maxHeartbeats 4000000 in
theorem l1CopyOk_any (B : Bk) (c : Cp) (a1 a2 a3 : Option Addr) (c1 c2 c3 : Nat) (w : World) (hS : B.small) (hB : BkAt w a1 a2 a3 B) :
  Calls Tryz.prog 89 #[.agg #[.int .i64 B.now, .slice a1 B.svcs.length c1, .slice a2 B.cps.length c2, .slice a3 B.bts.length c3], .agg #[.string c.service, .int .i64 c.number, .int .i64 c.version, .int .i64 c.image, .int .i64 c.state, .bool c.ending, .string c.berth]] w fun e w' => e = .returned (.bool (cpB B c)) ∧ Below w.heap.size w w' := by
 obtain ⟨t0, t1, t2⟩ := two_new w (.cells #[.int .i64 B.now, .slice a1 B.svcs.length c1, .slice a2 B.cps.length c2, .slice a3 B.bts.length c3] 36) (.cells #[.string c.service, .int .i64 c.number, .int .i64 c.version, .int .i64 c.image, .int .i64 c.state, .bool c.ending, .string c.berth] 149)
 have hb0 : Below w.heap.size w ((w.alloc (.cells #[.int .i64 B.now, .slice a1 B.svcs.length c1, .slice a2 B.cps.length c2, .slice a3 B.bts.length c3] 36)).alloc (.cells #[.string c.service, .int .i64 c.number, .int .i64 c.version, .int .i64 c.image, .int .i64 c.state, .bool c.ending, .string c.berth] 149)) := ((Below.refl _ _).alloc (Nat.le_refl _) _).alloc (by simp) _
 have T0 : Hid _ := t0
 have T1 : Hid _ := t1
 have T2 : Hid _ := t2
 clear t0 t1 t2
 cases hf : svcOf B c.service with
 | none =>
  have hcp : Hid (cpB B c = false) := by unfold Hid cpB; rw [hf]
  have hidx : idxS B.svcs c.service = -1 := idxOf_find_none hf
  clear hf
  go_enter Tryz.func89, Tryz.ntmps89
  go_wp2_with fail
  refine (l1Service_any B c.service a1 a2 a3 c1 c2 c3 _ hS (hB.1.below hb0)).mono ?_
  rintro e w1 ⟨rfl, hb1⟩
  have hbb1 := hb0.trans (hb1.mono hb0.size)
  rw [hidx]
  clear hidx
  go_wp2
  refine wp_region_quiet_below (by kernel_rfl) (by kernel_rfl) ?_
  repeat (first | go_big_quiet_step (exact Calls.regrown_of (l1In_b _ _ _ _)) | quiet_step (exact Calls.regrown_of (l1In_b _ _ _ _)))
  refine wpQuiet_nil ?_
  intro w2 hw'
  obtain ⟨⟨dq, osq⟩, hw''⟩ := hw'
  have hb2 : Below w1.heap.size w1 w2 := by rw [hw'']; exact below_regrown _ _ _
  clear hw''
  go_wp2
  go_ret
  exact ⟨ret_bool hcp.out.symm, hbb1.trans (hb2.mono hbb1.size)⟩
 | some s =>
  have hcp : Hid (cpB B c = (cpOk B.now s c && berthOk B.bts c)) := by unfold Hid cpB; rw [hf]
  obtain ⟨i, hi, hidx⟩ : ∃ i : Nat, B.svcs[i]? = some s ∧ idxS B.svcs c.service = (i : Int) := idxOf_find hf
  have hilt : i < B.svcs.length := (List.getElem?_eq_some_iff.1 hi).1
  clear hf
  have hne : B.svcs ≠ [] := by intro h; rw [h] at hilt; simp at hilt
  obtain ⟨b, off, ea1, hbs, hat⟩ := hB.1 hne
  subst ea1
  go_enter Tryz.func89, Tryz.ntmps89
  go_wp2_with fail
  refine (l1Service_any B c.service _ a2 a3 c1 c2 c3 _ hS (hB.1.below hb0)).mono ?_
  rintro e w1 ⟨rfl, hb1⟩
  have hbb1 := hb0.trans (hb1.mono hb0.size)
  rw [hidx]
  clear hidx
  rw [T2.out] at hb1
  have T0' : Hid _ := below_blk hb1 T0.out (by omega)
  have T1' : Hid _ := below_blk hb1 T1.out (by omega)
  have hz1 : w.heap.size + 1 < w1.heap.size := by have := hb1.size; rw [T2.out] at this; omega
  obtain ⟨q0, q1, q2, q3, q4, q5, q6, q7, q8, q9, q10, q11, q12⟩ := ((hat i s hi).below hbb1 hbs).grown
  clear q0 q1 q2 q3 q4 q5 q6 q8 q9 q10 q11 q12
  have g0 := gcell T0'.out 0 rfl
  have g1 := gcell T0'.out 1 rfl
  have k1 := gcell T1'.out 1 rfl
  have k2 := gcell T1'.out 2 rfl
  have k3 := gcell T1'.out 3 rfl
  have k4 := gcell T1'.out 4 rfl
  have HAT : Hid _ := hat
  have HI : Hid _ := hi
  clear hat hi hne hb1
  go_wp2
  cases h1 : inB c.number 1 (wrap64 (s.next - 1))
  ·refine wp_region_quiet_below (by kernel_rfl) (by kernel_rfl) ?_
   repeat (first | go_big_quiet_step (exact Calls.regrown_of (l1In_b _ _ _ _)) | quiet_step (exact Calls.regrown_of (l1In_b _ _ _ _)))
   refine wpQuiet_nil ?_
   intro w2 hw'
   obtain ⟨⟨dq, osq⟩, hw''⟩ := hw'
   have hb2 : Below w1.heap.size w1 w2 := by rw [hw'']; exact below_regrown _ _ _
   clear hw''
   go_wp2
   go_ret
   exact ⟨ret_bool (by rw [hcp.out]; simp [cpOk, h1]), hbb1.trans (hb2.mono hbb1.size)⟩
  cases h2 : inB c.version 1 B.now
  ·refine wp_region_quiet_below (by kernel_rfl) (by kernel_rfl) ?_
   repeat (first | go_big_quiet_step (exact Calls.regrown_of (l1In_b _ _ _ _)) | quiet_step (exact Calls.regrown_of (l1In_b _ _ _ _)))
   refine wpQuiet_nil ?_
   intro w2 hw'
   obtain ⟨⟨dq, osq⟩, hw''⟩ := hw'
   have hb2 : Below w1.heap.size w1 w2 := by rw [hw'']; exact below_regrown _ _ _
   clear hw''
   go_wp2
   go_ret
   exact ⟨ret_bool (by rw [hcp.out]; simp [cpOk, h1, h2]), hbb1.trans (hb2.mono hbb1.size)⟩
  cases h3 : inB c.image 1 1000000
  ·refine wp_region_quiet_below (by kernel_rfl) (by kernel_rfl) ?_
   repeat (first | go_big_quiet_step (exact Calls.regrown_of (l1In_b _ _ _ _)) | quiet_step (exact Calls.regrown_of (l1In_b _ _ _ _)))
   refine wpQuiet_nil ?_
   intro w2 hw'
   obtain ⟨⟨dq, osq⟩, hw''⟩ := hw'
   have hb2 : Below w1.heap.size w1 w2 := by rw [hw'']; exact below_regrown _ _ _
   clear hw''
   go_wp2
   go_ret
   exact ⟨ret_bool (by rw [hcp.out]; simp [cpOk, h1, h2, h3]), hbb1.trans (hb2.mono hbb1.size)⟩
  cases h4 : inB c.state 1 4
  ·refine wp_region_quiet_below (by kernel_rfl) (by kernel_rfl) ?_
   repeat (first | go_big_quiet_step (exact Calls.regrown_of (l1In_b _ _ _ _)) | quiet_step (exact Calls.regrown_of (l1In_b _ _ _ _)))
   refine wpQuiet_nil ?_
   intro w2 hw'
   obtain ⟨⟨dq, osq⟩, hw''⟩ := hw'
   have hb2 : Below w1.heap.size w1 w2 := by rw [hw'']; exact below_regrown _ _ _
   clear hw''
   go_wp2
   go_ret
   exact ⟨ret_bool (by rw [hcp.out]; simp [cpOk, h1, h2, h3, h4]), hbb1.trans (hb2.mono hbb1.size)⟩
  refine wp_region_quiet_below (by kernel_rfl) (by kernel_rfl) ?_
  repeat (first | go_big_quiet_step (exact Calls.regrown_of (l1In_b _ _ _ _)) | quiet_step (exact Calls.regrown_of (l1In_b _ _ _ _)))
  refine wpQuiet_nil ?_
  intro w2 hw'
  obtain ⟨⟨dq, osq⟩, hw''⟩ := hw'
  have hb2 : Below w1.heap.size w1 w2 := by rw [hw'']; exact below_regrown _ _ _
  clear hw''
  have hcp2 : Hid (cpB B c = berthOk B.bts c) := by unfold Hid; rw [hcp.out]; simp [cpOk, h1, h2, h3, h4]
  have hbb2 := hbb1.trans (hb2.mono hbb1.size)
  have T0'' : Hid _ := below_blk hb2 T0'.out (by omega)
  have T1'' : Hid _ := below_blk hb2 T1'.out (by omega)
  clear g0 g1 k1 k2 k3 k4 h1 h2 h3 h4 q7
  have m0 := blk_cell T0''.out 0 rfl
  have m1 := blk_cell T0''.out 1 rfl
  have m2 := blk_cell T0''.out 2 rfl
  have m3 := blk_cell T0''.out 3 rfl
  have n4 := blk_cell T1''.out 4 rfl
  have n6 := blk_cell T1''.out 6 rfl
  by_cases h5 : c.state = 1
  ·have H5 : Hid (c.state = 1) := h5
   have h5' : (c.state == 1) = true := by simp [h5]
   clear h5
   go_wp2
   go_ret
   exact ⟨ret_bool (by rw [hcp2.out]; simp [berthOk, H5.out]), hbb2⟩
  ·have H5 : Hid (¬ c.state = 1) := h5
   have h5' : (c.state == 1) = false := by simp [h5]
   clear h5
   go_wp2_with fail
   refine (l1Berth_any B c.berth _ a2 a3 c1 c2 c3 _ hS (hB.2.2.below hbb2)).mono ?_
   rintro e w3 ⟨rfl, hb3⟩
   have HG : Hid (decide (0 ≤ idxB B.bts c.berth) = B.bts.any fun b => b.name.toList == c.berth.toList) := idxOf_ge _ _
   generalize idxB B.bts c.berth = z at *
   go_wp2
   go_ret
   exact ⟨ret_bool (by rw [hcp2.out]; simp [berthOk, H5.out, ← HG.out]), hbb2.trans (hb3.mono hbb2.size)⟩
end Go.Proofs.YtbceafpodamnfabGreatDoor
