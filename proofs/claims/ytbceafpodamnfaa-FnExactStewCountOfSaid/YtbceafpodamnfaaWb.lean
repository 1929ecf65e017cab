/-
  My own. Slices of structs: read.
-/
import Derived.Test.YtbceafpodamnfaaWa
namespace Go.Proofs.Ytbceafpodamnfaa
open Go.RowKit

set_option maxHeartbeats 400000 in
theorem szServiceS_any (l : List Svc) (ao : Option Addr) (cap : Nat) (left : Int) (w : World) (h0 : 0 ≤ left) (h1 : left ≤ 1048576) (hl : l.length ≤ maxLen) (hs : ∀ s ∈ l, s.name.size ≤ maxLen)
    (hc : l ≠ [] → ∃ b off, ao = some ⟨b, off, none⟩ ∧ b < w.heap.size ∧ SvcsAt w b off l) :
    Calls Try.prog 34 #[.slice ao l.length cap, .int .i64 left] w fun e w' => ∃ r, e = .returned (.int .i64 r) ∧ -1 ≤ r ∧ r ≤ left ∧ (0 ≤ r → (l.length : Int) ≤ left) ∧ Below w.heap.size w w' := by
  unfold maxLen at hl
  by_cases hneg : left - l.length < 0
  · go_enter Try.func34, Try.ntmps34
    go_wp2
    go_ret
    exact ⟨-1, rfl, by omega, by omega, by omega, Below.refl _ _⟩
  go_enter Try.func34, Try.ntmps34
  go_wp2
  go_loopw [1, 5] (fun lv iv wr => ∃ (k : Nat) (lf : Int), k ≤ l.length ∧ iv = .int .i64 k ∧ lv = .int .i64 lf ∧ 0 ≤ lf ∧ lf ≤ left ∧ Below w.heap.size w wr) (fun _ i _ => l.length - (intOf i).toNat)
  case atStart => exact ⟨0, _, by omega, rfl, rfl, by omega, by omega, Below.refl _ _⟩
  case round =>
    obtain ⟨k, lf, hk, rfl, rfl, hl0, hl1, hb⟩ := hrel
    by_cases hlt : k < l.length
    · obtain ⟨b, off, rfl, hbs, hat⟩ := hc (by intro h; rw [h] at hlt; simp at hlt)
      obtain ⟨s, hsk⟩ : ∃ s, l[k]? = some s := ⟨l[k], by simp [hlt]⟩
      have hmem := hs s (List.mem_of_getElem? hsk)
      have hcs := (hat k s hsk).below hb hbs
      unfold SvcAt at hcs
      obtain ⟨c0, c1, c2, c3, c4, c5, c6, c7, c8, c9, c10, c11, c12⟩ := hcs
      clear hsk hat hs
      go_wp2_with fail
      refine (szService_any s lf _ hl0 (by omega) hmem).mono ?_
      rintro e w1 ⟨r, rfl, hr0, hr1, hb1⟩
      have hb2 := hb.trans (hb1.mono hb.size)
      clear c0 c1 c2 c3 c4 c5 c6 c7 c8 c9 c10 c11 c12
      go_wp2
      · go_ret
        exact ⟨-1, rfl, by omega, by omega, by omega, hb2⟩
      · go_roundw
        case rel => exact ⟨k + 1, r, by omega, by go_num, rfl, by omega, by omega, hb2⟩
        case measure => simp [intOf]; omega
    · go_wp2
      go_ret
      exact ⟨lf, rfl, by omega, by omega, by omega, hb⟩

set_option maxHeartbeats 400000 in
theorem szCopyS_any (l : List Cp) (ao : Option Addr) (cap : Nat) (left : Int) (w : World) (h0 : 0 ≤ left) (h1 : left ≤ 1048576) (hl : l.length ≤ maxLen) (hs : ∀ s ∈ l, s.service.size ≤ maxLen ∧ s.berth.size ≤ maxLen)
    (hc : l ≠ [] → ∃ b off, ao = some ⟨b, off, none⟩ ∧ b < w.heap.size ∧ CpsAt w b off l) :
    Calls Try.prog 35 #[.slice ao l.length cap, .int .i64 left] w fun e w' => ∃ r, e = .returned (.int .i64 r) ∧ -1 ≤ r ∧ r ≤ left ∧ (0 ≤ r → (l.length : Int) ≤ left) ∧ Below w.heap.size w w' := by
  unfold maxLen at hl
  by_cases hneg : left - l.length < 0
  · go_enter Try.func35, Try.ntmps35
    go_wp2
    go_ret
    exact ⟨-1, rfl, by omega, by omega, by omega, Below.refl _ _⟩
  go_enter Try.func35, Try.ntmps35
  go_wp2
  go_loopw [1, 5] (fun lv iv wr => ∃ (k : Nat) (lf : Int), k ≤ l.length ∧ iv = .int .i64 k ∧ lv = .int .i64 lf ∧ 0 ≤ lf ∧ lf ≤ left ∧ Below w.heap.size w wr) (fun _ i _ => l.length - (intOf i).toNat)
  case atStart => exact ⟨0, _, by omega, rfl, rfl, by omega, by omega, Below.refl _ _⟩
  case round =>
    obtain ⟨k, lf, hk, rfl, rfl, hl0, hl1, hb⟩ := hrel
    by_cases hlt : k < l.length
    · obtain ⟨b, off, rfl, hbs, hat⟩ := hc (by intro h; rw [h] at hlt; simp at hlt)
      obtain ⟨s, hsk⟩ : ∃ s, l[k]? = some s := ⟨l[k], by simp [hlt]⟩
      have hmem := hs s (List.mem_of_getElem? hsk)
      have hcs := (hat k s hsk).below hb hbs
      unfold CpAt at hcs
      obtain ⟨c0, c1, c2, c3, c4, c5, c6⟩ := hcs
      clear hsk hat hs
      go_wp2_with fail
      refine (szCopy_any s lf _ hl0 (by omega) hmem.1 hmem.2).mono ?_
      rintro e w1 ⟨r, rfl, hr0, hr1, hb1⟩
      have hb2 := hb.trans (hb1.mono hb.size)
      clear c0 c1 c2 c3 c4 c5 c6
      go_wp2
      · go_ret
        exact ⟨-1, rfl, by omega, by omega, by omega, hb2⟩
      · go_roundw
        case rel => exact ⟨k + 1, r, by omega, by go_num, rfl, by omega, by omega, hb2⟩
        case measure => simp [intOf]; omega
    · go_wp2
      go_ret
      exact ⟨lf, rfl, by omega, by omega, by omega, hb⟩

set_option maxHeartbeats 400000 in
theorem szBerthS_any (l : List Bt) (ao : Option Addr) (cap : Nat) (left : Int) (w : World) (h0 : 0 ≤ left) (h1 : left ≤ 1048576) (hl : l.length ≤ maxLen) (hs : ∀ s ∈ l, s.name.size ≤ maxLen)
    (hc : l ≠ [] → ∃ b off, ao = some ⟨b, off, none⟩ ∧ b < w.heap.size ∧ BtsAt w b off l) :
    Calls Try.prog 36 #[.slice ao l.length cap, .int .i64 left] w fun e w' => ∃ r, e = .returned (.int .i64 r) ∧ -1 ≤ r ∧ r ≤ left ∧ (0 ≤ r → (l.length : Int) ≤ left) ∧ Below w.heap.size w w' := by
  unfold maxLen at hl
  by_cases hneg : left - l.length < 0
  · go_enter Try.func36, Try.ntmps36
    go_wp2
    go_ret
    exact ⟨-1, rfl, by omega, by omega, by omega, Below.refl _ _⟩
  go_enter Try.func36, Try.ntmps36
  go_wp2
  go_loopw [1, 5] (fun lv iv wr => ∃ (k : Nat) (lf : Int), k ≤ l.length ∧ iv = .int .i64 k ∧ lv = .int .i64 lf ∧ 0 ≤ lf ∧ lf ≤ left ∧ Below w.heap.size w wr) (fun _ i _ => l.length - (intOf i).toNat)
  case atStart => exact ⟨0, _, by omega, rfl, rfl, by omega, by omega, Below.refl _ _⟩
  case round =>
    obtain ⟨k, lf, hk, rfl, rfl, hl0, hl1, hb⟩ := hrel
    by_cases hlt : k < l.length
    · obtain ⟨b, off, rfl, hbs, hat⟩ := hc (by intro h; rw [h] at hlt; simp at hlt)
      obtain ⟨s, hsk⟩ : ∃ s, l[k]? = some s := ⟨l[k], by simp [hlt]⟩
      have hmem := hs s (List.mem_of_getElem? hsk)
      have hcs := (hat k s hsk).below hb hbs
      unfold BtAt at hcs
      obtain ⟨c0, c1⟩ := hcs
      clear hsk hat hs
      go_wp2_with fail
      refine (szBerth_any s lf _ hl0 (by omega) hmem).mono ?_
      rintro e w1 ⟨r, rfl, hr0, hr1, hb1⟩
      have hb2 := hb.trans (hb1.mono hb.size)
      clear c0 c1
      go_wp2
      · go_ret
        exact ⟨-1, rfl, by omega, by omega, by omega, hb2⟩
      · go_roundw
        case rel => exact ⟨k + 1, r, by omega, by go_num, rfl, by omega, by omega, hb2⟩
        case measure => simp [intOf]; omega
    · go_wp2
      go_ret
      exact ⟨lf, rfl, by omega, by omega, by omega, hb⟩

end Go.Proofs.Ytbceafpodamnfaa
