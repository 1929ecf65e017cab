/-
  My own. Names.
-/
import Derived.Test.YtbceafpodamnfaaWa2
namespace Go.Proofs.Ytbceafpodamnfaa
open Go.RowKit

set_option maxHeartbeats 1000000 in
theorem l1NameOk_any (s : ByteArray) (w : World) (hs : s.size ≤ maxLen) :
    Calls Try.prog 31 #[.string s] w fun e w' => e = .returned (.bool (nameB s)) ∧ w' = w := by
  unfold maxLen at hs
  have hsz : (s.size : Int) ≤ 9223372036854775807 := by omega
  clear hs
  by_cases hin : inB s.size 1 20 = true
  · go_enter Try.func31, Try.ntmps31
    go_wp2_with (go_at_call 29; refine (l1In_any _ _ _ _).mono ?_; rintro e w' ⟨rfl, rfl⟩)
    have HIN : Hid (inB s.size 1 20 = true) := hin
    clear hin
    go_loop [3] (fun i => ∃ k : Nat, k ≤ s.size ∧ i = .int .i64 k ∧ Hid (∀ i (h : i < s.size), i < k → byteB (s[i]'h).toNat = true)) (fun i => s.size - (intOf i).toNat)
    case atStart => exact ⟨0, by omega, rfl, fun i _ h => absurd h (by omega)⟩
    case round =>
      obtain ⟨k, hk, rfl, hall⟩ := hrel
      by_cases hlt : k < s.size
      · go_wp2
        all_goals first
          | (go_ret
             exact ⟨ret_bool (nameB_no s k hlt (by clear hall HIN; simp only [byteB]; simp at *; omega)).symm, rfl⟩)
          | (go_round
             case rel =>
               refine ⟨k + 1, by omega, by go_num, fun i h hi => ?_⟩
               rcases Nat.lt_or_ge i k with h' | h'
               · exact hall.out i h h'
               · have e : i = k := by omega
                 subst e
                 clear hall HIN
                 simp only [byteB]; simp at *; omega
             case measure => simp [intOf]; omega)
      · go_wp2
        go_ret
        exact ⟨ret_bool ((nameB_iff s).2 ⟨HIN.out, fun i h => hall.out i h (by omega)⟩).symm, rfl⟩
  · have hin' : inB s.size 1 20 = false := by simpa using hin
    clear hin
    go_enter Try.func31, Try.ntmps31
    go_wp2_with (go_at_call 29; refine (l1In_any _ _ _ _).mono ?_; rintro e w' ⟨rfl, rfl⟩)
    go_ret
    exact ⟨ret_bool (nameB_size s hin').symm, rfl⟩

set_option maxHeartbeats 1000000 in
theorem isName_any (s : ByteArray) (w : World) (hs : s.size ≤ maxLen) :
    Calls Try.prog 69 #[.string s] w fun e w' => e = .returned (.bool (nameB s)) ∧ w' = w := by
  unfold maxLen at hs
  have hsz : (s.size : Int) ≤ 9223372036854775807 := by omega
  clear hs
  by_cases hin : inB s.size 1 20 = true
  · go_enter Try.func69, Try.ntmps69
    go_wp2_with (go_at_call 62; refine (within_any _ _ _ _).mono ?_; rintro e w' ⟨rfl, rfl⟩)
    have HIN : Hid (inB s.size 1 20 = true) := hin
    clear hin
    go_loop [10] (fun i => ∃ k : Nat, k ≤ s.size ∧ i = .int .i64 k ∧ Hid (∀ i (h : i < s.size), i < k → byteB (s[i]'h).toNat = true)) (fun i => s.size - (intOf i).toNat)
    case atStart => exact ⟨0, by omega, rfl, fun i _ h => absurd h (by omega)⟩
    case round =>
      obtain ⟨k, hk, rfl, hall⟩ := hrel
      by_cases hlt : k < s.size
      · cases hbt : byteB (s[k]'hlt).toNat
        · go_wp2_with (go_at_call 82; refine (nameByte_any _ _).mono ?_; rintro e w' ⟨rfl, rfl⟩)
          go_ret
          exact ⟨ret_bool (nameB_no s k hlt hbt).symm, rfl⟩
        · go_wp2_with (go_at_call 82; refine (nameByte_any _ _).mono ?_; rintro e w' ⟨rfl, rfl⟩)
          go_round
          case rel =>
            refine ⟨k + 1, by omega, by go_num, fun i h hi => ?_⟩
            rcases Nat.lt_or_ge i k with h' | h'
            · exact hall.out i h h'
            · have e : i = k := by omega
              subst e
              exact hbt
          case measure => simp [intOf]; omega
      · go_wp2
        go_ret
        exact ⟨ret_bool ((nameB_iff s).2 ⟨HIN.out, fun i h => hall.out i h (by omega)⟩).symm, rfl⟩
  · have hin' : inB s.size 1 20 = false := by simpa using hin
    clear hin
    go_enter Try.func69, Try.ntmps69
    go_wp2_with (go_at_call 62; refine (within_any _ _ _ _).mono ?_; rintro e w' ⟨rfl, rfl⟩)
    go_ret
    exact ⟨ret_bool (nameB_size s hin').symm, rfl⟩

end Go.Proofs.Ytbceafpodamnfaa
