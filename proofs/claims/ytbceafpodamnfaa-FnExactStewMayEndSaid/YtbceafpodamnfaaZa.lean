/-
  My own. Looking for a copy; what may end, by the specification.
-/
import Derived.Test.YtbceafpodamnfaaWk
import Derived.Test.YtbceafpodamnfaaDc
namespace Go.Proofs.Ytbceafpodamnfaa
open Go.RowKit Go.Sort

def isC (sv : ByteArray) (num : Int) (c : Cp) : Bool := c.service.toList == sv.toList && c.number == num
def idxC (l : List Cp) (sv : ByteArray) (num : Int) : Int := idxOf (isC sv num) l

set_option maxHeartbeats 2000000 in
theorem l1Copy_any (B : Bk) (sv : ByteArray) (num : Int) (a1 a2 a3 : Option Addr) (c1 c2 c3 : Nat) (w : World) (hS : B.small) (hB : SlC w a2 B.cps) :
    Calls Try.prog 53 #[.agg #[.int .i64 B.now, .slice a1 B.svcs.length c1, .slice a2 B.cps.length c2, .slice a3 B.bts.length c3], .string sv, .int .i64 num] w fun e w' => e = .returned (.int .i64 (idxC B.cps sv num)) ∧ Below w.heap.size w w' := by
  obtain ⟨hl1, hl2, hl3⟩ := hS
  go_enter Try.func53, Try.ntmps53
  go_wp2
  go_loop [7] (fun i => ∃ k : Nat, k ≤ B.cps.length ∧ i = .int .i64 k ∧ Hid (∀ i, i < k → ∀ s, B.cps[i]? = some s → isC sv num s = false)) (fun i => B.cps.length - (intOf i).toNat)
  case atStart => exact ⟨0, by omega, rfl, fun i hi => absurd hi (by omega)⟩
  case round =>
    obtain ⟨k, hk, rfl, hno⟩ := hrel
    by_cases hlt : k < B.cps.length
    · have hne : B.cps ≠ [] := by intro h; rw [h] at hlt; simp at hlt
      obtain ⟨b, off, rfl, hbs, hat⟩ := hB hne
      obtain ⟨s, hsk⟩ : ∃ s, B.cps[k]? = some s := ⟨B.cps[k], by simp [hlt]⟩
      have HSK : Hid (B.cps[k]? = some s) := hsk
      have hc := hat k s hsk
      unfold CpAt at hc
      have hc0 := hc.1
      have hc1 := hc.2.1
      clear hat hc hsk hne
      cases hq : (s.service.toList == sv.toList)
      · have HN : Hid (isC sv num s = false) := by unfold Hid isC; rw [hq]; rfl
        go_wp2
        go_round
        case rel =>
          refine ⟨k + 1, by omega, by go_num, fun i hi t ht => ?_⟩
          rcases Nat.lt_or_ge i k with h' | h'
          · exact hno.out i h' t ht
          · have e : i = k := by omega
            subst e
            rw [HSK.out] at ht; cases ht; exact HN.out
        case measure => simp [intOf]; omega
      cases hq2 : (s.number == num)
      · have HN : Hid (isC sv num s = false) := by unfold Hid isC; rw [hq, hq2]; rfl
        go_wp2
        go_round
        case rel =>
          refine ⟨k + 1, by omega, by go_num, fun i hi t ht => ?_⟩
          rcases Nat.lt_or_ge i k with h' | h'
          · exact hno.out i h' t ht
          · have e : i = k := by omega
            subst e
            rw [HSK.out] at ht; cases ht; exact HN.out
        case measure => simp [intOf]; omega
      · have HN : Hid (isC sv num s = true) := by unfold Hid isC; rw [hq, hq2]; rfl
        go_wp2
        go_ret
        exact ⟨ret_int (idxOf_here HSK.out HN.out hno.out).symm, below_box _ _⟩
    · go_wp2
      go_ret
      exact ⟨ret_int (idxOf_none fun i s hs => hno.out i (by have := (List.getElem?_eq_some_iff.1 hs).1; omega) s hs).symm, below_box _ _⟩

end Go.Proofs.Ytbceafpodamnfaa
