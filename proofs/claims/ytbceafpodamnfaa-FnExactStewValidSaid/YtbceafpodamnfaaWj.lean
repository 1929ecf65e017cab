/-
  My own. Looking for a service, a berth.
-/
import Derived.Test.YtbceafpodamnfaaWg
import Derived.Test.YtbceafpodamnfaaWi
import Derived.Test.YtbceafpodamnfaaDb
namespace Go.Proofs.Ytbceafpodamnfaa
open Go.RowKit Go.Sort

set_option maxHeartbeats 1000000 in
theorem l1Service_any (B : Bk) (n : ByteArray) (a1 a2 a3 : Option Addr) (c1 c2 c3 : Nat) (w : World) (hS : B.small) (hB : SlS w a1 B.svcs) :
    Calls Try.prog 54 #[.agg #[.int .i64 B.now, .slice a1 B.svcs.length c1, .slice a2 B.cps.length c2, .slice a3 B.bts.length c3], .string n] w fun e w' => e = .returned (.int .i64 (idxS B.svcs n)) ∧ Below w.heap.size w w' := by
  obtain ⟨hl1, hl2, hl3⟩ := hS
  go_enter Try.func54, Try.ntmps54
  go_wp2
  go_loop [5] (fun i => ∃ k : Nat, k ≤ B.svcs.length ∧ i = .int .i64 k ∧ Hid (∀ i, i < k → ∀ s, B.svcs[i]? = some s → (s.name.toList == n.toList) = false)) (fun i => B.svcs.length - (intOf i).toNat)
  case atStart => exact ⟨0, by omega, rfl, fun i hi => absurd hi (by omega)⟩
  case round =>
    obtain ⟨k, hk, rfl, hno⟩ := hrel
    by_cases hlt : k < B.svcs.length
    · have hne : B.svcs ≠ [] := by intro h; rw [h] at hlt; simp at hlt
      obtain ⟨b, off, rfl, hbs, hat⟩ := hB hne
      obtain ⟨s, hsk⟩ : ∃ s, B.svcs[k]? = some s := ⟨B.svcs[k], by simp [hlt]⟩
      have HSK : Hid (B.svcs[k]? = some s) := hsk
      have hc := hat k s hsk
      unfold SvcAt at hc
      have hc0 := hc.1
      clear hat hc hsk hne
      cases hq : (s.name.toList == n.toList)
      · go_wp2
        go_round
        case rel =>
          refine ⟨k + 1, by omega, by go_num, fun i hi t ht => ?_⟩
          rcases Nat.lt_or_ge i k with h' | h'
          · exact hno.out i h' t ht
          · have e : i = k := by omega
            subst e
            rw [HSK.out] at ht; cases ht; exact hq
        case measure => simp [intOf]; omega
      · go_wp2
        go_ret
        exact ⟨ret_int (idxOf_here HSK.out hq hno.out).symm, below_box _ _⟩
    · go_wp2
      go_ret
      exact ⟨ret_int (idxOf_none fun i s hs => hno.out i (by have := (List.getElem?_eq_some_iff.1 hs).1; omega) s hs).symm, below_box _ _⟩

set_option maxHeartbeats 1000000 in
theorem l1Berth_any (B : Bk) (n : ByteArray) (a1 a2 a3 : Option Addr) (c1 c2 c3 : Nat) (w : World) (hS : B.small) (hB : SlB w a3 B.bts) :
    Calls Try.prog 55 #[.agg #[.int .i64 B.now, .slice a1 B.svcs.length c1, .slice a2 B.cps.length c2, .slice a3 B.bts.length c3], .string n] w fun e w' => e = .returned (.int .i64 (idxB B.bts n)) ∧ Below w.heap.size w w' := by
  obtain ⟨hl1, hl2, hl3⟩ := hS
  go_enter Try.func55, Try.ntmps55
  go_wp2
  go_loop [5] (fun i => ∃ k : Nat, k ≤ B.bts.length ∧ i = .int .i64 k ∧ Hid (∀ i, i < k → ∀ s, B.bts[i]? = some s → (s.name.toList == n.toList) = false)) (fun i => B.bts.length - (intOf i).toNat)
  case atStart => exact ⟨0, by omega, rfl, fun i hi => absurd hi (by omega)⟩
  case round =>
    obtain ⟨k, hk, rfl, hno⟩ := hrel
    by_cases hlt : k < B.bts.length
    · have hne : B.bts ≠ [] := by intro h; rw [h] at hlt; simp at hlt
      obtain ⟨b, off, rfl, hbs, hat⟩ := hB hne
      obtain ⟨s, hsk⟩ : ∃ s, B.bts[k]? = some s := ⟨B.bts[k], by simp [hlt]⟩
      have HSK : Hid (B.bts[k]? = some s) := hsk
      have hc := hat k s hsk
      unfold BtAt at hc
      have hc0 := hc.1
      clear hat hc hsk hne
      cases hq : (s.name.toList == n.toList)
      · go_wp2
        go_round
        case rel =>
          refine ⟨k + 1, by omega, by go_num, fun i hi t ht => ?_⟩
          rcases Nat.lt_or_ge i k with h' | h'
          · exact hno.out i h' t ht
          · have e : i = k := by omega
            subst e
            rw [HSK.out] at ht; cases ht; exact hq
        case measure => simp [intOf]; omega
      · go_wp2
        go_ret
        exact ⟨ret_int (idxOf_here HSK.out hq hno.out).symm, below_box _ _⟩
    · go_wp2
      go_ret
      exact ⟨ret_int (idxOf_none fun i s hs => hno.out i (by have := (List.getElem?_eq_some_iff.1 hs).1; omega) s hs).symm, below_box _ _⟩

end Go.Proofs.Ytbceafpodamnfaa
