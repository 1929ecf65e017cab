/-
  My own. Plain data, more: a valid book.
-/
import Derived.Test.YtbceafpodamnfaaDc
namespace Go.Proofs.Ytbceafpodamnfaa
open Go.RowKit

def aheadB (a b : Cp) : Bool := Op.bytesLess a.service.toList b.service.toList || (a.service.toList == b.service.toList && decide (a.number < b.number))
def svcAtB (B : Bk) (k : Nat) : Bool := match B.svcs[k]? with
  | none => true
  | some s => svcB B.now s && (k == 0 || match B.svcs[k - 1]? with | none => true | some p => Op.bytesLess p.name.toList s.name.toList)
def btAtB (B : Bk) (k : Nat) : Bool := match B.bts[k]? with
  | none => true
  | some s => nameB s.name && (k == 0 || match B.bts[k - 1]? with | none => true | some p => Op.bytesLess p.name.toList s.name.toList)
def cpAtB (B : Bk) (k : Nat) : Bool := match B.cps[k]? with
  | none => true
  | some s => cpB B s && (k == 0 || match B.cps[k - 1]? with | none => true | some p => aheadB p s)
def allTo (f : Nat → Bool) (n : Nat) : Bool := (List.range n).all f
def validB (B : Bk) : Bool := inB B.now 0 1000000 && decide (B.svcs.length ≤ 8) && decide (B.cps.length ≤ 200) && decide (B.bts.length ≤ 6) && allTo (svcAtB B) B.svcs.length && allTo (btAtB B) B.bts.length && allTo (cpAtB B) B.cps.length

theorem allTo_yes {f : Nat → Bool} {n : Nat} (h : ∀ i, i < n → f i = true) : allTo f n = true := by
  unfold allTo; rw [List.all_eq_true]; intro i hi; exact h i (List.mem_range.1 hi)
theorem allTo_no {f : Nat → Bool} {n k : Nat} (hk : k < n) (h : f k = false) : allTo f n = false := by
  unfold allTo; rw [List.all_eq_false]; exact ⟨k, List.mem_range.2 hk, by rw [h]; simp⟩
theorem upTo_step {f : Nat → Bool} {k : Nat} (h : ∀ i, i < k → f i = true) (hk : f k = true) : ∀ i, i < k + 1 → f i = true := fun i hi => by
  rcases Nat.lt_or_ge i k with h' | h'
  · exact h i h'
  · rw [show i = k by omega]; exact hk

end Go.Proofs.Ytbceafpodamnfaa
