/-
  My own. Counts: equal to themselves.
-/
import Derived.Test.YtbceafpodamnfaaWe
import Derived.Test.YtbceafpodamnfaaDf
namespace Go.Proofs.Ytbceafpodamnfaa
open Go.RowKit

set_option maxHeartbeats 1000000 in
theorem eqCount_same (n : Cnt) (w : World) :
    Calls Try.prog 18 #[.agg #[.int .i64 n.live, .int .i64 n.ready, .int .i64 n.old, .int .i64 n.failed, .int .i64 n.ending], .agg #[.int .i64 n.live, .int .i64 n.ready, .int .i64 n.old, .int .i64 n.failed, .int .i64 n.ending]] w fun e w' => e = .returned (.bool true) ∧ Below w.heap.size w w' := by
  go_enter Try.func18, Try.ntmps18
  go_wp2
  go_ret
  exact ⟨rfl, ((Below.refl _ _).alloc (Nat.le_refl _) _).alloc (by simp) _⟩

end Go.Proofs.Ytbceafpodamnfaa
