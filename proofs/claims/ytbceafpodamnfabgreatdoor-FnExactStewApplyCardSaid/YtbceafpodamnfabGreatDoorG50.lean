/-
  My own: Up.
-/
import Derived.Test.YtbceafpodamnfabGreatDoorRows
import Derived.Test.YtbceafpodamnfabGreatDoorChecked
import Derived.JoinedOf
import Derived.KernelRfl
set_option linter.unusedVariables false
set_option linter.unusedSimpArgs false
namespace Go.Proofs.YtbceafpodamnfabGreatDoor
open Go
set_option maxRecDepth 100000 in
set_option maxHeartbeats 8000000 in
theorem factsApply : joinedFacts Tryz.pinned.checked.prog 3 Tryz.f3 Rows.fnExactStewApplySpec Rows.fnExactStewApplyRow = true := by
 unfold joinedFacts
 simp only [Bool.and_eq_true]
 repeat' apply And.intro
 all_goals (as_aux_lemma => kernel_rfl)
end Go.Proofs.YtbceafpodamnfabGreatDoor
