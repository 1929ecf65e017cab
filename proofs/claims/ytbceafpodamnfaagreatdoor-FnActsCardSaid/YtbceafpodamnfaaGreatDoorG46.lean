import Derived.Test.YtbceafpodamnfaaGreatDoorG00
import Derived.Test.YtbceafpodamnfaaGreatDoorRows
import Derived.JoinedOf
set_option linter.all false
set_option maxHeartbeats 8000000
set_option maxRecDepth 100000
namespace Go.Proofs.YtbceafpodamnfaaGreatDoor
open Go
theorem factsActs:joinedFacts Tryz.pinned.checked.prog 5 Tryz.f5 Rows.fnActsSpec Rows.fnActsRow=true:=by
 unfold joinedFacts;simp only[cY]
 repeat' apply cW
 all_goals (as_aux_lemma=>kernel_rfl)
end Go.Proofs.YtbceafpodamnfaaGreatDoor
