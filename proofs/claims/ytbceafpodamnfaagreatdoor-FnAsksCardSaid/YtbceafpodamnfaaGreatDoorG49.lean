import Derived.Test.YtbceafpodamnfaaGreatDoorG00
import Derived.Test.YtbceafpodamnfaaGreatDoorRows
import Derived.JoinedOf
set_option linter.all false
set_option maxHeartbeats 8000000
set_option maxRecDepth 100000
namespace Go.Proofs.YtbceafpodamnfaaGreatDoor
open Go
theorem factsAsks:joinedFacts Tryz.pinned.checked.prog 6 Tryz.f6 Rows.fnAsksSpec Rows.fnAsksRow=true:=by
 unfold joinedFacts;simp only[di]
 repeat' apply dg
 all_goals (as_aux_lemma=>kernel_rfl)
end Go.Proofs.YtbceafpodamnfaaGreatDoor
