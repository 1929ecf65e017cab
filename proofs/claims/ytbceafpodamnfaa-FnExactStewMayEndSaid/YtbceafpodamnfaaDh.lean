/-
  My own. Plain data, more: what may end.
-/
import Derived.Test.YtbceafpodamnfaaZb
import Derived.Test.YtbceafpodamnfaaDi
namespace Go.Proofs.Ytbceafpodamnfaa
open Go.RowKit Go.Sort

/-- What StewMayEnd answers. -/
def mayOf (B : Bk) (sv : ByteArray) (num : Int) : Bool := validB B && (match B.cps.find? (isC sv num) with
  | none => false
  | some c => match svcOf B sv with
    | none => false
    | some s => mayL B s sv c)

theorem isC_iff {sv : ByteArray} {num : Int} {c : Cp} : isC sv num c = true ↔ c.service = sv ∧ c.number = num := by
  unfold isC
  rw [Bool.and_eq_true, beq_iff_eq (a := c.number)]
  exact and_congr_left fun _ => same_nm

end Go.Proofs.Ytbceafpodamnfaa
