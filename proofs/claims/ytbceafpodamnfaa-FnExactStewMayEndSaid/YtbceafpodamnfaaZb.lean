/-
  My own. What may end, by the specification.
-/
import Derived.Test.YtbceafpodamnfaaZa
import Derived.Test.YtbceafpodamnfaaDf
namespace Go.Proofs.Ytbceafpodamnfaa
open Go.RowKit Go.Sort

def mayL (B : Bk) (s : Svc) (sv : ByteArray) (c : Cp) : Bool := !c.ending && (c.state != 3 || (s.gone || decide (s.want - s.down ≤ (cntTo s.image sv B.cps B.cps.length).ready - 1)))

set_option maxHeartbeats 2000000 in
theorem l3MayEnd_none (B : Bk) (sv : ByteArray) (num : Int) (a1 a2 a3 : Option Addr) (c1 c2 c3 : Nat) (w : World) (hS : B.small) (hB : BkAt w a1 a2 a3 B) (hf : B.cps.find? (isC sv num) = none) :
    Calls Try.prog 27 #[.agg #[.int .i64 B.now, .slice a1 B.svcs.length c1, .slice a2 B.cps.length c2, .slice a3 B.bts.length c3], .string sv, .int .i64 num] w fun e w' => e = .returned (.bool false) ∧ Below w.heap.size w w' := by
  have HIDX : Hid (idxC B.cps sv num = -1) := idxOf_find_none hf
  clear hf
  have hb0 := below_box w (.cells #[.int .i64 B.now, .slice a1 B.svcs.length c1, .slice a2 B.cps.length c2, .slice a3 B.bts.length c3] 27)
  go_enter Try.func27, Try.ntmps27
  go_wp2_with fail
  refine (l1Copy_any B sv num a1 a2 a3 c1 c2 c3 _ hS (hB.2.1.below hb0)).mono ?_
  rintro e w1 ⟨rfl, hb1⟩
  rw [HIDX.out]
  go_wp2
  go_ret
  exact ⟨rfl, hb0.trans (hb1.mono hb0.size)⟩

end Go.Proofs.Ytbceafpodamnfaa
