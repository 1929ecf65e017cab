/-
  My own. What may end: the two ways to say it; copies of a valid book.
-/
import Derived.Test.YtbceafpodamnfaaDh
import Derived.Test.YtbceafpodamnfaaZu
import Derived.Test.YtbceafpodamnfaaZf
import Derived.Test.YtbceafpodamnfaaWs
namespace Go.Proofs.Ytbceafpodamnfaa
open Go.RowKit Go.Sort

theorem mayL_R (B : Bk) (s : Svc) (sv : ByteArray) (c : Cp) : mayL B s sv c = mayR s c (cntTo s.image sv B.cps B.cps.length).ready := by
  unfold mayL mayR
  cases c.ending <;> cases (c.state != 3) <;> cases s.gone <;> rfl

theorem Valid.wfC {B : Bk} (h : Valid B) : wfC B := fun c hc => by
  obtain ⟨s, hs, hok⟩ := h.svc hc
  have hi := h.svcIn (svcOf_mem hs)
  have h0 := hi.next0
  have h1 := hi.next1
  unfold cpOk at hok
  simp only [Bool.and_eq_true, inB_iff] at hok
  have e : wrap64 (s.next - 1) = s.next - 1 := by unfold wrap64; omega
  rw [e] at hok
  exact WalkArith.wf_i64 (by omega)

end Go.Proofs.Ytbceafpodamnfaa
