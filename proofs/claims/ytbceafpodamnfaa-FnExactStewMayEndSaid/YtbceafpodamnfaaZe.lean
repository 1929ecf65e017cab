/-
  My own. The program's rule of what may end.
-/
import Derived.Test.YtbceafpodamnfaaWk
import Derived.Test.YtbceafpodamnfaaLg
namespace Go.Proofs.Ytbceafpodamnfaa
open Go.RowKit Go.Sort

set_option maxHeartbeats 1000000 in
theorem allowsAll_any (c : Cp) (r : Int) (w : World) :
    Calls Try.prog 131 #[.agg #[], .agg #[.string c.service, .int .i64 c.number, .int .i64 c.version, .int .i64 c.image, .int .i64 c.state, .bool c.ending, .string c.berth], .int .i64 r] w fun e w' => e = .returned (.bool true) ∧ Below w.heap.size w w' := by
  go_enter Try.func131, Try.ntmps131
  go_wp2
  go_ret
  exact ⟨rfl, ((Below.refl _ _).alloc (Nat.le_refl _) _).alloc (by simp) _⟩

set_option maxHeartbeats 1000000 in
theorem allowsKeep_any (l : Int) (c : Cp) (r : Int) (w : World) (hr0 : 0 ≤ r) (hr1 : r ≤ 1048576) :
    Calls Try.prog 132 #[.agg #[.int .i64 l], .agg #[.string c.service, .int .i64 c.number, .int .i64 c.version, .int .i64 c.image, .int .i64 c.state, .bool c.ending, .string c.berth], .int .i64 r] w fun e w' => e = .returned (.bool (c.state != 3 || decide (l ≤ r - 1))) ∧ Below w.heap.size w w' := by
  cases hst : (c.state != 3)
  · go_enter Try.func132, Try.ntmps132
    go_wp2
    go_ret
    exact ⟨ret_bool (by simp), ((Below.refl _ _).alloc (Nat.le_refl _) _).alloc (by simp) _⟩
  · go_enter Try.func132, Try.ntmps132
    go_wp2
    go_ret
    exact ⟨rfl, ((Below.refl _ _).alloc (Nat.le_refl _) _).alloc (by simp) _⟩

set_option maxHeartbeats 1000000 in
theorem ruleOf_gone (s : Svc) (w : World) (hg : s.gone = true) :
    Calls Try.prog 51 #[.agg #[.string s.name, .int .i64 s.version, .bool s.gone, .int .i64 s.image, .int .i64 s.want, .int .i64 s.down, .int .i64 s.over, .int .i64 s.next, .int .i64 s.per, .int .i64 s.least, .int .i64 s.most, .int .i64 s.load, .int .i64 s.cool]] w fun e w' => e = .returned (.iface 124 (.agg #[])) ∧ Below w.heap.size w w' := by
  go_enter Try.func51, Try.ntmps51
  go_wp2
  go_ret
  exact ⟨rfl, below_box _ _⟩

set_option maxHeartbeats 1000000 in
theorem ruleOf_keep (s : Svc) (w : World) (hg : s.gone = false) (hw0 : 0 ≤ s.want) (hw1 : s.want ≤ 10) (hd0 : 0 ≤ s.down) (hd1 : s.down ≤ 10) :
    Calls Try.prog 51 #[.agg #[.string s.name, .int .i64 s.version, .bool s.gone, .int .i64 s.image, .int .i64 s.want, .int .i64 s.down, .int .i64 s.over, .int .i64 s.next, .int .i64 s.per, .int .i64 s.least, .int .i64 s.most, .int .i64 s.load, .int .i64 s.cool]] w fun e w' => e = .returned (.iface 126 (.agg #[.int .i64 (s.want - s.down)])) ∧ Below w.heap.size w w' := by
  go_enter Try.func51, Try.ntmps51
  go_wp2
  go_ret
  exact ⟨rfl, below_box _ _⟩

end Go.Proofs.Ytbceafpodamnfaa
