/-
  My own. The specification's checks of a service, of a copy.
-/
import Derived.Test.YtbceafpodamnfaaWh
namespace Go.Proofs.Ytbceafpodamnfaa
open Go.RowKit

theorem below_box0 (w : World) (o : Obj) : Below w.heap.size w (w.alloc o) := (Below.refl _ _).alloc (Nat.le_refl _) _

theorem wrap_sum {a b : Int} (ha : inB a 0 10 = true) (hb : inB b 0 10 = true) : wrap64 (a + b) = a + b := by
  simp [inB] at ha hb
  exact IntWalk.wrap64_in _ (by omega)

set_option maxHeartbeats 2000000 in
theorem l1ServiceOk_any (s : Svc) (now : Int) (w : World) (hs : s.name.size ≤ maxLen) :
    Calls Try.prog 30 #[.agg #[.string s.name, .int .i64 s.version, .bool s.gone, .int .i64 s.image, .int .i64 s.want, .int .i64 s.down, .int .i64 s.over, .int .i64 s.next, .int .i64 s.per, .int .i64 s.least, .int .i64 s.most, .int .i64 s.load, .int .i64 s.cool], .int .i64 now] w fun e w' => e = .returned (.bool (svcB now s)) ∧ Below w.heap.size w w' := by
  go_enter Try.func30, Try.ntmps30
  go_wp2_with (first | (go_at_call 29; refine (l1In_any _ _ _ _).mono ?_; rintro e w' ⟨rfl, rfl⟩) | (go_at_call 31; refine (l1NameOk_any _ _ hs).mono ?_; rintro e w' ⟨rfl, rfl⟩))
  all_goals
    go_ret
    refine ⟨ret_bool ?_, below_box0 _ _⟩
    first
      | (have hw := wrap_sum (a := s.down) (b := s.over) ‹_› ‹_›
         simp only [hw, beq_iff_eq, beq_eq_false_iff_ne, ne_eq] at *
         simp [svcB, perB, *]; done)
      | (simp [svcB, perB, *]; done)

end Go.Proofs.Ytbceafpodamnfaa
