/-
  My own. spec.l2Count, whatever the service.
-/
import Derived.Test.YtbceafpodamnfaaYc
namespace Go.Proofs.Ytbceafpodamnfaa
open Go.RowKit Go.Sort

theorem l2Count_any (B : Bk) (sv : ByteArray) (a1 a2 a3 : Option Addr) (c1 c2 c3 : Nat) (w : World) (hS : B.small) (hB : BkAt w a1 a2 a3 B) (N : Cnt) (hN : Hid (N = cntB B sv)) :
    Calls Try.prog 28 #[.agg #[.int .i64 B.now, .slice a1 B.svcs.length c1, .slice a2 B.cps.length c2, .slice a3 B.bts.length c3], .string sv] w fun e w' => e = .returned (.agg #[.int .i64 N.live, .int .i64 N.ready, .int .i64 N.old, .int .i64 N.failed, .int .i64 N.ending]) ∧ Below w.heap.size w w' := by
  cases hf : svcOf B sv with
  | none =>
    have e : N = Cnt.none := by rw [hN.out]; unfold cntB; rw [hf]
    subst e
    exact l2Count_none B sv a1 a2 a3 c1 c2 c3 w hS hB hf
  | some s => exact l2Count_some B sv s a1 a2 a3 c1 c2 c3 w hS hB hf N (by unfold Hid; rw [hN.out]; unfold cntB; rw [hf])

theorem run_field_count (a b c d e : Int) (w : World) : (Instr.field 32 (.agg #[.int .i64 a, .int .i64 b, .int .i64 c, .int .i64 d, .int .i64 e]) 1).run Try.prog w = .ok (.int .i64 b) w := by
  kernel_rfl
theorem run_field_count0 (a b c d e : Int) (w : World) : (Instr.field 32 (.agg #[.int .i64 a, .int .i64 b, .int .i64 c, .int .i64 d, .int .i64 e]) 0).run Try.prog w = .ok (.int .i64 a) w := by
  kernel_rfl

end Go.Proofs.Ytbceafpodamnfaa
