/-
  My own. The program's counting.
-/
import Derived.Test.YtbceafpodamnfaaYe
namespace Go.Proofs.Ytbceafpodamnfaa
open Go.RowKit Go.Sort Go.Maps

theorem countCopies_any (B : Bk) (s : Svc) (a1 a2 a3 : Option Addr) (c1 c2 c3 : Nat) (w : World) (hl2 : B.cps.length ≤ 1048576) (HSO : Hid (RiseC B.cps)) (HK : Hid (B.cps.length ≤ c2)) (hC : SlC w a2 B.cps) (N : Cnt) (hN : Hid (N = cntTo s.image s.name B.cps B.cps.length)) :
    Calls Try.prog 26 #[.agg #[.int .i64 B.now, .slice a1 B.svcs.length c1, .slice a2 B.cps.length c2, .slice a3 B.bts.length c3], .agg #[.string s.name, .int .i64 s.version, .bool s.gone, .int .i64 s.image, .int .i64 s.want, .int .i64 s.down, .int .i64 s.over, .int .i64 s.next, .int .i64 s.per, .int .i64 s.least, .int .i64 s.most, .int .i64 s.load, .int .i64 s.cool]] w fun e w' => e = .returned (.agg #[.int .i64 N.live, .int .i64 N.ready, .int .i64 N.old, .int .i64 N.failed, .int .i64 N.ending]) ∧ Below w.heap.size w w' := by
  refine ((callsIn_wide (n := 3)).1 (countCopies_in 3 (by omega) B s a1 a2 a3 c1 c2 c3 w hl2 HSO HK hC)).mono fun e w' ⟨he, hb⟩ => ⟨?_, hb⟩
  rw [he]
  have e1 : cntF s.image (ofS s.name B.cps) = N := by
    rw [hN.out]
    unfold cntF cntTo
    rw [cntF_ofS, List.take_length]
  rw [e1]
  rfl

end Go.Proofs.Ytbceafpodamnfaa
