/-
  My own. The program's checks of a service.
-/
import Derived.Test.YtbceafpodamnfaaWg
import Derived.Test.YtbceafpodamnfaaWi
import Derived.Test.YtbceafpodamnfaaDe
namespace Go.Proofs.Ytbceafpodamnfaa
open Go.RowKit Go.Sort

set_option maxHeartbeats 1000000 in
theorem serviceNamed_any (s : Svc) (w : World) (hs : s.name.size ≤ maxLen) :
    Calls Try.prog 63 #[.agg #[.string s.name, .int .i64 s.version, .bool s.gone, .int .i64 s.image, .int .i64 s.want, .int .i64 s.down, .int .i64 s.over, .int .i64 s.next, .int .i64 s.per, .int .i64 s.least, .int .i64 s.most, .int .i64 s.load, .int .i64 s.cool]] w fun e w' => e = .returned (.bool (nameB s.name)) ∧ Below w.heap.size w w' := by
  go_enter Try.func63, Try.ntmps63
  go_wp2_with (first | (go_at_call 69; refine (isName_any _ _ hs).mono ?_; rintro e w' ⟨rfl, rfl⟩))
  all_goals
    go_ret
    exact ⟨ret_bool rfl, below_box _ _⟩

set_option maxHeartbeats 1000000 in
theorem numbersHold_any (s : Svc) (w : World) :
    Calls Try.prog 64 #[.agg #[.string s.name, .int .i64 s.version, .bool s.gone, .int .i64 s.image, .int .i64 s.want, .int .i64 s.down, .int .i64 s.over, .int .i64 s.next, .int .i64 s.per, .int .i64 s.least, .int .i64 s.most, .int .i64 s.load, .int .i64 s.cool]] w fun e w' => e = .returned (.bool (numB s)) ∧ Below w.heap.size w w' := by
  go_enter Try.func64, Try.ntmps64
  go_wp2_with (first | (go_at_call 62; refine (within_any _ _ _ _).mono ?_; rintro e w' ⟨rfl, rfl⟩))
  all_goals
    go_ret
    exact ⟨ret_bool (by simp [numB, *]), below_box _ _⟩

set_option maxHeartbeats 1000000 in
theorem spareHolds_any (s : Svc) (w : World) :
    Calls Try.prog 65 #[.agg #[.string s.name, .int .i64 s.version, .bool s.gone, .int .i64 s.image, .int .i64 s.want, .int .i64 s.down, .int .i64 s.over, .int .i64 s.next, .int .i64 s.per, .int .i64 s.least, .int .i64 s.most, .int .i64 s.load, .int .i64 s.cool]] w fun e w' => e = .returned (.bool (spareB s)) ∧ Below w.heap.size w w' := by
  go_enter Try.func65, Try.ntmps65
  go_wp2_with (first | (go_at_call 62; refine (within_any _ _ _ _).mono ?_; rintro e w' ⟨rfl, rfl⟩))
  all_goals
    go_ret
    exact ⟨ret_bool (by simp [spareB, *] <;> (intro _; rfl)), below_box _ _⟩

set_option maxHeartbeats 1000000 in
theorem followHolds_any (s : Svc) (w : World) :
    Calls Try.prog 66 #[.agg #[.string s.name, .int .i64 s.version, .bool s.gone, .int .i64 s.image, .int .i64 s.want, .int .i64 s.down, .int .i64 s.over, .int .i64 s.next, .int .i64 s.per, .int .i64 s.least, .int .i64 s.most, .int .i64 s.load, .int .i64 s.cool]] w fun e w' => e = .returned (.bool (followB s)) ∧ Below w.heap.size w w' := by
  go_enter Try.func66, Try.ntmps66
  go_wp2_with (first | (go_at_call 62; refine (within_any _ _ _ _).mono ?_; rintro e w' ⟨rfl, rfl⟩))
  all_goals
    go_ret
    exact ⟨ret_bool (by simp [followB, *] <;> (intro h; exfalso; omega)), below_box _ _⟩

set_option maxHeartbeats 1000000 in
theorem stillWithoutPer_any (s : Svc) (w : World) :
    Calls Try.prog 67 #[.agg #[.string s.name, .int .i64 s.version, .bool s.gone, .int .i64 s.image, .int .i64 s.want, .int .i64 s.down, .int .i64 s.over, .int .i64 s.next, .int .i64 s.per, .int .i64 s.least, .int .i64 s.most, .int .i64 s.load, .int .i64 s.cool]] w fun e w' => e = .returned (.bool (stillB s)) ∧ Below w.heap.size w w' := by
  go_enter Try.func67, Try.ntmps67
  go_wp2
  all_goals
    go_ret
    exact ⟨ret_bool (by simp [stillB, *]), below_box _ _⟩

set_option maxHeartbeats 1000000 in
theorem nowHolds_any (B : Bk) (a1 a2 a3 : Option Addr) (c1 c2 c3 : Nat) (w : World) :
    Calls Try.prog 41 #[.agg #[.int .i64 B.now, .slice a1 B.svcs.length c1, .slice a2 B.cps.length c2, .slice a3 B.bts.length c3]] w fun e w' => e = .returned (.bool (inB B.now 0 1000000)) ∧ Below w.heap.size w w' := by
  go_enter Try.func41, Try.ntmps41
  go_wp2_with (go_at_call 62; refine (within_any _ _ _ _).mono ?_; rintro e w' ⟨rfl, rfl⟩)
  go_ret
  exact ⟨rfl, below_box _ _⟩

set_option maxHeartbeats 1000000 in
theorem sizesHold_any (B : Bk) (a1 a2 a3 : Option Addr) (c1 c2 c3 : Nat) (w : World) (hS : B.small) :
    Calls Try.prog 42 #[.agg #[.int .i64 B.now, .slice a1 B.svcs.length c1, .slice a2 B.cps.length c2, .slice a3 B.bts.length c3]] w fun e w' => e = .returned (.bool (decide (B.svcs.length ≤ 8) && decide (B.cps.length ≤ 200) && decide (B.bts.length ≤ 6))) ∧ Below w.heap.size w w' := by
  obtain ⟨hl1, hl2, hl3⟩ := hS
  go_enter Try.func42, Try.ntmps42
  go_wp2
  all_goals
    go_ret
    exact ⟨ret_bool (by rw [Bool.eq_iff_iff]; simp; try omega), below_box _ _⟩

set_option maxHeartbeats 1000000 in
theorem copyAhead_any (a b : Cp) (w : World) :
    Calls Try.prog 70 #[.agg #[.string a.service, .int .i64 a.number, .int .i64 a.version, .int .i64 a.image, .int .i64 a.state, .bool a.ending, .string a.berth], .agg #[.string b.service, .int .i64 b.number, .int .i64 b.version, .int .i64 b.image, .int .i64 b.state, .bool b.ending, .string b.berth]] w fun e w' => e = .returned (.bool (aheadB a b)) ∧ Below w.heap.size w w' := by
  have hfin : Below w.heap.size w ((w.alloc (.cells #[.string a.service, .int .i64 a.number, .int .i64 a.version, .int .i64 a.image, .int .i64 a.state, .bool a.ending, .string a.berth] 35)).alloc (.cells #[.string b.service, .int .i64 b.number, .int .i64 b.version, .int .i64 b.image, .int .i64 b.state, .bool b.ending, .string b.berth] 35)) := ((Below.refl _ _).alloc (Nat.le_refl _) _).alloc (by simp) _
  cases h2 : (a.service.toList == b.service.toList)
  · go_enter Try.func70, Try.ntmps70
    go_wp2
    go_ret
    exact ⟨ret_bool (by simp [aheadB, h2]), hfin⟩
  · have hirr : Hid (Op.bytesLess a.service.toList b.service.toList = false) := by
      unfold Hid
      rw [eq_of_beq h2]
      exact bytesLess_irrefl _
    go_enter Try.func70, Try.ntmps70
    go_wp2
    go_ret
    exact ⟨ret_bool (by simp [aheadB, h2, hirr.out]), hfin⟩

set_option maxHeartbeats 1000000 in
theorem copyHolds_any (c : Cp) (s : Svc) (now : Int) (w : World) :
    Calls Try.prog 71 #[.agg #[.string c.service, .int .i64 c.number, .int .i64 c.version, .int .i64 c.image, .int .i64 c.state, .bool c.ending, .string c.berth], .agg #[.string s.name, .int .i64 s.version, .bool s.gone, .int .i64 s.image, .int .i64 s.want, .int .i64 s.down, .int .i64 s.over, .int .i64 s.next, .int .i64 s.per, .int .i64 s.least, .int .i64 s.most, .int .i64 s.load, .int .i64 s.cool], .int .i64 now] w fun e w' => e = .returned (.bool (cpOk now s c)) ∧ Below w.heap.size w w' := by
  have hfin : Below w.heap.size w ((w.alloc (.cells #[.string c.service, .int .i64 c.number, .int .i64 c.version, .int .i64 c.image, .int .i64 c.state, .bool c.ending, .string c.berth] 35)).alloc (.cells #[.string s.name, .int .i64 s.version, .bool s.gone, .int .i64 s.image, .int .i64 s.want, .int .i64 s.down, .int .i64 s.over, .int .i64 s.next, .int .i64 s.per, .int .i64 s.least, .int .i64 s.most, .int .i64 s.load, .int .i64 s.cool] 63)) := ((Below.refl _ _).alloc (Nat.le_refl _) _).alloc (by simp) _
  go_enter Try.func71, Try.ntmps71
  go_wp2_with (go_at_call 62; refine (within_any _ _ _ _).mono ?_; rintro e w' ⟨rfl, rfl⟩)
  all_goals
    go_ret
    exact ⟨ret_bool (by simp [cpOk, *]), hfin⟩

end Go.Proofs.Ytbceafpodamnfaa
