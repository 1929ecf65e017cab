/-
  My own. The specification's check of a copy.
-/
import Derived.Test.YtbceafpodamnfaaWj
import Derived.Test.YtbceafpodamnfaaDc
namespace Go.Proofs.Ytbceafpodamnfaa
open Go.RowKit Go.Sort

theorem below_blk {N : Nat} {w w' : World} {k : Nat} {x : Option Obj} (hb : Below N w w') (h : w.heap[k]? = x) (hk : k < N) : w'.heap[k]? = x := (hb.block k hk).trans h
theorem gcell {w : World} {b : Nat} {cs : Array Value} {t : TypeId} {fr : Nat × Nat} (h : w.heap[b]? = some (.cells cs t fr)) (o : Nat) {v : Value} (hv : cs[o]? = some v) : ∀ p : Regrown, (grow (redrawn w p.d) p.os).cell? ⟨b, o, none⟩ = some v :=
  fun p => cell_regrown (blk_cell h o hv) p.d p.os
theorem two_new (w : World) (A B : Obj) : ((w.alloc A).alloc B).heap[w.heap.size]? = some A ∧ ((w.alloc A).alloc B).heap[w.heap.size + 1]? = some B ∧ ((w.alloc A).alloc B).heap.size = w.heap.size + 1 + 1 := by
  have e : ((w.alloc A).alloc B).heap = (w.heap.push A).push B := rfl
  rw [e]
  refine ⟨?_, ?_, by simp⟩
  · rw [Array.getElem?_push, if_neg (by simp), Array.getElem?_push, if_pos rfl]
  · rw [Array.getElem?_push, if_pos (by simp)]
theorem l1In_b (n lo hi : Int) (w : World) :
    Calls Try.prog 29 #[.int .i64 n, .int .i64 lo, .int .i64 hi] w fun e w' => e = .returned (.bool (inB n lo hi)) ∧ Below w.heap.size w w' :=
  (l1In_any n lo hi w).mono fun e w' ⟨he, hw⟩ => ⟨he, by rw [hw]; exact Below.refl _ _⟩

set_option maxHeartbeats 4000000 in
theorem l1CopyOk_any (B : Bk) (c : Cp) (a1 a2 a3 : Option Addr) (c1 c2 c3 : Nat) (w : World) (hS : B.small) (hB : BkAt w a1 a2 a3 B) :
    Calls Try.prog 32 #[.agg #[.int .i64 B.now, .slice a1 B.svcs.length c1, .slice a2 B.cps.length c2, .slice a3 B.bts.length c3], .agg #[.string c.service, .int .i64 c.number, .int .i64 c.version, .int .i64 c.image, .int .i64 c.state, .bool c.ending, .string c.berth]] w fun e w' => e = .returned (.bool (cpB B c)) ∧ Below w.heap.size w w' := by
  obtain ⟨t0, t1, t2⟩ := two_new w (.cells #[.int .i64 B.now, .slice a1 B.svcs.length c1, .slice a2 B.cps.length c2, .slice a3 B.bts.length c3] 27) (.cells #[.string c.service, .int .i64 c.number, .int .i64 c.version, .int .i64 c.image, .int .i64 c.state, .bool c.ending, .string c.berth] 35)
  have hb0 : Below w.heap.size w ((w.alloc (.cells #[.int .i64 B.now, .slice a1 B.svcs.length c1, .slice a2 B.cps.length c2, .slice a3 B.bts.length c3] 27)).alloc (.cells #[.string c.service, .int .i64 c.number, .int .i64 c.version, .int .i64 c.image, .int .i64 c.state, .bool c.ending, .string c.berth] 35)) := ((Below.refl _ _).alloc (Nat.le_refl _) _).alloc (by simp) _
  have T0 : Hid _ := t0
  have T1 : Hid _ := t1
  have T2 : Hid _ := t2
  clear t0 t1 t2
  cases hf : svcOf B c.service with
  | none =>
    have hcp : Hid (cpB B c = false) := by unfold Hid cpB; rw [hf]
    have hidx : idxS B.svcs c.service = -1 := idxOf_find_none hf
    clear hf
    go_enter Try.func32, Try.ntmps32
    go_wp2_with fail
    refine (l1Service_any B c.service a1 a2 a3 c1 c2 c3 _ hS (hB.1.below hb0)).mono ?_
    rintro e w1 ⟨rfl, hb1⟩
    have hbb1 := hb0.trans (hb1.mono hb0.size)
    rw [hidx]
    clear hidx
    go_wp2
    refine wp_region_quiet_below (by kernel_rfl) (by kernel_rfl) ?_
    repeat (first | go_big_quiet_step (exact Calls.regrown_of (l1In_b _ _ _ _)) | quiet_step (exact Calls.regrown_of (l1In_b _ _ _ _)))
    refine wpQuiet_nil ?_
    intro w2 hw'
    obtain ⟨⟨dq, osq⟩, hw''⟩ := hw'
    have hb2 : Below w1.heap.size w1 w2 := by rw [hw'']; exact below_regrown _ _ _
    clear hw''
    go_wp2
    go_ret
    exact ⟨ret_bool hcp.out.symm, hbb1.trans (hb2.mono hbb1.size)⟩
  | some s =>
    have hcp : Hid (cpB B c = (cpOk B.now s c && berthOk B.bts c)) := by unfold Hid cpB; rw [hf]
    obtain ⟨i, hi, hidx⟩ : ∃ i : Nat, B.svcs[i]? = some s ∧ idxS B.svcs c.service = (i : Int) := idxOf_find hf
    have hilt : i < B.svcs.length := (List.getElem?_eq_some_iff.1 hi).1
    clear hf
    have hne : B.svcs ≠ [] := by intro h; rw [h] at hilt; simp at hilt
    obtain ⟨b, off, ea1, hbs, hat⟩ := hB.1 hne
    subst ea1
    go_enter Try.func32, Try.ntmps32
    go_wp2_with fail
    refine (l1Service_any B c.service _ a2 a3 c1 c2 c3 _ hS (hB.1.below hb0)).mono ?_
    rintro e w1 ⟨rfl, hb1⟩
    have hbb1 := hb0.trans (hb1.mono hb0.size)
    rw [hidx]
    clear hidx
    rw [T2.out] at hb1
    have T0' : Hid _ := below_blk hb1 T0.out (by omega)
    have T1' : Hid _ := below_blk hb1 T1.out (by omega)
    have hz1 : w.heap.size + 1 < w1.heap.size := by have := hb1.size; rw [T2.out] at this; omega
    obtain ⟨q0, q1, q2, q3, q4, q5, q6, q7, q8, q9, q10, q11, q12⟩ := ((hat i s hi).below hbb1 hbs).grown
    clear q0 q1 q2 q3 q4 q5 q6 q8 q9 q10 q11 q12
    have g0 := gcell T0'.out 0 rfl
    have g1 := gcell T0'.out 1 rfl
    have k1 := gcell T1'.out 1 rfl
    have k2 := gcell T1'.out 2 rfl
    have k3 := gcell T1'.out 3 rfl
    have k4 := gcell T1'.out 4 rfl
    have HAT : Hid _ := hat
    have HI : Hid _ := hi
    clear hat hi hne hb1
    go_wp2
    cases h1 : inB c.number 1 (wrap64 (s.next - 1))
    · refine wp_region_quiet_below (by kernel_rfl) (by kernel_rfl) ?_
      repeat (first | go_big_quiet_step (exact Calls.regrown_of (l1In_b _ _ _ _)) | quiet_step (exact Calls.regrown_of (l1In_b _ _ _ _)))
      refine wpQuiet_nil ?_
      intro w2 hw'
      obtain ⟨⟨dq, osq⟩, hw''⟩ := hw'
      have hb2 : Below w1.heap.size w1 w2 := by rw [hw'']; exact below_regrown _ _ _
      clear hw''
      go_wp2
      go_ret
      exact ⟨ret_bool (by rw [hcp.out]; simp [cpOk, h1]), hbb1.trans (hb2.mono hbb1.size)⟩
    cases h2 : inB c.version 1 B.now
    · refine wp_region_quiet_below (by kernel_rfl) (by kernel_rfl) ?_
      repeat (first | go_big_quiet_step (exact Calls.regrown_of (l1In_b _ _ _ _)) | quiet_step (exact Calls.regrown_of (l1In_b _ _ _ _)))
      refine wpQuiet_nil ?_
      intro w2 hw'
      obtain ⟨⟨dq, osq⟩, hw''⟩ := hw'
      have hb2 : Below w1.heap.size w1 w2 := by rw [hw'']; exact below_regrown _ _ _
      clear hw''
      go_wp2
      go_ret
      exact ⟨ret_bool (by rw [hcp.out]; simp [cpOk, h1, h2]), hbb1.trans (hb2.mono hbb1.size)⟩
    cases h3 : inB c.image 1 1000000
    · refine wp_region_quiet_below (by kernel_rfl) (by kernel_rfl) ?_
      repeat (first | go_big_quiet_step (exact Calls.regrown_of (l1In_b _ _ _ _)) | quiet_step (exact Calls.regrown_of (l1In_b _ _ _ _)))
      refine wpQuiet_nil ?_
      intro w2 hw'
      obtain ⟨⟨dq, osq⟩, hw''⟩ := hw'
      have hb2 : Below w1.heap.size w1 w2 := by rw [hw'']; exact below_regrown _ _ _
      clear hw''
      go_wp2
      go_ret
      exact ⟨ret_bool (by rw [hcp.out]; simp [cpOk, h1, h2, h3]), hbb1.trans (hb2.mono hbb1.size)⟩
    cases h4 : inB c.state 1 4
    · refine wp_region_quiet_below (by kernel_rfl) (by kernel_rfl) ?_
      repeat (first | go_big_quiet_step (exact Calls.regrown_of (l1In_b _ _ _ _)) | quiet_step (exact Calls.regrown_of (l1In_b _ _ _ _)))
      refine wpQuiet_nil ?_
      intro w2 hw'
      obtain ⟨⟨dq, osq⟩, hw''⟩ := hw'
      have hb2 : Below w1.heap.size w1 w2 := by rw [hw'']; exact below_regrown _ _ _
      clear hw''
      go_wp2
      go_ret
      exact ⟨ret_bool (by rw [hcp.out]; simp [cpOk, h1, h2, h3, h4]), hbb1.trans (hb2.mono hbb1.size)⟩
    refine wp_region_quiet_below (by kernel_rfl) (by kernel_rfl) ?_
    repeat (first | go_big_quiet_step (exact Calls.regrown_of (l1In_b _ _ _ _)) | quiet_step (exact Calls.regrown_of (l1In_b _ _ _ _)))
    refine wpQuiet_nil ?_
    intro w2 hw'
    obtain ⟨⟨dq, osq⟩, hw''⟩ := hw'
    have hb2 : Below w1.heap.size w1 w2 := by rw [hw'']; exact below_regrown _ _ _
    clear hw''
    have hcp2 : Hid (cpB B c = berthOk B.bts c) := by unfold Hid; rw [hcp.out]; simp [cpOk, h1, h2, h3, h4]
    have hbb2 := hbb1.trans (hb2.mono hbb1.size)
    have T0'' : Hid _ := below_blk hb2 T0'.out (by omega)
    have T1'' : Hid _ := below_blk hb2 T1'.out (by omega)
    clear g0 g1 k1 k2 k3 k4 h1 h2 h3 h4 q7
    have m0 := blk_cell T0''.out 0 rfl
    have m1 := blk_cell T0''.out 1 rfl
    have m2 := blk_cell T0''.out 2 rfl
    have m3 := blk_cell T0''.out 3 rfl
    have n4 := blk_cell T1''.out 4 rfl
    have n6 := blk_cell T1''.out 6 rfl
    by_cases h5 : c.state = 1
    · have H5 : Hid (c.state = 1) := h5
      have h5' : (c.state == 1) = true := by simp [h5]
      clear h5
      go_wp2
      go_ret
      exact ⟨ret_bool (by rw [hcp2.out]; simp [berthOk, H5.out]), hbb2⟩
    · have H5 : Hid (¬ c.state = 1) := h5
      have h5' : (c.state == 1) = false := by simp [h5]
      clear h5
      go_wp2_with fail
      refine (l1Berth_any B c.berth _ a2 a3 c1 c2 c3 _ hS (hB.2.2.below hbb2)).mono ?_
      rintro e w3 ⟨rfl, hb3⟩
      have HG : Hid (decide (0 ≤ idxB B.bts c.berth) = B.bts.any fun b => b.name.toList == c.berth.toList) := idxOf_ge _ _
      generalize idxB B.bts c.berth = z at *
      go_wp2
      go_ret
      exact ⟨ret_bool (by rw [hcp2.out]; simp [berthOk, H5.out, ← HG.out]), hbb2.trans (hb3.mono hbb2.size)⟩

end Go.Proofs.Ytbceafpodamnfaa
