/-
  My own. The specification counts.
-/
import Derived.Test.YtbceafpodamnfaaWj
import Derived.Test.YtbceafpodamnfaaWk
import Derived.Test.YtbceafpodamnfaaWl
import Derived.Test.YtbceafpodamnfaaWe
import Derived.Test.YtbceafpodamnfaaDf
namespace Go.Proofs.Ytbceafpodamnfaa
open Go.RowKit Go.Sort

theorem below_of_grow {w w2 : World} {d : Nat} {os : Array Obj} (h : w2 = grow (redrawn w d) os) : Below w.heap.size w w2 := by rw [h]; exact below_regrown _ _ _
theorem blk_ne {w : World} {k b : Nat} {x : Option Obj} (h : w.heap[k]? = x) (o : Nat) (v : Value) (hne : k ≠ b) : (w.setCell ⟨b, o, none⟩ v).heap[k]? = x := (Below.heap_setCell _ _ _ _ hne).trans h
theorem size_alloc' (w : World) (o : Obj) : (w.alloc o).heap.size = w.heap.size + 1 := by show (w.heap.push _).size = _; simp

set_option maxHeartbeats 4000000 in
theorem l2Count_none (B : Bk) (sv : ByteArray) (a1 a2 a3 : Option Addr) (c1 c2 c3 : Nat) (w : World) (hS : B.small) (hB : BkAt w a1 a2 a3 B) (hf : svcOf B sv = none) :
    Calls Try.prog 28 #[.agg #[.int .i64 B.now, .slice a1 B.svcs.length c1, .slice a2 B.cps.length c2, .slice a3 B.bts.length c3], .string sv] w fun e w' => e = .returned (.agg #[.int .i64 0, .int .i64 0, .int .i64 0, .int .i64 0, .int .i64 0]) ∧ Below w.heap.size w w' := by
  have hidx : idxS B.svcs sv = -1 := idxOf_find_none hf
  have HIDX : Hid _ := hidx
  clear hf hidx
  obtain ⟨t0, t1, t2, t3⟩ := three_new w (.cells #[.int .i64 B.now, .slice a1 B.svcs.length c1, .slice a2 B.cps.length c2, .slice a3 B.bts.length c3] 27) (.cells #[.int .i64 0, .int .i64 0, .int .i64 0, .int .i64 0, .int .i64 0] 32) (.cells #[.int .i64 0, .int .i64 0, .int .i64 0, .int .i64 0, .int .i64 0] 32)
  have T0 : Hid _ := t0
  have T1 : Hid _ := t1
  have T2 : Hid _ := t2
  have T3 : Hid _ := t3
  clear t0 t1 t2 t3
  have hb0 : Below w.heap.size w (((w.alloc (.cells #[.int .i64 B.now, .slice a1 B.svcs.length c1, .slice a2 B.cps.length c2, .slice a3 B.bts.length c3] 27)).alloc (.cells #[.int .i64 0, .int .i64 0, .int .i64 0, .int .i64 0, .int .i64 0] 32)).alloc (.cells #[.int .i64 0, .int .i64 0, .int .i64 0, .int .i64 0, .int .i64 0] 32)) := (((Below.refl _ _).alloc (Nat.le_refl _) _).alloc (by simp) _).alloc (by simp; omega) _
  have hS' := hS
  obtain ⟨hl1, hl2, hl3⟩ := hS'
  go_enter Try.func28, Try.ntmps28
  go_wp2_with fail
  refine (l1Service_any B sv a1 a2 a3 c1 c2 c3 _ hS (hB.1.below hb0)).mono ?_
  rintro e w1 ⟨rfl, hb1⟩
  rw [HIDX.out]
  have hbb1 := hb0.trans (hb1.mono hb0.size)
  rw [T3.out] at hb1
  have U0 : Hid _ := below_blk hb1 T0.out (by omega)
  have U1 : Hid _ := below_blk hb1 T1.out (by omega)
  have U2 : Hid _ := below_blk hb1 T2.out (by omega)
  have e2 := blk_cell U0.out 2 rfl
  have o0 := blk_cell U2.out 0 rfl
  have o1 := blk_cell U2.out 1 rfl
  have o2 := blk_cell U2.out 2 rfl
  have o3 := blk_cell U2.out 3 rfl
  have o4 := blk_cell U2.out 4 rfl
  have p0 := blk_cell U1.out 0 rfl
  have p1 := blk_cell U1.out 1 rfl
  have p2 := blk_cell U1.out 2 rfl
  have p3 := blk_cell U1.out 3 rfl
  have p4 := blk_cell U1.out 4 rfl
  have f0 := blk_frozen U1.out 0
  have f1 := blk_frozen U1.out 1
  have f2 := blk_frozen U1.out 2
  have f3 := blk_frozen U1.out 3
  have f4 := blk_frozen U1.out 4
  clear hb1 hB
  go_wp2
  go_loop [7] (fun i => i = .int .i64 0) (fun _ => 0)
  case atStart => rfl
  case round =>
    subst hrel
    by_cases hz : (0 : Int) < (B.cps.length : Int)
    all_goals
      go_wp2
      refine bodyPost_ret (v := .agg #[.int .i64 0, .int .i64 0, .int .i64 0, .int .i64 0, .int .i64 0]) (by simp [results, Try.results28, go_sem, p0, p1, p2, p3, p4]) rfl ⟨rfl, ?_⟩
      exact ((((hbb1.setCell (by simp) _).setCell (by simp) _).setCell (by simp) _).setCell (by simp) _).setCell (by simp) _

end Go.Proofs.Ytbceafpodamnfaa
