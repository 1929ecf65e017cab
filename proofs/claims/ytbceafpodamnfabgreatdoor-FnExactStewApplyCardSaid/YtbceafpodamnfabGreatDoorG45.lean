/-
  My own: Ou.
-/
import Derived.Test.YtbceafpodamnfabGreatDoorG44
set_option linter.unusedVariables false
set_option linter.unusedSimpArgs false
namespace Go.Proofs.YtbceafpodamnfabGreatDoor
open Go.RowKit Go.Extern.Stop Go.Stop Go.Extern
set_option maxRecDepth 100000 in
set_option maxHeartbeats 8000000 in
theorem as_own (c : Int) (tb : Nat) (old : Value) (w : World) (hg : ErrT w) (ht : w.heap[tb]? = some (.cells #[old] 170 (0, 0))) :
  Calls Tryz.prog 107 #[errV c, .iface 172 (.pointer (some ⟨tb, 0, none⟩))] w fun e w' => e = .returned (.bool true) ∧ w'.heap[tb]? = some (.cells #[.int .i64 c] 170 (0, 0)) ∧ ∀ N, N ≤ tb → N ≤ w.heap.size → Below N w w' := by
 unfold ErrT at hg
 unfold errV
 have h6 := @run_callFunc_extern Tryz.prog 179 _ (fun args => ReflectliteValue.unpack (args.getD 0 (.tuple #[]))) Tryz.func179 (by kernel_rfl) (by kernel_rfl) (by kernel_rfl) (by kernel_rfl)
 have h7 := @run_callFunc_extern Tryz.prog 180 _ (ReflectliteValue.methodAny (ReflectliteValue.valueError "reflectlite.Value.Type" 0) (fun t _ _ _ => ReflectliteType.toType t)) Tryz.func180 (by kernel_rfl) (by kernel_rfl) (by kernel_rfl) (by kernel_rfl)
 have h8 := @run_callFunc_extern Tryz.prog 181 _ (ReflectliteValue.method (ReflectliteValue.valueError "reflectlite.Value.IsNil" 0) ReflectliteValue.isNil) Tryz.func181 (by kernel_rfl) (by kernel_rfl) (by kernel_rfl) (by kernel_rfl)
 have h27 := @run_callFunc_extern Tryz.prog 426 _ (ReflectliteType.abiMethod fun t => do pure (.int .u8 (← Rtype.kind t))) Tryz.func426 (by kernel_rfl) (by kernel_rfl) (by kernel_rfl) (by kernel_rfl)
 have h37 := @run_callFunc_extern Tryz.prog 439 _ (ReflectliteType.method ReflectliteType.elem) Tryz.func439 (by kernel_rfl) (by kernel_rfl) (by kernel_rfl) (by kernel_rfl)
 have h38 := @run_callFunc_extern Tryz.prog 440 _ (ReflectliteType.relation "Implements" ReflectliteType.implements_) Tryz.func440 (by kernel_rfl) (by kernel_rfl) (by kernel_rfl) (by kernel_rfl)
 have f1 := Tryz.rlValueOfP
 have f2 := Tryz.rlType
 have f3 := Tryz.rlMethodKind
 have f4 := Tryz.rlKindP
 have f5 := Tryz.rlKindE
 have f6 := Tryz.rlMethodElem
 have f7 := Tryz.rlMethodImplements
 have f8 := Tryz.rlMethodAssignable
 have f9 := Tryz.rlElem
 have f10 := Tryz.rlImplements
 have hlt : 0 < w.heap.size := by
  rcases Nat.eq_zero_or_pos w.heap.size with h0 | h
  ·simp [World.cell?, h0] at hg
  ·exact h
 have htl : tb < w.heap.size := (Array.getElem?_eq_some_iff.1 ht).1
 obtain ⟨W1, hW1⟩ : ∃ W, w.alloc (.cells #[.pointer (some ⟨tb, 0, none⟩)] 172) = W := ⟨_, rfl⟩
 have t1 : W1.heap[w.heap.size]? = some (.cells #[.pointer (some ⟨tb, 0, none⟩)] 172 (0, 0)) := by rw [← hW1]; exact heap_alloc_new _ _
 have b1 : Below w.heap.size w W1 := by rw [← hW1]; exact below_box _ _
 have z1 : w.heap.size < W1.heap.size := (Array.getElem?_eq_some_iff.1 t1).1
 obtain ⟨W2, hW2⟩ : ∃ W, W1.alloc (.cells #[.pointer (some ⟨9, 172, none⟩), .pointer (some ⟨w.heap.size, 0, none⟩), .int .u64 150] 227) = W := ⟨_, rfl⟩
 have t2 : W2.heap[W1.heap.size]? = some (.cells #[.pointer (some ⟨9, 172, none⟩), .pointer (some ⟨w.heap.size, 0, none⟩), .int .u64 150] 227 (0, 0)) := by rw [← hW2]; exact heap_alloc_new _ _
 have b2 : Below W1.heap.size W1 W2 := by rw [← hW2]; exact below_box _ _
 have b12 := b1.trans (b2.mono b1.size)
 have n8 := Tryz.rlIsNil ⟨w.heap.size, 0, none⟩ ⟨tb, 0, none⟩ W2 (blk_cell (below_blk b2 t1 (by omega)) 0 rfl)
 have hg2 : W2.cell? ⟨0, 0, none⟩ = some (.iface 285 (.agg #[.pointer (some ⟨9, 132, none⟩)])) := (b12.cell (p := ⟨0, 0, none⟩) hlt).trans hg
 have hm := hg2
 have c0 := blk_cell t2 0 rfl
 have c1 := blk_cell t2 1 rfl
 have c2 := blk_cell t2 2 rfl
 have HT : Hid (W2.heap[tb]? = some (.cells #[old] 170 (0, 0))) := below_blk b12 ht htl
 have HV : Hid (W2.heap[w.heap.size]? = some (.cells #[.pointer (some ⟨tb, 0, none⟩)] 172 (0, 0))) := below_blk b2 t1 z1
 clear t1 t2 b1 b2 ht hg
 go_enter Tryz.func107, Tryz.ntmps107
 go_wp2_with (go_at_call 182; refine (as_in c tb w.heap.size old W2 HT.out HV.out).mono ?_; rintro e w3 ⟨rfl, h3, h4⟩)
 go_ret
 exact ⟨rfl, h3, fun N h1 h2 => (b12.mono h2).trans (h4 N h1 (Nat.le_trans h2 b12.size))⟩
end Go.Proofs.YtbceafpodamnfabGreatDoor
