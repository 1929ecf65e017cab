/-
  My own: Sc, Sd.
-/
import Derived.Test.YtbceafpodamnfabGreatA22
import Derived.Test.YtbceafpodamnfabGreatA08
import Derived.Test.YtbceafpodamnfabGreatA07
set_option linter.unusedVariables false
set_option linter.unusedSimpArgs false
/-
  My own. The program's stewards: acts.
-/
namespace Go.Proofs.YtbceafpodamnfabGreat
open Go.RowKit Go.Sort

set_option maxRecDepth 100000 in
set_option maxHeartbeats 2000000 in
theorem act_any (s : Svc) (N : Cnt) (dr : Int) (al : Option Addr) (n cl : Nat) (w : World) :
    Calls Tryz.prog 120 #[.agg #[.string s.name, .int .i64 s.version, .bool s.gone, .int .i64 s.image, .int .i64 s.want, .int .i64 s.down, .int .i64 s.over, .int .i64 s.next, .int .i64 s.per, .int .i64 s.least, .int .i64 s.most, .int .i64 s.load, .int .i64 s.cool, .int .i64 N.live, .int .i64 N.ready, .int .i64 N.old, .int .i64 N.failed, .int .i64 N.ending, .int .i64 dr, .slice al n cl]] w fun e w' => e = .returned (.agg #[.string s.name, .int .i64 s.version, .int .i64 0, .int .i64 0, .int .i64 0, .bool false, .slice none 0 0, .bool false]) ∧ Below w.heap.size w w' := by
  obtain ⟨t0, t1, t2⟩ := two_new w (.cells #[.string s.name, .int .i64 s.version, .bool s.gone, .int .i64 s.image, .int .i64 s.want, .int .i64 s.down, .int .i64 s.over, .int .i64 s.next, .int .i64 s.per, .int .i64 s.least, .int .i64 s.most, .int .i64 s.load, .int .i64 s.cool, .int .i64 N.live, .int .i64 N.ready, .int .i64 N.old, .int .i64 N.failed, .int .i64 N.ending, .int .i64 dr, .slice al n cl] 108) (.cells #[.string ⟨#[]⟩, .int .i64 0, .int .i64 0, .int .i64 0, .int .i64 0, .bool false, .slice none 0 0, .bool false] 59)
  have T1 : Hid _ := t1
  clear t0 t1 t2
  have hb0 : Below w.heap.size w ((w.alloc (.cells #[.string s.name, .int .i64 s.version, .bool s.gone, .int .i64 s.image, .int .i64 s.want, .int .i64 s.down, .int .i64 s.over, .int .i64 s.next, .int .i64 s.per, .int .i64 s.least, .int .i64 s.most, .int .i64 s.load, .int .i64 s.cool, .int .i64 N.live, .int .i64 N.ready, .int .i64 N.old, .int .i64 N.failed, .int .i64 N.ending, .int .i64 dr, .slice al n cl] 108)).alloc (.cells #[.string ⟨#[]⟩, .int .i64 0, .int .i64 0, .int .i64 0, .int .i64 0, .bool false, .slice none 0 0, .bool false] 59)) := ((Below.refl _ _).alloc (Nat.le_refl _) _).alloc (by simp) _
  go_enter Tryz.func120, Tryz.ntmps120
  go_wp2_with (first
    | (refine wpList_store_only rfl 59 (.tmp 2) (.tmp 9) rfl (w.heap.size + 1) 0 #[.string s.name, .int .i64 s.version, .int .i64 0, .int .i64 0, .int .i64 0, .bool false, .slice none 0 0, .bool false] rfl rfl 59 #[.string ⟨#[]⟩, .int .i64 0, .int .i64 0, .int .i64 0, .int .i64 0, .bool false, .slice none 0 0, .bool false] T1.out Tryz.infosActS (Nat.le_of_ble_eq_true rfl) (by simp [Value.oneCell']) ?_; intro wf hz on; have RF : Hid (wf.heap[(w.heap.size + 1)]? = some (.cells #[.string s.name, .int .i64 s.version, .int .i64 0, .int .i64 0, .int .i64 0, .bool false, .slice none 0 0, .bool false] 59 (0, 0))) := hz; have BF := hb0.trans (on.below.mono (by omega)); have p0 := blk_cell RF.out 0 rfl; have p1 := blk_cell RF.out 1 rfl; have p2 := blk_cell RF.out 2 rfl; have p3 := blk_cell RF.out 3 rfl; have p4 := blk_cell RF.out 4 rfl; have p5 := blk_cell RF.out 5 rfl; have p6 := blk_cell RF.out 6 rfl; have p7 := blk_cell RF.out 7 rfl; clear hz on))
  refine bodyPost_ret (v := .agg #[.string s.name, .int .i64 s.version, .int .i64 0, .int .i64 0, .int .i64 0, .bool false, .slice none 0 0, .bool false]) (by simp [results, Tryz.results120, go_sem, p0, p1, p2, p3, p4, p5, p6, p7]) rfl ⟨rfl, BF⟩

set_option maxRecDepth 100000 in
set_option maxHeartbeats 4000000 in
theorem create_any (s : Svc) (N : Cnt) (dr : Int) (al : Option Addr) (n cl : Nat) (m : Int) (w : World) :
    Calls Tryz.prog 111 #[.agg #[.string s.name, .int .i64 s.version, .bool s.gone, .int .i64 s.image, .int .i64 s.want, .int .i64 s.down, .int .i64 s.over, .int .i64 s.next, .int .i64 s.per, .int .i64 s.least, .int .i64 s.most, .int .i64 s.load, .int .i64 s.cool, .int .i64 N.live, .int .i64 N.ready, .int .i64 N.old, .int .i64 N.failed, .int .i64 N.ending, .int .i64 dr, .slice al n cl], .int .i64 m] w fun e w' => e = .returned (.tuple #[.agg #[.string s.name, .int .i64 s.version, .int .i64 m, .int .i64 0, .int .i64 0, .bool false, .slice none 0 0, .bool false], .bool true]) ∧ Below w.heap.size w w' := by
  obtain ⟨W0, hW0, t0, t1, hz0, hz0', hb0⟩ := two_newW w (.cells #[.string s.name, .int .i64 s.version, .bool s.gone, .int .i64 s.image, .int .i64 s.want, .int .i64 s.down, .int .i64 s.over, .int .i64 s.next, .int .i64 s.per, .int .i64 s.least, .int .i64 s.most, .int .i64 s.load, .int .i64 s.cool, .int .i64 N.live, .int .i64 N.ready, .int .i64 N.old, .int .i64 N.failed, .int .i64 N.ending, .int .i64 dr, .slice al n cl] 108) (.cells #[.string ⟨#[]⟩, .int .i64 0, .int .i64 0, .int .i64 0, .int .i64 0, .bool false, .slice none 0 0, .bool false] 59)
  have T0 : Hid _ := t0
  have T1 : Hid _ := t1
  clear t0 t1
  go_enter Tryz.func111, Tryz.ntmps111
  go_upto_region 1 with fail
  clear hW0
  go_wp2_with (first
    | (refine wpList_load_row rfl 108 (.tmp 2) rfl w.heap.size rfl 108 #[.string s.name, .int .i64 s.version, .bool s.gone, .int .i64 s.image, .int .i64 s.want, .int .i64 s.down, .int .i64 s.over, .int .i64 s.next, .int .i64 s.per, .int .i64 s.least, .int .i64 s.most, .int .i64 s.load, .int .i64 s.cool, .int .i64 N.live, .int .i64 N.ready, .int .i64 N.old, .int .i64 N.failed, .int .i64 N.ending, .int .i64 dr, .slice al n cl] (0, 0) _ T0.out Tryz.underlying108 rfl Tryz.infosSight ?_))
  refine (act_any s N dr al n cl _).mono ?_
  rintro e w1 ⟨rfl, hb1⟩
  have Bi := hb0.trans (hb1.mono hb0.size)
  have hz1 := hb1.size
  have U1 : Hid (w1.heap[w.heap.size + 1]? = some (.cells #[.string ⟨#[]⟩, .int .i64 0, .int .i64 0, .int .i64 0, .int .i64 0, .bool false, .slice none 0 0, .bool false] 59 (0, 0))) := below_blk hb1 T1.out (by omega)
  clear hb1 hb0 T0 T1
  go_wp2_with (first
    | (refine wpList_store_only rfl 59 (.tmp 6) (.tmp 8) rfl w1.heap.size 0 #[.string s.name, .int .i64 s.version, .int .i64 0, .int .i64 0, .int .i64 0, .bool false, .slice none 0 0, .bool false] rfl rfl 59 #[.string ⟨#[]⟩, .int .i64 0, .int .i64 0, .int .i64 0, .int .i64 0, .bool false, .slice none 0 0, .bool false] (heap_alloc_new w1 _) Tryz.infosActS (Nat.le_of_ble_eq_true rfl) (by simp [Value.oneCell']) ?_; intro wa hz on; have Y0 : Hid (wa.heap[w1.heap.size]? = some (.cells #[.string s.name, .int .i64 s.version, .int .i64 0, .int .i64 0, .int .i64 0, .bool false, .slice none 0 0, .bool false] 59 (0, 0))) := hz; have R0 : Hid _ := (on.other (w.heap.size + 1) (by omega)).trans (below_blk (below_box w1 _) U1.out (by omega)); have B0 := (Bi.alloc (by omega) _).trans (on.below.mono (by omega)); have z0 := on.size; have q0 := blk_cell Y0.out 0 rfl; clear hz on)
    | (refine wpList_store_one rfl 3 (.tmp 10) (.tmp 9) rfl w1.heap.size 2 (.int .i64 m) rfl rfl Tryz.infosIntS rfl rfl 59 #[.string s.name, .int .i64 s.version, .int .i64 0, .int .i64 0, .int .i64 0, .bool false, .slice none 0 0, .bool false] Y0.out (Nat.le_of_ble_eq_true rfl) ?_; intro wb hz on; have Y1 : Hid (wb.heap[w1.heap.size]? = some (.cells #[.string s.name, .int .i64 s.version, .int .i64 m, .int .i64 0, .int .i64 0, .bool false, .slice none 0 0, .bool false] 59 (0, 0))) := hz; have R1 : Hid _ := (on.other (w.heap.size + 1) (by omega)).trans R0.out; have B1 := B0.trans (on.below.mono (by omega)); have q0 := blk_cell Y1.out 0 rfl; have q1 := blk_cell Y1.out 1 rfl; have q2 := blk_cell Y1.out 2 rfl; have q3 := blk_cell Y1.out 3 rfl; have q4 := blk_cell Y1.out 4 rfl; have q5 := blk_cell Y1.out 5 rfl; have q6 := blk_cell Y1.out 6 rfl; have q7 := blk_cell Y1.out 7 rfl; clear hz on)
    | (refine wpList_store_only rfl 59 (.tmp 4) (.tmp 11) rfl (w.heap.size + 1) 0 #[.string s.name, .int .i64 s.version, .int .i64 m, .int .i64 0, .int .i64 0, .bool false, .slice none 0 0, .bool false] rfl rfl 59 #[.string ⟨#[]⟩, .int .i64 0, .int .i64 0, .int .i64 0, .int .i64 0, .bool false, .slice none 0 0, .bool false] R1.out Tryz.infosActS (Nat.le_of_ble_eq_true rfl) (by simp [Value.oneCell']) ?_; intro wf hz on; have RF : Hid (wf.heap[(w.heap.size + 1)]? = some (.cells #[.string s.name, .int .i64 s.version, .int .i64 m, .int .i64 0, .int .i64 0, .bool false, .slice none 0 0, .bool false] 59 (0, 0))) := hz; have BF := B1.trans (on.below.mono (by omega)); have p0 := blk_cell RF.out 0 rfl; have p1 := blk_cell RF.out 1 rfl; have p2 := blk_cell RF.out 2 rfl; have p3 := blk_cell RF.out 3 rfl; have p4 := blk_cell RF.out 4 rfl; have p5 := blk_cell RF.out 5 rfl; have p6 := blk_cell RF.out 6 rfl; have p7 := blk_cell RF.out 7 rfl; clear hz on))
  refine bodyPost_ret (v := .tuple #[.agg #[.string s.name, .int .i64 s.version, .int .i64 m, .int .i64 0, .int .i64 0, .bool false, .slice none 0 0, .bool false], .bool true]) (by simp [results, Tryz.results111, go_sem, p0, p1, p2, p3, p4, p5, p6, p7]) rfl ⟨rfl, BF⟩

set_option maxRecDepth 100000 in
set_option maxHeartbeats 4000000 in
theorem scale_any (s : Svc) (N : Cnt) (dr : Int) (al : Option Addr) (n cl : Nat) (m q : Int) (w : World) :
    Calls Tryz.prog 119 #[.agg #[.string s.name, .int .i64 s.version, .bool s.gone, .int .i64 s.image, .int .i64 s.want, .int .i64 s.down, .int .i64 s.over, .int .i64 s.next, .int .i64 s.per, .int .i64 s.least, .int .i64 s.most, .int .i64 s.load, .int .i64 s.cool, .int .i64 N.live, .int .i64 N.ready, .int .i64 N.old, .int .i64 N.failed, .int .i64 N.ending, .int .i64 dr, .slice al n cl], .int .i64 m, .int .i64 q] w fun e w' => e = .returned (.tuple #[.agg #[.string s.name, .int .i64 s.version, .int .i64 0, .int .i64 m, .int .i64 q, .bool true, .slice none 0 0, .bool false], .bool true]) ∧ Below w.heap.size w w' := by
  obtain ⟨W0, hW0, t0, t1, hz0, hz0', hb0⟩ := two_newW w (.cells #[.string s.name, .int .i64 s.version, .bool s.gone, .int .i64 s.image, .int .i64 s.want, .int .i64 s.down, .int .i64 s.over, .int .i64 s.next, .int .i64 s.per, .int .i64 s.least, .int .i64 s.most, .int .i64 s.load, .int .i64 s.cool, .int .i64 N.live, .int .i64 N.ready, .int .i64 N.old, .int .i64 N.failed, .int .i64 N.ending, .int .i64 dr, .slice al n cl] 108) (.cells #[.string ⟨#[]⟩, .int .i64 0, .int .i64 0, .int .i64 0, .int .i64 0, .bool false, .slice none 0 0, .bool false] 59)
  have T0 : Hid _ := t0
  have T1 : Hid _ := t1
  clear t0 t1
  go_enter Tryz.func119, Tryz.ntmps119
  go_upto_region 1 with fail
  clear hW0
  go_wp2_with (first
    | (refine wpList_load_row rfl 108 (.tmp 3) rfl w.heap.size rfl 108 #[.string s.name, .int .i64 s.version, .bool s.gone, .int .i64 s.image, .int .i64 s.want, .int .i64 s.down, .int .i64 s.over, .int .i64 s.next, .int .i64 s.per, .int .i64 s.least, .int .i64 s.most, .int .i64 s.load, .int .i64 s.cool, .int .i64 N.live, .int .i64 N.ready, .int .i64 N.old, .int .i64 N.failed, .int .i64 N.ending, .int .i64 dr, .slice al n cl] (0, 0) _ T0.out Tryz.underlying108 rfl Tryz.infosSight ?_))
  refine (act_any s N dr al n cl _).mono ?_
  rintro e w1 ⟨rfl, hb1⟩
  have Bi := hb0.trans (hb1.mono hb0.size)
  have hz1 := hb1.size
  have U1 : Hid (w1.heap[w.heap.size + 1]? = some (.cells #[.string ⟨#[]⟩, .int .i64 0, .int .i64 0, .int .i64 0, .int .i64 0, .bool false, .slice none 0 0, .bool false] 59 (0, 0))) := below_blk hb1 T1.out (by omega)
  clear hb1 hb0 T0 T1
  go_wp2_with (first
    | (refine wpList_store_only rfl 59 (.tmp 8) (.tmp 10) rfl w1.heap.size 0 #[.string s.name, .int .i64 s.version, .int .i64 0, .int .i64 0, .int .i64 0, .bool false, .slice none 0 0, .bool false] rfl rfl 59 #[.string ⟨#[]⟩, .int .i64 0, .int .i64 0, .int .i64 0, .int .i64 0, .bool false, .slice none 0 0, .bool false] (heap_alloc_new w1 _) Tryz.infosActS (Nat.le_of_ble_eq_true rfl) (by simp [Value.oneCell']) ?_; intro wa hz on; have Y0 : Hid (wa.heap[w1.heap.size]? = some (.cells #[.string s.name, .int .i64 s.version, .int .i64 0, .int .i64 0, .int .i64 0, .bool false, .slice none 0 0, .bool false] 59 (0, 0))) := hz; have R0 : Hid _ := (on.other (w.heap.size + 1) (by omega)).trans (below_blk (below_box w1 _) U1.out (by omega)); have B0 := (Bi.alloc (by omega) _).trans (on.below.mono (by omega)); have z0 := on.size; have q0 := blk_cell Y0.out 0 rfl; clear hz on)
    | (refine wpList_store_one rfl 4 (.tmp 13) (.const (.bool true)) rfl w1.heap.size 5 (.bool true) rfl rfl Tryz.infosBoolS rfl rfl 59 #[.string s.name, .int .i64 s.version, .int .i64 0, .int .i64 0, .int .i64 0, .bool false, .slice none 0 0, .bool false] Y0.out (Nat.le_of_ble_eq_true rfl) ?_; intro wb hz on; have Y1 : Hid (wb.heap[w1.heap.size]? = some (.cells #[.string s.name, .int .i64 s.version, .int .i64 0, .int .i64 0, .int .i64 0, .bool true, .slice none 0 0, .bool false] 59 (0, 0))) := hz; have R1 : Hid _ := (on.other (w.heap.size + 1) (by omega)).trans R0.out; have B1 := B0.trans (on.below.mono (by omega)); skip; clear hz on)
    | (refine wpList_store_one rfl 3 (.tmp 14) (.tmp 11) rfl w1.heap.size 3 (.int .i64 m) rfl rfl Tryz.infosIntS rfl rfl 59 #[.string s.name, .int .i64 s.version, .int .i64 0, .int .i64 0, .int .i64 0, .bool true, .slice none 0 0, .bool false] Y1.out (Nat.le_of_ble_eq_true rfl) ?_; intro wc hz on; have Y2 : Hid (wc.heap[w1.heap.size]? = some (.cells #[.string s.name, .int .i64 s.version, .int .i64 0, .int .i64 m, .int .i64 0, .bool true, .slice none 0 0, .bool false] 59 (0, 0))) := hz; have R2 : Hid _ := (on.other (w.heap.size + 1) (by omega)).trans R1.out; have B2 := B1.trans (on.below.mono (by omega)); skip; clear hz on)
    | (refine wpList_store_one rfl 3 (.tmp 15) (.tmp 12) rfl w1.heap.size 4 (.int .i64 q) rfl rfl Tryz.infosIntS rfl rfl 59 #[.string s.name, .int .i64 s.version, .int .i64 0, .int .i64 m, .int .i64 0, .bool true, .slice none 0 0, .bool false] Y2.out (Nat.le_of_ble_eq_true rfl) ?_; intro wd hz on; have Y3 : Hid (wd.heap[w1.heap.size]? = some (.cells #[.string s.name, .int .i64 s.version, .int .i64 0, .int .i64 m, .int .i64 q, .bool true, .slice none 0 0, .bool false] 59 (0, 0))) := hz; have R3 : Hid _ := (on.other (w.heap.size + 1) (by omega)).trans R2.out; have B3 := B2.trans (on.below.mono (by omega)); have q0 := blk_cell Y3.out 0 rfl; have q1 := blk_cell Y3.out 1 rfl; have q2 := blk_cell Y3.out 2 rfl; have q3 := blk_cell Y3.out 3 rfl; have q4 := blk_cell Y3.out 4 rfl; have q5 := blk_cell Y3.out 5 rfl; have q6 := blk_cell Y3.out 6 rfl; have q7 := blk_cell Y3.out 7 rfl; clear hz on)
    | (refine wpList_store_only rfl 59 (.tmp 6) (.tmp 16) rfl (w.heap.size + 1) 0 #[.string s.name, .int .i64 s.version, .int .i64 0, .int .i64 m, .int .i64 q, .bool true, .slice none 0 0, .bool false] rfl rfl 59 #[.string ⟨#[]⟩, .int .i64 0, .int .i64 0, .int .i64 0, .int .i64 0, .bool false, .slice none 0 0, .bool false] R3.out Tryz.infosActS (Nat.le_of_ble_eq_true rfl) (by simp [Value.oneCell']) ?_; intro wf hz on; have RF : Hid (wf.heap[(w.heap.size + 1)]? = some (.cells #[.string s.name, .int .i64 s.version, .int .i64 0, .int .i64 m, .int .i64 q, .bool true, .slice none 0 0, .bool false] 59 (0, 0))) := hz; have BF := B3.trans (on.below.mono (by omega)); have p0 := blk_cell RF.out 0 rfl; have p1 := blk_cell RF.out 1 rfl; have p2 := blk_cell RF.out 2 rfl; have p3 := blk_cell RF.out 3 rfl; have p4 := blk_cell RF.out 4 rfl; have p5 := blk_cell RF.out 5 rfl; have p6 := blk_cell RF.out 6 rfl; have p7 := blk_cell RF.out 7 rfl; clear hz on))
  refine bodyPost_ret (v := .tuple #[.agg #[.string s.name, .int .i64 s.version, .int .i64 0, .int .i64 m, .int .i64 q, .bool true, .slice none 0 0, .bool false], .bool true]) (by simp [results, Tryz.results119, go_sem, p0, p1, p2, p3, p4, p5, p6, p7]) rfl ⟨rfl, BF⟩

end Go.Proofs.YtbceafpodamnfabGreat

/-
  My own. The program's stewards: lists that are kept in part.
-/
namespace Go.Proofs.YtbceafpodamnfabGreat
open Go.RowKit Go.Sort

section
variable {P : Program}
/-- One element appended onto a row of one's own, or onto nil. -/
theorem wpList_append_mine {ops : Array Oper} {rest : List Oper} {o : Oper} {a : Act} {w : World} {Q : Exit → Act → World → Prop} (hgd : o.guard = none) (s x : Operand) (t : TypeId)
    (ho : o.op = .call { callee := .builtin .append, args := #[s, x], argTypes := #[t, t] })
    (base : Nat) (e : TypeId) (z : Value) (size bytes : Nat) (ht : P.underlying t = some (.slice e)) (hinfo : (P.info? e).map (fun i => (i.zero, i.size, i.bytes)) = some (some z, size, bytes)) (hzs : z.cells.size = size) (hsz : 0 < size)
    (v : Value) (n : Nat) (xs : List Value) (hs : a.eval s = v) (hown : w.ownsRow base e size v n xs)
    (ad : Addr) (c : Nat) (news : List Value) (hx : a.eval x = .slice (some ad) 1 c) (hl : news.length = 1 * size) (hnews : ∀ j u, news[j]? = some u → w.cell? (ad.add j) = some u) (h1 : ∀ u ∈ news, u.oneCell' = true)
    (h63 : n + 1 ≤ maxLen) (hbytes : (n + 1) * bytes ≤ 140737488355328) (hbase : base ≤ w.heap.size)
    (h : ∀ g cap w', base ≤ g → Hid (w'.ownsRow base e size (.slice (some ⟨g, 0, none⟩) (n + 1) cap) (n + 1) (xs ++ news)) → Below base w w' → wpList P ops Q rest (a.put o.dst (.slice (some ⟨g, 0, none⟩) (n + 1) cap)) w') : wpList P ops Q (o :: rest) a w := by
  obtain ⟨i, hi, hz, hs', hb⟩ := info_parts hinfo
  refine wpList_append_own w hgd s x t ho base e i z size bytes ht hi hz hs' hb hzs hsz v n xs hs hown ad 1 c news hx hl hnews h1 h63 hbytes hbase fun v' w' ho' hgr _ => ?_
  have hb' : Below base w w' := ⟨hgr.os, hgr.tape, hgr.output, hgr.size, fun k hk => hgr.block k (by omega) (fun e' => by have := (hown.lt k e'.symm).1; omega)⟩
  rcases ho'.2 with ⟨_, h0⟩ | ⟨g, cap, cur, rfl, hbg, _⟩
  · omega
  · exact h g cap w' hbg ho' hb'
end

theorem Tryz.infoSn : (Tryz.prog.info? 148).map (fun i => (i.zero, i.size, i.bytes)) = some (some (.agg #[.string ⟨#[]⟩, .int .i64 0, .int .i64 0, .int .i64 0, .int .i64 0, .bool false, .string ⟨#[]⟩, .bool false, .bool false]), 9, 80) := by kernel_rfl

set_option maxRecDepth 100000 in
set_option maxHeartbeats 2000000 in
theorem sMayEnd_any (s : Svc) (N : Cnt) (dr : Int) (aS : Option Addr) (nS cS : Nat) (x : Sn) (w : World) (hr0 : 0 ≤ N.ready) (hr1 : N.ready ≤ 1048576) (hsi : SvcIn s) :
    Calls Tryz.prog 141 #[.agg #[.string s.name, .int .i64 s.version, .bool s.gone, .int .i64 s.image, .int .i64 s.want, .int .i64 s.down, .int .i64 s.over, .int .i64 s.next, .int .i64 s.per, .int .i64 s.least, .int .i64 s.most, .int .i64 s.load, .int .i64 s.cool, .int .i64 N.live, .int .i64 N.ready, .int .i64 N.old, .int .i64 N.failed, .int .i64 N.ending, .int .i64 dr, .slice aS nS cS], .agg #[.string x.c.service, .int .i64 x.c.number, .int .i64 x.c.version, .int .i64 x.c.image, .int .i64 x.c.state, .bool x.c.ending, .string x.c.berth, .bool x.old, .bool x.drain]] w fun e w' => e = .returned (.bool (mayR s x.c N.ready)) ∧ Below w.heap.size w w' := by
  obtain ⟨W0, hW0, t0, t1, hz0, hz0', hb0⟩ := two_newW w (.cells #[.string s.name, .int .i64 s.version, .bool s.gone, .int .i64 s.image, .int .i64 s.want, .int .i64 s.down, .int .i64 s.over, .int .i64 s.next, .int .i64 s.per, .int .i64 s.least, .int .i64 s.most, .int .i64 s.load, .int .i64 s.cool, .int .i64 N.live, .int .i64 N.ready, .int .i64 N.old, .int .i64 N.failed, .int .i64 N.ending, .int .i64 dr, .slice aS nS cS] 108) (.cells #[.string x.c.service, .int .i64 x.c.number, .int .i64 x.c.version, .int .i64 x.c.image, .int .i64 x.c.state, .bool x.c.ending, .string x.c.berth, .bool x.old, .bool x.drain] 148)
  have T0 : Hid _ := t0
  have T1 : Hid _ := t1
  clear t0 t1
  have HM : Hid (∀ W : World, Calls Tryz.prog 159 #[.agg #[.string s.name, .int .i64 s.version, .bool s.gone, .int .i64 s.image, .int .i64 s.want, .int .i64 s.down, .int .i64 s.over, .int .i64 s.next, .int .i64 s.per, .int .i64 s.least, .int .i64 s.most, .int .i64 s.load, .int .i64 s.cool], .agg #[.string x.c.service, .int .i64 x.c.number, .int .i64 x.c.version, .int .i64 x.c.image, .int .i64 x.c.state, .bool x.c.ending, .string x.c.berth], .int .i64 N.ready] W fun e w' => e = .returned (.bool (mayR s x.c N.ready)) ∧ Below W.heap.size W w') := fun W => mayEnd_any s x.c N.ready W hr0 hr1 hsi.want0 hsi.want1 hsi.down0 hsi.down1
  go_enter Tryz.func141, Tryz.ntmps141
  go_upto_region 1 with fail
  clear hW0
  have z0 := blk_cell T0.out 0 rfl
  have z1 := blk_cell T0.out 1 rfl
  have z2 := blk_cell T0.out 2 rfl
  have z3 := blk_cell T0.out 3 rfl
  have z4 := blk_cell T0.out 4 rfl
  have z5 := blk_cell T0.out 5 rfl
  have z6 := blk_cell T0.out 6 rfl
  have z7 := blk_cell T0.out 7 rfl
  have z8 := blk_cell T0.out 8 rfl
  have z9 := blk_cell T0.out 9 rfl
  have z10 := blk_cell T0.out 10 rfl
  have z11 := blk_cell T0.out 11 rfl
  have z12 := blk_cell T0.out 12 rfl
  have z13 := blk_cell T0.out 13 rfl
  have z14 := blk_cell T0.out 14 rfl
  have x0 := blk_cell T1.out 0 rfl
  have x1 := blk_cell T1.out 1 rfl
  have x2 := blk_cell T1.out 2 rfl
  have x3 := blk_cell T1.out 3 rfl
  have x4 := blk_cell T1.out 4 rfl
  have x5 := blk_cell T1.out 5 rfl
  have x6 := blk_cell T1.out 6 rfl
  go_wp2_with fail
  refine (HM.out _).mono ?_
  rintro e w1 ⟨rfl, hb1⟩
  clear z0 z1 z2 z3 z4 z5 z6 z7 z8 z9 z10 z11 z12 z13 z14 x0 x1 x2 x3 x4 x5 x6
  go_wp2
  go_ret
  exact ⟨rfl, hb0.trans (hb1.mono hb0.size)⟩

set_option maxRecDepth 100000 in
set_option maxHeartbeats 4000000 in
theorem kept_old (l : List Sn) (lo : Nat) (al : Option Addr) (cl : Nat) (w : World) (hl : l.length ≤ 1048576) (hL : OwnSn lo w al cl l) :
    Calls Tryz.prog 116 #[.slice al l.length cl, .func (.func 114) #[] #[]] w fun e w' => ∃ ao co, e = .returned (.slice ao (l.filter (fun x => x.old)).length co) ∧ OwnSn w.heap.size w' ao co (l.filter (fun x => x.old)) ∧ Below w.heap.size w w' := by
  have HL : Hid (OwnSn lo w al cl l) := hL
  have HC : Hid (∀ (x : Sn) (W : World), Calls Tryz.prog 114 #[.agg #[.string x.c.service, .int .i64 x.c.number, .int .i64 x.c.version, .int .i64 x.c.image, .int .i64 x.c.state, .bool x.c.ending, .string x.c.berth, .bool x.old, .bool x.drain]] W fun e w' => e = .returned (.bool (x.old)) ∧ Below W.heap.size W w') := fun x W => waver1_any x W
  clear hL
  go_enter Tryz.func116, Tryz.ntmps116
  go_wp2
  go_loopw [5, 10] (fun ov iv wr => ∃ (k m : Nat) (ao : Option Addr) (co : Nat), k ≤ l.length ∧ iv = .int .i64 k ∧ ov = .slice ao m co ∧ m ≤ k ∧ Hid (m = ((l.take k).filter (fun x => x.old)).length) ∧ Below w.heap.size w wr ∧ Hid (wr.ownsRow w.heap.size 148 9 (.slice ao m co) m (snsV ((l.take k).filter (fun x => x.old))))) (fun _ i _ => l.length - (intOf i).toNat)
  case atStart => exact ⟨0, 0, none, 0, by omega, rfl, rfl, Nat.le_refl _, rfl, Below.refl _ _, World.ownsRow_nil _ _ _ _⟩
  case round =>
    obtain ⟨k, m, ao, co, hk, rfl, rfl, hmk, HM, hb, hown⟩ := hrel
    have hz := hb.size
    by_cases hlt : k < l.length
    · obtain ⟨x, hx⟩ : ∃ x, l[k]? = some x := ⟨l[k], by simp [hlt]⟩
      have HX : Hid ((l.take (k + 1)).filter (fun x => x.old) = (l.take k).filter (fun x => x.old) ++ (if x.old then [x] else [])) := by
        unfold Hid
        rw [List.take_add_one, hx, List.filter_append]
        cases hp : (x.old) <;> simp [List.filter, hp]
      obtain ⟨g, rfl, _, hgw, hat⟩ := HL.out.at hx
      have hat' := hat.below hb hgw
      unfold SnAt at hat'
      obtain ⟨c0, c1, c2, c3, c4, c5, c6, c7, c8⟩ := hat'
      obtain ⟨px, HX1, HC1⟩ : ∃ p : Bool, Hid ((l.take (k + 1)).filter (fun x => x.old) = (l.take k).filter (fun x => x.old) ++ (if p then [x] else [])) ∧ Hid (∀ W : World, Calls Tryz.prog 114 #[.agg #[.string x.c.service, .int .i64 x.c.number, .int .i64 x.c.version, .int .i64 x.c.image, .int .i64 x.c.state, .bool x.c.ending, .string x.c.berth, .bool x.old, .bool x.drain]] W fun e w' => e = .returned (.bool p) ∧ Below W.heap.size W w') := ⟨_, HX, fun W => HC.out x W⟩
      clear HX hx hat
      go_wp2_with fail
      refine (HC1.out _).mono ?_
      rintro e w1 ⟨rfl, hb1⟩
      have hown1 : Hid _ := own_below (own_below hown.out (below_box wr (.cells #[.string x.c.service, .int .i64 x.c.number, .int .i64 x.c.version, .int .i64 x.c.image, .int .i64 x.c.state, .bool x.c.ending, .string x.c.berth, .bool x.old, .bool x.drain] 148)) (Nat.le_refl _)) hb1 (Nat.le_refl _)
      have T1 : Hid _ := below_blk hb1 (heap_alloc_new wr (.cells #[.string x.c.service, .int .i64 x.c.number, .int .i64 x.c.version, .int .i64 x.c.image, .int .i64 x.c.state, .bool x.c.ending, .string x.c.berth, .bool x.old, .bool x.drain] 148)) (by simp)
      have hbw1 := hb.trans (((below_box wr (.cells #[.string x.c.service, .int .i64 x.c.number, .int .i64 x.c.version, .int .i64 x.c.image, .int .i64 x.c.state, .bool x.c.ending, .string x.c.berth, .bool x.old, .bool x.drain] 148)).trans (hb1.mono (by simp))).mono hz)
      have hz1 := hbw1.size
      clear hown hb1 c0 c1 c2 c3 c4 c5 c6 c7 c8
      cases px
      · go_wp2
        go_roundw
        case rel => exact ⟨k + 1, m, ao, co, by omega, by go_num, rfl, by omega, by unfold Hid; rw [HX1.out, HM.out]; simp, hbw1, by unfold Hid; rw [HX1.out]; simp only [Bool.false_eq_true, if_false, List.append_nil]; exact hown1.out⟩
        case measure => simp [intOf]; omega
      · go_wp2_with (first
          | (refine wpList_load_row rfl 148 (.tmp 18) rfl wr.heap.size rfl 148 #[.string x.c.service, .int .i64 x.c.number, .int .i64 x.c.version, .int .i64 x.c.image, .int .i64 x.c.state, .bool x.c.ending, .string x.c.berth, .bool x.old, .bool x.drain] (0, 0) _ T1.out Tryz.underlying148 rfl Tryz.infosSn ?_)
          | (refine wpList_load_row rfl 148 (.tmp 7) rfl wr.heap.size rfl 148 #[.string x.c.service, .int .i64 x.c.number, .int .i64 x.c.version, .int .i64 x.c.image, .int .i64 x.c.state, .bool x.c.ending, .string x.c.berth, .bool x.old, .bool x.drain] (0, 0) _ T1.out Tryz.underlying148 rfl Tryz.infosSn ?_)
          | (at_builtin; refine wpList_append_mine rfl (.tmp 17) (.tmp 19) 106 rfl w.heap.size 148 _ 9 80 Tryz.underlying106 Tryz.infoSn rfl (by omega) (.slice ao m co) m _ rfl (own_below hown1.out (below_box w1 _) (Nat.le_refl _)) ⟨w1.heap.size, 0, none⟩ 1 (#[.string x.c.service, .int .i64 x.c.number, .int .i64 x.c.version, .int .i64 x.c.image, .int .i64 x.c.state, .bool x.c.ending, .string x.c.berth, .bool x.old, .bool x.drain] : Array Value).toList rfl rfl (news_row (heap_alloc_new w1 _)) (fun u hu => (Array.all_eq_true_iff_forall_mem.1 (one_Sn x)) u (by simpa using hu)) (by unfold maxLen; omega) (by omega) (by simp; omega) ?_; intro g' cap' w2 hg' hown2 hb2))
        have hbw2 := hbw1.trans (((below_box w1 (.cells #[.string x.c.service, .int .i64 x.c.number, .int .i64 x.c.version, .int .i64 x.c.image, .int .i64 x.c.state, .bool x.c.ending, .string x.c.berth, .bool x.old, .bool x.drain] 148)).mono hz1).trans hb2)
        go_wp2
        go_roundw
        case rel => exact ⟨k + 1, m + 1, _, _, by omega, by go_num, rfl, by omega, by unfold Hid; rw [HX1.out, HM.out]; simp, hbw2, by unfold Hid; rw [HX1.out]; simp only [if_true, snsV_add]; exact hown2.out⟩
        case measure => simp [intOf]; omega
    · obtain rfl : k = l.length := by omega
      have HE : Hid ((l.take l.length).filter (fun x => x.old) = l.filter (fun x => x.old)) := by unfold Hid; rw [List.take_length]
      have HM2 : Hid (m = (l.filter (fun x => x.old)).length) := by unfold Hid; rw [HM.out, HE.out]
      go_wp2
      go_ret
      refine ⟨ao, co, congrArg (fun q => Ending.returned (.slice ao q co)) HM2.out, ?_, hb⟩
      unfold OwnSn
      rw [← HM2.out, ← HE.out]
      exact hown.out

set_option maxRecDepth 100000 in
set_option maxHeartbeats 4000000 in
theorem kept_drain (l : List Sn) (lo : Nat) (al : Option Addr) (cl : Nat) (w : World) (hl : l.length ≤ 1048576) (hL : OwnSn lo w al cl l) :
    Calls Tryz.prog 116 #[.slice al l.length cl, .func (.func 121) #[] #[]] w fun e w' => ∃ ao co, e = .returned (.slice ao (l.filter (fun x => x.drain)).length co) ∧ OwnSn w.heap.size w' ao co (l.filter (fun x => x.drain)) ∧ Below w.heap.size w w' := by
  have HL : Hid (OwnSn lo w al cl l) := hL
  have HC : Hid (∀ (x : Sn) (W : World), Calls Tryz.prog 121 #[.agg #[.string x.c.service, .int .i64 x.c.number, .int .i64 x.c.version, .int .i64 x.c.image, .int .i64 x.c.state, .bool x.c.ending, .string x.c.berth, .bool x.old, .bool x.drain]] W fun e w' => e = .returned (.bool (x.drain)) ∧ Below W.heap.size W w') := fun x W => drainer1_any x W
  clear hL
  go_enter Tryz.func116, Tryz.ntmps116
  go_wp2
  go_loopw [5, 10] (fun ov iv wr => ∃ (k m : Nat) (ao : Option Addr) (co : Nat), k ≤ l.length ∧ iv = .int .i64 k ∧ ov = .slice ao m co ∧ m ≤ k ∧ Hid (m = ((l.take k).filter (fun x => x.drain)).length) ∧ Below w.heap.size w wr ∧ Hid (wr.ownsRow w.heap.size 148 9 (.slice ao m co) m (snsV ((l.take k).filter (fun x => x.drain))))) (fun _ i _ => l.length - (intOf i).toNat)
  case atStart => exact ⟨0, 0, none, 0, by omega, rfl, rfl, Nat.le_refl _, rfl, Below.refl _ _, World.ownsRow_nil _ _ _ _⟩
  case round =>
    obtain ⟨k, m, ao, co, hk, rfl, rfl, hmk, HM, hb, hown⟩ := hrel
    have hz := hb.size
    by_cases hlt : k < l.length
    · obtain ⟨x, hx⟩ : ∃ x, l[k]? = some x := ⟨l[k], by simp [hlt]⟩
      have HX : Hid ((l.take (k + 1)).filter (fun x => x.drain) = (l.take k).filter (fun x => x.drain) ++ (if x.drain then [x] else [])) := by
        unfold Hid
        rw [List.take_add_one, hx, List.filter_append]
        cases hp : (x.drain) <;> simp [List.filter, hp]
      obtain ⟨g, rfl, _, hgw, hat⟩ := HL.out.at hx
      have hat' := hat.below hb hgw
      unfold SnAt at hat'
      obtain ⟨c0, c1, c2, c3, c4, c5, c6, c7, c8⟩ := hat'
      obtain ⟨px, HX1, HC1⟩ : ∃ p : Bool, Hid ((l.take (k + 1)).filter (fun x => x.drain) = (l.take k).filter (fun x => x.drain) ++ (if p then [x] else [])) ∧ Hid (∀ W : World, Calls Tryz.prog 121 #[.agg #[.string x.c.service, .int .i64 x.c.number, .int .i64 x.c.version, .int .i64 x.c.image, .int .i64 x.c.state, .bool x.c.ending, .string x.c.berth, .bool x.old, .bool x.drain]] W fun e w' => e = .returned (.bool p) ∧ Below W.heap.size W w') := ⟨_, HX, fun W => HC.out x W⟩
      clear HX hx hat
      go_wp2_with fail
      refine (HC1.out _).mono ?_
      rintro e w1 ⟨rfl, hb1⟩
      have hown1 : Hid _ := own_below (own_below hown.out (below_box wr (.cells #[.string x.c.service, .int .i64 x.c.number, .int .i64 x.c.version, .int .i64 x.c.image, .int .i64 x.c.state, .bool x.c.ending, .string x.c.berth, .bool x.old, .bool x.drain] 148)) (Nat.le_refl _)) hb1 (Nat.le_refl _)
      have T1 : Hid _ := below_blk hb1 (heap_alloc_new wr (.cells #[.string x.c.service, .int .i64 x.c.number, .int .i64 x.c.version, .int .i64 x.c.image, .int .i64 x.c.state, .bool x.c.ending, .string x.c.berth, .bool x.old, .bool x.drain] 148)) (by simp)
      have hbw1 := hb.trans (((below_box wr (.cells #[.string x.c.service, .int .i64 x.c.number, .int .i64 x.c.version, .int .i64 x.c.image, .int .i64 x.c.state, .bool x.c.ending, .string x.c.berth, .bool x.old, .bool x.drain] 148)).trans (hb1.mono (by simp))).mono hz)
      have hz1 := hbw1.size
      clear hown hb1 c0 c1 c2 c3 c4 c5 c6 c7 c8
      cases px
      · go_wp2
        go_roundw
        case rel => exact ⟨k + 1, m, ao, co, by omega, by go_num, rfl, by omega, by unfold Hid; rw [HX1.out, HM.out]; simp, hbw1, by unfold Hid; rw [HX1.out]; simp only [Bool.false_eq_true, if_false, List.append_nil]; exact hown1.out⟩
        case measure => simp [intOf]; omega
      · go_wp2_with (first
          | (refine wpList_load_row rfl 148 (.tmp 18) rfl wr.heap.size rfl 148 #[.string x.c.service, .int .i64 x.c.number, .int .i64 x.c.version, .int .i64 x.c.image, .int .i64 x.c.state, .bool x.c.ending, .string x.c.berth, .bool x.old, .bool x.drain] (0, 0) _ T1.out Tryz.underlying148 rfl Tryz.infosSn ?_)
          | (refine wpList_load_row rfl 148 (.tmp 7) rfl wr.heap.size rfl 148 #[.string x.c.service, .int .i64 x.c.number, .int .i64 x.c.version, .int .i64 x.c.image, .int .i64 x.c.state, .bool x.c.ending, .string x.c.berth, .bool x.old, .bool x.drain] (0, 0) _ T1.out Tryz.underlying148 rfl Tryz.infosSn ?_)
          | (at_builtin; refine wpList_append_mine rfl (.tmp 17) (.tmp 19) 106 rfl w.heap.size 148 _ 9 80 Tryz.underlying106 Tryz.infoSn rfl (by omega) (.slice ao m co) m _ rfl (own_below hown1.out (below_box w1 _) (Nat.le_refl _)) ⟨w1.heap.size, 0, none⟩ 1 (#[.string x.c.service, .int .i64 x.c.number, .int .i64 x.c.version, .int .i64 x.c.image, .int .i64 x.c.state, .bool x.c.ending, .string x.c.berth, .bool x.old, .bool x.drain] : Array Value).toList rfl rfl (news_row (heap_alloc_new w1 _)) (fun u hu => (Array.all_eq_true_iff_forall_mem.1 (one_Sn x)) u (by simpa using hu)) (by unfold maxLen; omega) (by omega) (by simp; omega) ?_; intro g' cap' w2 hg' hown2 hb2))
        have hbw2 := hbw1.trans (((below_box w1 (.cells #[.string x.c.service, .int .i64 x.c.number, .int .i64 x.c.version, .int .i64 x.c.image, .int .i64 x.c.state, .bool x.c.ending, .string x.c.berth, .bool x.old, .bool x.drain] 148)).mono hz1).trans hb2)
        go_wp2
        go_roundw
        case rel => exact ⟨k + 1, m + 1, _, _, by omega, by go_num, rfl, by omega, by unfold Hid; rw [HX1.out, HM.out]; simp, hbw2, by unfold Hid; rw [HX1.out]; simp only [if_true, snsV_add]; exact hown2.out⟩
        case measure => simp [intOf]; omega
    · obtain rfl : k = l.length := by omega
      have HE : Hid ((l.take l.length).filter (fun x => x.drain) = l.filter (fun x => x.drain)) := by unfold Hid; rw [List.take_length]
      have HM2 : Hid (m = (l.filter (fun x => x.drain)).length) := by unfold Hid; rw [HM.out, HE.out]
      go_wp2
      go_ret
      refine ⟨ao, co, congrArg (fun q => Ending.returned (.slice ao q co)) HM2.out, ?_, hb⟩
      unfold OwnSn
      rw [← HM2.out, ← HE.out]
      exact hown.out

set_option maxRecDepth 100000 in
set_option maxHeartbeats 4000000 in
theorem kept_failed (l : List Sn) (lo : Nat) (al : Option Addr) (cl : Nat) (w : World) (hl : l.length ≤ 1048576) (hL : OwnSn lo w al cl l) :
    Calls Tryz.prog 116 #[.slice al l.length cl, .func (.func 117) #[] #[]] w fun e w' => ∃ ao co, e = .returned (.slice ao (l.filter (fun x => x.c.state == 4)).length co) ∧ OwnSn w.heap.size w' ao co (l.filter (fun x => x.c.state == 4)) ∧ Below w.heap.size w w' := by
  have HL : Hid (OwnSn lo w al cl l) := hL
  have HC : Hid (∀ (x : Sn) (W : World), Calls Tryz.prog 117 #[.agg #[.string x.c.service, .int .i64 x.c.number, .int .i64 x.c.version, .int .i64 x.c.image, .int .i64 x.c.state, .bool x.c.ending, .string x.c.berth, .bool x.old, .bool x.drain]] W fun e w' => e = .returned (.bool (x.c.state == 4)) ∧ Below W.heap.size W w') := fun x W => mender1_any x W
  clear hL
  go_enter Tryz.func116, Tryz.ntmps116
  go_wp2
  go_loopw [5, 10] (fun ov iv wr => ∃ (k m : Nat) (ao : Option Addr) (co : Nat), k ≤ l.length ∧ iv = .int .i64 k ∧ ov = .slice ao m co ∧ m ≤ k ∧ Hid (m = ((l.take k).filter (fun x => x.c.state == 4)).length) ∧ Below w.heap.size w wr ∧ Hid (wr.ownsRow w.heap.size 148 9 (.slice ao m co) m (snsV ((l.take k).filter (fun x => x.c.state == 4))))) (fun _ i _ => l.length - (intOf i).toNat)
  case atStart => exact ⟨0, 0, none, 0, by omega, rfl, rfl, Nat.le_refl _, rfl, Below.refl _ _, World.ownsRow_nil _ _ _ _⟩
  case round =>
    obtain ⟨k, m, ao, co, hk, rfl, rfl, hmk, HM, hb, hown⟩ := hrel
    have hz := hb.size
    by_cases hlt : k < l.length
    · obtain ⟨x, hx⟩ : ∃ x, l[k]? = some x := ⟨l[k], by simp [hlt]⟩
      have HX : Hid ((l.take (k + 1)).filter (fun x => x.c.state == 4) = (l.take k).filter (fun x => x.c.state == 4) ++ (if x.c.state == 4 then [x] else [])) := by
        unfold Hid
        rw [List.take_add_one, hx, List.filter_append]
        cases hp : (x.c.state == 4) <;> simp [List.filter, hp]
      obtain ⟨g, rfl, _, hgw, hat⟩ := HL.out.at hx
      have hat' := hat.below hb hgw
      unfold SnAt at hat'
      obtain ⟨c0, c1, c2, c3, c4, c5, c6, c7, c8⟩ := hat'
      obtain ⟨px, HX1, HC1⟩ : ∃ p : Bool, Hid ((l.take (k + 1)).filter (fun x => x.c.state == 4) = (l.take k).filter (fun x => x.c.state == 4) ++ (if p then [x] else [])) ∧ Hid (∀ W : World, Calls Tryz.prog 117 #[.agg #[.string x.c.service, .int .i64 x.c.number, .int .i64 x.c.version, .int .i64 x.c.image, .int .i64 x.c.state, .bool x.c.ending, .string x.c.berth, .bool x.old, .bool x.drain]] W fun e w' => e = .returned (.bool p) ∧ Below W.heap.size W w') := ⟨_, HX, fun W => HC.out x W⟩
      clear HX hx hat
      go_wp2_with fail
      refine (HC1.out _).mono ?_
      rintro e w1 ⟨rfl, hb1⟩
      have hown1 : Hid _ := own_below (own_below hown.out (below_box wr (.cells #[.string x.c.service, .int .i64 x.c.number, .int .i64 x.c.version, .int .i64 x.c.image, .int .i64 x.c.state, .bool x.c.ending, .string x.c.berth, .bool x.old, .bool x.drain] 148)) (Nat.le_refl _)) hb1 (Nat.le_refl _)
      have T1 : Hid _ := below_blk hb1 (heap_alloc_new wr (.cells #[.string x.c.service, .int .i64 x.c.number, .int .i64 x.c.version, .int .i64 x.c.image, .int .i64 x.c.state, .bool x.c.ending, .string x.c.berth, .bool x.old, .bool x.drain] 148)) (by simp)
      have hbw1 := hb.trans (((below_box wr (.cells #[.string x.c.service, .int .i64 x.c.number, .int .i64 x.c.version, .int .i64 x.c.image, .int .i64 x.c.state, .bool x.c.ending, .string x.c.berth, .bool x.old, .bool x.drain] 148)).trans (hb1.mono (by simp))).mono hz)
      have hz1 := hbw1.size
      clear hown hb1 c0 c1 c2 c3 c4 c5 c6 c7 c8
      cases px
      · go_wp2
        go_roundw
        case rel => exact ⟨k + 1, m, ao, co, by omega, by go_num, rfl, by omega, by unfold Hid; rw [HX1.out, HM.out]; simp, hbw1, by unfold Hid; rw [HX1.out]; simp only [Bool.false_eq_true, if_false, List.append_nil]; exact hown1.out⟩
        case measure => simp [intOf]; omega
      · go_wp2_with (first
          | (refine wpList_load_row rfl 148 (.tmp 18) rfl wr.heap.size rfl 148 #[.string x.c.service, .int .i64 x.c.number, .int .i64 x.c.version, .int .i64 x.c.image, .int .i64 x.c.state, .bool x.c.ending, .string x.c.berth, .bool x.old, .bool x.drain] (0, 0) _ T1.out Tryz.underlying148 rfl Tryz.infosSn ?_)
          | (refine wpList_load_row rfl 148 (.tmp 7) rfl wr.heap.size rfl 148 #[.string x.c.service, .int .i64 x.c.number, .int .i64 x.c.version, .int .i64 x.c.image, .int .i64 x.c.state, .bool x.c.ending, .string x.c.berth, .bool x.old, .bool x.drain] (0, 0) _ T1.out Tryz.underlying148 rfl Tryz.infosSn ?_)
          | (at_builtin; refine wpList_append_mine rfl (.tmp 17) (.tmp 19) 106 rfl w.heap.size 148 _ 9 80 Tryz.underlying106 Tryz.infoSn rfl (by omega) (.slice ao m co) m _ rfl (own_below hown1.out (below_box w1 _) (Nat.le_refl _)) ⟨w1.heap.size, 0, none⟩ 1 (#[.string x.c.service, .int .i64 x.c.number, .int .i64 x.c.version, .int .i64 x.c.image, .int .i64 x.c.state, .bool x.c.ending, .string x.c.berth, .bool x.old, .bool x.drain] : Array Value).toList rfl rfl (news_row (heap_alloc_new w1 _)) (fun u hu => (Array.all_eq_true_iff_forall_mem.1 (one_Sn x)) u (by simpa using hu)) (by unfold maxLen; omega) (by omega) (by simp; omega) ?_; intro g' cap' w2 hg' hown2 hb2))
        have hbw2 := hbw1.trans (((below_box w1 (.cells #[.string x.c.service, .int .i64 x.c.number, .int .i64 x.c.version, .int .i64 x.c.image, .int .i64 x.c.state, .bool x.c.ending, .string x.c.berth, .bool x.old, .bool x.drain] 148)).mono hz1).trans hb2)
        go_wp2
        go_roundw
        case rel => exact ⟨k + 1, m + 1, _, _, by omega, by go_num, rfl, by omega, by unfold Hid; rw [HX1.out, HM.out]; simp, hbw2, by unfold Hid; rw [HX1.out]; simp only [if_true, snsV_add]; exact hown2.out⟩
        case measure => simp [intOf]; omega
    · obtain rfl : k = l.length := by omega
      have HE : Hid ((l.take l.length).filter (fun x => x.c.state == 4) = l.filter (fun x => x.c.state == 4)) := by unfold Hid; rw [List.take_length]
      have HM2 : Hid (m = (l.filter (fun x => x.c.state == 4)).length) := by unfold Hid; rw [HM.out, HE.out]
      go_wp2
      go_ret
      refine ⟨ao, co, congrArg (fun q => Ending.returned (.slice ao q co)) HM2.out, ?_, hb⟩
      unfold OwnSn
      rw [← HM2.out, ← HE.out]
      exact hown.out

set_option maxRecDepth 100000 in
set_option maxHeartbeats 4000000 in
theorem kept_may (s : Svc) (N : Cnt) (dr : Int) (aS : Option Addr) (nS cS : Nat) (l : List Sn) (lo : Nat) (al : Option Addr) (cl : Nat) (w : World) (hl : l.length ≤ 1048576) (hL : OwnSn lo w al cl l) (hr0 : 0 ≤ N.ready) (hr1 : N.ready ≤ 1048576) (hsi : SvcIn s) :
    Calls Tryz.prog 116 #[.slice al l.length cl, .func (.func 141) #[.agg #[.string s.name, .int .i64 s.version, .bool s.gone, .int .i64 s.image, .int .i64 s.want, .int .i64 s.down, .int .i64 s.over, .int .i64 s.next, .int .i64 s.per, .int .i64 s.least, .int .i64 s.most, .int .i64 s.load, .int .i64 s.cool, .int .i64 N.live, .int .i64 N.ready, .int .i64 N.old, .int .i64 N.failed, .int .i64 N.ending, .int .i64 dr, .slice aS nS cS]] #[]] w fun e w' => ∃ ao co, e = .returned (.slice ao (l.filter (fun x => mayR s x.c N.ready)).length co) ∧ OwnSn w.heap.size w' ao co (l.filter (fun x => mayR s x.c N.ready)) ∧ Below w.heap.size w w' := by
  have HL : Hid (OwnSn lo w al cl l) := hL
  have HC : Hid (∀ (x : Sn) (W : World), Calls Tryz.prog 141 #[.agg #[.string s.name, .int .i64 s.version, .bool s.gone, .int .i64 s.image, .int .i64 s.want, .int .i64 s.down, .int .i64 s.over, .int .i64 s.next, .int .i64 s.per, .int .i64 s.least, .int .i64 s.most, .int .i64 s.load, .int .i64 s.cool, .int .i64 N.live, .int .i64 N.ready, .int .i64 N.old, .int .i64 N.failed, .int .i64 N.ending, .int .i64 dr, .slice aS nS cS], .agg #[.string x.c.service, .int .i64 x.c.number, .int .i64 x.c.version, .int .i64 x.c.image, .int .i64 x.c.state, .bool x.c.ending, .string x.c.berth, .bool x.old, .bool x.drain]] W fun e w' => e = .returned (.bool (mayR s x.c N.ready)) ∧ Below W.heap.size W w') := fun x W => sMayEnd_any s N dr aS nS cS x W hr0 hr1 hsi
  clear hL
  go_enter Tryz.func116, Tryz.ntmps116
  go_wp2
  go_loopw [5, 10] (fun ov iv wr => ∃ (k m : Nat) (ao : Option Addr) (co : Nat), k ≤ l.length ∧ iv = .int .i64 k ∧ ov = .slice ao m co ∧ m ≤ k ∧ Hid (m = ((l.take k).filter (fun x => mayR s x.c N.ready)).length) ∧ Below w.heap.size w wr ∧ Hid (wr.ownsRow w.heap.size 148 9 (.slice ao m co) m (snsV ((l.take k).filter (fun x => mayR s x.c N.ready))))) (fun _ i _ => l.length - (intOf i).toNat)
  case atStart => exact ⟨0, 0, none, 0, by omega, rfl, rfl, Nat.le_refl _, rfl, Below.refl _ _, World.ownsRow_nil _ _ _ _⟩
  case round =>
    obtain ⟨k, m, ao, co, hk, rfl, rfl, hmk, HM, hb, hown⟩ := hrel
    have hz := hb.size
    by_cases hlt : k < l.length
    · obtain ⟨x, hx⟩ : ∃ x, l[k]? = some x := ⟨l[k], by simp [hlt]⟩
      have HX : Hid ((l.take (k + 1)).filter (fun x => mayR s x.c N.ready) = (l.take k).filter (fun x => mayR s x.c N.ready) ++ (if mayR s x.c N.ready then [x] else [])) := by
        unfold Hid
        rw [List.take_add_one, hx, List.filter_append]
        cases hp : (mayR s x.c N.ready) <;> simp [List.filter, hp]
      obtain ⟨g, rfl, _, hgw, hat⟩ := HL.out.at hx
      have hat' := hat.below hb hgw
      unfold SnAt at hat'
      obtain ⟨c0, c1, c2, c3, c4, c5, c6, c7, c8⟩ := hat'
      obtain ⟨px, HX1, HC1⟩ : ∃ p : Bool, Hid ((l.take (k + 1)).filter (fun x => mayR s x.c N.ready) = (l.take k).filter (fun x => mayR s x.c N.ready) ++ (if p then [x] else [])) ∧ Hid (∀ W : World, Calls Tryz.prog 141 #[.agg #[.string s.name, .int .i64 s.version, .bool s.gone, .int .i64 s.image, .int .i64 s.want, .int .i64 s.down, .int .i64 s.over, .int .i64 s.next, .int .i64 s.per, .int .i64 s.least, .int .i64 s.most, .int .i64 s.load, .int .i64 s.cool, .int .i64 N.live, .int .i64 N.ready, .int .i64 N.old, .int .i64 N.failed, .int .i64 N.ending, .int .i64 dr, .slice aS nS cS], .agg #[.string x.c.service, .int .i64 x.c.number, .int .i64 x.c.version, .int .i64 x.c.image, .int .i64 x.c.state, .bool x.c.ending, .string x.c.berth, .bool x.old, .bool x.drain]] W fun e w' => e = .returned (.bool p) ∧ Below W.heap.size W w') := ⟨_, HX, fun W => HC.out x W⟩
      clear HX hx hat
      go_wp2_with fail
      refine (HC1.out _).mono ?_
      rintro e w1 ⟨rfl, hb1⟩
      have hown1 : Hid _ := own_below (own_below hown.out (below_box wr (.cells #[.string x.c.service, .int .i64 x.c.number, .int .i64 x.c.version, .int .i64 x.c.image, .int .i64 x.c.state, .bool x.c.ending, .string x.c.berth, .bool x.old, .bool x.drain] 148)) (Nat.le_refl _)) hb1 (Nat.le_refl _)
      have T1 : Hid _ := below_blk hb1 (heap_alloc_new wr (.cells #[.string x.c.service, .int .i64 x.c.number, .int .i64 x.c.version, .int .i64 x.c.image, .int .i64 x.c.state, .bool x.c.ending, .string x.c.berth, .bool x.old, .bool x.drain] 148)) (by simp)
      have hbw1 := hb.trans (((below_box wr (.cells #[.string x.c.service, .int .i64 x.c.number, .int .i64 x.c.version, .int .i64 x.c.image, .int .i64 x.c.state, .bool x.c.ending, .string x.c.berth, .bool x.old, .bool x.drain] 148)).trans (hb1.mono (by simp))).mono hz)
      have hz1 := hbw1.size
      clear hown hb1 c0 c1 c2 c3 c4 c5 c6 c7 c8
      cases px
      · go_wp2
        go_roundw
        case rel => exact ⟨k + 1, m, ao, co, by omega, by go_num, rfl, by omega, by unfold Hid; rw [HX1.out, HM.out]; simp, hbw1, by unfold Hid; rw [HX1.out]; simp only [Bool.false_eq_true, if_false, List.append_nil]; exact hown1.out⟩
        case measure => simp [intOf]; omega
      · go_wp2_with (first
          | (refine wpList_load_row rfl 148 (.tmp 18) rfl wr.heap.size rfl 148 #[.string x.c.service, .int .i64 x.c.number, .int .i64 x.c.version, .int .i64 x.c.image, .int .i64 x.c.state, .bool x.c.ending, .string x.c.berth, .bool x.old, .bool x.drain] (0, 0) _ T1.out Tryz.underlying148 rfl Tryz.infosSn ?_)
          | (refine wpList_load_row rfl 148 (.tmp 7) rfl wr.heap.size rfl 148 #[.string x.c.service, .int .i64 x.c.number, .int .i64 x.c.version, .int .i64 x.c.image, .int .i64 x.c.state, .bool x.c.ending, .string x.c.berth, .bool x.old, .bool x.drain] (0, 0) _ T1.out Tryz.underlying148 rfl Tryz.infosSn ?_)
          | (at_builtin; refine wpList_append_mine rfl (.tmp 17) (.tmp 19) 106 rfl w.heap.size 148 _ 9 80 Tryz.underlying106 Tryz.infoSn rfl (by omega) (.slice ao m co) m _ rfl (own_below hown1.out (below_box w1 _) (Nat.le_refl _)) ⟨w1.heap.size, 0, none⟩ 1 (#[.string x.c.service, .int .i64 x.c.number, .int .i64 x.c.version, .int .i64 x.c.image, .int .i64 x.c.state, .bool x.c.ending, .string x.c.berth, .bool x.old, .bool x.drain] : Array Value).toList rfl rfl (news_row (heap_alloc_new w1 _)) (fun u hu => (Array.all_eq_true_iff_forall_mem.1 (one_Sn x)) u (by simpa using hu)) (by unfold maxLen; omega) (by omega) (by simp; omega) ?_; intro g' cap' w2 hg' hown2 hb2))
        have hbw2 := hbw1.trans (((below_box w1 (.cells #[.string x.c.service, .int .i64 x.c.number, .int .i64 x.c.version, .int .i64 x.c.image, .int .i64 x.c.state, .bool x.c.ending, .string x.c.berth, .bool x.old, .bool x.drain] 148)).mono hz1).trans hb2)
        go_wp2
        go_roundw
        case rel => exact ⟨k + 1, m + 1, _, _, by omega, by go_num, rfl, by omega, by unfold Hid; rw [HX1.out, HM.out]; simp, hbw2, by unfold Hid; rw [HX1.out]; simp only [if_true, snsV_add]; exact hown2.out⟩
        case measure => simp [intOf]; omega
    · obtain rfl : k = l.length := by omega
      have HE : Hid ((l.take l.length).filter (fun x => mayR s x.c N.ready) = l.filter (fun x => mayR s x.c N.ready)) := by unfold Hid; rw [List.take_length]
      have HM2 : Hid (m = (l.filter (fun x => mayR s x.c N.ready)).length) := by unfold Hid; rw [HM.out, HE.out]
      go_wp2
      go_ret
      refine ⟨ao, co, congrArg (fun q => Ending.returned (.slice ao q co)) HM2.out, ?_, hb⟩
      unfold OwnSn
      rw [← HM2.out, ← HE.out]
      exact hown.out

end Go.Proofs.YtbceafpodamnfabGreat
