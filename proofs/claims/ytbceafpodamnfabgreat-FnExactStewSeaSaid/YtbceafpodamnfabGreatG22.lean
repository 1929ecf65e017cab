/-
  My own: Iv, Iw, Ix.
-/
import Derived.Test.YtbceafpodamnfabGreatG20
import Derived.Test.YtbceafpodamnfabGreatG21
set_option linter.unusedVariables false
set_option linter.unusedSimpArgs false
namespace Go.Proofs.YtbceafpodamnfabGreat
open Go.RowKit Go.Sort
theorem Tryz.infosEvt1 : (Tryz.prog.info? 162).map (·.size) = some 1 := by kernel_rfl
set_option maxRecDepth 100000 in
set_option maxHeartbeats 16000000 in
theorem happen1 (B : Bk) (E : Ev) (N A : Nat) (a1 a2 a3 : Option Addr) (k1 k2 k3 : Nat) (w : World) (hF : Fit B) (hP : Placed B) (hE : E.sized) (hn : B.now ≤ 1000000) (hN : N ≤ w.heap.size) (hV : BkVar w N A B a1 a2 a3 k1 k2 k3) :
  Calls Tryz.prog 90 #[.iface 162 (.agg #[.pointer (some ⟨A, 0, none⟩)]), .int .i64 B.now] w fun e w' => e = .returned (.int .i64 (0)) ∧ (∃ b1 b2 b3 d1 d2 d3, BkVar w' N A (tickB B B.now) b1 b2 b3 d1 d2 d3) ∧ Below N w w' := by
 obtain ⟨cd, HCD⟩ : ∃ cd : Int, Hid ((0) = cd) := ⟨_, rfl⟩
 rw [show (0) = cd from HCD.out]
 obtain ⟨w1, hw1⟩ : ∃ W, w.alloc (.cells #[.pointer none] 162) = W := ⟨_, rfl⟩
 have hb1 := below_box w (.cells #[.pointer none] 162)
 obtain ⟨sb, hsbe⟩ : ∃ q, w.heap.size = q := ⟨_, rfl⟩
 have S1 : Hid (w1.heap[sb]? = some (.cells #[.pointer none] 162 (0, 0))) := by unfold Hid; rw [← hw1, ← hsbe]; exact heap_alloc_new w (.cells #[.pointer none] 162)
 rw [hw1] at hb1
 have hsb : w.heap.size ≤ sb := by omega
 have hsb' : sb ≤ w.heap.size := by omega
 have V := hidBkVar hV
 clear hV
 have ta1 : ∀ (v : Value) (w : World), (Instr.typeAssert (.iface 162 v) 20 162 true).run Tryz.prog w = .ok (.tuple #[v, .bool true]) w := fun v w => by kernel_rfl
 go_enter Tryz.func90, Tryz.ntmps90
 go_upto_region 6 with fail
 go_upto_region 8 with (refine wpList_store_only rfl 162 (.tmp 5) (.tmp 20) rfl sb 0 #[.pointer (some ⟨A, 0, none⟩)] rfl rfl 162 #[.pointer none] S1.out Tryz.infosEvt1 (Nat.le_of_ble_eq_true rfl) (by simp [Value.oneCell']) ?_; intro w2 hz on; have S2 : Hid (w2.heap[sb]? = some (.cells #[.pointer (some ⟨A, 0, none⟩)] 162 (0, 0))) := hz; have hb2 : Below w.heap.size w w2 := hb1.trans (on.below.mono' hsb); clear hz on)
 clear hw1 hsbe S1 hb1
 have V2 := hidBkVar (V.out.below hb2)
 have HNN : Hid (N ≤ w2.heap.size) := Nat.le_trans hN hb2.size
 clear V
 have s0 := blk_cell S2.out 0 rfl
 go_wp2_with fail
 refine (pass_any B N A a1 a2 a3 k1 k2 k3 w2 hF hP HNN.out V2.out).mono ?_
 rintro e w3 ⟨rfl, hv3, hb3⟩
 have HV3 : Hid (∃ b1 b2 b3 d1 d2 d3, BkVar w3 N A (tickB B B.now) b1 b2 b3 d1 d2 d3) := hv3
 have hb4 := (hb2.mono' hN).trans hb3
 clear hv3 hb3 hb2 V2 S2 s0
 skip
 go_wp2
 go_ret
 exact ⟨by rw [← HCD.out]; rfl, HV3.out, hb4⟩
theorem Tryz.infosEvt2 : (Tryz.prog.info? 164).map (·.size) = some 14 := by kernel_rfl
set_option maxRecDepth 100000 in
set_option maxHeartbeats 16000000 in
theorem happen2 (B : Bk) (E : Ev) (N A : Nat) (a1 a2 a3 : Option Addr) (k1 k2 k3 : Nat) (w : World) (hF : Fit B) (hE : E.sized) (hn : B.now ≤ 1000000) (hN : N ≤ w.heap.size) (hV : BkVar w N A B a1 a2 a3 k1 k2 k3) :
  Calls Tryz.prog 90 #[.iface 164 (.agg #[.pointer (some ⟨A, 0, none⟩), .string E.service.name, .int .i64 E.service.version, .bool E.service.gone, .int .i64 E.service.image, .int .i64 E.service.want, .int .i64 E.service.down, .int .i64 E.service.over, .int .i64 E.service.next, .int .i64 E.service.per, .int .i64 E.service.least, .int .i64 E.service.most, .int .i64 E.service.load, .int .i64 E.service.cool]), .int .i64 B.now] w fun e w' => e = .returned (.int .i64 (codeOf (wishB B E.service B.now, 0))) ∧ (∃ b1 b2 b3 d1 d2 d3, BkVar w' N A (wishB B E.service B.now) b1 b2 b3 d1 d2 d3) ∧ Below N w w' := by
 obtain ⟨cd, HCD⟩ : ∃ cd : Int, Hid ((codeOf (wishB B E.service B.now, 0)) = cd) := ⟨_, rfl⟩
 rw [show (codeOf (wishB B E.service B.now, 0)) = cd from HCD.out]
 obtain ⟨w1, hw1⟩ : ∃ W, w.alloc (.cells #[.pointer none, .string ⟨#[]⟩, .int .i64 0, .bool false, .int .i64 0, .int .i64 0, .int .i64 0, .int .i64 0, .int .i64 0, .int .i64 0, .int .i64 0, .int .i64 0, .int .i64 0, .int .i64 0] 164) = W := ⟨_, rfl⟩
 have hb1 := below_box w (.cells #[.pointer none, .string ⟨#[]⟩, .int .i64 0, .bool false, .int .i64 0, .int .i64 0, .int .i64 0, .int .i64 0, .int .i64 0, .int .i64 0, .int .i64 0, .int .i64 0, .int .i64 0, .int .i64 0] 164)
 obtain ⟨sb, hsbe⟩ : ∃ q, w.heap.size = q := ⟨_, rfl⟩
 have S1 : Hid (w1.heap[sb]? = some (.cells #[.pointer none, .string ⟨#[]⟩, .int .i64 0, .bool false, .int .i64 0, .int .i64 0, .int .i64 0, .int .i64 0, .int .i64 0, .int .i64 0, .int .i64 0, .int .i64 0, .int .i64 0, .int .i64 0] 164 (0, 0))) := by unfold Hid; rw [← hw1, ← hsbe]; exact heap_alloc_new w (.cells #[.pointer none, .string ⟨#[]⟩, .int .i64 0, .bool false, .int .i64 0, .int .i64 0, .int .i64 0, .int .i64 0, .int .i64 0, .int .i64 0, .int .i64 0, .int .i64 0, .int .i64 0, .int .i64 0] 164)
 rw [hw1] at hb1
 have hsb : w.heap.size ≤ sb := by omega
 have hsb' : sb ≤ w.heap.size := by omega
 have V := hidBkVar hV
 clear hV
 have ta1 : ∀ (v : Value) (w : World), (Instr.typeAssert (.iface 164 v) 20 162 true).run Tryz.prog w = .ok (.tuple #[.agg #[.pointer none], .bool false]) w := fun v w => by kernel_rfl
 have ta2 : ∀ (v : Value) (w : World), (Instr.typeAssert (.iface 164 v) 20 164 true).run Tryz.prog w = .ok (.tuple #[v, .bool true]) w := fun v w => by kernel_rfl
 go_enter Tryz.func90, Tryz.ntmps90
 go_upto_region 9 with fail
 go_upto_region 11 with (refine wpList_store_only rfl 164 (.tmp 6) (.tmp 25) rfl sb 0 #[.pointer (some ⟨A, 0, none⟩), .string E.service.name, .int .i64 E.service.version, .bool E.service.gone, .int .i64 E.service.image, .int .i64 E.service.want, .int .i64 E.service.down, .int .i64 E.service.over, .int .i64 E.service.next, .int .i64 E.service.per, .int .i64 E.service.least, .int .i64 E.service.most, .int .i64 E.service.load, .int .i64 E.service.cool] rfl rfl 164 #[.pointer none, .string ⟨#[]⟩, .int .i64 0, .bool false, .int .i64 0, .int .i64 0, .int .i64 0, .int .i64 0, .int .i64 0, .int .i64 0, .int .i64 0, .int .i64 0, .int .i64 0, .int .i64 0] S1.out Tryz.infosEvt2 (Nat.le_of_ble_eq_true rfl) (by simp [Value.oneCell']) ?_; intro w2 hz on; have S2 : Hid (w2.heap[sb]? = some (.cells #[.pointer (some ⟨A, 0, none⟩), .string E.service.name, .int .i64 E.service.version, .bool E.service.gone, .int .i64 E.service.image, .int .i64 E.service.want, .int .i64 E.service.down, .int .i64 E.service.over, .int .i64 E.service.next, .int .i64 E.service.per, .int .i64 E.service.least, .int .i64 E.service.most, .int .i64 E.service.load, .int .i64 E.service.cool] 164 (0, 0))) := hz; have hb2 : Below w.heap.size w w2 := hb1.trans (on.below.mono' hsb); clear hz on)
 clear hw1 hsbe S1 hb1
 have V2 := hidBkVar (V.out.below hb2)
 have HNN : Hid (N ≤ w2.heap.size) := Nat.le_trans hN hb2.size
 clear V
 have s0 := blk_cell S2.out 0 rfl
 have s1 := blk_cell S2.out 1 rfl
 have s2 := blk_cell S2.out 2 rfl
 have s3 := blk_cell S2.out 3 rfl
 have s4 := blk_cell S2.out 4 rfl
 have s5 := blk_cell S2.out 5 rfl
 have s6 := blk_cell S2.out 6 rfl
 have s7 := blk_cell S2.out 7 rfl
 have s8 := blk_cell S2.out 8 rfl
 have s9 := blk_cell S2.out 9 rfl
 have s10 := blk_cell S2.out 10 rfl
 have s11 := blk_cell S2.out 11 rfl
 have s12 := blk_cell S2.out 12 rfl
 have s13 := blk_cell S2.out 13 rfl
 go_wp2_with fail
 refine (put_any B E.service N A a1 a2 a3 k1 k2 k3 w2 hF hE.1 HNN.out V2.out).mono ?_
 rintro e w3 ⟨rfl, hv3, hb3⟩
 have HV3 : Hid (∃ b1 b2 b3 d1 d2 d3, BkVar w3 N A (wishB B E.service B.now) b1 b2 b3 d1 d2 d3) := hv3
 have hb4 := (hb2.mono' hN).trans hb3
 clear hv3 hb3 hb2 V2 S2 s0 s1 s2 s3 s4 s5 s6 s7 s8 s9 s10 s11 s12 s13
 rw [show (codeOf (wishB B E.service B.now, 0)) = cd from HCD.out]
 go_wp2
 go_ret
 exact ⟨rfl, HV3.out, hb4⟩
theorem Tryz.infosEvt3 : (Tryz.prog.info? 169).map (·.size) = some 3 := by kernel_rfl
set_option maxRecDepth 100000 in
set_option maxHeartbeats 16000000 in
theorem happen3 (B : Bk) (E : Ev) (N A : Nat) (a1 a2 a3 : Option Addr) (k1 k2 k3 : Nat) (w : World) (hF : Fit B) (hwc : wfC B) (huc : uniqC B) (hwf : (Lit.int .i64 E.number).wf = true) (hE : E.sized) (hn : B.now ≤ 1000000) (hN : N ≤ w.heap.size) (hV : BkVar w N A B a1 a2 a3 k1 k2 k3) :
  Calls Tryz.prog 90 #[.iface 169 (.agg #[.pointer (some ⟨A, 0, none⟩), .string E.name, .int .i64 E.number]), .int .i64 B.now] w fun e w' => e = .returned (.int .i64 ((failB B E.name E.number B.now).2)) ∧ ((failB B E.name E.number B.now).2 = 0 → ∃ b1 b2 b3 d1 d2 d3, BkVar w' N A ((failB B E.name E.number B.now).1) b1 b2 b3 d1 d2 d3) ∧ Below N w w' := by
 obtain ⟨cd, HCD⟩ : ∃ cd : Int, Hid (((failB B E.name E.number B.now).2) = cd) := ⟨_, rfl⟩
 rw [show ((failB B E.name E.number B.now).2) = cd from HCD.out]
 obtain ⟨w1, hw1⟩ : ∃ W, w.alloc (.cells #[.pointer none, .string ⟨#[]⟩, .int .i64 0] 169) = W := ⟨_, rfl⟩
 have hb1 := below_box w (.cells #[.pointer none, .string ⟨#[]⟩, .int .i64 0] 169)
 obtain ⟨sb, hsbe⟩ : ∃ q, w.heap.size = q := ⟨_, rfl⟩
 have S1 : Hid (w1.heap[sb]? = some (.cells #[.pointer none, .string ⟨#[]⟩, .int .i64 0] 169 (0, 0))) := by unfold Hid; rw [← hw1, ← hsbe]; exact heap_alloc_new w (.cells #[.pointer none, .string ⟨#[]⟩, .int .i64 0] 169)
 rw [hw1] at hb1
 have hsb : w.heap.size ≤ sb := by omega
 have hsb' : sb ≤ w.heap.size := by omega
 have V := hidBkVar hV
 clear hV
 have ta1 : ∀ (v : Value) (w : World), (Instr.typeAssert (.iface 169 v) 20 162 true).run Tryz.prog w = .ok (.tuple #[.agg #[.pointer none], .bool false]) w := fun v w => by kernel_rfl
 have ta2 : ∀ (v : Value) (w : World), (Instr.typeAssert (.iface 169 v) 20 164 true).run Tryz.prog w = .ok (.tuple #[.agg #[.pointer none, .string ⟨#[]⟩, .int .i64 0, .bool false, .int .i64 0, .int .i64 0, .int .i64 0, .int .i64 0, .int .i64 0, .int .i64 0, .int .i64 0, .int .i64 0, .int .i64 0, .int .i64 0], .bool false]) w := fun v w => by kernel_rfl
 have ta3 : ∀ (v : Value) (w : World), (Instr.typeAssert (.iface 169 v) 20 169 true).run Tryz.prog w = .ok (.tuple #[v, .bool true]) w := fun v w => by kernel_rfl
 go_enter Tryz.func90, Tryz.ntmps90
 go_upto_region 12 with fail
 go_upto_region 14 with (refine wpList_store_only rfl 169 (.tmp 7) (.tmp 30) rfl sb 0 #[.pointer (some ⟨A, 0, none⟩), .string E.name, .int .i64 E.number] rfl rfl 169 #[.pointer none, .string ⟨#[]⟩, .int .i64 0] S1.out Tryz.infosEvt3 (Nat.le_of_ble_eq_true rfl) (by simp [Value.oneCell']) ?_; intro w2 hz on; have S2 : Hid (w2.heap[sb]? = some (.cells #[.pointer (some ⟨A, 0, none⟩), .string E.name, .int .i64 E.number] 169 (0, 0))) := hz; have hb2 : Below w.heap.size w w2 := hb1.trans (on.below.mono' hsb); clear hz on)
 clear hw1 hsbe S1 hb1
 have V2 := hidBkVar (V.out.below hb2)
 have HNN : Hid (N ≤ w2.heap.size) := Nat.le_trans hN hb2.size
 clear V
 have s0 := blk_cell S2.out 0 rfl
 have s1 := blk_cell S2.out 1 rfl
 have s2 := blk_cell S2.out 2 rfl
 go_wp2_with fail
 refine (strike_any B E.name E.number N A a1 a2 a3 k1 k2 k3 w2 hF hwc huc hwf hE.2 HNN.out V2.out).mono ?_
 rintro e w3 ⟨rfl, hv3, hb3⟩
 rw [HCD.out] at hv3
 have HV3 : Hid (cd = 0 → ∃ b1 b2 b3 d1 d2 d3, BkVar w3 N A ((failB B E.name E.number B.now).1) b1 b2 b3 d1 d2 d3) := hv3
 have hb4 := (hb2.mono' hN).trans hb3
 clear hv3 hb3 hb2 V2 S2 s0 s1 s2
 rw [show ((failB B E.name E.number B.now).2) = cd from HCD.out]
 go_wp2
 go_ret
 exact ⟨rfl, HV3.out, hb4⟩
theorem Tryz.infosEvt4 : (Tryz.prog.info? 171).map (·.size) = some 2 := by kernel_rfl
set_option maxRecDepth 100000 in
set_option maxHeartbeats 16000000 in
theorem happen4 (B : Bk) (E : Ev) (N A : Nat) (a1 a2 a3 : Option Addr) (k1 k2 k3 : Nat) (w : World) (hF : Fit B) (hE : E.sized) (hn : B.now ≤ 1000000) (hN : N ≤ w.heap.size) (hV : BkVar w N A B a1 a2 a3 k1 k2 k3) :
  Calls Tryz.prog 90 #[.iface 171 (.agg #[.pointer (some ⟨A, 0, none⟩), .string E.name]), .int .i64 B.now] w fun e w' => e = .returned (.int .i64 ((sinkB B E.name B.now).2)) ∧ ((sinkB B E.name B.now).2 = 0 → ∃ b1 b2 b3 d1 d2 d3, BkVar w' N A ((sinkB B E.name B.now).1) b1 b2 b3 d1 d2 d3) ∧ Below N w w' := by
 obtain ⟨cd, HCD⟩ : ∃ cd : Int, Hid (((sinkB B E.name B.now).2) = cd) := ⟨_, rfl⟩
 rw [show ((sinkB B E.name B.now).2) = cd from HCD.out]
 obtain ⟨w1, hw1⟩ : ∃ W, w.alloc (.cells #[.pointer none, .string ⟨#[]⟩] 171) = W := ⟨_, rfl⟩
 have hb1 := below_box w (.cells #[.pointer none, .string ⟨#[]⟩] 171)
 obtain ⟨sb, hsbe⟩ : ∃ q, w.heap.size = q := ⟨_, rfl⟩
 have S1 : Hid (w1.heap[sb]? = some (.cells #[.pointer none, .string ⟨#[]⟩] 171 (0, 0))) := by unfold Hid; rw [← hw1, ← hsbe]; exact heap_alloc_new w (.cells #[.pointer none, .string ⟨#[]⟩] 171)
 rw [hw1] at hb1
 have hsb : w.heap.size ≤ sb := by omega
 have hsb' : sb ≤ w.heap.size := by omega
 have V := hidBkVar hV
 clear hV
 have ta1 : ∀ (v : Value) (w : World), (Instr.typeAssert (.iface 171 v) 20 162 true).run Tryz.prog w = .ok (.tuple #[.agg #[.pointer none], .bool false]) w := fun v w => by kernel_rfl
 have ta2 : ∀ (v : Value) (w : World), (Instr.typeAssert (.iface 171 v) 20 164 true).run Tryz.prog w = .ok (.tuple #[.agg #[.pointer none, .string ⟨#[]⟩, .int .i64 0, .bool false, .int .i64 0, .int .i64 0, .int .i64 0, .int .i64 0, .int .i64 0, .int .i64 0, .int .i64 0, .int .i64 0, .int .i64 0, .int .i64 0], .bool false]) w := fun v w => by kernel_rfl
 have ta3 : ∀ (v : Value) (w : World), (Instr.typeAssert (.iface 171 v) 20 169 true).run Tryz.prog w = .ok (.tuple #[.agg #[.pointer none, .string ⟨#[]⟩, .int .i64 0], .bool false]) w := fun v w => by kernel_rfl
 have ta4 : ∀ (v : Value) (w : World), (Instr.typeAssert (.iface 171 v) 20 171 true).run Tryz.prog w = .ok (.tuple #[v, .bool true]) w := fun v w => by kernel_rfl
 go_enter Tryz.func90, Tryz.ntmps90
 go_upto_region 15 with fail
 go_upto_region 17 with (refine wpList_store_only rfl 171 (.tmp 8) (.tmp 35) rfl sb 0 #[.pointer (some ⟨A, 0, none⟩), .string E.name] rfl rfl 171 #[.pointer none, .string ⟨#[]⟩] S1.out Tryz.infosEvt4 (Nat.le_of_ble_eq_true rfl) (by simp [Value.oneCell']) ?_; intro w2 hz on; have S2 : Hid (w2.heap[sb]? = some (.cells #[.pointer (some ⟨A, 0, none⟩), .string E.name] 171 (0, 0))) := hz; have hb2 : Below w.heap.size w w2 := hb1.trans (on.below.mono' hsb); clear hz on)
 clear hw1 hsbe S1 hb1
 have V2 := hidBkVar (V.out.below hb2)
 have HNN : Hid (N ≤ w2.heap.size) := Nat.le_trans hN hb2.size
 clear V
 have s0 := blk_cell S2.out 0 rfl
 have s1 := blk_cell S2.out 1 rfl
 go_wp2_with fail
 refine (sink_any B E.name N A a1 a2 a3 k1 k2 k3 w2 hF hE.2 HNN.out V2.out).mono ?_
 rintro e w3 ⟨rfl, hv3, hb3⟩
 rw [HCD.out] at hv3
 have HV3 : Hid (cd = 0 → ∃ b1 b2 b3 d1 d2 d3, BkVar w3 N A ((sinkB B E.name B.now).1) b1 b2 b3 d1 d2 d3) := hv3
 have hb4 := (hb2.mono' hN).trans hb3
 clear hv3 hb3 hb2 V2 S2 s0 s1
 rw [show ((sinkB B E.name B.now).2) = cd from HCD.out]
 go_wp2
 go_ret
 exact ⟨rfl, HV3.out, hb4⟩
theorem Tryz.infosEvt5 : (Tryz.prog.info? 173).map (·.size) = some 3 := by kernel_rfl
set_option maxRecDepth 100000 in
set_option maxHeartbeats 16000000 in
theorem happen5 (B : Bk) (E : Ev) (N A : Nat) (a1 a2 a3 : Option Addr) (k1 k2 k3 : Nat) (w : World) (hF : Fit B) (hE : E.sized) (hn : B.now ≤ 1000000) (hN : N ≤ w.heap.size) (hV : BkVar w N A B a1 a2 a3 k1 k2 k3) :
  Calls Tryz.prog 90 #[.iface 173 (.agg #[.pointer (some ⟨A, 0, none⟩), .string E.name, .bool E.flag]), .int .i64 B.now] w fun e w' => e = .returned (.int .i64 (if validB (raiseB B E.name E.flag) = true then 0 else 2)) ∧ (∃ b1 b2 b3 d1 d2 d3, BkVar w' N A (raiseB B E.name E.flag) b1 b2 b3 d1 d2 d3) ∧ Below N w w' := by
 obtain ⟨cd, HCD⟩ : ∃ cd : Int, Hid ((if validB (raiseB B E.name E.flag) = true then 0 else 2) = cd) := ⟨_, rfl⟩
 rw [show (if validB (raiseB B E.name E.flag) = true then 0 else 2) = cd from HCD.out]
 obtain ⟨w1, hw1⟩ : ∃ W, w.alloc (.cells #[.pointer none, .string ⟨#[]⟩, .bool false] 173) = W := ⟨_, rfl⟩
 have hb1 := below_box w (.cells #[.pointer none, .string ⟨#[]⟩, .bool false] 173)
 obtain ⟨sb, hsbe⟩ : ∃ q, w.heap.size = q := ⟨_, rfl⟩
 have S1 : Hid (w1.heap[sb]? = some (.cells #[.pointer none, .string ⟨#[]⟩, .bool false] 173 (0, 0))) := by unfold Hid; rw [← hw1, ← hsbe]; exact heap_alloc_new w (.cells #[.pointer none, .string ⟨#[]⟩, .bool false] 173)
 rw [hw1] at hb1
 have hsb : w.heap.size ≤ sb := by omega
 have hsb' : sb ≤ w.heap.size := by omega
 have V := hidBkVar hV
 clear hV
 have ta1 : ∀ (v : Value) (w : World), (Instr.typeAssert (.iface 173 v) 20 162 true).run Tryz.prog w = .ok (.tuple #[.agg #[.pointer none], .bool false]) w := fun v w => by kernel_rfl
 have ta2 : ∀ (v : Value) (w : World), (Instr.typeAssert (.iface 173 v) 20 164 true).run Tryz.prog w = .ok (.tuple #[.agg #[.pointer none, .string ⟨#[]⟩, .int .i64 0, .bool false, .int .i64 0, .int .i64 0, .int .i64 0, .int .i64 0, .int .i64 0, .int .i64 0, .int .i64 0, .int .i64 0, .int .i64 0, .int .i64 0], .bool false]) w := fun v w => by kernel_rfl
 have ta3 : ∀ (v : Value) (w : World), (Instr.typeAssert (.iface 173 v) 20 169 true).run Tryz.prog w = .ok (.tuple #[.agg #[.pointer none, .string ⟨#[]⟩, .int .i64 0], .bool false]) w := fun v w => by kernel_rfl
 have ta4 : ∀ (v : Value) (w : World), (Instr.typeAssert (.iface 173 v) 20 171 true).run Tryz.prog w = .ok (.tuple #[.agg #[.pointer none, .string ⟨#[]⟩], .bool false]) w := fun v w => by kernel_rfl
 have ta5 : ∀ (v : Value) (w : World), (Instr.typeAssert (.iface 173 v) 20 173 true).run Tryz.prog w = .ok (.tuple #[v, .bool true]) w := fun v w => by kernel_rfl
 go_enter Tryz.func90, Tryz.ntmps90
 go_upto_region 18 with fail
 go_upto_region 20 with (refine wpList_store_only rfl 173 (.tmp 9) (.tmp 40) rfl sb 0 #[.pointer (some ⟨A, 0, none⟩), .string E.name, .bool E.flag] rfl rfl 173 #[.pointer none, .string ⟨#[]⟩, .bool false] S1.out Tryz.infosEvt5 (Nat.le_of_ble_eq_true rfl) (by simp [Value.oneCell']) ?_; intro w2 hz on; have S2 : Hid (w2.heap[sb]? = some (.cells #[.pointer (some ⟨A, 0, none⟩), .string E.name, .bool E.flag] 173 (0, 0))) := hz; have hb2 : Below w.heap.size w w2 := hb1.trans (on.below.mono' hsb); clear hz on)
 clear hw1 hsbe S1 hb1
 have V2 := hidBkVar (V.out.below hb2)
 have HNN : Hid (N ≤ w2.heap.size) := Nat.le_trans hN hb2.size
 clear V
 have s0 := blk_cell S2.out 0 rfl
 have s1 := blk_cell S2.out 1 rfl
 have s2 := blk_cell S2.out 2 rfl
 go_wp2_with fail
 refine (raise_any B E.name E.flag N A a1 a2 a3 k1 k2 k3 w2 hF hE.2 HNN.out V2.out).mono ?_
 rintro e w3 ⟨rfl, hv3, hb3⟩
 have HV3 : Hid (∃ b1 b2 b3 d1 d2 d3, BkVar w3 N A (raiseB B E.name E.flag) b1 b2 b3 d1 d2 d3) := hv3
 have hb4 := (hb2.mono' hN).trans hb3
 clear hv3 hb3 hb2 V2 S2 s0 s1 s2
 rw [show (if validB (raiseB B E.name E.flag) = true then 0 else 2) = cd from HCD.out]
 go_wp2
 go_ret
 exact ⟨rfl, HV3.out, hb4⟩
theorem Tryz.infosEvt6 : (Tryz.prog.info? 175).map (·.size) = some 3 := by kernel_rfl
set_option maxRecDepth 100000 in
set_option maxHeartbeats 16000000 in
theorem happen6 (B : Bk) (E : Ev) (N A : Nat) (a1 a2 a3 : Option Addr) (k1 k2 k3 : Nat) (w : World) (hF : Fit B) (hE : E.sized) (hn : B.now ≤ 1000000) (hN : N ≤ w.heap.size) (hV : BkVar w N A B a1 a2 a3 k1 k2 k3) :
  Calls Tryz.prog 90 #[.iface 175 (.agg #[.pointer (some ⟨A, 0, none⟩), .string E.name, .int .i64 E.number]), .int .i64 B.now] w fun e w' => e = .returned (.int .i64 (codeOf (loadB B E.name E.number B.now))) ∧ ((loadB B E.name E.number B.now).2 = 0 → ∃ b1 b2 b3 d1 d2 d3, BkVar w' N A ((loadB B E.name E.number B.now).1) b1 b2 b3 d1 d2 d3) ∧ Below N w w' := by
 obtain ⟨cd, HCD⟩ : ∃ cd : Int, Hid ((codeOf (loadB B E.name E.number B.now)) = cd) := ⟨_, rfl⟩
 rw [show (codeOf (loadB B E.name E.number B.now)) = cd from HCD.out]
 obtain ⟨w1, hw1⟩ : ∃ W, w.alloc (.cells #[.pointer none, .string ⟨#[]⟩, .int .i64 0] 175) = W := ⟨_, rfl⟩
 have hb1 := below_box w (.cells #[.pointer none, .string ⟨#[]⟩, .int .i64 0] 175)
 obtain ⟨sb, hsbe⟩ : ∃ q, w.heap.size = q := ⟨_, rfl⟩
 have S1 : Hid (w1.heap[sb]? = some (.cells #[.pointer none, .string ⟨#[]⟩, .int .i64 0] 175 (0, 0))) := by unfold Hid; rw [← hw1, ← hsbe]; exact heap_alloc_new w (.cells #[.pointer none, .string ⟨#[]⟩, .int .i64 0] 175)
 rw [hw1] at hb1
 have hsb : w.heap.size ≤ sb := by omega
 have hsb' : sb ≤ w.heap.size := by omega
 have V := hidBkVar hV
 clear hV
 have ta1 : ∀ (v : Value) (w : World), (Instr.typeAssert (.iface 175 v) 20 162 true).run Tryz.prog w = .ok (.tuple #[.agg #[.pointer none], .bool false]) w := fun v w => by kernel_rfl
 have ta2 : ∀ (v : Value) (w : World), (Instr.typeAssert (.iface 175 v) 20 164 true).run Tryz.prog w = .ok (.tuple #[.agg #[.pointer none, .string ⟨#[]⟩, .int .i64 0, .bool false, .int .i64 0, .int .i64 0, .int .i64 0, .int .i64 0, .int .i64 0, .int .i64 0, .int .i64 0, .int .i64 0, .int .i64 0, .int .i64 0], .bool false]) w := fun v w => by kernel_rfl
 have ta3 : ∀ (v : Value) (w : World), (Instr.typeAssert (.iface 175 v) 20 169 true).run Tryz.prog w = .ok (.tuple #[.agg #[.pointer none, .string ⟨#[]⟩, .int .i64 0], .bool false]) w := fun v w => by kernel_rfl
 have ta4 : ∀ (v : Value) (w : World), (Instr.typeAssert (.iface 175 v) 20 171 true).run Tryz.prog w = .ok (.tuple #[.agg #[.pointer none, .string ⟨#[]⟩], .bool false]) w := fun v w => by kernel_rfl
 have ta5 : ∀ (v : Value) (w : World), (Instr.typeAssert (.iface 175 v) 20 173 true).run Tryz.prog w = .ok (.tuple #[.agg #[.pointer none, .string ⟨#[]⟩, .bool false], .bool false]) w := fun v w => by kernel_rfl
 have ta6 : ∀ (v : Value) (w : World), (Instr.typeAssert (.iface 175 v) 20 175 true).run Tryz.prog w = .ok (.tuple #[v, .bool true]) w := fun v w => by kernel_rfl
 go_enter Tryz.func90, Tryz.ntmps90
 go_upto_region 21 with fail
 go_upto_region 23 with (refine wpList_store_only rfl 175 (.tmp 10) (.tmp 45) rfl sb 0 #[.pointer (some ⟨A, 0, none⟩), .string E.name, .int .i64 E.number] rfl rfl 175 #[.pointer none, .string ⟨#[]⟩, .int .i64 0] S1.out Tryz.infosEvt6 (Nat.le_of_ble_eq_true rfl) (by simp [Value.oneCell']) ?_; intro w2 hz on; have S2 : Hid (w2.heap[sb]? = some (.cells #[.pointer (some ⟨A, 0, none⟩), .string E.name, .int .i64 E.number] 175 (0, 0))) := hz; have hb2 : Below w.heap.size w w2 := hb1.trans (on.below.mono' hsb); clear hz on)
 clear hw1 hsbe S1 hb1
 have V2 := hidBkVar (V.out.below hb2)
 have HNN : Hid (N ≤ w2.heap.size) := Nat.le_trans hN hb2.size
 clear V
 have s0 := blk_cell S2.out 0 rfl
 have s1 := blk_cell S2.out 1 rfl
 have s2 := blk_cell S2.out 2 rfl
 go_wp2_with fail
 refine (load_any B E.name E.number N A a1 a2 a3 k1 k2 k3 w2 hF hE.2 HNN.out V2.out).mono ?_
 rintro e w3 ⟨rfl, hv3, hb3⟩
 have HV3 : Hid ((loadB B E.name E.number B.now).2 = 0 → ∃ b1 b2 b3 d1 d2 d3, BkVar w3 N A ((loadB B E.name E.number B.now).1) b1 b2 b3 d1 d2 d3) := hv3
 have hb4 := (hb2.mono' hN).trans hb3
 clear hv3 hb3 hb2 V2 S2 s0 s1 s2
 rw [show (codeOf (loadB B E.name E.number B.now)) = cd from HCD.out]
 go_wp2
 go_ret
 exact ⟨rfl, HV3.out, hb4⟩
set_option maxRecDepth 100000 in
set_option maxHeartbeats 16000000 in
theorem happenNil (v : Int) (w : World) : Calls Tryz.prog 90 #[.nilIface, .int .i64 v] w fun e w' => e = .returned (.int .i64 4) ∧ Below w.heap.size w w' := by
 have hb0 := Below.refl w.heap.size w
 go_enter Tryz.func90, Tryz.ntmps90
 go_wp2
 go_ret
 exact ⟨rfl, hb0⟩
set_option maxRecDepth 100000 in
set_option maxHeartbeats 16000000 in
theorem happenFull (t : TypeId) (l : Array Value) (v : Int) (w : World) (hv : 1000000 < v) : Calls Tryz.prog 90 #[.iface t (.agg l), .int .i64 v] w fun e w' => e = .returned (.int .i64 7) ∧ Below w.heap.size w w' := by
 have hb0 := Below.refl w.heap.size w
 go_enter Tryz.func90, Tryz.ntmps90
 go_wp2
 go_ret
 exact ⟨rfl, hb0⟩
end Go.Proofs.YtbceafpodamnfabGreat

namespace Go.Proofs.YtbceafpodamnfabGreat
open Go.RowKit Go.Sort
def aft (B : Bk) : Bk := { B with now := B.now + 1 }
def evV (E : Ev) (A : Nat) : Value := if E.kind = 1 then .iface 162 (.agg #[.pointer (some ⟨A, 0, none⟩)]) else if E.kind = 2 then .iface 164 (.agg #[.pointer (some ⟨A, 0, none⟩), .string E.service.name, .int .i64 E.service.version, .bool E.service.gone, .int .i64 E.service.image, .int .i64 E.service.want, .int .i64 E.service.down, .int .i64 E.service.over, .int .i64 E.service.next, .int .i64 E.service.per, .int .i64 E.service.least, .int .i64 E.service.most, .int .i64 E.service.load, .int .i64 E.service.cool]) else if E.kind = 3 then .iface 169 (.agg #[.pointer (some ⟨A, 0, none⟩), .string E.name, .int .i64 E.number]) else if E.kind = 4 then .iface 171 (.agg #[.pointer (some ⟨A, 0, none⟩), .string E.name]) else if E.kind = 5 then .iface 173 (.agg #[.pointer (some ⟨A, 0, none⟩), .string E.name, .bool E.flag]) else if E.kind = 6 then .iface 175 (.agg #[.pointer (some ⟨A, 0, none⟩), .string E.name, .int .i64 E.number]) else .nilIface
def hapO (B : Bk) (E : Ev) : Bk × Int :=
 if E.kind = 1 then (tickB B B.now, 0)
 else if E.kind = 2 then (wishB B E.service B.now, codeOf (wishB B E.service B.now, 0))
 else if E.kind = 3 then failB B E.name E.number B.now
 else if E.kind = 4 then sinkB B E.name B.now
 else if E.kind = 5 then (raiseB B E.name E.flag, if validB (raiseB B E.name E.flag) = true then 0 else 2)
 else if E.kind = 6 then ((loadB B E.name E.number B.now).1, codeOf (loadB B E.name E.number B.now))
 else (B, 4)
def hapB (B : Bk) (E : Ev) : Bk × Int := if 1000000 < B.now then (B, if inB E.kind 1 6 = true then 7 else 4) else hapO B E
def befB (B : Bk) (E : Ev) : Bk := if (hapB (aft B) E).2 = 0 then (hapB (aft B) E).1 else B
theorem codeOf_zero {p : Bk × Int} (h : codeOf p = 0) : p.2 = 0 := by
 unfold codeOf at h
 split at h
 ·assumption
 ·exact h
theorem eventOf_any (E : Ev) (A : Nat) (w : World) :
  Calls Tryz.prog 91 #[.agg #[.int .i64 E.kind, .string E.service.name, .int .i64 E.service.version, .bool E.service.gone, .int .i64 E.service.image, .int .i64 E.service.want, .int .i64 E.service.down, .int .i64 E.service.over, .int .i64 E.service.next, .int .i64 E.service.per, .int .i64 E.service.least, .int .i64 E.service.most, .int .i64 E.service.load, .int .i64 E.service.cool, .string E.name, .int .i64 E.number, .bool E.flag], .agg #[.pointer (some ⟨A, 0, none⟩)]] w fun e w' => e = .returned (evV E A) ∧ Below w.heap.size w w' := by
 obtain ⟨kd, sv, nm, num, fl⟩ := E
 by_cases h1 : kd = 1
 ·subst h1; exact eventOf1 ⟨1, sv, nm, num, fl⟩ A w
 by_cases h2 : kd = 2
 ·subst h2; exact eventOf2 ⟨2, sv, nm, num, fl⟩ A w
 by_cases h3 : kd = 3
 ·subst h3; exact eventOf3 ⟨3, sv, nm, num, fl⟩ A w
 by_cases h4 : kd = 4
 ·subst h4; exact eventOf4 ⟨4, sv, nm, num, fl⟩ A w
 by_cases h5 : kd = 5
 ·subst h5; exact eventOf5 ⟨5, sv, nm, num, fl⟩ A w
 by_cases h6 : kd = 6
 ·subst h6; exact eventOf6 ⟨6, sv, nm, num, fl⟩ A w
 have e : evV ⟨kd, sv, nm, num, fl⟩ A = .nilIface := by unfold evV; simp only [if_neg h1, if_neg h2, if_neg h3, if_neg h4, if_neg h5, if_neg h6]
 rw [e]
 exact eventOf0 ⟨kd, sv, nm, num, fl⟩ A w h1 h2 h3 h4 h5 h6
theorem happen_any (B : Bk) (E : Ev) (N A : Nat) (a1 a2 a3 : Option Addr) (k1 k2 k3 : Nat) (w : World) (hF : Fit B) (hP : Placed B) (hwc : wfC B) (huc : uniqC B) (hwf : (Lit.int .i64 E.number).wf = true) (hE : E.sized) (hN : N ≤ w.heap.size) (hV : BkVar w N A B a1 a2 a3 k1 k2 k3) :
  Calls Tryz.prog 90 #[evV E A, .int .i64 B.now] w fun e w' => e = .returned (.int .i64 (hapB B E).2) ∧ ((hapB B E).2 = 0 → ∃ b1 b2 b3 d1 d2 d3, BkVar w' N A (hapB B E).1 b1 b2 b3 d1 d2 d3) ∧ Below N w w' := by
 obtain ⟨kd, sv, nm, num, fl⟩ := E
 by_cases hn : 1000000 < B.now
 ·have hb : hapB B ⟨kd, sv, nm, num, fl⟩ = (B, if inB kd 1 6 = true then 7 else 4) := by unfold hapB; rw [if_pos hn]
  rw [hb]
  by_cases hk : inB kd 1 6 = true
  ·rw [if_pos hk]
   have hk' : 1 ≤ kd ∧ kd ≤ 6 := by simpa [inB] using hk
   have : ∃ t l, evV ⟨kd, sv, nm, num, fl⟩ A = .iface t (.agg l) := by
    unfold evV
    by_cases h1 : kd = 1
    ·exact ⟨_, _, by rw [if_pos h1]⟩
    by_cases h2 : kd = 2
    ·exact ⟨_, _, by rw [if_neg h1, if_pos h2]⟩
    by_cases h3 : kd = 3
    ·exact ⟨_, _, by rw [if_neg h1, if_neg h2, if_pos h3]⟩
    by_cases h4 : kd = 4
    ·exact ⟨_, _, by rw [if_neg h1, if_neg h2, if_neg h3, if_pos h4]⟩
    by_cases h5 : kd = 5
    ·exact ⟨_, _, by rw [if_neg h1, if_neg h2, if_neg h3, if_neg h4, if_pos h5]⟩
    exact ⟨_, _, by rw [if_neg h1, if_neg h2, if_neg h3, if_neg h4, if_neg h5, if_pos (by show kd = 6; omega)]⟩
   obtain ⟨t, l, e⟩ := this
   rw [e]
   exact (happenFull t l B.now w hn).mono fun e w' h => ⟨h.1, fun h0 => by simp at h0, h.2.mono' hN⟩
  ·rw [if_neg hk]
   have hk' : ¬ (1 ≤ kd ∧ kd ≤ 6) := by simpa [inB] using hk
   have e : evV ⟨kd, sv, nm, num, fl⟩ A = .nilIface := by
    unfold evV
    rw [if_neg (by show kd ≠ 1; omega), if_neg (by show kd ≠ 2; omega), if_neg (by show kd ≠ 3; omega), if_neg (by show kd ≠ 4; omega), if_neg (by show kd ≠ 5; omega), if_neg (by show kd ≠ 6; omega)]
   rw [e]
   exact (happenNil B.now w).mono fun e w' h => ⟨h.1, fun h0 => by simp at h0, h.2.mono' hN⟩
 have hn' : B.now ≤ 1000000 := by omega
 have hb : hapB B ⟨kd, sv, nm, num, fl⟩ = hapO B ⟨kd, sv, nm, num, fl⟩ := by unfold hapB; rw [if_neg hn]
 rw [hb]
 by_cases h1 : kd = 1
 ·subst h1; exact (happen1 B ⟨1, sv, nm, num, fl⟩ N A a1 a2 a3 k1 k2 k3 w hF hP hE hn' hN hV).mono fun e w' h => ⟨h.1, fun _ => h.2.1, h.2.2⟩
 by_cases h2 : kd = 2
 ·subst h2; exact (happen2 B ⟨2, sv, nm, num, fl⟩ N A a1 a2 a3 k1 k2 k3 w hF hE hn' hN hV).mono fun e w' h => ⟨h.1, fun _ => h.2.1, h.2.2⟩
 by_cases h3 : kd = 3
 ·subst h3; exact happen3 B ⟨3, sv, nm, num, fl⟩ N A a1 a2 a3 k1 k2 k3 w hF hwc huc hwf hE hn' hN hV
 by_cases h4 : kd = 4
 ·subst h4; exact happen4 B ⟨4, sv, nm, num, fl⟩ N A a1 a2 a3 k1 k2 k3 w hF hE hn' hN hV
 by_cases h5 : kd = 5
 ·subst h5; exact (happen5 B ⟨5, sv, nm, num, fl⟩ N A a1 a2 a3 k1 k2 k3 w hF hE hn' hN hV).mono fun e w' h => ⟨h.1, fun _ => h.2.1, h.2.2⟩
 by_cases h6 : kd = 6
 ·subst h6; exact (happen6 B ⟨6, sv, nm, num, fl⟩ N A a1 a2 a3 k1 k2 k3 w hF hE hn' hN hV).mono fun e w' h => ⟨h.1, fun h0 => h.2.1 (codeOf_zero h0), h.2.2⟩
 have e : evV ⟨kd, sv, nm, num, fl⟩ A = .nilIface := by unfold evV; simp only [if_neg h1, if_neg h2, if_neg h3, if_neg h4, if_neg h5, if_neg h6]
 have eo : hapO B ⟨kd, sv, nm, num, fl⟩ = (B, 4) := by unfold hapO; simp only [if_neg h1, if_neg h2, if_neg h3, if_neg h4, if_neg h5, if_neg h6]
 rw [e, eo]
 exact (happenNil B.now w).mono fun e w' h => ⟨h.1, fun h0 => by simp at h0, h.2.mono' hN⟩
theorem Tryz.infosEvI : (Tryz.prog.info? 50).map (·.size) = some 17 := by kernel_rfl
set_option maxRecDepth 100000 in
set_option maxHeartbeats 16000000 in
theorem befall_any (B : Bk) (E : Ev) (a1 a2 a3 : Option Addr) (c1 c2 c3 : Nat) (w : World) (hS : B.small) (hn0 : 0 ≤ B.now) (hn9 : B.now ≤ 1000000) (hF : Fit (aft B)) (hP : Placed (aft B)) (hwc : wfC (aft B)) (huc : uniqC (aft B)) (hwf : (Lit.int .i64 E.number).wf = true) (hE : E.sized) (hB : BkAt w a1 a2 a3 B) :
  Calls Tryz.prog 45 #[.agg #[.int .i64 B.now, .slice a1 B.svcs.length c1, .slice a2 B.cps.length c2, .slice a3 B.bts.length c3], .agg #[.int .i64 E.kind, .string E.service.name, .int .i64 E.service.version, .bool E.service.gone, .int .i64 E.service.image, .int .i64 E.service.want, .int .i64 E.service.down, .int .i64 E.service.over, .int .i64 E.service.next, .int .i64 E.service.per, .int .i64 E.service.least, .int .i64 E.service.most, .int .i64 E.service.load, .int .i64 E.service.cool, .string E.name, .int .i64 E.number, .bool E.flag]] w fun e w' => ∃ (x1 x2 x3 : Option Addr) (p1 p2 p3 : Nat), e = .returned (.tuple #[.agg #[.int .i64 (befB B E).now, .slice x1 (befB B E).svcs.length p1, .slice x2 (befB B E).cps.length p2, .slice x3 (befB B E).bts.length p3], .int .i64 (hapB (aft B) E).2]) ∧ BkOf w' w.heap.size (befB B E) x1 x2 x3 p1 p2 p3 ∧ Below w.heap.size w w' := by
 obtain ⟨cd, HCD⟩ : ∃ cd : Int, Hid ((hapB (aft B) E).2 = cd) := ⟨_, rfl⟩
 rw [show (hapB (aft B) E).2 = cd from HCD.out]
 obtain ⟨W0, hW0, t0, t1, t2, hz0, hz0', hb0⟩ := three_newV w (.cells #[.int .i64 B.now, .slice a1 B.svcs.length c1, .slice a2 B.cps.length c2, .slice a3 B.bts.length c3] 34) (.cells #[.int .i64 E.kind, .string E.service.name, .int .i64 E.service.version, .bool E.service.gone, .int .i64 E.service.image, .int .i64 E.service.want, .int .i64 E.service.down, .int .i64 E.service.over, .int .i64 E.service.next, .int .i64 E.service.per, .int .i64 E.service.least, .int .i64 E.service.most, .int .i64 E.service.load, .int .i64 E.service.cool, .string E.name, .int .i64 E.number, .bool E.flag] 50) (.cells #[.int .i64 0, .slice none 0 0, .slice none 0 0, .slice none 0 0] 34)
 have X0 : Hid _ := t0
 have E0 : Hid _ := t1
 have Z0 : Hid _ := t2
 clear t0 t1 t2
 go_enter Tryz.func45, Tryz.ntmps45
 go_upto_region 1 with fail
 clear hW0
 have e0 := blk_cell X0.out 0 rfl
 have e1 := blk_cell X0.out 1 rfl
 have e2 := blk_cell X0.out 2 rfl
 have e3 := blk_cell X0.out 3 rfl
 go_wp2_with fail
 refine (freshBook_any B a1 a2 a3 c1 c2 c3 W0 hS (hB.below hb0)).mono ?_
 rintro e w1 ⟨b1, d1, b2, d2, b3, d3, rfl, hr, hbq⟩
 have HR1 : Hid (BkOf w1 W0.heap.size B b1 b2 b3 d1 d2 d3) := hr
 have hbN1 : Below W0.heap.size W0 w1 := hbq
 clear hr hbq e0 e1 e2 e3
 obtain ⟨w2, hw2⟩ : ∃ W, w1.alloc (.cells #[.int .i64 0, .slice none 0 0, .slice none 0 0, .slice none 0 0] 34) = W := ⟨_, rfl⟩
 have hb2 := below_box w1 (.cells #[.int .i64 0, .slice none 0 0, .slice none 0 0, .slice none 0 0] 34)
 obtain ⟨A, hAe⟩ : ∃ q, w1.heap.size = q := ⟨_, rfl⟩
 have S1 : Hid (w2.heap[A]? = some (.cells #[.int .i64 0, .slice none 0 0, .slice none 0 0, .slice none 0 0] 34 (0, 0))) := by unfold Hid; rw [← hw2, ← hAe]; exact heap_alloc_new w1 (.cells #[.int .i64 0, .slice none 0 0, .slice none 0 0, .slice none 0 0] 34)
 rw [hw2] at hb2
 have hsA : w1.heap.size ≤ A := by omega
 have hsA' : A ≤ w1.heap.size := by omega
 have hNA : W0.heap.size ≤ A := Nat.le_trans hbN1.size hsA
 go_upto_region 2 with (refine wpList_store_only rfl 34 (.tmp 6) (.tmp 9) rfl A 0 #[.int .i64 B.now, .slice b1 B.svcs.length d1, .slice b2 B.cps.length d2, .slice b3 B.bts.length d3] rfl rfl 34 #[.int .i64 0, .slice none 0 0, .slice none 0 0, .slice none 0 0] S1.out Tryz.infosBkX (Nat.le_of_ble_eq_true rfl) (by simp [Value.oneCell']) ?_; intro w3 hz on; have A3 : Hid (w3.heap[A]? = some (.cells #[.int .i64 B.now, .slice b1 B.svcs.length d1, .slice b2 B.cps.length d2, .slice b3 B.bts.length d3] 34 (0, 0))) := hz; have hb3 : Below w1.heap.size w1 w3 := hb2.trans (on.below.mono' hsA); clear hz on)
 clear hw2 hAe S1 hb2
 have HR3 : Hid (BkOf w3 W0.heap.size B b1 b2 b3 d1 d2 d3) := HR1.out.below hb3
 have hbN3 : Below W0.heap.size W0 w3 := hbN1.trans (hb3.mono' hbN1.size)
 have f0 := blk_cell A3.out 0 rfl
 clear HR1 hb3
 go_upto_region 3 with (refine wpList_store_one rfl 3 (.tmp 13) (.tmp 12) rfl A 0 (.int .i64 (B.now + 1)) rfl rfl Tryz.infosIntX rfl rfl 34 #[.int .i64 B.now, .slice b1 B.svcs.length d1, .slice b2 B.cps.length d2, .slice b3 B.bts.length d3] A3.out (Nat.le_of_ble_eq_true rfl) ?_; intro w4 hz on; have A4 : Hid (w4.heap[A]? = some (.cells #[.int .i64 (B.now + 1), .slice b1 B.svcs.length d1, .slice b2 B.cps.length d2, .slice b3 B.bts.length d3] 34 (0, 0))) := hz; have HON : Hid (Only A w3 w4) := on; clear hz on)
 have V4 := hidBkVar (B := aft B) ⟨hNA, A4.out, (HR3.out.only HON.out A3.out (by decide) (by decide) (by decide)).svcs, (HR3.out.only HON.out A3.out (by decide) (by decide) (by decide)).cps, (HR3.out.only HON.out A3.out (by decide) (by decide) (by decide)).bts⟩
 have hbN4 : Below W0.heap.size W0 w4 := hbN3.trans (HON.out.below.mono' hNA)
 have X4 : Hid (w4.heap[w.heap.size]? = some (.cells #[.int .i64 B.now, .slice a1 B.svcs.length c1, .slice a2 B.cps.length c2, .slice a3 B.bts.length c3] 34 (0, 0))) := below_blk hbN4 X0.out (by omega)
 have E4 : Hid (w4.heap[w.heap.size + 1]? = some (.cells #[.int .i64 E.kind, .string E.service.name, .int .i64 E.service.version, .bool E.service.gone, .int .i64 E.service.image, .int .i64 E.service.want, .int .i64 E.service.down, .int .i64 E.service.over, .int .i64 E.service.next, .int .i64 E.service.per, .int .i64 E.service.least, .int .i64 E.service.most, .int .i64 E.service.load, .int .i64 E.service.cool, .string E.name, .int .i64 E.number, .bool E.flag] 50 (0, 0))) := below_blk hbN4 E0.out (by omega)
 have Z4 : Hid (w4.heap[w.heap.size + 1 + 1]? = some (.cells #[.int .i64 0, .slice none 0 0, .slice none 0 0, .slice none 0 0] 34 (0, 0))) := below_blk hbN4 Z0.out (by omega)
 have hA4 := (Array.getElem?_eq_some_iff.1 A4.out).1
 have hE4 : w.heap.size + 1 < w4.heap.size := by omega
 clear f0 A3 HR3 HON X0 E0 Z0 hbN1 hbN3 hsA hsA'
 refine wp_region_grows 5 (by kernel_rfl) (by kernel_rfl) ?_
 apply grow_eq
 ·intro V W K A hW hd hA hK
  simp only [putAll, List.getElem?_toArray, List.getElem?_cons_succ, List.getElem?_cons_zero, Option.bind_some, Act.put, List.setIfInBounds_toArray, List.set_cons_succ, List.set_cons_zero] at hA
  clear hd
  generalize V 0 = x0 at hA
  generalize V 1 = x1 at hA
  generalize V 2 = x2 at hA
  generalize V 3 = x3 at hA
  generalize V 4 = x4 at hA
  obtain rfl := hA
  refine wpList_load_row rfl 50 (.tmp 3) rfl (w.heap.size + 1) rfl 50 #[.int .i64 E.kind, .string E.service.name, .int .i64 E.service.version, .bool E.service.gone, .int .i64 E.service.image, .int .i64 E.service.want, .int .i64 E.service.down, .int .i64 E.service.over, .int .i64 E.service.next, .int .i64 E.service.per, .int .i64 E.service.least, .int .i64 E.service.most, .int .i64 E.service.load, .int .i64 E.service.cool, .string E.name, .int .i64 E.number, .bool E.flag] (0, 0) _ (below_blk hW E4.out (by omega)) Tryz.underlying50 rfl Tryz.infosEvI ?_
  go_wp2
  exact hK.out _ (Below.refl _ _)
 apply grow_eq
 ·intro V W K A hW hd hA hK
  simp only [putAll, List.getElem?_toArray, List.getElem?_cons_succ, List.getElem?_cons_zero, Option.bind_some, Act.put, List.setIfInBounds_toArray, List.set_cons_succ, List.set_cons_zero] at hA
  clear hd
  generalize V 0 = x0 at hA
  generalize V 1 = x1 at hA
  generalize V 2 = x2 at hA
  generalize V 3 = x3 at hA
  generalize V 4 = x4 at hA
  obtain rfl := hA
  go_wp2
  exact hK.out _ (Below.refl _ _)
 apply grow_eq
 ·intro V W K A hW hd hA hK
  have d0 : V 0 = _ := hd 0 (by kernel_rfl)
  have d1 : V 1 = _ := hd 1 (by kernel_rfl)
  simp only [putAll, List.getElem?_toArray, List.getElem?_cons_succ, List.getElem?_cons_zero, Option.bind_some, Act.put, List.setIfInBounds_toArray, List.set_cons_succ, List.set_cons_zero] at hA
  clear hd
  generalize V 0 = x0 at d0 hA
  generalize V 1 = x1 at d1 hA
  generalize V 2 = x2 at hA
  generalize V 3 = x3 at hA
  generalize V 4 = x4 at hA
  subst d0
  subst d1
  obtain rfl := hA
  go_wp2_with fail
  refine (eventOf_any E A W).mono ?_
  rintro e w5 ⟨rfl, hbq⟩
  have HBQ : Hid (Below W.heap.size W w5) := hbq
  clear hbq
  go_wp2
  exact hK.out _ HBQ.out
 apply grow_eq
 ·intro V W K A hW hd hA hK
  simp only [putAll, List.getElem?_toArray, List.getElem?_cons_succ, List.getElem?_cons_zero, Option.bind_some, Act.put, List.setIfInBounds_toArray, List.set_cons_succ, List.set_cons_zero] at hA
  clear hd
  generalize V 0 = x0 at hA
  generalize V 1 = x1 at hA
  generalize V 2 = x2 at hA
  generalize V 3 = x3 at hA
  generalize V 4 = x4 at hA
  obtain rfl := hA
  go_wp2
  exact hK.out _ (Below.refl _ _)
 apply grow_eq
 ·intro V W K A hW hd hA hK
  have d3 : V 3 = _ := hd 3 (by kernel_rfl)
  simp only [putAll, List.getElem?_toArray, List.getElem?_cons_succ, List.getElem?_cons_zero, Option.bind_some, Act.put, List.setIfInBounds_toArray, List.set_cons_succ, List.set_cons_zero] at hA
  clear hd
  generalize V 0 = x0 at hA
  generalize V 1 = x1 at hA
  generalize V 2 = x2 at hA
  generalize V 3 = x3 at d3 hA
  generalize V 4 = x4 at hA
  subst d3
  obtain rfl := hA
  have m0 := blk_cell (below_blk hW A4.out hA4) 0 rfl
  go_wp2
  exact hK.out _ (Below.refl _ _)
 intro V W A hW hS hA
 have d0 : V 0 = _ := hS 0 (by omega)
 have d1 : V 1 = _ := hS 1 (by omega)
 have d2 : V 2 = _ := hS 2 (by omega)
 have d3 : V 3 = _ := hS 3 (by omega)
 have d4 : V 4 = _ := hS 4 (by omega)
 simp only [putAll, List.getElem?_toArray, List.getElem?_cons_succ, List.getElem?_cons_zero, Option.bind_some, Act.put, List.setIfInBounds_toArray, List.set_cons_succ, List.set_cons_zero] at hA
 clear hS
 generalize V 0 = x0 at d0 hA
 generalize V 1 = x1 at d1 hA
 generalize V 2 = x2 at d2 hA
 generalize V 3 = x3 at d3 hA
 generalize V 4 = x4 at d4 hA
 subst d0
 subst d1
 subst d2
 subst d3
 subst d4
 obtain rfl := hA
 simp only [List.drop_succ_cons, List.drop_zero]
 have HV5 := hidBkVar (V4.out.below hW)
 have hsW : W0.heap.size ≤ W.heap.size := by have := hW.size; have := hbN4.size; omega
 have hbW : Below W0.heap.size W0 W := hbN4.trans (hW.mono' hbN4.size)
 go_wp2_with fail
 refine (happen_any (aft B) E W0.heap.size A b1 b2 b3 d1 d2 d3 W hF hP hwc huc hwf hE hsW HV5.out).mono ?_
 rw [show (hapB (aft B) E).2 = cd from HCD.out]
 rintro e w6 ⟨rfl, hv6, hbq⟩
 have HV6 : Hid (cd = 0 → ∃ b1 b2 b3 d1 d2 d3, BkVar w6 W0.heap.size A (hapB (aft B) E).1 b1 b2 b3 d1 d2 d3) := hv6
 have hb6 : Below W0.heap.size W0 w6 := hbW.trans hbq
 have hb6' : Below w.heap.size w w6 := hb0.trans (hb6.mono' hb0.size)
 have X6 : Hid (w6.heap[w.heap.size]? = some (.cells #[.int .i64 B.now, .slice a1 B.svcs.length c1, .slice a2 B.cps.length c2, .slice a3 B.bts.length c3] 34 (0, 0))) := below_blk (hW.mono' hbN4.size |>.trans hbq) X4.out (by omega)
 have Z6 : Hid (w6.heap[w.heap.size + 1 + 1]? = some (.cells #[.int .i64 0, .slice none 0 0, .slice none 0 0, .slice none 0 0] 34 (0, 0))) := below_blk (hW.mono' hbN4.size |>.trans hbq) Z4.out (by omega)
 have hz6 : W0.heap.size ≤ w6.heap.size := hb6.size
 clear hv6 hbq hbW hsW HV5 V4 X4 E4 Z4 A4 hA4 hE4 hW hbN4 hb6
 by_cases hcd : cd = 0
 ·have HBE : Hid (befB B E = (hapB (aft B) E).1) := by unfold Hid befB; rw [HCD.out, if_pos hcd]
  obtain ⟨x1, x2, x3, p1, p2, p3, hv⟩ := HV6.out hcd
  have V6 := hidBkVar hv
  have A6 : Hid _ := hv.box
  clear hv HV6
  obtain ⟨Y, HY⟩ : ∃ Y, Hid ((hapB (aft B) E).1 = Y) := ⟨_, rfl⟩
  rw [show (hapB (aft B) E).1 = Y from HY.out] at V6 A6
  have y0 := blk_cell A6.out 0 rfl
  have y1 := blk_cell A6.out 1 rfl
  have y2 := blk_cell A6.out 2 rfl
  have y3 := blk_cell A6.out 3 rfl
  subst hcd
  go_wp2_with (refine wpList_store_only rfl 34 (.tmp 4) (.tmp 25) rfl (w.heap.size + 1 + 1) 0 #[.int .i64 Y.now, .slice x1 Y.svcs.length p1, .slice x2 Y.cps.length p2, .slice x3 Y.bts.length p3] rfl rfl 34 #[.int .i64 0, .slice none 0 0, .slice none 0 0, .slice none 0 0] Z6.out Tryz.infosBkX (Nat.le_of_ble_eq_true rfl) (by simp [Value.oneCell']) ?_; intro w7 hz on; have Z7 : Hid (w7.heap[w.heap.size + 1 + 1]? = some (.cells #[.int .i64 Y.now, .slice x1 Y.svcs.length p1, .slice x2 Y.cps.length p2, .slice x3 Y.bts.length p3] 34 (0, 0))) := hz; have HON : Hid (Only (w.heap.size + 1 + 1) w6 w7) := on; clear hz on; clear y0 y1 y2 y3)
  exact bodyPost_ret (v := .tuple #[.agg #[.int .i64 Y.now, .slice x1 Y.svcs.length p1, .slice x2 Y.cps.length p2, .slice x3 Y.bts.length p3], .int .i64 0]) (results_cell_tmp rfl _ _ (w.heap.size + 1 + 1) _ _ _ _ rfl Z7.out Tryz.underlying34 rfl Tryz.infosBkX _ rfl) rfl ⟨x1, x2, x3, p1, p2, p3, by rw [HBE.out, HY.out], by rw [HBE.out, HY.out]; exact (V6.out.rows.only HON.out Z6.out (by decide) (by decide) (by decide)).mono (by omega), hb6'.trans (HON.out.below.mono' (by omega))⟩
 ·have HBE : Hid (befB B E = B) := by unfold Hid befB; rw [HCD.out, if_neg hcd]
  have e0 := blk_cell X6.out 0 rfl
  have e1 := blk_cell X6.out 1 rfl
  have e2 := blk_cell X6.out 2 rfl
  have e3 := blk_cell X6.out 3 rfl
  go_wp2_with fail
  refine (freshBook_any B a1 a2 a3 c1 c2 c3 w6 hS (hB.below hb6')).mono ?_
  rintro e w7 ⟨x1, p1, x2, p2, x3, p3, rfl, hr, hbq⟩
  have HR7 : Hid (BkOf w7 w6.heap.size B x1 x2 x3 p1 p2 p3) := hr
  have Z7 : Hid (w7.heap[w.heap.size + 1 + 1]? = some (.cells #[.int .i64 0, .slice none 0 0, .slice none 0 0, .slice none 0 0] 34 (0, 0))) := below_blk hbq Z6.out (by omega)
  have hb7 : Below w.heap.size w w7 := hb6'.trans (hbq.mono' hb6'.size)
  clear hr hbq e0 e1 e2 e3
  go_wp2_with (refine wpList_store_only rfl 34 (.tmp 4) (.tmp 23) rfl (w.heap.size + 1 + 1) 0 #[.int .i64 B.now, .slice x1 B.svcs.length p1, .slice x2 B.cps.length p2, .slice x3 B.bts.length p3] rfl rfl 34 #[.int .i64 0, .slice none 0 0, .slice none 0 0, .slice none 0 0] Z7.out Tryz.infosBkX (Nat.le_of_ble_eq_true rfl) (by simp [Value.oneCell']) ?_; intro w8 hz on; have Z8 : Hid (w8.heap[w.heap.size + 1 + 1]? = some (.cells #[.int .i64 B.now, .slice x1 B.svcs.length p1, .slice x2 B.cps.length p2, .slice x3 B.bts.length p3] 34 (0, 0))) := hz; have HON : Hid (Only (w.heap.size + 1 + 1) w7 w8) := on; clear hz on)
  exact bodyPost_ret (v := .tuple #[.agg #[.int .i64 B.now, .slice x1 B.svcs.length p1, .slice x2 B.cps.length p2, .slice x3 B.bts.length p3], .int .i64 cd]) (results_cell_tmp rfl _ _ (w.heap.size + 1 + 1) _ _ _ _ rfl Z8.out Tryz.underlying34 rfl Tryz.infosBkX _ rfl) rfl ⟨x1, x2, x3, p1, p2, p3, by rw [HBE.out], by rw [HBE.out]; exact (HR7.out.only HON.out Z7.out (by decide) (by decide) (by decide)).mono (by omega), hb7.trans (HON.out.below.mono' (by omega))⟩
end Go.Proofs.YtbceafpodamnfabGreat

namespace Go.Proofs.YtbceafpodamnfabGreat
open Go.RowKit Go.Sort
def progAns (B : Bk) (E : Ev) : Bk × Int := if validB B = true then (befB B E, (hapB (aft B) E).2) else (noBk, 1)
set_option maxRecDepth 100000 in
set_option maxHeartbeats 16000000 in
theorem implSea_of (B : Bk) (E : Ev) (a1 a2 a3 : Option Addr) (c1 c2 c3 : Nat) (w : World) (hS : B.small) (hZ : B.sized) (hV : validB B = true → 0 ≤ B.now ∧ B.now ≤ 1000000 ∧ Fit (aft B) ∧ Placed (aft B) ∧ wfC (aft B) ∧ uniqC (aft B)) (hwf : (Lit.int .i64 E.number).wf = true) (hE : E.sized) (hB : BkAt w a1 a2 a3 B) :
  Calls Tryz.prog 17 #[.agg #[.int .i64 B.now, .slice a1 B.svcs.length c1, .slice a2 B.cps.length c2, .slice a3 B.bts.length c3], .agg #[.int .i64 E.kind, .string E.service.name, .int .i64 E.service.version, .bool E.service.gone, .int .i64 E.service.image, .int .i64 E.service.want, .int .i64 E.service.down, .int .i64 E.service.over, .int .i64 E.service.next, .int .i64 E.service.per, .int .i64 E.service.least, .int .i64 E.service.most, .int .i64 E.service.load, .int .i64 E.service.cool, .string E.name, .int .i64 E.number, .bool E.flag]] w fun e w' => ∃ (x1 x2 x3 : Option Addr) (p1 p2 p3 : Nat), e = .returned (.tuple #[.agg #[.int .i64 (progAns B E).1.now, .slice x1 (progAns B E).1.svcs.length p1, .slice x2 (progAns B E).1.cps.length p2, .slice x3 (progAns B E).1.bts.length p3], .int .i64 (progAns B E).2]) ∧ BkOf w' w.heap.size (progAns B E).1 x1 x2 x3 p1 p2 p3 ∧ Below w.heap.size w w' := by
 obtain ⟨W0, hW0, t0, t1, t2, hz0, hz0', hb0⟩ := three_newV w (.cells #[.int .i64 B.now, .slice a1 B.svcs.length c1, .slice a2 B.cps.length c2, .slice a3 B.bts.length c3] 34) (.cells #[.int .i64 E.kind, .string E.service.name, .int .i64 E.service.version, .bool E.service.gone, .int .i64 E.service.image, .int .i64 E.service.want, .int .i64 E.service.down, .int .i64 E.service.over, .int .i64 E.service.next, .int .i64 E.service.per, .int .i64 E.service.least, .int .i64 E.service.most, .int .i64 E.service.load, .int .i64 E.service.cool, .string E.name, .int .i64 E.number, .bool E.flag] 50) (.cells #[.int .i64 0, .slice none 0 0, .slice none 0 0, .slice none 0 0] 34)
 have X0 : Hid _ := t0
 have E0 : Hid _ := t1
 have Z0 : Hid _ := t2
 clear t0 t1 t2
 go_enter Tryz.func17, Tryz.ntmps17
 go_upto_region 1 with fail
 clear hW0
 have e0 := blk_cell X0.out 0 rfl
 have e1 := blk_cell X0.out 1 rfl
 have e2 := blk_cell X0.out 2 rfl
 have e3 := blk_cell X0.out 3 rfl
 go_wp2_with fail
 refine (implValid_any B a1 a2 a3 c1 c2 c3 W0 hS hZ (hB.below hb0)).mono ?_
 rintro e w1 ⟨rfl, hbq⟩
 have hb1 := hb0.trans (hbq.mono' (by have := hb0.size; omega))
 have X1 : Hid _ := below_blk hbq X0.out (by omega)
 have E1 : Hid _ := below_blk hbq E0.out (by omega)
 have Z1 : Hid _ := below_blk hbq Z0.out (by omega)
 have hz1 : w.heap.size + 1 + 1 < w1.heap.size := (Array.getElem?_eq_some_iff.1 Z1.out).1
 clear hbq e0 e1 e2 e3 X0 E0 Z0 hb0 hz0 hz0'
 cases hv : validB B
 ·have HA : Hid (progAns B E = (noBk, 1)) := by unfold Hid progAns; rw [hv]; rfl
  clear hV
  go_wp2_with (refine wpList_store_only rfl 34 (.tmp 4) (.tmp 9) rfl (w.heap.size + 1 + 1) 0 #[.int .i64 0, .slice none 0 0, .slice none 0 0, .slice none 0 0] rfl rfl 34 #[.int .i64 0, .slice none 0 0, .slice none 0 0, .slice none 0 0] Z1.out Tryz.infosBkX (Nat.le_of_ble_eq_true rfl) (by simp [Value.oneCell']) ?_; intro w2 hz on; have Z2 : Hid (w2.heap[w.heap.size + 1 + 1]? = some (.cells #[.int .i64 0, .slice none 0 0, .slice none 0 0, .slice none 0 0] 34 (0, 0))) := hz; have hb2 : Below w.heap.size w w2 := hb1.trans (on.below.mono' (by omega)); clear hz on)
  exact bodyPost_ret (v := .tuple #[.agg #[.int .i64 0, .slice none 0 0, .slice none 0 0, .slice none 0 0], .int .i64 1]) (results_cell_tmp rfl _ _ (w.heap.size + 1 + 1) _ _ _ _ rfl Z2.out Tryz.underlying34 rfl Tryz.infosBkX _ rfl) rfl ⟨none, none, none, 0, 0, 0, by rw [HA.out]; rfl, by rw [HA.out]; exact ⟨.inl ⟨rfl, rfl, rfl, rfl⟩, .inl ⟨rfl, rfl, rfl, rfl⟩, .inl ⟨rfl, rfl, rfl, rfl⟩⟩, hb2⟩
 ·have HA : Hid (progAns B E = (befB B E, (hapB (aft B) E).2)) := by unfold Hid progAns; rw [hv]; rfl
  obtain ⟨hn0, hn9, hF, hP, hwc, huc⟩ := hV hv
  obtain ⟨Y, HY⟩ : ∃ Y, Hid (befB B E = Y) := ⟨_, rfl⟩
  obtain ⟨cd, HCD⟩ : ∃ cd, Hid ((hapB (aft B) E).2 = cd) := ⟨_, rfl⟩
  have HN9 : Hid (B.now ≤ 1000000) := hn9
  have HN0 : Hid (0 ≤ B.now) := hn0
  clear hV hn0 hn9
  have e0 := blk_cell X1.out 0 rfl
  have e1 := blk_cell X1.out 1 rfl
  have e2 := blk_cell X1.out 2 rfl
  have e3 := blk_cell X1.out 3 rfl
  have q0 := blk_cell E1.out 0 rfl
  have q1 := blk_cell E1.out 1 rfl
  have q2 := blk_cell E1.out 2 rfl
  have q3 := blk_cell E1.out 3 rfl
  have q4 := blk_cell E1.out 4 rfl
  have q5 := blk_cell E1.out 5 rfl
  have q6 := blk_cell E1.out 6 rfl
  have q7 := blk_cell E1.out 7 rfl
  have q8 := blk_cell E1.out 8 rfl
  have q9 := blk_cell E1.out 9 rfl
  have q10 := blk_cell E1.out 10 rfl
  have q11 := blk_cell E1.out 11 rfl
  have q12 := blk_cell E1.out 12 rfl
  have q13 := blk_cell E1.out 13 rfl
  have q14 := blk_cell E1.out 14 rfl
  have q15 := blk_cell E1.out 15 rfl
  have q16 := blk_cell E1.out 16 rfl
  go_upto_region 3 with fail
  go_wp2_with fail
  refine (befall_any B E a1 a2 a3 c1 c2 c3 w1 hS HN0.out HN9.out hF hP hwc huc hwf hE (hB.below hb1)).mono ?_
  rw [show befB B E = Y from HY.out, show (hapB (aft B) E).2 = cd from HCD.out]
  rintro e w2 ⟨x1, x2, x3, p1, p2, p3, rfl, hr, hbq⟩
  have HR2 : Hid (BkOf w2 w1.heap.size Y x1 x2 x3 p1 p2 p3) := hr
  have Z2 : Hid (w2.heap[w.heap.size + 1 + 1]? = some (.cells #[.int .i64 0, .slice none 0 0, .slice none 0 0, .slice none 0 0] 34 (0, 0))) := below_blk hbq Z1.out (by omega)
  have hb2 : Below w.heap.size w w2 := hb1.trans (hbq.mono' hb1.size)
  have hs1 : w.heap.size ≤ w1.heap.size := hb1.size
  clear hr hbq e0 e1 e2 e3 q0 q1 q2 q3 q4 q5 q6 q7 q8 q9 q10 q11 q12 q13 q14 q15 q16
  go_wp2_with (refine wpList_store_only rfl 34 (.tmp 4) (.tmp 13) rfl (w.heap.size + 1 + 1) 0 #[.int .i64 Y.now, .slice x1 Y.svcs.length p1, .slice x2 Y.cps.length p2, .slice x3 Y.bts.length p3] rfl rfl 34 #[.int .i64 0, .slice none 0 0, .slice none 0 0, .slice none 0 0] Z2.out Tryz.infosBkX (Nat.le_of_ble_eq_true rfl) (by simp [Value.oneCell']) ?_; intro w3 hz on; have Z3 : Hid (w3.heap[w.heap.size + 1 + 1]? = some (.cells #[.int .i64 Y.now, .slice x1 Y.svcs.length p1, .slice x2 Y.cps.length p2, .slice x3 Y.bts.length p3] 34 (0, 0))) := hz; have HON : Hid (Only (w.heap.size + 1 + 1) w2 w3) := on; clear hz on)
  exact bodyPost_ret (v := .tuple #[.agg #[.int .i64 Y.now, .slice x1 Y.svcs.length p1, .slice x2 Y.cps.length p2, .slice x3 Y.bts.length p3], .int .i64 cd]) (results_cell_tmp rfl _ _ (w.heap.size + 1 + 1) _ _ _ _ rfl Z3.out Tryz.underlying34 rfl Tryz.infosBkX _ rfl) rfl ⟨x1, x2, x3, p1, p2, p3, by rw [HA.out, HY.out, HCD.out], by rw [HA.out, HY.out]; exact (HR2.out.only HON.out Z2.out (by decide) (by decide) (by decide)).mono hs1, hb2.trans (HON.out.below.mono' (by omega))⟩
end Go.Proofs.YtbceafpodamnfabGreat
