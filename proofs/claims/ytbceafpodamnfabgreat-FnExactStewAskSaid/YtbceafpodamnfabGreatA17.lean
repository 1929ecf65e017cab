/-
  My own: Pm.
-/
import Derived.Test.YtbceafpodamnfabGreatA16
set_option linter.unusedVariables false
set_option linter.unusedSimpArgs false
/-
  My own. What a steward asks for a service that is not gone, by the specification.
-/
namespace Go.Proofs.YtbceafpodamnfabGreat
open Go.RowKit Go.Sort

theorem SlEn.blk {lo lo' : Nat} {w w' : World} {ae : Option Addr} {l : List En} (h : SlEn lo w ae l) (hl : lo' ≤ lo) (hs : w.heap.size ≤ w'.heap.size) (hb : ∀ k, lo ≤ k → k < w.heap.size → w'.heap[k]? = w.heap[k]?) : SlEn lo' w' ae l := fun hn =>
  let ⟨g, e, h1, h2, h3⟩ := h hn
  ⟨g, e, Nat.le_trans hl h1, Nat.lt_of_lt_of_le h2 hs, fun i s hs' => (h3 i s hs').blk (hb g h1 h2)⟩
theorem SlEn.below {lo : Nat} {w w' : World} {ae : Option Addr} {l : List En} (h : SlEn lo w ae l) (hb : Below w.heap.size w w') : SlEn lo w' ae l := h.blk (Nat.le_refl _) hb.size fun k _ hk => hb.block k hk
theorem SlEn.only {lo lo' g : Nat} {w w' : World} {ae : Option Addr} {l : List En} (h : SlEn lo w ae l) (on : Only g w w') (hg : g < lo) (hl : lo' ≤ lo) : SlEn lo' w' ae l := h.blk hl (by rw [on.size]; exact Nat.le_refl _) fun k hk _ => on.other k (by omega)
theorem IsAct.below {lo : Nat} {w w' : World} {v : Value} {A : Ac} (h : IsAct lo w v A) (hb : Below w.heap.size w w') : IsAct lo w' v A :=
  let ⟨ae, ce, e, hs⟩ := h
  ⟨ae, ce, e, hs.below hb⟩
theorem IsAct.low {lo lo' : Nat} {w : World} {v : Value} {A : Ac} (h : IsAct lo w v A) (hl : lo' ≤ lo) : IsAct lo' w v A :=
  let ⟨ae, ce, e, hs⟩ := h
  ⟨ae, ce, e, fun hn => let ⟨g, e, h1, h2⟩ := hs hn; ⟨g, e, Nat.le_trans hl h1, h2⟩⟩
theorem scalerA_ends (s : Svc) (d : Int) : (scalerA s d).ends = [] := by
  unfold scalerA
  by_cases h1 : s.want < s.least
  · rw [if_pos h1]; rfl
  rw [if_neg h1]
  by_cases h2 : s.most < s.want
  · rw [if_pos h2]; rfl
  rw [if_neg h2]
  by_cases h3 : s.want < d
  · rw [if_pos h3]; rfl
  rw [if_neg h3]
  by_cases h4 : d < s.want
  · rw [if_pos h4]
    by_cases h5 : 3 ≤ s.cool
    · rw [if_pos h5]; rfl
    · rw [if_neg h5]; rfl
  rw [if_neg h4]
  by_cases h6 : s.cool = 0
  · rw [if_pos h6]; rfl
  · rw [if_neg h6]; rfl
theorem one_Act (A : Ac) (ae : Option Addr) (ce : Nat) : (#[.string A.service, .int .i64 A.seen, .int .i64 A.create, .int .i64 A.want, .int .i64 A.cool, .bool A.scale, .slice ae A.ends.length ce, .bool A.drop] : Array Value).all (·.oneCell') = true := by simp [Value.oneCell']

set_option maxRecDepth 100000 in
set_option maxHeartbeats 16000000 in
theorem l5Act_goneX (B : Bk) (s : Svc) (kind : Int) (hn3 : kind ≠ 3) (hn5 : kind ≠ 5) (hg : s.gone = true) (a1 a2 a3 : Option Addr) (c1 c2 c3 : Nat) (w : World) (hS : B.small) (_hV : Valid B) (_hsi : SvcIn s) (_hB : BkAt w a1 a2 a3 B) :
    Calls Tryz.prog 23 #[.int .i64 kind, .agg #[.int .i64 B.now, .slice a1 B.svcs.length c1, .slice a2 B.cps.length c2, .slice a3 B.bts.length c3], .agg #[.string s.name, .int .i64 s.version, .bool s.gone, .int .i64 s.image, .int .i64 s.want, .int .i64 s.down, .int .i64 s.over, .int .i64 s.next, .int .i64 s.per, .int .i64 s.least, .int .i64 s.most, .int .i64 s.load, .int .i64 s.cool]] w fun e w' => ∃ v, e = .returned v ∧ IsAct w.heap.size w' v (a0 s) ∧ Below w.heap.size w w' := by
  obtain ⟨t0, t1, t2, t3, t4⟩ := four_new w (.cells #[.int .i64 B.now, .slice a1 B.svcs.length c1, .slice a2 B.cps.length c2, .slice a3 B.bts.length c3] 34) (.cells #[.string s.name, .int .i64 s.version, .bool s.gone, .int .i64 s.image, .int .i64 s.want, .int .i64 s.down, .int .i64 s.over, .int .i64 s.next, .int .i64 s.per, .int .i64 s.least, .int .i64 s.most, .int .i64 s.load, .int .i64 s.cool] 48) (.cells #[.string ⟨#[]⟩, .int .i64 0, .int .i64 0, .int .i64 0, .int .i64 0, .bool false, .slice none 0 0, .bool false] 59) (.cells #[.string s.name, .int .i64 s.version, .int .i64 0, .int .i64 0, .int .i64 0, .bool false, .slice none 0 0, .bool false] 59)
  have U0 : Hid _ := t0
  have U1 : Hid _ := t1
  have U2 : Hid _ := t2
  have U3 : Hid _ := t3
  have HS4 : Hid _ := t4
  clear t0 t1 t2 t3 t4
  have hbw1 : Below w.heap.size w ((((w.alloc (.cells #[.int .i64 B.now, .slice a1 B.svcs.length c1, .slice a2 B.cps.length c2, .slice a3 B.bts.length c3] 34)).alloc (.cells #[.string s.name, .int .i64 s.version, .bool s.gone, .int .i64 s.image, .int .i64 s.want, .int .i64 s.down, .int .i64 s.over, .int .i64 s.next, .int .i64 s.per, .int .i64 s.least, .int .i64 s.most, .int .i64 s.load, .int .i64 s.cool] 48)).alloc (.cells #[.string ⟨#[]⟩, .int .i64 0, .int .i64 0, .int .i64 0, .int .i64 0, .bool false, .slice none 0 0, .bool false] 59)).alloc (.cells #[.string s.name, .int .i64 s.version, .int .i64 0, .int .i64 0, .int .i64 0, .bool false, .slice none 0 0, .bool false] 59)) := ((((Below.refl _ _).alloc (Nat.le_refl _) _).alloc (by simp) _).alloc (by simp; omega) _).alloc (by simp; omega) _
  have hl := hS
  obtain ⟨hl1, hl2, hl3⟩ := hl
  rw [hg] at U0 U1 U2 U3 HS4 hbw1
  have v2 := blk_cell U1.out 2 rfl
  have hk3 : (kind == 3) = false := by rw [beq_eq_false_iff_ne]; exact hn3
  have hk5 : (kind == 5) = false := by rw [beq_eq_false_iff_ne]; exact hn5
  go_enter Tryz.func23, Tryz.ntmps23
  have q0 := blk_cell U3.out 0 rfl
  have q1 := blk_cell U3.out 1 rfl
  have q2 := blk_cell U3.out 2 rfl
  have q3 := blk_cell U3.out 3 rfl
  have q4 := blk_cell U3.out 4 rfl
  have q5 := blk_cell U3.out 5 rfl
  have q6 := blk_cell U3.out 6 rfl
  have q7 := blk_cell U3.out 7 rfl
  go_wp2_with (refine wpList_store_only rfl 59 (.tmp 6) (.tmp 46) rfl (w.heap.size + 1 + 1) 0 #[.string s.name, .int .i64 s.version, .int .i64 0, .int .i64 0, .int .i64 0, .bool false, .slice none 0 0, .bool false] rfl rfl 59 #[.string ⟨#[]⟩, .int .i64 0, .int .i64 0, .int .i64 0, .int .i64 0, .bool false, .slice none 0 0, .bool false] U2.out Tryz.infosAct (Nat.le_of_ble_eq_true rfl) (by simp [Value.oneCell']) ?_; intro wf hz on; have RF : Hid (wf.heap[w.heap.size + 1 + 1]? = some (.cells #[.string s.name, .int .i64 s.version, .int .i64 0, .int .i64 0, .int .i64 0, .bool false, .slice none 0 0, .bool false] 59 (0, 0))) := hz; have hbf := hbw1.trans (on.below.mono (by omega)); have ONF : Hid (∀ k, k ≠ w.heap.size + 1 + 1 → wf.heap[k]? = _) := on.other; clear hz on; have p0 := blk_cell RF.out 0 rfl; have p1 := blk_cell RF.out 1 rfl; have p2 := blk_cell RF.out 2 rfl; have p3 := blk_cell RF.out 3 rfl; have p4 := blk_cell RF.out 4 rfl; have p5 := blk_cell RF.out 5 rfl; have p6 := blk_cell RF.out 6 rfl; have p7 := blk_cell RF.out 7 rfl)
  refine bodyPost_ret (v := .agg #[.string s.name, .int .i64 s.version, .int .i64 0, .int .i64 0, .int .i64 0, .bool false, .slice none 0 0, .bool false]) (by simp [results, Tryz.results23, go_sem, p0, p1, p2, p3, p4, p5, p6, p7]) rfl ⟨_, rfl, ?_, hbf⟩
  exact isAct_a0 _ _ s

set_option maxRecDepth 100000 in
set_option maxHeartbeats 16000000 in
theorem l5Act_x (B : Bk) (s : Svc) (kind : Int) (hn3 : kind ≠ 3) (hn1 : kind ≠ 1) (hn2 : kind ≠ 2) (hn6 : kind ≠ 6) (hn4 : kind ≠ 4) (hg : s.gone = false) (a1 a2 a3 : Option Addr) (c1 c2 c3 : Nat) (w : World) (hS : B.small) (_hV : Valid B) (_hsi : SvcIn s) (_hB : BkAt w a1 a2 a3 B) :
    Calls Tryz.prog 23 #[.int .i64 kind, .agg #[.int .i64 B.now, .slice a1 B.svcs.length c1, .slice a2 B.cps.length c2, .slice a3 B.bts.length c3], .agg #[.string s.name, .int .i64 s.version, .bool s.gone, .int .i64 s.image, .int .i64 s.want, .int .i64 s.down, .int .i64 s.over, .int .i64 s.next, .int .i64 s.per, .int .i64 s.least, .int .i64 s.most, .int .i64 s.load, .int .i64 s.cool]] w fun e w' => ∃ v, e = .returned v ∧ IsAct w.heap.size w' v (a0 s) ∧ Below w.heap.size w w' := by
  obtain ⟨t0, t1, t2, t3, t4⟩ := four_new w (.cells #[.int .i64 B.now, .slice a1 B.svcs.length c1, .slice a2 B.cps.length c2, .slice a3 B.bts.length c3] 34) (.cells #[.string s.name, .int .i64 s.version, .bool s.gone, .int .i64 s.image, .int .i64 s.want, .int .i64 s.down, .int .i64 s.over, .int .i64 s.next, .int .i64 s.per, .int .i64 s.least, .int .i64 s.most, .int .i64 s.load, .int .i64 s.cool] 48) (.cells #[.string ⟨#[]⟩, .int .i64 0, .int .i64 0, .int .i64 0, .int .i64 0, .bool false, .slice none 0 0, .bool false] 59) (.cells #[.string s.name, .int .i64 s.version, .int .i64 0, .int .i64 0, .int .i64 0, .bool false, .slice none 0 0, .bool false] 59)
  have U0 : Hid _ := t0
  have U1 : Hid _ := t1
  have U2 : Hid _ := t2
  have U3 : Hid _ := t3
  have HS4 : Hid _ := t4
  clear t0 t1 t2 t3 t4
  have hbw1 : Below w.heap.size w ((((w.alloc (.cells #[.int .i64 B.now, .slice a1 B.svcs.length c1, .slice a2 B.cps.length c2, .slice a3 B.bts.length c3] 34)).alloc (.cells #[.string s.name, .int .i64 s.version, .bool s.gone, .int .i64 s.image, .int .i64 s.want, .int .i64 s.down, .int .i64 s.over, .int .i64 s.next, .int .i64 s.per, .int .i64 s.least, .int .i64 s.most, .int .i64 s.load, .int .i64 s.cool] 48)).alloc (.cells #[.string ⟨#[]⟩, .int .i64 0, .int .i64 0, .int .i64 0, .int .i64 0, .bool false, .slice none 0 0, .bool false] 59)).alloc (.cells #[.string s.name, .int .i64 s.version, .int .i64 0, .int .i64 0, .int .i64 0, .bool false, .slice none 0 0, .bool false] 59)) := ((((Below.refl _ _).alloc (Nat.le_refl _) _).alloc (by simp) _).alloc (by simp; omega) _).alloc (by simp; omega) _
  have hl := hS
  obtain ⟨hl1, hl2, hl3⟩ := hl
  rw [hg] at U0 U1 U2 U3 HS4 hbw1
  have v2 := blk_cell U1.out 2 rfl
  have hk3 : (kind == 3) = false := by rw [beq_eq_false_iff_ne]; exact hn3
  have hk1 : (kind == 1) = false := by rw [beq_eq_false_iff_ne]; exact hn1
  have hk2 : (kind == 2) = false := by rw [beq_eq_false_iff_ne]; exact hn2
  have hk6 : (kind == 6) = false := by rw [beq_eq_false_iff_ne]; exact hn6
  have hk4 : (kind == 4) = false := by rw [beq_eq_false_iff_ne]; exact hn4
  go_enter Tryz.func23, Tryz.ntmps23
  have q0 := blk_cell U3.out 0 rfl
  have q1 := blk_cell U3.out 1 rfl
  have q2 := blk_cell U3.out 2 rfl
  have q3 := blk_cell U3.out 3 rfl
  have q4 := blk_cell U3.out 4 rfl
  have q5 := blk_cell U3.out 5 rfl
  have q6 := blk_cell U3.out 6 rfl
  have q7 := blk_cell U3.out 7 rfl
  go_wp2_with (refine wpList_store_only rfl 59 (.tmp 6) (.tmp 87) rfl (w.heap.size + 1 + 1) 0 #[.string s.name, .int .i64 s.version, .int .i64 0, .int .i64 0, .int .i64 0, .bool false, .slice none 0 0, .bool false] rfl rfl 59 #[.string ⟨#[]⟩, .int .i64 0, .int .i64 0, .int .i64 0, .int .i64 0, .bool false, .slice none 0 0, .bool false] U2.out Tryz.infosAct (Nat.le_of_ble_eq_true rfl) (by simp [Value.oneCell']) ?_; intro wf hz on; have RF : Hid (wf.heap[w.heap.size + 1 + 1]? = some (.cells #[.string s.name, .int .i64 s.version, .int .i64 0, .int .i64 0, .int .i64 0, .bool false, .slice none 0 0, .bool false] 59 (0, 0))) := hz; have hbf := hbw1.trans (on.below.mono (by omega)); have ONF : Hid (∀ k, k ≠ w.heap.size + 1 + 1 → wf.heap[k]? = _) := on.other; clear hz on; have p0 := blk_cell RF.out 0 rfl; have p1 := blk_cell RF.out 1 rfl; have p2 := blk_cell RF.out 2 rfl; have p3 := blk_cell RF.out 3 rfl; have p4 := blk_cell RF.out 4 rfl; have p5 := blk_cell RF.out 5 rfl; have p6 := blk_cell RF.out 6 rfl; have p7 := blk_cell RF.out 7 rfl)
  refine bodyPost_ret (v := .agg #[.string s.name, .int .i64 s.version, .int .i64 0, .int .i64 0, .int .i64 0, .bool false, .slice none 0 0, .bool false]) (by simp [results, Tryz.results23, go_sem, p0, p1, p2, p3, p4, p5, p6, p7]) rfl ⟨_, rfl, ?_, hbf⟩
  exact isAct_a0 _ _ s

set_option maxRecDepth 100000 in
set_option maxHeartbeats 16000000 in
theorem l5Act_4x (B : Bk) (s : Svc) (hp : ¬ 0 < s.per) (hg : s.gone = false) (a1 a2 a3 : Option Addr) (c1 c2 c3 : Nat) (w : World) (hS : B.small) (_hV : Valid B) (_hsi : SvcIn s) (_hB : BkAt w a1 a2 a3 B) :
    Calls Tryz.prog 23 #[.int .i64 4, .agg #[.int .i64 B.now, .slice a1 B.svcs.length c1, .slice a2 B.cps.length c2, .slice a3 B.bts.length c3], .agg #[.string s.name, .int .i64 s.version, .bool s.gone, .int .i64 s.image, .int .i64 s.want, .int .i64 s.down, .int .i64 s.over, .int .i64 s.next, .int .i64 s.per, .int .i64 s.least, .int .i64 s.most, .int .i64 s.load, .int .i64 s.cool]] w fun e w' => ∃ v, e = .returned v ∧ IsAct w.heap.size w' v (a0 s) ∧ Below w.heap.size w w' := by
  obtain ⟨t0, t1, t2, t3, t4⟩ := four_new w (.cells #[.int .i64 B.now, .slice a1 B.svcs.length c1, .slice a2 B.cps.length c2, .slice a3 B.bts.length c3] 34) (.cells #[.string s.name, .int .i64 s.version, .bool s.gone, .int .i64 s.image, .int .i64 s.want, .int .i64 s.down, .int .i64 s.over, .int .i64 s.next, .int .i64 s.per, .int .i64 s.least, .int .i64 s.most, .int .i64 s.load, .int .i64 s.cool] 48) (.cells #[.string ⟨#[]⟩, .int .i64 0, .int .i64 0, .int .i64 0, .int .i64 0, .bool false, .slice none 0 0, .bool false] 59) (.cells #[.string s.name, .int .i64 s.version, .int .i64 0, .int .i64 0, .int .i64 0, .bool false, .slice none 0 0, .bool false] 59)
  have U0 : Hid _ := t0
  have U1 : Hid _ := t1
  have U2 : Hid _ := t2
  have U3 : Hid _ := t3
  have HS4 : Hid _ := t4
  clear t0 t1 t2 t3 t4
  have hbw1 : Below w.heap.size w ((((w.alloc (.cells #[.int .i64 B.now, .slice a1 B.svcs.length c1, .slice a2 B.cps.length c2, .slice a3 B.bts.length c3] 34)).alloc (.cells #[.string s.name, .int .i64 s.version, .bool s.gone, .int .i64 s.image, .int .i64 s.want, .int .i64 s.down, .int .i64 s.over, .int .i64 s.next, .int .i64 s.per, .int .i64 s.least, .int .i64 s.most, .int .i64 s.load, .int .i64 s.cool] 48)).alloc (.cells #[.string ⟨#[]⟩, .int .i64 0, .int .i64 0, .int .i64 0, .int .i64 0, .bool false, .slice none 0 0, .bool false] 59)).alloc (.cells #[.string s.name, .int .i64 s.version, .int .i64 0, .int .i64 0, .int .i64 0, .bool false, .slice none 0 0, .bool false] 59)) := ((((Below.refl _ _).alloc (Nat.le_refl _) _).alloc (by simp) _).alloc (by simp; omega) _).alloc (by simp; omega) _
  have hl := hS
  obtain ⟨hl1, hl2, hl3⟩ := hl
  rw [hg] at U0 U1 U2 U3 HS4 hbw1
  have v2 := blk_cell U1.out 2 rfl
  have v8 := blk_cell U1.out 8 rfl
  go_enter Tryz.func23, Tryz.ntmps23
  have q0 := blk_cell U3.out 0 rfl
  have q1 := blk_cell U3.out 1 rfl
  have q2 := blk_cell U3.out 2 rfl
  have q3 := blk_cell U3.out 3 rfl
  have q4 := blk_cell U3.out 4 rfl
  have q5 := blk_cell U3.out 5 rfl
  have q6 := blk_cell U3.out 6 rfl
  have q7 := blk_cell U3.out 7 rfl
  go_wp2_with (refine wpList_store_only rfl 59 (.tmp 6) (.tmp 87) rfl (w.heap.size + 1 + 1) 0 #[.string s.name, .int .i64 s.version, .int .i64 0, .int .i64 0, .int .i64 0, .bool false, .slice none 0 0, .bool false] rfl rfl 59 #[.string ⟨#[]⟩, .int .i64 0, .int .i64 0, .int .i64 0, .int .i64 0, .bool false, .slice none 0 0, .bool false] U2.out Tryz.infosAct (Nat.le_of_ble_eq_true rfl) (by simp [Value.oneCell']) ?_; intro wf hz on; have RF : Hid (wf.heap[w.heap.size + 1 + 1]? = some (.cells #[.string s.name, .int .i64 s.version, .int .i64 0, .int .i64 0, .int .i64 0, .bool false, .slice none 0 0, .bool false] 59 (0, 0))) := hz; have hbf := hbw1.trans (on.below.mono (by omega)); have ONF : Hid (∀ k, k ≠ w.heap.size + 1 + 1 → wf.heap[k]? = _) := on.other; clear hz on; have p0 := blk_cell RF.out 0 rfl; have p1 := blk_cell RF.out 1 rfl; have p2 := blk_cell RF.out 2 rfl; have p3 := blk_cell RF.out 3 rfl; have p4 := blk_cell RF.out 4 rfl; have p5 := blk_cell RF.out 5 rfl; have p6 := blk_cell RF.out 6 rfl; have p7 := blk_cell RF.out 7 rfl)
  refine bodyPost_ret (v := .agg #[.string s.name, .int .i64 s.version, .int .i64 0, .int .i64 0, .int .i64 0, .bool false, .slice none 0 0, .bool false]) (by simp [results, Tryz.results23, go_sem, p0, p1, p2, p3, p4, p5, p6, p7]) rfl ⟨_, rfl, ?_, hbf⟩
  exact isAct_a0 _ _ s

set_option maxRecDepth 100000 in
set_option maxHeartbeats 16000000 in
theorem l5Act_1 (B : Bk) (s : Svc) (hg : s.gone = false) (a1 a2 a3 : Option Addr) (c1 c2 c3 : Nat) (w : World) (hS : B.small) (hV : Valid B) (hsi : SvcIn s) (hB : BkAt w a1 a2 a3 B) :
    Calls Tryz.prog 23 #[.int .i64 1, .agg #[.int .i64 B.now, .slice a1 B.svcs.length c1, .slice a2 B.cps.length c2, .slice a3 B.bts.length c3], .agg #[.string s.name, .int .i64 s.version, .bool s.gone, .int .i64 s.image, .int .i64 s.want, .int .i64 s.down, .int .i64 s.over, .int .i64 s.next, .int .i64 s.per, .int .i64 s.least, .int .i64 s.most, .int .i64 s.load, .int .i64 s.cool]] w fun e w' => ∃ v, e = .returned v ∧ IsAct w.heap.size w' v (counterA B s) ∧ Below w.heap.size w w' := by
  obtain ⟨t0, t1, t2, t3, t4⟩ := four_new w (.cells #[.int .i64 B.now, .slice a1 B.svcs.length c1, .slice a2 B.cps.length c2, .slice a3 B.bts.length c3] 34) (.cells #[.string s.name, .int .i64 s.version, .bool s.gone, .int .i64 s.image, .int .i64 s.want, .int .i64 s.down, .int .i64 s.over, .int .i64 s.next, .int .i64 s.per, .int .i64 s.least, .int .i64 s.most, .int .i64 s.load, .int .i64 s.cool] 48) (.cells #[.string ⟨#[]⟩, .int .i64 0, .int .i64 0, .int .i64 0, .int .i64 0, .bool false, .slice none 0 0, .bool false] 59) (.cells #[.string s.name, .int .i64 s.version, .int .i64 0, .int .i64 0, .int .i64 0, .bool false, .slice none 0 0, .bool false] 59)
  have U0 : Hid _ := t0
  have U1 : Hid _ := t1
  have U2 : Hid _ := t2
  have U3 : Hid _ := t3
  have HS4 : Hid _ := t4
  clear t0 t1 t2 t3 t4
  have hbw1 : Below w.heap.size w ((((w.alloc (.cells #[.int .i64 B.now, .slice a1 B.svcs.length c1, .slice a2 B.cps.length c2, .slice a3 B.bts.length c3] 34)).alloc (.cells #[.string s.name, .int .i64 s.version, .bool s.gone, .int .i64 s.image, .int .i64 s.want, .int .i64 s.down, .int .i64 s.over, .int .i64 s.next, .int .i64 s.per, .int .i64 s.least, .int .i64 s.most, .int .i64 s.load, .int .i64 s.cool] 48)).alloc (.cells #[.string ⟨#[]⟩, .int .i64 0, .int .i64 0, .int .i64 0, .int .i64 0, .bool false, .slice none 0 0, .bool false] 59)).alloc (.cells #[.string s.name, .int .i64 s.version, .int .i64 0, .int .i64 0, .int .i64 0, .bool false, .slice none 0 0, .bool false] 59)) := ((((Below.refl _ _).alloc (Nat.le_refl _) _).alloc (by simp) _).alloc (by simp; omega) _).alloc (by simp; omega) _
  have hl := hS
  obtain ⟨hl1, hl2, hl3⟩ := hl
  have HC := hid_of (fun (W : World) (h : BkAt W a1 a2 a3 B) => l5Counter_any B s a1 a2 a3 c1 c2 c3 W hS hV hsi h)
  obtain ⟨A, HAA⟩ : ∃ A, Hid (counterA B s = A) := ⟨_, rfl⟩
  rw [HAA.out] at HC
  rw [HAA.out]
  rw [hg] at U0 U1 U2 U3 HS4 hbw1 HC
  have e0 := blk_cell U0.out 0 rfl
  have e1 := blk_cell U0.out 1 rfl
  have e2 := blk_cell U0.out 2 rfl
  have e3 := blk_cell U0.out 3 rfl
  have v0 := blk_cell U1.out 0 rfl
  have v1 := blk_cell U1.out 1 rfl
  have v2 := blk_cell U1.out 2 rfl
  have v3 := blk_cell U1.out 3 rfl
  have v4 := blk_cell U1.out 4 rfl
  have v5 := blk_cell U1.out 5 rfl
  have v6 := blk_cell U1.out 6 rfl
  have v7 := blk_cell U1.out 7 rfl
  have v8 := blk_cell U1.out 8 rfl
  have v9 := blk_cell U1.out 9 rfl
  have v10 := blk_cell U1.out 10 rfl
  have v11 := blk_cell U1.out 11 rfl
  have v12 := blk_cell U1.out 12 rfl
  have z0 := blk_cell U3.out 0 rfl
  have z1 := blk_cell U3.out 1 rfl
  have z2 := blk_cell U3.out 2 rfl
  have z3 := blk_cell U3.out 3 rfl
  have z4 := blk_cell U3.out 4 rfl
  have z5 := blk_cell U3.out 5 rfl
  have z6 := blk_cell U3.out 6 rfl
  have z7 := blk_cell U3.out 7 rfl
  go_enter Tryz.func23, Tryz.ntmps23
  go_wp2_with fail
  refine (HC.out _ (hB.below hbw1)).mono ?_
  rintro e w2 ⟨v, rfl, ⟨ae, ce, rfl, hE⟩, hb2⟩
  clear e0 e1 e2 e3 v0 v1 v2 v3 v4 v5 v6 v7 v8 v9 v10 v11 v12 z0 z1 z2 z3 z4 z5 z6 z7
  have hbw2 := hbw1.trans (hb2.mono hbw1.size)
  rw [HS4.out] at hb2 hE
  have X2 : Hid (w2.heap[w.heap.size + 1 + 1]? = some (.cells #[.string ⟨#[]⟩, .int .i64 0, .int .i64 0, .int .i64 0, .int .i64 0, .bool false, .slice none 0 0, .bool false] 59 (0, 0))) := below_blk hb2 U2.out (by omega)
  have HE2 : Hid (SlEn (w.heap.size + 1 + 1 + 1 + 1) w2 ae A.ends) := hE
  clear hb2 hE HC hg
  go_wp2_with (refine wpList_store_only rfl 59 (.tmp 6) (.tmp 53) rfl (w.heap.size + 1 + 1) 0 #[.string A.service, .int .i64 A.seen, .int .i64 A.create, .int .i64 A.want, .int .i64 A.cool, .bool A.scale, .slice ae A.ends.length ce, .bool A.drop] rfl rfl 59 #[.string ⟨#[]⟩, .int .i64 0, .int .i64 0, .int .i64 0, .int .i64 0, .bool false, .slice none 0 0, .bool false] X2.out Tryz.infosAct (Nat.le_of_ble_eq_true rfl) (one_Act A ae ce) ?_; intro wf hz on; have RF : Hid (wf.heap[w.heap.size + 1 + 1]? = some (.cells #[.string A.service, .int .i64 A.seen, .int .i64 A.create, .int .i64 A.want, .int .i64 A.cool, .bool A.scale, .slice ae A.ends.length ce, .bool A.drop] 59 (0, 0))) := hz; have hbf := hbw2.trans (on.below.mono (by omega)); have HEF : Hid (SlEn w.heap.size wf ae A.ends) := HE2.out.only on (by omega) (by omega); clear hz on; have p0 := blk_cell RF.out 0 rfl; have p1 := blk_cell RF.out 1 rfl; have p2 := blk_cell RF.out 2 rfl; have p3 := blk_cell RF.out 3 rfl; have p4 := blk_cell RF.out 4 rfl; have p5 := blk_cell RF.out 5 rfl; have p6 := blk_cell RF.out 6 rfl; have p7 := blk_cell RF.out 7 rfl)
  refine bodyPost_ret (v := .agg #[.string A.service, .int .i64 A.seen, .int .i64 A.create, .int .i64 A.want, .int .i64 A.cool, .bool A.scale, .slice ae A.ends.length ce, .bool A.drop]) (by simp [results, Tryz.results23, go_sem, p0, p1, p2, p3, p4, p5, p6, p7]) rfl ⟨_, rfl, ⟨ae, ce, rfl, HEF.out⟩, hbf⟩

set_option maxRecDepth 100000 in
set_option maxHeartbeats 16000000 in
theorem l5Act_4 (B : Bk) (s : Svc) (hg : s.gone = false) (hp : 0 < s.per) (h0 : 0 ≤ s.load) (h1 : s.load ≤ 1000000) (h3 : s.per ≤ 1000000) (h4 : 0 ≤ s.least) (h5 : s.least ≤ 10) (h6 : 0 ≤ s.most) (h7 : s.most ≤ 10) (h10 : 0 ≤ s.cool) (h11 : s.cool ≤ 3) (a1 a2 a3 : Option Addr) (c1 c2 c3 : Nat) (w : World) (hS : B.small) (_hV : Valid B) (hsi : SvcIn s) (_hB : BkAt w a1 a2 a3 B) :
    Calls Tryz.prog 23 #[.int .i64 4, .agg #[.int .i64 B.now, .slice a1 B.svcs.length c1, .slice a2 B.cps.length c2, .slice a3 B.bts.length c3], .agg #[.string s.name, .int .i64 s.version, .bool s.gone, .int .i64 s.image, .int .i64 s.want, .int .i64 s.down, .int .i64 s.over, .int .i64 s.next, .int .i64 s.per, .int .i64 s.least, .int .i64 s.most, .int .i64 s.load, .int .i64 s.cool]] w fun e w' => ∃ v, e = .returned v ∧ IsAct w.heap.size w' v (scalerA s (desired s)) ∧ Below w.heap.size w w' := by
  obtain ⟨t0, t1, t2, t3, t4⟩ := four_new w (.cells #[.int .i64 B.now, .slice a1 B.svcs.length c1, .slice a2 B.cps.length c2, .slice a3 B.bts.length c3] 34) (.cells #[.string s.name, .int .i64 s.version, .bool s.gone, .int .i64 s.image, .int .i64 s.want, .int .i64 s.down, .int .i64 s.over, .int .i64 s.next, .int .i64 s.per, .int .i64 s.least, .int .i64 s.most, .int .i64 s.load, .int .i64 s.cool] 48) (.cells #[.string ⟨#[]⟩, .int .i64 0, .int .i64 0, .int .i64 0, .int .i64 0, .bool false, .slice none 0 0, .bool false] 59) (.cells #[.string s.name, .int .i64 s.version, .int .i64 0, .int .i64 0, .int .i64 0, .bool false, .slice none 0 0, .bool false] 59)
  have U0 : Hid _ := t0
  have U1 : Hid _ := t1
  have U2 : Hid _ := t2
  have U3 : Hid _ := t3
  have HS4 : Hid _ := t4
  clear t0 t1 t2 t3 t4
  have hbw1 : Below w.heap.size w ((((w.alloc (.cells #[.int .i64 B.now, .slice a1 B.svcs.length c1, .slice a2 B.cps.length c2, .slice a3 B.bts.length c3] 34)).alloc (.cells #[.string s.name, .int .i64 s.version, .bool s.gone, .int .i64 s.image, .int .i64 s.want, .int .i64 s.down, .int .i64 s.over, .int .i64 s.next, .int .i64 s.per, .int .i64 s.least, .int .i64 s.most, .int .i64 s.load, .int .i64 s.cool] 48)).alloc (.cells #[.string ⟨#[]⟩, .int .i64 0, .int .i64 0, .int .i64 0, .int .i64 0, .bool false, .slice none 0 0, .bool false] 59)).alloc (.cells #[.string s.name, .int .i64 s.version, .int .i64 0, .int .i64 0, .int .i64 0, .bool false, .slice none 0 0, .bool false] 59)) := ((((Below.refl _ _).alloc (Nat.le_refl _) _).alloc (by simp) _).alloc (by simp; omega) _).alloc (by simp; omega) _
  have hl := hS
  obtain ⟨hl1, hl2, hl3⟩ := hl
  have HC := hid_of (fun (W : World) => l5Scaler_any s W h0 h1 (by omega) h3 h4 h5 h6 h7 hsi.want0 hsi.want1 h10 h11)
  have HEN : Hid ((scalerA s (desired s)).ends = []) := scalerA_ends s _
  obtain ⟨A, HAA⟩ : ∃ A, Hid (scalerA s (desired s) = A) := ⟨_, rfl⟩
  rw [HAA.out] at HC HEN
  rw [HAA.out]
  rw [hg] at U0 U1 U2 U3 HS4 hbw1 HC
  have v0 := blk_cell U1.out 0 rfl
  have v1 := blk_cell U1.out 1 rfl
  have v2 := blk_cell U1.out 2 rfl
  have v3 := blk_cell U1.out 3 rfl
  have v4 := blk_cell U1.out 4 rfl
  have v5 := blk_cell U1.out 5 rfl
  have v6 := blk_cell U1.out 6 rfl
  have v7 := blk_cell U1.out 7 rfl
  have v8 := blk_cell U1.out 8 rfl
  have v9 := blk_cell U1.out 9 rfl
  have v10 := blk_cell U1.out 10 rfl
  have v11 := blk_cell U1.out 11 rfl
  have v12 := blk_cell U1.out 12 rfl
  have z0 := blk_cell U3.out 0 rfl
  have z1 := blk_cell U3.out 1 rfl
  have z2 := blk_cell U3.out 2 rfl
  have z3 := blk_cell U3.out 3 rfl
  have z4 := blk_cell U3.out 4 rfl
  have z5 := blk_cell U3.out 5 rfl
  have z6 := blk_cell U3.out 6 rfl
  have z7 := blk_cell U3.out 7 rfl
  go_enter Tryz.func23, Tryz.ntmps23
  go_wp2_with fail
  refine (HC.out _).mono ?_
  rintro e w2 ⟨rfl, hb2⟩
  clear v0 v1 v2 v3 v4 v5 v6 v7 v8 v9 v10 v11 v12 z0 z1 z2 z3 z4 z5 z6 z7
  have hbw2 := hbw1.trans (hb2.mono hbw1.size)
  rw [HS4.out] at hb2
  have X2 : Hid (w2.heap[w.heap.size + 1 + 1]? = some (.cells #[.string ⟨#[]⟩, .int .i64 0, .int .i64 0, .int .i64 0, .int .i64 0, .bool false, .slice none 0 0, .bool false] 59 (0, 0))) := below_blk hb2 U2.out (by omega)
  clear hb2 HC hg
  go_wp2_with (refine wpList_store_only rfl 59 (.tmp 6) (.tmp 86) rfl (w.heap.size + 1 + 1) 0 #[.string A.service, .int .i64 A.seen, .int .i64 A.create, .int .i64 A.want, .int .i64 A.cool, .bool A.scale, .slice none 0 0, .bool A.drop] rfl rfl 59 #[.string ⟨#[]⟩, .int .i64 0, .int .i64 0, .int .i64 0, .int .i64 0, .bool false, .slice none 0 0, .bool false] X2.out Tryz.infosAct (Nat.le_of_ble_eq_true rfl) (by simp [Value.oneCell']) ?_; intro wf hz on; have RF : Hid (wf.heap[w.heap.size + 1 + 1]? = some (.cells #[.string A.service, .int .i64 A.seen, .int .i64 A.create, .int .i64 A.want, .int .i64 A.cool, .bool A.scale, .slice none 0 0, .bool A.drop] 59 (0, 0))) := hz; have hbf := hbw2.trans (on.below.mono (by omega)); clear hz on; have p0 := blk_cell RF.out 0 rfl; have p1 := blk_cell RF.out 1 rfl; have p2 := blk_cell RF.out 2 rfl; have p3 := blk_cell RF.out 3 rfl; have p4 := blk_cell RF.out 4 rfl; have p5 := blk_cell RF.out 5 rfl; have p6 := blk_cell RF.out 6 rfl; have p7 := blk_cell RF.out 7 rfl)
  refine bodyPost_ret (v := .agg #[.string A.service, .int .i64 A.seen, .int .i64 A.create, .int .i64 A.want, .int .i64 A.cool, .bool A.scale, .slice none 0 0, .bool A.drop]) (by simp [results, Tryz.results23, go_sem, p0, p1, p2, p3, p4, p5, p6, p7]) rfl ⟨_, rfl, ⟨none, 0, by rw [HEN.out]; rfl, by rw [HEN.out]; exact SlEn.nil _ _ _⟩, hbf⟩

set_option maxRecDepth 100000 in
set_option maxHeartbeats 16000000 in
theorem l5Act_2 (B : Bk) (s : Svc) (hg : s.gone = false) (a1 a2 a3 : Option Addr) (c1 c2 c3 : Nat) (w : World) (hS : B.small) (hV : Valid B) (hsi : SvcIn s) (hB : BkAt w a1 a2 a3 B) :
    Calls Tryz.prog 23 #[.int .i64 2, .agg #[.int .i64 B.now, .slice a1 B.svcs.length c1, .slice a2 B.cps.length c2, .slice a3 B.bts.length c3], .agg #[.string s.name, .int .i64 s.version, .bool s.gone, .int .i64 s.image, .int .i64 s.want, .int .i64 s.down, .int .i64 s.over, .int .i64 s.next, .int .i64 s.per, .int .i64 s.least, .int .i64 s.most, .int .i64 s.load, .int .i64 s.cool]] w fun e w' => ∃ v, e = .returned v ∧ IsAct w.heap.size w' v (replaceA B s (someL B s fun c => c.image != s.image)) ∧ Below w.heap.size w w' := by
  obtain ⟨t0, t1, t2, t3, t4⟩ := four_new w (.cells #[.int .i64 B.now, .slice a1 B.svcs.length c1, .slice a2 B.cps.length c2, .slice a3 B.bts.length c3] 34) (.cells #[.string s.name, .int .i64 s.version, .bool s.gone, .int .i64 s.image, .int .i64 s.want, .int .i64 s.down, .int .i64 s.over, .int .i64 s.next, .int .i64 s.per, .int .i64 s.least, .int .i64 s.most, .int .i64 s.load, .int .i64 s.cool] 48) (.cells #[.string ⟨#[]⟩, .int .i64 0, .int .i64 0, .int .i64 0, .int .i64 0, .bool false, .slice none 0 0, .bool false] 59) (.cells #[.string s.name, .int .i64 s.version, .int .i64 0, .int .i64 0, .int .i64 0, .bool false, .slice none 0 0, .bool false] 59)
  have U0 : Hid _ := t0
  have U1 : Hid _ := t1
  have U2 : Hid _ := t2
  have U3 : Hid _ := t3
  have HS4 : Hid _ := t4
  clear t0 t1 t2 t3 t4
  have hbw1 : Below w.heap.size w ((((w.alloc (.cells #[.int .i64 B.now, .slice a1 B.svcs.length c1, .slice a2 B.cps.length c2, .slice a3 B.bts.length c3] 34)).alloc (.cells #[.string s.name, .int .i64 s.version, .bool s.gone, .int .i64 s.image, .int .i64 s.want, .int .i64 s.down, .int .i64 s.over, .int .i64 s.next, .int .i64 s.per, .int .i64 s.least, .int .i64 s.most, .int .i64 s.load, .int .i64 s.cool] 48)).alloc (.cells #[.string ⟨#[]⟩, .int .i64 0, .int .i64 0, .int .i64 0, .int .i64 0, .bool false, .slice none 0 0, .bool false] 59)).alloc (.cells #[.string s.name, .int .i64 s.version, .int .i64 0, .int .i64 0, .int .i64 0, .bool false, .slice none 0 0, .bool false] 59)) := ((((Below.refl _ _).alloc (Nat.le_refl _) _).alloc (by simp) _).alloc (by simp; omega) _).alloc (by simp; omega) _
  have hl := hS
  obtain ⟨hl1, hl2, hl3⟩ := hl
  obtain ⟨M, HMM⟩ : ∃ M, Hid ((someL B s fun c => c.image != s.image) = M) := ⟨_, rfl⟩
  have HML : Hid (∀ i ∈ M, i < B.cps.length) := fun i hi => by rw [← HMM.out] at hi; exact liveTo_lt (List.mem_filter.1 hi).1
  have hMn : M.length ≤ B.cps.length := by rw [← HMM.out]; exact Nat.le_trans (List.length_filter_le _ _) (liveTo_len _ _ _)
  have HCS := hid_of (fun (W : World) (h : BkAt W a1 a2 a3 B) => l5Some_2 B s a1 a2 a3 c1 c2 c3 W hS h)
  rw [HMM.out] at HCS
  have HCR := hid_of (fun (W : World) (gM capM : Nat) (h : BkAt W a1 a2 a3 B) (hr : RowIs W 3 1 gM M.length capM (intsV M)) => l5Replace_any B s M gM capM a1 a2 a3 c1 c2 c3 W hS hV hsi h HML.out (by omega) hr)
  rw [HMM.out]
  obtain ⟨AA, HAA⟩ : ∃ A, Hid (replaceA B s M = A) := ⟨_, rfl⟩
  rw [HAA.out] at HCR
  rw [HAA.out]
  rw [hg] at U0 U1 U2 U3 HS4 hbw1 HCS HCR
  have v2 := blk_cell U1.out 2 rfl
  go_enter Tryz.func23, Tryz.ntmps23
  go_wp2
  clear v2 hg
  refine wp_region_grows 8 (by kernel_rfl) (by kernel_rfl) ?_
  apply grow_eq
  · intro V W K A hW hd hA hK
    simp only [putAll, List.getElem?_toArray, List.getElem?_cons_succ, List.getElem?_cons_zero, Option.bind_some, Act.put, List.setIfInBounds_toArray, List.set_cons_succ, List.set_cons_zero] at hA
    clear hd
    generalize V 0 = x0 at hA
    generalize V 1 = x1 at hA
    generalize V 2 = x2 at hA
    generalize V 3 = x3 at hA
    generalize V 4 = x4 at hA
    generalize V 5 = x5 at hA
    generalize V 6 = x6 at hA
    generalize V 7 = x7 at hA
    obtain rfl := hA
    have e0 := blk_cell (below_blk hW U0.out (by rw [HS4.out]; omega)) 0 rfl
    have e1 := blk_cell (below_blk hW U0.out (by rw [HS4.out]; omega)) 1 rfl
    have e2 := blk_cell (below_blk hW U0.out (by rw [HS4.out]; omega)) 2 rfl
    have e3 := blk_cell (below_blk hW U0.out (by rw [HS4.out]; omega)) 3 rfl
    go_wp2
    exact hK.out _ (Below.refl _ _)
  apply grow_eq
  · intro V W K A hW hd hA hK
    simp only [putAll, List.getElem?_toArray, List.getElem?_cons_succ, List.getElem?_cons_zero, Option.bind_some, Act.put, List.setIfInBounds_toArray, List.set_cons_succ, List.set_cons_zero] at hA
    clear hd
    generalize V 0 = x0 at hA
    generalize V 1 = x1 at hA
    generalize V 2 = x2 at hA
    generalize V 3 = x3 at hA
    generalize V 4 = x4 at hA
    generalize V 5 = x5 at hA
    generalize V 6 = x6 at hA
    generalize V 7 = x7 at hA
    obtain rfl := hA
    have v0 := blk_cell (below_blk hW U1.out (by rw [HS4.out]; omega)) 0 rfl
    have v1 := blk_cell (below_blk hW U1.out (by rw [HS4.out]; omega)) 1 rfl
    have v2 := blk_cell (below_blk hW U1.out (by rw [HS4.out]; omega)) 2 rfl
    have v3 := blk_cell (below_blk hW U1.out (by rw [HS4.out]; omega)) 3 rfl
    have v4 := blk_cell (below_blk hW U1.out (by rw [HS4.out]; omega)) 4 rfl
    have v5 := blk_cell (below_blk hW U1.out (by rw [HS4.out]; omega)) 5 rfl
    have v6 := blk_cell (below_blk hW U1.out (by rw [HS4.out]; omega)) 6 rfl
    have v7 := blk_cell (below_blk hW U1.out (by rw [HS4.out]; omega)) 7 rfl
    have v8 := blk_cell (below_blk hW U1.out (by rw [HS4.out]; omega)) 8 rfl
    have v9 := blk_cell (below_blk hW U1.out (by rw [HS4.out]; omega)) 9 rfl
    have v10 := blk_cell (below_blk hW U1.out (by rw [HS4.out]; omega)) 10 rfl
    have v11 := blk_cell (below_blk hW U1.out (by rw [HS4.out]; omega)) 11 rfl
    have v12 := blk_cell (below_blk hW U1.out (by rw [HS4.out]; omega)) 12 rfl
    go_wp2
    exact hK.out _ (Below.refl _ _)
  apply grow_eq
  · intro V W K A hW hd hA hK
    simp only [putAll, List.getElem?_toArray, List.getElem?_cons_succ, List.getElem?_cons_zero, Option.bind_some, Act.put, List.setIfInBounds_toArray, List.set_cons_succ, List.set_cons_zero] at hA
    clear hd
    generalize V 0 = x0 at hA
    generalize V 1 = x1 at hA
    generalize V 2 = x2 at hA
    generalize V 3 = x3 at hA
    generalize V 4 = x4 at hA
    generalize V 5 = x5 at hA
    generalize V 6 = x6 at hA
    generalize V 7 = x7 at hA
    obtain rfl := hA
    have z0 := blk_cell (below_blk hW U3.out (by rw [HS4.out]; omega)) 0 rfl
    have z1 := blk_cell (below_blk hW U3.out (by rw [HS4.out]; omega)) 1 rfl
    have z2 := blk_cell (below_blk hW U3.out (by rw [HS4.out]; omega)) 2 rfl
    have z3 := blk_cell (below_blk hW U3.out (by rw [HS4.out]; omega)) 3 rfl
    have z4 := blk_cell (below_blk hW U3.out (by rw [HS4.out]; omega)) 4 rfl
    have z5 := blk_cell (below_blk hW U3.out (by rw [HS4.out]; omega)) 5 rfl
    have z6 := blk_cell (below_blk hW U3.out (by rw [HS4.out]; omega)) 6 rfl
    have z7 := blk_cell (below_blk hW U3.out (by rw [HS4.out]; omega)) 7 rfl
    go_wp2
    exact hK.out _ (Below.refl _ _)
  apply grow_eq
  · intro V W K A hW hd hA hK
    simp only [putAll, List.getElem?_toArray, List.getElem?_cons_succ, List.getElem?_cons_zero, Option.bind_some, Act.put, List.setIfInBounds_toArray, List.set_cons_succ, List.set_cons_zero] at hA
    clear hd
    generalize V 0 = x0 at hA
    generalize V 1 = x1 at hA
    generalize V 2 = x2 at hA
    generalize V 3 = x3 at hA
    generalize V 4 = x4 at hA
    generalize V 5 = x5 at hA
    generalize V 6 = x6 at hA
    generalize V 7 = x7 at hA
    obtain rfl := hA
    have e0 := blk_cell (below_blk hW U0.out (by rw [HS4.out]; omega)) 0 rfl
    have e1 := blk_cell (below_blk hW U0.out (by rw [HS4.out]; omega)) 1 rfl
    have e2 := blk_cell (below_blk hW U0.out (by rw [HS4.out]; omega)) 2 rfl
    have e3 := blk_cell (below_blk hW U0.out (by rw [HS4.out]; omega)) 3 rfl
    go_wp2
    exact hK.out _ (Below.refl _ _)
  apply grow_eq
  · intro V W K A hW hd hA hK
    simp only [putAll, List.getElem?_toArray, List.getElem?_cons_succ, List.getElem?_cons_zero, Option.bind_some, Act.put, List.setIfInBounds_toArray, List.set_cons_succ, List.set_cons_zero] at hA
    clear hd
    generalize V 0 = x0 at hA
    generalize V 1 = x1 at hA
    generalize V 2 = x2 at hA
    generalize V 3 = x3 at hA
    generalize V 4 = x4 at hA
    generalize V 5 = x5 at hA
    generalize V 6 = x6 at hA
    generalize V 7 = x7 at hA
    obtain rfl := hA
    have v0 := blk_cell (below_blk hW U1.out (by rw [HS4.out]; omega)) 0 rfl
    have v1 := blk_cell (below_blk hW U1.out (by rw [HS4.out]; omega)) 1 rfl
    have v2 := blk_cell (below_blk hW U1.out (by rw [HS4.out]; omega)) 2 rfl
    have v3 := blk_cell (below_blk hW U1.out (by rw [HS4.out]; omega)) 3 rfl
    have v4 := blk_cell (below_blk hW U1.out (by rw [HS4.out]; omega)) 4 rfl
    have v5 := blk_cell (below_blk hW U1.out (by rw [HS4.out]; omega)) 5 rfl
    have v6 := blk_cell (below_blk hW U1.out (by rw [HS4.out]; omega)) 6 rfl
    have v7 := blk_cell (below_blk hW U1.out (by rw [HS4.out]; omega)) 7 rfl
    have v8 := blk_cell (below_blk hW U1.out (by rw [HS4.out]; omega)) 8 rfl
    have v9 := blk_cell (below_blk hW U1.out (by rw [HS4.out]; omega)) 9 rfl
    have v10 := blk_cell (below_blk hW U1.out (by rw [HS4.out]; omega)) 10 rfl
    have v11 := blk_cell (below_blk hW U1.out (by rw [HS4.out]; omega)) 11 rfl
    have v12 := blk_cell (below_blk hW U1.out (by rw [HS4.out]; omega)) 12 rfl
    go_wp2
    exact hK.out _ (Below.refl _ _)
  apply grow_eq
  · intro V W K A hW hd hA hK
    simp only [putAll, List.getElem?_toArray, List.getElem?_cons_succ, List.getElem?_cons_zero, Option.bind_some, Act.put, List.setIfInBounds_toArray, List.set_cons_succ, List.set_cons_zero] at hA
    clear hd
    generalize V 0 = x0 at hA
    generalize V 1 = x1 at hA
    generalize V 2 = x2 at hA
    generalize V 3 = x3 at hA
    generalize V 4 = x4 at hA
    generalize V 5 = x5 at hA
    generalize V 6 = x6 at hA
    generalize V 7 = x7 at hA
    obtain rfl := hA
    go_wp2
    exact hK.out _ (Below.refl _ _)
  refine grow_op (fun v W => ∃ g cap, v = .slice (some ⟨g, 0, none⟩) M.length cap ∧ RowIs W 3 1 g M.length cap (intsV M)) (fun v W W2 ⟨g, cap, h1, h2⟩ hb => ⟨g, cap, h1, h2.below hb h2.lt⟩) ?_ ?_
  · intro V W K A hW hd hA hK
    have d3 : V 3 = _ := hd 3 (by kernel_rfl)
    have d4 : V 4 = _ := hd 4 (by kernel_rfl)
    have d5 : V 5 = _ := hd 5 (by kernel_rfl)
    simp only [putAll, List.getElem?_toArray, List.getElem?_cons_succ, List.getElem?_cons_zero, Option.bind_some, Act.put, List.setIfInBounds_toArray, List.set_cons_succ, List.set_cons_zero] at hA
    clear hd
    generalize V 0 = x0 at hA
    generalize V 1 = x1 at hA
    generalize V 2 = x2 at hA
    generalize V 3 = x3 at d3 hA
    generalize V 4 = x4 at d4 hA
    generalize V 5 = x5 at d5 hA
    generalize V 6 = x6 at hA
    generalize V 7 = x7 at hA
    subst d3
    subst d4
    subst d5
    obtain rfl := hA
    go_wp2_with fail
    refine (HCS.out _ (hB.below (hbw1.trans (hW.mono hbw1.size)))).mono ?_
    rintro e w3 ⟨gM, capM, rfl, hgM, hrM, hb3⟩
    have HRM : Hid (RowIs w3 3 1 gM M.length capM (intsV M)) := hrM
    clear hrM
    go_wp2
    exact hK.out _ _ hb3 ⟨gM, capM, rfl, HRM.out⟩
  refine grow_op (fun v W => IsAct (w.heap.size + 1 + 1 + 1 + 1) W v AA) (fun v W W2 h hb => h.below hb) ?_ ?_
  · intro V W K A hW hd hA hK
    have d0 : V 0 = _ := hd 0 (by kernel_rfl)
    have d1 : V 1 = _ := hd 1 (by kernel_rfl)
    have d2 : V 2 = _ := hd 2 (by kernel_rfl)
    have d6 : (fun v W => ∃ g cap, v = .slice (some ⟨g, 0, none⟩) M.length cap ∧ RowIs W 3 1 g M.length cap (intsV M)) (V 6) W := hd 6 (by kernel_rfl)
    simp only [putAll, List.getElem?_toArray, List.getElem?_cons_succ, List.getElem?_cons_zero, Option.bind_some, Act.put, List.setIfInBounds_toArray, List.set_cons_succ, List.set_cons_zero] at hA
    clear hd
    generalize V 0 = x0 at d0 hA
    generalize V 1 = x1 at d1 hA
    generalize V 2 = x2 at d2 hA
    generalize V 3 = x3 at hA
    generalize V 4 = x4 at hA
    generalize V 5 = x5 at hA
    generalize V 6 = x6 at d6 hA
    generalize V 7 = x7 at hA
    subst d0
    subst d1
    subst d2
    obtain rfl := hA
    obtain ⟨gM, capM, rfl, hrM⟩ := d6
    have HRM : Hid (RowIs W 3 1 gM M.length capM (intsV M)) := hrM
    clear hrM
    have hzW := (HS4.out ▸ hW.size : w.heap.size + 1 + 1 + 1 + 1 ≤ W.heap.size)
    go_wp2_with fail
    refine (HCR.out _ gM capM (hB.below (hbw1.trans (hW.mono hbw1.size))) HRM.out).mono ?_
    rintro e w3 ⟨v, rfl, hA3, hb3⟩
    have HA3 : Hid (IsAct (w.heap.size + 1 + 1 + 1 + 1) w3 v AA) := hA3.low (by omega)
    clear hA3
    go_wp2
    exact hK.out _ _ hb3 HA3.out
  intro V W A hW hS hA
  have d0 : V 0 = _ := hS 0 (by omega)
  have d1 : V 1 = _ := hS 1 (by omega)
  have d2 : V 2 = _ := hS 2 (by omega)
  have d3 : V 3 = _ := hS 3 (by omega)
  have d4 : V 4 = _ := hS 4 (by omega)
  have d5 : V 5 = _ := hS 5 (by omega)
  have d6 : (fun v W => ∃ g cap, v = .slice (some ⟨g, 0, none⟩) M.length cap ∧ RowIs W 3 1 g M.length cap (intsV M)) (V 6) W := hS 6 (by omega)
  have d7 : (fun v W => IsAct (w.heap.size + 1 + 1 + 1 + 1) W v AA) (V 7) W := hS 7 (by omega)
  simp only [putAll, List.getElem?_toArray, List.getElem?_cons_succ, List.getElem?_cons_zero, Option.bind_some, Act.put, List.setIfInBounds_toArray, List.set_cons_succ, List.set_cons_zero] at hA
  clear hS
  generalize V 0 = x0 at d0 hA
  generalize V 1 = x1 at d1 hA
  generalize V 2 = x2 at d2 hA
  generalize V 3 = x3 at d3 hA
  generalize V 4 = x4 at d4 hA
  generalize V 5 = x5 at d5 hA
  generalize V 6 = x6 at d6 hA
  generalize V 7 = x7 at d7 hA
  subst d0
  subst d1
  subst d2
  subst d3
  subst d4
  subst d5
  obtain rfl := hA
  simp only [List.drop_succ_cons, List.drop_zero]
  obtain ⟨ae, ce, rfl, hE⟩ := d7
  clear d6
  have hbwW := hbw1.trans (hW.mono hbw1.size)
  have Y2 : Hid (W.heap[w.heap.size + 1 + 1]? = some (.cells #[.string ⟨#[]⟩, .int .i64 0, .int .i64 0, .int .i64 0, .int .i64 0, .bool false, .slice none 0 0, .bool false] 59 (0, 0))) := below_blk hW U2.out (by rw [HS4.out]; omega)
  have HE2 : Hid (SlEn (w.heap.size + 1 + 1 + 1 + 1) W ae AA.ends) := hE
  clear hW hE
  go_wp2_with (refine wpList_store_only rfl 59 (.tmp 6) (.tmp 63) rfl (w.heap.size + 1 + 1) 0 #[.string AA.service, .int .i64 AA.seen, .int .i64 AA.create, .int .i64 AA.want, .int .i64 AA.cool, .bool AA.scale, .slice ae AA.ends.length ce, .bool AA.drop] rfl rfl 59 #[.string ⟨#[]⟩, .int .i64 0, .int .i64 0, .int .i64 0, .int .i64 0, .bool false, .slice none 0 0, .bool false] Y2.out Tryz.infosAct (Nat.le_of_ble_eq_true rfl) (one_Act AA ae ce) ?_; intro wf hz on; have RF : Hid (wf.heap[w.heap.size + 1 + 1]? = some (.cells #[.string AA.service, .int .i64 AA.seen, .int .i64 AA.create, .int .i64 AA.want, .int .i64 AA.cool, .bool AA.scale, .slice ae AA.ends.length ce, .bool AA.drop] 59 (0, 0))) := hz; have hbf := hbwW.trans (on.below.mono (by omega)); have HEF : Hid (SlEn w.heap.size wf ae AA.ends) := HE2.out.only on (by omega) (by omega); clear hz on; have p0 := blk_cell RF.out 0 rfl; have p1 := blk_cell RF.out 1 rfl; have p2 := blk_cell RF.out 2 rfl; have p3 := blk_cell RF.out 3 rfl; have p4 := blk_cell RF.out 4 rfl; have p5 := blk_cell RF.out 5 rfl; have p6 := blk_cell RF.out 6 rfl; have p7 := blk_cell RF.out 7 rfl)
  refine bodyPost_ret (v := .agg #[.string AA.service, .int .i64 AA.seen, .int .i64 AA.create, .int .i64 AA.want, .int .i64 AA.cool, .bool AA.scale, .slice ae AA.ends.length ce, .bool AA.drop]) (by simp [results, Tryz.results23, go_sem, p0, p1, p2, p3, p4, p5, p6, p7]) rfl ⟨_, rfl, ⟨ae, ce, rfl, HEF.out⟩, hbf⟩

set_option maxRecDepth 100000 in
set_option maxHeartbeats 16000000 in
theorem l5Act_6 (B : Bk) (s : Svc) (hg : s.gone = false) (n2 : Nat) (hn2 : Hid ((someL B s fun c => c.image != s.image).length = n2)) (_hnn : n2 ≤ 1048576) (hc : ((n2 : Int) == 0) = true) (a1 a2 a3 : Option Addr) (c1 c2 c3 : Nat) (w : World) (hS : B.small) (hV : Valid B) (hsi : SvcIn s) (hB : BkAt w a1 a2 a3 B) :
    Calls Tryz.prog 23 #[.int .i64 6, .agg #[.int .i64 B.now, .slice a1 B.svcs.length c1, .slice a2 B.cps.length c2, .slice a3 B.bts.length c3], .agg #[.string s.name, .int .i64 s.version, .bool s.gone, .int .i64 s.image, .int .i64 s.want, .int .i64 s.down, .int .i64 s.over, .int .i64 s.next, .int .i64 s.per, .int .i64 s.least, .int .i64 s.most, .int .i64 s.load, .int .i64 s.cool]] w fun e w' => ∃ v, e = .returned v ∧ IsAct w.heap.size w' v (replaceA B s (someL B s fun c => drainsB B c)) ∧ Below w.heap.size w w' := by
  obtain ⟨t0, t1, t2, t3, t4⟩ := four_new w (.cells #[.int .i64 B.now, .slice a1 B.svcs.length c1, .slice a2 B.cps.length c2, .slice a3 B.bts.length c3] 34) (.cells #[.string s.name, .int .i64 s.version, .bool s.gone, .int .i64 s.image, .int .i64 s.want, .int .i64 s.down, .int .i64 s.over, .int .i64 s.next, .int .i64 s.per, .int .i64 s.least, .int .i64 s.most, .int .i64 s.load, .int .i64 s.cool] 48) (.cells #[.string ⟨#[]⟩, .int .i64 0, .int .i64 0, .int .i64 0, .int .i64 0, .bool false, .slice none 0 0, .bool false] 59) (.cells #[.string s.name, .int .i64 s.version, .int .i64 0, .int .i64 0, .int .i64 0, .bool false, .slice none 0 0, .bool false] 59)
  have U0 : Hid _ := t0
  have U1 : Hid _ := t1
  have U2 : Hid _ := t2
  have U3 : Hid _ := t3
  have HS4 : Hid _ := t4
  clear t0 t1 t2 t3 t4
  have hbw1 : Below w.heap.size w ((((w.alloc (.cells #[.int .i64 B.now, .slice a1 B.svcs.length c1, .slice a2 B.cps.length c2, .slice a3 B.bts.length c3] 34)).alloc (.cells #[.string s.name, .int .i64 s.version, .bool s.gone, .int .i64 s.image, .int .i64 s.want, .int .i64 s.down, .int .i64 s.over, .int .i64 s.next, .int .i64 s.per, .int .i64 s.least, .int .i64 s.most, .int .i64 s.load, .int .i64 s.cool] 48)).alloc (.cells #[.string ⟨#[]⟩, .int .i64 0, .int .i64 0, .int .i64 0, .int .i64 0, .bool false, .slice none 0 0, .bool false] 59)).alloc (.cells #[.string s.name, .int .i64 s.version, .int .i64 0, .int .i64 0, .int .i64 0, .bool false, .slice none 0 0, .bool false] 59)) := ((((Below.refl _ _).alloc (Nat.le_refl _) _).alloc (by simp) _).alloc (by simp; omega) _).alloc (by simp; omega) _
  have hl := hS
  obtain ⟨hl1, hl2, hl3⟩ := hl
  obtain ⟨M, HMM⟩ : ∃ M, Hid ((someL B s fun c => drainsB B c) = M) := ⟨_, rfl⟩
  have HML : Hid (∀ i ∈ M, i < B.cps.length) := fun i hi => by rw [← HMM.out] at hi; exact liveTo_lt (List.mem_filter.1 hi).1
  have hMn : M.length ≤ B.cps.length := by rw [← HMM.out]; exact Nat.le_trans (List.length_filter_le _ _) (liveTo_len _ _ _)
  have HCS := hid_of (fun (W : World) (h : BkAt W a1 a2 a3 B) => l5Some_6 B s a1 a2 a3 c1 c2 c3 W hS h)
  rw [HMM.out] at HCS
  have HCR := hid_of (fun (W : World) (gM capM : Nat) (h : BkAt W a1 a2 a3 B) (hr : RowIs W 3 1 gM M.length capM (intsV M)) => l5Replace_any B s M gM capM a1 a2 a3 c1 c2 c3 W hS hV hsi h HML.out (by omega) hr)
  rw [HMM.out]
  obtain ⟨AA, HAA⟩ : ∃ A, Hid (replaceA B s M = A) := ⟨_, rfl⟩
  rw [HAA.out] at HCR
  rw [HAA.out]
  rw [hg] at U0 U1 U2 U3 HS4 hbw1 HCS HCR
  have HC2 := hid_of (fun (W : World) (h : BkAt W a1 a2 a3 B) => l5Some_2 B s a1 a2 a3 c1 c2 c3 W hS h)
  rw [hn2.out] at HC2
  rw [hg] at HC2
  have e0 := blk_cell U0.out 0 rfl
  have e1 := blk_cell U0.out 1 rfl
  have e2 := blk_cell U0.out 2 rfl
  have e3 := blk_cell U0.out 3 rfl
  have v0 := blk_cell U1.out 0 rfl
  have v1 := blk_cell U1.out 1 rfl
  have v2 := blk_cell U1.out 2 rfl
  have v3 := blk_cell U1.out 3 rfl
  have v4 := blk_cell U1.out 4 rfl
  have v5 := blk_cell U1.out 5 rfl
  have v6 := blk_cell U1.out 6 rfl
  have v7 := blk_cell U1.out 7 rfl
  have v8 := blk_cell U1.out 8 rfl
  have v9 := blk_cell U1.out 9 rfl
  have v10 := blk_cell U1.out 10 rfl
  have v11 := blk_cell U1.out 11 rfl
  have v12 := blk_cell U1.out 12 rfl
  go_enter Tryz.func23, Tryz.ntmps23
  go_wp2_with fail
  refine (HC2.out _ (hB.below hbw1)).mono ?_
  rintro e w2 ⟨g2, cap2, rfl, _, _, hb2⟩
  clear e0 e1 e2 e3 v0 v1 v2 v3 v4 v5 v6 v7 v8 v9 v10 v11 v12 HC2
  have hbw2 := hbw1.trans (hb2.mono hbw1.size)
  rw [HS4.out] at hb2
  have X0 := hid_of (below_blk hb2 U0.out (by omega))
  have X1 := hid_of (below_blk hb2 U1.out (by omega))
  have X2 := hid_of (below_blk hb2 U2.out (by omega))
  have X3 := hid_of (below_blk hb2 U3.out (by omega))
  have hz2 := hb2.size
  rw [HS4.out] at hz2
  clear hb2 U0 U1 U2 U3 HS4 hbw1
  go_wp2
  clear hg
  refine wp_region_grows 8 (by kernel_rfl) (by kernel_rfl) ?_
  apply grow_eq
  · intro V W K A hW hd hA hK
    simp only [putAll, List.getElem?_toArray, List.getElem?_cons_succ, List.getElem?_cons_zero, Option.bind_some, Act.put, List.setIfInBounds_toArray, List.set_cons_succ, List.set_cons_zero] at hA
    clear hd
    generalize V 0 = x0 at hA
    generalize V 1 = x1 at hA
    generalize V 2 = x2 at hA
    generalize V 3 = x3 at hA
    generalize V 4 = x4 at hA
    generalize V 5 = x5 at hA
    generalize V 6 = x6 at hA
    generalize V 7 = x7 at hA
    obtain rfl := hA
    have e0 := blk_cell (below_blk hW X0.out (by omega)) 0 rfl
    have e1 := blk_cell (below_blk hW X0.out (by omega)) 1 rfl
    have e2 := blk_cell (below_blk hW X0.out (by omega)) 2 rfl
    have e3 := blk_cell (below_blk hW X0.out (by omega)) 3 rfl
    go_wp2
    exact hK.out _ (Below.refl _ _)
  apply grow_eq
  · intro V W K A hW hd hA hK
    simp only [putAll, List.getElem?_toArray, List.getElem?_cons_succ, List.getElem?_cons_zero, Option.bind_some, Act.put, List.setIfInBounds_toArray, List.set_cons_succ, List.set_cons_zero] at hA
    clear hd
    generalize V 0 = x0 at hA
    generalize V 1 = x1 at hA
    generalize V 2 = x2 at hA
    generalize V 3 = x3 at hA
    generalize V 4 = x4 at hA
    generalize V 5 = x5 at hA
    generalize V 6 = x6 at hA
    generalize V 7 = x7 at hA
    obtain rfl := hA
    have v0 := blk_cell (below_blk hW X1.out (by omega)) 0 rfl
    have v1 := blk_cell (below_blk hW X1.out (by omega)) 1 rfl
    have v2 := blk_cell (below_blk hW X1.out (by omega)) 2 rfl
    have v3 := blk_cell (below_blk hW X1.out (by omega)) 3 rfl
    have v4 := blk_cell (below_blk hW X1.out (by omega)) 4 rfl
    have v5 := blk_cell (below_blk hW X1.out (by omega)) 5 rfl
    have v6 := blk_cell (below_blk hW X1.out (by omega)) 6 rfl
    have v7 := blk_cell (below_blk hW X1.out (by omega)) 7 rfl
    have v8 := blk_cell (below_blk hW X1.out (by omega)) 8 rfl
    have v9 := blk_cell (below_blk hW X1.out (by omega)) 9 rfl
    have v10 := blk_cell (below_blk hW X1.out (by omega)) 10 rfl
    have v11 := blk_cell (below_blk hW X1.out (by omega)) 11 rfl
    have v12 := blk_cell (below_blk hW X1.out (by omega)) 12 rfl
    go_wp2
    exact hK.out _ (Below.refl _ _)
  apply grow_eq
  · intro V W K A hW hd hA hK
    simp only [putAll, List.getElem?_toArray, List.getElem?_cons_succ, List.getElem?_cons_zero, Option.bind_some, Act.put, List.setIfInBounds_toArray, List.set_cons_succ, List.set_cons_zero] at hA
    clear hd
    generalize V 0 = x0 at hA
    generalize V 1 = x1 at hA
    generalize V 2 = x2 at hA
    generalize V 3 = x3 at hA
    generalize V 4 = x4 at hA
    generalize V 5 = x5 at hA
    generalize V 6 = x6 at hA
    generalize V 7 = x7 at hA
    obtain rfl := hA
    have z0 := blk_cell (below_blk hW X3.out (by omega)) 0 rfl
    have z1 := blk_cell (below_blk hW X3.out (by omega)) 1 rfl
    have z2 := blk_cell (below_blk hW X3.out (by omega)) 2 rfl
    have z3 := blk_cell (below_blk hW X3.out (by omega)) 3 rfl
    have z4 := blk_cell (below_blk hW X3.out (by omega)) 4 rfl
    have z5 := blk_cell (below_blk hW X3.out (by omega)) 5 rfl
    have z6 := blk_cell (below_blk hW X3.out (by omega)) 6 rfl
    have z7 := blk_cell (below_blk hW X3.out (by omega)) 7 rfl
    go_wp2
    exact hK.out _ (Below.refl _ _)
  apply grow_eq
  · intro V W K A hW hd hA hK
    simp only [putAll, List.getElem?_toArray, List.getElem?_cons_succ, List.getElem?_cons_zero, Option.bind_some, Act.put, List.setIfInBounds_toArray, List.set_cons_succ, List.set_cons_zero] at hA
    clear hd
    generalize V 0 = x0 at hA
    generalize V 1 = x1 at hA
    generalize V 2 = x2 at hA
    generalize V 3 = x3 at hA
    generalize V 4 = x4 at hA
    generalize V 5 = x5 at hA
    generalize V 6 = x6 at hA
    generalize V 7 = x7 at hA
    obtain rfl := hA
    have e0 := blk_cell (below_blk hW X0.out (by omega)) 0 rfl
    have e1 := blk_cell (below_blk hW X0.out (by omega)) 1 rfl
    have e2 := blk_cell (below_blk hW X0.out (by omega)) 2 rfl
    have e3 := blk_cell (below_blk hW X0.out (by omega)) 3 rfl
    go_wp2
    exact hK.out _ (Below.refl _ _)
  apply grow_eq
  · intro V W K A hW hd hA hK
    simp only [putAll, List.getElem?_toArray, List.getElem?_cons_succ, List.getElem?_cons_zero, Option.bind_some, Act.put, List.setIfInBounds_toArray, List.set_cons_succ, List.set_cons_zero] at hA
    clear hd
    generalize V 0 = x0 at hA
    generalize V 1 = x1 at hA
    generalize V 2 = x2 at hA
    generalize V 3 = x3 at hA
    generalize V 4 = x4 at hA
    generalize V 5 = x5 at hA
    generalize V 6 = x6 at hA
    generalize V 7 = x7 at hA
    obtain rfl := hA
    have v0 := blk_cell (below_blk hW X1.out (by omega)) 0 rfl
    have v1 := blk_cell (below_blk hW X1.out (by omega)) 1 rfl
    have v2 := blk_cell (below_blk hW X1.out (by omega)) 2 rfl
    have v3 := blk_cell (below_blk hW X1.out (by omega)) 3 rfl
    have v4 := blk_cell (below_blk hW X1.out (by omega)) 4 rfl
    have v5 := blk_cell (below_blk hW X1.out (by omega)) 5 rfl
    have v6 := blk_cell (below_blk hW X1.out (by omega)) 6 rfl
    have v7 := blk_cell (below_blk hW X1.out (by omega)) 7 rfl
    have v8 := blk_cell (below_blk hW X1.out (by omega)) 8 rfl
    have v9 := blk_cell (below_blk hW X1.out (by omega)) 9 rfl
    have v10 := blk_cell (below_blk hW X1.out (by omega)) 10 rfl
    have v11 := blk_cell (below_blk hW X1.out (by omega)) 11 rfl
    have v12 := blk_cell (below_blk hW X1.out (by omega)) 12 rfl
    go_wp2
    exact hK.out _ (Below.refl _ _)
  apply grow_eq
  · intro V W K A hW hd hA hK
    simp only [putAll, List.getElem?_toArray, List.getElem?_cons_succ, List.getElem?_cons_zero, Option.bind_some, Act.put, List.setIfInBounds_toArray, List.set_cons_succ, List.set_cons_zero] at hA
    clear hd
    generalize V 0 = x0 at hA
    generalize V 1 = x1 at hA
    generalize V 2 = x2 at hA
    generalize V 3 = x3 at hA
    generalize V 4 = x4 at hA
    generalize V 5 = x5 at hA
    generalize V 6 = x6 at hA
    generalize V 7 = x7 at hA
    obtain rfl := hA
    go_wp2
    exact hK.out _ (Below.refl _ _)
  refine grow_op (fun v W => ∃ g cap, v = .slice (some ⟨g, 0, none⟩) M.length cap ∧ RowIs W 3 1 g M.length cap (intsV M)) (fun v W W2 ⟨g, cap, h1, h2⟩ hb => ⟨g, cap, h1, h2.below hb h2.lt⟩) ?_ ?_
  · intro V W K A hW hd hA hK
    have d3 : V 3 = _ := hd 3 (by kernel_rfl)
    have d4 : V 4 = _ := hd 4 (by kernel_rfl)
    have d5 : V 5 = _ := hd 5 (by kernel_rfl)
    simp only [putAll, List.getElem?_toArray, List.getElem?_cons_succ, List.getElem?_cons_zero, Option.bind_some, Act.put, List.setIfInBounds_toArray, List.set_cons_succ, List.set_cons_zero] at hA
    clear hd
    generalize V 0 = x0 at hA
    generalize V 1 = x1 at hA
    generalize V 2 = x2 at hA
    generalize V 3 = x3 at d3 hA
    generalize V 4 = x4 at d4 hA
    generalize V 5 = x5 at d5 hA
    generalize V 6 = x6 at hA
    generalize V 7 = x7 at hA
    subst d3
    subst d4
    subst d5
    obtain rfl := hA
    go_wp2_with fail
    refine (HCS.out _ (hB.below (hbw2.trans (hW.mono hbw2.size)))).mono ?_
    rintro e w3 ⟨gM, capM, rfl, hgM, hrM, hb3⟩
    have HRM : Hid (RowIs w3 3 1 gM M.length capM (intsV M)) := hrM
    clear hrM
    go_wp2
    exact hK.out _ _ hb3 ⟨gM, capM, rfl, HRM.out⟩
  refine grow_op (fun v W => IsAct (w.heap.size + 1 + 1 + 1 + 1) W v AA) (fun v W W2 h hb => h.below hb) ?_ ?_
  · intro V W K A hW hd hA hK
    have d0 : V 0 = _ := hd 0 (by kernel_rfl)
    have d1 : V 1 = _ := hd 1 (by kernel_rfl)
    have d2 : V 2 = _ := hd 2 (by kernel_rfl)
    have d6 : (fun v W => ∃ g cap, v = .slice (some ⟨g, 0, none⟩) M.length cap ∧ RowIs W 3 1 g M.length cap (intsV M)) (V 6) W := hd 6 (by kernel_rfl)
    simp only [putAll, List.getElem?_toArray, List.getElem?_cons_succ, List.getElem?_cons_zero, Option.bind_some, Act.put, List.setIfInBounds_toArray, List.set_cons_succ, List.set_cons_zero] at hA
    clear hd
    generalize V 0 = x0 at d0 hA
    generalize V 1 = x1 at d1 hA
    generalize V 2 = x2 at d2 hA
    generalize V 3 = x3 at hA
    generalize V 4 = x4 at hA
    generalize V 5 = x5 at hA
    generalize V 6 = x6 at d6 hA
    generalize V 7 = x7 at hA
    subst d0
    subst d1
    subst d2
    obtain rfl := hA
    obtain ⟨gM, capM, rfl, hrM⟩ := d6
    have HRM : Hid (RowIs W 3 1 gM M.length capM (intsV M)) := hrM
    clear hrM
    have hzW := hW.size
    go_wp2_with fail
    refine (HCR.out _ gM capM (hB.below (hbw2.trans (hW.mono hbw2.size))) HRM.out).mono ?_
    rintro e w3 ⟨v, rfl, hA3, hb3⟩
    have HA3 : Hid (IsAct (w.heap.size + 1 + 1 + 1 + 1) w3 v AA) := hA3.low (by omega)
    clear hA3
    go_wp2
    exact hK.out _ _ hb3 HA3.out
  intro V W A hW hS hA
  have d0 : V 0 = _ := hS 0 (by omega)
  have d1 : V 1 = _ := hS 1 (by omega)
  have d2 : V 2 = _ := hS 2 (by omega)
  have d3 : V 3 = _ := hS 3 (by omega)
  have d4 : V 4 = _ := hS 4 (by omega)
  have d5 : V 5 = _ := hS 5 (by omega)
  have d6 : (fun v W => ∃ g cap, v = .slice (some ⟨g, 0, none⟩) M.length cap ∧ RowIs W 3 1 g M.length cap (intsV M)) (V 6) W := hS 6 (by omega)
  have d7 : (fun v W => IsAct (w.heap.size + 1 + 1 + 1 + 1) W v AA) (V 7) W := hS 7 (by omega)
  simp only [putAll, List.getElem?_toArray, List.getElem?_cons_succ, List.getElem?_cons_zero, Option.bind_some, Act.put, List.setIfInBounds_toArray, List.set_cons_succ, List.set_cons_zero] at hA
  clear hS
  generalize V 0 = x0 at d0 hA
  generalize V 1 = x1 at d1 hA
  generalize V 2 = x2 at d2 hA
  generalize V 3 = x3 at d3 hA
  generalize V 4 = x4 at d4 hA
  generalize V 5 = x5 at d5 hA
  generalize V 6 = x6 at d6 hA
  generalize V 7 = x7 at d7 hA
  subst d0
  subst d1
  subst d2
  subst d3
  subst d4
  subst d5
  obtain rfl := hA
  simp only [List.drop_succ_cons, List.drop_zero]
  obtain ⟨ae, ce, rfl, hE⟩ := d7
  clear d6
  have hbwW := hbw2.trans (hW.mono hbw2.size)
  have Y2 : Hid (W.heap[w.heap.size + 1 + 1]? = some (.cells #[.string ⟨#[]⟩, .int .i64 0, .int .i64 0, .int .i64 0, .int .i64 0, .bool false, .slice none 0 0, .bool false] 59 (0, 0))) := below_blk hW X2.out (by omega)
  have HE2 : Hid (SlEn (w.heap.size + 1 + 1 + 1 + 1) W ae AA.ends) := hE
  clear hW hE
  go_wp2_with (refine wpList_store_only rfl 59 (.tmp 6) (.tmp 78) rfl (w.heap.size + 1 + 1) 0 #[.string AA.service, .int .i64 AA.seen, .int .i64 AA.create, .int .i64 AA.want, .int .i64 AA.cool, .bool AA.scale, .slice ae AA.ends.length ce, .bool AA.drop] rfl rfl 59 #[.string ⟨#[]⟩, .int .i64 0, .int .i64 0, .int .i64 0, .int .i64 0, .bool false, .slice none 0 0, .bool false] Y2.out Tryz.infosAct (Nat.le_of_ble_eq_true rfl) (one_Act AA ae ce) ?_; intro wf hz on; have RF : Hid (wf.heap[w.heap.size + 1 + 1]? = some (.cells #[.string AA.service, .int .i64 AA.seen, .int .i64 AA.create, .int .i64 AA.want, .int .i64 AA.cool, .bool AA.scale, .slice ae AA.ends.length ce, .bool AA.drop] 59 (0, 0))) := hz; have hbf := hbwW.trans (on.below.mono (by omega)); have HEF : Hid (SlEn w.heap.size wf ae AA.ends) := HE2.out.only on (by omega) (by omega); clear hz on; have p0 := blk_cell RF.out 0 rfl; have p1 := blk_cell RF.out 1 rfl; have p2 := blk_cell RF.out 2 rfl; have p3 := blk_cell RF.out 3 rfl; have p4 := blk_cell RF.out 4 rfl; have p5 := blk_cell RF.out 5 rfl; have p6 := blk_cell RF.out 6 rfl; have p7 := blk_cell RF.out 7 rfl)
  refine bodyPost_ret (v := .agg #[.string AA.service, .int .i64 AA.seen, .int .i64 AA.create, .int .i64 AA.want, .int .i64 AA.cool, .bool AA.scale, .slice ae AA.ends.length ce, .bool AA.drop]) (by simp [results, Tryz.results23, go_sem, p0, p1, p2, p3, p4, p5, p6, p7]) rfl ⟨_, rfl, ⟨ae, ce, rfl, HEF.out⟩, hbf⟩

set_option maxRecDepth 100000 in
set_option maxHeartbeats 16000000 in
theorem l5Act_6x (B : Bk) (s : Svc) (hg : s.gone = false) (n2 : Nat) (hn2 : Hid ((someL B s fun c => c.image != s.image).length = n2)) (_hnn : n2 ≤ 1048576) (hc : ((n2 : Int) == 0) = false) (a1 a2 a3 : Option Addr) (c1 c2 c3 : Nat) (w : World) (hS : B.small) (_hV : Valid B) (_hsi : SvcIn s) (hB : BkAt w a1 a2 a3 B) :
    Calls Tryz.prog 23 #[.int .i64 6, .agg #[.int .i64 B.now, .slice a1 B.svcs.length c1, .slice a2 B.cps.length c2, .slice a3 B.bts.length c3], .agg #[.string s.name, .int .i64 s.version, .bool s.gone, .int .i64 s.image, .int .i64 s.want, .int .i64 s.down, .int .i64 s.over, .int .i64 s.next, .int .i64 s.per, .int .i64 s.least, .int .i64 s.most, .int .i64 s.load, .int .i64 s.cool]] w fun e w' => ∃ v, e = .returned v ∧ IsAct w.heap.size w' v (a0 s) ∧ Below w.heap.size w w' := by
  obtain ⟨t0, t1, t2, t3, t4⟩ := four_new w (.cells #[.int .i64 B.now, .slice a1 B.svcs.length c1, .slice a2 B.cps.length c2, .slice a3 B.bts.length c3] 34) (.cells #[.string s.name, .int .i64 s.version, .bool s.gone, .int .i64 s.image, .int .i64 s.want, .int .i64 s.down, .int .i64 s.over, .int .i64 s.next, .int .i64 s.per, .int .i64 s.least, .int .i64 s.most, .int .i64 s.load, .int .i64 s.cool] 48) (.cells #[.string ⟨#[]⟩, .int .i64 0, .int .i64 0, .int .i64 0, .int .i64 0, .bool false, .slice none 0 0, .bool false] 59) (.cells #[.string s.name, .int .i64 s.version, .int .i64 0, .int .i64 0, .int .i64 0, .bool false, .slice none 0 0, .bool false] 59)
  have U0 : Hid _ := t0
  have U1 : Hid _ := t1
  have U2 : Hid _ := t2
  have U3 : Hid _ := t3
  have HS4 : Hid _ := t4
  clear t0 t1 t2 t3 t4
  have hbw1 : Below w.heap.size w ((((w.alloc (.cells #[.int .i64 B.now, .slice a1 B.svcs.length c1, .slice a2 B.cps.length c2, .slice a3 B.bts.length c3] 34)).alloc (.cells #[.string s.name, .int .i64 s.version, .bool s.gone, .int .i64 s.image, .int .i64 s.want, .int .i64 s.down, .int .i64 s.over, .int .i64 s.next, .int .i64 s.per, .int .i64 s.least, .int .i64 s.most, .int .i64 s.load, .int .i64 s.cool] 48)).alloc (.cells #[.string ⟨#[]⟩, .int .i64 0, .int .i64 0, .int .i64 0, .int .i64 0, .bool false, .slice none 0 0, .bool false] 59)).alloc (.cells #[.string s.name, .int .i64 s.version, .int .i64 0, .int .i64 0, .int .i64 0, .bool false, .slice none 0 0, .bool false] 59)) := ((((Below.refl _ _).alloc (Nat.le_refl _) _).alloc (by simp) _).alloc (by simp; omega) _).alloc (by simp; omega) _
  have hl := hS
  obtain ⟨hl1, hl2, hl3⟩ := hl
  rw [hg] at U0 U1 U2 U3 HS4 hbw1
  have HC2 := hid_of (fun (W : World) (h : BkAt W a1 a2 a3 B) => l5Some_2 B s a1 a2 a3 c1 c2 c3 W hS h)
  rw [hn2.out] at HC2
  rw [hg] at HC2
  have e0 := blk_cell U0.out 0 rfl
  have e1 := blk_cell U0.out 1 rfl
  have e2 := blk_cell U0.out 2 rfl
  have e3 := blk_cell U0.out 3 rfl
  have v0 := blk_cell U1.out 0 rfl
  have v1 := blk_cell U1.out 1 rfl
  have v2 := blk_cell U1.out 2 rfl
  have v3 := blk_cell U1.out 3 rfl
  have v4 := blk_cell U1.out 4 rfl
  have v5 := blk_cell U1.out 5 rfl
  have v6 := blk_cell U1.out 6 rfl
  have v7 := blk_cell U1.out 7 rfl
  have v8 := blk_cell U1.out 8 rfl
  have v9 := blk_cell U1.out 9 rfl
  have v10 := blk_cell U1.out 10 rfl
  have v11 := blk_cell U1.out 11 rfl
  have v12 := blk_cell U1.out 12 rfl
  go_enter Tryz.func23, Tryz.ntmps23
  go_wp2_with fail
  refine (HC2.out _ (hB.below hbw1)).mono ?_
  rintro e w2 ⟨g2, cap2, rfl, _, _, hb2⟩
  clear e0 e1 e2 e3 v0 v1 v2 v3 v4 v5 v6 v7 v8 v9 v10 v11 v12 HC2
  have hbw2 := hbw1.trans (hb2.mono hbw1.size)
  rw [HS4.out] at hb2
  have X0 := hid_of (below_blk hb2 U0.out (by omega))
  have X1 := hid_of (below_blk hb2 U1.out (by omega))
  have X2 := hid_of (below_blk hb2 U2.out (by omega))
  have X3 := hid_of (below_blk hb2 U3.out (by omega))
  have hz2 := hb2.size
  rw [HS4.out] at hz2
  clear hb2 U0 U1 U2 U3 HS4 hbw1
  have q0 := blk_cell X3.out 0 rfl
  have q1 := blk_cell X3.out 1 rfl
  have q2 := blk_cell X3.out 2 rfl
  have q3 := blk_cell X3.out 3 rfl
  have q4 := blk_cell X3.out 4 rfl
  have q5 := blk_cell X3.out 5 rfl
  have q6 := blk_cell X3.out 6 rfl
  have q7 := blk_cell X3.out 7 rfl
  go_wp2_with (refine wpList_store_only rfl 59 (.tmp 6) (.tmp 87) rfl (w.heap.size + 1 + 1) 0 #[.string s.name, .int .i64 s.version, .int .i64 0, .int .i64 0, .int .i64 0, .bool false, .slice none 0 0, .bool false] rfl rfl 59 #[.string ⟨#[]⟩, .int .i64 0, .int .i64 0, .int .i64 0, .int .i64 0, .bool false, .slice none 0 0, .bool false] X2.out Tryz.infosAct (Nat.le_of_ble_eq_true rfl) (by simp [Value.oneCell']) ?_; intro wf hz on; have RF : Hid (wf.heap[w.heap.size + 1 + 1]? = some (.cells #[.string s.name, .int .i64 s.version, .int .i64 0, .int .i64 0, .int .i64 0, .bool false, .slice none 0 0, .bool false] 59 (0, 0))) := hz; have hbf := hbw2.trans (on.below.mono (by omega)); have ONF : Hid (∀ k, k ≠ w.heap.size + 1 + 1 → wf.heap[k]? = _) := on.other; clear hz on; have p0 := blk_cell RF.out 0 rfl; have p1 := blk_cell RF.out 1 rfl; have p2 := blk_cell RF.out 2 rfl; have p3 := blk_cell RF.out 3 rfl; have p4 := blk_cell RF.out 4 rfl; have p5 := blk_cell RF.out 5 rfl; have p6 := blk_cell RF.out 6 rfl; have p7 := blk_cell RF.out 7 rfl)
  refine bodyPost_ret (v := .agg #[.string s.name, .int .i64 s.version, .int .i64 0, .int .i64 0, .int .i64 0, .bool false, .slice none 0 0, .bool false]) (by simp [results, Tryz.results23, go_sem, p0, p1, p2, p3, p4, p5, p6, p7]) rfl ⟨_, rfl, ?_, hbf⟩
  exact isAct_a0 _ _ s

end Go.Proofs.YtbceafpodamnfabGreat
