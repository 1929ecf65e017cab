/-
  My own: Pl.
-/
import Derived.Test.YtbceafpodamnfabGreatA15
set_option linter.unusedVariables false
set_option linter.unusedSimpArgs false
/-
  My own. What a steward asks for a service, by the specification.
-/
namespace Go.Proofs.YtbceafpodamnfabGreat
open Go.RowKit Go.Sort

theorem endsL_len (B : Bk) (L : List Nat) : (endsL B L).length = L.length := by simp [endsL]

set_option maxRecDepth 100000 in
set_option maxHeartbeats 16000000 in
theorem l5Act_3 (B : Bk) (s : Svc) (a1 a2 a3 : Option Addr) (c1 c2 c3 : Nat) (w : World) (hS : B.small) (_hV : Valid B) (_hsi : SvcIn s) (hB : BkAt w a1 a2 a3 B) :
    Calls Tryz.prog 23 #[.int .i64 3, .agg #[.int .i64 B.now, .slice a1 B.svcs.length c1, .slice a2 B.cps.length c2, .slice a3 B.bts.length c3], .agg #[.string s.name, .int .i64 s.version, .bool s.gone, .int .i64 s.image, .int .i64 s.want, .int .i64 s.down, .int .i64 s.over, .int .i64 s.next, .int .i64 s.per, .int .i64 s.least, .int .i64 s.most, .int .i64 s.load, .int .i64 s.cool]] w fun e w' => ∃ v, e = .returned v ∧ IsAct w.heap.size w' v ({ a0 s with ends := endsL B (someL B s fun c => c.state == 4) }) ∧ Below w.heap.size w w' := by
  obtain ⟨t0, t1, t2, t3, t4⟩ := four_new w (.cells #[.int .i64 B.now, .slice a1 B.svcs.length c1, .slice a2 B.cps.length c2, .slice a3 B.bts.length c3] 34) (.cells #[.string s.name, .int .i64 s.version, .bool s.gone, .int .i64 s.image, .int .i64 s.want, .int .i64 s.down, .int .i64 s.over, .int .i64 s.next, .int .i64 s.per, .int .i64 s.least, .int .i64 s.most, .int .i64 s.load, .int .i64 s.cool] 48) (.cells #[.string ⟨#[]⟩, .int .i64 0, .int .i64 0, .int .i64 0, .int .i64 0, .bool false, .slice none 0 0, .bool false] 59) (.cells #[.string s.name, .int .i64 s.version, .int .i64 0, .int .i64 0, .int .i64 0, .bool false, .slice none 0 0, .bool false] 59)
  have U0 : Hid _ := t0
  have U1 : Hid _ := t1
  have U2 : Hid _ := t2
  have U3 : Hid _ := t3
  have HS4 : Hid _ := t4
  clear t0 t1 t2 t3 t4
  have hbw1 : Below w.heap.size w ((((w.alloc (.cells #[.int .i64 B.now, .slice a1 B.svcs.length c1, .slice a2 B.cps.length c2, .slice a3 B.bts.length c3] 34)).alloc (.cells #[.string s.name, .int .i64 s.version, .bool s.gone, .int .i64 s.image, .int .i64 s.want, .int .i64 s.down, .int .i64 s.over, .int .i64 s.next, .int .i64 s.per, .int .i64 s.least, .int .i64 s.most, .int .i64 s.load, .int .i64 s.cool] 48)).alloc (.cells #[.string ⟨#[]⟩, .int .i64 0, .int .i64 0, .int .i64 0, .int .i64 0, .bool false, .slice none 0 0, .bool false] 59)).alloc (.cells #[.string s.name, .int .i64 s.version, .int .i64 0, .int .i64 0, .int .i64 0, .bool false, .slice none 0 0, .bool false] 59)) := ((((Below.refl _ _).alloc (Nat.le_refl _) _).alloc (by simp) _).alloc (by simp; omega) _).alloc (by simp; omega) _
  have hl := hS
  obtain ⟨hl1, hl2, hl3⟩ := hl
  obtain ⟨M, HMM⟩ : ∃ M, Hid ((someL B s fun c => c.state == 4) = M) := ⟨_, rfl⟩
  have HML : Hid (∀ i ∈ M, i < B.cps.length) := fun i hi => by rw [← HMM.out] at hi; exact liveTo_lt (List.mem_filter.1 hi).1
  have hMn : M.length ≤ B.cps.length := by rw [← HMM.out]; exact Nat.le_trans (List.length_filter_le _ _) (liveTo_len _ _ _)
  rw [HMM.out]
  go_enter Tryz.func23, Tryz.ntmps23
  go_wp2
  refine wp_region_grows 7 (by kernel_rfl) (by kernel_rfl) ?_
  apply grow_eq
  · intro V W K A hW hd hA hK
    simp only [putAll, List.getElem?_toArray, List.getElem?_cons_succ, List.getElem?_cons_zero, Option.bind_some, Act.put, List.setIfInBounds_toArray, List.set_cons_succ, List.set_cons_zero] at hA
    clear hd
    generalize V 0 = x0 at hA
    generalize V 1 = x1 at hA
    generalize V 2 = x2 at hA
    generalize V 3 = x3 at hA
    generalize V 4 = x4 at hA
    generalize V 5 = x5 at hA
    generalize V 6 = x6 at hA
    obtain rfl := hA
    have e0 := blk_cell (below_blk hW U0.out (by rw [HS4.out]; omega)) 0 rfl
    have e1 := blk_cell (below_blk hW U0.out (by rw [HS4.out]; omega)) 1 rfl
    have e2 := blk_cell (below_blk hW U0.out (by rw [HS4.out]; omega)) 2 rfl
    have e3 := blk_cell (below_blk hW U0.out (by rw [HS4.out]; omega)) 3 rfl
    go_wp2
    exact hK.out _ (Below.refl _ _)
  apply grow_eq
  · intro V W K A hW hd hA hK
    simp only [putAll, List.getElem?_toArray, List.getElem?_cons_succ, List.getElem?_cons_zero, Option.bind_some, Act.put, List.setIfInBounds_toArray, List.set_cons_succ, List.set_cons_zero] at hA
    clear hd
    generalize V 0 = x0 at hA
    generalize V 1 = x1 at hA
    generalize V 2 = x2 at hA
    generalize V 3 = x3 at hA
    generalize V 4 = x4 at hA
    generalize V 5 = x5 at hA
    generalize V 6 = x6 at hA
    obtain rfl := hA
    have e0 := blk_cell (below_blk hW U0.out (by rw [HS4.out]; omega)) 0 rfl
    have e1 := blk_cell (below_blk hW U0.out (by rw [HS4.out]; omega)) 1 rfl
    have e2 := blk_cell (below_blk hW U0.out (by rw [HS4.out]; omega)) 2 rfl
    have e3 := blk_cell (below_blk hW U0.out (by rw [HS4.out]; omega)) 3 rfl
    go_wp2
    exact hK.out _ (Below.refl _ _)
  apply grow_eq
  · intro V W K A hW hd hA hK
    simp only [putAll, List.getElem?_toArray, List.getElem?_cons_succ, List.getElem?_cons_zero, Option.bind_some, Act.put, List.setIfInBounds_toArray, List.set_cons_succ, List.set_cons_zero] at hA
    clear hd
    generalize V 0 = x0 at hA
    generalize V 1 = x1 at hA
    generalize V 2 = x2 at hA
    generalize V 3 = x3 at hA
    generalize V 4 = x4 at hA
    generalize V 5 = x5 at hA
    generalize V 6 = x6 at hA
    obtain rfl := hA
    have v0 := blk_cell (below_blk hW U1.out (by rw [HS4.out]; omega)) 0 rfl
    have v1 := blk_cell (below_blk hW U1.out (by rw [HS4.out]; omega)) 1 rfl
    have v2 := blk_cell (below_blk hW U1.out (by rw [HS4.out]; omega)) 2 rfl
    have v3 := blk_cell (below_blk hW U1.out (by rw [HS4.out]; omega)) 3 rfl
    have v4 := blk_cell (below_blk hW U1.out (by rw [HS4.out]; omega)) 4 rfl
    have v5 := blk_cell (below_blk hW U1.out (by rw [HS4.out]; omega)) 5 rfl
    have v6 := blk_cell (below_blk hW U1.out (by rw [HS4.out]; omega)) 6 rfl
    have v7 := blk_cell (below_blk hW U1.out (by rw [HS4.out]; omega)) 7 rfl
    have v8 := blk_cell (below_blk hW U1.out (by rw [HS4.out]; omega)) 8 rfl
    have v9 := blk_cell (below_blk hW U1.out (by rw [HS4.out]; omega)) 9 rfl
    have v10 := blk_cell (below_blk hW U1.out (by rw [HS4.out]; omega)) 10 rfl
    have v11 := blk_cell (below_blk hW U1.out (by rw [HS4.out]; omega)) 11 rfl
    have v12 := blk_cell (below_blk hW U1.out (by rw [HS4.out]; omega)) 12 rfl
    go_wp2
    exact hK.out _ (Below.refl _ _)
  apply grow_eq
  · intro V W K A hW hd hA hK
    simp only [putAll, List.getElem?_toArray, List.getElem?_cons_succ, List.getElem?_cons_zero, Option.bind_some, Act.put, List.setIfInBounds_toArray, List.set_cons_succ, List.set_cons_zero] at hA
    clear hd
    generalize V 0 = x0 at hA
    generalize V 1 = x1 at hA
    generalize V 2 = x2 at hA
    generalize V 3 = x3 at hA
    generalize V 4 = x4 at hA
    generalize V 5 = x5 at hA
    generalize V 6 = x6 at hA
    obtain rfl := hA
    go_wp2
    exact hK.out _ (Below.refl _ _)
  refine grow_op (fun v W => ∃ g cap, v = .slice (some ⟨g, 0, none⟩) M.length cap ∧ RowIs W 3 1 g M.length cap (intsV M)) (fun v W W2 ⟨g, cap, h1, h2⟩ hb => ⟨g, cap, h1, h2.below hb h2.lt⟩) ?_ ?_
  · intro V W K A hW hd hA hK
    have d1 : V 1 = _ := hd 1 (by kernel_rfl)
    have d2 : V 2 = _ := hd 2 (by kernel_rfl)
    have d3 : V 3 = _ := hd 3 (by kernel_rfl)
    simp only [putAll, List.getElem?_toArray, List.getElem?_cons_succ, List.getElem?_cons_zero, Option.bind_some, Act.put, List.setIfInBounds_toArray, List.set_cons_succ, List.set_cons_zero] at hA
    clear hd
    generalize V 0 = x0 at hA
    generalize V 1 = x1 at d1 hA
    generalize V 2 = x2 at d2 hA
    generalize V 3 = x3 at d3 hA
    generalize V 4 = x4 at hA
    generalize V 5 = x5 at hA
    generalize V 6 = x6 at hA
    subst d1
    subst d2
    subst d3
    obtain rfl := hA
    go_wp2_with fail
    refine (l5Some_3 B s a1 a2 a3 c1 c2 c3 _ hS (hB.below (hbw1.trans (hW.mono hbw1.size)))).mono ?_
    rw [HMM.out]
    rintro e w3 ⟨gM, capM, rfl, hgM, hrM, hb3⟩
    have HRM : Hid (RowIs w3 3 1 gM M.length capM (intsV M)) := hrM
    clear hrM
    go_wp2
    exact hK.out _ _ hb3 ⟨gM, capM, rfl, HRM.out⟩
  refine grow_op (fun v W => ∃ g cap, v = .slice (some ⟨g, 0, none⟩) M.length cap ∧ w.heap.size + 1 + 1 + 1 < g ∧ RowIs W 118 2 g M.length cap (ensV (endsL B M))) (fun v W W2 ⟨g, cap, h1, h2, h3⟩ hb => ⟨g, cap, h1, h2, h3.below hb h3.lt⟩) ?_ ?_
  · intro V W K A hW hd hA hK
    have d0 : V 0 = _ := hd 0 (by kernel_rfl)
    have d4 : (fun v W => ∃ g cap, v = .slice (some ⟨g, 0, none⟩) M.length cap ∧ RowIs W 3 1 g M.length cap (intsV M)) (V 4) W := hd 4 (by kernel_rfl)
    simp only [putAll, List.getElem?_toArray, List.getElem?_cons_succ, List.getElem?_cons_zero, Option.bind_some, Act.put, List.setIfInBounds_toArray, List.set_cons_succ, List.set_cons_zero] at hA
    clear hd
    generalize V 0 = x0 at d0 hA
    generalize V 1 = x1 at hA
    generalize V 2 = x2 at hA
    generalize V 3 = x3 at hA
    generalize V 4 = x4 at d4 hA
    generalize V 5 = x5 at hA
    generalize V 6 = x6 at hA
    subst d0
    obtain rfl := hA
    obtain ⟨gM, capM, rfl, hrM⟩ := d4
    have HRM : Hid (RowIs W 3 1 gM M.length capM (intsV M)) := hrM
    clear hrM
    have hzW := hW.size
    rw [HS4.out] at hzW
    go_wp2_with fail
    refine (l5Ends_any B M gM capM a1 a2 a3 c1 c2 c3 _ hS (hB.below (hbw1.trans (hW.mono hbw1.size))).2.1 HML.out (by omega) HRM.out).mono ?_
    rintro e w3 ⟨gF, capF, rfl, hgF, hrF, hb3⟩
    have HRF : Hid (RowIs w3 118 2 gF M.length capF (ensV (endsL B M))) := hrF
    clear hrF
    go_wp2
    exact hK.out _ _ hb3 ⟨gF, capF, rfl, by omega, HRF.out⟩
  apply grow_eq
  · intro V W K A hW hd hA hK
    simp only [putAll, List.getElem?_toArray, List.getElem?_cons_succ, List.getElem?_cons_zero, Option.bind_some, Act.put, List.setIfInBounds_toArray, List.set_cons_succ, List.set_cons_zero] at hA
    clear hd
    generalize V 0 = x0 at hA
    generalize V 1 = x1 at hA
    generalize V 2 = x2 at hA
    generalize V 3 = x3 at hA
    generalize V 4 = x4 at hA
    generalize V 5 = x5 at hA
    generalize V 6 = x6 at hA
    obtain rfl := hA
    go_wp2
    exact hK.out _ (Below.refl _ _)
  intro V W A hW hS hA
  have d0 : V 0 = _ := hS 0 (by omega)
  have d1 : V 1 = _ := hS 1 (by omega)
  have d2 : V 2 = _ := hS 2 (by omega)
  have d3 : V 3 = _ := hS 3 (by omega)
  have d4 : (fun v W => ∃ g cap, v = .slice (some ⟨g, 0, none⟩) M.length cap ∧ RowIs W 3 1 g M.length cap (intsV M)) (V 4) W := hS 4 (by omega)
  have d5 : (fun v W => ∃ g cap, v = .slice (some ⟨g, 0, none⟩) M.length cap ∧ w.heap.size + 1 + 1 + 1 < g ∧ RowIs W 118 2 g M.length cap (ensV (endsL B M))) (V 5) W := hS 5 (by omega)
  have d6 : V 6 = _ := hS 6 (by omega)
  simp only [putAll, List.getElem?_toArray, List.getElem?_cons_succ, List.getElem?_cons_zero, Option.bind_some, Act.put, List.setIfInBounds_toArray, List.set_cons_succ, List.set_cons_zero] at hA
  clear hS
  generalize V 0 = x0 at d0 hA
  generalize V 1 = x1 at d1 hA
  generalize V 2 = x2 at d2 hA
  generalize V 3 = x3 at d3 hA
  generalize V 4 = x4 at d4 hA
  generalize V 5 = x5 at d5 hA
  generalize V 6 = x6 at d6 hA
  subst d0
  subst d1
  subst d2
  subst d3
  subst d6
  obtain rfl := hA
  simp only [List.drop_succ_cons, List.drop_zero]
  obtain ⟨gF, capF, rfl, hgF, hrF⟩ := d5
  clear d4
  have hbwW := hbw1.trans (hW.mono hbw1.size)
  have X0 := hid_of (below_blk hW U0.out (by rw [HS4.out]; omega))
  have X1 := hid_of (below_blk hW U1.out (by rw [HS4.out]; omega))
  have X2 := hid_of (below_blk hW U2.out (by rw [HS4.out]; omega))
  have X3 := hid_of (below_blk hW U3.out (by rw [HS4.out]; omega))
  have HRF : Hid (RowIs W 118 2 gF M.length capF (ensV (endsL B M))) := hrF
  have hzW := hW.size
  rw [HS4.out] at hzW
  clear hrF hW U0 U1 U2 U3 HS4 hbw1
  go_wp2_with (first
    | (refine wpList_store_one rfl 57 (.tmp 22) (.tmp 21) rfl (w.heap.size + 1 + 1 + 1) 6 (.slice (some ⟨gF, 0, none⟩) M.length capF) rfl rfl Tryz.infosEnds rfl rfl 59 #[.string s.name, .int .i64 s.version, .int .i64 0, .int .i64 0, .int .i64 0, .bool false, .slice none 0 0, .bool false] X3.out (Nat.le_of_ble_eq_true rfl) ?_; intro w5 hz on; have Z3 : Hid (w5.heap[w.heap.size + 1 + 1 + 1]? = some (.cells #[.string s.name, .int .i64 s.version, .int .i64 0, .int .i64 0, .int .i64 0, .bool false, .slice (some ⟨gF, 0, none⟩) M.length capF, .bool false] 59 (0, 0))) := hz; have Z2 : Hid (w5.heap[w.heap.size + 1 + 1]? = some (.cells #[.string ⟨#[]⟩, .int .i64 0, .int .i64 0, .int .i64 0, .int .i64 0, .bool false, .slice none 0 0, .bool false] 59 (0, 0))) := (on.other (w.heap.size + 1 + 1) (by omega)).trans X2.out; have Z0 : Hid (w5.heap[w.heap.size]? = some (.cells #[.int .i64 B.now, .slice a1 B.svcs.length c1, .slice a2 B.cps.length c2, .slice a3 B.bts.length c3] 34 (0, 0))) := (on.other w.heap.size (by omega)).trans X0.out; have Z1 := hid_of ((on.other (w.heap.size + 1) (by omega)).trans X1.out); have hbw5 := hbwW.trans (on.below.mono (by omega)); have hz5 := on.size; have HR5 : Hid (RowIs w5 118 2 gF M.length capF (ensV (endsL B M))) := HRF.out.blk (on.other gF (by omega)); clear hz on; have q0 := blk_cell Z3.out 0 rfl; have q1 := blk_cell Z3.out 1 rfl; have q2 := blk_cell Z3.out 2 rfl; have q3 := blk_cell Z3.out 3 rfl; have q4 := blk_cell Z3.out 4 rfl; have q5 := blk_cell Z3.out 5 rfl; have q6 := blk_cell Z3.out 6 rfl; have q7 := blk_cell Z3.out 7 rfl)
    | (refine wpList_store_only rfl 59 (.tmp 6) (.tmp 23) rfl (w.heap.size + 1 + 1) 0 #[.string s.name, .int .i64 s.version, .int .i64 0, .int .i64 0, .int .i64 0, .bool false, .slice (some ⟨gF, 0, none⟩) M.length capF, .bool false] rfl rfl 59 #[.string ⟨#[]⟩, .int .i64 0, .int .i64 0, .int .i64 0, .int .i64 0, .bool false, .slice none 0 0, .bool false] Z2.out Tryz.infosAct (Nat.le_of_ble_eq_true rfl) (by simp [Value.oneCell']) ?_; intro wf hz on; have RF : Hid (wf.heap[w.heap.size + 1 + 1]? = some (.cells #[.string s.name, .int .i64 s.version, .int .i64 0, .int .i64 0, .int .i64 0, .bool false, .slice (some ⟨gF, 0, none⟩) M.length capF, .bool false] 59 (0, 0))) := hz; have hbf := hbw5.trans (on.below.mono (by omega)); have HR6 : Hid (RowIs wf 118 2 gF M.length capF (ensV (endsL B M))) := HR5.out.blk (on.other gF (by omega)); clear hz on; have p0 := blk_cell RF.out 0 rfl; have p1 := blk_cell RF.out 1 rfl; have p2 := blk_cell RF.out 2 rfl; have p3 := blk_cell RF.out 3 rfl; have p4 := blk_cell RF.out 4 rfl; have p5 := blk_cell RF.out 5 rfl; have p6 := blk_cell RF.out 6 rfl; have p7 := blk_cell RF.out 7 rfl))
  refine bodyPost_ret (v := .agg #[.string s.name, .int .i64 s.version, .int .i64 0, .int .i64 0, .int .i64 0, .bool false, .slice (some ⟨gF, 0, none⟩) M.length capF, .bool false]) (by simp [results, Tryz.results23, go_sem, p0, p1, p2, p3, p4, p5, p6, p7]) rfl ⟨_, rfl, ?_, hbf⟩
  exact ⟨some ⟨gF, 0, none⟩, capF, by rw [endsL_len]; rfl, HR6.out.slEn (by omega)⟩

set_option maxRecDepth 100000 in
set_option maxHeartbeats 16000000 in
theorem l5Act_gone5 (B : Bk) (s : Svc) (hg : s.gone = true) (N : Cnt) (hN : Hid (N = cntB B s.name)) (hN0 : 0 ≤ N.live) (hN1 : N.live ≤ 1048576) (hN2 : 0 ≤ N.ending) (hN3 : N.ending ≤ 1048576) (a1 a2 a3 : Option Addr) (c1 c2 c3 : Nat) (w : World) (hS : B.small) (_hV : Valid B) (_hsi : SvcIn s) (hB : BkAt w a1 a2 a3 B) :
    Calls Tryz.prog 23 #[.int .i64 5, .agg #[.int .i64 B.now, .slice a1 B.svcs.length c1, .slice a2 B.cps.length c2, .slice a3 B.bts.length c3], .agg #[.string s.name, .int .i64 s.version, .bool s.gone, .int .i64 s.image, .int .i64 s.want, .int .i64 s.down, .int .i64 s.over, .int .i64 s.next, .int .i64 s.per, .int .i64 s.least, .int .i64 s.most, .int .i64 s.load, .int .i64 s.cool]] w fun e w' => ∃ v, e = .returned v ∧ IsAct w.heap.size w' v ({ a0 s with ends := endsL B (liveTo B s.name B.cps.length), drop := (N.live + N.ending == 0) }) ∧ Below w.heap.size w w' := by
  obtain ⟨t0, t1, t2, t3, t4⟩ := four_new w (.cells #[.int .i64 B.now, .slice a1 B.svcs.length c1, .slice a2 B.cps.length c2, .slice a3 B.bts.length c3] 34) (.cells #[.string s.name, .int .i64 s.version, .bool s.gone, .int .i64 s.image, .int .i64 s.want, .int .i64 s.down, .int .i64 s.over, .int .i64 s.next, .int .i64 s.per, .int .i64 s.least, .int .i64 s.most, .int .i64 s.load, .int .i64 s.cool] 48) (.cells #[.string ⟨#[]⟩, .int .i64 0, .int .i64 0, .int .i64 0, .int .i64 0, .bool false, .slice none 0 0, .bool false] 59) (.cells #[.string s.name, .int .i64 s.version, .int .i64 0, .int .i64 0, .int .i64 0, .bool false, .slice none 0 0, .bool false] 59)
  have U0 : Hid _ := t0
  have U1 : Hid _ := t1
  have U2 : Hid _ := t2
  have U3 : Hid _ := t3
  have HS4 : Hid _ := t4
  clear t0 t1 t2 t3 t4
  have hbw1 : Below w.heap.size w ((((w.alloc (.cells #[.int .i64 B.now, .slice a1 B.svcs.length c1, .slice a2 B.cps.length c2, .slice a3 B.bts.length c3] 34)).alloc (.cells #[.string s.name, .int .i64 s.version, .bool s.gone, .int .i64 s.image, .int .i64 s.want, .int .i64 s.down, .int .i64 s.over, .int .i64 s.next, .int .i64 s.per, .int .i64 s.least, .int .i64 s.most, .int .i64 s.load, .int .i64 s.cool] 48)).alloc (.cells #[.string ⟨#[]⟩, .int .i64 0, .int .i64 0, .int .i64 0, .int .i64 0, .bool false, .slice none 0 0, .bool false] 59)).alloc (.cells #[.string s.name, .int .i64 s.version, .int .i64 0, .int .i64 0, .int .i64 0, .bool false, .slice none 0 0, .bool false] 59)) := ((((Below.refl _ _).alloc (Nat.le_refl _) _).alloc (by simp) _).alloc (by simp; omega) _).alloc (by simp; omega) _
  have hl := hS
  obtain ⟨hl1, hl2, hl3⟩ := hl
  obtain ⟨M, HMM⟩ : ∃ M, Hid (liveTo B s.name B.cps.length = M) := ⟨_, rfl⟩
  have HML : Hid (∀ i ∈ M, i < B.cps.length) := fun i hi => by rw [← HMM.out] at hi; exact liveTo_lt hi
  have hMn : M.length ≤ B.cps.length := by rw [← HMM.out]; exact liveTo_len _ _ _
  rw [HMM.out]
  rw [hg] at U0 U1 U2 U3 HS4 hbw1
  have v2 := blk_cell U1.out 2 rfl
  go_enter Tryz.func23, Tryz.ntmps23
  go_wp2
  clear v2 hg
  refine wp_region_grows 7 (by kernel_rfl) (by kernel_rfl) ?_
  apply grow_eq
  · intro V W K A hW hd hA hK
    simp only [putAll, List.getElem?_toArray, List.getElem?_cons_succ, List.getElem?_cons_zero, Option.bind_some, Act.put, List.setIfInBounds_toArray, List.set_cons_succ, List.set_cons_zero] at hA
    clear hd
    generalize V 0 = x0 at hA
    generalize V 1 = x1 at hA
    generalize V 2 = x2 at hA
    generalize V 3 = x3 at hA
    generalize V 4 = x4 at hA
    generalize V 5 = x5 at hA
    generalize V 6 = x6 at hA
    obtain rfl := hA
    have e0 := blk_cell (below_blk hW U0.out (by rw [HS4.out]; omega)) 0 rfl
    have e1 := blk_cell (below_blk hW U0.out (by rw [HS4.out]; omega)) 1 rfl
    have e2 := blk_cell (below_blk hW U0.out (by rw [HS4.out]; omega)) 2 rfl
    have e3 := blk_cell (below_blk hW U0.out (by rw [HS4.out]; omega)) 3 rfl
    go_wp2
    exact hK.out _ (Below.refl _ _)
  apply grow_eq
  · intro V W K A hW hd hA hK
    simp only [putAll, List.getElem?_toArray, List.getElem?_cons_succ, List.getElem?_cons_zero, Option.bind_some, Act.put, List.setIfInBounds_toArray, List.set_cons_succ, List.set_cons_zero] at hA
    clear hd
    generalize V 0 = x0 at hA
    generalize V 1 = x1 at hA
    generalize V 2 = x2 at hA
    generalize V 3 = x3 at hA
    generalize V 4 = x4 at hA
    generalize V 5 = x5 at hA
    generalize V 6 = x6 at hA
    obtain rfl := hA
    have e0 := blk_cell (below_blk hW U0.out (by rw [HS4.out]; omega)) 0 rfl
    have e1 := blk_cell (below_blk hW U0.out (by rw [HS4.out]; omega)) 1 rfl
    have e2 := blk_cell (below_blk hW U0.out (by rw [HS4.out]; omega)) 2 rfl
    have e3 := blk_cell (below_blk hW U0.out (by rw [HS4.out]; omega)) 3 rfl
    go_wp2
    exact hK.out _ (Below.refl _ _)
  apply grow_eq
  · intro V W K A hW hd hA hK
    simp only [putAll, List.getElem?_toArray, List.getElem?_cons_succ, List.getElem?_cons_zero, Option.bind_some, Act.put, List.setIfInBounds_toArray, List.set_cons_succ, List.set_cons_zero] at hA
    clear hd
    generalize V 0 = x0 at hA
    generalize V 1 = x1 at hA
    generalize V 2 = x2 at hA
    generalize V 3 = x3 at hA
    generalize V 4 = x4 at hA
    generalize V 5 = x5 at hA
    generalize V 6 = x6 at hA
    obtain rfl := hA
    go_wp2
    exact hK.out _ (Below.refl _ _)
  apply grow_eq
  · intro V W K A hW hd hA hK
    have d2 : V 2 = _ := hd 2 (by kernel_rfl)
    simp only [putAll, List.getElem?_toArray, List.getElem?_cons_succ, List.getElem?_cons_zero, Option.bind_some, Act.put, List.setIfInBounds_toArray, List.set_cons_succ, List.set_cons_zero] at hA
    clear hd
    generalize V 0 = x0 at hA
    generalize V 1 = x1 at hA
    generalize V 2 = x2 at d2 hA
    generalize V 3 = x3 at hA
    generalize V 4 = x4 at hA
    generalize V 5 = x5 at hA
    generalize V 6 = x6 at hA
    subst d2
    obtain rfl := hA
    have v0 := blk_cell (below_blk hW U1.out (by rw [HS4.out]; omega)) 0 rfl
    go_wp2
    exact hK.out _ (Below.refl _ _)
  refine grow_op (fun v W => ∃ g cap, v = .slice (some ⟨g, 0, none⟩) M.length cap ∧ RowIs W 3 1 g M.length cap (intsV M)) (fun v W W2 ⟨g, cap, h1, h2⟩ hb => ⟨g, cap, h1, h2.below hb h2.lt⟩) ?_ ?_
  · intro V W K A hW hd hA hK
    have d1 : V 1 = _ := hd 1 (by kernel_rfl)
    have d3 : V 3 = _ := hd 3 (by kernel_rfl)
    simp only [putAll, List.getElem?_toArray, List.getElem?_cons_succ, List.getElem?_cons_zero, Option.bind_some, Act.put, List.setIfInBounds_toArray, List.set_cons_succ, List.set_cons_zero] at hA
    clear hd
    generalize V 0 = x0 at hA
    generalize V 1 = x1 at d1 hA
    generalize V 2 = x2 at hA
    generalize V 3 = x3 at d3 hA
    generalize V 4 = x4 at hA
    generalize V 5 = x5 at hA
    generalize V 6 = x6 at hA
    subst d1
    subst d3
    obtain rfl := hA
    go_wp2_with fail
    refine (l5Live_any B s.name a1 a2 a3 c1 c2 c3 _ hS (hB.below (hbw1.trans (hW.mono hbw1.size))).2.1).mono ?_
    rw [HMM.out]
    rintro e w3 ⟨gM, capM, rfl, hgM, hrM, hb3⟩
    have HRM : Hid (RowIs w3 3 1 gM M.length capM (intsV M)) := hrM
    clear hrM
    go_wp2
    exact hK.out _ _ hb3 ⟨gM, capM, rfl, HRM.out⟩
  refine grow_op (fun v W => ∃ g cap, v = .slice (some ⟨g, 0, none⟩) M.length cap ∧ w.heap.size + 1 + 1 + 1 < g ∧ RowIs W 118 2 g M.length cap (ensV (endsL B M))) (fun v W W2 ⟨g, cap, h1, h2, h3⟩ hb => ⟨g, cap, h1, h2, h3.below hb h3.lt⟩) ?_ ?_
  · intro V W K A hW hd hA hK
    have d0 : V 0 = _ := hd 0 (by kernel_rfl)
    have d4 : (fun v W => ∃ g cap, v = .slice (some ⟨g, 0, none⟩) M.length cap ∧ RowIs W 3 1 g M.length cap (intsV M)) (V 4) W := hd 4 (by kernel_rfl)
    simp only [putAll, List.getElem?_toArray, List.getElem?_cons_succ, List.getElem?_cons_zero, Option.bind_some, Act.put, List.setIfInBounds_toArray, List.set_cons_succ, List.set_cons_zero] at hA
    clear hd
    generalize V 0 = x0 at d0 hA
    generalize V 1 = x1 at hA
    generalize V 2 = x2 at hA
    generalize V 3 = x3 at hA
    generalize V 4 = x4 at d4 hA
    generalize V 5 = x5 at hA
    generalize V 6 = x6 at hA
    subst d0
    obtain rfl := hA
    obtain ⟨gM, capM, rfl, hrM⟩ := d4
    have HRM : Hid (RowIs W 3 1 gM M.length capM (intsV M)) := hrM
    clear hrM
    have hzW := hW.size
    rw [HS4.out] at hzW
    go_wp2_with fail
    refine (l5Ends_any B M gM capM a1 a2 a3 c1 c2 c3 _ hS (hB.below (hbw1.trans (hW.mono hbw1.size))).2.1 HML.out (by omega) HRM.out).mono ?_
    rintro e w3 ⟨gF, capF, rfl, hgF, hrF, hb3⟩
    have HRF : Hid (RowIs w3 118 2 gF M.length capF (ensV (endsL B M))) := hrF
    clear hrF
    go_wp2
    exact hK.out _ _ hb3 ⟨gF, capF, rfl, by omega, HRF.out⟩
  apply grow_eq
  · intro V W K A hW hd hA hK
    simp only [putAll, List.getElem?_toArray, List.getElem?_cons_succ, List.getElem?_cons_zero, Option.bind_some, Act.put, List.setIfInBounds_toArray, List.set_cons_succ, List.set_cons_zero] at hA
    clear hd
    generalize V 0 = x0 at hA
    generalize V 1 = x1 at hA
    generalize V 2 = x2 at hA
    generalize V 3 = x3 at hA
    generalize V 4 = x4 at hA
    generalize V 5 = x5 at hA
    generalize V 6 = x6 at hA
    obtain rfl := hA
    go_wp2
    exact hK.out _ (Below.refl _ _)
  intro V W A hW hS hA
  have d0 : V 0 = _ := hS 0 (by omega)
  have d1 : V 1 = _ := hS 1 (by omega)
  have d2 : V 2 = _ := hS 2 (by omega)
  have d3 : V 3 = _ := hS 3 (by omega)
  have d4 : (fun v W => ∃ g cap, v = .slice (some ⟨g, 0, none⟩) M.length cap ∧ RowIs W 3 1 g M.length cap (intsV M)) (V 4) W := hS 4 (by omega)
  have d5 : (fun v W => ∃ g cap, v = .slice (some ⟨g, 0, none⟩) M.length cap ∧ w.heap.size + 1 + 1 + 1 < g ∧ RowIs W 118 2 g M.length cap (ensV (endsL B M))) (V 5) W := hS 5 (by omega)
  have d6 : V 6 = _ := hS 6 (by omega)
  simp only [putAll, List.getElem?_toArray, List.getElem?_cons_succ, List.getElem?_cons_zero, Option.bind_some, Act.put, List.setIfInBounds_toArray, List.set_cons_succ, List.set_cons_zero] at hA
  clear hS
  generalize V 0 = x0 at d0 hA
  generalize V 1 = x1 at d1 hA
  generalize V 2 = x2 at d2 hA
  generalize V 3 = x3 at d3 hA
  generalize V 4 = x4 at d4 hA
  generalize V 5 = x5 at d5 hA
  generalize V 6 = x6 at d6 hA
  subst d0
  subst d1
  subst d2
  subst d3
  subst d6
  obtain rfl := hA
  simp only [List.drop_succ_cons, List.drop_zero]
  obtain ⟨gF, capF, rfl, hgF, hrF⟩ := d5
  clear d4
  have hbwW := hbw1.trans (hW.mono hbw1.size)
  have X0 := hid_of (below_blk hW U0.out (by rw [HS4.out]; omega))
  have X1 := hid_of (below_blk hW U1.out (by rw [HS4.out]; omega))
  have X2 := hid_of (below_blk hW U2.out (by rw [HS4.out]; omega))
  have X3 := hid_of (below_blk hW U3.out (by rw [HS4.out]; omega))
  have HRF : Hid (RowIs W 118 2 gF M.length capF (ensV (endsL B M))) := hrF
  have hzW := hW.size
  rw [HS4.out] at hzW
  clear hrF hW U0 U1 U2 U3 HS4 hbw1
  go_wp2_with (refine wpList_store_one rfl 57 (.tmp 34) (.tmp 33) rfl (w.heap.size + 1 + 1 + 1) 6 (.slice (some ⟨gF, 0, none⟩) M.length capF) rfl rfl Tryz.infosEnds rfl rfl 59 #[.string s.name, .int .i64 s.version, .int .i64 0, .int .i64 0, .int .i64 0, .bool false, .slice none 0 0, .bool false] X3.out (Nat.le_of_ble_eq_true rfl) ?_; intro w5 hz on; have Z3 : Hid (w5.heap[w.heap.size + 1 + 1 + 1]? = some (.cells #[.string s.name, .int .i64 s.version, .int .i64 0, .int .i64 0, .int .i64 0, .bool false, .slice (some ⟨gF, 0, none⟩) M.length capF, .bool false] 59 (0, 0))) := hz; have Z2 : Hid (w5.heap[w.heap.size + 1 + 1]? = some (.cells #[.string ⟨#[]⟩, .int .i64 0, .int .i64 0, .int .i64 0, .int .i64 0, .bool false, .slice none 0 0, .bool false] 59 (0, 0))) := (on.other (w.heap.size + 1 + 1) (by omega)).trans X2.out; have Z0 : Hid (w5.heap[w.heap.size]? = some (.cells #[.int .i64 B.now, .slice a1 B.svcs.length c1, .slice a2 B.cps.length c2, .slice a3 B.bts.length c3] 34 (0, 0))) := (on.other w.heap.size (by omega)).trans X0.out; have Z1 := hid_of ((on.other (w.heap.size + 1) (by omega)).trans X1.out); have hbw5 := hbwW.trans (on.below.mono (by omega)); have hz5 := on.size; have HR5 : Hid (RowIs w5 118 2 gF M.length capF (ensV (endsL B M))) := HRF.out.blk (on.other gF (by omega)); clear hz on; have e0 := blk_cell Z0.out 0 rfl; have e1 := blk_cell Z0.out 1 rfl; have e2 := blk_cell Z0.out 2 rfl; have e3 := blk_cell Z0.out 3 rfl; have v0 := blk_cell Z1.out 0 rfl)
  refine (l2Count_any B s.name a1 a2 a3 c1 c2 c3 _ hS (hB.below hbw5) N hN).mono ?_
  rintro e w6 ⟨rfl, hb6⟩
  clear e0 e1 e2 e3 v0
  have hbw6 := hbw5.trans (hb6.mono hbw5.size)
  have hz6 := hb6.size
  have Y2 : Hid (w6.heap[w.heap.size + 1 + 1]? = some (.cells #[.string ⟨#[]⟩, .int .i64 0, .int .i64 0, .int .i64 0, .int .i64 0, .bool false, .slice none 0 0, .bool false] 59 (0, 0))) := below_blk hb6 Z2.out (by omega)
  have Y3 : Hid (w6.heap[w.heap.size + 1 + 1 + 1]? = some (.cells #[.string s.name, .int .i64 s.version, .int .i64 0, .int .i64 0, .int .i64 0, .bool false, .slice (some ⟨gF, 0, none⟩) M.length capF, .bool false] 59 (0, 0))) := below_blk hb6 Z3.out (by omega)
  have HR6 : Hid (RowIs w6 118 2 gF M.length capF (ensV (endsL B M))) := HR5.out.below hb6 HR5.out.lt
  have hgF6 : gF < w6.heap.size := HR6.out.lt
  clear hb6 Z0 Z1 Z2 Z3 HR5
  have ha6 := below_box w6 (.cells #[.int .i64 N.live, .int .i64 N.ready, .int .i64 N.old, .int .i64 N.failed, .int .i64 N.ending] 95)
  have hs6 := size_alloc' w6 (.cells #[.int .i64 N.live, .int .i64 N.ready, .int .i64 N.old, .int .i64 N.failed, .int .i64 N.ending] 95)
  have HS6 : Hid _ := hs6
  clear hs6
  have G2 : Hid _ := below_blk ha6 Y2.out (by omega)
  have G3 : Hid _ := below_blk ha6 Y3.out (by omega)
  have hbw7 := hbw6.trans (ha6.mono hbw6.size)
  have HR7 := hid_of (HR6.out.below ha6 hgF6)
  go_wp2_with (first
    | (refine wpList_store_one rfl 4 (.tmp 45) (.tmp 44) rfl (w.heap.size + 1 + 1 + 1) 7 (.bool (N.live + N.ending == 0)) rfl rfl Tryz.infosBool rfl rfl 59 #[.string s.name, .int .i64 s.version, .int .i64 0, .int .i64 0, .int .i64 0, .bool false, .slice (some ⟨gF, 0, none⟩) M.length capF, .bool false] G3.out (Nat.le_of_ble_eq_true rfl) ?_; intro w8 hz on; have K3 : Hid (w8.heap[w.heap.size + 1 + 1 + 1]? = some (.cells #[.string s.name, .int .i64 s.version, .int .i64 0, .int .i64 0, .int .i64 0, .bool false, .slice (some ⟨gF, 0, none⟩) M.length capF, .bool (N.live + N.ending == 0)] 59 (0, 0))) := hz; have K2 : Hid _ := (on.other (w.heap.size + 1 + 1) (by omega)).trans G2.out; have hbw8 := hbw7.trans (on.below.mono (by omega)); have HR8 : Hid (RowIs w8 118 2 gF M.length capF (ensV (endsL B M))) := HR7.out.blk (on.other gF (by omega)); clear hz on; have q0 := blk_cell K3.out 0 rfl; have q1 := blk_cell K3.out 1 rfl; have q2 := blk_cell K3.out 2 rfl; have q3 := blk_cell K3.out 3 rfl; have q4 := blk_cell K3.out 4 rfl; have q5 := blk_cell K3.out 5 rfl; have q6 := blk_cell K3.out 6 rfl; have q7 := blk_cell K3.out 7 rfl)
    | (refine wpList_store_only rfl 59 (.tmp 6) (.tmp 46) rfl (w.heap.size + 1 + 1) 0 #[.string s.name, .int .i64 s.version, .int .i64 0, .int .i64 0, .int .i64 0, .bool false, .slice (some ⟨gF, 0, none⟩) M.length capF, .bool (N.live + N.ending == 0)] rfl rfl 59 #[.string ⟨#[]⟩, .int .i64 0, .int .i64 0, .int .i64 0, .int .i64 0, .bool false, .slice none 0 0, .bool false] K2.out Tryz.infosAct (Nat.le_of_ble_eq_true rfl) (by simp [Value.oneCell']) ?_; intro wf hz on; have RF : Hid (wf.heap[w.heap.size + 1 + 1]? = some (.cells #[.string s.name, .int .i64 s.version, .int .i64 0, .int .i64 0, .int .i64 0, .bool false, .slice (some ⟨gF, 0, none⟩) M.length capF, .bool (N.live + N.ending == 0)] 59 (0, 0))) := hz; have hbf := hbw8.trans (on.below.mono (by omega)); have HR9 : Hid (RowIs wf 118 2 gF M.length capF (ensV (endsL B M))) := HR8.out.blk (on.other gF (by omega)); clear hz on; have p0 := blk_cell RF.out 0 rfl; have p1 := blk_cell RF.out 1 rfl; have p2 := blk_cell RF.out 2 rfl; have p3 := blk_cell RF.out 3 rfl; have p4 := blk_cell RF.out 4 rfl; have p5 := blk_cell RF.out 5 rfl; have p6 := blk_cell RF.out 6 rfl; have p7 := blk_cell RF.out 7 rfl))
  refine bodyPost_ret (v := .agg #[.string s.name, .int .i64 s.version, .int .i64 0, .int .i64 0, .int .i64 0, .bool false, .slice (some ⟨gF, 0, none⟩) M.length capF, .bool (N.live + N.ending == 0)]) (by simp [results, Tryz.results23, go_sem, p0, p1, p2, p3, p4, p5, p6, p7]) rfl ⟨_, rfl, ?_, hbf⟩
  exact ⟨some ⟨gF, 0, none⟩, capF, by rw [endsL_len]; rfl, HR9.out.slEn (by omega)⟩

end Go.Proofs.YtbceafpodamnfabGreat
