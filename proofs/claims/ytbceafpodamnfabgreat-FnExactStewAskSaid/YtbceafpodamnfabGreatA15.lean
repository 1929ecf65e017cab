/-
  My own: Pk.
-/
import Derived.Test.YtbceafpodamnfabGreatA14
set_option linter.unusedVariables false
set_option linter.unusedSimpArgs false
/-
  My own. Copies replaced one at a time, by the specification.
-/
namespace Go.Proofs.YtbceafpodamnfabGreat
open Go.RowKit Go.Sort

theorem l5First_any (B : Bk) (s : Svc) (L : List Nat) (gL capL : Nat) (a1 a2 a3 : Option Addr) (c1 c2 c3 : Nat) (w : World) (hS : B.small) (hB : BkAt w a1 a2 a3 B) (hL : ∀ i ∈ L, i < B.cps.length) (hLn : L.length ≤ 1048576) (hLr : RowIs w 3 1 gL L.length capL (intsV L)) :
    Calls Tryz.prog 93 #[.agg #[.int .i64 B.now, .slice a1 B.svcs.length c1, .slice a2 B.cps.length c2, .slice a3 B.bts.length c3], .agg #[.string s.name, .int .i64 s.version, .bool s.gone, .int .i64 s.image, .int .i64 s.want, .int .i64 s.down, .int .i64 s.over, .int .i64 s.next, .int .i64 s.per, .int .i64 s.least, .int .i64 s.most, .int .i64 s.load, .int .i64 s.cool], .slice (some ⟨gL, 0, none⟩) L.length capL] w fun e w' => ∃ g cap, e = .returned (.slice (some ⟨g, 0, none⟩) (firstL B s.image L).length cap) ∧ w.heap.size ≤ g ∧ RowIs w' 118 2 g (firstL B s.image L).length cap (ensV (firstL B s.image L)) ∧ Below w.heap.size w w' := by
  cases hn : L[0]? with
  | none =>
    have e : L = [] := by cases L with | nil => rfl | cons a r => simp at hn
    subst e
    exact l5First_nil B s gL capL a1 a2 a3 c1 c2 c3 w
  | some i0 =>
    rw [firstL_of hn]
    exact l5First_cons B s L i0 gL capL a1 a2 a3 c1 c2 c3 w hS hB hn hL hLn hLr

def replaceA (B : Bk) (s : Svc) (L2 : List Nat) : Ac :=
  if (L2.length : Int) = 0 ∨ ((liveTo B s.name B.cps.length).length : Int) < s.want then a0 s
  else if ((liveTo B s.name B.cps.length).length : Int) < s.want + s.over then { a0 s with create := 1 }
  else { a0 s with ends := firstL B s.image (L2.filter (mayP B)) }

set_option maxRecDepth 100000 in
set_option maxHeartbeats 16000000 in
theorem l5Replace_any (B : Bk) (s : Svc) (L2 : List Nat) (gL capL : Nat) (a1 a2 a3 : Option Addr) (c1 c2 c3 : Nat) (w : World) (hS : B.small) (hV : Valid B) (hsi : SvcIn s) (hB : BkAt w a1 a2 a3 B) (hL : ∀ i ∈ L2, i < B.cps.length) (hLn : L2.length ≤ 1048576) (hLr : RowIs w 3 1 gL L2.length capL (intsV L2)) :
    Calls Tryz.prog 60 #[.agg #[.int .i64 B.now, .slice a1 B.svcs.length c1, .slice a2 B.cps.length c2, .slice a3 B.bts.length c3], .agg #[.string s.name, .int .i64 s.version, .bool s.gone, .int .i64 s.image, .int .i64 s.want, .int .i64 s.down, .int .i64 s.over, .int .i64 s.next, .int .i64 s.per, .int .i64 s.least, .int .i64 s.most, .int .i64 s.load, .int .i64 s.cool], .agg #[.string s.name, .int .i64 s.version, .int .i64 0, .int .i64 0, .int .i64 0, .bool false, .slice none 0 0, .bool false], .slice (some ⟨gL, 0, none⟩) L2.length capL] w fun e w' => ∃ v, e = .returned v ∧ IsAct w.heap.size w' v (replaceA B s L2) ∧ Below w.heap.size w w' := by
  obtain ⟨t0, t1, t2, t3, t4⟩ := four_new w (.cells #[.int .i64 B.now, .slice a1 B.svcs.length c1, .slice a2 B.cps.length c2, .slice a3 B.bts.length c3] 34) (.cells #[.string s.name, .int .i64 s.version, .bool s.gone, .int .i64 s.image, .int .i64 s.want, .int .i64 s.down, .int .i64 s.over, .int .i64 s.next, .int .i64 s.per, .int .i64 s.least, .int .i64 s.most, .int .i64 s.load, .int .i64 s.cool] 48) (.cells #[.string s.name, .int .i64 s.version, .int .i64 0, .int .i64 0, .int .i64 0, .bool false, .slice none 0 0, .bool false] 59) (.cells #[.string ⟨#[]⟩, .int .i64 0, .int .i64 0, .int .i64 0, .int .i64 0, .bool false, .slice none 0 0, .bool false] 59)
  have T0 : Hid _ := t0
  have T1 : Hid _ := t1
  have T2 : Hid _ := t2
  have T3 : Hid _ := t3
  have HS4 : Hid _ := t4
  clear t0 t1 t2 t3 t4
  have hb0 : Below w.heap.size w ((((w.alloc (.cells #[.int .i64 B.now, .slice a1 B.svcs.length c1, .slice a2 B.cps.length c2, .slice a3 B.bts.length c3] 34)).alloc (.cells #[.string s.name, .int .i64 s.version, .bool s.gone, .int .i64 s.image, .int .i64 s.want, .int .i64 s.down, .int .i64 s.over, .int .i64 s.next, .int .i64 s.per, .int .i64 s.least, .int .i64 s.most, .int .i64 s.load, .int .i64 s.cool] 48)).alloc (.cells #[.string s.name, .int .i64 s.version, .int .i64 0, .int .i64 0, .int .i64 0, .bool false, .slice none 0 0, .bool false] 59)).alloc (.cells #[.string ⟨#[]⟩, .int .i64 0, .int .i64 0, .int .i64 0, .int .i64 0, .bool false, .slice none 0 0, .bool false] 59)) := ((((Below.refl _ _).alloc (Nat.le_refl _) _).alloc (by simp) _).alloc (by simp; omega) _).alloc (by simp; omega) _
  obtain ⟨n, HLL⟩ : ∃ n, Hid ((liveTo B s.name B.cps.length).length = n) := ⟨_, rfl⟩
  have hLl : n ≤ B.cps.length := by rw [← HLL.out]; exact liveTo_len _ _ _
  have hl := hS
  obtain ⟨hl1, hl2, hl3⟩ := hl
  have hw0 := hsi.want0
  have hw1 := hsi.want1
  have ho0 := hsi.over0
  have ho1 := hsi.over1
  obtain ⟨M, HMM⟩ : ∃ M, Hid (L2.filter (mayP B) = M) := ⟨_, rfl⟩
  obtain ⟨F, HFF⟩ : ∃ F, Hid (firstL B s.image M = F) := ⟨_, rfl⟩
  have HML : Hid (∀ i ∈ M, i < B.cps.length) := fun i hi => by rw [← HMM.out] at hi; exact hL i (List.mem_filter.1 hi).1
  have hMn : M.length ≤ 1048576 := by rw [← HMM.out]; exact Nat.le_trans (List.length_filter_le _ _) hLn
  have hFn : F.length ≤ 1 := by rw [← HFF.out]; cases M <;> simp [firstL]
  obtain ⟨C, HC⟩ : ∃ C, Hid (replaceA B s L2 = C) := ⟨_, rfl⟩
  rw [HC.out]
  have HCD : Hid (C = if (L2.length : Int) = 0 ∨ (n : Int) < s.want then a0 s else if (n : Int) < s.want + s.over then { a0 s with create := 1 } else { a0 s with ends := F }) := by unfold Hid; rw [← HC.out]; unfold replaceA; rw [HLL.out, HMM.out, HFF.out]
  clear HC
  have HMC : Hid (∀ W : World, BkAt W a1 a2 a3 B → RowIs W 3 1 gL L2.length capL (intsV L2) → Calls Tryz.prog 95 #[.agg #[.int .i64 B.now, .slice a1 B.svcs.length c1, .slice a2 B.cps.length c2, .slice a3 B.bts.length c3], .slice (some ⟨gL, 0, none⟩) L2.length capL] W fun e w' => ∃ g cap, e = .returned (.slice (some ⟨g, 0, none⟩) M.length cap) ∧ W.heap.size ≤ g ∧ RowIs w' 3 1 g M.length cap (intsV M) ∧ Below W.heap.size W w') := fun W h hr => by
    rw [← HMM.out]; exact l5May_any B L2 gL capL a1 a2 a3 c1 c2 c3 W hS hV h hL hLn hr
  have HFC : Hid (∀ (W : World) (gM capM : Nat), BkAt W a1 a2 a3 B → RowIs W 3 1 gM M.length capM (intsV M) → Calls Tryz.prog 93 #[.agg #[.int .i64 B.now, .slice a1 B.svcs.length c1, .slice a2 B.cps.length c2, .slice a3 B.bts.length c3], .agg #[.string s.name, .int .i64 s.version, .bool s.gone, .int .i64 s.image, .int .i64 s.want, .int .i64 s.down, .int .i64 s.over, .int .i64 s.next, .int .i64 s.per, .int .i64 s.least, .int .i64 s.most, .int .i64 s.load, .int .i64 s.cool], .slice (some ⟨gM, 0, none⟩) M.length capM] W fun e w' => ∃ g cap, e = .returned (.slice (some ⟨g, 0, none⟩) F.length cap) ∧ W.heap.size ≤ g ∧ RowIs w' 118 2 g F.length cap (ensV F) ∧ Below W.heap.size W w') := fun W gM capM h hr => by
    rw [← HFF.out]; exact l5First_any B s M gM capM a1 a2 a3 c1 c2 c3 W hS h HML.out hMn hr
  go_enter Tryz.func60, Tryz.ntmps60
  go_wp2_with fail
  refine (l5Live_any B s.name a1 a2 a3 c1 c2 c3 _ hS (hB.below hb0).2.1).mono ?_
  rw [HLL.out]
  rintro e w1 ⟨gV, capV, rfl, _, _, hb1⟩
  have ULR0 : Hid (RowIs w1 3 1 gL L2.length capL (intsV L2)) := (hLr.below hb0 hLr.lt).below hb1 (Nat.lt_of_lt_of_le hLr.lt hb0.size)
  rw [HS4.out] at hb1
  have hbw1 := hb0.trans (hb1.mono (by omega))
  have U0 : Hid (w1.heap[w.heap.size]? = some (.cells #[.int .i64 B.now, .slice a1 B.svcs.length c1, .slice a2 B.cps.length c2, .slice a3 B.bts.length c3] 34 (0, 0))) := below_blk hb1 T0.out (by omega)
  have U1 : Hid (w1.heap[w.heap.size + 1]? = some (.cells #[.string s.name, .int .i64 s.version, .bool s.gone, .int .i64 s.image, .int .i64 s.want, .int .i64 s.down, .int .i64 s.over, .int .i64 s.next, .int .i64 s.per, .int .i64 s.least, .int .i64 s.most, .int .i64 s.load, .int .i64 s.cool] 48 (0, 0))) := below_blk hb1 T1.out (by omega)
  have U2 : Hid (w1.heap[w.heap.size + 1 + 1]? = some (.cells #[.string s.name, .int .i64 s.version, .int .i64 0, .int .i64 0, .int .i64 0, .bool false, .slice none 0 0, .bool false] 59 (0, 0))) := below_blk hb1 T2.out (by omega)
  have U3 : Hid (w1.heap[w.heap.size + 1 + 1 + 1]? = some (.cells #[.string ⟨#[]⟩, .int .i64 0, .int .i64 0, .int .i64 0, .int .i64 0, .bool false, .slice none 0 0, .bool false] 59 (0, 0))) := below_blk hb1 T3.out (by omega)
  have hz1 : w.heap.size + 1 + 1 + 1 + 1 ≤ w1.heap.size := by have := hb1.size; rw [HS4.out] at this; omega
  have ULR : Hid (RowIs w1 3 1 gL L2.length capL (intsV L2)) := ULR0
  clear T0 T1 T2 T3 HS4 hb1 hb0 hLr HLL ULR0
  cases hc0 : ((L2.length : Int) == 0)
  · have hc0' : ¬ (L2.length : Int) = 0 := by simpa using hc0
    have HN0 : Hid _ := hc0'
    clear hc0'
    have v4 := blk_cell U1.out 4 rfl
    have v6 := blk_cell U1.out 6 rfl
    by_cases hlt : (n : Int) < s.want
    · have HE : Hid (C = a0 s) := by unfold Hid; rw [HCD.out, if_pos (.inr hlt)]
      have q0 := blk_cell U2.out 0 rfl
      have q1 := blk_cell U2.out 1 rfl
      have q2 := blk_cell U2.out 2 rfl
      have q3 := blk_cell U2.out 3 rfl
      have q4 := blk_cell U2.out 4 rfl
      have q5 := blk_cell U2.out 5 rfl
      have q6 := blk_cell U2.out 6 rfl
      have q7 := blk_cell U2.out 7 rfl
      go_wp2_with (refine wpList_store_only rfl 59 (.tmp 8) (.tmp 24) rfl (w.heap.size + 1 + 1 + 1) 0 #[.string s.name, .int .i64 s.version, .int .i64 0, .int .i64 0, .int .i64 0, .bool false, .slice none 0 0, .bool false] rfl rfl 59 #[.string ⟨#[]⟩, .int .i64 0, .int .i64 0, .int .i64 0, .int .i64 0, .bool false, .slice none 0 0, .bool false] U3.out Tryz.infosAct (Nat.le_of_ble_eq_true rfl) (by simp [Value.oneCell']) ?_; intro wf hz on; have RF : Hid (wf.heap[w.heap.size + 1 + 1 + 1]? = some (.cells #[.string s.name, .int .i64 s.version, .int .i64 0, .int .i64 0, .int .i64 0, .bool false, .slice none 0 0, .bool false] 59 (0, 0))) := hz; have hbf := hbw1.trans (on.below.mono (by omega)); clear hz on; have p0 := blk_cell RF.out 0 rfl; have p1 := blk_cell RF.out 1 rfl; have p2 := blk_cell RF.out 2 rfl; have p3 := blk_cell RF.out 3 rfl; have p4 := blk_cell RF.out 4 rfl; have p5 := blk_cell RF.out 5 rfl; have p6 := blk_cell RF.out 6 rfl; have p7 := blk_cell RF.out 7 rfl)
      refine bodyPost_ret (v := .agg #[.string s.name, .int .i64 s.version, .int .i64 0, .int .i64 0, .int .i64 0, .bool false, .slice none 0 0, .bool false]) (by simp [results, Tryz.results60, go_sem, p0, p1, p2, p3, p4, p5, p6, p7]) rfl ⟨_, rfl, ?_, hbf⟩
      rw [HE.out]
      exact isAct_a0 _ _ s
    by_cases hov : (n : Int) < s.want + s.over
    · have HE : Hid (C = { a0 s with create := 1 }) := by unfold Hid; rw [HCD.out, if_neg (by rintro (h | h); exact HN0.out h; omega), if_pos hov]
      go_wp2_with (first
        | (refine wpList_store_one rfl 3 (.tmp 32) (.const (.int .i64 1)) rfl (w.heap.size + 1 + 1) 2 (.int .i64 1) rfl rfl Tryz.infosInt rfl rfl 59 #[.string s.name, .int .i64 s.version, .int .i64 0, .int .i64 0, .int .i64 0, .bool false, .slice none 0 0, .bool false] U2.out (Nat.le_of_ble_eq_true rfl) ?_; intro w2 hz on; have V2 : Hid (w2.heap[w.heap.size + 1 + 1]? = some (.cells #[.string s.name, .int .i64 s.version, .int .i64 1, .int .i64 0, .int .i64 0, .bool false, .slice none 0 0, .bool false] 59 (0, 0))) := hz; have V3 : Hid _ := (on.other (w.heap.size + 1 + 1 + 1) (by omega)).trans U3.out; have hbw2 := hbw1.trans (on.below.mono (by omega)); clear hz on; have q0 := blk_cell V2.out 0 rfl; have q1 := blk_cell V2.out 1 rfl; have q2 := blk_cell V2.out 2 rfl; have q3 := blk_cell V2.out 3 rfl; have q4 := blk_cell V2.out 4 rfl; have q5 := blk_cell V2.out 5 rfl; have q6 := blk_cell V2.out 6 rfl; have q7 := blk_cell V2.out 7 rfl)
        | (refine wpList_store_only rfl 59 (.tmp 8) (.tmp 33) rfl (w.heap.size + 1 + 1 + 1) 0 #[.string s.name, .int .i64 s.version, .int .i64 1, .int .i64 0, .int .i64 0, .bool false, .slice none 0 0, .bool false] rfl rfl 59 #[.string ⟨#[]⟩, .int .i64 0, .int .i64 0, .int .i64 0, .int .i64 0, .bool false, .slice none 0 0, .bool false] V3.out Tryz.infosAct (Nat.le_of_ble_eq_true rfl) (by simp [Value.oneCell']) ?_; intro wf hz on; have RF : Hid (wf.heap[w.heap.size + 1 + 1 + 1]? = some (.cells #[.string s.name, .int .i64 s.version, .int .i64 1, .int .i64 0, .int .i64 0, .bool false, .slice none 0 0, .bool false] 59 (0, 0))) := hz; have hbf := hbw2.trans (on.below.mono (by omega)); clear hz on; have p0 := blk_cell RF.out 0 rfl; have p1 := blk_cell RF.out 1 rfl; have p2 := blk_cell RF.out 2 rfl; have p3 := blk_cell RF.out 3 rfl; have p4 := blk_cell RF.out 4 rfl; have p5 := blk_cell RF.out 5 rfl; have p6 := blk_cell RF.out 6 rfl; have p7 := blk_cell RF.out 7 rfl))
      refine bodyPost_ret (v := .agg #[.string s.name, .int .i64 s.version, .int .i64 1, .int .i64 0, .int .i64 0, .bool false, .slice none 0 0, .bool false]) (by simp [results, Tryz.results60, go_sem, p0, p1, p2, p3, p4, p5, p6, p7]) rfl ⟨_, rfl, ?_, hbf⟩
      rw [HE.out]
      exact ⟨none, 0, rfl, SlEn.nil _ _ _⟩
    have HE : Hid (C = { a0 s with ends := F }) := by unfold Hid; rw [HCD.out, if_neg (by rintro (h | h); exact HN0.out h; omega), if_neg hov]
    go_wp2
    clear v4 v6
    refine wp_region_grows 7 (by kernel_rfl) (by kernel_rfl) ?_
    apply grow_eq
    · intro V W K A hW hd hA hK
      simp only [putAll, List.getElem?_toArray, List.getElem?_cons_succ, List.getElem?_cons_zero, Option.bind_some, Act.put, List.setIfInBounds_toArray, List.set_cons_succ, List.set_cons_zero] at hA
      clear hd
      generalize V 0 = x0 at hA
      generalize V 1 = x1 at hA
      generalize V 2 = x2 at hA
      generalize V 3 = x3 at hA
      generalize V 4 = x4 at hA
      generalize V 5 = x5 at hA
      generalize V 6 = x6 at hA
      obtain rfl := hA
      have e0 := blk_cell (below_blk hW U0.out (by omega)) 0 rfl
      have e1 := blk_cell (below_blk hW U0.out (by omega)) 1 rfl
      have e2 := blk_cell (below_blk hW U0.out (by omega)) 2 rfl
      have e3 := blk_cell (below_blk hW U0.out (by omega)) 3 rfl
      go_wp2
      exact hK.out _ (Below.refl _ _)
    apply grow_eq
    · intro V W K A hW hd hA hK
      simp only [putAll, List.getElem?_toArray, List.getElem?_cons_succ, List.getElem?_cons_zero, Option.bind_some, Act.put, List.setIfInBounds_toArray, List.set_cons_succ, List.set_cons_zero] at hA
      clear hd
      generalize V 0 = x0 at hA
      generalize V 1 = x1 at hA
      generalize V 2 = x2 at hA
      generalize V 3 = x3 at hA
      generalize V 4 = x4 at hA
      generalize V 5 = x5 at hA
      generalize V 6 = x6 at hA
      obtain rfl := hA
      have v0 := blk_cell (below_blk hW U1.out (by omega)) 0 rfl
      have v1 := blk_cell (below_blk hW U1.out (by omega)) 1 rfl
      have v2 := blk_cell (below_blk hW U1.out (by omega)) 2 rfl
      have v3 := blk_cell (below_blk hW U1.out (by omega)) 3 rfl
      have v4 := blk_cell (below_blk hW U1.out (by omega)) 4 rfl
      have v5 := blk_cell (below_blk hW U1.out (by omega)) 5 rfl
      have v6 := blk_cell (below_blk hW U1.out (by omega)) 6 rfl
      have v7 := blk_cell (below_blk hW U1.out (by omega)) 7 rfl
      have v8 := blk_cell (below_blk hW U1.out (by omega)) 8 rfl
      have v9 := blk_cell (below_blk hW U1.out (by omega)) 9 rfl
      have v10 := blk_cell (below_blk hW U1.out (by omega)) 10 rfl
      have v11 := blk_cell (below_blk hW U1.out (by omega)) 11 rfl
      have v12 := blk_cell (below_blk hW U1.out (by omega)) 12 rfl
      go_wp2
      exact hK.out _ (Below.refl _ _)
    apply grow_eq
    · intro V W K A hW hd hA hK
      simp only [putAll, List.getElem?_toArray, List.getElem?_cons_succ, List.getElem?_cons_zero, Option.bind_some, Act.put, List.setIfInBounds_toArray, List.set_cons_succ, List.set_cons_zero] at hA
      clear hd
      generalize V 0 = x0 at hA
      generalize V 1 = x1 at hA
      generalize V 2 = x2 at hA
      generalize V 3 = x3 at hA
      generalize V 4 = x4 at hA
      generalize V 5 = x5 at hA
      generalize V 6 = x6 at hA
      obtain rfl := hA
      have e0 := blk_cell (below_blk hW U0.out (by omega)) 0 rfl
      have e1 := blk_cell (below_blk hW U0.out (by omega)) 1 rfl
      have e2 := blk_cell (below_blk hW U0.out (by omega)) 2 rfl
      have e3 := blk_cell (below_blk hW U0.out (by omega)) 3 rfl
      go_wp2
      exact hK.out _ (Below.refl _ _)
    apply grow_eq
    · intro V W K A hW hd hA hK
      simp only [putAll, List.getElem?_toArray, List.getElem?_cons_succ, List.getElem?_cons_zero, Option.bind_some, Act.put, List.setIfInBounds_toArray, List.set_cons_succ, List.set_cons_zero] at hA
      clear hd
      generalize V 0 = x0 at hA
      generalize V 1 = x1 at hA
      generalize V 2 = x2 at hA
      generalize V 3 = x3 at hA
      generalize V 4 = x4 at hA
      generalize V 5 = x5 at hA
      generalize V 6 = x6 at hA
      obtain rfl := hA
      go_wp2
      exact hK.out _ (Below.refl _ _)
    refine grow_op (fun v W => ∃ g cap, v = .slice (some ⟨g, 0, none⟩) M.length cap ∧ RowIs W 3 1 g M.length cap (intsV M)) (fun v W W2 ⟨g, cap, h1, h2⟩ hb => ⟨g, cap, h1, h2.below hb h2.lt⟩) ?_ ?_
    · intro V W K A hW hd hA hK
      have d2 : V 2 = _ := hd 2 (by kernel_rfl)
      have d3 : V 3 = _ := hd 3 (by kernel_rfl)
      simp only [putAll, List.getElem?_toArray, List.getElem?_cons_succ, List.getElem?_cons_zero, Option.bind_some, Act.put, List.setIfInBounds_toArray, List.set_cons_succ, List.set_cons_zero] at hA
      clear hd
      generalize V 0 = x0 at hA
      generalize V 1 = x1 at hA
      generalize V 2 = x2 at d2 hA
      generalize V 3 = x3 at d3 hA
      generalize V 4 = x4 at hA
      generalize V 5 = x5 at hA
      generalize V 6 = x6 at hA
      subst d2
      subst d3
      obtain rfl := hA
      go_wp2_with fail
      refine (HMC.out _ (hB.below (hbw1.trans (hW.mono hbw1.size))) (ULR.out.below hW ULR.out.lt)).mono ?_
      rintro e w3 ⟨gM, capM, rfl, hgM, hrM, hb3⟩
      have HRM : Hid (RowIs w3 3 1 gM M.length capM (intsV M)) := hrM
      clear hrM
      go_wp2
      exact hK.out _ _ hb3 ⟨gM, capM, rfl, HRM.out⟩
    refine grow_op (fun v W => ∃ g cap, v = .slice (some ⟨g, 0, none⟩) F.length cap ∧ w.heap.size + 1 + 1 + 1 < g ∧ RowIs W 118 2 g F.length cap (ensV F)) (fun v W W2 ⟨g, cap, h1, h2, h3⟩ hb => ⟨g, cap, h1, h2, h3.below hb h3.lt⟩) ?_ ?_
    · intro V W K A hW hd hA hK
      have d0 : V 0 = _ := hd 0 (by kernel_rfl)
      have d1 : V 1 = _ := hd 1 (by kernel_rfl)
      have d4 : (fun v W => ∃ g cap, v = .slice (some ⟨g, 0, none⟩) M.length cap ∧ RowIs W 3 1 g M.length cap (intsV M)) (V 4) W := hd 4 (by kernel_rfl)
      simp only [putAll, List.getElem?_toArray, List.getElem?_cons_succ, List.getElem?_cons_zero, Option.bind_some, Act.put, List.setIfInBounds_toArray, List.set_cons_succ, List.set_cons_zero] at hA
      clear hd
      generalize V 0 = x0 at d0 hA
      generalize V 1 = x1 at d1 hA
      generalize V 2 = x2 at hA
      generalize V 3 = x3 at hA
      generalize V 4 = x4 at d4 hA
      generalize V 5 = x5 at hA
      generalize V 6 = x6 at hA
      subst d0
      subst d1
      obtain rfl := hA
      obtain ⟨gM, capM, rfl, hrM⟩ := d4
      have HRM : Hid (RowIs W 3 1 gM M.length capM (intsV M)) := hrM
      clear hrM
      have hzW := hW.size
      go_wp2_with fail
      refine (HFC.out _ gM capM (hB.below (hbw1.trans (hW.mono hbw1.size))) HRM.out).mono ?_
      rintro e w3 ⟨gF, capF, rfl, hgF, hrF, hb3⟩
      have HRF : Hid (RowIs w3 118 2 gF F.length capF (ensV F)) := hrF
      clear hrF
      go_wp2
      exact hK.out _ _ hb3 ⟨gF, capF, rfl, by omega, HRF.out⟩
    apply grow_eq
    · intro V W K A hW hd hA hK
      simp only [putAll, List.getElem?_toArray, List.getElem?_cons_succ, List.getElem?_cons_zero, Option.bind_some, Act.put, List.setIfInBounds_toArray, List.set_cons_succ, List.set_cons_zero] at hA
      clear hd
      generalize V 0 = x0 at hA
      generalize V 1 = x1 at hA
      generalize V 2 = x2 at hA
      generalize V 3 = x3 at hA
      generalize V 4 = x4 at hA
      generalize V 5 = x5 at hA
      generalize V 6 = x6 at hA
      obtain rfl := hA
      go_wp2
      exact hK.out _ (Below.refl _ _)
    intro V W A hW hS hA
    have d0 : V 0 = _ := hS 0 (by omega)
    have d1 : V 1 = _ := hS 1 (by omega)
    have d2 : V 2 = _ := hS 2 (by omega)
    have d3 : V 3 = _ := hS 3 (by omega)
    have d4 : (fun v W => ∃ g cap, v = .slice (some ⟨g, 0, none⟩) M.length cap ∧ RowIs W 3 1 g M.length cap (intsV M)) (V 4) W := hS 4 (by omega)
    have d5 : (fun v W => ∃ g cap, v = .slice (some ⟨g, 0, none⟩) F.length cap ∧ w.heap.size + 1 + 1 + 1 < g ∧ RowIs W 118 2 g F.length cap (ensV F)) (V 5) W := hS 5 (by omega)
    have d6 : V 6 = _ := hS 6 (by omega)
    simp only [putAll, List.getElem?_toArray, List.getElem?_cons_succ, List.getElem?_cons_zero, Option.bind_some, Act.put, List.setIfInBounds_toArray, List.set_cons_succ, List.set_cons_zero] at hA
    clear hS
    generalize V 0 = x0 at d0 hA
    generalize V 1 = x1 at d1 hA
    generalize V 2 = x2 at d2 hA
    generalize V 3 = x3 at d3 hA
    generalize V 4 = x4 at d4 hA
    generalize V 5 = x5 at d5 hA
    generalize V 6 = x6 at d6 hA
    subst d0
    subst d1
    subst d2
    subst d3
    subst d6
    obtain rfl := hA
    simp only [List.drop_succ_cons, List.drop_zero]
    obtain ⟨gF, capF, rfl, hgF, hrF⟩ := d5
    clear d4
    have hbwW := hbw1.trans (hW.mono hbw1.size)
    have X2 : Hid (W.heap[w.heap.size + 1 + 1]? = some (.cells #[.string s.name, .int .i64 s.version, .int .i64 0, .int .i64 0, .int .i64 0, .bool false, .slice none 0 0, .bool false] 59 (0, 0))) := below_blk hW U2.out (by omega)
    have X3 : Hid (W.heap[w.heap.size + 1 + 1 + 1]? = some (.cells #[.string ⟨#[]⟩, .int .i64 0, .int .i64 0, .int .i64 0, .int .i64 0, .bool false, .slice none 0 0, .bool false] 59 (0, 0))) := below_blk hW U3.out (by omega)
    have HRF : Hid (RowIs W 118 2 gF F.length capF (ensV F)) := hrF
    clear hrF hW
    go_wp2_with (first
      | (refine wpList_store_one rfl 57 (.tmp 40) (.tmp 39) rfl (w.heap.size + 1 + 1) 6 (.slice (some ⟨gF, 0, none⟩) F.length capF) rfl rfl Tryz.infosEnds rfl rfl 59 #[.string s.name, .int .i64 s.version, .int .i64 0, .int .i64 0, .int .i64 0, .bool false, .slice none 0 0, .bool false] X2.out (Nat.le_of_ble_eq_true rfl) ?_; intro w5 hz on; have Z2 : Hid (w5.heap[w.heap.size + 1 + 1]? = some (.cells #[.string s.name, .int .i64 s.version, .int .i64 0, .int .i64 0, .int .i64 0, .bool false, .slice (some ⟨gF, 0, none⟩) F.length capF, .bool false] 59 (0, 0))) := hz; have Z3 : Hid _ := (on.other (w.heap.size + 1 + 1 + 1) (by omega)).trans X3.out; have hbw5 := hbwW.trans (on.below.mono (by omega)); have HR5 : Hid (RowIs w5 118 2 gF F.length capF (ensV F)) := HRF.out.blk (on.other gF (by omega)); clear hz on; have q0 := blk_cell Z2.out 0 rfl; have q1 := blk_cell Z2.out 1 rfl; have q2 := blk_cell Z2.out 2 rfl; have q3 := blk_cell Z2.out 3 rfl; have q4 := blk_cell Z2.out 4 rfl; have q5 := blk_cell Z2.out 5 rfl; have q6 := blk_cell Z2.out 6 rfl; have q7 := blk_cell Z2.out 7 rfl)
      | (refine wpList_store_only rfl 59 (.tmp 8) (.tmp 41) rfl (w.heap.size + 1 + 1 + 1) 0 #[.string s.name, .int .i64 s.version, .int .i64 0, .int .i64 0, .int .i64 0, .bool false, .slice (some ⟨gF, 0, none⟩) F.length capF, .bool false] rfl rfl 59 #[.string ⟨#[]⟩, .int .i64 0, .int .i64 0, .int .i64 0, .int .i64 0, .bool false, .slice none 0 0, .bool false] Z3.out Tryz.infosAct (Nat.le_of_ble_eq_true rfl) (by simp [Value.oneCell']) ?_; intro wf hz on; have RF : Hid (wf.heap[w.heap.size + 1 + 1 + 1]? = some (.cells #[.string s.name, .int .i64 s.version, .int .i64 0, .int .i64 0, .int .i64 0, .bool false, .slice (some ⟨gF, 0, none⟩) F.length capF, .bool false] 59 (0, 0))) := hz; have hbf := hbw5.trans (on.below.mono (by omega)); have HR6 : Hid (RowIs wf 118 2 gF F.length capF (ensV F)) := HR5.out.blk (on.other gF (by omega)); clear hz on; have p0 := blk_cell RF.out 0 rfl; have p1 := blk_cell RF.out 1 rfl; have p2 := blk_cell RF.out 2 rfl; have p3 := blk_cell RF.out 3 rfl; have p4 := blk_cell RF.out 4 rfl; have p5 := blk_cell RF.out 5 rfl; have p6 := blk_cell RF.out 6 rfl; have p7 := blk_cell RF.out 7 rfl))
    refine bodyPost_ret (v := .agg #[.string s.name, .int .i64 s.version, .int .i64 0, .int .i64 0, .int .i64 0, .bool false, .slice (some ⟨gF, 0, none⟩) F.length capF, .bool false]) (by simp [results, Tryz.results60, go_sem, p0, p1, p2, p3, p4, p5, p6, p7]) rfl ⟨_, rfl, ?_, hbf⟩
    rw [HE.out]
    exact ⟨some ⟨gF, 0, none⟩, capF, rfl, HR6.out.slEn (by omega)⟩
  · have HE : Hid (C = a0 s) := by unfold Hid; rw [HCD.out, if_pos (.inl (by simpa using hc0))]
    have q0 := blk_cell U2.out 0 rfl
    have q1 := blk_cell U2.out 1 rfl
    have q2 := blk_cell U2.out 2 rfl
    have q3 := blk_cell U2.out 3 rfl
    have q4 := blk_cell U2.out 4 rfl
    have q5 := blk_cell U2.out 5 rfl
    have q6 := blk_cell U2.out 6 rfl
    have q7 := blk_cell U2.out 7 rfl
    go_wp2_with (refine wpList_store_only rfl 59 (.tmp 8) (.tmp 24) rfl (w.heap.size + 1 + 1 + 1) 0 #[.string s.name, .int .i64 s.version, .int .i64 0, .int .i64 0, .int .i64 0, .bool false, .slice none 0 0, .bool false] rfl rfl 59 #[.string ⟨#[]⟩, .int .i64 0, .int .i64 0, .int .i64 0, .int .i64 0, .bool false, .slice none 0 0, .bool false] U3.out Tryz.infosAct (Nat.le_of_ble_eq_true rfl) (by simp [Value.oneCell']) ?_; intro wf hz on; have RF : Hid (wf.heap[w.heap.size + 1 + 1 + 1]? = some (.cells #[.string s.name, .int .i64 s.version, .int .i64 0, .int .i64 0, .int .i64 0, .bool false, .slice none 0 0, .bool false] 59 (0, 0))) := hz; have hbf := hbw1.trans (on.below.mono (by omega)); clear hz on; have p0 := blk_cell RF.out 0 rfl; have p1 := blk_cell RF.out 1 rfl; have p2 := blk_cell RF.out 2 rfl; have p3 := blk_cell RF.out 3 rfl; have p4 := blk_cell RF.out 4 rfl; have p5 := blk_cell RF.out 5 rfl; have p6 := blk_cell RF.out 6 rfl; have p7 := blk_cell RF.out 7 rfl)
    refine bodyPost_ret (v := .agg #[.string s.name, .int .i64 s.version, .int .i64 0, .int .i64 0, .int .i64 0, .bool false, .slice none 0 0, .bool false]) (by simp [results, Tryz.results60, go_sem, p0, p1, p2, p3, p4, p5, p6, p7]) rfl ⟨_, rfl, ?_, hbf⟩
    rw [HE.out]
    exact isAct_a0 _ _ s

end Go.Proofs.YtbceafpodamnfabGreat
