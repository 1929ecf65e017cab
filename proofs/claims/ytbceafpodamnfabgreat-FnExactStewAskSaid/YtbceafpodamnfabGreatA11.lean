/-
  My own: Pf.
-/
import Derived.Test.YtbceafpodamnfabGreatA10
set_option linter.unusedVariables false
set_option linter.unusedSimpArgs false
/-
  My own. Those of a service's live copies that are old, on berths that are to be drained, or failed, by the specification.
-/
namespace Go.Proofs.YtbceafpodamnfabGreat
open Go.RowKit Go.Sort

def someL (B : Bk) (s : Svc) (p : Cp → Bool) : List Nat := (liveTo B s.name B.cps.length).filter fun i => p (cpD B i)

set_option maxRecDepth 100000 in
set_option maxHeartbeats 16000000 in
theorem l5Some_2 (B : Bk) (s : Svc) (a1 a2 a3 : Option Addr) (c1 c2 c3 : Nat) (w : World) (hS : B.small) (hB : BkAt w a1 a2 a3 B) :
    Calls Tryz.prog 56 #[.agg #[.int .i64 B.now, .slice a1 B.svcs.length c1, .slice a2 B.cps.length c2, .slice a3 B.bts.length c3], .agg #[.string s.name, .int .i64 s.version, .bool s.gone, .int .i64 s.image, .int .i64 s.want, .int .i64 s.down, .int .i64 s.over, .int .i64 s.next, .int .i64 s.per, .int .i64 s.least, .int .i64 s.most, .int .i64 s.load, .int .i64 s.cool], .int .i64 2] w fun e w' => ∃ g cap, e = .returned (.slice (some ⟨g, 0, none⟩) (someL B s (fun c => c.image != s.image)).length cap) ∧ w.heap.size ≤ g ∧ RowIs w' 3 1 g (someL B s (fun c => c.image != s.image)).length cap (intsV (someL B s (fun c => c.image != s.image))) ∧ Below w.heap.size w w' := by
  obtain ⟨t0, t1, t2, t3⟩ := three_new w (.cells #[.int .i64 B.now, .slice a1 B.svcs.length c1, .slice a2 B.cps.length c2, .slice a3 B.bts.length c3] 34) (.cells #[.string s.name, .int .i64 s.version, .bool s.gone, .int .i64 s.image, .int .i64 s.want, .int .i64 s.down, .int .i64 s.over, .int .i64 s.next, .int .i64 s.per, .int .i64 s.least, .int .i64 s.most, .int .i64 s.load, .int .i64 s.cool] 48) (.cells #[] 3)
  have T0 : Hid _ := t0
  have T1 : Hid _ := t1
  have T2 : Hid _ := t2
  have HS3 : Hid _ := t3
  clear t0 t1 t2 t3
  have hbb : Below w.heap.size w (((w.alloc (.cells #[.int .i64 B.now, .slice a1 B.svcs.length c1, .slice a2 B.cps.length c2, .slice a3 B.bts.length c3] 34)).alloc (.cells #[.string s.name, .int .i64 s.version, .bool s.gone, .int .i64 s.image, .int .i64 s.want, .int .i64 s.down, .int .i64 s.over, .int .i64 s.next, .int .i64 s.per, .int .i64 s.least, .int .i64 s.most, .int .i64 s.load, .int .i64 s.cool] 48)).alloc (.cells #[] 3)) := (((Below.refl _ _).alloc (Nat.le_refl _) _).alloc (by simp) _).alloc (by simp; omega) _
  obtain ⟨L, HLL⟩ : ∃ L, Hid (liveTo B s.name B.cps.length = L) := ⟨_, rfl⟩
  have hLl : L.length ≤ B.cps.length := by rw [← HLL.out]; exact liveTo_len _ _ _
  have hL : ∀ i ∈ L, i < B.cps.length := fun i hi => by rw [← HLL.out] at hi; exact liveTo_lt hi
  have hl := hS
  obtain ⟨hl1, hl2, hl3⟩ := hl
  have HP : Hid (someL B s (fun c => c.image != s.image) = L.filter fun i => (fun c => c.image != s.image) (cpD B i)) := by unfold Hid someL; rw [HLL.out]
  rw [HP.out]
  obtain ⟨P, HPP⟩ : ∃ P : Nat → Bool, Hid (P = fun i => (fun c => c.image != s.image) (cpD B i)) := ⟨_, rfl⟩
  rw [← HPP.out]
  clear HP
  go_enter Tryz.func56, Tryz.ntmps56
  go_wp2_with fail
  refine (l5Live_any B s.name a1 a2 a3 c1 c2 c3 _ hS (hB.below hbb).2.1).mono ?_
  rw [HLL.out]
  rintro e w1 ⟨gL, capL, rfl, hgL0, hLr, hb1⟩
  rw [HS3.out] at hgL0 hb1
  have hbw1 := hbb.trans (hb1.mono (by omega))
  have U0 : Hid _ := below_blk hb1 T0.out (by omega)
  have U1 : Hid _ := below_blk hb1 T1.out (by omega)
  have U2 : Hid _ := below_blk hb1 T2.out (by omega)
  have hz1 : w.heap.size + 1 + 1 + 1 ≤ w1.heap.size := by have := hb1.size; rw [HS3.out] at this; omega
  have ULR : Hid (RowIs w1 3 1 gL L.length capL (intsV L)) := hLr
  clear T0 T1 T2 HS3 hb1 hbb hLr HLL
  go_wp2
  go_loopw [7, 9] (fun ov iv wr => ∃ k n g cap : Nat, k ≤ L.length ∧ iv = .int .i64 k ∧ ov = .slice (some ⟨g, 0, none⟩) n cap ∧ Hid (n = ((L.take k).filter P).length) ∧ w.heap.size + 1 < g ∧ g ≠ gL ∧ Below w.heap.size w wr ∧ Hid (wr.heap[w.heap.size]? = some (.cells #[.int .i64 B.now, .slice a1 B.svcs.length c1, .slice a2 B.cps.length c2, .slice a3 B.bts.length c3] 34 (0, 0))) ∧ Hid (wr.heap[w.heap.size + 1]? = some (.cells #[.string s.name, .int .i64 s.version, .bool s.gone, .int .i64 s.image, .int .i64 s.want, .int .i64 s.down, .int .i64 s.over, .int .i64 s.next, .int .i64 s.per, .int .i64 s.least, .int .i64 s.most, .int .i64 s.load, .int .i64 s.cool] 48 (0, 0))) ∧ Hid (RowIs wr 3 1 gL L.length capL (intsV L)) ∧ Hid (RowIs wr 3 1 g n cap (intsV ((L.take k).filter P)))) (fun _ i _ => L.length - (intOf i).toNat)
  case atStart => exact ⟨0, 0, w.heap.size + 1 + 1, 0, by omega, rfl, rfl, rfl, by omega, by omega, hbw1, U0, U1, ULR, ⟨rfl, Nat.le_refl _, #[], U2.out, rfl, rfl⟩⟩
  case round =>
    clear hbw1 U0 U1 U2 ULR hz1
    obtain ⟨k, n, g, cap, hk, rfl, rfl, HNN, hg, hgne, hb, hbox, hsv, hLrow, hrow⟩ := hrel
    by_cases hlt : k < L.length
    · obtain ⟨i, hik⟩ : ∃ i, L[k]? = some i := ⟨L[k], by simp [hlt]⟩
      have hilt := hL i (List.mem_of_getElem? hik)
      have HLK : Hid _ := intsV_at hik
      have hne : B.cps ≠ [] := by intro h; rw [h] at hilt; simp at hilt
      have hB0 := hB
      obtain ⟨b, off, ea, hbs, hat⟩ := hB.2.1 hne
      subst ea
      obtain ⟨s0, hs⟩ : ∃ s0, cpD B i = s0 := ⟨_, rfl⟩
      have hcx := hat i s0 (by rw [cpD_some hilt, hs])
      have hnk : n ≤ k := by rw [HNN.out]; exact filter_take_len _ _ _
      obtain ⟨m, HM⟩ : ∃ m, Hid ((s0.image != s.image) = m) := ⟨_, rfl⟩
      have HF : Hid ((L.take (k + 1)).filter P = (L.take k).filter P ++ (if m then [i] else [])) := by
        unfold Hid
        rw [filter_take _ L hik, HPP.out]
        simp only [hs]
        rw [HM.out]
      have hbl : w.heap.size < wr.heap.size := (Array.getElem?_eq_some_iff.1 hbox.out).1
      have hsl : w.heap.size + 1 < wr.heap.size := (Array.getElem?_eq_some_iff.1 hsv.out).1
      have hgl : g < wr.heap.size := hrow.out.lt
      have hgL : gL < wr.heap.size := hLrow.out.lt
      have hz := hb.size
      clear hik hne hat hs
      go_wp2
      refine wp_region_grows 9 (by kernel_rfl) (by kernel_rfl) ?_
      apply grow_eq
      · intro V W K A hW hd hA hK
        simp only [putAll, List.getElem?_toArray, List.getElem?_cons_succ, List.getElem?_cons_zero, Option.bind_some, Act.put, List.setIfInBounds_toArray, List.set_cons_succ, List.set_cons_zero] at hA
        clear hd
        generalize V 0 = x0 at hA
        generalize V 1 = x1 at hA
        generalize V 2 = x2 at hA
        generalize V 3 = x3 at hA
        generalize V 4 = x4 at hA
        generalize V 5 = x5 at hA
        generalize V 6 = x6 at hA
        generalize V 7 = x7 at hA
        generalize V 8 = x8 at hA
        obtain rfl := hA
        go_wp2
        exact hK.out _ (Below.refl _ _)
      apply grow_eq
      · intro V W K A hW hd hA hK
        have d0 : V 0 = _ := hd 0 (by kernel_rfl)
        simp only [putAll, List.getElem?_toArray, List.getElem?_cons_succ, List.getElem?_cons_zero, Option.bind_some, Act.put, List.setIfInBounds_toArray, List.set_cons_succ, List.set_cons_zero] at hA
        clear hd
        generalize V 0 = x0 at d0 hA
        generalize V 1 = x1 at hA
        generalize V 2 = x2 at hA
        generalize V 3 = x3 at hA
        generalize V 4 = x4 at hA
        generalize V 5 = x5 at hA
        generalize V 6 = x6 at hA
        generalize V 7 = x7 at hA
        generalize V 8 = x8 at hA
        subst d0
        obtain rfl := hA
        have e2 := blk_cell (below_blk hW hbox.out hbl) 2 rfl
        go_wp2
        exact hK.out _ (Below.refl _ _)
      apply grow_eq
      · intro V W K A hW hd hA hK
        simp only [putAll, List.getElem?_toArray, List.getElem?_cons_succ, List.getElem?_cons_zero, Option.bind_some, Act.put, List.setIfInBounds_toArray, List.set_cons_succ, List.set_cons_zero] at hA
        clear hd
        generalize V 0 = x0 at hA
        generalize V 1 = x1 at hA
        generalize V 2 = x2 at hA
        generalize V 3 = x3 at hA
        generalize V 4 = x4 at hA
        generalize V 5 = x5 at hA
        generalize V 6 = x6 at hA
        generalize V 7 = x7 at hA
        generalize V 8 = x8 at hA
        obtain rfl := hA
        go_wp2
        exact hK.out _ (Below.refl _ _)
      apply grow_eq
      · intro V W K A hW hd hA hK
        simp only [putAll, List.getElem?_toArray, List.getElem?_cons_succ, List.getElem?_cons_zero, Option.bind_some, Act.put, List.setIfInBounds_toArray, List.set_cons_succ, List.set_cons_zero] at hA
        clear hd
        generalize V 0 = x0 at hA
        generalize V 1 = x1 at hA
        generalize V 2 = x2 at hA
        generalize V 3 = x3 at hA
        generalize V 4 = x4 at hA
        generalize V 5 = x5 at hA
        generalize V 6 = x6 at hA
        generalize V 7 = x7 at hA
        generalize V 8 = x8 at hA
        obtain rfl := hA
        go_wp2
        exact hK.out _ (Below.refl _ _)
      apply grow_eq
      · intro V W K A hW hd hA hK
        have d2 : V 2 = _ := hd 2 (by kernel_rfl)
        have d3 : V 3 = _ := hd 3 (by kernel_rfl)
        simp only [putAll, List.getElem?_toArray, List.getElem?_cons_succ, List.getElem?_cons_zero, Option.bind_some, Act.put, List.setIfInBounds_toArray, List.set_cons_succ, List.set_cons_zero] at hA
        clear hd
        generalize V 0 = x0 at hA
        generalize V 1 = x1 at hA
        generalize V 2 = x2 at d2 hA
        generalize V 3 = x3 at d3 hA
        generalize V 4 = x4 at hA
        generalize V 5 = x5 at hA
        generalize V 6 = x6 at hA
        generalize V 7 = x7 at hA
        generalize V 8 = x8 at hA
        subst d2
        subst d3
        obtain rfl := hA
        go_wp2
        exact hK.out _ (Below.refl _ _)
      apply grow_eq
      · intro V W K A hW hd hA hK
        have d4 : V 4 = _ := hd 4 (by kernel_rfl)
        simp only [putAll, List.getElem?_toArray, List.getElem?_cons_succ, List.getElem?_cons_zero, Option.bind_some, Act.put, List.setIfInBounds_toArray, List.set_cons_succ, List.set_cons_zero] at hA
        clear hd
        generalize V 0 = x0 at hA
        generalize V 1 = x1 at hA
        generalize V 2 = x2 at hA
        generalize V 3 = x3 at hA
        generalize V 4 = x4 at d4 hA
        generalize V 5 = x5 at hA
        generalize V 6 = x6 at hA
        generalize V 7 = x7 at hA
        generalize V 8 = x8 at hA
        subst d4
        obtain rfl := hA
        have y0 := (hLrow.out.below hW hgL).cell HLK.out
        go_wp2
        exact hK.out _ (Below.refl _ _)
      apply grow_eq
      · intro V W K A hW hd hA hK
        have d1 : V 1 = _ := hd 1 (by kernel_rfl)
        have d5 : V 5 = _ := hd 5 (by kernel_rfl)
        simp only [putAll, List.getElem?_toArray, List.getElem?_cons_succ, List.getElem?_cons_zero, Option.bind_some, Act.put, List.setIfInBounds_toArray, List.set_cons_succ, List.set_cons_zero] at hA
        clear hd
        generalize V 0 = x0 at hA
        generalize V 1 = x1 at d1 hA
        generalize V 2 = x2 at hA
        generalize V 3 = x3 at hA
        generalize V 4 = x4 at hA
        generalize V 5 = x5 at d5 hA
        generalize V 6 = x6 at hA
        generalize V 7 = x7 at hA
        generalize V 8 = x8 at hA
        subst d1
        subst d5
        obtain rfl := hA
        go_wp2
        exact hK.out _ (Below.refl _ _)
      apply grow_eq
      · intro V W K A hW hd hA hK
        have d6 : V 6 = _ := hd 6 (by kernel_rfl)
        simp only [putAll, List.getElem?_toArray, List.getElem?_cons_succ, List.getElem?_cons_zero, Option.bind_some, Act.put, List.setIfInBounds_toArray, List.set_cons_succ, List.set_cons_zero] at hA
        clear hd
        generalize V 0 = x0 at hA
        generalize V 1 = x1 at hA
        generalize V 2 = x2 at hA
        generalize V 3 = x3 at hA
        generalize V 4 = x4 at hA
        generalize V 5 = x5 at hA
        generalize V 6 = x6 at d6 hA
        generalize V 7 = x7 at hA
        generalize V 8 = x8 at hA
        subst d6
        obtain rfl := hA
        have hq := hcx.below (hb.trans (hW.mono hb.size)) hbs
        unfold CpAt at hq
        obtain ⟨q0, q1, q2, q3, q4, q5, q6⟩ := hq
        go_wp2
        exact hK.out _ (Below.refl _ _)
      refine grow_op (fun v W => ∃ p, v = .pointer (some ⟨p, 0, none⟩) ∧ wr.heap.size ≤ p ∧ W.heap[p]? = some (.cells #[.string ⟨#[]⟩, .int .i64 0, .int .i64 0, .int .i64 0, .int .i64 0, .bool false, .string ⟨#[]⟩] 88 (0, 0))) (fun v W W2 ⟨p, h1, h2, h3⟩ hb => ⟨p, h1, h2, below_blk hb h3 (Array.getElem?_eq_some_iff.1 h3).1⟩) ?_ ?_
      · intro V W K A hW hd hA hK
        simp only [putAll, List.getElem?_toArray, List.getElem?_cons_succ, List.getElem?_cons_zero, Option.bind_some, Act.put, List.setIfInBounds_toArray, List.set_cons_succ, List.set_cons_zero] at hA
        clear hd
        generalize V 0 = x0 at hA
        generalize V 1 = x1 at hA
        generalize V 2 = x2 at hA
        generalize V 3 = x3 at hA
        generalize V 4 = x4 at hA
        generalize V 5 = x5 at hA
        generalize V 6 = x6 at hA
        generalize V 7 = x7 at hA
        generalize V 8 = x8 at hA
        obtain rfl := hA
        go_wp2
        exact hK.out _ _ (below_box W _) ⟨_, rfl, hW.size, heap_alloc_new W _⟩
      intro V W A hW hS hA
      have d0 : V 0 = _ := hS 0 (by omega)
      have d1 : V 1 = _ := hS 1 (by omega)
      have d2 : V 2 = _ := hS 2 (by omega)
      have d3 : V 3 = _ := hS 3 (by omega)
      have d4 : V 4 = _ := hS 4 (by omega)
      have d5 : V 5 = _ := hS 5 (by omega)
      have d6 : V 6 = _ := hS 6 (by omega)
      have d7 : V 7 = _ := hS 7 (by omega)
      have d8 : (fun v W => ∃ p, v = .pointer (some ⟨p, 0, none⟩) ∧ wr.heap.size ≤ p ∧ W.heap[p]? = some (.cells #[.string ⟨#[]⟩, .int .i64 0, .int .i64 0, .int .i64 0, .int .i64 0, .bool false, .string ⟨#[]⟩] 88 (0, 0))) (V 8) W := hS 8 (by omega)
      simp only [putAll, List.getElem?_toArray, List.getElem?_cons_succ, List.getElem?_cons_zero, Option.bind_some, Act.put, List.setIfInBounds_toArray, List.set_cons_succ, List.set_cons_zero] at hA
      clear hS
      generalize V 0 = x0 at d0 hA
      generalize V 1 = x1 at d1 hA
      generalize V 2 = x2 at d2 hA
      generalize V 3 = x3 at d3 hA
      generalize V 4 = x4 at d4 hA
      generalize V 5 = x5 at d5 hA
      generalize V 6 = x6 at d6 hA
      generalize V 7 = x7 at d7 hA
      generalize V 8 = x8 at d8 hA
      subst d0
      subst d1
      subst d2
      subst d3
      subst d4
      subst d5
      subst d6
      subst d7
      obtain rfl := hA
      simp only [List.drop_succ_cons, List.drop_zero]
      obtain ⟨p, rfl, hp, hpz⟩ := d8
      refine wpList_store_at rfl 88 (.tmp 10) (.tmp 29) rfl p 0 #[.string s0.service, .int .i64 s0.number, .int .i64 s0.version, .int .i64 s0.image, .int .i64 s0.state, .bool s0.ending, .string s0.berth] rfl rfl 88 #[.string ⟨#[]⟩, .int .i64 0, .int .i64 0, .int .i64 0, .int .i64 0, .bool false, .string ⟨#[]⟩] hpz Tryz.infosCopy (Nat.le_refl 7) (one_Cp s0) ?_
      intro w2 hrow2 hsz2 hb2
      have hzW := hW.size
      have hzW2 : w2.heap.size = W.heap.size := hsz2.out
      have HZ2 : Hid _ := hzW2
      have hxs : Hid (w2.heap[p]? = some (.cells #[.string s0.service, .int .i64 s0.number, .int .i64 s0.version, .int .i64 s0.image, .int .i64 s0.state, .bool s0.ending, .string s0.berth] 88 (0, 0))) := hrow2
      have hbWr : Below wr.heap.size wr w2 := hW.trans (hb2.mono hp)
      have hbw2 := hb.trans (hbWr.mono hb.size)
      have hbox2 : Hid _ := below_blk hbWr hbox.out hbl
      have hsv2 : Hid _ := below_blk hbWr hsv.out hsl
      have hrow3 : Hid (RowIs w2 3 1 g n cap (intsV ((L.take k).filter P))) := hrow.out.below hbWr hgl
      have hLr3 : Hid (RowIs w2 3 1 gL L.length capL (intsV L)) := hLrow.out.below hbWr hgL
      have hz2 := hbWr.size
      clear hW hb2 hsz2 hrow2 hpz hrow hbox hsv hLrow hzW2 HZ2 hzW
      have z3 := blk_cell hxs.out 3 rfl
      have v3 := blk_cell hsv2.out 3 rfl
      have hm : (s0.image != s.image) = m := HM.out
      cases m
      · go_wp2
        go_roundw
        case rel => exact ⟨k + 1, n, g, cap, by omega, by go_num, rfl, by rw [HF.out]; simpa using HNN, hg, hgne, hbw2, hbox2, hsv2, hLr3, by rw [HF.out]; simpa using hrow3⟩
        case measure => simp [intOf]; omega
      · have y0 := hLr3.out.cell HLK.out
        have hgl3 : g < w2.heap.size := by omega
        have hgL3 : gL < w2.heap.size := by omega
        go_wp2_with (at_builtin; refine wpList_append_row rfl (.tmp 57) (.tmp 62) 91 rfl 3 _ 1 8 Tryz.underlying91 Tryz.infoInt rfl g n cap _ rfl (hrow3.out.below (below_box w2 _) hgl3) ⟨w2.heap.size, 0, none⟩ 1 1 [.int .i64 (i : Int)] rfl rfl (news_row (heap_alloc_new w2 _)) (by simp [Value.oneCell']) (by unfold maxLen; omega) (by omega) ?_; intro g' cap' w4 hg' hrow' hgr)
        have hsz : (w2.alloc (.cells #[.int .i64 (i : Int)] 3)).heap.size = w2.heap.size + 1 := by show (w2.heap.push _).size = _; simp
        have hb4 : Below w.heap.size w w4 := (hbw2.alloc hbw2.size _).trans (below_of_grown hgr (by omega) (by rw [hsz]; omega))
        have hal := below_box w2 (.cells #[.int .i64 (i : Int)] 3)
        have hbox4 : Hid _ := (hgr.block w.heap.size (by rw [hsz]; omega) (fun e => by have := Option.some.inj e; omega)).trans (below_blk hal hbox2.out (by omega))
        have hsv4 : Hid _ := (hgr.block (w.heap.size + 1) (by rw [hsz]; omega) (fun e => by have := Option.some.inj e; omega)).trans (below_blk hal hsv2.out (by omega))
        have hLr4 : Hid (RowIs w4 3 1 gL L.length capL (intsV L)) := (hLr3.out.below hal hgL3).grown hgr (fun e => hgne (Option.some.inj e).symm)
        rw [hsz] at hg'
        go_roundw
        case rel => exact ⟨k + 1, n + 1, g', cap', by omega, by go_num, rfl, by unfold Hid; rw [HF.out, List.length_append, ← HNN.out]; rfl, by omega, by omega, hb4, hbox4, hsv4, hLr4, by rw [HF.out]; simp only [if_true]; rw [intsV_add]; exact hrow'⟩
        case measure => simp [intOf]; omega
    · go_wp2
      go_ret
      have hkl : k = L.length := by omega
      subst hkl
      have hn := HNN.out
      rw [List.take_length] at hrow hn
      subst hn
      exact ⟨g, cap, rfl, by omega, hrow.out, hb⟩

set_option maxRecDepth 100000 in
set_option maxHeartbeats 16000000 in
theorem l5Some_3 (B : Bk) (s : Svc) (a1 a2 a3 : Option Addr) (c1 c2 c3 : Nat) (w : World) (hS : B.small) (hB : BkAt w a1 a2 a3 B) :
    Calls Tryz.prog 56 #[.agg #[.int .i64 B.now, .slice a1 B.svcs.length c1, .slice a2 B.cps.length c2, .slice a3 B.bts.length c3], .agg #[.string s.name, .int .i64 s.version, .bool s.gone, .int .i64 s.image, .int .i64 s.want, .int .i64 s.down, .int .i64 s.over, .int .i64 s.next, .int .i64 s.per, .int .i64 s.least, .int .i64 s.most, .int .i64 s.load, .int .i64 s.cool], .int .i64 3] w fun e w' => ∃ g cap, e = .returned (.slice (some ⟨g, 0, none⟩) (someL B s (fun c => c.state == 4)).length cap) ∧ w.heap.size ≤ g ∧ RowIs w' 3 1 g (someL B s (fun c => c.state == 4)).length cap (intsV (someL B s (fun c => c.state == 4))) ∧ Below w.heap.size w w' := by
  obtain ⟨t0, t1, t2, t3⟩ := three_new w (.cells #[.int .i64 B.now, .slice a1 B.svcs.length c1, .slice a2 B.cps.length c2, .slice a3 B.bts.length c3] 34) (.cells #[.string s.name, .int .i64 s.version, .bool s.gone, .int .i64 s.image, .int .i64 s.want, .int .i64 s.down, .int .i64 s.over, .int .i64 s.next, .int .i64 s.per, .int .i64 s.least, .int .i64 s.most, .int .i64 s.load, .int .i64 s.cool] 48) (.cells #[] 3)
  have T0 : Hid _ := t0
  have T1 : Hid _ := t1
  have T2 : Hid _ := t2
  have HS3 : Hid _ := t3
  clear t0 t1 t2 t3
  have hbb : Below w.heap.size w (((w.alloc (.cells #[.int .i64 B.now, .slice a1 B.svcs.length c1, .slice a2 B.cps.length c2, .slice a3 B.bts.length c3] 34)).alloc (.cells #[.string s.name, .int .i64 s.version, .bool s.gone, .int .i64 s.image, .int .i64 s.want, .int .i64 s.down, .int .i64 s.over, .int .i64 s.next, .int .i64 s.per, .int .i64 s.least, .int .i64 s.most, .int .i64 s.load, .int .i64 s.cool] 48)).alloc (.cells #[] 3)) := (((Below.refl _ _).alloc (Nat.le_refl _) _).alloc (by simp) _).alloc (by simp; omega) _
  obtain ⟨L, HLL⟩ : ∃ L, Hid (liveTo B s.name B.cps.length = L) := ⟨_, rfl⟩
  have hLl : L.length ≤ B.cps.length := by rw [← HLL.out]; exact liveTo_len _ _ _
  have hL : ∀ i ∈ L, i < B.cps.length := fun i hi => by rw [← HLL.out] at hi; exact liveTo_lt hi
  have hl := hS
  obtain ⟨hl1, hl2, hl3⟩ := hl
  have HP : Hid (someL B s (fun c => c.state == 4) = L.filter fun i => (fun c => c.state == 4) (cpD B i)) := by unfold Hid someL; rw [HLL.out]
  rw [HP.out]
  obtain ⟨P, HPP⟩ : ∃ P : Nat → Bool, Hid (P = fun i => (fun c => c.state == 4) (cpD B i)) := ⟨_, rfl⟩
  rw [← HPP.out]
  clear HP
  go_enter Tryz.func56, Tryz.ntmps56
  go_wp2_with fail
  refine (l5Live_any B s.name a1 a2 a3 c1 c2 c3 _ hS (hB.below hbb).2.1).mono ?_
  rw [HLL.out]
  rintro e w1 ⟨gL, capL, rfl, hgL0, hLr, hb1⟩
  rw [HS3.out] at hgL0 hb1
  have hbw1 := hbb.trans (hb1.mono (by omega))
  have U0 : Hid _ := below_blk hb1 T0.out (by omega)
  have U1 : Hid _ := below_blk hb1 T1.out (by omega)
  have U2 : Hid _ := below_blk hb1 T2.out (by omega)
  have hz1 : w.heap.size + 1 + 1 + 1 ≤ w1.heap.size := by have := hb1.size; rw [HS3.out] at this; omega
  have ULR : Hid (RowIs w1 3 1 gL L.length capL (intsV L)) := hLr
  clear T0 T1 T2 HS3 hb1 hbb hLr HLL
  go_wp2
  go_loopw [7, 9] (fun ov iv wr => ∃ k n g cap : Nat, k ≤ L.length ∧ iv = .int .i64 k ∧ ov = .slice (some ⟨g, 0, none⟩) n cap ∧ Hid (n = ((L.take k).filter P).length) ∧ w.heap.size + 1 < g ∧ g ≠ gL ∧ Below w.heap.size w wr ∧ Hid (wr.heap[w.heap.size]? = some (.cells #[.int .i64 B.now, .slice a1 B.svcs.length c1, .slice a2 B.cps.length c2, .slice a3 B.bts.length c3] 34 (0, 0))) ∧ Hid (wr.heap[w.heap.size + 1]? = some (.cells #[.string s.name, .int .i64 s.version, .bool s.gone, .int .i64 s.image, .int .i64 s.want, .int .i64 s.down, .int .i64 s.over, .int .i64 s.next, .int .i64 s.per, .int .i64 s.least, .int .i64 s.most, .int .i64 s.load, .int .i64 s.cool] 48 (0, 0))) ∧ Hid (RowIs wr 3 1 gL L.length capL (intsV L)) ∧ Hid (RowIs wr 3 1 g n cap (intsV ((L.take k).filter P)))) (fun _ i _ => L.length - (intOf i).toNat)
  case atStart => exact ⟨0, 0, w.heap.size + 1 + 1, 0, by omega, rfl, rfl, rfl, by omega, by omega, hbw1, U0, U1, ULR, ⟨rfl, Nat.le_refl _, #[], U2.out, rfl, rfl⟩⟩
  case round =>
    clear hbw1 U0 U1 U2 ULR hz1
    obtain ⟨k, n, g, cap, hk, rfl, rfl, HNN, hg, hgne, hb, hbox, hsv, hLrow, hrow⟩ := hrel
    by_cases hlt : k < L.length
    · obtain ⟨i, hik⟩ : ∃ i, L[k]? = some i := ⟨L[k], by simp [hlt]⟩
      have hilt := hL i (List.mem_of_getElem? hik)
      have HLK : Hid _ := intsV_at hik
      have hne : B.cps ≠ [] := by intro h; rw [h] at hilt; simp at hilt
      have hB0 := hB
      obtain ⟨b, off, ea, hbs, hat⟩ := hB.2.1 hne
      subst ea
      obtain ⟨s0, hs⟩ : ∃ s0, cpD B i = s0 := ⟨_, rfl⟩
      have hcx := hat i s0 (by rw [cpD_some hilt, hs])
      have hnk : n ≤ k := by rw [HNN.out]; exact filter_take_len _ _ _
      obtain ⟨m, HM⟩ : ∃ m, Hid ((s0.state == 4) = m) := ⟨_, rfl⟩
      have HF : Hid ((L.take (k + 1)).filter P = (L.take k).filter P ++ (if m then [i] else [])) := by
        unfold Hid
        rw [filter_take _ L hik, HPP.out]
        simp only [hs]
        rw [HM.out]
      have hbl : w.heap.size < wr.heap.size := (Array.getElem?_eq_some_iff.1 hbox.out).1
      have hsl : w.heap.size + 1 < wr.heap.size := (Array.getElem?_eq_some_iff.1 hsv.out).1
      have hgl : g < wr.heap.size := hrow.out.lt
      have hgL : gL < wr.heap.size := hLrow.out.lt
      have hz := hb.size
      clear hik hne hat hs
      go_wp2
      refine wp_region_grows 9 (by kernel_rfl) (by kernel_rfl) ?_
      apply grow_eq
      · intro V W K A hW hd hA hK
        simp only [putAll, List.getElem?_toArray, List.getElem?_cons_succ, List.getElem?_cons_zero, Option.bind_some, Act.put, List.setIfInBounds_toArray, List.set_cons_succ, List.set_cons_zero] at hA
        clear hd
        generalize V 0 = x0 at hA
        generalize V 1 = x1 at hA
        generalize V 2 = x2 at hA
        generalize V 3 = x3 at hA
        generalize V 4 = x4 at hA
        generalize V 5 = x5 at hA
        generalize V 6 = x6 at hA
        generalize V 7 = x7 at hA
        generalize V 8 = x8 at hA
        obtain rfl := hA
        go_wp2
        exact hK.out _ (Below.refl _ _)
      apply grow_eq
      · intro V W K A hW hd hA hK
        have d0 : V 0 = _ := hd 0 (by kernel_rfl)
        simp only [putAll, List.getElem?_toArray, List.getElem?_cons_succ, List.getElem?_cons_zero, Option.bind_some, Act.put, List.setIfInBounds_toArray, List.set_cons_succ, List.set_cons_zero] at hA
        clear hd
        generalize V 0 = x0 at d0 hA
        generalize V 1 = x1 at hA
        generalize V 2 = x2 at hA
        generalize V 3 = x3 at hA
        generalize V 4 = x4 at hA
        generalize V 5 = x5 at hA
        generalize V 6 = x6 at hA
        generalize V 7 = x7 at hA
        generalize V 8 = x8 at hA
        subst d0
        obtain rfl := hA
        have e2 := blk_cell (below_blk hW hbox.out hbl) 2 rfl
        go_wp2
        exact hK.out _ (Below.refl _ _)
      apply grow_eq
      · intro V W K A hW hd hA hK
        simp only [putAll, List.getElem?_toArray, List.getElem?_cons_succ, List.getElem?_cons_zero, Option.bind_some, Act.put, List.setIfInBounds_toArray, List.set_cons_succ, List.set_cons_zero] at hA
        clear hd
        generalize V 0 = x0 at hA
        generalize V 1 = x1 at hA
        generalize V 2 = x2 at hA
        generalize V 3 = x3 at hA
        generalize V 4 = x4 at hA
        generalize V 5 = x5 at hA
        generalize V 6 = x6 at hA
        generalize V 7 = x7 at hA
        generalize V 8 = x8 at hA
        obtain rfl := hA
        go_wp2
        exact hK.out _ (Below.refl _ _)
      apply grow_eq
      · intro V W K A hW hd hA hK
        simp only [putAll, List.getElem?_toArray, List.getElem?_cons_succ, List.getElem?_cons_zero, Option.bind_some, Act.put, List.setIfInBounds_toArray, List.set_cons_succ, List.set_cons_zero] at hA
        clear hd
        generalize V 0 = x0 at hA
        generalize V 1 = x1 at hA
        generalize V 2 = x2 at hA
        generalize V 3 = x3 at hA
        generalize V 4 = x4 at hA
        generalize V 5 = x5 at hA
        generalize V 6 = x6 at hA
        generalize V 7 = x7 at hA
        generalize V 8 = x8 at hA
        obtain rfl := hA
        go_wp2
        exact hK.out _ (Below.refl _ _)
      apply grow_eq
      · intro V W K A hW hd hA hK
        have d2 : V 2 = _ := hd 2 (by kernel_rfl)
        have d3 : V 3 = _ := hd 3 (by kernel_rfl)
        simp only [putAll, List.getElem?_toArray, List.getElem?_cons_succ, List.getElem?_cons_zero, Option.bind_some, Act.put, List.setIfInBounds_toArray, List.set_cons_succ, List.set_cons_zero] at hA
        clear hd
        generalize V 0 = x0 at hA
        generalize V 1 = x1 at hA
        generalize V 2 = x2 at d2 hA
        generalize V 3 = x3 at d3 hA
        generalize V 4 = x4 at hA
        generalize V 5 = x5 at hA
        generalize V 6 = x6 at hA
        generalize V 7 = x7 at hA
        generalize V 8 = x8 at hA
        subst d2
        subst d3
        obtain rfl := hA
        go_wp2
        exact hK.out _ (Below.refl _ _)
      apply grow_eq
      · intro V W K A hW hd hA hK
        have d4 : V 4 = _ := hd 4 (by kernel_rfl)
        simp only [putAll, List.getElem?_toArray, List.getElem?_cons_succ, List.getElem?_cons_zero, Option.bind_some, Act.put, List.setIfInBounds_toArray, List.set_cons_succ, List.set_cons_zero] at hA
        clear hd
        generalize V 0 = x0 at hA
        generalize V 1 = x1 at hA
        generalize V 2 = x2 at hA
        generalize V 3 = x3 at hA
        generalize V 4 = x4 at d4 hA
        generalize V 5 = x5 at hA
        generalize V 6 = x6 at hA
        generalize V 7 = x7 at hA
        generalize V 8 = x8 at hA
        subst d4
        obtain rfl := hA
        have y0 := (hLrow.out.below hW hgL).cell HLK.out
        go_wp2
        exact hK.out _ (Below.refl _ _)
      apply grow_eq
      · intro V W K A hW hd hA hK
        have d1 : V 1 = _ := hd 1 (by kernel_rfl)
        have d5 : V 5 = _ := hd 5 (by kernel_rfl)
        simp only [putAll, List.getElem?_toArray, List.getElem?_cons_succ, List.getElem?_cons_zero, Option.bind_some, Act.put, List.setIfInBounds_toArray, List.set_cons_succ, List.set_cons_zero] at hA
        clear hd
        generalize V 0 = x0 at hA
        generalize V 1 = x1 at d1 hA
        generalize V 2 = x2 at hA
        generalize V 3 = x3 at hA
        generalize V 4 = x4 at hA
        generalize V 5 = x5 at d5 hA
        generalize V 6 = x6 at hA
        generalize V 7 = x7 at hA
        generalize V 8 = x8 at hA
        subst d1
        subst d5
        obtain rfl := hA
        go_wp2
        exact hK.out _ (Below.refl _ _)
      apply grow_eq
      · intro V W K A hW hd hA hK
        have d6 : V 6 = _ := hd 6 (by kernel_rfl)
        simp only [putAll, List.getElem?_toArray, List.getElem?_cons_succ, List.getElem?_cons_zero, Option.bind_some, Act.put, List.setIfInBounds_toArray, List.set_cons_succ, List.set_cons_zero] at hA
        clear hd
        generalize V 0 = x0 at hA
        generalize V 1 = x1 at hA
        generalize V 2 = x2 at hA
        generalize V 3 = x3 at hA
        generalize V 4 = x4 at hA
        generalize V 5 = x5 at hA
        generalize V 6 = x6 at d6 hA
        generalize V 7 = x7 at hA
        generalize V 8 = x8 at hA
        subst d6
        obtain rfl := hA
        have hq := hcx.below (hb.trans (hW.mono hb.size)) hbs
        unfold CpAt at hq
        obtain ⟨q0, q1, q2, q3, q4, q5, q6⟩ := hq
        go_wp2
        exact hK.out _ (Below.refl _ _)
      refine grow_op (fun v W => ∃ p, v = .pointer (some ⟨p, 0, none⟩) ∧ wr.heap.size ≤ p ∧ W.heap[p]? = some (.cells #[.string ⟨#[]⟩, .int .i64 0, .int .i64 0, .int .i64 0, .int .i64 0, .bool false, .string ⟨#[]⟩] 88 (0, 0))) (fun v W W2 ⟨p, h1, h2, h3⟩ hb => ⟨p, h1, h2, below_blk hb h3 (Array.getElem?_eq_some_iff.1 h3).1⟩) ?_ ?_
      · intro V W K A hW hd hA hK
        simp only [putAll, List.getElem?_toArray, List.getElem?_cons_succ, List.getElem?_cons_zero, Option.bind_some, Act.put, List.setIfInBounds_toArray, List.set_cons_succ, List.set_cons_zero] at hA
        clear hd
        generalize V 0 = x0 at hA
        generalize V 1 = x1 at hA
        generalize V 2 = x2 at hA
        generalize V 3 = x3 at hA
        generalize V 4 = x4 at hA
        generalize V 5 = x5 at hA
        generalize V 6 = x6 at hA
        generalize V 7 = x7 at hA
        generalize V 8 = x8 at hA
        obtain rfl := hA
        go_wp2
        exact hK.out _ _ (below_box W _) ⟨_, rfl, hW.size, heap_alloc_new W _⟩
      intro V W A hW hS hA
      have d0 : V 0 = _ := hS 0 (by omega)
      have d1 : V 1 = _ := hS 1 (by omega)
      have d2 : V 2 = _ := hS 2 (by omega)
      have d3 : V 3 = _ := hS 3 (by omega)
      have d4 : V 4 = _ := hS 4 (by omega)
      have d5 : V 5 = _ := hS 5 (by omega)
      have d6 : V 6 = _ := hS 6 (by omega)
      have d7 : V 7 = _ := hS 7 (by omega)
      have d8 : (fun v W => ∃ p, v = .pointer (some ⟨p, 0, none⟩) ∧ wr.heap.size ≤ p ∧ W.heap[p]? = some (.cells #[.string ⟨#[]⟩, .int .i64 0, .int .i64 0, .int .i64 0, .int .i64 0, .bool false, .string ⟨#[]⟩] 88 (0, 0))) (V 8) W := hS 8 (by omega)
      simp only [putAll, List.getElem?_toArray, List.getElem?_cons_succ, List.getElem?_cons_zero, Option.bind_some, Act.put, List.setIfInBounds_toArray, List.set_cons_succ, List.set_cons_zero] at hA
      clear hS
      generalize V 0 = x0 at d0 hA
      generalize V 1 = x1 at d1 hA
      generalize V 2 = x2 at d2 hA
      generalize V 3 = x3 at d3 hA
      generalize V 4 = x4 at d4 hA
      generalize V 5 = x5 at d5 hA
      generalize V 6 = x6 at d6 hA
      generalize V 7 = x7 at d7 hA
      generalize V 8 = x8 at d8 hA
      subst d0
      subst d1
      subst d2
      subst d3
      subst d4
      subst d5
      subst d6
      subst d7
      obtain rfl := hA
      simp only [List.drop_succ_cons, List.drop_zero]
      obtain ⟨p, rfl, hp, hpz⟩ := d8
      refine wpList_store_at rfl 88 (.tmp 10) (.tmp 29) rfl p 0 #[.string s0.service, .int .i64 s0.number, .int .i64 s0.version, .int .i64 s0.image, .int .i64 s0.state, .bool s0.ending, .string s0.berth] rfl rfl 88 #[.string ⟨#[]⟩, .int .i64 0, .int .i64 0, .int .i64 0, .int .i64 0, .bool false, .string ⟨#[]⟩] hpz Tryz.infosCopy (Nat.le_refl 7) (one_Cp s0) ?_
      intro w2 hrow2 hsz2 hb2
      have hzW := hW.size
      have hzW2 : w2.heap.size = W.heap.size := hsz2.out
      have HZ2 : Hid _ := hzW2
      have hxs : Hid (w2.heap[p]? = some (.cells #[.string s0.service, .int .i64 s0.number, .int .i64 s0.version, .int .i64 s0.image, .int .i64 s0.state, .bool s0.ending, .string s0.berth] 88 (0, 0))) := hrow2
      have hbWr : Below wr.heap.size wr w2 := hW.trans (hb2.mono hp)
      have hbw2 := hb.trans (hbWr.mono hb.size)
      have hbox2 : Hid _ := below_blk hbWr hbox.out hbl
      have hsv2 : Hid _ := below_blk hbWr hsv.out hsl
      have hrow3 : Hid (RowIs w2 3 1 g n cap (intsV ((L.take k).filter P))) := hrow.out.below hbWr hgl
      have hLr3 : Hid (RowIs w2 3 1 gL L.length capL (intsV L)) := hLrow.out.below hbWr hgL
      have hz2 := hbWr.size
      clear hW hb2 hsz2 hrow2 hpz hrow hbox hsv hLrow hzW2 HZ2 hzW
      have z4 := blk_cell hxs.out 4 rfl
      have hm : (s0.state == 4) = m := HM.out
      cases m
      · go_wp2
        go_roundw
        case rel => exact ⟨k + 1, n, g, cap, by omega, by go_num, rfl, by rw [HF.out]; simpa using HNN, hg, hgne, hbw2, hbox2, hsv2, hLr3, by rw [HF.out]; simpa using hrow3⟩
        case measure => simp [intOf]; omega
      · have y0 := hLr3.out.cell HLK.out
        have hgl3 : g < w2.heap.size := by omega
        have hgL3 : gL < w2.heap.size := by omega
        go_wp2_with (at_builtin; refine wpList_append_row rfl (.tmp 57) (.tmp 62) 91 rfl 3 _ 1 8 Tryz.underlying91 Tryz.infoInt rfl g n cap _ rfl (hrow3.out.below (below_box w2 _) hgl3) ⟨w2.heap.size, 0, none⟩ 1 1 [.int .i64 (i : Int)] rfl rfl (news_row (heap_alloc_new w2 _)) (by simp [Value.oneCell']) (by unfold maxLen; omega) (by omega) ?_; intro g' cap' w4 hg' hrow' hgr)
        have hsz : (w2.alloc (.cells #[.int .i64 (i : Int)] 3)).heap.size = w2.heap.size + 1 := by show (w2.heap.push _).size = _; simp
        have hb4 : Below w.heap.size w w4 := (hbw2.alloc hbw2.size _).trans (below_of_grown hgr (by omega) (by rw [hsz]; omega))
        have hal := below_box w2 (.cells #[.int .i64 (i : Int)] 3)
        have hbox4 : Hid _ := (hgr.block w.heap.size (by rw [hsz]; omega) (fun e => by have := Option.some.inj e; omega)).trans (below_blk hal hbox2.out (by omega))
        have hsv4 : Hid _ := (hgr.block (w.heap.size + 1) (by rw [hsz]; omega) (fun e => by have := Option.some.inj e; omega)).trans (below_blk hal hsv2.out (by omega))
        have hLr4 : Hid (RowIs w4 3 1 gL L.length capL (intsV L)) := (hLr3.out.below hal hgL3).grown hgr (fun e => hgne (Option.some.inj e).symm)
        rw [hsz] at hg'
        go_roundw
        case rel => exact ⟨k + 1, n + 1, g', cap', by omega, by go_num, rfl, by unfold Hid; rw [HF.out, List.length_append, ← HNN.out]; rfl, by omega, by omega, hb4, hbox4, hsv4, hLr4, by rw [HF.out]; simp only [if_true]; rw [intsV_add]; exact hrow'⟩
        case measure => simp [intOf]; omega
    · go_wp2
      go_ret
      have hkl : k = L.length := by omega
      subst hkl
      have hn := HNN.out
      rw [List.take_length] at hrow hn
      subst hn
      exact ⟨g, cap, rfl, by omega, hrow.out, hb⟩

set_option maxRecDepth 100000 in
set_option maxHeartbeats 16000000 in
theorem l5Some_6 (B : Bk) (s : Svc) (a1 a2 a3 : Option Addr) (c1 c2 c3 : Nat) (w : World) (hS : B.small) (hB : BkAt w a1 a2 a3 B) :
    Calls Tryz.prog 56 #[.agg #[.int .i64 B.now, .slice a1 B.svcs.length c1, .slice a2 B.cps.length c2, .slice a3 B.bts.length c3], .agg #[.string s.name, .int .i64 s.version, .bool s.gone, .int .i64 s.image, .int .i64 s.want, .int .i64 s.down, .int .i64 s.over, .int .i64 s.next, .int .i64 s.per, .int .i64 s.least, .int .i64 s.most, .int .i64 s.load, .int .i64 s.cool], .int .i64 6] w fun e w' => ∃ g cap, e = .returned (.slice (some ⟨g, 0, none⟩) (someL B s (fun c => drainsB B c)).length cap) ∧ w.heap.size ≤ g ∧ RowIs w' 3 1 g (someL B s (fun c => drainsB B c)).length cap (intsV (someL B s (fun c => drainsB B c))) ∧ Below w.heap.size w w' := by
  obtain ⟨t0, t1, t2, t3⟩ := three_new w (.cells #[.int .i64 B.now, .slice a1 B.svcs.length c1, .slice a2 B.cps.length c2, .slice a3 B.bts.length c3] 34) (.cells #[.string s.name, .int .i64 s.version, .bool s.gone, .int .i64 s.image, .int .i64 s.want, .int .i64 s.down, .int .i64 s.over, .int .i64 s.next, .int .i64 s.per, .int .i64 s.least, .int .i64 s.most, .int .i64 s.load, .int .i64 s.cool] 48) (.cells #[] 3)
  have T0 : Hid _ := t0
  have T1 : Hid _ := t1
  have T2 : Hid _ := t2
  have HS3 : Hid _ := t3
  clear t0 t1 t2 t3
  have hbb : Below w.heap.size w (((w.alloc (.cells #[.int .i64 B.now, .slice a1 B.svcs.length c1, .slice a2 B.cps.length c2, .slice a3 B.bts.length c3] 34)).alloc (.cells #[.string s.name, .int .i64 s.version, .bool s.gone, .int .i64 s.image, .int .i64 s.want, .int .i64 s.down, .int .i64 s.over, .int .i64 s.next, .int .i64 s.per, .int .i64 s.least, .int .i64 s.most, .int .i64 s.load, .int .i64 s.cool] 48)).alloc (.cells #[] 3)) := (((Below.refl _ _).alloc (Nat.le_refl _) _).alloc (by simp) _).alloc (by simp; omega) _
  obtain ⟨L, HLL⟩ : ∃ L, Hid (liveTo B s.name B.cps.length = L) := ⟨_, rfl⟩
  have hLl : L.length ≤ B.cps.length := by rw [← HLL.out]; exact liveTo_len _ _ _
  have hL : ∀ i ∈ L, i < B.cps.length := fun i hi => by rw [← HLL.out] at hi; exact liveTo_lt hi
  have hl := hS
  obtain ⟨hl1, hl2, hl3⟩ := hl
  have HP : Hid (someL B s (fun c => drainsB B c) = L.filter fun i => (fun c => drainsB B c) (cpD B i)) := by unfold Hid someL; rw [HLL.out]
  rw [HP.out]
  obtain ⟨P, HPP⟩ : ∃ P : Nat → Bool, Hid (P = fun i => (fun c => drainsB B c) (cpD B i)) := ⟨_, rfl⟩
  rw [← HPP.out]
  clear HP
  go_enter Tryz.func56, Tryz.ntmps56
  go_wp2_with fail
  refine (l5Live_any B s.name a1 a2 a3 c1 c2 c3 _ hS (hB.below hbb).2.1).mono ?_
  rw [HLL.out]
  rintro e w1 ⟨gL, capL, rfl, hgL0, hLr, hb1⟩
  rw [HS3.out] at hgL0 hb1
  have hbw1 := hbb.trans (hb1.mono (by omega))
  have U0 : Hid _ := below_blk hb1 T0.out (by omega)
  have U1 : Hid _ := below_blk hb1 T1.out (by omega)
  have U2 : Hid _ := below_blk hb1 T2.out (by omega)
  have hz1 : w.heap.size + 1 + 1 + 1 ≤ w1.heap.size := by have := hb1.size; rw [HS3.out] at this; omega
  have ULR : Hid (RowIs w1 3 1 gL L.length capL (intsV L)) := hLr
  clear T0 T1 T2 HS3 hb1 hbb hLr HLL
  go_wp2
  go_loopw [7, 9] (fun ov iv wr => ∃ k n g cap : Nat, k ≤ L.length ∧ iv = .int .i64 k ∧ ov = .slice (some ⟨g, 0, none⟩) n cap ∧ Hid (n = ((L.take k).filter P).length) ∧ w.heap.size + 1 < g ∧ g ≠ gL ∧ Below w.heap.size w wr ∧ Hid (wr.heap[w.heap.size]? = some (.cells #[.int .i64 B.now, .slice a1 B.svcs.length c1, .slice a2 B.cps.length c2, .slice a3 B.bts.length c3] 34 (0, 0))) ∧ Hid (wr.heap[w.heap.size + 1]? = some (.cells #[.string s.name, .int .i64 s.version, .bool s.gone, .int .i64 s.image, .int .i64 s.want, .int .i64 s.down, .int .i64 s.over, .int .i64 s.next, .int .i64 s.per, .int .i64 s.least, .int .i64 s.most, .int .i64 s.load, .int .i64 s.cool] 48 (0, 0))) ∧ Hid (RowIs wr 3 1 gL L.length capL (intsV L)) ∧ Hid (RowIs wr 3 1 g n cap (intsV ((L.take k).filter P)))) (fun _ i _ => L.length - (intOf i).toNat)
  case atStart => exact ⟨0, 0, w.heap.size + 1 + 1, 0, by omega, rfl, rfl, rfl, by omega, by omega, hbw1, U0, U1, ULR, ⟨rfl, Nat.le_refl _, #[], U2.out, rfl, rfl⟩⟩
  case round =>
    clear hbw1 U0 U1 U2 ULR hz1
    obtain ⟨k, n, g, cap, hk, rfl, rfl, HNN, hg, hgne, hb, hbox, hsv, hLrow, hrow⟩ := hrel
    by_cases hlt : k < L.length
    · obtain ⟨i, hik⟩ : ∃ i, L[k]? = some i := ⟨L[k], by simp [hlt]⟩
      have hilt := hL i (List.mem_of_getElem? hik)
      have HLK : Hid _ := intsV_at hik
      have hne : B.cps ≠ [] := by intro h; rw [h] at hilt; simp at hilt
      have hB0 := hB
      obtain ⟨b, off, ea, hbs, hat⟩ := hB.2.1 hne
      subst ea
      obtain ⟨s0, hs⟩ : ∃ s0, cpD B i = s0 := ⟨_, rfl⟩
      have hcx := hat i s0 (by rw [cpD_some hilt, hs])
      have hnk : n ≤ k := by rw [HNN.out]; exact filter_take_len _ _ _
      obtain ⟨m, HM⟩ : ∃ m, Hid ((drainsB B s0) = m) := ⟨_, rfl⟩
      have HF : Hid ((L.take (k + 1)).filter P = (L.take k).filter P ++ (if m then [i] else [])) := by
        unfold Hid
        rw [filter_take _ L hik, HPP.out]
        simp only [hs]
        rw [HM.out]
      have hbl : w.heap.size < wr.heap.size := (Array.getElem?_eq_some_iff.1 hbox.out).1
      have hsl : w.heap.size + 1 < wr.heap.size := (Array.getElem?_eq_some_iff.1 hsv.out).1
      have hgl : g < wr.heap.size := hrow.out.lt
      have hgL : gL < wr.heap.size := hLrow.out.lt
      have hz := hb.size
      clear hik hne hat hs
      go_wp2
      refine wp_region_grows 9 (by kernel_rfl) (by kernel_rfl) ?_
      apply grow_eq
      · intro V W K A hW hd hA hK
        simp only [putAll, List.getElem?_toArray, List.getElem?_cons_succ, List.getElem?_cons_zero, Option.bind_some, Act.put, List.setIfInBounds_toArray, List.set_cons_succ, List.set_cons_zero] at hA
        clear hd
        generalize V 0 = x0 at hA
        generalize V 1 = x1 at hA
        generalize V 2 = x2 at hA
        generalize V 3 = x3 at hA
        generalize V 4 = x4 at hA
        generalize V 5 = x5 at hA
        generalize V 6 = x6 at hA
        generalize V 7 = x7 at hA
        generalize V 8 = x8 at hA
        obtain rfl := hA
        go_wp2
        exact hK.out _ (Below.refl _ _)
      apply grow_eq
      · intro V W K A hW hd hA hK
        have d0 : V 0 = _ := hd 0 (by kernel_rfl)
        simp only [putAll, List.getElem?_toArray, List.getElem?_cons_succ, List.getElem?_cons_zero, Option.bind_some, Act.put, List.setIfInBounds_toArray, List.set_cons_succ, List.set_cons_zero] at hA
        clear hd
        generalize V 0 = x0 at d0 hA
        generalize V 1 = x1 at hA
        generalize V 2 = x2 at hA
        generalize V 3 = x3 at hA
        generalize V 4 = x4 at hA
        generalize V 5 = x5 at hA
        generalize V 6 = x6 at hA
        generalize V 7 = x7 at hA
        generalize V 8 = x8 at hA
        subst d0
        obtain rfl := hA
        have e2 := blk_cell (below_blk hW hbox.out hbl) 2 rfl
        go_wp2
        exact hK.out _ (Below.refl _ _)
      apply grow_eq
      · intro V W K A hW hd hA hK
        simp only [putAll, List.getElem?_toArray, List.getElem?_cons_succ, List.getElem?_cons_zero, Option.bind_some, Act.put, List.setIfInBounds_toArray, List.set_cons_succ, List.set_cons_zero] at hA
        clear hd
        generalize V 0 = x0 at hA
        generalize V 1 = x1 at hA
        generalize V 2 = x2 at hA
        generalize V 3 = x3 at hA
        generalize V 4 = x4 at hA
        generalize V 5 = x5 at hA
        generalize V 6 = x6 at hA
        generalize V 7 = x7 at hA
        generalize V 8 = x8 at hA
        obtain rfl := hA
        go_wp2
        exact hK.out _ (Below.refl _ _)
      apply grow_eq
      · intro V W K A hW hd hA hK
        simp only [putAll, List.getElem?_toArray, List.getElem?_cons_succ, List.getElem?_cons_zero, Option.bind_some, Act.put, List.setIfInBounds_toArray, List.set_cons_succ, List.set_cons_zero] at hA
        clear hd
        generalize V 0 = x0 at hA
        generalize V 1 = x1 at hA
        generalize V 2 = x2 at hA
        generalize V 3 = x3 at hA
        generalize V 4 = x4 at hA
        generalize V 5 = x5 at hA
        generalize V 6 = x6 at hA
        generalize V 7 = x7 at hA
        generalize V 8 = x8 at hA
        obtain rfl := hA
        go_wp2
        exact hK.out _ (Below.refl _ _)
      apply grow_eq
      · intro V W K A hW hd hA hK
        have d2 : V 2 = _ := hd 2 (by kernel_rfl)
        have d3 : V 3 = _ := hd 3 (by kernel_rfl)
        simp only [putAll, List.getElem?_toArray, List.getElem?_cons_succ, List.getElem?_cons_zero, Option.bind_some, Act.put, List.setIfInBounds_toArray, List.set_cons_succ, List.set_cons_zero] at hA
        clear hd
        generalize V 0 = x0 at hA
        generalize V 1 = x1 at hA
        generalize V 2 = x2 at d2 hA
        generalize V 3 = x3 at d3 hA
        generalize V 4 = x4 at hA
        generalize V 5 = x5 at hA
        generalize V 6 = x6 at hA
        generalize V 7 = x7 at hA
        generalize V 8 = x8 at hA
        subst d2
        subst d3
        obtain rfl := hA
        go_wp2
        exact hK.out _ (Below.refl _ _)
      apply grow_eq
      · intro V W K A hW hd hA hK
        have d4 : V 4 = _ := hd 4 (by kernel_rfl)
        simp only [putAll, List.getElem?_toArray, List.getElem?_cons_succ, List.getElem?_cons_zero, Option.bind_some, Act.put, List.setIfInBounds_toArray, List.set_cons_succ, List.set_cons_zero] at hA
        clear hd
        generalize V 0 = x0 at hA
        generalize V 1 = x1 at hA
        generalize V 2 = x2 at hA
        generalize V 3 = x3 at hA
        generalize V 4 = x4 at d4 hA
        generalize V 5 = x5 at hA
        generalize V 6 = x6 at hA
        generalize V 7 = x7 at hA
        generalize V 8 = x8 at hA
        subst d4
        obtain rfl := hA
        have y0 := (hLrow.out.below hW hgL).cell HLK.out
        go_wp2
        exact hK.out _ (Below.refl _ _)
      apply grow_eq
      · intro V W K A hW hd hA hK
        have d1 : V 1 = _ := hd 1 (by kernel_rfl)
        have d5 : V 5 = _ := hd 5 (by kernel_rfl)
        simp only [putAll, List.getElem?_toArray, List.getElem?_cons_succ, List.getElem?_cons_zero, Option.bind_some, Act.put, List.setIfInBounds_toArray, List.set_cons_succ, List.set_cons_zero] at hA
        clear hd
        generalize V 0 = x0 at hA
        generalize V 1 = x1 at d1 hA
        generalize V 2 = x2 at hA
        generalize V 3 = x3 at hA
        generalize V 4 = x4 at hA
        generalize V 5 = x5 at d5 hA
        generalize V 6 = x6 at hA
        generalize V 7 = x7 at hA
        generalize V 8 = x8 at hA
        subst d1
        subst d5
        obtain rfl := hA
        go_wp2
        exact hK.out _ (Below.refl _ _)
      apply grow_eq
      · intro V W K A hW hd hA hK
        have d6 : V 6 = _ := hd 6 (by kernel_rfl)
        simp only [putAll, List.getElem?_toArray, List.getElem?_cons_succ, List.getElem?_cons_zero, Option.bind_some, Act.put, List.setIfInBounds_toArray, List.set_cons_succ, List.set_cons_zero] at hA
        clear hd
        generalize V 0 = x0 at hA
        generalize V 1 = x1 at hA
        generalize V 2 = x2 at hA
        generalize V 3 = x3 at hA
        generalize V 4 = x4 at hA
        generalize V 5 = x5 at hA
        generalize V 6 = x6 at d6 hA
        generalize V 7 = x7 at hA
        generalize V 8 = x8 at hA
        subst d6
        obtain rfl := hA
        have hq := hcx.below (hb.trans (hW.mono hb.size)) hbs
        unfold CpAt at hq
        obtain ⟨q0, q1, q2, q3, q4, q5, q6⟩ := hq
        go_wp2
        exact hK.out _ (Below.refl _ _)
      refine grow_op (fun v W => ∃ p, v = .pointer (some ⟨p, 0, none⟩) ∧ wr.heap.size ≤ p ∧ W.heap[p]? = some (.cells #[.string ⟨#[]⟩, .int .i64 0, .int .i64 0, .int .i64 0, .int .i64 0, .bool false, .string ⟨#[]⟩] 88 (0, 0))) (fun v W W2 ⟨p, h1, h2, h3⟩ hb => ⟨p, h1, h2, below_blk hb h3 (Array.getElem?_eq_some_iff.1 h3).1⟩) ?_ ?_
      · intro V W K A hW hd hA hK
        simp only [putAll, List.getElem?_toArray, List.getElem?_cons_succ, List.getElem?_cons_zero, Option.bind_some, Act.put, List.setIfInBounds_toArray, List.set_cons_succ, List.set_cons_zero] at hA
        clear hd
        generalize V 0 = x0 at hA
        generalize V 1 = x1 at hA
        generalize V 2 = x2 at hA
        generalize V 3 = x3 at hA
        generalize V 4 = x4 at hA
        generalize V 5 = x5 at hA
        generalize V 6 = x6 at hA
        generalize V 7 = x7 at hA
        generalize V 8 = x8 at hA
        obtain rfl := hA
        go_wp2
        exact hK.out _ _ (below_box W _) ⟨_, rfl, hW.size, heap_alloc_new W _⟩
      intro V W A hW hS hA
      have d0 : V 0 = _ := hS 0 (by omega)
      have d1 : V 1 = _ := hS 1 (by omega)
      have d2 : V 2 = _ := hS 2 (by omega)
      have d3 : V 3 = _ := hS 3 (by omega)
      have d4 : V 4 = _ := hS 4 (by omega)
      have d5 : V 5 = _ := hS 5 (by omega)
      have d6 : V 6 = _ := hS 6 (by omega)
      have d7 : V 7 = _ := hS 7 (by omega)
      have d8 : (fun v W => ∃ p, v = .pointer (some ⟨p, 0, none⟩) ∧ wr.heap.size ≤ p ∧ W.heap[p]? = some (.cells #[.string ⟨#[]⟩, .int .i64 0, .int .i64 0, .int .i64 0, .int .i64 0, .bool false, .string ⟨#[]⟩] 88 (0, 0))) (V 8) W := hS 8 (by omega)
      simp only [putAll, List.getElem?_toArray, List.getElem?_cons_succ, List.getElem?_cons_zero, Option.bind_some, Act.put, List.setIfInBounds_toArray, List.set_cons_succ, List.set_cons_zero] at hA
      clear hS
      generalize V 0 = x0 at d0 hA
      generalize V 1 = x1 at d1 hA
      generalize V 2 = x2 at d2 hA
      generalize V 3 = x3 at d3 hA
      generalize V 4 = x4 at d4 hA
      generalize V 5 = x5 at d5 hA
      generalize V 6 = x6 at d6 hA
      generalize V 7 = x7 at d7 hA
      generalize V 8 = x8 at d8 hA
      subst d0
      subst d1
      subst d2
      subst d3
      subst d4
      subst d5
      subst d6
      subst d7
      obtain rfl := hA
      simp only [List.drop_succ_cons, List.drop_zero]
      obtain ⟨p, rfl, hp, hpz⟩ := d8
      refine wpList_store_at rfl 88 (.tmp 10) (.tmp 29) rfl p 0 #[.string s0.service, .int .i64 s0.number, .int .i64 s0.version, .int .i64 s0.image, .int .i64 s0.state, .bool s0.ending, .string s0.berth] rfl rfl 88 #[.string ⟨#[]⟩, .int .i64 0, .int .i64 0, .int .i64 0, .int .i64 0, .bool false, .string ⟨#[]⟩] hpz Tryz.infosCopy (Nat.le_refl 7) (one_Cp s0) ?_
      intro w2 hrow2 hsz2 hb2
      have hzW := hW.size
      have hzW2 : w2.heap.size = W.heap.size := hsz2.out
      have HZ2 : Hid _ := hzW2
      have hxs : Hid (w2.heap[p]? = some (.cells #[.string s0.service, .int .i64 s0.number, .int .i64 s0.version, .int .i64 s0.image, .int .i64 s0.state, .bool s0.ending, .string s0.berth] 88 (0, 0))) := hrow2
      have hbWr : Below wr.heap.size wr w2 := hW.trans (hb2.mono hp)
      have hbw2 := hb.trans (hbWr.mono hb.size)
      have hbox2 : Hid _ := below_blk hbWr hbox.out hbl
      have hsv2 : Hid _ := below_blk hbWr hsv.out hsl
      have hrow3 : Hid (RowIs w2 3 1 g n cap (intsV ((L.take k).filter P))) := hrow.out.below hbWr hgl
      have hLr3 : Hid (RowIs w2 3 1 gL L.length capL (intsV L)) := hLrow.out.below hbWr hgL
      have hz2 := hbWr.size
      clear hW hb2 hsz2 hrow2 hpz hrow hbox hsv hLrow hzW2 HZ2 hzW
      have HC : Hid (∀ W : World, BkAt W a1 (some ⟨b, off, none⟩) a3 B → Calls Tryz.prog 92 #[.agg #[.int .i64 B.now, .slice a1 B.svcs.length c1, .slice (some ⟨b, off, none⟩) B.cps.length c2, .slice a3 B.bts.length c3], .agg #[.string s0.service, .int .i64 s0.number, .int .i64 s0.version, .int .i64 s0.image, .int .i64 s0.state, .bool s0.ending, .string s0.berth]] W fun e w' => e = .returned (.bool m) ∧ Below W.heap.size W w') := fun W h => by
        rw [← HM.out]; exact l5Drains_any B s0 a1 _ a3 c1 c2 c3 W hS h
      have e0 := blk_cell hbox2.out 0 rfl
      have e1 := blk_cell hbox2.out 1 rfl
      have e2 := blk_cell hbox2.out 2 rfl
      have e3 := blk_cell hbox2.out 3 rfl
      have z0 := blk_cell hxs.out 0 rfl
      have z1 := blk_cell hxs.out 1 rfl
      have z2 := blk_cell hxs.out 2 rfl
      have z3 := blk_cell hxs.out 3 rfl
      have z4 := blk_cell hxs.out 4 rfl
      have z5 := blk_cell hxs.out 5 rfl
      have z6 := blk_cell hxs.out 6 rfl
      go_wp2_with fail
      refine (HC.out _ (hB0.below hbw2)).mono ?_
      rintro e w3 ⟨rfl, hb3⟩
      clear e0 e1 e2 e3 z0 z1 z2 z3 z4 z5 z6 HC
      have hx0 : Hid _ := below_blk hb3 hbox2.out (by omega)
      have hx1 : Hid _ := below_blk hb3 hsv2.out (by omega)
      have hx2 : Hid (RowIs w3 3 1 g n cap (intsV ((L.take k).filter P))) := hrow3.out.below hb3 (by omega)
      have hx3 : Hid (RowIs w3 3 1 gL L.length capL (intsV L)) := hLr3.out.below hb3 (by omega)
      have hx4 := hbw2.trans (hb3.mono hbw2.size)
      have hx5 := hb3.size
      clear hbox2 hsv2 hrow3 hLr3 hbw2 hb3 hxs hbWr
      cases m
      · go_wp2
        go_roundw
        case rel => exact ⟨k + 1, n, g, cap, by omega, by go_num, rfl, by rw [HF.out]; simpa using HNN, hg, hgne, hx4, hx0, hx1, hx3, by rw [HF.out]; simpa using hx2⟩
        case measure => simp [intOf]; omega
      · have y0 := hx3.out.cell HLK.out
        have hgl3 : g < w3.heap.size := by omega
        have hgL3 : gL < w3.heap.size := by omega
        go_wp2_with (at_builtin; refine wpList_append_row rfl (.tmp 57) (.tmp 62) 91 rfl 3 _ 1 8 Tryz.underlying91 Tryz.infoInt rfl g n cap _ rfl (hx2.out.below (below_box w3 _) hgl3) ⟨w3.heap.size, 0, none⟩ 1 1 [.int .i64 (i : Int)] rfl rfl (news_row (heap_alloc_new w3 _)) (by simp [Value.oneCell']) (by unfold maxLen; omega) (by omega) ?_; intro g' cap' w4 hg' hrow' hgr)
        have hsz : (w3.alloc (.cells #[.int .i64 (i : Int)] 3)).heap.size = w3.heap.size + 1 := by show (w3.heap.push _).size = _; simp
        have hb4 : Below w.heap.size w w4 := (hx4.alloc hx4.size _).trans (below_of_grown hgr (by omega) (by rw [hsz]; omega))
        have hal := below_box w3 (.cells #[.int .i64 (i : Int)] 3)
        have hbox4 : Hid _ := (hgr.block w.heap.size (by rw [hsz]; omega) (fun e => by have := Option.some.inj e; omega)).trans (below_blk hal hx0.out (by omega))
        have hsv4 : Hid _ := (hgr.block (w.heap.size + 1) (by rw [hsz]; omega) (fun e => by have := Option.some.inj e; omega)).trans (below_blk hal hx1.out (by omega))
        have hLr4 : Hid (RowIs w4 3 1 gL L.length capL (intsV L)) := (hx3.out.below hal hgL3).grown hgr (fun e => hgne (Option.some.inj e).symm)
        rw [hsz] at hg'
        go_roundw
        case rel => exact ⟨k + 1, n + 1, g', cap', by omega, by go_num, rfl, by unfold Hid; rw [HF.out, List.length_append, ← HNN.out]; rfl, by omega, by omega, hb4, hbox4, hsv4, hLr4, by rw [HF.out]; simp only [if_true]; rw [intsV_add]; exact hrow'⟩
        case measure => simp [intOf]; omega
    · go_wp2
      go_ret
      have hkl : k = L.length := by omega
      subst hkl
      have hn := HNN.out
      rw [List.take_length] at hrow hn
      subst hn
      exact ⟨g, cap, rfl, by omega, hrow.out, hb⟩

end Go.Proofs.YtbceafpodamnfabGreat
