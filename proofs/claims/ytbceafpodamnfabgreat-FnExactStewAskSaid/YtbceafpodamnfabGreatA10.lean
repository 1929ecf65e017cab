/-
  My own: Pe.
-/
import Derived.Test.YtbceafpodamnfabGreatA09
import Derived.Test.YtbceafpodamnfabGreatA07
set_option linter.unusedVariables false
set_option linter.unusedSimpArgs false
/-
  My own. Those of some copies that may end, by the specification.
-/
namespace Go.Proofs.YtbceafpodamnfabGreat
open Go.RowKit Go.Sort

theorem filter_take {α : Type} (p : α → Bool) (L : List α) {k : Nat} {x : α} (h : L[k]? = some x) : (L.take (k + 1)).filter p = (L.take k).filter p ++ (if p x then [x] else []) := by
  rw [List.take_add_one, h, List.filter_append]
  by_cases hp : p x <;> simp [hp]
theorem filter_take_len {α : Type} (p : α → Bool) (L : List α) (k : Nat) : ((L.take k).filter p).length ≤ k := Nat.le_trans (List.length_filter_le _ _) (by simp; omega)

def mayP (B : Bk) (i : Nat) : Bool := mayOf B (cpD B i).service (cpD B i).number

theorem l3May_any (B : Bk) (sv : ByteArray) (num : Int) (a1 a2 a3 : Option Addr) (c1 c2 c3 : Nat) (w : World) (hS : B.small) (hB : BkAt w a1 a2 a3 B) (hV : Valid B) :
    Calls Tryz.prog 94 #[.agg #[.int .i64 B.now, .slice a1 B.svcs.length c1, .slice a2 B.cps.length c2, .slice a3 B.bts.length c3], .string sv, .int .i64 num] w fun e w' => e = .returned (.bool (mayOf B sv num)) ∧ Below w.heap.size w w' := by
  cases hf : B.cps.find? (isC sv num) with
  | none =>
    have e : mayOf B sv num = false := by unfold mayOf; rw [hf, Bool.and_false]
    rw [e]
    exact l3MayEnd_none B sv num a1 a2 a3 c1 c2 c3 w hS hB hf
  | some c =>
    have hcm := List.mem_of_find?_eq_some hf
    obtain ⟨s, hs, _⟩ := hV.svc hcm
    obtain ⟨hcs, _⟩ := isC_iff.1 (List.find?_some hf)
    rw [hcs] at hs
    have hi := hV.svcIn (svcOf_mem hs)
    have e : mayOf B sv num = mayL B s sv c := by unfold mayOf; rw [validB_iff.2 hV, hf, hs]; rfl
    rw [e]
    exact l3MayEnd_some B sv num c s a1 a2 a3 c1 c2 c3 w hS hB hf hs hi.want0 hi.want1 hi.down0 hi.down1

set_option maxRecDepth 100000 in
set_option maxHeartbeats 8000000 in
theorem l5May_any (B : Bk) (L : List Nat) (gL capL : Nat) (a1 a2 a3 : Option Addr) (c1 c2 c3 : Nat) (w : World) (hS : B.small) (hV : Valid B) (hB : BkAt w a1 a2 a3 B) (hL : ∀ i ∈ L, i < B.cps.length) (hLn : L.length ≤ 1048576) (hLr : RowIs w 3 1 gL L.length capL (intsV L)) :
    Calls Tryz.prog 95 #[.agg #[.int .i64 B.now, .slice a1 B.svcs.length c1, .slice a2 B.cps.length c2, .slice a3 B.bts.length c3], .slice (some ⟨gL, 0, none⟩) L.length capL] w fun e w' => ∃ g cap, e = .returned (.slice (some ⟨g, 0, none⟩) (L.filter (mayP B)).length cap) ∧ w.heap.size ≤ g ∧ RowIs w' 3 1 g (L.filter (mayP B)).length cap (intsV (L.filter (mayP B))) ∧ Below w.heap.size w w' := by
  obtain ⟨t0, t1, t2⟩ := two_new w (.cells #[.int .i64 B.now, .slice a1 B.svcs.length c1, .slice a2 B.cps.length c2, .slice a3 B.bts.length c3] 34) (.cells #[] 3)
  have T0 : Hid _ := t0
  have T1 : Hid _ := t1
  have hLrow : Hid (RowIs w 3 1 gL L.length capL (intsV L)) := hLr
  have hgL : gL < w.heap.size := hLr.lt
  clear t0 t1 t2 hLr
  have hl := hS
  obtain ⟨hl1, hl2, hl3⟩ := hl
  go_enter Tryz.func95, Tryz.ntmps95
  go_wp2
  go_loopw [5, 6] (fun ov iv wr => ∃ k n g cap : Nat, k ≤ L.length ∧ iv = .int .i64 k ∧ ov = .slice (some ⟨g, 0, none⟩) n cap ∧ Hid (n = ((L.take k).filter (mayP B)).length) ∧ w.heap.size < g ∧ Below w.heap.size w wr ∧ Hid (wr.heap[w.heap.size]? = some (.cells #[.int .i64 B.now, .slice a1 B.svcs.length c1, .slice a2 B.cps.length c2, .slice a3 B.bts.length c3] 34 (0, 0))) ∧ Hid (RowIs wr 3 1 g n cap (intsV ((L.take k).filter (mayP B))))) (fun _ i _ => L.length - (intOf i).toNat)
  case atStart => exact ⟨0, 0, w.heap.size + 1, 0, by omega, rfl, rfl, rfl, by omega, ((Below.refl _ _).alloc (Nat.le_refl _) _).alloc (by simp) _, T0, ⟨rfl, Nat.le_refl _, #[], T1.out, rfl, rfl⟩⟩
  case round =>
    obtain ⟨k, n, g, cap, hk, rfl, rfl, HNN, hg, hb, hbox, hrow⟩ := hrel
    by_cases hlt : k < L.length
    · obtain ⟨i, hik⟩ : ∃ i, L[k]? = some i := ⟨L[k], by simp [hlt]⟩
      have hilt := hL i (List.mem_of_getElem? hik)
      have HLK : Hid _ := intsV_at hik
      have hne : B.cps ≠ [] := by intro h; rw [h] at hilt; simp at hilt
      have hB0 := hB
      obtain ⟨b, off, ea, hbs, hat⟩ := hB.2.1 hne
      subst ea
      obtain ⟨s, hs⟩ : ∃ s, cpD B i = s := ⟨_, rfl⟩
      have hcx := hat i s (by rw [cpD_some hilt, hs])
      have hnk : n ≤ k := by rw [HNN.out]; exact filter_take_len _ _ _
      obtain ⟨m, HM⟩ : ∃ m, Hid (mayOf B s.service s.number = m) := ⟨_, rfl⟩
      have HF : Hid ((L.take (k + 1)).filter (mayP B) = (L.take k).filter (mayP B) ++ (if m then [i] else [])) := by
        unfold Hid
        rw [filter_take _ L hik]
        unfold mayP
        rw [hs, HM.out]
      have HC : Hid (∀ W : World, BkAt W a1 (some ⟨b, off, none⟩) a3 B → Calls Tryz.prog 94 #[.agg #[.int .i64 B.now, .slice a1 B.svcs.length c1, .slice (some ⟨b, off, none⟩) B.cps.length c2, .slice a3 B.bts.length c3], .string s.service, .int .i64 s.number] W fun e w' => e = .returned (.bool m) ∧ Below W.heap.size W w') := fun W h => by
        rw [← HM.out]; exact l3May_any B s.service s.number a1 _ a3 c1 c2 c3 W hS h hV
      have hbl : w.heap.size < wr.heap.size := (Array.getElem?_eq_some_iff.1 hbox.out).1
      have hgl : g < wr.heap.size := hrow.out.lt
      have hz := hb.size
      clear hik hne hat hs HM
      go_wp2
      refine wp_region_grows 19 (by kernel_rfl) (by kernel_rfl) ?_
      apply grow_eq
      · intro V W K A hW hd hA hK
        simp only [putAll, List.getElem?_toArray, List.getElem?_cons_succ, List.getElem?_cons_zero, Option.bind_some, Act.put, List.setIfInBounds_toArray, List.set_cons_succ, List.set_cons_zero] at hA
        clear hd
        generalize V 0 = x0 at hA
        generalize V 1 = x1 at hA
        generalize V 2 = x2 at hA
        generalize V 3 = x3 at hA
        generalize V 4 = x4 at hA
        generalize V 5 = x5 at hA
        generalize V 6 = x6 at hA
        generalize V 7 = x7 at hA
        generalize V 8 = x8 at hA
        generalize V 9 = x9 at hA
        generalize V 10 = x10 at hA
        generalize V 11 = x11 at hA
        generalize V 12 = x12 at hA
        generalize V 13 = x13 at hA
        generalize V 14 = x14 at hA
        generalize V 15 = x15 at hA
        generalize V 16 = x16 at hA
        generalize V 17 = x17 at hA
        generalize V 18 = x18 at hA
        obtain rfl := hA
        have e0 := blk_cell (below_blk hW hbox.out hbl) 0 rfl
        have e1 := blk_cell (below_blk hW hbox.out hbl) 1 rfl
        have e2 := blk_cell (below_blk hW hbox.out hbl) 2 rfl
        have e3 := blk_cell (below_blk hW hbox.out hbl) 3 rfl
        go_wp2
        exact hK.out _ (Below.refl _ _)
      apply grow_eq
      · intro V W K A hW hd hA hK
        simp only [putAll, List.getElem?_toArray, List.getElem?_cons_succ, List.getElem?_cons_zero, Option.bind_some, Act.put, List.setIfInBounds_toArray, List.set_cons_succ, List.set_cons_zero] at hA
        clear hd
        generalize V 0 = x0 at hA
        generalize V 1 = x1 at hA
        generalize V 2 = x2 at hA
        generalize V 3 = x3 at hA
        generalize V 4 = x4 at hA
        generalize V 5 = x5 at hA
        generalize V 6 = x6 at hA
        generalize V 7 = x7 at hA
        generalize V 8 = x8 at hA
        generalize V 9 = x9 at hA
        generalize V 10 = x10 at hA
        generalize V 11 = x11 at hA
        generalize V 12 = x12 at hA
        generalize V 13 = x13 at hA
        generalize V 14 = x14 at hA
        generalize V 15 = x15 at hA
        generalize V 16 = x16 at hA
        generalize V 17 = x17 at hA
        generalize V 18 = x18 at hA
        obtain rfl := hA
        go_wp2
        exact hK.out _ (Below.refl _ _)
      apply grow_eq
      · intro V W K A hW hd hA hK
        have d1 : V 1 = _ := hd 1 (by kernel_rfl)
        simp only [putAll, List.getElem?_toArray, List.getElem?_cons_succ, List.getElem?_cons_zero, Option.bind_some, Act.put, List.setIfInBounds_toArray, List.set_cons_succ, List.set_cons_zero] at hA
        clear hd
        generalize V 0 = x0 at hA
        generalize V 1 = x1 at d1 hA
        generalize V 2 = x2 at hA
        generalize V 3 = x3 at hA
        generalize V 4 = x4 at hA
        generalize V 5 = x5 at hA
        generalize V 6 = x6 at hA
        generalize V 7 = x7 at hA
        generalize V 8 = x8 at hA
        generalize V 9 = x9 at hA
        generalize V 10 = x10 at hA
        generalize V 11 = x11 at hA
        generalize V 12 = x12 at hA
        generalize V 13 = x13 at hA
        generalize V 14 = x14 at hA
        generalize V 15 = x15 at hA
        generalize V 16 = x16 at hA
        generalize V 17 = x17 at hA
        generalize V 18 = x18 at hA
        subst d1
        obtain rfl := hA
        have e2 := blk_cell (below_blk hW hbox.out hbl) 2 rfl
        go_wp2
        exact hK.out _ (Below.refl _ _)
      apply grow_eq
      · intro V W K A hW hd hA hK
        simp only [putAll, List.getElem?_toArray, List.getElem?_cons_succ, List.getElem?_cons_zero, Option.bind_some, Act.put, List.setIfInBounds_toArray, List.set_cons_succ, List.set_cons_zero] at hA
        clear hd
        generalize V 0 = x0 at hA
        generalize V 1 = x1 at hA
        generalize V 2 = x2 at hA
        generalize V 3 = x3 at hA
        generalize V 4 = x4 at hA
        generalize V 5 = x5 at hA
        generalize V 6 = x6 at hA
        generalize V 7 = x7 at hA
        generalize V 8 = x8 at hA
        generalize V 9 = x9 at hA
        generalize V 10 = x10 at hA
        generalize V 11 = x11 at hA
        generalize V 12 = x12 at hA
        generalize V 13 = x13 at hA
        generalize V 14 = x14 at hA
        generalize V 15 = x15 at hA
        generalize V 16 = x16 at hA
        generalize V 17 = x17 at hA
        generalize V 18 = x18 at hA
        obtain rfl := hA
        go_wp2
        exact hK.out _ (Below.refl _ _)
      apply grow_eq
      · intro V W K A hW hd hA hK
        simp only [putAll, List.getElem?_toArray, List.getElem?_cons_succ, List.getElem?_cons_zero, Option.bind_some, Act.put, List.setIfInBounds_toArray, List.set_cons_succ, List.set_cons_zero] at hA
        clear hd
        generalize V 0 = x0 at hA
        generalize V 1 = x1 at hA
        generalize V 2 = x2 at hA
        generalize V 3 = x3 at hA
        generalize V 4 = x4 at hA
        generalize V 5 = x5 at hA
        generalize V 6 = x6 at hA
        generalize V 7 = x7 at hA
        generalize V 8 = x8 at hA
        generalize V 9 = x9 at hA
        generalize V 10 = x10 at hA
        generalize V 11 = x11 at hA
        generalize V 12 = x12 at hA
        generalize V 13 = x13 at hA
        generalize V 14 = x14 at hA
        generalize V 15 = x15 at hA
        generalize V 16 = x16 at hA
        generalize V 17 = x17 at hA
        generalize V 18 = x18 at hA
        obtain rfl := hA
        go_wp2
        exact hK.out _ (Below.refl _ _)
      apply grow_eq
      · intro V W K A hW hd hA hK
        have d3 : V 3 = _ := hd 3 (by kernel_rfl)
        have d4 : V 4 = _ := hd 4 (by kernel_rfl)
        simp only [putAll, List.getElem?_toArray, List.getElem?_cons_succ, List.getElem?_cons_zero, Option.bind_some, Act.put, List.setIfInBounds_toArray, List.set_cons_succ, List.set_cons_zero] at hA
        clear hd
        generalize V 0 = x0 at hA
        generalize V 1 = x1 at hA
        generalize V 2 = x2 at hA
        generalize V 3 = x3 at d3 hA
        generalize V 4 = x4 at d4 hA
        generalize V 5 = x5 at hA
        generalize V 6 = x6 at hA
        generalize V 7 = x7 at hA
        generalize V 8 = x8 at hA
        generalize V 9 = x9 at hA
        generalize V 10 = x10 at hA
        generalize V 11 = x11 at hA
        generalize V 12 = x12 at hA
        generalize V 13 = x13 at hA
        generalize V 14 = x14 at hA
        generalize V 15 = x15 at hA
        generalize V 16 = x16 at hA
        generalize V 17 = x17 at hA
        generalize V 18 = x18 at hA
        subst d3
        subst d4
        obtain rfl := hA
        go_wp2
        exact hK.out _ (Below.refl _ _)
      apply grow_eq
      · intro V W K A hW hd hA hK
        have d5 : V 5 = _ := hd 5 (by kernel_rfl)
        simp only [putAll, List.getElem?_toArray, List.getElem?_cons_succ, List.getElem?_cons_zero, Option.bind_some, Act.put, List.setIfInBounds_toArray, List.set_cons_succ, List.set_cons_zero] at hA
        clear hd
        generalize V 0 = x0 at hA
        generalize V 1 = x1 at hA
        generalize V 2 = x2 at hA
        generalize V 3 = x3 at hA
        generalize V 4 = x4 at hA
        generalize V 5 = x5 at d5 hA
        generalize V 6 = x6 at hA
        generalize V 7 = x7 at hA
        generalize V 8 = x8 at hA
        generalize V 9 = x9 at hA
        generalize V 10 = x10 at hA
        generalize V 11 = x11 at hA
        generalize V 12 = x12 at hA
        generalize V 13 = x13 at hA
        generalize V 14 = x14 at hA
        generalize V 15 = x15 at hA
        generalize V 16 = x16 at hA
        generalize V 17 = x17 at hA
        generalize V 18 = x18 at hA
        subst d5
        obtain rfl := hA
        have y0 := (hLrow.out.below (hb.trans (hW.mono hb.size)) hgL).cell HLK.out
        go_wp2
        exact hK.out _ (Below.refl _ _)
      apply grow_eq
      · intro V W K A hW hd hA hK
        have d2 : V 2 = _ := hd 2 (by kernel_rfl)
        have d6 : V 6 = _ := hd 6 (by kernel_rfl)
        simp only [putAll, List.getElem?_toArray, List.getElem?_cons_succ, List.getElem?_cons_zero, Option.bind_some, Act.put, List.setIfInBounds_toArray, List.set_cons_succ, List.set_cons_zero] at hA
        clear hd
        generalize V 0 = x0 at hA
        generalize V 1 = x1 at hA
        generalize V 2 = x2 at d2 hA
        generalize V 3 = x3 at hA
        generalize V 4 = x4 at hA
        generalize V 5 = x5 at hA
        generalize V 6 = x6 at d6 hA
        generalize V 7 = x7 at hA
        generalize V 8 = x8 at hA
        generalize V 9 = x9 at hA
        generalize V 10 = x10 at hA
        generalize V 11 = x11 at hA
        generalize V 12 = x12 at hA
        generalize V 13 = x13 at hA
        generalize V 14 = x14 at hA
        generalize V 15 = x15 at hA
        generalize V 16 = x16 at hA
        generalize V 17 = x17 at hA
        generalize V 18 = x18 at hA
        subst d2
        subst d6
        obtain rfl := hA
        go_wp2
        exact hK.out _ (Below.refl _ _)
      apply grow_eq
      · intro V W K A hW hd hA hK
        have d7 : V 7 = _ := hd 7 (by kernel_rfl)
        simp only [putAll, List.getElem?_toArray, List.getElem?_cons_succ, List.getElem?_cons_zero, Option.bind_some, Act.put, List.setIfInBounds_toArray, List.set_cons_succ, List.set_cons_zero] at hA
        clear hd
        generalize V 0 = x0 at hA
        generalize V 1 = x1 at hA
        generalize V 2 = x2 at hA
        generalize V 3 = x3 at hA
        generalize V 4 = x4 at hA
        generalize V 5 = x5 at hA
        generalize V 6 = x6 at hA
        generalize V 7 = x7 at d7 hA
        generalize V 8 = x8 at hA
        generalize V 9 = x9 at hA
        generalize V 10 = x10 at hA
        generalize V 11 = x11 at hA
        generalize V 12 = x12 at hA
        generalize V 13 = x13 at hA
        generalize V 14 = x14 at hA
        generalize V 15 = x15 at hA
        generalize V 16 = x16 at hA
        generalize V 17 = x17 at hA
        generalize V 18 = x18 at hA
        subst d7
        obtain rfl := hA
        go_wp2
        exact hK.out _ (Below.refl _ _)
      apply grow_eq
      · intro V W K A hW hd hA hK
        have d8 : V 8 = _ := hd 8 (by kernel_rfl)
        simp only [putAll, List.getElem?_toArray, List.getElem?_cons_succ, List.getElem?_cons_zero, Option.bind_some, Act.put, List.setIfInBounds_toArray, List.set_cons_succ, List.set_cons_zero] at hA
        clear hd
        generalize V 0 = x0 at hA
        generalize V 1 = x1 at hA
        generalize V 2 = x2 at hA
        generalize V 3 = x3 at hA
        generalize V 4 = x4 at hA
        generalize V 5 = x5 at hA
        generalize V 6 = x6 at hA
        generalize V 7 = x7 at hA
        generalize V 8 = x8 at d8 hA
        generalize V 9 = x9 at hA
        generalize V 10 = x10 at hA
        generalize V 11 = x11 at hA
        generalize V 12 = x12 at hA
        generalize V 13 = x13 at hA
        generalize V 14 = x14 at hA
        generalize V 15 = x15 at hA
        generalize V 16 = x16 at hA
        generalize V 17 = x17 at hA
        generalize V 18 = x18 at hA
        subst d8
        obtain rfl := hA
        have hq := hcx.below (hb.trans (hW.mono hb.size)) hbs
        unfold CpAt at hq
        obtain ⟨q0, q1, q2, q3, q4, q5, q6⟩ := hq
        go_wp2
        exact hK.out _ (Below.refl _ _)
      apply grow_eq
      · intro V W K A hW hd hA hK
        simp only [putAll, List.getElem?_toArray, List.getElem?_cons_succ, List.getElem?_cons_zero, Option.bind_some, Act.put, List.setIfInBounds_toArray, List.set_cons_succ, List.set_cons_zero] at hA
        clear hd
        generalize V 0 = x0 at hA
        generalize V 1 = x1 at hA
        generalize V 2 = x2 at hA
        generalize V 3 = x3 at hA
        generalize V 4 = x4 at hA
        generalize V 5 = x5 at hA
        generalize V 6 = x6 at hA
        generalize V 7 = x7 at hA
        generalize V 8 = x8 at hA
        generalize V 9 = x9 at hA
        generalize V 10 = x10 at hA
        generalize V 11 = x11 at hA
        generalize V 12 = x12 at hA
        generalize V 13 = x13 at hA
        generalize V 14 = x14 at hA
        generalize V 15 = x15 at hA
        generalize V 16 = x16 at hA
        generalize V 17 = x17 at hA
        generalize V 18 = x18 at hA
        obtain rfl := hA
        go_wp2
        exact hK.out _ (Below.refl _ _)
      apply grow_eq
      · intro V W K A hW hd hA hK
        have d10 : V 10 = _ := hd 10 (by kernel_rfl)
        simp only [putAll, List.getElem?_toArray, List.getElem?_cons_succ, List.getElem?_cons_zero, Option.bind_some, Act.put, List.setIfInBounds_toArray, List.set_cons_succ, List.set_cons_zero] at hA
        clear hd
        generalize V 0 = x0 at hA
        generalize V 1 = x1 at hA
        generalize V 2 = x2 at hA
        generalize V 3 = x3 at hA
        generalize V 4 = x4 at hA
        generalize V 5 = x5 at hA
        generalize V 6 = x6 at hA
        generalize V 7 = x7 at hA
        generalize V 8 = x8 at hA
        generalize V 9 = x9 at hA
        generalize V 10 = x10 at d10 hA
        generalize V 11 = x11 at hA
        generalize V 12 = x12 at hA
        generalize V 13 = x13 at hA
        generalize V 14 = x14 at hA
        generalize V 15 = x15 at hA
        generalize V 16 = x16 at hA
        generalize V 17 = x17 at hA
        generalize V 18 = x18 at hA
        subst d10
        obtain rfl := hA
        have e2 := blk_cell (below_blk hW hbox.out hbl) 2 rfl
        go_wp2
        exact hK.out _ (Below.refl _ _)
      apply grow_eq
      · intro V W K A hW hd hA hK
        simp only [putAll, List.getElem?_toArray, List.getElem?_cons_succ, List.getElem?_cons_zero, Option.bind_some, Act.put, List.setIfInBounds_toArray, List.set_cons_succ, List.set_cons_zero] at hA
        clear hd
        generalize V 0 = x0 at hA
        generalize V 1 = x1 at hA
        generalize V 2 = x2 at hA
        generalize V 3 = x3 at hA
        generalize V 4 = x4 at hA
        generalize V 5 = x5 at hA
        generalize V 6 = x6 at hA
        generalize V 7 = x7 at hA
        generalize V 8 = x8 at hA
        generalize V 9 = x9 at hA
        generalize V 10 = x10 at hA
        generalize V 11 = x11 at hA
        generalize V 12 = x12 at hA
        generalize V 13 = x13 at hA
        generalize V 14 = x14 at hA
        generalize V 15 = x15 at hA
        generalize V 16 = x16 at hA
        generalize V 17 = x17 at hA
        generalize V 18 = x18 at hA
        obtain rfl := hA
        go_wp2
        exact hK.out _ (Below.refl _ _)
      apply grow_eq
      · intro V W K A hW hd hA hK
        simp only [putAll, List.getElem?_toArray, List.getElem?_cons_succ, List.getElem?_cons_zero, Option.bind_some, Act.put, List.setIfInBounds_toArray, List.set_cons_succ, List.set_cons_zero] at hA
        clear hd
        generalize V 0 = x0 at hA
        generalize V 1 = x1 at hA
        generalize V 2 = x2 at hA
        generalize V 3 = x3 at hA
        generalize V 4 = x4 at hA
        generalize V 5 = x5 at hA
        generalize V 6 = x6 at hA
        generalize V 7 = x7 at hA
        generalize V 8 = x8 at hA
        generalize V 9 = x9 at hA
        generalize V 10 = x10 at hA
        generalize V 11 = x11 at hA
        generalize V 12 = x12 at hA
        generalize V 13 = x13 at hA
        generalize V 14 = x14 at hA
        generalize V 15 = x15 at hA
        generalize V 16 = x16 at hA
        generalize V 17 = x17 at hA
        generalize V 18 = x18 at hA
        obtain rfl := hA
        go_wp2
        exact hK.out _ (Below.refl _ _)
      apply grow_eq
      · intro V W K A hW hd hA hK
        have d12 : V 12 = _ := hd 12 (by kernel_rfl)
        have d13 : V 13 = _ := hd 13 (by kernel_rfl)
        simp only [putAll, List.getElem?_toArray, List.getElem?_cons_succ, List.getElem?_cons_zero, Option.bind_some, Act.put, List.setIfInBounds_toArray, List.set_cons_succ, List.set_cons_zero] at hA
        clear hd
        generalize V 0 = x0 at hA
        generalize V 1 = x1 at hA
        generalize V 2 = x2 at hA
        generalize V 3 = x3 at hA
        generalize V 4 = x4 at hA
        generalize V 5 = x5 at hA
        generalize V 6 = x6 at hA
        generalize V 7 = x7 at hA
        generalize V 8 = x8 at hA
        generalize V 9 = x9 at hA
        generalize V 10 = x10 at hA
        generalize V 11 = x11 at hA
        generalize V 12 = x12 at d12 hA
        generalize V 13 = x13 at d13 hA
        generalize V 14 = x14 at hA
        generalize V 15 = x15 at hA
        generalize V 16 = x16 at hA
        generalize V 17 = x17 at hA
        generalize V 18 = x18 at hA
        subst d12
        subst d13
        obtain rfl := hA
        go_wp2
        exact hK.out _ (Below.refl _ _)
      apply grow_eq
      · intro V W K A hW hd hA hK
        have d14 : V 14 = _ := hd 14 (by kernel_rfl)
        simp only [putAll, List.getElem?_toArray, List.getElem?_cons_succ, List.getElem?_cons_zero, Option.bind_some, Act.put, List.setIfInBounds_toArray, List.set_cons_succ, List.set_cons_zero] at hA
        clear hd
        generalize V 0 = x0 at hA
        generalize V 1 = x1 at hA
        generalize V 2 = x2 at hA
        generalize V 3 = x3 at hA
        generalize V 4 = x4 at hA
        generalize V 5 = x5 at hA
        generalize V 6 = x6 at hA
        generalize V 7 = x7 at hA
        generalize V 8 = x8 at hA
        generalize V 9 = x9 at hA
        generalize V 10 = x10 at hA
        generalize V 11 = x11 at hA
        generalize V 12 = x12 at hA
        generalize V 13 = x13 at hA
        generalize V 14 = x14 at d14 hA
        generalize V 15 = x15 at hA
        generalize V 16 = x16 at hA
        generalize V 17 = x17 at hA
        generalize V 18 = x18 at hA
        subst d14
        obtain rfl := hA
        have y0 := (hLrow.out.below (hb.trans (hW.mono hb.size)) hgL).cell HLK.out
        go_wp2
        exact hK.out _ (Below.refl _ _)
      apply grow_eq
      · intro V W K A hW hd hA hK
        have d11 : V 11 = _ := hd 11 (by kernel_rfl)
        have d15 : V 15 = _ := hd 15 (by kernel_rfl)
        simp only [putAll, List.getElem?_toArray, List.getElem?_cons_succ, List.getElem?_cons_zero, Option.bind_some, Act.put, List.setIfInBounds_toArray, List.set_cons_succ, List.set_cons_zero] at hA
        clear hd
        generalize V 0 = x0 at hA
        generalize V 1 = x1 at hA
        generalize V 2 = x2 at hA
        generalize V 3 = x3 at hA
        generalize V 4 = x4 at hA
        generalize V 5 = x5 at hA
        generalize V 6 = x6 at hA
        generalize V 7 = x7 at hA
        generalize V 8 = x8 at hA
        generalize V 9 = x9 at hA
        generalize V 10 = x10 at hA
        generalize V 11 = x11 at d11 hA
        generalize V 12 = x12 at hA
        generalize V 13 = x13 at hA
        generalize V 14 = x14 at hA
        generalize V 15 = x15 at d15 hA
        generalize V 16 = x16 at hA
        generalize V 17 = x17 at hA
        generalize V 18 = x18 at hA
        subst d11
        subst d15
        obtain rfl := hA
        go_wp2
        exact hK.out _ (Below.refl _ _)
      apply grow_eq
      · intro V W K A hW hd hA hK
        have d16 : V 16 = _ := hd 16 (by kernel_rfl)
        simp only [putAll, List.getElem?_toArray, List.getElem?_cons_succ, List.getElem?_cons_zero, Option.bind_some, Act.put, List.setIfInBounds_toArray, List.set_cons_succ, List.set_cons_zero] at hA
        clear hd
        generalize V 0 = x0 at hA
        generalize V 1 = x1 at hA
        generalize V 2 = x2 at hA
        generalize V 3 = x3 at hA
        generalize V 4 = x4 at hA
        generalize V 5 = x5 at hA
        generalize V 6 = x6 at hA
        generalize V 7 = x7 at hA
        generalize V 8 = x8 at hA
        generalize V 9 = x9 at hA
        generalize V 10 = x10 at hA
        generalize V 11 = x11 at hA
        generalize V 12 = x12 at hA
        generalize V 13 = x13 at hA
        generalize V 14 = x14 at hA
        generalize V 15 = x15 at hA
        generalize V 16 = x16 at d16 hA
        generalize V 17 = x17 at hA
        generalize V 18 = x18 at hA
        subst d16
        obtain rfl := hA
        go_wp2
        exact hK.out _ (Below.refl _ _)
      apply grow_eq
      · intro V W K A hW hd hA hK
        have d17 : V 17 = _ := hd 17 (by kernel_rfl)
        simp only [putAll, List.getElem?_toArray, List.getElem?_cons_succ, List.getElem?_cons_zero, Option.bind_some, Act.put, List.setIfInBounds_toArray, List.set_cons_succ, List.set_cons_zero] at hA
        clear hd
        generalize V 0 = x0 at hA
        generalize V 1 = x1 at hA
        generalize V 2 = x2 at hA
        generalize V 3 = x3 at hA
        generalize V 4 = x4 at hA
        generalize V 5 = x5 at hA
        generalize V 6 = x6 at hA
        generalize V 7 = x7 at hA
        generalize V 8 = x8 at hA
        generalize V 9 = x9 at hA
        generalize V 10 = x10 at hA
        generalize V 11 = x11 at hA
        generalize V 12 = x12 at hA
        generalize V 13 = x13 at hA
        generalize V 14 = x14 at hA
        generalize V 15 = x15 at hA
        generalize V 16 = x16 at hA
        generalize V 17 = x17 at d17 hA
        generalize V 18 = x18 at hA
        subst d17
        obtain rfl := hA
        have hq := hcx.below (hb.trans (hW.mono hb.size)) hbs
        unfold CpAt at hq
        obtain ⟨q0, q1, q2, q3, q4, q5, q6⟩ := hq
        go_wp2
        exact hK.out _ (Below.refl _ _)
      intro V W A hW hS hA
      have d0 : V 0 = _ := hS 0 (by omega)
      have d1 : V 1 = _ := hS 1 (by omega)
      have d2 : V 2 = _ := hS 2 (by omega)
      have d3 : V 3 = _ := hS 3 (by omega)
      have d4 : V 4 = _ := hS 4 (by omega)
      have d5 : V 5 = _ := hS 5 (by omega)
      have d6 : V 6 = _ := hS 6 (by omega)
      have d7 : V 7 = _ := hS 7 (by omega)
      have d8 : V 8 = _ := hS 8 (by omega)
      have d9 : V 9 = _ := hS 9 (by omega)
      have d10 : V 10 = _ := hS 10 (by omega)
      have d11 : V 11 = _ := hS 11 (by omega)
      have d12 : V 12 = _ := hS 12 (by omega)
      have d13 : V 13 = _ := hS 13 (by omega)
      have d14 : V 14 = _ := hS 14 (by omega)
      have d15 : V 15 = _ := hS 15 (by omega)
      have d16 : V 16 = _ := hS 16 (by omega)
      have d17 : V 17 = _ := hS 17 (by omega)
      have d18 : V 18 = _ := hS 18 (by omega)
      simp only [putAll, List.getElem?_toArray, List.getElem?_cons_succ, List.getElem?_cons_zero, Option.bind_some, Act.put, List.setIfInBounds_toArray, List.set_cons_succ, List.set_cons_zero] at hA
      clear hS
      generalize V 0 = x0 at d0 hA
      generalize V 1 = x1 at d1 hA
      generalize V 2 = x2 at d2 hA
      generalize V 3 = x3 at d3 hA
      generalize V 4 = x4 at d4 hA
      generalize V 5 = x5 at d5 hA
      generalize V 6 = x6 at d6 hA
      generalize V 7 = x7 at d7 hA
      generalize V 8 = x8 at d8 hA
      generalize V 9 = x9 at d9 hA
      generalize V 10 = x10 at d10 hA
      generalize V 11 = x11 at d11 hA
      generalize V 12 = x12 at d12 hA
      generalize V 13 = x13 at d13 hA
      generalize V 14 = x14 at d14 hA
      generalize V 15 = x15 at d15 hA
      generalize V 16 = x16 at d16 hA
      generalize V 17 = x17 at d17 hA
      generalize V 18 = x18 at d18 hA
      subst d0
      subst d1
      subst d2
      subst d3
      subst d4
      subst d5
      subst d6
      subst d7
      subst d8
      subst d9
      subst d10
      subst d11
      subst d12
      subst d13
      subst d14
      subst d15
      subst d16
      subst d17
      subst d18
      obtain rfl := hA
      simp only [List.drop_succ_cons, List.drop_zero]
      have hbW := hb.trans (hW.mono hb.size)
      go_wp2_with fail
      refine (HC.out _ (hB0.below hbW)).mono ?_
      rintro e w3 ⟨rfl, hb3⟩
      have hbWr : Below wr.heap.size wr w3 := hW.trans (hb3.mono hW.size)
      have hbw3 := hb.trans (hbWr.mono hb.size)
      have hbox3 : Hid _ := below_blk hbWr hbox.out hbl
      have hrow3 : Hid (RowIs w3 3 1 g n cap (intsV ((L.take k).filter (mayP B)))) := hrow.out.below hbWr hgl
      have hz3 := hbWr.size
      have hLr3 : Hid (RowIs w3 3 1 gL L.length capL (intsV L)) := hLrow.out.below hbw3 hgL
      clear hW hb3 HC hbW hrow hbox
      cases m
      · go_wp2
        go_roundw
        case rel => exact ⟨k + 1, n, g, cap, by omega, by go_num, rfl, by rw [HF.out]; simpa using HNN, hg, hbw3, hbox3, by rw [HF.out]; simpa using hrow3⟩
        case measure => simp [intOf]; omega
      · have y0 := hLr3.out.cell HLK.out
        have hgl3 : g < w3.heap.size := by omega
        go_wp2_with (at_builtin; refine wpList_append_row rfl (.tmp 34) (.tmp 39) 91 rfl 3 _ 1 8 Tryz.underlying91 Tryz.infoInt rfl g n cap _ rfl (hrow3.out.below (below_box w3 _) hgl3) ⟨w3.heap.size, 0, none⟩ 1 1 [.int .i64 (i : Int)] rfl rfl (news_row (heap_alloc_new w3 _)) (by simp [Value.oneCell']) (by unfold maxLen; omega) (by omega) ?_; intro g' cap' w4 hg' hrow' hgr)
        have hsz : (w3.alloc (.cells #[.int .i64 (i : Int)] 3)).heap.size = w3.heap.size + 1 := by show (w3.heap.push _).size = _; simp
        have hb4 : Below w.heap.size w w4 := (hbw3.alloc hbw3.size _).trans (below_of_grown hgr (by omega) (by rw [hsz]; omega))
        have hbox4 : Hid _ := (hgr.block w.heap.size (by rw [hsz]; omega) (fun e => by have := Option.some.inj e; omega)).trans (below_blk (below_box w3 (.cells #[.int .i64 (i : Int)] 3)) hbox3.out (by omega))
        rw [hsz] at hg'
        go_roundw
        case rel => exact ⟨k + 1, n + 1, g', cap', by omega, by go_num, rfl, by unfold Hid; rw [HF.out, List.length_append, ← HNN.out]; rfl, by omega, hb4, hbox4, by rw [HF.out]; simp only [if_true]; rw [intsV_add]; exact hrow'⟩
        case measure => simp [intOf]; omega
    · go_wp2
      go_ret
      have hkl : k = L.length := by omega
      subst hkl
      have hn := HNN.out
      rw [List.take_length] at hrow hn
      subst hn
      exact ⟨g, cap, rfl, by omega, hrow.out, hb⟩

end Go.Proofs.YtbceafpodamnfabGreat
