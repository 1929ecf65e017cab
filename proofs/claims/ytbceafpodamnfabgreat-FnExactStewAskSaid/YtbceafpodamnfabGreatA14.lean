/-
  My own: Pj.
-/
import Derived.Test.YtbceafpodamnfabGreatA13
import Derived.Deep.DeepCutAuto
set_option linter.unusedVariables false
set_option linter.unusedSimpArgs false
/-
  My own. The counter, by the specification.
-/
namespace Go.Proofs.YtbceafpodamnfabGreat
open Go.RowKit Go.Sort

theorem hid_of {p : Prop} (h : p) : Hid p := h

theorem four_new (w : World) (A B C D : Obj) : ((((w.alloc A).alloc B).alloc C).alloc D).heap[w.heap.size]? = some A ∧ ((((w.alloc A).alloc B).alloc C).alloc D).heap[w.heap.size + 1]? = some B ∧ ((((w.alloc A).alloc B).alloc C).alloc D).heap[w.heap.size + 1 + 1]? = some C ∧ ((((w.alloc A).alloc B).alloc C).alloc D).heap[w.heap.size + 1 + 1 + 1]? = some D ∧ ((((w.alloc A).alloc B).alloc C).alloc D).heap.size = w.heap.size + 1 + 1 + 1 + 1 := by
  have e : ((((w.alloc A).alloc B).alloc C).alloc D).heap = (((w.heap.push A).push B).push C).push D := rfl
  rw [e]
  refine ⟨?_, ?_, ?_, ?_, by simp⟩
  · rw [Array.getElem?_push, if_neg (by simp <;> omega), Array.getElem?_push, if_neg (by simp <;> omega), Array.getElem?_push, if_neg (by simp <;> omega), Array.getElem?_push, if_pos rfl]
  · rw [Array.getElem?_push, if_neg (by simp <;> omega), Array.getElem?_push, if_neg (by simp <;> omega), Array.getElem?_push, if_pos (by simp <;> omega)]
  · rw [Array.getElem?_push, if_neg (by simp), Array.getElem?_push, if_pos (by simp)]
  · rw [Array.getElem?_push, if_pos (by simp)]

/-- A row of ends of an act: new since block lo. -/
def SlEn (lo : Nat) (w : World) (ae : Option Addr) (l : List En) : Prop := l ≠ [] → ∃ g, ae = some ⟨g, 0, none⟩ ∧ lo ≤ g ∧ g < w.heap.size ∧ EnsAt w g 0 l
theorem SlEn.nil (lo : Nat) (w : World) (ae : Option Addr) : SlEn lo w ae [] := fun h => absurd rfl h
theorem RowIs.slEn {w : World} {g n cap lo : Nat} {l : List En} (h : RowIs w 118 2 g n cap (ensV l)) (hlo : lo ≤ g) : SlEn lo w (some ⟨g, 0, none⟩) l := fun _ =>
  ⟨g, rfl, hlo, h.lt, fun i s hs => by
    have := ensV_at l i s hs
    unfold EnAt
    rw [Nat.zero_add]
    exact ⟨h.cell this.1, h.cell this.2⟩⟩

theorem Tryz.infosEnds : (Tryz.prog.info? 57).map (·.size) = some 1 := by kernel_rfl
def oldP (s : Svc) : Cp → Bool := fun c => c.image != s.image
def calmB (B : Bk) (s : Svc) : Bool := ((someL B s fun c => c.image != s.image).length : Int) == 0 && ((someL B s fun c => drainsB B c).length : Int) == 0
def numOf (l : List En) : Int := match l with | [] => 0 | e :: _ => e.number
def counterA (B : Bk) (s : Svc) : Ac :=
  if ((liveTo B s.name B.cps.length).length : Int) < s.want then { a0 s with create := s.want - (liveTo B s.name B.cps.length).length }
  else if s.want < ((liveTo B s.name B.cps.length).length : Int) ∧ (calmB B s = true ∨ s.want + s.over < ((liveTo B s.name B.cps.length).length : Int)) ∧ mayOf B s.name (numOf (firstL B s.image (liveTo B s.name B.cps.length))) = true then { a0 s with ends := firstL B s.image (liveTo B s.name B.cps.length) }
  else a0 s

/-- What an act's value is. -/
def IsAct (lo : Nat) (w : World) (v : Value) (A : Ac) : Prop := ∃ ae ce, v = .agg #[.string A.service, .int .i64 A.seen, .int .i64 A.create, .int .i64 A.want, .int .i64 A.cool, .bool A.scale, .slice ae A.ends.length ce, .bool A.drop] ∧ SlEn lo w ae A.ends
theorem isAct_a0 (lo : Nat) (w : World) (s : Svc) : IsAct lo w (.agg #[.string s.name, .int .i64 s.version, .int .i64 0, .int .i64 0, .int .i64 0, .bool false, .slice none 0 0, .bool false]) (a0 s) := ⟨none, 0, rfl, SlEn.nil _ _ _⟩

set_option maxRecDepth 100000 in
set_option maxHeartbeats 16000000 in
theorem l5Counter_any (B : Bk) (s : Svc) (a1 a2 a3 : Option Addr) (c1 c2 c3 : Nat) (w : World) (hS : B.small) (hV : Valid B) (hsi : SvcIn s) (hB : BkAt w a1 a2 a3 B) :
    Calls Tryz.prog 59 #[.agg #[.int .i64 B.now, .slice a1 B.svcs.length c1, .slice a2 B.cps.length c2, .slice a3 B.bts.length c3], .agg #[.string s.name, .int .i64 s.version, .bool s.gone, .int .i64 s.image, .int .i64 s.want, .int .i64 s.down, .int .i64 s.over, .int .i64 s.next, .int .i64 s.per, .int .i64 s.least, .int .i64 s.most, .int .i64 s.load, .int .i64 s.cool], .agg #[.string s.name, .int .i64 s.version, .int .i64 0, .int .i64 0, .int .i64 0, .bool false, .slice none 0 0, .bool false]] w fun e w' => ∃ v, e = .returned v ∧ IsAct w.heap.size w' v (counterA B s) ∧ Below w.heap.size w w' := by
  obtain ⟨t0, t1, t2, t3, t4⟩ := four_new w (.cells #[.int .i64 B.now, .slice a1 B.svcs.length c1, .slice a2 B.cps.length c2, .slice a3 B.bts.length c3] 34) (.cells #[.string s.name, .int .i64 s.version, .bool s.gone, .int .i64 s.image, .int .i64 s.want, .int .i64 s.down, .int .i64 s.over, .int .i64 s.next, .int .i64 s.per, .int .i64 s.least, .int .i64 s.most, .int .i64 s.load, .int .i64 s.cool] 48) (.cells #[.string s.name, .int .i64 s.version, .int .i64 0, .int .i64 0, .int .i64 0, .bool false, .slice none 0 0, .bool false] 59) (.cells #[.string ⟨#[]⟩, .int .i64 0, .int .i64 0, .int .i64 0, .int .i64 0, .bool false, .slice none 0 0, .bool false] 59)
  have T0 : Hid _ := t0
  have T1 : Hid _ := t1
  have T2 : Hid _ := t2
  have T3 : Hid _ := t3
  have HS4 : Hid _ := t4
  clear t0 t1 t2 t3 t4
  have hb0 : Below w.heap.size w ((((w.alloc (.cells #[.int .i64 B.now, .slice a1 B.svcs.length c1, .slice a2 B.cps.length c2, .slice a3 B.bts.length c3] 34)).alloc (.cells #[.string s.name, .int .i64 s.version, .bool s.gone, .int .i64 s.image, .int .i64 s.want, .int .i64 s.down, .int .i64 s.over, .int .i64 s.next, .int .i64 s.per, .int .i64 s.least, .int .i64 s.most, .int .i64 s.load, .int .i64 s.cool] 48)).alloc (.cells #[.string s.name, .int .i64 s.version, .int .i64 0, .int .i64 0, .int .i64 0, .bool false, .slice none 0 0, .bool false] 59)).alloc (.cells #[.string ⟨#[]⟩, .int .i64 0, .int .i64 0, .int .i64 0, .int .i64 0, .bool false, .slice none 0 0, .bool false] 59)) := ((((Below.refl _ _).alloc (Nat.le_refl _) _).alloc (by simp) _).alloc (by simp; omega) _).alloc (by simp; omega) _
  obtain ⟨L, HLL⟩ : ∃ L, Hid (liveTo B s.name B.cps.length = L) := ⟨_, rfl⟩
  have hLl : L.length ≤ B.cps.length := by rw [← HLL.out]; exact liveTo_len _ _ _
  have HL : Hid (∀ i ∈ L, i < B.cps.length) := fun i hi => by rw [← HLL.out] at hi; exact liveTo_lt hi
  have hl := hS
  obtain ⟨hl1, hl2, hl3⟩ := hl
  have hw0 := hsi.want0
  have hw1 := hsi.want1
  have ho0 := hsi.over0
  have ho1 := hsi.over1
  obtain ⟨C, HC⟩ : ∃ C, Hid (counterA B s = C) := ⟨_, rfl⟩
  rw [HC.out]
  have HCD : Hid (C = if (L.length : Int) < s.want then { a0 s with create := s.want - L.length } else if s.want < (L.length : Int) ∧ (calmB B s = true ∨ s.want + s.over < (L.length : Int)) ∧ mayOf B s.name (numOf (firstL B s.image L)) = true then { a0 s with ends := firstL B s.image L } else a0 s) := by unfold Hid; rw [← HC.out]; unfold counterA; rw [HLL.out]
  clear HC
  go_enter Tryz.func59, Tryz.ntmps59
  go_wp2_with fail
  refine (l5Live_any B s.name a1 a2 a3 c1 c2 c3 _ hS (hB.below hb0).2.1).mono ?_
  rw [HLL.out]
  rintro e w1 ⟨gL, capL, rfl, hgL0, hLr, hb1⟩
  rw [HS4.out] at hgL0 hb1
  have hbw1 := hb0.trans (hb1.mono (by omega))
  have U0 : Hid (w1.heap[w.heap.size]? = some (.cells #[.int .i64 B.now, .slice a1 B.svcs.length c1, .slice a2 B.cps.length c2, .slice a3 B.bts.length c3] 34 (0, 0))) := below_blk hb1 T0.out (by omega)
  have U1 : Hid (w1.heap[w.heap.size + 1]? = some (.cells #[.string s.name, .int .i64 s.version, .bool s.gone, .int .i64 s.image, .int .i64 s.want, .int .i64 s.down, .int .i64 s.over, .int .i64 s.next, .int .i64 s.per, .int .i64 s.least, .int .i64 s.most, .int .i64 s.load, .int .i64 s.cool] 48 (0, 0))) := below_blk hb1 T1.out (by omega)
  have U2 : Hid (w1.heap[w.heap.size + 1 + 1]? = some (.cells #[.string s.name, .int .i64 s.version, .int .i64 0, .int .i64 0, .int .i64 0, .bool false, .slice none 0 0, .bool false] 59 (0, 0))) := below_blk hb1 T2.out (by omega)
  have U3 : Hid (w1.heap[w.heap.size + 1 + 1 + 1]? = some (.cells #[.string ⟨#[]⟩, .int .i64 0, .int .i64 0, .int .i64 0, .int .i64 0, .bool false, .slice none 0 0, .bool false] 59 (0, 0))) := below_blk hb1 T3.out (by omega)
  have hz1 : w.heap.size + 1 + 1 + 1 + 1 ≤ w1.heap.size := by have := hb1.size; rw [HS4.out] at this; omega
  have ULR : Hid (RowIs w1 3 1 gL L.length capL (intsV L)) := hLr
  clear T0 T1 T2 T3 HS4 hb1 hb0 hLr HLL
  have v4 := blk_cell U1.out 4 rfl
  by_cases hlt : (L.length : Int) < s.want
  · have HE : Hid (C = { a0 s with create := s.want - L.length }) := by unfold Hid; rw [HCD.out, if_pos hlt]
    go_wp2_with (first
      | (refine wpList_store_one rfl 3 (.tmp 24) (.tmp 23) rfl (w.heap.size + 1 + 1) 2 (.int .i64 (s.want - L.length)) rfl rfl Tryz.infosInt rfl rfl 59 #[.string s.name, .int .i64 s.version, .int .i64 0, .int .i64 0, .int .i64 0, .bool false, .slice none 0 0, .bool false] U2.out (Nat.le_of_ble_eq_true rfl) ?_; intro w2 hz on; have V2 : Hid (w2.heap[w.heap.size + 1 + 1]? = some (.cells #[.string s.name, .int .i64 s.version, .int .i64 (s.want - L.length), .int .i64 0, .int .i64 0, .bool false, .slice none 0 0, .bool false] 59 (0, 0))) := hz; have V3 : Hid _ := (on.other (w.heap.size + 1 + 1 + 1) (by omega)).trans U3.out; have hbw2 := hbw1.trans (on.below.mono (by omega)); clear hz on; have q0 := blk_cell V2.out 0 rfl; have q1 := blk_cell V2.out 1 rfl; have q2 := blk_cell V2.out 2 rfl; have q3 := blk_cell V2.out 3 rfl; have q4 := blk_cell V2.out 4 rfl; have q5 := blk_cell V2.out 5 rfl; have q6 := blk_cell V2.out 6 rfl; have q7 := blk_cell V2.out 7 rfl)
      | (refine wpList_store_only rfl 59 (.tmp 6) (.tmp 25) rfl (w.heap.size + 1 + 1 + 1) 0 #[.string s.name, .int .i64 s.version, .int .i64 (s.want - L.length), .int .i64 0, .int .i64 0, .bool false, .slice none 0 0, .bool false] rfl rfl 59 #[.string ⟨#[]⟩, .int .i64 0, .int .i64 0, .int .i64 0, .int .i64 0, .bool false, .slice none 0 0, .bool false] V3.out Tryz.infosAct (Nat.le_of_ble_eq_true rfl) (by simp [Value.oneCell']) ?_; intro wf hz on; have RF : Hid (wf.heap[w.heap.size + 1 + 1 + 1]? = some (.cells #[.string s.name, .int .i64 s.version, .int .i64 (s.want - L.length), .int .i64 0, .int .i64 0, .bool false, .slice none 0 0, .bool false] 59 (0, 0))) := hz; have hbf := hbw2.trans (on.below.mono (by omega)); clear hz on; have p0 := blk_cell RF.out 0 rfl; have p1 := blk_cell RF.out 1 rfl; have p2 := blk_cell RF.out 2 rfl; have p3 := blk_cell RF.out 3 rfl; have p4 := blk_cell RF.out 4 rfl; have p5 := blk_cell RF.out 5 rfl; have p6 := blk_cell RF.out 6 rfl; have p7 := blk_cell RF.out 7 rfl))
    refine bodyPost_ret (v := .agg #[.string s.name, .int .i64 s.version, .int .i64 (s.want - L.length), .int .i64 0, .int .i64 0, .bool false, .slice none 0 0, .bool false]) (by simp [results, Tryz.results59, go_sem, p0, p1, p2, p3, p4, p5, p6, p7]) rfl ⟨_, rfl, ?_, hbf⟩
    rw [HE.out]
    exact ⟨none, 0, rfl, SlEn.nil _ _ _⟩
  · clear v4
    have e0 := blk_cell U0.out 0 rfl
    have e1 := blk_cell U0.out 1 rfl
    have e2 := blk_cell U0.out 2 rfl
    have e3 := blk_cell U0.out 3 rfl
    have v0 := blk_cell U1.out 0 rfl
    have v1 := blk_cell U1.out 1 rfl
    have v2 := blk_cell U1.out 2 rfl
    have v3 := blk_cell U1.out 3 rfl
    have v4 := blk_cell U1.out 4 rfl
    have v5 := blk_cell U1.out 5 rfl
    have v6 := blk_cell U1.out 6 rfl
    have v7 := blk_cell U1.out 7 rfl
    have v8 := blk_cell U1.out 8 rfl
    have v9 := blk_cell U1.out 9 rfl
    have v10 := blk_cell U1.out 10 rfl
    have v11 := blk_cell U1.out 11 rfl
    have v12 := blk_cell U1.out 12 rfl
    obtain ⟨n2, HN2⟩ : ∃ n2 : Nat, Hid ((someL B s fun c => c.image != s.image).length = n2) := ⟨_, rfl⟩
    obtain ⟨n6, HN6⟩ : ∃ n6 : Nat, Hid ((someL B s fun c => drainsB B c).length = n6) := ⟨_, rfl⟩
    obtain ⟨calm, HCM⟩ : ∃ c, Hid (calmB B s = c) := ⟨_, rfl⟩
    have HCM' : Hid (calm = ((n2 : Int) == 0 && (n6 : Int) == 0)) := by unfold Hid; rw [← HCM.out]; unfold calmB; rw [HN2.out, HN6.out]
    have hn2 : n2 ≤ 1048576 := by rw [← HN2.out]; exact Nat.le_trans (List.length_filter_le _ _) (Nat.le_trans (liveTo_len _ _ _) hl2)
    have hn6 : n6 ≤ 1048576 := by rw [← HN6.out]; exact Nat.le_trans (List.length_filter_le _ _) (Nat.le_trans (liveTo_len _ _ _) hl2)
    go_upto_region 5 with fail
    go_cut [8] (fun v wx => v = .bool calm ∧ Below w1.heap.size w1 wx)
    case first =>
      go_wp2_with fail
      refine (l5Some_2 B s a1 a2 a3 c1 c2 c3 _ hS (hB.below hbw1)).mono ?_
      rw [HN2.out]
      rintro e w2 ⟨g2, cap2, rfl, _, _, hb2⟩
      cases hc2 : ((n2 : Int) == 0)
      · go_wp2
        go_meet
        case rel => exact ⟨by rw [HCM'.out, hc2]; rfl, hb2⟩
      · have W0 : Hid _ := below_blk hb2 U0.out (by omega)
        have W1 : Hid _ := below_blk hb2 U1.out (by omega)
        clear e0 e1 e2 e3 v0 v1 v2 v3 v4 v5 v6 v7 v8 v9 v10 v11 v12
        have e0 := blk_cell W0.out 0 rfl
        have e1 := blk_cell W0.out 1 rfl
        have e2 := blk_cell W0.out 2 rfl
        have e3 := blk_cell W0.out 3 rfl
        have v0 := blk_cell W1.out 0 rfl
        have v1 := blk_cell W1.out 1 rfl
        have v2 := blk_cell W1.out 2 rfl
        have v3 := blk_cell W1.out 3 rfl
        have v4 := blk_cell W1.out 4 rfl
        have v5 := blk_cell W1.out 5 rfl
        have v6 := blk_cell W1.out 6 rfl
        have v7 := blk_cell W1.out 7 rfl
        have v8 := blk_cell W1.out 8 rfl
        have v9 := blk_cell W1.out 9 rfl
        have v10 := blk_cell W1.out 10 rfl
        have v11 := blk_cell W1.out 11 rfl
        have v12 := blk_cell W1.out 12 rfl
        go_wp2_with fail
        refine (l5Some_6 B s a1 a2 a3 c1 c2 c3 _ hS (hB.below (hbw1.trans (hb2.mono hbw1.size)))).mono ?_
        rw [HN6.out]
        rintro e w3 ⟨g6, cap6, rfl, _, _, hb3⟩
        go_wp2
        go_meet
        case rel => exact ⟨by rw [HCM'.out, hc2]; rfl, hb2.trans (hb3.mono hb2.size)⟩
    case rest =>
      obtain ⟨rfl, hbx⟩ := hcut
      have hbwx := hbw1.trans (hbx.mono hbw1.size)
      have hzx := hbx.size
      have V0 := hid_of (below_blk hbx U0.out (by omega))
      have V1 := hid_of (below_blk hbx U1.out (by omega))
      have V2 := hid_of (below_blk hbx U2.out (by omega))
      have V3 := hid_of (below_blk hbx U3.out (by omega))
      have VLR := hid_of (ULR.out.below hbx ULR.out.lt)
      clear e0 e1 e2 e3 v0 v1 v2 v3 v4 v5 v6 v7 v8 v9 v10 v11 v12 U0 U1 U2 U3 ULR hbx
      have v4 := blk_cell V1.out 4 rfl
      have v6 := blk_cell V1.out 6 rfl
      by_cases hgt : s.want < (L.length : Int)
      · obtain ⟨i0, hi0⟩ : ∃ i0, L[0]? = some i0 := ⟨L[0]'(by omega), by rw [List.getElem?_eq_getElem]⟩
        have HI0 : Hid _ := hi0
        obtain ⟨best, HBB⟩ : ∃ b, Hid (bestTo B s.image i0 L L.length = b) := ⟨_, rfl⟩
        have HFL : Hid (firstL B s.image L = [endOf best]) := by unfold Hid; rw [firstL_of hi0, HBB.out]
        obtain ⟨m, HMM'⟩ : ∃ m, Hid (mayOf B s.name best.number = m) := ⟨_, rfl⟩
        have HMM : Hid (mayOf B s.name (numOf (firstL B s.image L)) = m) := by unfold Hid; rw [HFL.out]; exact HMM'.out
        have HMC : Hid (∀ W : World, BkAt W a1 a2 a3 B → Calls Tryz.prog 94 #[.agg #[.int .i64 B.now, .slice a1 B.svcs.length c1, .slice a2 B.cps.length c2, .slice a3 B.bts.length c3], .string s.name, .int .i64 best.number] W fun e w' => e = .returned (.bool m) ∧ Below W.heap.size W w') := fun W h => by rw [← HMM'.out]; exact l3May_any B s.name best.number a1 a2 a3 c1 c2 c3 W hS h hV
        clear hi0 HMM'
        cases calm
        · by_cases hov : s.want + s.over < (L.length : Int)
          · clear v4 v6
            have e0 := blk_cell V0.out 0 rfl
            have e1 := blk_cell V0.out 1 rfl
            have e2 := blk_cell V0.out 2 rfl
            have e3 := blk_cell V0.out 3 rfl
            have v0 := blk_cell V1.out 0 rfl
            have v1 := blk_cell V1.out 1 rfl
            have v2 := blk_cell V1.out 2 rfl
            have v3 := blk_cell V1.out 3 rfl
            have v4 := blk_cell V1.out 4 rfl
            have v5 := blk_cell V1.out 5 rfl
            have v6 := blk_cell V1.out 6 rfl
            have v7 := blk_cell V1.out 7 rfl
            have v8 := blk_cell V1.out 8 rfl
            have v9 := blk_cell V1.out 9 rfl
            have v10 := blk_cell V1.out 10 rfl
            have v11 := blk_cell V1.out 11 rfl
            have v12 := blk_cell V1.out 12 rfl
            go_wp2_with fail
            refine (l5First_cons B s L i0 gL capL a1 a2 a3 c1 c2 c3 _ hS (hB.below hbwx) HI0.out HL.out (by omega) VLR.out).mono ?_
            rw [HBB.out]
            rintro e w3 ⟨gF, capF, rfl, hgF, hrF, hb3⟩
            have hbw3 := hbwx.trans (hb3.mono hbwx.size)
            have hz3 := hb3.size
            have X0 : Hid (w3.heap[w.heap.size]? = some (.cells #[.int .i64 B.now, .slice a1 B.svcs.length c1, .slice a2 B.cps.length c2, .slice a3 B.bts.length c3] 34 (0, 0))) := below_blk hb3 V0.out (by omega)
            have X1 : Hid (w3.heap[w.heap.size + 1]? = some (.cells #[.string s.name, .int .i64 s.version, .bool s.gone, .int .i64 s.image, .int .i64 s.want, .int .i64 s.down, .int .i64 s.over, .int .i64 s.next, .int .i64 s.per, .int .i64 s.least, .int .i64 s.most, .int .i64 s.load, .int .i64 s.cool] 48 (0, 0))) := below_blk hb3 V1.out (by omega)
            have X2 : Hid (w3.heap[w.heap.size + 1 + 1]? = some (.cells #[.string s.name, .int .i64 s.version, .int .i64 0, .int .i64 0, .int .i64 0, .bool false, .slice none 0 0, .bool false] 59 (0, 0))) := below_blk hb3 V2.out (by omega)
            have X3 : Hid (w3.heap[w.heap.size + 1 + 1 + 1]? = some (.cells #[.string ⟨#[]⟩, .int .i64 0, .int .i64 0, .int .i64 0, .int .i64 0, .bool false, .slice none 0 0, .bool false] 59 (0, 0))) := below_blk hb3 V3.out (by omega)
            have HRF : Hid (RowIs w3 118 2 gF 1 capF (ensV [endOf best])) := hrF
            have HNUM : Hid ((ensV [endOf best])[0]? = some (.int .i64 best.number)) := rfl
            clear hb3 hrF e0 e1 e2 e3 v0 v1 v2 v3 v4 v5 v6 v7 v8 v9 v10 v11 v12 V0 V1 V2 V3
            go_wp2
            refine wp_region_grows 7 (by kernel_rfl) (by kernel_rfl) ?_
            apply grow_eq
            · intro V W K A hW hd hA hK
              simp only [putAll, List.getElem?_toArray, List.getElem?_cons_succ, List.getElem?_cons_zero, Option.bind_some, Act.put, List.setIfInBounds_toArray, List.set_cons_succ, List.set_cons_zero] at hA
              clear hd
              generalize V 0 = x0 at hA
              generalize V 1 = x1 at hA
              generalize V 2 = x2 at hA
              generalize V 3 = x3 at hA
              generalize V 4 = x4 at hA
              generalize V 5 = x5 at hA
              generalize V 6 = x6 at hA
              obtain rfl := hA
              have e0 := blk_cell (below_blk hW X0.out (by omega)) 0 rfl
              have e1 := blk_cell (below_blk hW X0.out (by omega)) 1 rfl
              have e2 := blk_cell (below_blk hW X0.out (by omega)) 2 rfl
              have e3 := blk_cell (below_blk hW X0.out (by omega)) 3 rfl
              go_wp2
              exact hK.out _ (Below.refl _ _)
            apply grow_eq
            · intro V W K A hW hd hA hK
              simp only [putAll, List.getElem?_toArray, List.getElem?_cons_succ, List.getElem?_cons_zero, Option.bind_some, Act.put, List.setIfInBounds_toArray, List.set_cons_succ, List.set_cons_zero] at hA
              clear hd
              generalize V 0 = x0 at hA
              generalize V 1 = x1 at hA
              generalize V 2 = x2 at hA
              generalize V 3 = x3 at hA
              generalize V 4 = x4 at hA
              generalize V 5 = x5 at hA
              generalize V 6 = x6 at hA
              obtain rfl := hA
              go_wp2
              exact hK.out _ (Below.refl _ _)
            apply grow_eq
            · intro V W K A hW hd hA hK
              have d1 : V 1 = _ := hd 1 (by kernel_rfl)
              simp only [putAll, List.getElem?_toArray, List.getElem?_cons_succ, List.getElem?_cons_zero, Option.bind_some, Act.put, List.setIfInBounds_toArray, List.set_cons_succ, List.set_cons_zero] at hA
              clear hd
              generalize V 0 = x0 at hA
              generalize V 1 = x1 at d1 hA
              generalize V 2 = x2 at hA
              generalize V 3 = x3 at hA
              generalize V 4 = x4 at hA
              generalize V 5 = x5 at hA
              generalize V 6 = x6 at hA
              subst d1
              obtain rfl := hA
              have v0 := blk_cell (below_blk hW X1.out (by omega)) 0 rfl
              go_wp2
              exact hK.out _ (Below.refl _ _)
            apply grow_eq
            · intro V W K A hW hd hA hK
              simp only [putAll, List.getElem?_toArray, List.getElem?_cons_succ, List.getElem?_cons_zero, Option.bind_some, Act.put, List.setIfInBounds_toArray, List.set_cons_succ, List.set_cons_zero] at hA
              clear hd
              generalize V 0 = x0 at hA
              generalize V 1 = x1 at hA
              generalize V 2 = x2 at hA
              generalize V 3 = x3 at hA
              generalize V 4 = x4 at hA
              generalize V 5 = x5 at hA
              generalize V 6 = x6 at hA
              obtain rfl := hA
              go_wp2
              exact hK.out _ (Below.refl _ _)
            apply grow_eq
            · intro V W K A hW hd hA hK
              have d3 : V 3 = _ := hd 3 (by kernel_rfl)
              simp only [putAll, List.getElem?_toArray, List.getElem?_cons_succ, List.getElem?_cons_zero, Option.bind_some, Act.put, List.setIfInBounds_toArray, List.set_cons_succ, List.set_cons_zero] at hA
              clear hd
              generalize V 0 = x0 at hA
              generalize V 1 = x1 at hA
              generalize V 2 = x2 at hA
              generalize V 3 = x3 at d3 hA
              generalize V 4 = x4 at hA
              generalize V 5 = x5 at hA
              generalize V 6 = x6 at hA
              subst d3
              obtain rfl := hA
              go_wp2
              exact hK.out _ (Below.refl _ _)
            apply grow_eq
            · intro V W K A hW hd hA hK
              have d4 : V 4 = _ := hd 4 (by kernel_rfl)
              simp only [putAll, List.getElem?_toArray, List.getElem?_cons_succ, List.getElem?_cons_zero, Option.bind_some, Act.put, List.setIfInBounds_toArray, List.set_cons_succ, List.set_cons_zero] at hA
              clear hd
              generalize V 0 = x0 at hA
              generalize V 1 = x1 at hA
              generalize V 2 = x2 at hA
              generalize V 3 = x3 at hA
              generalize V 4 = x4 at d4 hA
              generalize V 5 = x5 at hA
              generalize V 6 = x6 at hA
              subst d4
              obtain rfl := hA
              go_wp2
              exact hK.out _ (Below.refl _ _)
            apply grow_eq
            · intro V W K A hW hd hA hK
              have d5 : V 5 = _ := hd 5 (by kernel_rfl)
              simp only [putAll, List.getElem?_toArray, List.getElem?_cons_succ, List.getElem?_cons_zero, Option.bind_some, Act.put, List.setIfInBounds_toArray, List.set_cons_succ, List.set_cons_zero] at hA
              clear hd
              generalize V 0 = x0 at hA
              generalize V 1 = x1 at hA
              generalize V 2 = x2 at hA
              generalize V 3 = x3 at hA
              generalize V 4 = x4 at hA
              generalize V 5 = x5 at d5 hA
              generalize V 6 = x6 at hA
              subst d5
              obtain rfl := hA
              have y0 := (HRF.out.below hW HRF.out.lt).cell HNUM.out
              go_wp2
              exact hK.out _ (Below.refl _ _)
            intro V W A hW hS hA
            have d0 : V 0 = _ := hS 0 (by omega)
            have d1 : V 1 = _ := hS 1 (by omega)
            have d2 : V 2 = _ := hS 2 (by omega)
            have d3 : V 3 = _ := hS 3 (by omega)
            have d4 : V 4 = _ := hS 4 (by omega)
            have d5 : V 5 = _ := hS 5 (by omega)
            have d6 : V 6 = _ := hS 6 (by omega)
            simp only [putAll, List.getElem?_toArray, List.getElem?_cons_succ, List.getElem?_cons_zero, Option.bind_some, Act.put, List.setIfInBounds_toArray, List.set_cons_succ, List.set_cons_zero] at hA
            clear hS
            generalize V 0 = x0 at d0 hA
            generalize V 1 = x1 at d1 hA
            generalize V 2 = x2 at d2 hA
            generalize V 3 = x3 at d3 hA
            generalize V 4 = x4 at d4 hA
            generalize V 5 = x5 at d5 hA
            generalize V 6 = x6 at d6 hA
            subst d0
            subst d1
            subst d2
            subst d3
            subst d4
            subst d5
            subst d6
            obtain rfl := hA
            simp only [List.drop_succ_cons, List.drop_zero]
            have hbW := hbw3.trans (hW.mono hbw3.size)
            go_wp2_with fail
            refine (HMC.out _ (hB.below hbW)).mono ?_
            rintro e w4 ⟨rfl, hb4⟩
            have hb34 : Below w3.heap.size w3 w4 := hW.trans (hb4.mono hW.size)
            have hbw4 := hbw3.trans (hb34.mono hbw3.size)
            have Y2 : Hid _ := below_blk hb34 X2.out (by omega)
            have Y3 : Hid _ := below_blk hb34 X3.out (by omega)
            have HR4 : Hid (RowIs w4 118 2 gF 1 capF (ensV [endOf best])) := HRF.out.below hb34 HRF.out.lt
            have hgF4 : gF < w4.heap.size := HR4.out.lt
            clear hb4 hW hbW X0 X1 X2 X3 HRF
            cases m
            · have HE : Hid (C = a0 s) := by unfold Hid; rw [HCD.out, if_neg (by omega), if_neg]; rw [HMM.out]; simp
              have q0 := blk_cell Y2.out 0 rfl
              have q1 := blk_cell Y2.out 1 rfl
              have q2 := blk_cell Y2.out 2 rfl
              have q3 := blk_cell Y2.out 3 rfl
              have q4 := blk_cell Y2.out 4 rfl
              have q5 := blk_cell Y2.out 5 rfl
              have q6 := blk_cell Y2.out 6 rfl
              have q7 := blk_cell Y2.out 7 rfl
              go_wp2_with (refine wpList_store_only rfl 59 (.tmp 6) (.tmp 70) rfl (w.heap.size + 1 + 1 + 1) 0 #[.string s.name, .int .i64 s.version, .int .i64 0, .int .i64 0, .int .i64 0, .bool false, .slice none 0 0, .bool false] rfl rfl 59 #[.string ⟨#[]⟩, .int .i64 0, .int .i64 0, .int .i64 0, .int .i64 0, .bool false, .slice none 0 0, .bool false] Y3.out Tryz.infosAct (Nat.le_of_ble_eq_true rfl) (by simp [Value.oneCell']) ?_; intro wf hz on; have RF : Hid (wf.heap[w.heap.size + 1 + 1 + 1]? = some (.cells #[.string s.name, .int .i64 s.version, .int .i64 0, .int .i64 0, .int .i64 0, .bool false, .slice none 0 0, .bool false] 59 (0, 0))) := hz; have hbf := hbw4.trans (on.below.mono (by omega)); clear hz on; have p0 := blk_cell RF.out 0 rfl; have p1 := blk_cell RF.out 1 rfl; have p2 := blk_cell RF.out 2 rfl; have p3 := blk_cell RF.out 3 rfl; have p4 := blk_cell RF.out 4 rfl; have p5 := blk_cell RF.out 5 rfl; have p6 := blk_cell RF.out 6 rfl; have p7 := blk_cell RF.out 7 rfl)
              refine bodyPost_ret (v := .agg #[.string s.name, .int .i64 s.version, .int .i64 0, .int .i64 0, .int .i64 0, .bool false, .slice none 0 0, .bool false]) (by simp [results, Tryz.results59, go_sem, p0, p1, p2, p3, p4, p5, p6, p7]) rfl ⟨_, rfl, ?_, hbf⟩
              rw [HE.out]
              exact isAct_a0 _ _ s
            · have HE : Hid (C = { a0 s with ends := [endOf best] }) := by unfold Hid; rw [HCD.out, if_neg (by omega), if_pos ⟨hgt, .inr hov, HMM.out⟩, HFL.out]
              go_wp2_with (first
                | (refine wpList_store_one rfl 57 (.tmp 69) (.tmp 68) rfl (w.heap.size + 1 + 1) 6 (.slice (some ⟨gF, 0, none⟩) 1 capF) rfl rfl Tryz.infosEnds rfl rfl 59 #[.string s.name, .int .i64 s.version, .int .i64 0, .int .i64 0, .int .i64 0, .bool false, .slice none 0 0, .bool false] Y2.out (Nat.le_of_ble_eq_true rfl) ?_; intro w5 hz on; have Z2 : Hid (w5.heap[w.heap.size + 1 + 1]? = some (.cells #[.string s.name, .int .i64 s.version, .int .i64 0, .int .i64 0, .int .i64 0, .bool false, .slice (some ⟨gF, 0, none⟩) 1 capF, .bool false] 59 (0, 0))) := hz; have Z3 : Hid _ := (on.other (w.heap.size + 1 + 1 + 1) (by omega)).trans Y3.out; have hbw5 := hbw4.trans (on.below.mono (by omega)); have HR5 : Hid (RowIs w5 118 2 gF 1 capF (ensV [endOf best])) := HR4.out.blk (on.other gF (by omega)); clear hz on; have q0 := blk_cell Z2.out 0 rfl; have q1 := blk_cell Z2.out 1 rfl; have q2 := blk_cell Z2.out 2 rfl; have q3 := blk_cell Z2.out 3 rfl; have q4 := blk_cell Z2.out 4 rfl; have q5 := blk_cell Z2.out 5 rfl; have q6 := blk_cell Z2.out 6 rfl; have q7 := blk_cell Z2.out 7 rfl)
                | (refine wpList_store_only rfl 59 (.tmp 6) (.tmp 70) rfl (w.heap.size + 1 + 1 + 1) 0 #[.string s.name, .int .i64 s.version, .int .i64 0, .int .i64 0, .int .i64 0, .bool false, .slice (some ⟨gF, 0, none⟩) 1 capF, .bool false] rfl rfl 59 #[.string ⟨#[]⟩, .int .i64 0, .int .i64 0, .int .i64 0, .int .i64 0, .bool false, .slice none 0 0, .bool false] Z3.out Tryz.infosAct (Nat.le_of_ble_eq_true rfl) (by simp [Value.oneCell']) ?_; intro wf hz on; have RF : Hid (wf.heap[w.heap.size + 1 + 1 + 1]? = some (.cells #[.string s.name, .int .i64 s.version, .int .i64 0, .int .i64 0, .int .i64 0, .bool false, .slice (some ⟨gF, 0, none⟩) 1 capF, .bool false] 59 (0, 0))) := hz; have hbf := hbw5.trans (on.below.mono (by omega)); have HR6 : Hid (RowIs wf 118 2 gF 1 capF (ensV [endOf best])) := HR5.out.blk (on.other gF (by omega)); clear hz on; have p0 := blk_cell RF.out 0 rfl; have p1 := blk_cell RF.out 1 rfl; have p2 := blk_cell RF.out 2 rfl; have p3 := blk_cell RF.out 3 rfl; have p4 := blk_cell RF.out 4 rfl; have p5 := blk_cell RF.out 5 rfl; have p6 := blk_cell RF.out 6 rfl; have p7 := blk_cell RF.out 7 rfl))
              refine bodyPost_ret (v := .agg #[.string s.name, .int .i64 s.version, .int .i64 0, .int .i64 0, .int .i64 0, .bool false, .slice (some ⟨gF, 0, none⟩) 1 capF, .bool false]) (by simp [results, Tryz.results59, go_sem, p0, p1, p2, p3, p4, p5, p6, p7]) rfl ⟨_, rfl, ?_, hbf⟩
              rw [HE.out]
              exact ⟨some ⟨gF, 0, none⟩, capF, rfl, HR6.out.slEn (by omega)⟩
          · have HE : Hid (C = a0 s) := by unfold Hid; rw [HCD.out, if_neg (by omega), if_neg]; rintro ⟨_, h, _⟩; rw [HCM.out] at h; rcases h with h | h; (cases h); (exact hov h)
            have q0 := blk_cell V2.out 0 rfl
            have q1 := blk_cell V2.out 1 rfl
            have q2 := blk_cell V2.out 2 rfl
            have q3 := blk_cell V2.out 3 rfl
            have q4 := blk_cell V2.out 4 rfl
            have q5 := blk_cell V2.out 5 rfl
            have q6 := blk_cell V2.out 6 rfl
            have q7 := blk_cell V2.out 7 rfl
            go_wp2_with (refine wpList_store_only rfl 59 (.tmp 6) (.tmp 70) rfl (w.heap.size + 1 + 1 + 1) 0 #[.string s.name, .int .i64 s.version, .int .i64 0, .int .i64 0, .int .i64 0, .bool false, .slice none 0 0, .bool false] rfl rfl 59 #[.string ⟨#[]⟩, .int .i64 0, .int .i64 0, .int .i64 0, .int .i64 0, .bool false, .slice none 0 0, .bool false] V3.out Tryz.infosAct (Nat.le_of_ble_eq_true rfl) (by simp [Value.oneCell']) ?_; intro wf hz on; have RF : Hid (wf.heap[w.heap.size + 1 + 1 + 1]? = some (.cells #[.string s.name, .int .i64 s.version, .int .i64 0, .int .i64 0, .int .i64 0, .bool false, .slice none 0 0, .bool false] 59 (0, 0))) := hz; have hbf := hbwx.trans (on.below.mono (by omega)); clear hz on; have p0 := blk_cell RF.out 0 rfl; have p1 := blk_cell RF.out 1 rfl; have p2 := blk_cell RF.out 2 rfl; have p3 := blk_cell RF.out 3 rfl; have p4 := blk_cell RF.out 4 rfl; have p5 := blk_cell RF.out 5 rfl; have p6 := blk_cell RF.out 6 rfl; have p7 := blk_cell RF.out 7 rfl)
            refine bodyPost_ret (v := .agg #[.string s.name, .int .i64 s.version, .int .i64 0, .int .i64 0, .int .i64 0, .bool false, .slice none 0 0, .bool false]) (by simp [results, Tryz.results59, go_sem, p0, p1, p2, p3, p4, p5, p6, p7]) rfl ⟨_, rfl, ?_, hbf⟩
            rw [HE.out]
            exact isAct_a0 _ _ s
        · clear v4 v6
          have e0 := blk_cell V0.out 0 rfl
          have e1 := blk_cell V0.out 1 rfl
          have e2 := blk_cell V0.out 2 rfl
          have e3 := blk_cell V0.out 3 rfl
          have v0 := blk_cell V1.out 0 rfl
          have v1 := blk_cell V1.out 1 rfl
          have v2 := blk_cell V1.out 2 rfl
          have v3 := blk_cell V1.out 3 rfl
          have v4 := blk_cell V1.out 4 rfl
          have v5 := blk_cell V1.out 5 rfl
          have v6 := blk_cell V1.out 6 rfl
          have v7 := blk_cell V1.out 7 rfl
          have v8 := blk_cell V1.out 8 rfl
          have v9 := blk_cell V1.out 9 rfl
          have v10 := blk_cell V1.out 10 rfl
          have v11 := blk_cell V1.out 11 rfl
          have v12 := blk_cell V1.out 12 rfl
          go_wp2_with fail
          refine (l5First_cons B s L i0 gL capL a1 a2 a3 c1 c2 c3 _ hS (hB.below hbwx) HI0.out HL.out (by omega) VLR.out).mono ?_
          rw [HBB.out]
          rintro e w3 ⟨gF, capF, rfl, hgF, hrF, hb3⟩
          have hbw3 := hbwx.trans (hb3.mono hbwx.size)
          have hz3 := hb3.size
          have X0 : Hid (w3.heap[w.heap.size]? = some (.cells #[.int .i64 B.now, .slice a1 B.svcs.length c1, .slice a2 B.cps.length c2, .slice a3 B.bts.length c3] 34 (0, 0))) := below_blk hb3 V0.out (by omega)
          have X1 : Hid (w3.heap[w.heap.size + 1]? = some (.cells #[.string s.name, .int .i64 s.version, .bool s.gone, .int .i64 s.image, .int .i64 s.want, .int .i64 s.down, .int .i64 s.over, .int .i64 s.next, .int .i64 s.per, .int .i64 s.least, .int .i64 s.most, .int .i64 s.load, .int .i64 s.cool] 48 (0, 0))) := below_blk hb3 V1.out (by omega)
          have X2 : Hid (w3.heap[w.heap.size + 1 + 1]? = some (.cells #[.string s.name, .int .i64 s.version, .int .i64 0, .int .i64 0, .int .i64 0, .bool false, .slice none 0 0, .bool false] 59 (0, 0))) := below_blk hb3 V2.out (by omega)
          have X3 : Hid (w3.heap[w.heap.size + 1 + 1 + 1]? = some (.cells #[.string ⟨#[]⟩, .int .i64 0, .int .i64 0, .int .i64 0, .int .i64 0, .bool false, .slice none 0 0, .bool false] 59 (0, 0))) := below_blk hb3 V3.out (by omega)
          have HRF : Hid (RowIs w3 118 2 gF 1 capF (ensV [endOf best])) := hrF
          have HNUM : Hid ((ensV [endOf best])[0]? = some (.int .i64 best.number)) := rfl
          clear hb3 hrF e0 e1 e2 e3 v0 v1 v2 v3 v4 v5 v6 v7 v8 v9 v10 v11 v12 V0 V1 V2 V3
          go_wp2
          refine wp_region_grows 7 (by kernel_rfl) (by kernel_rfl) ?_
          apply grow_eq
          · intro V W K A hW hd hA hK
            simp only [putAll, List.getElem?_toArray, List.getElem?_cons_succ, List.getElem?_cons_zero, Option.bind_some, Act.put, List.setIfInBounds_toArray, List.set_cons_succ, List.set_cons_zero] at hA
            clear hd
            generalize V 0 = x0 at hA
            generalize V 1 = x1 at hA
            generalize V 2 = x2 at hA
            generalize V 3 = x3 at hA
            generalize V 4 = x4 at hA
            generalize V 5 = x5 at hA
            generalize V 6 = x6 at hA
            obtain rfl := hA
            have e0 := blk_cell (below_blk hW X0.out (by omega)) 0 rfl
            have e1 := blk_cell (below_blk hW X0.out (by omega)) 1 rfl
            have e2 := blk_cell (below_blk hW X0.out (by omega)) 2 rfl
            have e3 := blk_cell (below_blk hW X0.out (by omega)) 3 rfl
            go_wp2
            exact hK.out _ (Below.refl _ _)
          apply grow_eq
          · intro V W K A hW hd hA hK
            simp only [putAll, List.getElem?_toArray, List.getElem?_cons_succ, List.getElem?_cons_zero, Option.bind_some, Act.put, List.setIfInBounds_toArray, List.set_cons_succ, List.set_cons_zero] at hA
            clear hd
            generalize V 0 = x0 at hA
            generalize V 1 = x1 at hA
            generalize V 2 = x2 at hA
            generalize V 3 = x3 at hA
            generalize V 4 = x4 at hA
            generalize V 5 = x5 at hA
            generalize V 6 = x6 at hA
            obtain rfl := hA
            go_wp2
            exact hK.out _ (Below.refl _ _)
          apply grow_eq
          · intro V W K A hW hd hA hK
            have d1 : V 1 = _ := hd 1 (by kernel_rfl)
            simp only [putAll, List.getElem?_toArray, List.getElem?_cons_succ, List.getElem?_cons_zero, Option.bind_some, Act.put, List.setIfInBounds_toArray, List.set_cons_succ, List.set_cons_zero] at hA
            clear hd
            generalize V 0 = x0 at hA
            generalize V 1 = x1 at d1 hA
            generalize V 2 = x2 at hA
            generalize V 3 = x3 at hA
            generalize V 4 = x4 at hA
            generalize V 5 = x5 at hA
            generalize V 6 = x6 at hA
            subst d1
            obtain rfl := hA
            have v0 := blk_cell (below_blk hW X1.out (by omega)) 0 rfl
            go_wp2
            exact hK.out _ (Below.refl _ _)
          apply grow_eq
          · intro V W K A hW hd hA hK
            simp only [putAll, List.getElem?_toArray, List.getElem?_cons_succ, List.getElem?_cons_zero, Option.bind_some, Act.put, List.setIfInBounds_toArray, List.set_cons_succ, List.set_cons_zero] at hA
            clear hd
            generalize V 0 = x0 at hA
            generalize V 1 = x1 at hA
            generalize V 2 = x2 at hA
            generalize V 3 = x3 at hA
            generalize V 4 = x4 at hA
            generalize V 5 = x5 at hA
            generalize V 6 = x6 at hA
            obtain rfl := hA
            go_wp2
            exact hK.out _ (Below.refl _ _)
          apply grow_eq
          · intro V W K A hW hd hA hK
            have d3 : V 3 = _ := hd 3 (by kernel_rfl)
            simp only [putAll, List.getElem?_toArray, List.getElem?_cons_succ, List.getElem?_cons_zero, Option.bind_some, Act.put, List.setIfInBounds_toArray, List.set_cons_succ, List.set_cons_zero] at hA
            clear hd
            generalize V 0 = x0 at hA
            generalize V 1 = x1 at hA
            generalize V 2 = x2 at hA
            generalize V 3 = x3 at d3 hA
            generalize V 4 = x4 at hA
            generalize V 5 = x5 at hA
            generalize V 6 = x6 at hA
            subst d3
            obtain rfl := hA
            go_wp2
            exact hK.out _ (Below.refl _ _)
          apply grow_eq
          · intro V W K A hW hd hA hK
            have d4 : V 4 = _ := hd 4 (by kernel_rfl)
            simp only [putAll, List.getElem?_toArray, List.getElem?_cons_succ, List.getElem?_cons_zero, Option.bind_some, Act.put, List.setIfInBounds_toArray, List.set_cons_succ, List.set_cons_zero] at hA
            clear hd
            generalize V 0 = x0 at hA
            generalize V 1 = x1 at hA
            generalize V 2 = x2 at hA
            generalize V 3 = x3 at hA
            generalize V 4 = x4 at d4 hA
            generalize V 5 = x5 at hA
            generalize V 6 = x6 at hA
            subst d4
            obtain rfl := hA
            go_wp2
            exact hK.out _ (Below.refl _ _)
          apply grow_eq
          · intro V W K A hW hd hA hK
            have d5 : V 5 = _ := hd 5 (by kernel_rfl)
            simp only [putAll, List.getElem?_toArray, List.getElem?_cons_succ, List.getElem?_cons_zero, Option.bind_some, Act.put, List.setIfInBounds_toArray, List.set_cons_succ, List.set_cons_zero] at hA
            clear hd
            generalize V 0 = x0 at hA
            generalize V 1 = x1 at hA
            generalize V 2 = x2 at hA
            generalize V 3 = x3 at hA
            generalize V 4 = x4 at hA
            generalize V 5 = x5 at d5 hA
            generalize V 6 = x6 at hA
            subst d5
            obtain rfl := hA
            have y0 := (HRF.out.below hW HRF.out.lt).cell HNUM.out
            go_wp2
            exact hK.out _ (Below.refl _ _)
          intro V W A hW hS hA
          have d0 : V 0 = _ := hS 0 (by omega)
          have d1 : V 1 = _ := hS 1 (by omega)
          have d2 : V 2 = _ := hS 2 (by omega)
          have d3 : V 3 = _ := hS 3 (by omega)
          have d4 : V 4 = _ := hS 4 (by omega)
          have d5 : V 5 = _ := hS 5 (by omega)
          have d6 : V 6 = _ := hS 6 (by omega)
          simp only [putAll, List.getElem?_toArray, List.getElem?_cons_succ, List.getElem?_cons_zero, Option.bind_some, Act.put, List.setIfInBounds_toArray, List.set_cons_succ, List.set_cons_zero] at hA
          clear hS
          generalize V 0 = x0 at d0 hA
          generalize V 1 = x1 at d1 hA
          generalize V 2 = x2 at d2 hA
          generalize V 3 = x3 at d3 hA
          generalize V 4 = x4 at d4 hA
          generalize V 5 = x5 at d5 hA
          generalize V 6 = x6 at d6 hA
          subst d0
          subst d1
          subst d2
          subst d3
          subst d4
          subst d5
          subst d6
          obtain rfl := hA
          simp only [List.drop_succ_cons, List.drop_zero]
          have hbW := hbw3.trans (hW.mono hbw3.size)
          go_wp2_with fail
          refine (HMC.out _ (hB.below hbW)).mono ?_
          rintro e w4 ⟨rfl, hb4⟩
          have hb34 : Below w3.heap.size w3 w4 := hW.trans (hb4.mono hW.size)
          have hbw4 := hbw3.trans (hb34.mono hbw3.size)
          have Y2 : Hid _ := below_blk hb34 X2.out (by omega)
          have Y3 : Hid _ := below_blk hb34 X3.out (by omega)
          have HR4 : Hid (RowIs w4 118 2 gF 1 capF (ensV [endOf best])) := HRF.out.below hb34 HRF.out.lt
          have hgF4 : gF < w4.heap.size := HR4.out.lt
          clear hb4 hW hbW X0 X1 X2 X3 HRF
          cases m
          · have HE : Hid (C = a0 s) := by unfold Hid; rw [HCD.out, if_neg (by omega), if_neg]; rw [HMM.out]; simp
            have q0 := blk_cell Y2.out 0 rfl
            have q1 := blk_cell Y2.out 1 rfl
            have q2 := blk_cell Y2.out 2 rfl
            have q3 := blk_cell Y2.out 3 rfl
            have q4 := blk_cell Y2.out 4 rfl
            have q5 := blk_cell Y2.out 5 rfl
            have q6 := blk_cell Y2.out 6 rfl
            have q7 := blk_cell Y2.out 7 rfl
            go_wp2_with (refine wpList_store_only rfl 59 (.tmp 6) (.tmp 70) rfl (w.heap.size + 1 + 1 + 1) 0 #[.string s.name, .int .i64 s.version, .int .i64 0, .int .i64 0, .int .i64 0, .bool false, .slice none 0 0, .bool false] rfl rfl 59 #[.string ⟨#[]⟩, .int .i64 0, .int .i64 0, .int .i64 0, .int .i64 0, .bool false, .slice none 0 0, .bool false] Y3.out Tryz.infosAct (Nat.le_of_ble_eq_true rfl) (by simp [Value.oneCell']) ?_; intro wf hz on; have RF : Hid (wf.heap[w.heap.size + 1 + 1 + 1]? = some (.cells #[.string s.name, .int .i64 s.version, .int .i64 0, .int .i64 0, .int .i64 0, .bool false, .slice none 0 0, .bool false] 59 (0, 0))) := hz; have hbf := hbw4.trans (on.below.mono (by omega)); clear hz on; have p0 := blk_cell RF.out 0 rfl; have p1 := blk_cell RF.out 1 rfl; have p2 := blk_cell RF.out 2 rfl; have p3 := blk_cell RF.out 3 rfl; have p4 := blk_cell RF.out 4 rfl; have p5 := blk_cell RF.out 5 rfl; have p6 := blk_cell RF.out 6 rfl; have p7 := blk_cell RF.out 7 rfl)
            refine bodyPost_ret (v := .agg #[.string s.name, .int .i64 s.version, .int .i64 0, .int .i64 0, .int .i64 0, .bool false, .slice none 0 0, .bool false]) (by simp [results, Tryz.results59, go_sem, p0, p1, p2, p3, p4, p5, p6, p7]) rfl ⟨_, rfl, ?_, hbf⟩
            rw [HE.out]
            exact isAct_a0 _ _ s
          · have HE : Hid (C = { a0 s with ends := [endOf best] }) := by unfold Hid; rw [HCD.out, if_neg (by omega), if_pos ⟨hgt, .inl HCM.out, HMM.out⟩, HFL.out]
            go_wp2_with (first
              | (refine wpList_store_one rfl 57 (.tmp 69) (.tmp 68) rfl (w.heap.size + 1 + 1) 6 (.slice (some ⟨gF, 0, none⟩) 1 capF) rfl rfl Tryz.infosEnds rfl rfl 59 #[.string s.name, .int .i64 s.version, .int .i64 0, .int .i64 0, .int .i64 0, .bool false, .slice none 0 0, .bool false] Y2.out (Nat.le_of_ble_eq_true rfl) ?_; intro w5 hz on; have Z2 : Hid (w5.heap[w.heap.size + 1 + 1]? = some (.cells #[.string s.name, .int .i64 s.version, .int .i64 0, .int .i64 0, .int .i64 0, .bool false, .slice (some ⟨gF, 0, none⟩) 1 capF, .bool false] 59 (0, 0))) := hz; have Z3 : Hid _ := (on.other (w.heap.size + 1 + 1 + 1) (by omega)).trans Y3.out; have hbw5 := hbw4.trans (on.below.mono (by omega)); have HR5 : Hid (RowIs w5 118 2 gF 1 capF (ensV [endOf best])) := HR4.out.blk (on.other gF (by omega)); clear hz on; have q0 := blk_cell Z2.out 0 rfl; have q1 := blk_cell Z2.out 1 rfl; have q2 := blk_cell Z2.out 2 rfl; have q3 := blk_cell Z2.out 3 rfl; have q4 := blk_cell Z2.out 4 rfl; have q5 := blk_cell Z2.out 5 rfl; have q6 := blk_cell Z2.out 6 rfl; have q7 := blk_cell Z2.out 7 rfl)
              | (refine wpList_store_only rfl 59 (.tmp 6) (.tmp 70) rfl (w.heap.size + 1 + 1 + 1) 0 #[.string s.name, .int .i64 s.version, .int .i64 0, .int .i64 0, .int .i64 0, .bool false, .slice (some ⟨gF, 0, none⟩) 1 capF, .bool false] rfl rfl 59 #[.string ⟨#[]⟩, .int .i64 0, .int .i64 0, .int .i64 0, .int .i64 0, .bool false, .slice none 0 0, .bool false] Z3.out Tryz.infosAct (Nat.le_of_ble_eq_true rfl) (by simp [Value.oneCell']) ?_; intro wf hz on; have RF : Hid (wf.heap[w.heap.size + 1 + 1 + 1]? = some (.cells #[.string s.name, .int .i64 s.version, .int .i64 0, .int .i64 0, .int .i64 0, .bool false, .slice (some ⟨gF, 0, none⟩) 1 capF, .bool false] 59 (0, 0))) := hz; have hbf := hbw5.trans (on.below.mono (by omega)); have HR6 : Hid (RowIs wf 118 2 gF 1 capF (ensV [endOf best])) := HR5.out.blk (on.other gF (by omega)); clear hz on; have p0 := blk_cell RF.out 0 rfl; have p1 := blk_cell RF.out 1 rfl; have p2 := blk_cell RF.out 2 rfl; have p3 := blk_cell RF.out 3 rfl; have p4 := blk_cell RF.out 4 rfl; have p5 := blk_cell RF.out 5 rfl; have p6 := blk_cell RF.out 6 rfl; have p7 := blk_cell RF.out 7 rfl))
            refine bodyPost_ret (v := .agg #[.string s.name, .int .i64 s.version, .int .i64 0, .int .i64 0, .int .i64 0, .bool false, .slice (some ⟨gF, 0, none⟩) 1 capF, .bool false]) (by simp [results, Tryz.results59, go_sem, p0, p1, p2, p3, p4, p5, p6, p7]) rfl ⟨_, rfl, ?_, hbf⟩
            rw [HE.out]
            exact ⟨some ⟨gF, 0, none⟩, capF, rfl, HR6.out.slEn (by omega)⟩
      · have HE : Hid (C = a0 s) := by unfold Hid; rw [HCD.out, if_neg (by omega), if_neg (fun h => hgt h.1)]
        have q0 := blk_cell V2.out 0 rfl
        have q1 := blk_cell V2.out 1 rfl
        have q2 := blk_cell V2.out 2 rfl
        have q3 := blk_cell V2.out 3 rfl
        have q4 := blk_cell V2.out 4 rfl
        have q5 := blk_cell V2.out 5 rfl
        have q6 := blk_cell V2.out 6 rfl
        have q7 := blk_cell V2.out 7 rfl
        go_wp2_with (refine wpList_store_only rfl 59 (.tmp 6) (.tmp 70) rfl (w.heap.size + 1 + 1 + 1) 0 #[.string s.name, .int .i64 s.version, .int .i64 0, .int .i64 0, .int .i64 0, .bool false, .slice none 0 0, .bool false] rfl rfl 59 #[.string ⟨#[]⟩, .int .i64 0, .int .i64 0, .int .i64 0, .int .i64 0, .bool false, .slice none 0 0, .bool false] V3.out Tryz.infosAct (Nat.le_of_ble_eq_true rfl) (by simp [Value.oneCell']) ?_; intro wf hz on; have RF : Hid (wf.heap[w.heap.size + 1 + 1 + 1]? = some (.cells #[.string s.name, .int .i64 s.version, .int .i64 0, .int .i64 0, .int .i64 0, .bool false, .slice none 0 0, .bool false] 59 (0, 0))) := hz; have hbf := hbwx.trans (on.below.mono (by omega)); clear hz on; have p0 := blk_cell RF.out 0 rfl; have p1 := blk_cell RF.out 1 rfl; have p2 := blk_cell RF.out 2 rfl; have p3 := blk_cell RF.out 3 rfl; have p4 := blk_cell RF.out 4 rfl; have p5 := blk_cell RF.out 5 rfl; have p6 := blk_cell RF.out 6 rfl; have p7 := blk_cell RF.out 7 rfl)
        refine bodyPost_ret (v := .agg #[.string s.name, .int .i64 s.version, .int .i64 0, .int .i64 0, .int .i64 0, .bool false, .slice none 0 0, .bool false]) (by simp [results, Tryz.results59, go_sem, p0, p1, p2, p3, p4, p5, p6, p7]) rfl ⟨_, rfl, ?_, hbf⟩
        rw [HE.out]
        exact isAct_a0 _ _ s

end Go.Proofs.YtbceafpodamnfabGreat
