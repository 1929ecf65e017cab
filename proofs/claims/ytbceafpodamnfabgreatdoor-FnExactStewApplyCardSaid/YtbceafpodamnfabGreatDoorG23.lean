/-
  My own: Rs, Rt, Ru.
-/
import Derived.Test.YtbceafpodamnfabGreatDoorG22
import Derived.Test.YtbceafpodamnfabGreatDoorG05
set_option linter.unusedVariables false
set_option linter.unusedSimpArgs false
namespace Go.Proofs.YtbceafpodamnfabGreatDoor
open Go.RowKit Go.Sort
def codeL (B : Bk) (A : Ac) : Int := match early B A with
  | some c => c
  | none => match svcOf B A.service with
    | none => 3
    | some s => match marks B s A.service (B.now + 1) A.ends B.cps with
      | none => 5
      | some L => lateOf B A s L
def doneOf (B : Bk) (A : Ac) : Bk := match svcOf B A.service with
  | none => B
  | some s => match marks B s A.service (B.now + 1) A.ends B.cps with
    | none => B
    | some L => doneB B A s L (idxS B.svcs A.service).toNat
theorem early_none {B : Bk} {A : Ac} (h : early B A = none) : actOkB A = true ∧ ∃ s, svcOf B A.service = some s ∧ A.ends.all (endIn B A) = true ∧ s.version = A.seen ∧ A.ends.all (endSeen B A) = true := by
  unfold early at h
  split at h
  · rename_i hok
    refine ⟨hok, ?_⟩
    split at h
    · cases h
    · rename_i s hs
      split at h
      · rename_i hin
        split at h
        · rename_i hv
          split at h
          · rename_i hes
            exact ⟨s, hs, hin, eq_of_beq hv, hes⟩
          · cases h
        · cases h
      · cases h
  · cases h
theorem act_create {A : Ac} (h : actOkB A = true) : 0 ≤ A.create ∧ A.create ≤ 20 := by
  unfold actOkB at h
  simp only [Bool.and_eq_true] at h
  exact inB_iff.1 h.1.1.1.1
theorem act_want {A : Ac} (h : actOkB A = true) : Hid (A.scale = true → 0 ≤ A.want ∧ A.want ≤ 10) := fun hs => by
  unfold actOkB at h
  simp only [Bool.and_eq_true] at h
  have h2 := h.1.2
  rw [if_pos hs, Bool.and_eq_true] at h2
  exact inB_iff.1 h2.1
theorem early_ne {B : Bk} {A : Ac} {c : Int} (h : early B A = some c) : c ≠ 0 := by
  unfold early at h
  split at h
  · split at h
    · cases h; decide
    · split at h
      · split at h
        · split at h
          · cases h
          · cases h; decide
        · cases h; decide
      · cases h; decide
  · cases h; decide
def appliedL (B : Bk) (A : Ac) : Bk := if codeL B A = 0 then doneOf B A else B
theorem l4Apply_any (B : Bk) (A : Ac) (a1 a2 a3 : Option Addr) (c1 c2 c3 : Nat) (ae : Option Addr) (ce : Nat) (w : World) (hV : Valid B) (hS : B.small) (hB : BkAt w a1 a2 a3 B) (hl : A.ends.length ≤ 1048576) (hE : SlE w ae A.ends) :
    Calls Tryz.prog 40 #[.agg #[.int .i64 B.now, .slice a1 B.svcs.length c1, .slice a2 B.cps.length c2, .slice a3 B.bts.length c3], .agg #[.string A.service, .int .i64 A.seen, .int .i64 A.create, .int .i64 A.want, .int .i64 A.cool, .bool A.scale, .slice ae A.ends.length ce, .bool A.drop]] w fun e w' =>
      ((∃ c : Int, e = .returned (.tuple #[.agg #[.int .i64 B.now, .slice a1 B.svcs.length c1, .slice a2 B.cps.length c2, .slice a3 B.bts.length c3], .int .i64 c]) ∧ c ≠ 0 ∧ codeL B A = c) ∨
       (∃ g1 n1 k1 g2 n2 k2 g3 k3 : Nat, e = .returned (.tuple #[.agg #[.int .i64 (B.now + 1), .slice (some ⟨g1, 0, none⟩) n1 k1, .slice (some ⟨g2, 0, none⟩) n2 k2, .slice (some ⟨g3, 0, none⟩) B.bts.length k3], .int .i64 0]) ∧ codeL B A = 0 ∧ n1 = (doneOf B A).svcs.length ∧ n2 = (doneOf B A).cps.length ∧ BkRow w' w.heap.size g1 g2 g3 k1 k2 k3 (doneOf B A))) ∧ Below w.heap.size w w' := by
  cases he : early B A with
  | some c =>
    refine (l4Apply_early B A c a1 a2 a3 c1 c2 c3 ae ce w hS hB hl hE he).mono fun e w' ⟨h, hb⟩ => ⟨.inl ⟨c, h, early_ne he, ?_⟩, hb⟩
    unfold codeL
    rw [he]
  | none =>
    obtain ⟨hok, s, hs, hin, hv, hes⟩ := early_none he
    have hsi := hV.svcIn (svcOf_mem hs)
    obtain ⟨hn0, hn1⟩ := inB_iff.1 hV.now
    obtain ⟨MM, hm⟩ : ∃ M, marks B s A.service (B.now + 1) A.ends B.cps = M := ⟨_, rfl⟩
    have hc0 := act_create hok
    refine (l4Apply_end B A A.create.toNat (Int.toNat_of_nonneg hc0.1).symm (act_want hok) hV.ls s MM a1 a2 a3 c1 c2 c3 ae ce w hS hB hl hE hok hs hin hv hes hsi hc0.1 hc0.2 hn0 hn1 hm).mono fun e w' ⟨h, hb⟩ => ⟨?_, hb⟩
    rcases h with ⟨rfl, h⟩ | ⟨L, rfl, h⟩
    · refine .inl ⟨5, h, by decide, ?_⟩
      unfold codeL
      rw [he]
      simp only [hs, hm]
    · have hcL : codeL B A = lateOf B A s L := by
        unfold codeL
        rw [he]
        simp only [hs, hm]
      rcases h with ⟨c, h1, h0, h2⟩ | ⟨k, g1, n1, k1, g2, n2, k2, g3, k3, h1, h2, h3, h4, h5, h6, h7⟩
      · exact .inl ⟨c, h1, h0, by rw [hcL]; exact h2⟩
      · have hd : doneOf B A = doneB B A s L k := by
          unfold doneOf
          simp only [hs, hm, h4, Int.toNat_natCast]
        exact .inr ⟨g1, n1, k1, g2, n2, k2, g3, k3, h1, by rw [hcL]; exact h2, by rw [hd]; exact h5, by rw [hd]; exact h6, by rw [hd]; exact h7⟩
theorem doneOf_now {B : Bk} {A : Ac} (h : codeL B A = 0) : (doneOf B A).now = B.now + 1 ∧ (doneOf B A).bts = B.bts := by
  unfold codeL at h
  unfold doneOf
  cases he : early B A with
  | some c => rw [he] at h; exact absurd h (early_ne he)
  | none =>
    rw [he] at h
    obtain ⟨_, s, hs, _⟩ := early_none he
    simp only [hs] at h ⊢
    cases hm : marks B s A.service (B.now + 1) A.ends B.cps with
    | none => simp only [hm] at h; exact absurd h (by decide)
    | some L => exact ⟨rfl, rfl⟩
theorem l4Apply_one (B : Bk) (A : Ac) (a1 a2 a3 : Option Addr) (c1 c2 c3 : Nat) (ae : Option Addr) (ce : Nat) (w : World) (hV : Valid B) (hS : B.small) (hB : BkAt w a1 a2 a3 B) (hl : A.ends.length ≤ 1048576) (hE : SlE w ae A.ends) :
    Calls Tryz.prog 40 #[.agg #[.int .i64 B.now, .slice a1 B.svcs.length c1, .slice a2 B.cps.length c2, .slice a3 B.bts.length c3], .agg #[.string A.service, .int .i64 A.seen, .int .i64 A.create, .int .i64 A.want, .int .i64 A.cool, .bool A.scale, .slice ae A.ends.length ce, .bool A.drop]] w fun e w' =>
      (∃ (x1 x2 x3 : Option Addr) (d1 d2 d3 : Nat), e = .returned (.tuple #[.agg #[.int .i64 (appliedL B A).now, .slice x1 (appliedL B A).svcs.length d1, .slice x2 (appliedL B A).cps.length d2, .slice x3 (appliedL B A).bts.length d3], .int .i64 (codeL B A)]) ∧ BkAt w' x1 x2 x3 (appliedL B A)) ∧ Below w.heap.size w w' := by
  refine (l4Apply_any B A a1 a2 a3 c1 c2 c3 ae ce w hV hS hB hl hE).mono fun e w' ⟨h, hb⟩ => ⟨?_, hb⟩
  rcases h with ⟨c, h1, h0, h2⟩ | ⟨g1, n1, k1, g2, n2, k2, g3, k3, h1, h2, h3, h4, h5⟩
  · have e1 : appliedL B A = B := by unfold appliedL; rw [if_neg (by rw [h2]; exact h0)]
    rw [e1]
    exact ⟨a1, a2, a3, c1, c2, c3, by rw [h1, h2], hB.below hb⟩
  · have e1 : appliedL B A = doneOf B A := by unfold appliedL; rw [if_pos h2]
    obtain ⟨en, eb⟩ := doneOf_now h2
    rw [e1]
    exact ⟨some ⟨g1, 0, none⟩, some ⟨g2, 0, none⟩, some ⟨g3, 0, none⟩, k1, k2, k3, by rw [h1, h2, h3, h4, en, eb], ⟨h5.svcs.slS, h5.cps.slC, h5.bts.slB⟩⟩
end Go.Proofs.YtbceafpodamnfabGreatDoor

namespace Go.Proofs.YtbceafpodamnfabGreatDoor
open Go.RowKit Go.Sort
set_option maxRecDepth 100000 in
set_option maxHeartbeats 8000000 in
theorem specApply_any (B : Bk) (A : Ac) (a1 a2 a3 : Option Addr) (c1 c2 c3 : Nat) (ae : Option Addr) (ce : Nat) (w : World) (hS : B.small) (hZ : B.sized) (hSx : Valid B → (appliedL B A).small) (hB : BkAt w a1 a2 a3 B) (hl : A.ends.length ≤ 1048576) (hE : SlE w ae A.ends) :
    Calls Tryz.prog 9 #[.agg #[.int .i64 B.now, .slice a1 B.svcs.length c1, .slice a2 B.cps.length c2, .slice a3 B.bts.length c3], .agg #[.string A.service, .int .i64 A.seen, .int .i64 A.create, .int .i64 A.want, .int .i64 A.cool, .bool A.scale, .slice ae A.ends.length ce, .bool A.drop]] w fun e w' =>
      ((validB B = false ∧ e = .returned (.tuple #[.agg #[.int .i64 0, .slice none 0 0, .slice none 0 0, .slice none 0 0], .int .i64 1])) ∨
       (validB B = true ∧ ∃ g1 k1 g2 k2 g3 k3, e = .returned (.tuple #[.agg #[.int .i64 (appliedL B A).now, .slice (some ⟨g1, 0, none⟩) (appliedL B A).svcs.length k1, .slice (some ⟨g2, 0, none⟩) (appliedL B A).cps.length k2, .slice (some ⟨g3, 0, none⟩) (appliedL B A).bts.length k3], .int .i64 (codeL B A)]) ∧ BkRow w' w.heap.size g1 g2 g3 k1 k2 k3 (appliedL B A))) ∧ Below w.heap.size w w' := by
  obtain ⟨t0, t1, t2, t3⟩ := three_new w (.cells #[.int .i64 B.now, .slice a1 B.svcs.length c1, .slice a2 B.cps.length c2, .slice a3 B.bts.length c3] 36) (.cells #[.string A.service, .int .i64 A.seen, .int .i64 A.create, .int .i64 A.want, .int .i64 A.cool, .bool A.scale, .slice ae A.ends.length ce, .bool A.drop] 42) (.cells #[.int .i64 0, .slice none 0 0, .slice none 0 0, .slice none 0 0] 36)
  obtain ⟨W0, hW0⟩ : ∃ W, ((w.alloc (.cells #[.int .i64 B.now, .slice a1 B.svcs.length c1, .slice a2 B.cps.length c2, .slice a3 B.bts.length c3] 36)).alloc (.cells #[.string A.service, .int .i64 A.seen, .int .i64 A.create, .int .i64 A.want, .int .i64 A.cool, .bool A.scale, .slice ae A.ends.length ce, .bool A.drop] 42)).alloc (.cells #[.int .i64 0, .slice none 0 0, .slice none 0 0, .slice none 0 0] 36) = W := ⟨_, rfl⟩
  have hb0 : Below w.heap.size w W0 := by rw [← hW0]; exact (((Below.refl _ _).alloc (Nat.le_refl _) _).alloc (by simp) _).alloc (by simp; omega) _
  rw [hW0] at t0 t1 t2 t3
  have T0 : Hid _ := t0
  have T1 : Hid _ := t1
  have T2 : Hid _ := t2
  have e0 := blk_cell t0 0 rfl
  have e1 := blk_cell t0 1 rfl
  have e2 := blk_cell t0 2 rfl
  have e3 := blk_cell t0 3 rfl
  clear t0 t1 t2 t3
  go_enter Tryz.func9, Tryz.ntmps9
  go_wp2_with fail
  clear hW0
  refine (specValid_any B a1 a2 a3 c1 c2 c3 _ hS hZ (hB.below hb0)).mono ?_
  rintro e w1 ⟨rfl, hq1⟩
  have hb1 := hb0.trans (hq1.mono hb0.size)
  have U0 : Hid _ := blk_up hq1 T0.out
  have U1 : Hid _ := blk_up hq1 T1.out
  have U2 : Hid _ := blk_up hq1 T2.out
  clear T0 T1 T2 e0 e1 e2 e3 hq1 hb0
  cases hv : validB B
  · have HV : Hid _ := hv
    go_wp2_with (first | ((with_reducible show wpList _ _ _ _ _ _); refine wpList_store_only rfl 36 (.tmp 4) (.tmp 11) rfl (w.heap.size + 1 + 1) 0 #[.int .i64 0, .slice none 0 0, .slice none 0 0, .slice none 0 0] rfl rfl 36 #[.int .i64 0, .slice none 0 0, .slice none 0 0, .slice none 0 0] U2.out Tryz.infosBookR (Nat.le_of_ble_eq_true rfl) (by simp [Value.oneCell']) ?_; intro wf hz on; have RF : Hid (wf.heap[w.heap.size + 1 + 1]? = some (.cells #[.int .i64 0, .slice none 0 0, .slice none 0 0, .slice none 0 0] 36 (0, 0))) := hz; have hbf := hb1.trans (on.below.mono (by omega)); clear hz on; have p0 := blk_cell RF.out 0 rfl; have p1 := blk_cell RF.out 1 rfl; have p2 := blk_cell RF.out 2 rfl; have p3 := blk_cell RF.out 3 rfl))
    exact bodyPost_ret (v := .tuple #[.agg #[.int .i64 0, .slice none 0 0, .slice none 0 0, .slice none 0 0], .int .i64 1]) (by simp [results, Tryz.results9, go_sem, p0, p1, p2, p3]) rfl ⟨.inl ⟨HV.out, rfl⟩, hbf⟩
  · have HV : Hid _ := hv
    have hV := validB_iff.1 hv
    have hSX := hSx hV
    have e0 := blk_cell U0.out 0 rfl
    have e1 := blk_cell U0.out 1 rfl
    have e2 := blk_cell U0.out 2 rfl
    have e3 := blk_cell U0.out 3 rfl
    have f0 := blk_cell U1.out 0 rfl
    have f1 := blk_cell U1.out 1 rfl
    have f2 := blk_cell U1.out 2 rfl
    have f3 := blk_cell U1.out 3 rfl
    have f4 := blk_cell U1.out 4 rfl
    have f5 := blk_cell U1.out 5 rfl
    have f6 := blk_cell U1.out 6 rfl
    have f7 := blk_cell U1.out 7 rfl
    go_wp2_with fail
    refine (l4Apply_one B A a1 a2 a3 c1 c2 c3 ae ce _ hV hS (hB.below hb1) hl (hE.below hb1)).mono ?_
    rintro e w2 ⟨⟨x1, x2, x3, d1, d2, d3, rfl, hX⟩, hq2⟩
    clear e0 e1 e2 e3 f0 f1 f2 f3 f4 f5 f6 f7
    obtain ⟨X, HX⟩ : ∃ X, Hid (appliedL B A = X) := ⟨_, rfl⟩
    obtain ⟨c, HC⟩ : ∃ c, Hid (codeL B A = c) := ⟨_, rfl⟩
    rw [HX.out] at hX hSX
    rw [HX.out, HC.out]
    have hb2 := hb1.trans (hq2.mono hb1.size)
    have hl2 : w.heap.size + 1 + 1 < w1.heap.size := (Array.getElem?_eq_some_iff.1 U2.out).1
    have hz12 := hq2.size
    have V2 : Hid _ := blk_up hq2 U2.out
    obtain ⟨w3, hw3⟩ : ∃ W, w2.alloc (.cells #[.int .i64 X.now, .slice x1 X.svcs.length d1, .slice x2 X.cps.length d2, .slice x3 X.bts.length d3] 36) = W := ⟨_, rfl⟩
    have hq3 : Below w2.heap.size w2 w3 := hw3 ▸ below_box w2 _
    have Y3 : Hid _ := heap_alloc_new w2 (.cells #[.int .i64 X.now, .slice x1 X.svcs.length d1, .slice x2 X.cps.length d2, .slice x3 X.bts.length d3] 36)
    rw [hw3] at Y3
    have hb3 := hb2.trans (hq3.mono hb2.size)
    have V3 : Hid _ := blk_up hq3 V2.out
    have hX3 := hX.below hq3
    have g0 := blk_cell Y3.out 0 rfl
    have g1 := blk_cell Y3.out 1 rfl
    have g2 := blk_cell Y3.out 2 rfl
    have g3 := blk_cell Y3.out 3 rfl
    clear V2 U0 U1 U2 hq2 hX
    go_wp2_with fail
    refine (l1Book_own X x1 x2 x3 d1 d2 d3 _ hSX hX3).mono ?_
    rintro e w4 ⟨y1, k1, y2, k2, y3, k3, rfl, hr, hq4⟩
    have hb4 := hb3.trans (hq4.mono hb3.size)
    have V4 : Hid _ := blk_up hq4 V3.out
    clear g0 g1 g2 g3 V3 hw3 Y3
    have hz3 : w.heap.size + 1 + 1 < w3.heap.size := Nat.lt_of_lt_of_le hl2 (Nat.le_trans hz12 hq3.size)
    have hy1 := hr.n1
    have hy2 := hr.n2
    have hy3 := hr.n3
    go_wp2_with (first | ((with_reducible show wpList _ _ _ _ _ _); refine wpList_store_only rfl 36 (.tmp 4) (.tmp 19) rfl (w.heap.size + 1 + 1) 0 #[.int .i64 X.now, .slice (some ⟨y1, 0, none⟩) X.svcs.length k1, .slice (some ⟨y2, 0, none⟩) X.cps.length k2, .slice (some ⟨y3, 0, none⟩) X.bts.length k3] rfl rfl 36 #[.int .i64 0, .slice none 0 0, .slice none 0 0, .slice none 0 0] V4.out Tryz.infosBookR (Nat.le_of_ble_eq_true rfl) (by simp [Value.oneCell']) ?_; intro wf hz on; have RF : Hid (wf.heap[w.heap.size + 1 + 1]? = some (.cells #[.int .i64 X.now, .slice (some ⟨y1, 0, none⟩) X.svcs.length k1, .slice (some ⟨y2, 0, none⟩) X.cps.length k2, .slice (some ⟨y3, 0, none⟩) X.bts.length k3] 36 (0, 0))) := hz; have hbf := hb4.trans (on.below.mono (by omega)); have hrf : BkRow wf w.heap.size y1 y2 y3 k1 k2 k3 X := ⟨by omega, by omega, by omega, hr.svcs.blk (on.other _ (by omega)), hr.cps.blk (on.other _ (by omega)), hr.bts.blk (on.other _ (by omega))⟩; clear hz on; have p0 := blk_cell RF.out 0 rfl; have p1 := blk_cell RF.out 1 rfl; have p2 := blk_cell RF.out 2 rfl; have p3 := blk_cell RF.out 3 rfl))
    exact bodyPost_ret (v := .tuple #[.agg #[.int .i64 X.now, .slice (some ⟨y1, 0, none⟩) X.svcs.length k1, .slice (some ⟨y2, 0, none⟩) X.cps.length k2, .slice (some ⟨y3, 0, none⟩) X.bts.length k3], .int .i64 c]) (by simp [results, Tryz.results9, go_sem, p0, p1, p2, p3]) rfl ⟨.inr ⟨HV.out, y1, k1, y2, k2, y3, k3, by rw [HX.out, HC.out], by rw [HX.out]; exact hrf⟩, hbf⟩
end Go.Proofs.YtbceafpodamnfabGreatDoor

namespace Go.Proofs.YtbceafpodamnfabGreatDoor
open Go.RowKit Go.Sort
theorem markAt_len (sv : ByteArray) (v : Int) (l : List Cp) (num : Int) : (markAt sv v l num).length = l.length := by
  unfold markAt
  split
  · split
    · rw [List.length_set]
    · rfl
  · rfl
theorem marks_len (B : Bk) (s : Svc) (sv : ByteArray) (v : Int) : ∀ (es : List En) (l L : List Cp), marks B s sv v es l = some L → L.length = l.length
  | [], l, L, h => by cases h; rfl
  | e :: es, l, L, h => by
    unfold marks at h
    split at h
    · split at h
      · rw [marks_len B s sv v es _ L h, markAt_len]
      · cases h
    · cases h
theorem applied_small {B : Bk} (A : Ac) (hV : Valid B) (hS : B.small) : (appliedL B A).small := by
  unfold appliedL
  by_cases hcode : codeL B A = 0
  · rw [if_pos hcode]
    unfold doneOf
    split
    · exact hS
    · rename_i s hs
      split
      · exact hS
      · rename_i L hm
        have hL := marks_len _ _ _ _ _ _ _ hm
        have h1 := hV.ls
        have h2 := hV.lc
        have h3 := hV.lb
        have hcr : A.create.toNat ≤ 20 := by
          cases he : early B A with
          | some c =>
            unfold codeL at hcode
            rw [he] at hcode
            exact absurd hcode (early_ne he)
          | none =>
            have := act_create (early_none he).1
            omega
        refine ⟨?_, ?_, ?_⟩
        · show (doneSvcs B A s _).length ≤ _
          unfold doneSvcs
          split
          · rw [List.length_append, List.length_take, List.length_drop]; omega
          · rw [List.length_set]; omega
        · show (putN B A s L A.create.toNat).length ≤ _
          rw [putN_len, hL]; omega
        · show B.bts.length ≤ _
          omega
  · rw [if_neg hcode]
    exact hS
theorem specApply_all (B : Bk) (A : Ac) (a1 a2 a3 : Option Addr) (c1 c2 c3 : Nat) (ae : Option Addr) (ce : Nat) (w : World) (hS : B.small) (hZ : B.sized) (hB : BkAt w a1 a2 a3 B) (hl : A.ends.length ≤ 1048576) (hE : SlE w ae A.ends) :
    Calls Tryz.prog 9 #[.agg #[.int .i64 B.now, .slice a1 B.svcs.length c1, .slice a2 B.cps.length c2, .slice a3 B.bts.length c3], .agg #[.string A.service, .int .i64 A.seen, .int .i64 A.create, .int .i64 A.want, .int .i64 A.cool, .bool A.scale, .slice ae A.ends.length ce, .bool A.drop]] w fun e w' =>
      ((validB B = false ∧ e = .returned (.tuple #[.agg #[.int .i64 0, .slice none 0 0, .slice none 0 0, .slice none 0 0], .int .i64 1])) ∨
       (validB B = true ∧ ∃ g1 k1 g2 k2 g3 k3, e = .returned (.tuple #[.agg #[.int .i64 (appliedL B A).now, .slice (some ⟨g1, 0, none⟩) (appliedL B A).svcs.length k1, .slice (some ⟨g2, 0, none⟩) (appliedL B A).cps.length k2, .slice (some ⟨g3, 0, none⟩) (appliedL B A).bts.length k3], .int .i64 (codeL B A)]) ∧ BkRow w' w.heap.size g1 g2 g3 k1 k2 k3 (appliedL B A))) ∧ Below w.heap.size w w' :=
  specApply_any B A a1 a2 a3 c1 c2 c3 ae ce w hS hZ (fun hV => applied_small A hV hS) hB hl hE
end Go.Proofs.YtbceafpodamnfabGreatDoor
