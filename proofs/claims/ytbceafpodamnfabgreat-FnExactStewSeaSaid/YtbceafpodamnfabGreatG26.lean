/-
  My own: Xd, Xi.
-/
import Derived.Test.YtbceafpodamnfabGreatG05
import Derived.Test.YtbceafpodamnfabGreatG06
import Derived.Test.YtbceafpodamnfabGreatG09
set_option linter.unusedVariables false
set_option linter.unusedSimpArgs false
namespace Go.Proofs.YtbceafpodamnfabGreat
open Go.RowKit Go.Sort
theorem Tryz.infoBtX : (Tryz.prog.info? 86).map (fun i => (i.zero, i.size, i.bytes)) = some (some (.agg #[.string ⟨#[]⟩, .bool false]), 2, 24) := by kernel_rfl
theorem Tryz.infosBtsX : (Tryz.prog.info? 32).map (·.size) = some 1 := by kernel_rfl
set_option maxRecDepth 100000 in
set_option maxHeartbeats 32000000 in
theorem l6Raise_any (B : Bk) (nm : ByteArray) (dr : Bool) (a1 a2 : Option Addr) (c1 c2 g3 k3 n3 : Nat) (w : World) (hS : B.small) (HN3 : Hid (B.bts.length = n3)) (hR : RowIs w 86 2 g3 n3 k3 (btsV B.bts)) :
  Calls Tryz.prog 87 #[.agg #[.int .i64 B.now, .slice a1 B.svcs.length c1, .slice a2 B.cps.length c2, .slice (some ⟨g3, 0, none⟩) n3 k3], .string nm, .bool dr] w fun e w' => ∃ g n cap, e = .returned (.agg #[.int .i64 B.now, .slice a1 B.svcs.length c1, .slice a2 B.cps.length c2, .slice (some ⟨g, 0, none⟩) n cap]) ∧ Hid (n = (raiseB B nm dr).bts.length) ∧ w.heap.size ≤ g ∧ Hid (RowIs w' 86 2 g n cap (btsV (raiseB B nm dr).bts)) ∧ Below w.heap.size w w' := by
 obtain ⟨hl1, hl2, hl3⟩ := hS
 rw [HN3.out] at hl3
 have hcap := hR.2.1
 have hg3 := hR.lt
 obtain ⟨W0, hW0, t0, t1, hz0, hz0', hb0⟩ := two_newV w (.cells #[.int .i64 B.now, .slice a1 B.svcs.length c1, .slice a2 B.cps.length c2, .slice (some ⟨g3, 0, none⟩) n3 k3] 34) (.cells #[.int .i64 0, .slice none 0 0, .slice none 0 0, .slice none 0 0] 34)
 have T0 : Hid _ := t0
 have T1 : Hid _ := t1
 have HR : Hid (RowIs W0 86 2 g3 n3 k3 (btsV B.bts)) := hR.below hb0 hg3
 have hg3' : g3 < W0.heap.size := by omega
 clear t0 t1 hR
 go_enter Tryz.func87, Tryz.ntmps87
 go_upto_region 1 with fail
 clear hW0
 have e3 := blk_cell T0.out 3 rfl
 go_wp2
 go_loopw [7] (fun iv wr => ∃ k : Nat, k ≤ n3 ∧ iv = .int .i64 k ∧ W0 = wr ∧ Hid (∀ (i : Nat) s, i < k → B.bts[i]? = some s → Op.bytesLess s.name.toList nm.toList = true)) (fun i _ => n3 - (intOf i).toNat)
 case atStart => exact ⟨0, by omega, rfl, rfl, fun i s hi => absurd hi (by omega)⟩
 case round =>
  obtain ⟨k, hk, rfl, rfl, HA⟩ := hrel
  have HKN : Hid (k ≤ B.bts.length) := by unfold Hid; rw [HN3.out]; exact hk
  by_cases hlt : k < n3
  ·obtain ⟨s, hsk⟩ : ∃ s, B.bts[k]? = some s := ⟨B.bts[k]'(by rw [HN3.out]; exact hlt), by simp [HN3.out, hlt]⟩
   have HSK : Hid (B.bts[k]? = some s) := hsk
   have y0 := HR.out.cell (flat_at (c := Bt.cells) (n := 2) (fun _ => rfl) B.bts k s 0 (.string s.name) hsk rfl)
   have y0' : W0.cell? ⟨g3, k * 2, none⟩ = some (.string s.name) := y0
   clear hsk y0
   cases hle : Op.bytesLess s.name.toList nm.toList
   ·have HK : Hid (aheadK (fun t => Op.bytesLess (btNm t) (btNm ⟨nm, dr⟩)) B.bts = k) := aheadK_is HKN.out HA.out fun t ht => by rw [HSK.out] at ht; cases ht; exact hle
    cases hq : (s.name.toList == nm.toList)
    ·have HPUT : Hid ((raiseB B nm dr).bts = B.bts.take k ++ ⟨nm, dr⟩ :: B.bts.drop k) := putIn_other HK.out HSK.out hq
     have HTK : Hid ((B.bts.take k).length = k) := by unfold Hid; rw [List.length_take]; have := HKN.out; omega
     have SRT : Hid (∀ W : World, Below W0.heap.size W0 W → ∀ j u, (btsV (B.bts.take k))[j]? = some u → W.cell? ((⟨g3, 0, none⟩ : Addr).add j) = some u) := fun W hW => (HR.out.below hW hg3').srcTake (c := Bt.cells) (fun _ => rfl) k
     have SRD : Hid (∀ W : World, Below W0.heap.size W0 W → ∀ off, off = (k) * 2 ∨ ((B.bts.drop k)).length = 0 → ∀ j u, (btsV ((B.bts.drop k)))[j]? = some u → W.cell? ((⟨g3, off, none⟩ : Addr).add j) = some u) := fun W hW off ho => by
      rcases ho with ho | ho
      ·rw [ho]; exact (HR.out.below hW hg3').srcDrop (c := Bt.cells) (fun _ => rfl) (k)
      ·intro j u hu; rw [List.length_eq_zero_iff.1 ho] at hu; simp [btsV] at hu
     have hrl : ((B.bts.drop k)).length = n3 - k := by rw [List.length_drop, HN3.out]; (try omega)
     obtain ⟨W7, hW7⟩ : ∃ W, W0.alloc (.cells #[] 86) = W := ⟨_, rfl⟩
     have hb7a := below_box W0 (.cells #[] 86)
     have R43 : Hid _ := RowIs.new W0 86 2
     have hz7a : W0.heap.size < (W0.alloc (.cells #[] 86)).heap.size := by simp
     rw [hW7] at hb7a R43 hz7a
     have e3b := blk_cell (below_blk hb7a T0.out (by omega)) 3 rfl
     go_wp2_with (first
      | (at_builtin; refine wpList_append_row rfl (.tmp 43) (.tmp 47) 32 rfl 86 _ 2 24 Tryz.underlying32 Tryz.infoBtX rfl W0.heap.size 0 0 [] rfl R43.out _ k _ (btsV (B.bts.take k)) rfl (by rw [btsV_len, HTK.out]) (SRT.out _ hb7a) (btsV_one _) (by unfold maxLen; omega) (by omega) ?_; intro gA capA wA hgA hrA hgrA; have hbA : Below W0.heap.size W0 wA := hb7a.trans (below_of_grown hgrA (Nat.le_refl _) hb7a.size); have hzA := hrA.out.lt; have hgA2 : W0.heap.size ≤ gA := (by omega); simp only [Nat.zero_add, List.nil_append] at hrA; have RA : Hid (RowIs wA 86 2 gA k capA (btsV (B.bts.take k))) := hrA; clear hrA hgrA)
      | (at_builtin; refine wpList_append_row rfl (.tmp 48) (.tmp 52) 32 rfl 86 _ 2 24 Tryz.underlying32 Tryz.infoBtX rfl gA k capA _ rfl (RA.out.below (below_box wA _) hzA) ⟨wA.heap.size, 0, none⟩ 1 1 [.string nm, .bool dr] rfl rfl (news_row (heap_alloc_new wA _)) (by simp [Value.oneCell']) (by unfold maxLen; omega) (by omega) ?_; intro gB capB wB hgB hrB hgrB; have hszB : (wA.alloc (.cells #[.string nm, .bool dr] 86)).heap.size = wA.heap.size + 1 := (by show (wA.heap.push _).size = _; simp); rw [hszB] at hgB; have hbB : Below W0.heap.size W0 wB := hbA.trans (((below_box wA (.cells #[.string nm, .bool dr] 86)).mono hbA.size).trans (below_of_grown hgrB (by omega) (by rw [hszB]; have := hbA.size; omega))); have hzB := hrB.out.lt; have RB : Hid (RowIs wB 86 2 gB (k + 1) capB (btsV (B.bts.take k) ++ [.string nm, .bool dr])) := hrB; clear hrB hgrB hszB)
      | (at_builtin; refine wpList_append_row rfl (.tmp 53) (.tmp 54) 32 rfl 86 _ 2 24 Tryz.underlying32 Tryz.infoBtX rfl gB (k + 1) capB _ rfl RB.out _ _ _ (btsV (B.bts.drop k)) rfl (by rw [btsV_len]; omega) (SRD.out _ hbB _ (by omega)) (btsV_one _) (by unfold maxLen; omega) (by omega) ?_; intro gC capC wC hgC hrC hgrC; have hbC : Below W0.heap.size W0 wC := hbB.trans (below_of_grown hgrC (by omega) hbB.size); have RC : Hid (RowIs wC 86 2 gC (k + 1 + _) capC (btsV (B.bts.take k) ++ [.string nm, .bool dr] ++ btsV (B.bts.drop k))) := hrC; have hgC2 : W0.heap.size ≤ gC := (by omega); have hzC := hrC.out.lt; have X5 : Hid _ := below_blk hbC T0.out (by omega); have Z5 : Hid _ := below_blk hbC T1.out (by omega); obtain ⟨mm, hmm⟩ : ∃ mm, mm = n3 - k := ⟨_, rfl⟩; rw [← hmm] at RC; rw [← hmm]; have HMM : Hid _ := hmm; clear hmm hrC hgrC)
      | (refine wpList_store_one rfl 32 (.tmp 56) (.tmp 55) rfl w.heap.size 3 (.slice (some ⟨gC, 0, none⟩) (k + 1 + mm) capC) rfl rfl Tryz.infosBtsX rfl rfl 34 #[.int .i64 B.now, .slice a1 B.svcs.length c1, .slice a2 B.cps.length c2, .slice (some ⟨g3, 0, none⟩) n3 k3] X5.out (Nat.le_of_ble_eq_true rfl) ?_; intro w6 hz on; have X6 : Hid (w6.heap[w.heap.size]? = some (.cells #[.int .i64 B.now, .slice a1 B.svcs.length c1, .slice a2 B.cps.length c2, .slice (some ⟨gC, 0, none⟩) (k + 1 + mm) capC] 34 (0, 0))) := hz; have Z6 : Hid _ := (on.other (w.heap.size + 1) (by omega)).trans Z5.out; have R6 : Hid (RowIs w6 86 2 gC (k + 1 + mm) capC _) := RC.out.blk (on.other gC (by omega)); have hb6 := (hb0.trans (hbC.mono hb0.size)).trans (on.below.mono (by omega)); clear hz on; have q0 := blk_cell X6.out 0 rfl; have q1 := blk_cell X6.out 1 rfl; have q2 := blk_cell X6.out 2 rfl; have q3 := blk_cell X6.out 3 rfl)
      | (refine wpList_store_only rfl 34 (.tmp 6) (.tmp 57) rfl (w.heap.size + 1) 0 #[.int .i64 B.now, .slice a1 B.svcs.length c1, .slice a2 B.cps.length c2, .slice (some ⟨gC, 0, none⟩) (k + 1 + mm) capC] rfl rfl 34 #[.int .i64 0, .slice none 0 0, .slice none 0 0, .slice none 0 0] Z6.out Tryz.infosBkX (Nat.le_of_ble_eq_true rfl) (by simp [Value.oneCell']) ?_; intro w7 hz on; have Z7 : Hid (w7.heap[w.heap.size + 1]? = some (.cells #[.int .i64 B.now, .slice a1 B.svcs.length c1, .slice a2 B.cps.length c2, .slice (some ⟨gC, 0, none⟩) (k + 1 + mm) capC] 34 (0, 0))) := hz; have R7 : Hid (RowIs w7 86 2 gC (k + 1 + mm) capC _) := R6.out.blk (on.other gC (by omega)); have hb7 := hb6.trans (on.below.mono (by omega)); clear hz on))
     have HFIN : Hid (btsV (B.bts.take k) ++ [.string nm, .bool dr] ++ btsV ((B.bts.drop k)) = btsV (raiseB B nm dr).bts) := by unfold Hid; rw [HPUT.out]; simp [btsV, Bt.cells]
     exact bodyPost_ret (v := .agg #[.int .i64 B.now, .slice a1 B.svcs.length c1, .slice a2 B.cps.length c2, .slice (some ⟨gC, 0, none⟩) (k + 1 + mm) capC]) (results_cell_row rfl _ _ (w.heap.size + 1) _ _ _ _ rfl Z7.out Tryz.underlying34 rfl Tryz.infosBkX) rfl ⟨gC, k + 1 + mm, capC, rfl, by unfold Hid; rw [HPUT.out, List.length_append, List.length_cons, HTK.out, hrl, HMM.out]; omega, by omega, by unfold Hid; rw [← HFIN.out]; exact R7.out, hb7⟩
    ·have HPUT : Hid ((raiseB B nm dr).bts = B.bts.take k ++ ⟨nm, dr⟩ :: B.bts.drop (k + 1)) := putIn_same HK.out HSK.out hq
     by_cases hkk : k3 - k = 1
     ·have HTK : Hid ((B.bts.take k).length = k) := by unfold Hid; rw [List.length_take]; have := HKN.out; omega
      have SRT : Hid (∀ W : World, Below W0.heap.size W0 W → ∀ j u, (btsV (B.bts.take k))[j]? = some u → W.cell? ((⟨g3, 0, none⟩ : Addr).add j) = some u) := fun W hW => (HR.out.below hW hg3').srcTake (c := Bt.cells) (fun _ => rfl) k
      have SRD : Hid (∀ W : World, Below W0.heap.size W0 W → ∀ off, off = (k + 1) * 2 ∨ ((B.bts.drop (k + 1))).length = 0 → ∀ j u, (btsV ((B.bts.drop (k + 1))))[j]? = some u → W.cell? ((⟨g3, off, none⟩ : Addr).add j) = some u) := fun W hW off ho => by
       rcases ho with ho | ho
       ·rw [ho]; exact (HR.out.below hW hg3').srcDrop (c := Bt.cells) (fun _ => rfl) (k + 1)
       ·intro j u hu; rw [List.length_eq_zero_iff.1 ho] at hu; simp [btsV] at hu
      have hrl : ((B.bts.drop (k + 1))).length = n3 - k - 1 := by rw [List.length_drop, HN3.out]; (try omega)
      obtain ⟨W7, hW7⟩ : ∃ W, W0.alloc (.cells #[] 86) = W := ⟨_, rfl⟩
      have hb7a := below_box W0 (.cells #[] 86)
      have R43 : Hid _ := RowIs.new W0 86 2
      have hz7a : W0.heap.size < (W0.alloc (.cells #[] 86)).heap.size := by simp
      rw [hW7] at hb7a R43 hz7a
      have e3b := blk_cell (below_blk hb7a T0.out (by omega)) 3 rfl
      go_wp2_with (first
       | (at_builtin; refine wpList_append_row rfl (.tmp 43) (.tmp 47) 32 rfl 86 _ 2 24 Tryz.underlying32 Tryz.infoBtX rfl W0.heap.size 0 0 [] rfl R43.out _ k _ (btsV (B.bts.take k)) rfl (by rw [btsV_len, HTK.out]) (SRT.out _ hb7a) (btsV_one _) (by unfold maxLen; omega) (by omega) ?_; intro gA capA wA hgA hrA hgrA; have hbA : Below W0.heap.size W0 wA := hb7a.trans (below_of_grown hgrA (Nat.le_refl _) hb7a.size); have hzA := hrA.out.lt; have hgA2 : W0.heap.size ≤ gA := (by omega); simp only [Nat.zero_add, List.nil_append] at hrA; have RA : Hid (RowIs wA 86 2 gA k capA (btsV (B.bts.take k))) := hrA; clear hrA hgrA)
       | (at_builtin; refine wpList_append_row rfl (.tmp 48) (.tmp 52) 32 rfl 86 _ 2 24 Tryz.underlying32 Tryz.infoBtX rfl gA k capA _ rfl (RA.out.below (below_box wA _) hzA) ⟨wA.heap.size, 0, none⟩ 1 1 [.string nm, .bool dr] rfl rfl (news_row (heap_alloc_new wA _)) (by simp [Value.oneCell']) (by unfold maxLen; omega) (by omega) ?_; intro gB capB wB hgB hrB hgrB; have hszB : (wA.alloc (.cells #[.string nm, .bool dr] 86)).heap.size = wA.heap.size + 1 := (by show (wA.heap.push _).size = _; simp); rw [hszB] at hgB; have hbB : Below W0.heap.size W0 wB := hbA.trans (((below_box wA (.cells #[.string nm, .bool dr] 86)).mono hbA.size).trans (below_of_grown hgrB (by omega) (by rw [hszB]; have := hbA.size; omega))); have hzB := hrB.out.lt; have RB : Hid (RowIs wB 86 2 gB (k + 1) capB (btsV (B.bts.take k) ++ [.string nm, .bool dr])) := hrB; clear hrB hgrB hszB)
       | (at_builtin; refine wpList_append_row rfl (.tmp 53) (.tmp 54) 32 rfl 86 _ 2 24 Tryz.underlying32 Tryz.infoBtX rfl gB (k + 1) capB _ rfl RB.out _ _ _ (btsV (B.bts.drop (k + 1))) rfl (by rw [btsV_len]; omega) (SRD.out _ hbB _ (by omega)) (btsV_one _) (by unfold maxLen; omega) (by omega) ?_; intro gC capC wC hgC hrC hgrC; have hbC : Below W0.heap.size W0 wC := hbB.trans (below_of_grown hgrC (by omega) hbB.size); have RC : Hid (RowIs wC 86 2 gC (k + 1 + _) capC (btsV (B.bts.take k) ++ [.string nm, .bool dr] ++ btsV (B.bts.drop (k + 1)))) := hrC; have hgC2 : W0.heap.size ≤ gC := (by omega); have hzC := hrC.out.lt; have X5 : Hid _ := below_blk hbC T0.out (by omega); have Z5 : Hid _ := below_blk hbC T1.out (by omega); obtain ⟨mm, hmm⟩ : ∃ mm, mm = n3 - k - 1 := ⟨_, rfl⟩; rw [← hmm] at RC; rw [← hmm]; have HMM : Hid _ := hmm; clear hmm hrC hgrC)
       | (refine wpList_store_one rfl 32 (.tmp 56) (.tmp 55) rfl w.heap.size 3 (.slice (some ⟨gC, 0, none⟩) (k + 1 + mm) capC) rfl rfl Tryz.infosBtsX rfl rfl 34 #[.int .i64 B.now, .slice a1 B.svcs.length c1, .slice a2 B.cps.length c2, .slice (some ⟨g3, 0, none⟩) n3 k3] X5.out (Nat.le_of_ble_eq_true rfl) ?_; intro w6 hz on; have X6 : Hid (w6.heap[w.heap.size]? = some (.cells #[.int .i64 B.now, .slice a1 B.svcs.length c1, .slice a2 B.cps.length c2, .slice (some ⟨gC, 0, none⟩) (k + 1 + mm) capC] 34 (0, 0))) := hz; have Z6 : Hid _ := (on.other (w.heap.size + 1) (by omega)).trans Z5.out; have R6 : Hid (RowIs w6 86 2 gC (k + 1 + mm) capC _) := RC.out.blk (on.other gC (by omega)); have hb6 := (hb0.trans (hbC.mono hb0.size)).trans (on.below.mono (by omega)); clear hz on; have q0 := blk_cell X6.out 0 rfl; have q1 := blk_cell X6.out 1 rfl; have q2 := blk_cell X6.out 2 rfl; have q3 := blk_cell X6.out 3 rfl)
       | (refine wpList_store_only rfl 34 (.tmp 6) (.tmp 57) rfl (w.heap.size + 1) 0 #[.int .i64 B.now, .slice a1 B.svcs.length c1, .slice a2 B.cps.length c2, .slice (some ⟨gC, 0, none⟩) (k + 1 + mm) capC] rfl rfl 34 #[.int .i64 0, .slice none 0 0, .slice none 0 0, .slice none 0 0] Z6.out Tryz.infosBkX (Nat.le_of_ble_eq_true rfl) (by simp [Value.oneCell']) ?_; intro w7 hz on; have Z7 : Hid (w7.heap[w.heap.size + 1]? = some (.cells #[.int .i64 B.now, .slice a1 B.svcs.length c1, .slice a2 B.cps.length c2, .slice (some ⟨gC, 0, none⟩) (k + 1 + mm) capC] 34 (0, 0))) := hz; have R7 : Hid (RowIs w7 86 2 gC (k + 1 + mm) capC _) := R6.out.blk (on.other gC (by omega)); have hb7 := hb6.trans (on.below.mono (by omega)); clear hz on))
      have HFIN : Hid (btsV (B.bts.take k) ++ [.string nm, .bool dr] ++ btsV ((B.bts.drop (k + 1))) = btsV (raiseB B nm dr).bts) := by unfold Hid; rw [HPUT.out]; simp [btsV, Bt.cells]
      exact bodyPost_ret (v := .agg #[.int .i64 B.now, .slice a1 B.svcs.length c1, .slice a2 B.cps.length c2, .slice (some ⟨gC, 0, none⟩) (k + 1 + mm) capC]) (results_cell_row rfl _ _ (w.heap.size + 1) _ _ _ _ rfl Z7.out Tryz.underlying34 rfl Tryz.infosBkX) rfl ⟨gC, k + 1 + mm, capC, rfl, by unfold Hid; rw [HPUT.out, List.length_append, List.length_cons, HTK.out, hrl, HMM.out]; omega, by omega, by unfold Hid; rw [← HFIN.out]; exact R7.out, hb7⟩
     ·have HTK : Hid ((B.bts.take k).length = k) := by unfold Hid; rw [List.length_take]; have := HKN.out; omega
      have SRT : Hid (∀ W : World, Below W0.heap.size W0 W → ∀ j u, (btsV (B.bts.take k))[j]? = some u → W.cell? ((⟨g3, 0, none⟩ : Addr).add j) = some u) := fun W hW => (HR.out.below hW hg3').srcTake (c := Bt.cells) (fun _ => rfl) k
      have SRD : Hid (∀ W : World, Below W0.heap.size W0 W → ∀ off, off = (k + 1) * 2 ∨ ((B.bts.drop (k + 1))).length = 0 → ∀ j u, (btsV ((B.bts.drop (k + 1))))[j]? = some u → W.cell? ((⟨g3, off, none⟩ : Addr).add j) = some u) := fun W hW off ho => by
       rcases ho with ho | ho
       ·rw [ho]; exact (HR.out.below hW hg3').srcDrop (c := Bt.cells) (fun _ => rfl) (k + 1)
       ·intro j u hu; rw [List.length_eq_zero_iff.1 ho] at hu; simp [btsV] at hu
      have hrl : ((B.bts.drop (k + 1))).length = n3 - k - 1 := by rw [List.length_drop, HN3.out]; (try omega)
      obtain ⟨W7, hW7⟩ : ∃ W, W0.alloc (.cells #[] 86) = W := ⟨_, rfl⟩
      have hb7a := below_box W0 (.cells #[] 86)
      have R43 : Hid _ := RowIs.new W0 86 2
      have hz7a : W0.heap.size < (W0.alloc (.cells #[] 86)).heap.size := by simp
      rw [hW7] at hb7a R43 hz7a
      have e3b := blk_cell (below_blk hb7a T0.out (by omega)) 3 rfl
      go_wp2_with (first
       | (at_builtin; refine wpList_append_row rfl (.tmp 43) (.tmp 47) 32 rfl 86 _ 2 24 Tryz.underlying32 Tryz.infoBtX rfl W0.heap.size 0 0 [] rfl R43.out _ k _ (btsV (B.bts.take k)) rfl (by rw [btsV_len, HTK.out]) (SRT.out _ hb7a) (btsV_one _) (by unfold maxLen; omega) (by omega) ?_; intro gA capA wA hgA hrA hgrA; have hbA : Below W0.heap.size W0 wA := hb7a.trans (below_of_grown hgrA (Nat.le_refl _) hb7a.size); have hzA := hrA.out.lt; have hgA2 : W0.heap.size ≤ gA := (by omega); simp only [Nat.zero_add, List.nil_append] at hrA; have RA : Hid (RowIs wA 86 2 gA k capA (btsV (B.bts.take k))) := hrA; clear hrA hgrA)
       | (at_builtin; refine wpList_append_row rfl (.tmp 48) (.tmp 52) 32 rfl 86 _ 2 24 Tryz.underlying32 Tryz.infoBtX rfl gA k capA _ rfl (RA.out.below (below_box wA _) hzA) ⟨wA.heap.size, 0, none⟩ 1 1 [.string nm, .bool dr] rfl rfl (news_row (heap_alloc_new wA _)) (by simp [Value.oneCell']) (by unfold maxLen; omega) (by omega) ?_; intro gB capB wB hgB hrB hgrB; have hszB : (wA.alloc (.cells #[.string nm, .bool dr] 86)).heap.size = wA.heap.size + 1 := (by show (wA.heap.push _).size = _; simp); rw [hszB] at hgB; have hbB : Below W0.heap.size W0 wB := hbA.trans (((below_box wA (.cells #[.string nm, .bool dr] 86)).mono hbA.size).trans (below_of_grown hgrB (by omega) (by rw [hszB]; have := hbA.size; omega))); have hzB := hrB.out.lt; have RB : Hid (RowIs wB 86 2 gB (k + 1) capB (btsV (B.bts.take k) ++ [.string nm, .bool dr])) := hrB; clear hrB hgrB hszB)
       | (at_builtin; refine wpList_append_row rfl (.tmp 53) (.tmp 54) 32 rfl 86 _ 2 24 Tryz.underlying32 Tryz.infoBtX rfl gB (k + 1) capB _ rfl RB.out _ _ _ (btsV (B.bts.drop (k + 1))) rfl (by rw [btsV_len]; omega) (SRD.out _ hbB _ (by omega)) (btsV_one _) (by unfold maxLen; omega) (by omega) ?_; intro gC capC wC hgC hrC hgrC; have hbC : Below W0.heap.size W0 wC := hbB.trans (below_of_grown hgrC (by omega) hbB.size); have RC : Hid (RowIs wC 86 2 gC (k + 1 + _) capC (btsV (B.bts.take k) ++ [.string nm, .bool dr] ++ btsV (B.bts.drop (k + 1)))) := hrC; have hgC2 : W0.heap.size ≤ gC := (by omega); have hzC := hrC.out.lt; have X5 : Hid _ := below_blk hbC T0.out (by omega); have Z5 : Hid _ := below_blk hbC T1.out (by omega); obtain ⟨mm, hmm⟩ : ∃ mm, mm = n3 - k - 1 := ⟨_, rfl⟩; rw [← hmm] at RC; rw [← hmm]; have HMM : Hid _ := hmm; clear hmm hrC hgrC)
       | (refine wpList_store_one rfl 32 (.tmp 56) (.tmp 55) rfl w.heap.size 3 (.slice (some ⟨gC, 0, none⟩) (k + 1 + mm) capC) rfl rfl Tryz.infosBtsX rfl rfl 34 #[.int .i64 B.now, .slice a1 B.svcs.length c1, .slice a2 B.cps.length c2, .slice (some ⟨g3, 0, none⟩) n3 k3] X5.out (Nat.le_of_ble_eq_true rfl) ?_; intro w6 hz on; have X6 : Hid (w6.heap[w.heap.size]? = some (.cells #[.int .i64 B.now, .slice a1 B.svcs.length c1, .slice a2 B.cps.length c2, .slice (some ⟨gC, 0, none⟩) (k + 1 + mm) capC] 34 (0, 0))) := hz; have Z6 : Hid _ := (on.other (w.heap.size + 1) (by omega)).trans Z5.out; have R6 : Hid (RowIs w6 86 2 gC (k + 1 + mm) capC _) := RC.out.blk (on.other gC (by omega)); have hb6 := (hb0.trans (hbC.mono hb0.size)).trans (on.below.mono (by omega)); clear hz on; have q0 := blk_cell X6.out 0 rfl; have q1 := blk_cell X6.out 1 rfl; have q2 := blk_cell X6.out 2 rfl; have q3 := blk_cell X6.out 3 rfl)
       | (refine wpList_store_only rfl 34 (.tmp 6) (.tmp 57) rfl (w.heap.size + 1) 0 #[.int .i64 B.now, .slice a1 B.svcs.length c1, .slice a2 B.cps.length c2, .slice (some ⟨gC, 0, none⟩) (k + 1 + mm) capC] rfl rfl 34 #[.int .i64 0, .slice none 0 0, .slice none 0 0, .slice none 0 0] Z6.out Tryz.infosBkX (Nat.le_of_ble_eq_true rfl) (by simp [Value.oneCell']) ?_; intro w7 hz on; have Z7 : Hid (w7.heap[w.heap.size + 1]? = some (.cells #[.int .i64 B.now, .slice a1 B.svcs.length c1, .slice a2 B.cps.length c2, .slice (some ⟨gC, 0, none⟩) (k + 1 + mm) capC] 34 (0, 0))) := hz; have R7 : Hid (RowIs w7 86 2 gC (k + 1 + mm) capC _) := R6.out.blk (on.other gC (by omega)); have hb7 := hb6.trans (on.below.mono (by omega)); clear hz on))
      have HFIN : Hid (btsV (B.bts.take k) ++ [.string nm, .bool dr] ++ btsV ((B.bts.drop (k + 1))) = btsV (raiseB B nm dr).bts) := by unfold Hid; rw [HPUT.out]; simp [btsV, Bt.cells]
      exact bodyPost_ret (v := .agg #[.int .i64 B.now, .slice a1 B.svcs.length c1, .slice a2 B.cps.length c2, .slice (some ⟨gC, 0, none⟩) (k + 1 + mm) capC]) (results_cell_row rfl _ _ (w.heap.size + 1) _ _ _ _ rfl Z7.out Tryz.underlying34 rfl Tryz.infosBkX) rfl ⟨gC, k + 1 + mm, capC, rfl, by unfold Hid; rw [HPUT.out, List.length_append, List.length_cons, HTK.out, hrl, HMM.out]; omega, by omega, by unfold Hid; rw [← HFIN.out]; exact R7.out, hb7⟩
   ·go_wp2
    go_roundw
    case rel => exact ⟨k + 1, by omega, by go_num, (by first | rfl | trivial), fun i t hi ht => by
     rcases Nat.lt_or_ge i k with h | h
     ·exact HA.out i t h ht
     ·rw [show i = k by omega, HSK.out] at ht
      cases ht
      exact hle⟩
    case measure => simp [intOf]; omega
  ·have HK : Hid (aheadK (fun t => Op.bytesLess (btNm t) (btNm ⟨nm, dr⟩)) B.bts = k) := aheadK_is HKN.out HA.out fun t ht => by
    have := (List.getElem?_eq_some_iff.1 ht).1
    rw [HN3.out] at this
    omega
   have HPUT : Hid ((raiseB B nm dr).bts = B.bts.take k ++ ⟨nm, dr⟩ :: B.bts.drop k) := putIn_end HK.out (List.getElem?_eq_none (by rw [HN3.out]; omega))
   by_cases hkk : k3 = k
   ·have hif : (if k3 = k then some (⟨g3, 0, none⟩ : Addr) else some ⟨g3, k * 2, none⟩) = some ⟨g3, 0, none⟩ := if_pos hkk
    clear hkk
    have HTK : Hid ((B.bts.take k).length = k) := by unfold Hid; rw [List.length_take]; have := HKN.out; omega
    have SRT : Hid (∀ W : World, Below W0.heap.size W0 W → ∀ j u, (btsV (B.bts.take k))[j]? = some u → W.cell? ((⟨g3, 0, none⟩ : Addr).add j) = some u) := fun W hW => (HR.out.below hW hg3').srcTake (c := Bt.cells) (fun _ => rfl) k
    have SRD : Hid (∀ W : World, Below W0.heap.size W0 W → ∀ off, off = (k) * 2 ∨ ((B.bts.drop k)).length = 0 → ∀ j u, (btsV ((B.bts.drop k)))[j]? = some u → W.cell? ((⟨g3, off, none⟩ : Addr).add j) = some u) := fun W hW off ho => by
     rcases ho with ho | ho
     ·rw [ho]; exact (HR.out.below hW hg3').srcDrop (c := Bt.cells) (fun _ => rfl) (k)
     ·intro j u hu; rw [List.length_eq_zero_iff.1 ho] at hu; simp [btsV] at hu
    have hrl : ((B.bts.drop k)).length = n3 - k := by rw [List.length_drop, HN3.out]; (try omega)
    obtain ⟨W7, hW7⟩ : ∃ W, W0.alloc (.cells #[] 86) = W := ⟨_, rfl⟩
    have hb7a := below_box W0 (.cells #[] 86)
    have R43 : Hid _ := RowIs.new W0 86 2
    have hz7a : W0.heap.size < (W0.alloc (.cells #[] 86)).heap.size := by simp
    rw [hW7] at hb7a R43 hz7a
    have e3b := blk_cell (below_blk hb7a T0.out (by omega)) 3 rfl
    go_wp2_with (first
     | (at_builtin; refine wpList_append_row rfl (.tmp 43) (.tmp 47) 32 rfl 86 _ 2 24 Tryz.underlying32 Tryz.infoBtX rfl W0.heap.size 0 0 [] rfl R43.out _ k _ (btsV (B.bts.take k)) rfl (by rw [btsV_len, HTK.out]) (SRT.out _ hb7a) (btsV_one _) (by unfold maxLen; omega) (by omega) ?_; intro gA capA wA hgA hrA hgrA; have hbA : Below W0.heap.size W0 wA := hb7a.trans (below_of_grown hgrA (Nat.le_refl _) hb7a.size); have hzA := hrA.out.lt; have hgA2 : W0.heap.size ≤ gA := (by omega); simp only [Nat.zero_add, List.nil_append] at hrA; have RA : Hid (RowIs wA 86 2 gA k capA (btsV (B.bts.take k))) := hrA; clear hrA hgrA)
     | (at_builtin; refine wpList_append_row rfl (.tmp 48) (.tmp 52) 32 rfl 86 _ 2 24 Tryz.underlying32 Tryz.infoBtX rfl gA k capA _ rfl (RA.out.below (below_box wA _) hzA) ⟨wA.heap.size, 0, none⟩ 1 1 [.string nm, .bool dr] rfl rfl (news_row (heap_alloc_new wA _)) (by simp [Value.oneCell']) (by unfold maxLen; omega) (by omega) ?_; intro gB capB wB hgB hrB hgrB; have hszB : (wA.alloc (.cells #[.string nm, .bool dr] 86)).heap.size = wA.heap.size + 1 := (by show (wA.heap.push _).size = _; simp); rw [hszB] at hgB; have hbB : Below W0.heap.size W0 wB := hbA.trans (((below_box wA (.cells #[.string nm, .bool dr] 86)).mono hbA.size).trans (below_of_grown hgrB (by omega) (by rw [hszB]; have := hbA.size; omega))); have hzB := hrB.out.lt; have RB : Hid (RowIs wB 86 2 gB (k + 1) capB (btsV (B.bts.take k) ++ [.string nm, .bool dr])) := hrB; clear hrB hgrB hszB)
     | (at_builtin; refine wpList_append_row rfl (.tmp 53) (.tmp 54) 32 rfl 86 _ 2 24 Tryz.underlying32 Tryz.infoBtX rfl gB (k + 1) capB _ rfl RB.out _ _ _ (btsV (B.bts.drop k)) rfl (by rw [btsV_len]; omega) (SRD.out _ hbB _ (by omega)) (btsV_one _) (by unfold maxLen; omega) (by omega) ?_; intro gC capC wC hgC hrC hgrC; have hbC : Below W0.heap.size W0 wC := hbB.trans (below_of_grown hgrC (by omega) hbB.size); have RC : Hid (RowIs wC 86 2 gC (k + 1 + _) capC (btsV (B.bts.take k) ++ [.string nm, .bool dr] ++ btsV (B.bts.drop k))) := hrC; have hgC2 : W0.heap.size ≤ gC := (by omega); have hzC := hrC.out.lt; have X5 : Hid _ := below_blk hbC T0.out (by omega); have Z5 : Hid _ := below_blk hbC T1.out (by omega); obtain ⟨mm, hmm⟩ : ∃ mm, mm = n3 - k := ⟨_, rfl⟩; rw [← hmm] at RC; rw [← hmm]; have HMM : Hid _ := hmm; clear hmm hrC hgrC)
     | (refine wpList_store_one rfl 32 (.tmp 56) (.tmp 55) rfl w.heap.size 3 (.slice (some ⟨gC, 0, none⟩) (k + 1 + mm) capC) rfl rfl Tryz.infosBtsX rfl rfl 34 #[.int .i64 B.now, .slice a1 B.svcs.length c1, .slice a2 B.cps.length c2, .slice (some ⟨g3, 0, none⟩) n3 k3] X5.out (Nat.le_of_ble_eq_true rfl) ?_; intro w6 hz on; have X6 : Hid (w6.heap[w.heap.size]? = some (.cells #[.int .i64 B.now, .slice a1 B.svcs.length c1, .slice a2 B.cps.length c2, .slice (some ⟨gC, 0, none⟩) (k + 1 + mm) capC] 34 (0, 0))) := hz; have Z6 : Hid _ := (on.other (w.heap.size + 1) (by omega)).trans Z5.out; have R6 : Hid (RowIs w6 86 2 gC (k + 1 + mm) capC _) := RC.out.blk (on.other gC (by omega)); have hb6 := (hb0.trans (hbC.mono hb0.size)).trans (on.below.mono (by omega)); clear hz on; have q0 := blk_cell X6.out 0 rfl; have q1 := blk_cell X6.out 1 rfl; have q2 := blk_cell X6.out 2 rfl; have q3 := blk_cell X6.out 3 rfl)
     | (refine wpList_store_only rfl 34 (.tmp 6) (.tmp 57) rfl (w.heap.size + 1) 0 #[.int .i64 B.now, .slice a1 B.svcs.length c1, .slice a2 B.cps.length c2, .slice (some ⟨gC, 0, none⟩) (k + 1 + mm) capC] rfl rfl 34 #[.int .i64 0, .slice none 0 0, .slice none 0 0, .slice none 0 0] Z6.out Tryz.infosBkX (Nat.le_of_ble_eq_true rfl) (by simp [Value.oneCell']) ?_; intro w7 hz on; have Z7 : Hid (w7.heap[w.heap.size + 1]? = some (.cells #[.int .i64 B.now, .slice a1 B.svcs.length c1, .slice a2 B.cps.length c2, .slice (some ⟨gC, 0, none⟩) (k + 1 + mm) capC] 34 (0, 0))) := hz; have R7 : Hid (RowIs w7 86 2 gC (k + 1 + mm) capC _) := R6.out.blk (on.other gC (by omega)); have hb7 := hb6.trans (on.below.mono (by omega)); clear hz on))
    have HFIN : Hid (btsV (B.bts.take k) ++ [.string nm, .bool dr] ++ btsV ((B.bts.drop k)) = btsV (raiseB B nm dr).bts) := by unfold Hid; rw [HPUT.out]; simp [btsV, Bt.cells]
    exact bodyPost_ret (v := .agg #[.int .i64 B.now, .slice a1 B.svcs.length c1, .slice a2 B.cps.length c2, .slice (some ⟨gC, 0, none⟩) (k + 1 + mm) capC]) (results_cell_row rfl _ _ (w.heap.size + 1) _ _ _ _ rfl Z7.out Tryz.underlying34 rfl Tryz.infosBkX) rfl ⟨gC, k + 1 + mm, capC, rfl, by unfold Hid; rw [HPUT.out, List.length_append, List.length_cons, HTK.out, hrl, HMM.out]; omega, by omega, by unfold Hid; rw [← HFIN.out]; exact R7.out, hb7⟩
   ·have HTK : Hid ((B.bts.take k).length = k) := by unfold Hid; rw [List.length_take]; have := HKN.out; omega
    have SRT : Hid (∀ W : World, Below W0.heap.size W0 W → ∀ j u, (btsV (B.bts.take k))[j]? = some u → W.cell? ((⟨g3, 0, none⟩ : Addr).add j) = some u) := fun W hW => (HR.out.below hW hg3').srcTake (c := Bt.cells) (fun _ => rfl) k
    have SRD : Hid (∀ W : World, Below W0.heap.size W0 W → ∀ off, off = (k) * 2 ∨ ((B.bts.drop k)).length = 0 → ∀ j u, (btsV ((B.bts.drop k)))[j]? = some u → W.cell? ((⟨g3, off, none⟩ : Addr).add j) = some u) := fun W hW off ho => by
     rcases ho with ho | ho
     ·rw [ho]; exact (HR.out.below hW hg3').srcDrop (c := Bt.cells) (fun _ => rfl) (k)
     ·intro j u hu; rw [List.length_eq_zero_iff.1 ho] at hu; simp [btsV] at hu
    have hrl : ((B.bts.drop k)).length = n3 - k := by rw [List.length_drop, HN3.out]; (try omega)
    obtain ⟨W7, hW7⟩ : ∃ W, W0.alloc (.cells #[] 86) = W := ⟨_, rfl⟩
    have hb7a := below_box W0 (.cells #[] 86)
    have R43 : Hid _ := RowIs.new W0 86 2
    have hz7a : W0.heap.size < (W0.alloc (.cells #[] 86)).heap.size := by simp
    rw [hW7] at hb7a R43 hz7a
    have e3b := blk_cell (below_blk hb7a T0.out (by omega)) 3 rfl
    go_wp2_with (first
     | (at_builtin; refine wpList_append_row rfl (.tmp 43) (.tmp 47) 32 rfl 86 _ 2 24 Tryz.underlying32 Tryz.infoBtX rfl W0.heap.size 0 0 [] rfl R43.out _ k _ (btsV (B.bts.take k)) rfl (by rw [btsV_len, HTK.out]) (SRT.out _ hb7a) (btsV_one _) (by unfold maxLen; omega) (by omega) ?_; intro gA capA wA hgA hrA hgrA; have hbA : Below W0.heap.size W0 wA := hb7a.trans (below_of_grown hgrA (Nat.le_refl _) hb7a.size); have hzA := hrA.out.lt; have hgA2 : W0.heap.size ≤ gA := (by omega); simp only [Nat.zero_add, List.nil_append] at hrA; have RA : Hid (RowIs wA 86 2 gA k capA (btsV (B.bts.take k))) := hrA; clear hrA hgrA)
     | (at_builtin; refine wpList_append_row rfl (.tmp 48) (.tmp 52) 32 rfl 86 _ 2 24 Tryz.underlying32 Tryz.infoBtX rfl gA k capA _ rfl (RA.out.below (below_box wA _) hzA) ⟨wA.heap.size, 0, none⟩ 1 1 [.string nm, .bool dr] rfl rfl (news_row (heap_alloc_new wA _)) (by simp [Value.oneCell']) (by unfold maxLen; omega) (by omega) ?_; intro gB capB wB hgB hrB hgrB; have hszB : (wA.alloc (.cells #[.string nm, .bool dr] 86)).heap.size = wA.heap.size + 1 := (by show (wA.heap.push _).size = _; simp); rw [hszB] at hgB; have hbB : Below W0.heap.size W0 wB := hbA.trans (((below_box wA (.cells #[.string nm, .bool dr] 86)).mono hbA.size).trans (below_of_grown hgrB (by omega) (by rw [hszB]; have := hbA.size; omega))); have hzB := hrB.out.lt; have RB : Hid (RowIs wB 86 2 gB (k + 1) capB (btsV (B.bts.take k) ++ [.string nm, .bool dr])) := hrB; clear hrB hgrB hszB)
     | (at_builtin; refine wpList_append_row rfl (.tmp 53) (.tmp 54) 32 rfl 86 _ 2 24 Tryz.underlying32 Tryz.infoBtX rfl gB (k + 1) capB _ rfl RB.out _ _ _ (btsV (B.bts.drop k)) rfl (by rw [btsV_len]; omega) (SRD.out _ hbB _ (by omega)) (btsV_one _) (by unfold maxLen; omega) (by omega) ?_; intro gC capC wC hgC hrC hgrC; have hbC : Below W0.heap.size W0 wC := hbB.trans (below_of_grown hgrC (by omega) hbB.size); have RC : Hid (RowIs wC 86 2 gC (k + 1 + _) capC (btsV (B.bts.take k) ++ [.string nm, .bool dr] ++ btsV (B.bts.drop k))) := hrC; have hgC2 : W0.heap.size ≤ gC := (by omega); have hzC := hrC.out.lt; have X5 : Hid _ := below_blk hbC T0.out (by omega); have Z5 : Hid _ := below_blk hbC T1.out (by omega); obtain ⟨mm, hmm⟩ : ∃ mm, mm = n3 - k := ⟨_, rfl⟩; rw [← hmm] at RC; rw [← hmm]; have HMM : Hid _ := hmm; clear hmm hrC hgrC)
     | (refine wpList_store_one rfl 32 (.tmp 56) (.tmp 55) rfl w.heap.size 3 (.slice (some ⟨gC, 0, none⟩) (k + 1 + mm) capC) rfl rfl Tryz.infosBtsX rfl rfl 34 #[.int .i64 B.now, .slice a1 B.svcs.length c1, .slice a2 B.cps.length c2, .slice (some ⟨g3, 0, none⟩) n3 k3] X5.out (Nat.le_of_ble_eq_true rfl) ?_; intro w6 hz on; have X6 : Hid (w6.heap[w.heap.size]? = some (.cells #[.int .i64 B.now, .slice a1 B.svcs.length c1, .slice a2 B.cps.length c2, .slice (some ⟨gC, 0, none⟩) (k + 1 + mm) capC] 34 (0, 0))) := hz; have Z6 : Hid _ := (on.other (w.heap.size + 1) (by omega)).trans Z5.out; have R6 : Hid (RowIs w6 86 2 gC (k + 1 + mm) capC _) := RC.out.blk (on.other gC (by omega)); have hb6 := (hb0.trans (hbC.mono hb0.size)).trans (on.below.mono (by omega)); clear hz on; have q0 := blk_cell X6.out 0 rfl; have q1 := blk_cell X6.out 1 rfl; have q2 := blk_cell X6.out 2 rfl; have q3 := blk_cell X6.out 3 rfl)
     | (refine wpList_store_only rfl 34 (.tmp 6) (.tmp 57) rfl (w.heap.size + 1) 0 #[.int .i64 B.now, .slice a1 B.svcs.length c1, .slice a2 B.cps.length c2, .slice (some ⟨gC, 0, none⟩) (k + 1 + mm) capC] rfl rfl 34 #[.int .i64 0, .slice none 0 0, .slice none 0 0, .slice none 0 0] Z6.out Tryz.infosBkX (Nat.le_of_ble_eq_true rfl) (by simp [Value.oneCell']) ?_; intro w7 hz on; have Z7 : Hid (w7.heap[w.heap.size + 1]? = some (.cells #[.int .i64 B.now, .slice a1 B.svcs.length c1, .slice a2 B.cps.length c2, .slice (some ⟨gC, 0, none⟩) (k + 1 + mm) capC] 34 (0, 0))) := hz; have R7 : Hid (RowIs w7 86 2 gC (k + 1 + mm) capC _) := R6.out.blk (on.other gC (by omega)); have hb7 := hb6.trans (on.below.mono (by omega)); clear hz on))
    have HFIN : Hid (btsV (B.bts.take k) ++ [.string nm, .bool dr] ++ btsV ((B.bts.drop k)) = btsV (raiseB B nm dr).bts) := by unfold Hid; rw [HPUT.out]; simp [btsV, Bt.cells]
    exact bodyPost_ret (v := .agg #[.int .i64 B.now, .slice a1 B.svcs.length c1, .slice a2 B.cps.length c2, .slice (some ⟨gC, 0, none⟩) (k + 1 + mm) capC]) (results_cell_row rfl _ _ (w.heap.size + 1) _ _ _ _ rfl Z7.out Tryz.underlying34 rfl Tryz.infosBkX) rfl ⟨gC, k + 1 + mm, capC, rfl, by unfold Hid; rw [HPUT.out, List.length_append, List.length_cons, HTK.out, hrl, HMM.out]; omega, by omega, by unfold Hid; rw [← HFIN.out]; exact R7.out, hb7⟩
end Go.Proofs.YtbceafpodamnfabGreat

namespace Go.Proofs.YtbceafpodamnfabGreat
open Go.RowKit Go.Sort
set_option maxRecDepth 100000 in
set_option maxHeartbeats 16000000 in
theorem l6Sea_raise (B : Bk) (sv : Svc) (nm : ByteArray) (num : Int) (fl : Bool) (N g1 g2 g3 k1 k2 k3 n1 n2 n3 : Nat) (w : World) (hS : B.small) (hn0 : 0 ≤ B.now) (hn9 : B.now < 1000000) (hN : N ≤ w.heap.size) (hB : BkRow w N g1 g2 g3 k1 k2 k3 B) (HN1 : Hid (B.svcs.length = n1)) (HN2 : Hid (B.cps.length = n2)) (HN3 : Hid (B.bts.length = n3)) :
  Calls Tryz.prog 43 #[.agg #[.int .i64 B.now, .slice (some ⟨g1, 0, none⟩) n1 k1, .slice (some ⟨g2, 0, none⟩) n2 k2, .slice (some ⟨g3, 0, none⟩) n3 k3], .agg #[.int .i64 5, .string sv.name, .int .i64 sv.version, .bool sv.gone, .int .i64 sv.image, .int .i64 sv.want, .int .i64 sv.down, .int .i64 sv.over, .int .i64 sv.next, .int .i64 sv.per, .int .i64 sv.least, .int .i64 sv.most, .int .i64 sv.load, .int .i64 sv.cool, .string nm, .int .i64 num, .bool fl]] w (SeaR g1 g2 w B ⟨5, sv, nm, num, fl⟩) := by
 have hSm := hS
 obtain ⟨hl1, hl2, hl3⟩ := hS
 rw [HN1.out] at hl1
 rw [HN2.out] at hl2
 rw [HN3.out] at hl3
 have hq1 := hB.n1
 have hq2 := hB.n2
 have hq3 := hB.n3
 have hg1 := hB.svcs.lt
 have hg2 := hB.cps.lt
 have hg3 := hB.bts.lt
 have hc1 := hB.svcs.2.1
 have hc2 := hB.cps.2.1
 have hc3 := hB.bts.2.1
 rw [HN1.out] at hc1
 rw [HN2.out] at hc2
 rw [HN3.out] at hc3
 have h12 := hB.ne12
 have h13 := hB.ne13
 have h23 := hB.ne23
 obtain ⟨W0, hW0, t0, t1, t2, hz0, hz0', hb0⟩ := three_newV w (.cells #[.int .i64 B.now, .slice (some ⟨g1, 0, none⟩) n1 k1, .slice (some ⟨g2, 0, none⟩) n2 k2, .slice (some ⟨g3, 0, none⟩) n3 k3] 34) (.cells #[.int .i64 5, .string sv.name, .int .i64 sv.version, .bool sv.gone, .int .i64 sv.image, .int .i64 sv.want, .int .i64 sv.down, .int .i64 sv.over, .int .i64 sv.next, .int .i64 sv.per, .int .i64 sv.least, .int .i64 sv.most, .int .i64 sv.load, .int .i64 sv.cool, .string nm, .int .i64 num, .bool fl] 50) (.cells #[.int .i64 0, .slice none 0 0, .slice none 0 0, .slice none 0 0] 34)
 have X0 : Hid _ := t0
 have E0 : Hid _ := t1
 have Z0 : Hid _ := t2
 have RS0 : Hid (RowIs W0 48 13 g1 n1 k1 (svcsV B.svcs)) := by have := hB.svcs.below hb0 hg1; (rw [HN1.out] at this); exact this
 have RC0 : Hid (RowIs W0 88 7 g2 n2 k2 (cpsV B.cps)) := by have := hB.cps.below hb0 hg2; (rw [HN2.out] at this); exact this
 have RB0 : Hid (RowIs W0 86 2 g3 n3 k3 (btsV B.bts)) := by have := hB.bts.below hb0 hg3; (rw [HN3.out] at this); exact this
 clear t0 t1 t2 hB
 go_enter Tryz.func43, Tryz.ntmps43
 go_upto_region 1 with fail
 clear hW0
 have e0 := blk_cell X0.out 0 rfl
 have e1 := blk_cell X0.out 1 rfl
 have e2 := blk_cell X0.out 2 rfl
 have e3 := blk_cell X0.out 3 rfl
 have f0 := blk_cell E0.out 0 rfl
 have f14 := blk_cell E0.out 14 rfl
 have f16 := blk_cell E0.out 16 rfl
 go_wp2_with fail
 have hcall := l6Raise_any B nm fl (some ⟨g1, 0, none⟩) (some ⟨g2, 0, none⟩) k1 k2 g3 k3 n3 W0 hSm HN3 RB0.out
 rw [HN1.out, HN2.out] at hcall
 refine hcall.mono ?_
 clear hcall
 rintro e w1 ⟨g, n, cap, rfl, HNN, hgn, HRN, hbc⟩
 have hbw1 := hb0.trans (hbc.mono hb0.size)
 have X1 : Hid _ := below_blk hbc X0.out (by omega)
 have Z1 : Hid _ := below_blk hbc Z0.out (by omega)
 have hz1 : w.heap.size + 1 + 1 < w1.heap.size := (Array.getElem?_eq_some_iff.1 Z1.out).1
 have hb1 := hbw1
 have RS1 : Hid (RowIs w1 48 13 g1 n1 k1 (svcsV B.svcs)) := RS0.out.below hbc (by omega)
 have RC1 : Hid (RowIs w1 88 7 g2 n2 k2 (cpsV B.cps)) := RC0.out.below hbc (by omega)
 have RN1 : Hid (RowIs w1 86 2 g n cap (btsV (raiseB B nm fl).bts)) := HRN.out
 have hgl := HRN.out.lt
 clear HRN e0 e1 e2 e3 f0 f14 f16 hb0 X0 Z0 E0 RS0 RC0 RB0 hbc hbw1
 go_wp2_with (first
  | (refine wpList_store_only rfl 34 (.tmp 2) (.tmp 126) rfl w.heap.size 0 #[.int .i64 B.now, .slice (some ⟨g1, 0, none⟩) n1 k1, .slice (some ⟨g2, 0, none⟩) n2 k2, .slice (some ⟨g, 0, none⟩) n cap] rfl rfl 34 #[.int .i64 B.now, .slice (some ⟨g1, 0, none⟩) n1 k1, .slice (some ⟨g2, 0, none⟩) n2 k2, .slice (some ⟨g3, 0, none⟩) n3 k3] X1.out Tryz.infosBkX (Nat.le_of_ble_eq_true rfl) (by simp [Value.oneCell']) ?_; intro w2 hz on; have X2 : Hid (w2.heap[w.heap.size]? = some (.cells #[.int .i64 B.now, .slice (some ⟨g1, 0, none⟩) n1 k1, .slice (some ⟨g2, 0, none⟩) n2 k2, .slice (some ⟨g, 0, none⟩) n cap] 34 (0, 0))) := hz; have Z2 : Hid _ := (on.other (w.heap.size + 1 + 1) (by omega)).trans Z1.out; have hb2 := hb1.trans (on.below.mono (by omega)); have RS2 : Hid (RowIs w2 48 13 g1 n1 k1 (svcsV B.svcs)) := RS1.out.blk (on.other g1 (by omega)); have RC2 : Hid (RowIs w2 88 7 g2 n2 k2 (cpsV B.cps)) := RC1.out.blk (on.other g2 (by omega)); have RN2 : Hid (RowIs w2 86 2 g n cap (btsV (raiseB B nm fl).bts)) := RN1.out.blk (on.other g (by omega)); clear hz on)
  | (refine wpList_store_one rfl 3 (.tmp 159) (.tmp 158) rfl w.heap.size 0 (.int .i64 (B.now + 1)) rfl rfl Tryz.infosIntX rfl rfl 34 #[.int .i64 B.now, .slice (some ⟨g1, 0, none⟩) n1 k1, .slice (some ⟨g2, 0, none⟩) n2 k2, .slice (some ⟨g, 0, none⟩) n cap] X2.out (Nat.le_of_ble_eq_true rfl) ?_; intro w3 hz on; have X3 : Hid (w3.heap[w.heap.size]? = some (.cells #[.int .i64 (B.now + 1), .slice (some ⟨g1, 0, none⟩) n1 k1, .slice (some ⟨g2, 0, none⟩) n2 k2, .slice (some ⟨g, 0, none⟩) n cap] 34 (0, 0))) := hz; have Z3 : Hid _ := (on.other (w.heap.size + 1 + 1) (by omega)).trans Z2.out; have hb3 := hb2.trans (on.below.mono (by omega)); have RS3 : Hid (RowIs w3 48 13 g1 n1 k1 (svcsV B.svcs)) := RS2.out.blk (on.other g1 (by omega)); have RC3 : Hid (RowIs w3 88 7 g2 n2 k2 (cpsV B.cps)) := RC2.out.blk (on.other g2 (by omega)); have RN3 : Hid (RowIs w3 86 2 g n cap (btsV (raiseB B nm fl).bts)) := RN2.out.blk (on.other g (by omega)); clear hz on)
  | (refine wpList_load_row rfl 34 (.tmp 2) rfl w.heap.size rfl 34 #[.int .i64 (B.now + 1), .slice (some ⟨g1, 0, none⟩) n1 k1, .slice (some ⟨g2, 0, none⟩) n2 k2, .slice (some ⟨g, 0, none⟩) n cap] (0, 0) _ X3.out Tryz.underlying34 rfl Tryz.infosBkX ?_)
  | (refine wpList_store_only rfl 34 (.tmp 4) (.tmp 160) rfl (w.heap.size + 1 + 1) 0 #[.int .i64 (B.now + 1), .slice (some ⟨g1, 0, none⟩) n1 k1, .slice (some ⟨g2, 0, none⟩) n2 k2, .slice (some ⟨g, 0, none⟩) n cap] rfl rfl 34 #[.int .i64 0, .slice none 0 0, .slice none 0 0, .slice none 0 0] Z3.out Tryz.infosBkX (Nat.le_of_ble_eq_true rfl) (by simp [Value.oneCell']) ?_; intro w4 hz on; have Z4 : Hid (w4.heap[w.heap.size + 1 + 1]? = some (.cells #[.int .i64 (B.now + 1), .slice (some ⟨g1, 0, none⟩) n1 k1, .slice (some ⟨g2, 0, none⟩) n2 k2, .slice (some ⟨g, 0, none⟩) n cap] 34 (0, 0))) := hz; have hb4 := hb3.trans (on.below.mono (by omega)); have RS4 : Hid (RowIs w4 48 13 g1 n1 k1 (svcsV B.svcs)) := RS3.out.blk (on.other g1 (by omega)); have RC4 : Hid (RowIs w4 88 7 g2 n2 k2 (cpsV B.cps)) := RC3.out.blk (on.other g2 (by omega)); have RN4 : Hid (RowIs w4 86 2 g n cap (btsV (raiseB B nm fl).bts)) := RN3.out.blk (on.other g (by omega)); clear hz on))
 exact bodyPost_ret (v := .tuple #[.agg #[.int .i64 (B.now + 1), .slice (some ⟨g1, 0, none⟩) n1 k1, .slice (some ⟨g2, 0, none⟩) n2 k2, .slice (some ⟨g, 0, none⟩) n cap], .int .i64 0]) (results_cell_tmp rfl _ _ (w.heap.size + 1 + 1) _ _ _ _ rfl Z4.out Tryz.underlying34 rfl Tryz.infosBkX _ rfl) rfl ⟨_, _, _, _, _, _, _, _, _, _, rfl, fun _ => ⟨rfl, HN1.out.symm, HN2.out.symm, HNN.out, RS4.out, RC4.out, RN4.out⟩, keepBut_of hb4⟩
end Go.Proofs.YtbceafpodamnfabGreat
