/-
  My own: Xe.
-/
import Derived.Test.YtbceafpodamnfabGreatG05
import Derived.Test.YtbceafpodamnfabGreatG06
namespace Go.Proofs.YtbceafpodamnfabGreat
open Go.RowKit Go.Sort
def svNm (t : Svc) : List UInt8 := t.name.toList
def wishN (l : List Svc) (x : Svc) : Int := match l[aheadK (fun t => Op.bytesLess (svNm t) (svNm x)) l]? with
 | some t => if (svNm t == svNm x) = true then t.next else 1
 | none => 1
def wishS (l : List Svc) (x : Svc) (v : Int) : Svc := { x with version := v, cool := 0, next := wishN l x }
def wishB (B : Bk) (x : Svc) (v : Int) : Bk := { B with svcs := putIn svNm B.svcs (wishS B.svcs x v) }
theorem wishN_same {l : List Svc} {x t : Svc} {k : Nat} (h : aheadK (fun t => Op.bytesLess (svNm t) (svNm x)) l = k) (ht : l[k]? = some t) (hq : (svNm t == svNm x) = true) : wishN l x = t.next := by
 unfold wishN
 rw [h, ht]
 simp only
 rw [if_pos hq]
theorem wishN_other {l : List Svc} {x t : Svc} {k : Nat} (h : aheadK (fun t => Op.bytesLess (svNm t) (svNm x)) l = k) (ht : l[k]? = some t) (hq : (svNm t == svNm x) = false) : wishN l x = 1 := by
 unfold wishN
 rw [h, ht]
 simp only
 rw [if_neg (by rw [hq]; simp)]
theorem wishN_end {l : List Svc} {x : Svc} {k : Nat} (h : aheadK (fun t => Op.bytesLess (svNm t) (svNm x)) l = k) (ht : l[k]? = none) : wishN l x = 1 := by
 unfold wishN
 rw [h, ht]
theorem three_newV (w : World) (A B C : Obj) : ∃ W0, ((w.alloc A).alloc B).alloc C = W0 ∧ W0.heap[w.heap.size]? = some A ∧ W0.heap[w.heap.size + 1]? = some B ∧ W0.heap[w.heap.size + 1 + 1]? = some C ∧ w.heap.size + 1 + 1 + 1 ≤ W0.heap.size ∧ W0.heap.size ≤ w.heap.size + 1 + 1 + 1 ∧ Below w.heap.size w W0 := by
 obtain ⟨h1, h2, h3, h4⟩ := three_new w A B C
 exact ⟨_, rfl, h1, h2, h3, by omega, by omega, (((Below.refl _ _).alloc (Nat.le_refl _) _).alloc (by simp) _).alloc (by simp; omega) _⟩
theorem Tryz.infosSvcX : (Tryz.prog.info? 48).map (·.size) = some 13 := by kernel_rfl
theorem Tryz.infoSvcX : (Tryz.prog.info? 48).map (fun i => (i.zero, i.size, i.bytes)) = some (some (.agg #[.string ⟨#[]⟩, .int .i64 0, .bool false, .int .i64 0, .int .i64 0, .int .i64 0, .int .i64 0, .int .i64 0, .int .i64 0, .int .i64 0, .int .i64 0, .int .i64 0, .int .i64 0]), 13, 112) := by kernel_rfl
theorem Tryz.infosSvcsX : (Tryz.prog.info? 30).map (·.size) = some 1 := by kernel_rfl
theorem Tryz.undSvcsX : Tryz.prog.underlying 30 = some (.slice (Tryz.prog.elem 30)) := by kernel_rfl
theorem Tryz.infoElemX : (Tryz.prog.info? (Tryz.prog.elem 30)).map (·.size) = some 13 := by kernel_rfl
set_option maxRecDepth 100000 in
set_option maxHeartbeats 32000000 in
theorem l6Wish_any (B : Bk) (s : Svc) (v : Int) (a2 a3 : Option Addr) (c2 c3 g1 k1 n1 : Nat) (w : World) (hS : B.small) (HN1 : Hid (B.svcs.length = n1)) (hR : RowIs w 48 13 g1 n1 k1 (svcsV B.svcs)) :
  Calls Tryz.prog 84 #[.agg #[.int .i64 B.now, .slice (some ⟨g1, 0, none⟩) n1 k1, .slice a2 B.cps.length c2, .slice a3 B.bts.length c3], .agg #[.string s.name, .int .i64 s.version, .bool s.gone, .int .i64 s.image, .int .i64 s.want, .int .i64 s.down, .int .i64 s.over, .int .i64 s.next, .int .i64 s.per, .int .i64 s.least, .int .i64 s.most, .int .i64 s.load, .int .i64 s.cool], .int .i64 v] w fun e w' => ∃ g n cap, e = .returned (.agg #[.int .i64 B.now, .slice (some ⟨g, 0, none⟩) n cap, .slice a2 B.cps.length c2, .slice a3 B.bts.length c3]) ∧ Hid (n = (wishB B s v).svcs.length) ∧ w.heap.size ≤ g ∧ Hid (RowIs w' 48 13 g n cap (svcsV (wishB B s v).svcs)) ∧ Below w.heap.size w w' := by
 obtain ⟨hl1, hl2, hl3⟩ := hS
 rw [HN1.out] at hl1
 have hcap := hR.2.1
 have hg1 := hR.lt
 obtain ⟨W0, hW0, t0, t1, t2, hz0, hz0', hb0⟩ := three_newV w (.cells #[.int .i64 B.now, .slice (some ⟨g1, 0, none⟩) n1 k1, .slice a2 B.cps.length c2, .slice a3 B.bts.length c3] 34) (.cells #[.string s.name, .int .i64 s.version, .bool s.gone, .int .i64 s.image, .int .i64 s.want, .int .i64 s.down, .int .i64 s.over, .int .i64 s.next, .int .i64 s.per, .int .i64 s.least, .int .i64 s.most, .int .i64 s.load, .int .i64 s.cool] 48) (.cells #[.int .i64 0, .slice none 0 0, .slice none 0 0, .slice none 0 0] 34)
 have T0 : Hid _ := t0
 have T1 : Hid _ := t1
 have T2 : Hid _ := t2
 have HR0 : Hid (RowIs W0 48 13 g1 n1 k1 (svcsV B.svcs)) := hR.below hb0 hg1
 clear t0 t1 t2 hR
 go_enter Tryz.func84, Tryz.ntmps84
 go_upto_region 1 with fail
 clear hW0
 go_wp2
 go_loopw [7] (fun iv wr => ∃ k : Nat, k ≤ n1 ∧ iv = .int .i64 k ∧ Below w.heap.size w wr ∧ Hid (wr.heap[w.heap.size]? = some (.cells #[.int .i64 B.now, .slice (some ⟨g1, 0, none⟩) n1 k1, .slice a2 B.cps.length c2, .slice a3 B.bts.length c3] 34 (0, 0))) ∧ Hid (wr.heap[w.heap.size + 1]? = some (.cells #[.string s.name, .int .i64 s.version, .bool s.gone, .int .i64 s.image, .int .i64 s.want, .int .i64 s.down, .int .i64 s.over, .int .i64 s.next, .int .i64 s.per, .int .i64 s.least, .int .i64 s.most, .int .i64 s.load, .int .i64 s.cool] 48 (0, 0))) ∧ Hid (wr.heap[w.heap.size + 1 + 1]? = some (.cells #[.int .i64 0, .slice none 0 0, .slice none 0 0, .slice none 0 0] 34 (0, 0))) ∧ Hid (RowIs wr 48 13 g1 n1 k1 (svcsV B.svcs)) ∧ Hid (∀ (i : Nat) t, i < k → B.svcs[i]? = some t → Op.bytesLess t.name.toList s.name.toList = true)) (fun i _ => n1 - (intOf i).toNat)
 case atStart => exact ⟨0, by omega, rfl, hb0, T0, T1, T2, HR0, fun i t hi => absurd hi (by omega)⟩
 case round =>
  clear hb0 T0 T1 T2 HR0 hz0 hz0'
  obtain ⟨k, hk, rfl, hb, HX, HV, HZ, HR, HA⟩ := hrel
  have HKN : Hid (k ≤ B.svcs.length) := by unfold Hid; rw [HN1.out]; exact hk
  have hzr : w.heap.size + 1 + 1 < wr.heap.size := (Array.getElem?_eq_some_iff.1 HZ.out).1
  have x1 := gcell HX.out 1 rfl
  have v0 := gcell HV.out 0 rfl
  have hb0 := hb
  have X0 : Hid _ := HX
  have V0 : Hid _ := HV
  have Z0 : Hid _ := HZ
  have R0 : Hid (RowIs wr 48 13 g1 n1 k1 (svcsV B.svcs)) := HR.out
  have HTL : Hid ((B.svcs.take k).length = k) := by unfold Hid; rw [List.length_take]; have := HKN.out; omega
  obtain ⟨w0, hw0⟩ : ∃ q, wr = q := ⟨_, rfl⟩
  rw [hw0] at hb0 X0 V0 Z0 R0 x1 v0 hzr ⊢
  clear hw0 hb HX HV HZ HR
  by_cases hlt : k < n1
  ·obtain ⟨t, htk⟩ : ∃ t, B.svcs[k]? = some t := ⟨B.svcs[k]'(by rw [HN1.out]; exact hlt), by simp [HN1.out, hlt]⟩
   have HTK : Hid (B.svcs[k]? = some t) := htk
   have y0 : ∀ p : Regrown, (grow (redrawn w0 p.d) p.os).cell? ⟨g1, k * 13, none⟩ = some (.string t.name) := fun p => cell_regrown (R0.out.cell (flat_at (c := Svc.cells) (n := 13) (fun _ => rfl) B.svcs k t 0 (.string t.name) htk rfl)) p.d p.os
   clear htk
   go_wp2
   refine wp_region_quiet_below (by kernel_rfl) (by kernel_rfl) ?_
   repeat (first | go_big_quiet_step (fail) | quiet_step (fail))
   refine wpQuiet_nil ?_
   intro w1 hw'
   obtain ⟨⟨dq, osq⟩, hw''⟩ := hw'
   have hbq : Below w0.heap.size w0 w1 := by rw [hw'']; exact below_regrown _ _ _
   clear hw''
   have hb1 := hb0.trans (hbq.mono hb0.size)
   have X1 : Hid _ := below_blk hbq X0.out (by omega)
   have V1 : Hid _ := below_blk hbq V0.out (by omega)
   have Z1 : Hid _ := below_blk hbq Z0.out (by omega)
   have R1 : Hid (RowIs w1 48 13 g1 n1 k1 (svcsV B.svcs)) := R0.out.below hbq (by omega)
   have hz1 : w.heap.size + 1 + 1 < w1.heap.size := (Array.getElem?_eq_some_iff.1 Z1.out).1
   clear hbq
   clear x1 v0 y0 X0 V0 Z0 R0 hb0 hzr
   cases hle : Op.bytesLess t.name.toList s.name.toList
   ·have HK : Hid (aheadK (fun t => Op.bytesLess (svNm t) (svNm s)) B.svcs = k) := aheadK_is HKN.out HA.out fun t' ht => by rw [HTK.out] at ht; cases ht; exact hle
    cases hq : (t.name.toList == s.name.toList)
    ·have HPUT : Hid ((wishB B s v).svcs = B.svcs.take k ++ { s with version := v, cool := 0, next := 1 } :: B.svcs.drop k) := by unfold Hid wishB; rw [show wishS B.svcs s v = { s with version := v, cool := 0, next := 1 } by unfold wishS; rw [wishN_other HK.out HTK.out hq]]; exact putIn_other (x := { s with version := v, cool := 0, next := 1 }) HK.out HTK.out hq
     go_wp2_with (first
      | (refine wpList_store_one rfl 3 (.tmp 28) (.tmp 27) rfl (w.heap.size + 1) 1 (.int .i64 v) rfl rfl Tryz.infosIntX rfl rfl 48 #[.string s.name, .int .i64 s.version, .bool s.gone, .int .i64 s.image, .int .i64 s.want, .int .i64 s.down, .int .i64 s.over, .int .i64 s.next, .int .i64 s.per, .int .i64 s.least, .int .i64 s.most, .int .i64 s.load, .int .i64 s.cool] V1.out (Nat.le_of_ble_eq_true rfl) ?_; intro w2 hz on; have V2 : Hid (w2.heap[w.heap.size + 1]? = some (.cells #[.string s.name, .int .i64 v, .bool s.gone, .int .i64 s.image, .int .i64 s.want, .int .i64 s.down, .int .i64 s.over, .int .i64 s.next, .int .i64 s.per, .int .i64 s.least, .int .i64 s.most, .int .i64 s.load, .int .i64 s.cool] 48 (0, 0))) := hz; have X2 : Hid _ := (on.other w.heap.size (by omega)).trans X1.out; have Z2 : Hid _ := (on.other (w.heap.size + 1 + 1) (by omega)).trans Z1.out; have R2 : Hid (RowIs w2 48 13 g1 n1 k1 (svcsV B.svcs)) := R1.out.blk (on.other g1 (by omega)); have hb2 := hb1.trans (on.below.mono (by omega)); clear hz on)
      | (refine wpList_store_one rfl 3 (.tmp 29) (.const (.int .i64 0)) rfl (w.heap.size + 1) 12 (.int .i64 0) rfl rfl Tryz.infosIntX rfl rfl 48 #[.string s.name, .int .i64 v, .bool s.gone, .int .i64 s.image, .int .i64 s.want, .int .i64 s.down, .int .i64 s.over, .int .i64 s.next, .int .i64 s.per, .int .i64 s.least, .int .i64 s.most, .int .i64 s.load, .int .i64 s.cool] V2.out (Nat.le_of_ble_eq_true rfl) ?_; intro w3 hz on; have V3 : Hid (w3.heap[w.heap.size + 1]? = some (.cells #[.string s.name, .int .i64 v, .bool s.gone, .int .i64 s.image, .int .i64 s.want, .int .i64 s.down, .int .i64 s.over, .int .i64 s.next, .int .i64 s.per, .int .i64 s.least, .int .i64 s.most, .int .i64 s.load, .int .i64 0] 48 (0, 0))) := hz; have X3 : Hid _ := (on.other w.heap.size (by omega)).trans X2.out; have Z3 : Hid _ := (on.other (w.heap.size + 1 + 1) (by omega)).trans Z2.out; have R3 : Hid (RowIs w3 48 13 g1 n1 k1 (svcsV B.svcs)) := R2.out.blk (on.other g1 (by omega)); have hb3 := hb2.trans (on.below.mono (by omega)); clear hz on; have x1 := blk_cell X3.out 1 rfl)
      | (refine wpList_slice_off rfl 30 (.tmp 31) (some (.tmp 32)) none none rfl Tryz.undSvcsX 13 Tryz.infoElemX g1 0 n1 k1 k n1 k1 rfl (some (.int .i64 k)) none none rfl rfl rfl (fun w => run_slice_l w _ _ _ _ Tryz.undSvcsX .i64 k (by omega) (by omega)) ?_; intro off hoff; obtain ⟨nk, hnk⟩ : ∃ q, n1 - k = q := ⟨_, rfl⟩; rw [hnk]; have hnk1 : n1 ≤ k + nk := (by omega); have hnk2 : k + nk ≤ n1 := (by omega); clear hnk)
      | (refine wpList_store_one rfl 3 (.tmp 34) (.const (.int .i64 1)) rfl (w.heap.size + 1) 7 (.int .i64 1) rfl rfl Tryz.infosIntX rfl rfl 48 #[.string s.name, .int .i64 v, .bool s.gone, .int .i64 s.image, .int .i64 s.want, .int .i64 s.down, .int .i64 s.over, .int .i64 s.next, .int .i64 s.per, .int .i64 s.least, .int .i64 s.most, .int .i64 s.load, .int .i64 0] V3.out (Nat.le_of_ble_eq_true rfl) ?_; intro w4 hz on; have V4 : Hid (w4.heap[w.heap.size + 1]? = some (.cells #[.string s.name, .int .i64 v, .bool s.gone, .int .i64 s.image, .int .i64 s.want, .int .i64 s.down, .int .i64 s.over, .int .i64 1, .int .i64 s.per, .int .i64 s.least, .int .i64 s.most, .int .i64 s.load, .int .i64 0] 48 (0, 0))) := hz; have X4 : Hid _ := (on.other w.heap.size (by omega)).trans X3.out; have Z4 : Hid _ := (on.other (w.heap.size + 1 + 1) (by omega)).trans Z3.out; have R4 : Hid (RowIs w4 48 13 g1 n1 k1 (svcsV B.svcs)) := R3.out.blk (on.other g1 (by omega)); have hb4 := hb3.trans (on.below.mono (by omega)); clear hz on))
     clear x1
     have hz4 : w.heap.size + 1 + 1 < w4.heap.size := (Array.getElem?_eq_some_iff.1 Z4.out).1
     have v0 := gcell V4.out 0 rfl
     obtain rfl : off = k * 13 := by omega
     have hnk0 : 0 < nk := by omega
     have y0 : ∀ p : Regrown, (grow (redrawn w4 p.d) p.os).cell? ⟨g1, k * 13, none⟩ = some (.string t.name) := fun p => cell_regrown (R4.out.cell (flat_at (c := Svc.cells) (n := 13) (fun _ => rfl) B.svcs k t 0 (.string t.name) HTK.out rfl)) p.d p.os
     refine wp_region_quiet_below (by kernel_rfl) (by kernel_rfl) ?_
     repeat (first | go_big_quiet_step (fail) | quiet_step (fail))
     refine wpQuiet_nil ?_
     intro w5 hw'
     obtain ⟨⟨dq, osq⟩, hw''⟩ := hw'
     have hbq : Below w4.heap.size w4 w5 := by rw [hw'']; exact below_regrown _ _ _
     clear hw''
     have hb5 := hb4.trans (hbq.mono hb4.size)
     have X5 : Hid _ := below_blk hbq X4.out (by omega)
     have V5 : Hid _ := below_blk hbq V4.out (by omega)
     have Z5 : Hid _ := below_blk hbq Z4.out (by omega)
     have R5 : Hid (RowIs w5 48 13 g1 n1 k1 (svcsV B.svcs)) := R4.out.below hbq (by omega)
     have hz5 : w.heap.size + 1 + 1 < w5.heap.size := (Array.getElem?_eq_some_iff.1 Z5.out).1
     clear hbq
     clear v0 y0 X1 X2 X3 X4 V1 V2 V3 V4 Z1 Z2 Z3 Z4 R1 R2 R3 R4 hb1 hb2 hb3 hb4 hz4 hz1
     go_wp2
     obtain ⟨mm, hmm⟩ : ∃ q, nk = q := ⟨_, rfl⟩
     subst hmm
     have HRL : Hid ((B.svcs.drop k).length = nk) := by unfold Hid; rw [List.length_drop, HN1.out]; omega
     have SRD : Hid (∀ W : World, Below w5.heap.size w5 W → ∀ j u, (svcsV (B.svcs.drop k))[j]? = some u → W.cell? ((⟨g1, k * 13, none⟩ : Addr).add j) = some u) := fun W hW => by
      exact (R5.out.below hW (by omega)).srcDrop (c := Svc.cells) (fun _ => rfl) k
     refine wp_region_owns 12 2 [[], [], [1], [], [2, 3], [0, 4], [], [6], [5, 7], [], [8, 9], []] [8, 10] [0, 5, 7, 8, 10] [10] (by kernel_rfl) (by kernel_rfl) (by kernel_rfl) ?_
     refine own_grow (fun vv W => ∃ g, vv = .slice (some ⟨g, 0, none⟩) 0 0 ∧ w5.heap.size ≤ g ∧ W.heap[g]? = some (.cells #[] 48 (0, 0))) (fun v W W2 ⟨g, h1, h2, h3⟩ hb => ⟨g, h1, h2, below_blk hb h3 (Array.getElem?_eq_some_iff.1 h3).1⟩) (by kernel_rfl) (by kernel_rfl) ?_ ?_
     ·intro V W K A hW hd hA hK
      simp only [putAll, List.getElem?_toArray, List.getElem?_cons_succ, List.getElem?_cons_zero, Option.bind_some, Act.put, List.setIfInBounds_toArray, List.set_cons_succ, List.set_cons_zero] at hA
      clear hd
      generalize V 0 = x0 at hA
      generalize V 1 = x1 at hA
      generalize V 2 = x2 at hA
      generalize V 3 = x3 at hA
      generalize V 4 = x4 at hA
      generalize V 5 = x5 at hA
      generalize V 6 = x6 at hA
      generalize V 7 = x7 at hA
      generalize V 8 = x8 at hA
      generalize V 9 = x9 at hA
      generalize V 10 = x10 at hA
      generalize V 11 = x11 at hA
      obtain rfl := hA
      go_wp2
      exact hK.out _ _ (below_box W _) ⟨_, rfl, hW.size, heap_alloc_new W _⟩
     apply own_eq (by kernel_rfl)
     ·intro V W K A hW hd hA hK
      simp only [putAll, List.getElem?_toArray, List.getElem?_cons_succ, List.getElem?_cons_zero, Option.bind_some, Act.put, List.setIfInBounds_toArray, List.set_cons_succ, List.set_cons_zero] at hA
      clear hd
      generalize V 0 = x0 at hA
      generalize V 1 = x1 at hA
      generalize V 2 = x2 at hA
      generalize V 3 = x3 at hA
      generalize V 4 = x4 at hA
      generalize V 5 = x5 at hA
      generalize V 6 = x6 at hA
      generalize V 7 = x7 at hA
      generalize V 8 = x8 at hA
      generalize V 9 = x9 at hA
      generalize V 10 = x10 at hA
      generalize V 11 = x11 at hA
      obtain rfl := hA
      go_wp2
      exact hK.out _ (Below.refl _ _)
     apply own_eq (by kernel_rfl)
     ·intro V W K A hW hd hA hK
      have d1 : V 1 = _ := hd 1 (by kernel_rfl)
      simp only [putAll, List.getElem?_toArray, List.getElem?_cons_succ, List.getElem?_cons_zero, Option.bind_some, Act.put, List.setIfInBounds_toArray, List.set_cons_succ, List.set_cons_zero] at hA
      clear hd
      generalize V 0 = x0 at hA
      generalize V 1 = x1 at d1 hA
      generalize V 2 = x2 at hA
      generalize V 3 = x3 at hA
      generalize V 4 = x4 at hA
      generalize V 5 = x5 at hA
      generalize V 6 = x6 at hA
      generalize V 7 = x7 at hA
      generalize V 8 = x8 at hA
      generalize V 9 = x9 at hA
      generalize V 10 = x10 at hA
      generalize V 11 = x11 at hA
      subst d1
      obtain rfl := hA
      have x1 := blk_cell (below_blk hW X5.out (by omega)) 1 rfl
      go_wp2
      exact hK.out _ (Below.refl _ _)
     apply own_eq (by kernel_rfl)
     ·intro V W K A hW hd hA hK
      simp only [putAll, List.getElem?_toArray, List.getElem?_cons_succ, List.getElem?_cons_zero, Option.bind_some, Act.put, List.setIfInBounds_toArray, List.set_cons_succ, List.set_cons_zero] at hA
      clear hd
      generalize V 0 = x0 at hA
      generalize V 1 = x1 at hA
      generalize V 2 = x2 at hA
      generalize V 3 = x3 at hA
      generalize V 4 = x4 at hA
      generalize V 5 = x5 at hA
      generalize V 6 = x6 at hA
      generalize V 7 = x7 at hA
      generalize V 8 = x8 at hA
      generalize V 9 = x9 at hA
      generalize V 10 = x10 at hA
      generalize V 11 = x11 at hA
      obtain rfl := hA
      go_wp2
      exact hK.out _ (Below.refl _ _)
     apply own_eq (by kernel_rfl)
     ·intro V W K A hW hd hA hK
      have d2 : V 2 = _ := hd 2 (by kernel_rfl)
      have d3 : V 3 = _ := hd 3 (by kernel_rfl)
      simp only [putAll, List.getElem?_toArray, List.getElem?_cons_succ, List.getElem?_cons_zero, Option.bind_some, Act.put, List.setIfInBounds_toArray, List.set_cons_succ, List.set_cons_zero] at hA
      clear hd
      generalize V 0 = x0 at hA
      generalize V 1 = x1 at hA
      generalize V 2 = x2 at d2 hA
      generalize V 3 = x3 at d3 hA
      generalize V 4 = x4 at hA
      generalize V 5 = x5 at hA
      generalize V 6 = x6 at hA
      generalize V 7 = x7 at hA
      generalize V 8 = x8 at hA
      generalize V 9 = x9 at hA
      generalize V 10 = x10 at hA
      generalize V 11 = x11 at hA
      subst d2
      subst d3
      obtain rfl := hA
      go_wp2
      exact hK.out _ (Below.refl _ _)
     refine own_grow (fun vv W => ∃ g cap, vv = .slice (some ⟨g, 0, none⟩) (k) cap ∧ w5.heap.size ≤ g ∧ RowIs W 48 13 g (k) cap (svcsV (B.svcs.take k))) (fun v W W2 ⟨g, cap, h1, h2, h3⟩ hb => ⟨g, cap, h1, h2, h3.below hb h3.lt⟩) (by kernel_rfl) (by kernel_rfl) ?_ ?_
     ·intro V W K A hW hd hA hK
      have d0 : (fun vv W => ∃ g, vv = .slice (some ⟨g, 0, none⟩) 0 0 ∧ w5.heap.size ≤ g ∧ W.heap[g]? = some (.cells #[] 48 (0, 0))) (V 0) W := hd 0 (by kernel_rfl)
      have d4 : V 4 = _ := hd 4 (by kernel_rfl)
      simp only [putAll, List.getElem?_toArray, List.getElem?_cons_succ, List.getElem?_cons_zero, Option.bind_some, Act.put, List.setIfInBounds_toArray, List.set_cons_succ, List.set_cons_zero] at hA
      clear hd
      generalize V 0 = x0 at d0 hA
      generalize V 1 = x1 at hA
      generalize V 2 = x2 at hA
      generalize V 3 = x3 at hA
      generalize V 4 = x4 at d4 hA
      generalize V 5 = x5 at hA
      generalize V 6 = x6 at hA
      generalize V 7 = x7 at hA
      generalize V 8 = x8 at hA
      generalize V 9 = x9 at hA
      generalize V 10 = x10 at hA
      generalize V 11 = x11 at hA
      subst d4
      obtain rfl := hA
      obtain ⟨g, rfl, hg, hgz⟩ := d0
      refine wpList_append_fresh rfl (.tmp 54) (.tmp 58) 30 rfl 48 _ 13 112 Tryz.underlying30 Tryz.infoSvcX rfl g rfl hgz (some ⟨g1, 0, none⟩) k _ (svcsV (B.svcs.take k)) rfl (by rw [svcsV_len, HTL.out]) (fun _ => ⟨_, rfl, (R5.out.below hW (by omega)).srcTake (c := Svc.cells) (fun _ => rfl) k⟩) (svcsV_one _) (by unfold maxLen; omega) (by omega) ?_
      intro g' cap' w2 hg' hrow hb2
      have hgg : w5.heap.size ≤ g' := by have := hW.size; rcases hg' with rfl | rfl <;> omega
      go_wp2
      exact hK.out _ _ hb2 ⟨g', cap', rfl, hgg, hrow.out⟩
     apply own_eq (by kernel_rfl)
     ·intro V W K A hW hd hA hK
      simp only [putAll, List.getElem?_toArray, List.getElem?_cons_succ, List.getElem?_cons_zero, Option.bind_some, Act.put, List.setIfInBounds_toArray, List.set_cons_succ, List.set_cons_zero] at hA
      clear hd
      generalize V 0 = x0 at hA
      generalize V 1 = x1 at hA
      generalize V 2 = x2 at hA
      generalize V 3 = x3 at hA
      generalize V 4 = x4 at hA
      generalize V 5 = x5 at hA
      generalize V 6 = x6 at hA
      generalize V 7 = x7 at hA
      generalize V 8 = x8 at hA
      generalize V 9 = x9 at hA
      generalize V 10 = x10 at hA
      generalize V 11 = x11 at hA
      obtain rfl := hA
      refine wpList_load_row rfl 48 (.tmp 4) rfl (w.heap.size + 1) rfl 48 #[.string s.name, .int .i64 v, .bool s.gone, .int .i64 s.image, .int .i64 s.want, .int .i64 s.down, .int .i64 s.over, .int .i64 1, .int .i64 s.per, .int .i64 s.least, .int .i64 s.most, .int .i64 s.load, .int .i64 0] (0, 0) _ (below_blk hW V5.out (by omega)) Tryz.underlying48 rfl Tryz.infosSvcX ?_
      go_wp2
      exact hK.out _ (Below.refl _ _)
     refine own_grow (fun vv W => ∃ g, vv = .slice (some ⟨g, 0, none⟩) 1 1 ∧ w5.heap.size ≤ g ∧ W.heap[g]? = some (.cells #[.string s.name, .int .i64 v, .bool s.gone, .int .i64 s.image, .int .i64 s.want, .int .i64 s.down, .int .i64 s.over, .int .i64 1, .int .i64 s.per, .int .i64 s.least, .int .i64 s.most, .int .i64 s.load, .int .i64 0] 48 (0, 0))) (fun v W W2 ⟨g, h1, h2, h3⟩ hb => ⟨g, h1, h2, below_blk hb h3 (Array.getElem?_eq_some_iff.1 h3).1⟩) (by kernel_rfl) (by kernel_rfl) ?_ ?_
     ·intro V W K A hW hd hA hK
      have d6 : V 6 = _ := hd 6 (by kernel_rfl)
      simp only [putAll, List.getElem?_toArray, List.getElem?_cons_succ, List.getElem?_cons_zero, Option.bind_some, Act.put, List.setIfInBounds_toArray, List.set_cons_succ, List.set_cons_zero] at hA
      clear hd
      generalize V 0 = x0 at hA
      generalize V 1 = x1 at hA
      generalize V 2 = x2 at hA
      generalize V 3 = x3 at hA
      generalize V 4 = x4 at hA
      generalize V 5 = x5 at hA
      generalize V 6 = x6 at d6 hA
      generalize V 7 = x7 at hA
      generalize V 8 = x8 at hA
      generalize V 9 = x9 at hA
      generalize V 10 = x10 at hA
      generalize V 11 = x11 at hA
      subst d6
      obtain rfl := hA
      go_wp2
      exact hK.out _ _ (below_box W _) ⟨_, rfl, hW.size, heap_alloc_new W _⟩
     refine own_own (fun vv W => ∃ g cap, vv = .slice (some ⟨g, 0, none⟩) (k + 1) cap ∧ w5.heap.size ≤ g ∧ RowIs W 48 13 g (k + 1) cap (svcsV (B.svcs.take k) ++ (#[.string s.name, .int .i64 v, .bool s.gone, .int .i64 s.image, .int .i64 s.want, .int .i64 s.down, .int .i64 s.over, .int .i64 1, .int .i64 s.per, .int .i64 s.least, .int .i64 s.most, .int .i64 s.load, .int .i64 0] : Array Value).toList)) (fun v W W2 ⟨g, cap, h1, h2, h3⟩ hb => ⟨g, cap, h1, h2, h3.below hb h3.lt⟩) (by kernel_rfl) (by kernel_rfl) ?_ ?_
     ·intro V W K A hW hd hA hK
      have d5 : (fun vv W => ∃ g cap, vv = .slice (some ⟨g, 0, none⟩) (k) cap ∧ w5.heap.size ≤ g ∧ RowIs W 48 13 g (k) cap (svcsV (B.svcs.take k))) (V 5) W := hd 5 (by kernel_rfl)
      have d7 : (fun vv W => ∃ g, vv = .slice (some ⟨g, 0, none⟩) 1 1 ∧ w5.heap.size ≤ g ∧ W.heap[g]? = some (.cells #[.string s.name, .int .i64 v, .bool s.gone, .int .i64 s.image, .int .i64 s.want, .int .i64 s.down, .int .i64 s.over, .int .i64 1, .int .i64 s.per, .int .i64 s.least, .int .i64 s.most, .int .i64 s.load, .int .i64 0] 48 (0, 0))) (V 7) W := hd 7 (by kernel_rfl)
      simp only [putAll, List.getElem?_toArray, List.getElem?_cons_succ, List.getElem?_cons_zero, Option.bind_some, Act.put, List.setIfInBounds_toArray, List.set_cons_succ, List.set_cons_zero] at hA
      clear hd
      generalize V 0 = x0 at hA
      generalize V 1 = x1 at hA
      generalize V 2 = x2 at hA
      generalize V 3 = x3 at hA
      generalize V 4 = x4 at hA
      generalize V 5 = x5 at d5 hA
      generalize V 6 = x6 at hA
      generalize V 7 = x7 at d7 hA
      generalize V 8 = x8 at hA
      generalize V 9 = x9 at hA
      generalize V 10 = x10 at hA
      generalize V 11 = x11 at hA
      obtain rfl := hA
      obtain ⟨gA, capA, rfl, hgA, hrA⟩ := d5
      obtain ⟨gb, rfl, hgb, hbz⟩ := d7
      refine wpList_append_row rfl (.tmp 59) (.tmp 61) 30 rfl 48 _ 13 112 Tryz.underlying30 Tryz.infoSvcX rfl gA k capA _ rfl hrA ⟨gb, 0, none⟩ 1 1 (#[.string s.name, .int .i64 v, .bool s.gone, .int .i64 s.image, .int .i64 s.want, .int .i64 s.down, .int .i64 s.over, .int .i64 1, .int .i64 s.per, .int .i64 s.least, .int .i64 s.most, .int .i64 s.load, .int .i64 0] : Array Value).toList rfl rfl (news_row hbz) (by simp [Value.oneCell']) (by unfold maxLen; omega) (by omega) ?_
      intro g' cap' w2 hg' hrow hgr
      have hgg : w5.heap.size ≤ g' := by have := hW.size; rcases hg' with rfl | rfl <;> omega
      have hbo := below_of_grown hgr hgA hW.size
      clear hgr
      go_wp2
      exact hK.out _ _ hbo ⟨g', cap', rfl, hgg, hrow.out⟩
     apply own_eq (by kernel_rfl)
     ·intro V W K A hW hd hA hK
      simp only [putAll, List.getElem?_toArray, List.getElem?_cons_succ, List.getElem?_cons_zero, Option.bind_some, Act.put, List.setIfInBounds_toArray, List.set_cons_succ, List.set_cons_zero] at hA
      clear hd
      generalize V 0 = x0 at hA
      generalize V 1 = x1 at hA
      generalize V 2 = x2 at hA
      generalize V 3 = x3 at hA
      generalize V 4 = x4 at hA
      generalize V 5 = x5 at hA
      generalize V 6 = x6 at hA
      generalize V 7 = x7 at hA
      generalize V 8 = x8 at hA
      generalize V 9 = x9 at hA
      generalize V 10 = x10 at hA
      generalize V 11 = x11 at hA
      obtain rfl := hA
      go_wp2
      exact hK.out _ (Below.refl _ _)
     refine own_own (fun vv W => ∃ g cap, vv = .slice (some ⟨g, 0, none⟩) (k + 1 + nk) cap ∧ w5.heap.size ≤ g ∧ RowIs W 48 13 g (k + 1 + nk) cap (svcsV (B.svcs.take k) ++ (#[.string s.name, .int .i64 v, .bool s.gone, .int .i64 s.image, .int .i64 s.want, .int .i64 s.down, .int .i64 s.over, .int .i64 1, .int .i64 s.per, .int .i64 s.least, .int .i64 s.most, .int .i64 s.load, .int .i64 0] : Array Value).toList ++ svcsV (B.svcs.drop k))) (fun v W W2 ⟨g, cap, h1, h2, h3⟩ hb => ⟨g, cap, h1, h2, h3.below hb h3.lt⟩) (by kernel_rfl) (by kernel_rfl) ?_ ?_
     ·intro V W K A hW hd hA hK
      have d8 : (fun vv W => ∃ g cap, vv = .slice (some ⟨g, 0, none⟩) (k + 1) cap ∧ w5.heap.size ≤ g ∧ RowIs W 48 13 g (k + 1) cap (svcsV (B.svcs.take k) ++ (#[.string s.name, .int .i64 v, .bool s.gone, .int .i64 s.image, .int .i64 s.want, .int .i64 s.down, .int .i64 s.over, .int .i64 1, .int .i64 s.per, .int .i64 s.least, .int .i64 s.most, .int .i64 s.load, .int .i64 0] : Array Value).toList)) (V 8) W := hd 8 (by kernel_rfl)
      have d9 : V 9 = _ := hd 9 (by kernel_rfl)
      simp only [putAll, List.getElem?_toArray, List.getElem?_cons_succ, List.getElem?_cons_zero, Option.bind_some, Act.put, List.setIfInBounds_toArray, List.set_cons_succ, List.set_cons_zero] at hA
      clear hd
      generalize V 0 = x0 at hA
      generalize V 1 = x1 at hA
      generalize V 2 = x2 at hA
      generalize V 3 = x3 at hA
      generalize V 4 = x4 at hA
      generalize V 5 = x5 at hA
      generalize V 6 = x6 at hA
      generalize V 7 = x7 at hA
      generalize V 8 = x8 at d8 hA
      generalize V 9 = x9 at d9 hA
      generalize V 10 = x10 at hA
      generalize V 11 = x11 at hA
      subst d9
      obtain rfl := hA
      obtain ⟨gA, capA, rfl, hgA, hrA⟩ := d8
      refine wpList_append_row rfl (.tmp 62) (.tmp 63) 30 rfl 48 _ 13 112 Tryz.underlying30 Tryz.infoSvcX rfl gA (k + 1) capA _ rfl hrA ⟨g1, k * 13, none⟩ nk _ (svcsV (B.svcs.drop k)) rfl (by rw [svcsV_len, HRL.out]) (SRD.out W hW) (svcsV_one _) (by unfold maxLen; omega) (by omega) ?_
      intro g' cap' w2 hg' hrow hgr
      have hgg : w5.heap.size ≤ g' := by have := hW.size; rcases hg' with rfl | rfl <;> omega
      have hbo := below_of_grown hgr hgA hW.size
      clear hgr
      go_wp2
      exact hK.out _ _ hbo ⟨g', cap', rfl, hgg, hrow.out⟩
     apply own_eq (by kernel_rfl)
     ·intro V W K A hW hd hA hK
      simp only [putAll, List.getElem?_toArray, List.getElem?_cons_succ, List.getElem?_cons_zero, Option.bind_some, Act.put, List.setIfInBounds_toArray, List.set_cons_succ, List.set_cons_zero] at hA
      clear hd
      generalize V 0 = x0 at hA
      generalize V 1 = x1 at hA
      generalize V 2 = x2 at hA
      generalize V 3 = x3 at hA
      generalize V 4 = x4 at hA
      generalize V 5 = x5 at hA
      generalize V 6 = x6 at hA
      generalize V 7 = x7 at hA
      generalize V 8 = x8 at hA
      generalize V 9 = x9 at hA
      generalize V 10 = x10 at hA
      generalize V 11 = x11 at hA
      obtain rfl := hA
      go_wp2
      exact hK.out _ (Below.refl _ _)
     intro V W A hW hS hA
     have d1 : V 1 = _ := hS 1 (by omega) (.inr (by kernel_rfl))
     have d2 : V 2 = _ := hS 2 (by omega) (.inr (by kernel_rfl))
     have d3 : V 3 = _ := hS 3 (by omega) (.inr (by kernel_rfl))
     have d4 : V 4 = _ := hS 4 (by omega) (.inr (by kernel_rfl))
     have d6 : V 6 = _ := hS 6 (by omega) (.inr (by kernel_rfl))
     have d9 : V 9 = _ := hS 9 (by omega) (.inr (by kernel_rfl))
     have d10 : (fun vv W => ∃ g cap, vv = .slice (some ⟨g, 0, none⟩) (k + 1 + nk) cap ∧ w5.heap.size ≤ g ∧ RowIs W 48 13 g (k + 1 + nk) cap (svcsV (B.svcs.take k) ++ (#[.string s.name, .int .i64 v, .bool s.gone, .int .i64 s.image, .int .i64 s.want, .int .i64 s.down, .int .i64 s.over, .int .i64 1, .int .i64 s.per, .int .i64 s.least, .int .i64 s.most, .int .i64 s.load, .int .i64 0] : Array Value).toList ++ svcsV (B.svcs.drop k))) (V 10) W := hS 10 (by omega) (.inl (by kernel_rfl))
     have d11 : V 11 = _ := hS 11 (by omega) (.inr (by kernel_rfl))
     simp only [putAll, List.getElem?_toArray, List.getElem?_cons_succ, List.getElem?_cons_zero, Option.bind_some, Act.put, List.setIfInBounds_toArray, List.set_cons_succ, List.set_cons_zero] at hA
     clear hS
     generalize V 0 = x0 at hA
     generalize V 1 = x1 at d1 hA
     generalize V 2 = x2 at d2 hA
     generalize V 3 = x3 at d3 hA
     generalize V 4 = x4 at d4 hA
     generalize V 5 = x5 at hA
     generalize V 6 = x6 at d6 hA
     generalize V 7 = x7 at hA
     generalize V 8 = x8 at hA
     generalize V 9 = x9 at d9 hA
     generalize V 10 = x10 at d10 hA
     generalize V 11 = x11 at d11 hA
     subst d1
     subst d2
     subst d3
     subst d4
     subst d6
     subst d9
     subst d11
     obtain rfl := hA
     simp only [List.drop_succ_cons, List.drop_zero]
     obtain ⟨gC, capC, rfl, hgC, hrC⟩ := d10
     have RC : Hid (RowIs W 48 13 gC (k + 1 + nk) capC (svcsV (B.svcs.take k) ++ (#[.string s.name, .int .i64 v, .bool s.gone, .int .i64 s.image, .int .i64 s.want, .int .i64 s.down, .int .i64 s.over, .int .i64 1, .int .i64 s.per, .int .i64 s.least, .int .i64 s.most, .int .i64 s.load, .int .i64 0] : Array Value).toList ++ svcsV (B.svcs.drop k))) := hrC
     clear hrC
     have hbW := hb5.trans (hW.mono hb5.size)
     have XW : Hid _ := below_blk hW X5.out (by omega)
     have ZW : Hid _ := below_blk hW Z5.out (by omega)
     have hzW : w.heap.size + 1 + 1 < W.heap.size := (Array.getElem?_eq_some_iff.1 ZW.out).1
     go_wp2_with (first
      | (refine wpList_store_one rfl 30 (.tmp 65) (.tmp 64) rfl w.heap.size 1 (.slice (some ⟨gC, 0, none⟩) (k + 1 + nk) capC) rfl rfl Tryz.infosSvcsX rfl rfl 34 #[.int .i64 B.now, .slice (some ⟨g1, 0, none⟩) n1 k1, .slice a2 B.cps.length c2, .slice a3 B.bts.length c3] XW.out (Nat.le_of_ble_eq_true rfl) ?_; intro w8 hz on; have X8 : Hid (w8.heap[w.heap.size]? = some (.cells #[.int .i64 B.now, .slice (some ⟨gC, 0, none⟩) (k + 1 + nk) capC, .slice a2 B.cps.length c2, .slice a3 B.bts.length c3] 34 (0, 0))) := hz; have Z8 : Hid _ := (on.other (w.heap.size + 1 + 1) (by omega)).trans ZW.out; have R8 : Hid (RowIs w8 48 13 gC (k + 1 + nk) capC _) := RC.out.blk (on.other gC (by omega)); have hb8 := hbW.trans (on.below.mono (by omega)); clear hz on; have q0 := blk_cell X8.out 0 rfl; have q1 := blk_cell X8.out 1 rfl; have q2 := blk_cell X8.out 2 rfl; have q3 := blk_cell X8.out 3 rfl)
      | (refine wpList_store_only rfl 34 (.tmp 6) (.tmp 66) rfl (w.heap.size + 1 + 1) 0 #[.int .i64 B.now, .slice (some ⟨gC, 0, none⟩) (k + 1 + nk) capC, .slice a2 B.cps.length c2, .slice a3 B.bts.length c3] rfl rfl 34 #[.int .i64 0, .slice none 0 0, .slice none 0 0, .slice none 0 0] Z8.out Tryz.infosBkX (Nat.le_of_ble_eq_true rfl) (by simp [Value.oneCell']) ?_; intro w9 hz on; have Z9 : Hid (w9.heap[w.heap.size + 1 + 1]? = some (.cells #[.int .i64 B.now, .slice (some ⟨gC, 0, none⟩) (k + 1 + nk) capC, .slice a2 B.cps.length c2, .slice a3 B.bts.length c3] 34 (0, 0))) := hz; have R9 : Hid (RowIs w9 48 13 gC (k + 1 + nk) capC _) := R8.out.blk (on.other gC (by omega)); have hb9 := hb8.trans (on.below.mono (by omega)); clear hz on))
     have HFIN : Hid (svcsV (B.svcs.take k) ++ (#[.string s.name, .int .i64 v, .bool s.gone, .int .i64 s.image, .int .i64 s.want, .int .i64 s.down, .int .i64 s.over, .int .i64 1, .int .i64 s.per, .int .i64 s.least, .int .i64 s.most, .int .i64 s.load, .int .i64 0] : Array Value).toList ++ svcsV (B.svcs.drop k) = svcsV (wishB B s v).svcs) := by unfold Hid; rw [HPUT.out]; simp [svcsV, Svc.cells]
     exact bodyPost_ret (v := .agg #[.int .i64 B.now, .slice (some ⟨gC, 0, none⟩) (k + 1 + nk) capC, .slice a2 B.cps.length c2, .slice a3 B.bts.length c3]) (results_cell_row rfl _ _ (w.heap.size + 1 + 1) _ _ _ _ rfl Z9.out Tryz.underlying34 rfl Tryz.infosBkX) rfl ⟨gC, k + 1 + nk, capC, rfl, by unfold Hid; rw [HPUT.out, List.length_append, List.length_cons, HTL.out, HRL.out] <;> omega, by omega, by unfold Hid; rw [← HFIN.out]; exact R9.out, hb9⟩
    ·have HPUT : Hid ((wishB B s v).svcs = B.svcs.take k ++ { s with version := v, cool := 0, next := t.next } :: B.svcs.drop (k + 1)) := by unfold Hid wishB; rw [show wishS B.svcs s v = { s with version := v, cool := 0, next := t.next } by unfold wishS; rw [wishN_same HK.out HTK.out hq]]; exact putIn_same (x := { s with version := v, cool := 0, next := t.next }) HK.out HTK.out hq
     go_wp2_with (first
      | (refine wpList_store_one rfl 3 (.tmp 28) (.tmp 27) rfl (w.heap.size + 1) 1 (.int .i64 v) rfl rfl Tryz.infosIntX rfl rfl 48 #[.string s.name, .int .i64 s.version, .bool s.gone, .int .i64 s.image, .int .i64 s.want, .int .i64 s.down, .int .i64 s.over, .int .i64 s.next, .int .i64 s.per, .int .i64 s.least, .int .i64 s.most, .int .i64 s.load, .int .i64 s.cool] V1.out (Nat.le_of_ble_eq_true rfl) ?_; intro w2 hz on; have V2 : Hid (w2.heap[w.heap.size + 1]? = some (.cells #[.string s.name, .int .i64 v, .bool s.gone, .int .i64 s.image, .int .i64 s.want, .int .i64 s.down, .int .i64 s.over, .int .i64 s.next, .int .i64 s.per, .int .i64 s.least, .int .i64 s.most, .int .i64 s.load, .int .i64 s.cool] 48 (0, 0))) := hz; have X2 : Hid _ := (on.other w.heap.size (by omega)).trans X1.out; have Z2 : Hid _ := (on.other (w.heap.size + 1 + 1) (by omega)).trans Z1.out; have R2 : Hid (RowIs w2 48 13 g1 n1 k1 (svcsV B.svcs)) := R1.out.blk (on.other g1 (by omega)); have hb2 := hb1.trans (on.below.mono (by omega)); clear hz on)
      | (refine wpList_store_one rfl 3 (.tmp 29) (.const (.int .i64 0)) rfl (w.heap.size + 1) 12 (.int .i64 0) rfl rfl Tryz.infosIntX rfl rfl 48 #[.string s.name, .int .i64 v, .bool s.gone, .int .i64 s.image, .int .i64 s.want, .int .i64 s.down, .int .i64 s.over, .int .i64 s.next, .int .i64 s.per, .int .i64 s.least, .int .i64 s.most, .int .i64 s.load, .int .i64 s.cool] V2.out (Nat.le_of_ble_eq_true rfl) ?_; intro w3 hz on; have V3 : Hid (w3.heap[w.heap.size + 1]? = some (.cells #[.string s.name, .int .i64 v, .bool s.gone, .int .i64 s.image, .int .i64 s.want, .int .i64 s.down, .int .i64 s.over, .int .i64 s.next, .int .i64 s.per, .int .i64 s.least, .int .i64 s.most, .int .i64 s.load, .int .i64 0] 48 (0, 0))) := hz; have X3 : Hid _ := (on.other w.heap.size (by omega)).trans X2.out; have Z3 : Hid _ := (on.other (w.heap.size + 1 + 1) (by omega)).trans Z2.out; have R3 : Hid (RowIs w3 48 13 g1 n1 k1 (svcsV B.svcs)) := R2.out.blk (on.other g1 (by omega)); have hb3 := hb2.trans (on.below.mono (by omega)); clear hz on; have x1 := blk_cell X3.out 1 rfl)
      | (refine wpList_slice_off rfl 30 (.tmp 31) (some (.tmp 32)) none none rfl Tryz.undSvcsX 13 Tryz.infoElemX g1 0 n1 k1 k n1 k1 rfl (some (.int .i64 k)) none none rfl rfl rfl (fun w => run_slice_l w _ _ _ _ Tryz.undSvcsX .i64 k (by omega) (by omega)) ?_; intro off hoff; obtain ⟨nk, hnk⟩ : ∃ q, n1 - k = q := ⟨_, rfl⟩; rw [hnk]; have hnk1 : n1 ≤ k + nk := (by omega); have hnk2 : k + nk ≤ n1 := (by omega); clear hnk)
      | (refine wpList_store_one rfl 3 (.tmp 34) (.const (.int .i64 1)) rfl (w.heap.size + 1) 7 (.int .i64 1) rfl rfl Tryz.infosIntX rfl rfl 48 #[.string s.name, .int .i64 v, .bool s.gone, .int .i64 s.image, .int .i64 s.want, .int .i64 s.down, .int .i64 s.over, .int .i64 s.next, .int .i64 s.per, .int .i64 s.least, .int .i64 s.most, .int .i64 s.load, .int .i64 0] V3.out (Nat.le_of_ble_eq_true rfl) ?_; intro w4 hz on; have V4 : Hid (w4.heap[w.heap.size + 1]? = some (.cells #[.string s.name, .int .i64 v, .bool s.gone, .int .i64 s.image, .int .i64 s.want, .int .i64 s.down, .int .i64 s.over, .int .i64 1, .int .i64 s.per, .int .i64 s.least, .int .i64 s.most, .int .i64 s.load, .int .i64 0] 48 (0, 0))) := hz; have X4 : Hid _ := (on.other w.heap.size (by omega)).trans X3.out; have Z4 : Hid _ := (on.other (w.heap.size + 1 + 1) (by omega)).trans Z3.out; have R4 : Hid (RowIs w4 48 13 g1 n1 k1 (svcsV B.svcs)) := R3.out.blk (on.other g1 (by omega)); have hb4 := hb3.trans (on.below.mono (by omega)); clear hz on))
     clear x1
     have hz4 : w.heap.size + 1 + 1 < w4.heap.size := (Array.getElem?_eq_some_iff.1 Z4.out).1
     have v0 := gcell V4.out 0 rfl
     obtain rfl : off = k * 13 := by omega
     have hnk0 : 0 < nk := by omega
     have y0 : ∀ p : Regrown, (grow (redrawn w4 p.d) p.os).cell? ⟨g1, k * 13, none⟩ = some (.string t.name) := fun p => cell_regrown (R4.out.cell (flat_at (c := Svc.cells) (n := 13) (fun _ => rfl) B.svcs k t 0 (.string t.name) HTK.out rfl)) p.d p.os
     refine wp_region_quiet_below (by kernel_rfl) (by kernel_rfl) ?_
     repeat (first | go_big_quiet_step (fail) | quiet_step (fail))
     refine wpQuiet_nil ?_
     intro w5 hw'
     obtain ⟨⟨dq, osq⟩, hw''⟩ := hw'
     have hbq : Below w4.heap.size w4 w5 := by rw [hw'']; exact below_regrown _ _ _
     clear hw''
     have hb5 := hb4.trans (hbq.mono hb4.size)
     have X5 : Hid _ := below_blk hbq X4.out (by omega)
     have V5 : Hid _ := below_blk hbq V4.out (by omega)
     have Z5 : Hid _ := below_blk hbq Z4.out (by omega)
     have R5 : Hid (RowIs w5 48 13 g1 n1 k1 (svcsV B.svcs)) := R4.out.below hbq (by omega)
     have hz5 : w.heap.size + 1 + 1 < w5.heap.size := (Array.getElem?_eq_some_iff.1 Z5.out).1
     clear hbq
     clear v0 y0 X1 X2 X3 X4 V1 V2 V3 V4 Z1 Z2 Z3 Z4 R1 R2 R3 R4 hb1 hb2 hb3 hb4 hz4 hz1
     have y7 := R5.out.cell (flat_at (c := Svc.cells) (n := 13) (fun _ => rfl) B.svcs k t 7 (.int .i64 t.next) HTK.out rfl)
     go_wp2_with (first
      | (refine wpList_store_one rfl 3 (.tmp 51) (.tmp 50) rfl (w.heap.size + 1) 7 (.int .i64 t.next) rfl rfl Tryz.infosIntX rfl rfl 48 #[.string s.name, .int .i64 v, .bool s.gone, .int .i64 s.image, .int .i64 s.want, .int .i64 s.down, .int .i64 s.over, .int .i64 1, .int .i64 s.per, .int .i64 s.least, .int .i64 s.most, .int .i64 s.load, .int .i64 0] V5.out (Nat.le_of_ble_eq_true rfl) ?_; intro w6 hz on; have V6 : Hid (w6.heap[w.heap.size + 1]? = some (.cells #[.string s.name, .int .i64 v, .bool s.gone, .int .i64 s.image, .int .i64 s.want, .int .i64 s.down, .int .i64 s.over, .int .i64 t.next, .int .i64 s.per, .int .i64 s.least, .int .i64 s.most, .int .i64 s.load, .int .i64 0] 48 (0, 0))) := hz; have X6 : Hid _ := (on.other w.heap.size (by omega)).trans X5.out; have Z6 : Hid _ := (on.other (w.heap.size + 1 + 1) (by omega)).trans Z5.out; have R6 : Hid (RowIs w6 48 13 g1 n1 k1 (svcsV B.svcs)) := R5.out.blk (on.other g1 (by omega)); have hb6 := hb5.trans (on.below.mono (by omega)); clear hz on)
      | (refine wpList_slice_off rfl 30 (.tmp 52) (some (.const (.int .i64 1))) none none rfl Tryz.undSvcsX 13 Tryz.infoElemX g1 (k * 13) nk (k1 - k) 1 nk (k1 - k) rfl (some (.int .i64 1)) none none rfl rfl rfl (fun w => run_slice_l w _ _ _ _ Tryz.undSvcsX .i64 1 (by omega) (by omega)) ?_; intro off hoff2; obtain ⟨mm, hmm⟩ : ∃ q, nk - 1 = q := ⟨_, rfl⟩; rw [hmm]; have hmm1 : nk ≤ 1 + mm := (by omega); have hmm2 : 1 + mm ≤ nk := (by omega); clear hmm))
     clear y7 X5 V5 Z5 R5 hb5 hz5
     have hz6 : w.heap.size + 1 + 1 < w6.heap.size := (Array.getElem?_eq_some_iff.1 Z6.out).1
     have HRL : Hid ((B.svcs.drop (k + 1)).length = mm) := by unfold Hid; rw [List.length_drop, HN1.out]; omega
     have SRD : Hid (∀ W : World, Below w6.heap.size w6 W → ∀ j u, (svcsV (B.svcs.drop (k + 1)))[j]? = some u → W.cell? ((⟨g1, off, none⟩ : Addr).add j) = some u) := fun W hW => by
      rcases hoff2 with ho | ho
      ·rw [ho, show k * 13 + 1 * 13 = (k + 1) * 13 by omega]; exact (R6.out.below hW (by omega)).srcDrop (c := Svc.cells) (fun _ => rfl) (k + 1)
      ·intro j u hu; rw [show (B.svcs.drop (k + 1)) = [] from List.length_eq_zero_iff.1 (by rw [HRL.out]; omega)] at hu; simp [svcsV] at hu
     refine wp_region_owns 12 2 [[], [], [1], [], [2, 3], [0, 4], [], [6], [5, 7], [], [8, 9], []] [8, 10] [0, 5, 7, 8, 10] [10] (by kernel_rfl) (by kernel_rfl) (by kernel_rfl) ?_
     refine own_grow (fun vv W => ∃ g, vv = .slice (some ⟨g, 0, none⟩) 0 0 ∧ w6.heap.size ≤ g ∧ W.heap[g]? = some (.cells #[] 48 (0, 0))) (fun v W W2 ⟨g, h1, h2, h3⟩ hb => ⟨g, h1, h2, below_blk hb h3 (Array.getElem?_eq_some_iff.1 h3).1⟩) (by kernel_rfl) (by kernel_rfl) ?_ ?_
     ·intro V W K A hW hd hA hK
      simp only [putAll, List.getElem?_toArray, List.getElem?_cons_succ, List.getElem?_cons_zero, Option.bind_some, Act.put, List.setIfInBounds_toArray, List.set_cons_succ, List.set_cons_zero] at hA
      clear hd
      generalize V 0 = x0 at hA
      generalize V 1 = x1 at hA
      generalize V 2 = x2 at hA
      generalize V 3 = x3 at hA
      generalize V 4 = x4 at hA
      generalize V 5 = x5 at hA
      generalize V 6 = x6 at hA
      generalize V 7 = x7 at hA
      generalize V 8 = x8 at hA
      generalize V 9 = x9 at hA
      generalize V 10 = x10 at hA
      generalize V 11 = x11 at hA
      obtain rfl := hA
      go_wp2
      exact hK.out _ _ (below_box W _) ⟨_, rfl, hW.size, heap_alloc_new W _⟩
     apply own_eq (by kernel_rfl)
     ·intro V W K A hW hd hA hK
      simp only [putAll, List.getElem?_toArray, List.getElem?_cons_succ, List.getElem?_cons_zero, Option.bind_some, Act.put, List.setIfInBounds_toArray, List.set_cons_succ, List.set_cons_zero] at hA
      clear hd
      generalize V 0 = x0 at hA
      generalize V 1 = x1 at hA
      generalize V 2 = x2 at hA
      generalize V 3 = x3 at hA
      generalize V 4 = x4 at hA
      generalize V 5 = x5 at hA
      generalize V 6 = x6 at hA
      generalize V 7 = x7 at hA
      generalize V 8 = x8 at hA
      generalize V 9 = x9 at hA
      generalize V 10 = x10 at hA
      generalize V 11 = x11 at hA
      obtain rfl := hA
      go_wp2
      exact hK.out _ (Below.refl _ _)
     apply own_eq (by kernel_rfl)
     ·intro V W K A hW hd hA hK
      have d1 : V 1 = _ := hd 1 (by kernel_rfl)
      simp only [putAll, List.getElem?_toArray, List.getElem?_cons_succ, List.getElem?_cons_zero, Option.bind_some, Act.put, List.setIfInBounds_toArray, List.set_cons_succ, List.set_cons_zero] at hA
      clear hd
      generalize V 0 = x0 at hA
      generalize V 1 = x1 at d1 hA
      generalize V 2 = x2 at hA
      generalize V 3 = x3 at hA
      generalize V 4 = x4 at hA
      generalize V 5 = x5 at hA
      generalize V 6 = x6 at hA
      generalize V 7 = x7 at hA
      generalize V 8 = x8 at hA
      generalize V 9 = x9 at hA
      generalize V 10 = x10 at hA
      generalize V 11 = x11 at hA
      subst d1
      obtain rfl := hA
      have x1 := blk_cell (below_blk hW X6.out (by omega)) 1 rfl
      go_wp2
      exact hK.out _ (Below.refl _ _)
     apply own_eq (by kernel_rfl)
     ·intro V W K A hW hd hA hK
      simp only [putAll, List.getElem?_toArray, List.getElem?_cons_succ, List.getElem?_cons_zero, Option.bind_some, Act.put, List.setIfInBounds_toArray, List.set_cons_succ, List.set_cons_zero] at hA
      clear hd
      generalize V 0 = x0 at hA
      generalize V 1 = x1 at hA
      generalize V 2 = x2 at hA
      generalize V 3 = x3 at hA
      generalize V 4 = x4 at hA
      generalize V 5 = x5 at hA
      generalize V 6 = x6 at hA
      generalize V 7 = x7 at hA
      generalize V 8 = x8 at hA
      generalize V 9 = x9 at hA
      generalize V 10 = x10 at hA
      generalize V 11 = x11 at hA
      obtain rfl := hA
      go_wp2
      exact hK.out _ (Below.refl _ _)
     apply own_eq (by kernel_rfl)
     ·intro V W K A hW hd hA hK
      have d2 : V 2 = _ := hd 2 (by kernel_rfl)
      have d3 : V 3 = _ := hd 3 (by kernel_rfl)
      simp only [putAll, List.getElem?_toArray, List.getElem?_cons_succ, List.getElem?_cons_zero, Option.bind_some, Act.put, List.setIfInBounds_toArray, List.set_cons_succ, List.set_cons_zero] at hA
      clear hd
      generalize V 0 = x0 at hA
      generalize V 1 = x1 at hA
      generalize V 2 = x2 at d2 hA
      generalize V 3 = x3 at d3 hA
      generalize V 4 = x4 at hA
      generalize V 5 = x5 at hA
      generalize V 6 = x6 at hA
      generalize V 7 = x7 at hA
      generalize V 8 = x8 at hA
      generalize V 9 = x9 at hA
      generalize V 10 = x10 at hA
      generalize V 11 = x11 at hA
      subst d2
      subst d3
      obtain rfl := hA
      go_wp2
      exact hK.out _ (Below.refl _ _)
     refine own_grow (fun vv W => ∃ g cap, vv = .slice (some ⟨g, 0, none⟩) (k) cap ∧ w6.heap.size ≤ g ∧ RowIs W 48 13 g (k) cap (svcsV (B.svcs.take k))) (fun v W W2 ⟨g, cap, h1, h2, h3⟩ hb => ⟨g, cap, h1, h2, h3.below hb h3.lt⟩) (by kernel_rfl) (by kernel_rfl) ?_ ?_
     ·intro V W K A hW hd hA hK
      have d0 : (fun vv W => ∃ g, vv = .slice (some ⟨g, 0, none⟩) 0 0 ∧ w6.heap.size ≤ g ∧ W.heap[g]? = some (.cells #[] 48 (0, 0))) (V 0) W := hd 0 (by kernel_rfl)
      have d4 : V 4 = _ := hd 4 (by kernel_rfl)
      simp only [putAll, List.getElem?_toArray, List.getElem?_cons_succ, List.getElem?_cons_zero, Option.bind_some, Act.put, List.setIfInBounds_toArray, List.set_cons_succ, List.set_cons_zero] at hA
      clear hd
      generalize V 0 = x0 at d0 hA
      generalize V 1 = x1 at hA
      generalize V 2 = x2 at hA
      generalize V 3 = x3 at hA
      generalize V 4 = x4 at d4 hA
      generalize V 5 = x5 at hA
      generalize V 6 = x6 at hA
      generalize V 7 = x7 at hA
      generalize V 8 = x8 at hA
      generalize V 9 = x9 at hA
      generalize V 10 = x10 at hA
      generalize V 11 = x11 at hA
      subst d4
      obtain rfl := hA
      obtain ⟨g, rfl, hg, hgz⟩ := d0
      refine wpList_append_fresh rfl (.tmp 54) (.tmp 58) 30 rfl 48 _ 13 112 Tryz.underlying30 Tryz.infoSvcX rfl g rfl hgz (some ⟨g1, 0, none⟩) k _ (svcsV (B.svcs.take k)) rfl (by rw [svcsV_len, HTL.out]) (fun _ => ⟨_, rfl, (R6.out.below hW (by omega)).srcTake (c := Svc.cells) (fun _ => rfl) k⟩) (svcsV_one _) (by unfold maxLen; omega) (by omega) ?_
      intro g' cap' w2 hg' hrow hb2
      have hgg : w6.heap.size ≤ g' := by have := hW.size; rcases hg' with rfl | rfl <;> omega
      go_wp2
      exact hK.out _ _ hb2 ⟨g', cap', rfl, hgg, hrow.out⟩
     apply own_eq (by kernel_rfl)
     ·intro V W K A hW hd hA hK
      simp only [putAll, List.getElem?_toArray, List.getElem?_cons_succ, List.getElem?_cons_zero, Option.bind_some, Act.put, List.setIfInBounds_toArray, List.set_cons_succ, List.set_cons_zero] at hA
      clear hd
      generalize V 0 = x0 at hA
      generalize V 1 = x1 at hA
      generalize V 2 = x2 at hA
      generalize V 3 = x3 at hA
      generalize V 4 = x4 at hA
      generalize V 5 = x5 at hA
      generalize V 6 = x6 at hA
      generalize V 7 = x7 at hA
      generalize V 8 = x8 at hA
      generalize V 9 = x9 at hA
      generalize V 10 = x10 at hA
      generalize V 11 = x11 at hA
      obtain rfl := hA
      refine wpList_load_row rfl 48 (.tmp 4) rfl (w.heap.size + 1) rfl 48 #[.string s.name, .int .i64 v, .bool s.gone, .int .i64 s.image, .int .i64 s.want, .int .i64 s.down, .int .i64 s.over, .int .i64 t.next, .int .i64 s.per, .int .i64 s.least, .int .i64 s.most, .int .i64 s.load, .int .i64 0] (0, 0) _ (below_blk hW V6.out (by omega)) Tryz.underlying48 rfl Tryz.infosSvcX ?_
      go_wp2
      exact hK.out _ (Below.refl _ _)
     refine own_grow (fun vv W => ∃ g, vv = .slice (some ⟨g, 0, none⟩) 1 1 ∧ w6.heap.size ≤ g ∧ W.heap[g]? = some (.cells #[.string s.name, .int .i64 v, .bool s.gone, .int .i64 s.image, .int .i64 s.want, .int .i64 s.down, .int .i64 s.over, .int .i64 t.next, .int .i64 s.per, .int .i64 s.least, .int .i64 s.most, .int .i64 s.load, .int .i64 0] 48 (0, 0))) (fun v W W2 ⟨g, h1, h2, h3⟩ hb => ⟨g, h1, h2, below_blk hb h3 (Array.getElem?_eq_some_iff.1 h3).1⟩) (by kernel_rfl) (by kernel_rfl) ?_ ?_
     ·intro V W K A hW hd hA hK
      have d6 : V 6 = _ := hd 6 (by kernel_rfl)
      simp only [putAll, List.getElem?_toArray, List.getElem?_cons_succ, List.getElem?_cons_zero, Option.bind_some, Act.put, List.setIfInBounds_toArray, List.set_cons_succ, List.set_cons_zero] at hA
      clear hd
      generalize V 0 = x0 at hA
      generalize V 1 = x1 at hA
      generalize V 2 = x2 at hA
      generalize V 3 = x3 at hA
      generalize V 4 = x4 at hA
      generalize V 5 = x5 at hA
      generalize V 6 = x6 at d6 hA
      generalize V 7 = x7 at hA
      generalize V 8 = x8 at hA
      generalize V 9 = x9 at hA
      generalize V 10 = x10 at hA
      generalize V 11 = x11 at hA
      subst d6
      obtain rfl := hA
      go_wp2
      exact hK.out _ _ (below_box W _) ⟨_, rfl, hW.size, heap_alloc_new W _⟩
     refine own_own (fun vv W => ∃ g cap, vv = .slice (some ⟨g, 0, none⟩) (k + 1) cap ∧ w6.heap.size ≤ g ∧ RowIs W 48 13 g (k + 1) cap (svcsV (B.svcs.take k) ++ (#[.string s.name, .int .i64 v, .bool s.gone, .int .i64 s.image, .int .i64 s.want, .int .i64 s.down, .int .i64 s.over, .int .i64 t.next, .int .i64 s.per, .int .i64 s.least, .int .i64 s.most, .int .i64 s.load, .int .i64 0] : Array Value).toList)) (fun v W W2 ⟨g, cap, h1, h2, h3⟩ hb => ⟨g, cap, h1, h2, h3.below hb h3.lt⟩) (by kernel_rfl) (by kernel_rfl) ?_ ?_
     ·intro V W K A hW hd hA hK
      have d5 : (fun vv W => ∃ g cap, vv = .slice (some ⟨g, 0, none⟩) (k) cap ∧ w6.heap.size ≤ g ∧ RowIs W 48 13 g (k) cap (svcsV (B.svcs.take k))) (V 5) W := hd 5 (by kernel_rfl)
      have d7 : (fun vv W => ∃ g, vv = .slice (some ⟨g, 0, none⟩) 1 1 ∧ w6.heap.size ≤ g ∧ W.heap[g]? = some (.cells #[.string s.name, .int .i64 v, .bool s.gone, .int .i64 s.image, .int .i64 s.want, .int .i64 s.down, .int .i64 s.over, .int .i64 t.next, .int .i64 s.per, .int .i64 s.least, .int .i64 s.most, .int .i64 s.load, .int .i64 0] 48 (0, 0))) (V 7) W := hd 7 (by kernel_rfl)
      simp only [putAll, List.getElem?_toArray, List.getElem?_cons_succ, List.getElem?_cons_zero, Option.bind_some, Act.put, List.setIfInBounds_toArray, List.set_cons_succ, List.set_cons_zero] at hA
      clear hd
      generalize V 0 = x0 at hA
      generalize V 1 = x1 at hA
      generalize V 2 = x2 at hA
      generalize V 3 = x3 at hA
      generalize V 4 = x4 at hA
      generalize V 5 = x5 at d5 hA
      generalize V 6 = x6 at hA
      generalize V 7 = x7 at d7 hA
      generalize V 8 = x8 at hA
      generalize V 9 = x9 at hA
      generalize V 10 = x10 at hA
      generalize V 11 = x11 at hA
      obtain rfl := hA
      obtain ⟨gA, capA, rfl, hgA, hrA⟩ := d5
      obtain ⟨gb, rfl, hgb, hbz⟩ := d7
      refine wpList_append_row rfl (.tmp 59) (.tmp 61) 30 rfl 48 _ 13 112 Tryz.underlying30 Tryz.infoSvcX rfl gA k capA _ rfl hrA ⟨gb, 0, none⟩ 1 1 (#[.string s.name, .int .i64 v, .bool s.gone, .int .i64 s.image, .int .i64 s.want, .int .i64 s.down, .int .i64 s.over, .int .i64 t.next, .int .i64 s.per, .int .i64 s.least, .int .i64 s.most, .int .i64 s.load, .int .i64 0] : Array Value).toList rfl rfl (news_row hbz) (by simp [Value.oneCell']) (by unfold maxLen; omega) (by omega) ?_
      intro g' cap' w2 hg' hrow hgr
      have hgg : w6.heap.size ≤ g' := by have := hW.size; rcases hg' with rfl | rfl <;> omega
      have hbo := below_of_grown hgr hgA hW.size
      clear hgr
      go_wp2
      exact hK.out _ _ hbo ⟨g', cap', rfl, hgg, hrow.out⟩
     apply own_eq (by kernel_rfl)
     ·intro V W K A hW hd hA hK
      simp only [putAll, List.getElem?_toArray, List.getElem?_cons_succ, List.getElem?_cons_zero, Option.bind_some, Act.put, List.setIfInBounds_toArray, List.set_cons_succ, List.set_cons_zero] at hA
      clear hd
      generalize V 0 = x0 at hA
      generalize V 1 = x1 at hA
      generalize V 2 = x2 at hA
      generalize V 3 = x3 at hA
      generalize V 4 = x4 at hA
      generalize V 5 = x5 at hA
      generalize V 6 = x6 at hA
      generalize V 7 = x7 at hA
      generalize V 8 = x8 at hA
      generalize V 9 = x9 at hA
      generalize V 10 = x10 at hA
      generalize V 11 = x11 at hA
      obtain rfl := hA
      go_wp2
      exact hK.out _ (Below.refl _ _)
     refine own_own (fun vv W => ∃ g cap, vv = .slice (some ⟨g, 0, none⟩) (k + 1 + mm) cap ∧ w6.heap.size ≤ g ∧ RowIs W 48 13 g (k + 1 + mm) cap (svcsV (B.svcs.take k) ++ (#[.string s.name, .int .i64 v, .bool s.gone, .int .i64 s.image, .int .i64 s.want, .int .i64 s.down, .int .i64 s.over, .int .i64 t.next, .int .i64 s.per, .int .i64 s.least, .int .i64 s.most, .int .i64 s.load, .int .i64 0] : Array Value).toList ++ svcsV (B.svcs.drop (k + 1)))) (fun v W W2 ⟨g, cap, h1, h2, h3⟩ hb => ⟨g, cap, h1, h2, h3.below hb h3.lt⟩) (by kernel_rfl) (by kernel_rfl) ?_ ?_
     ·intro V W K A hW hd hA hK
      have d8 : (fun vv W => ∃ g cap, vv = .slice (some ⟨g, 0, none⟩) (k + 1) cap ∧ w6.heap.size ≤ g ∧ RowIs W 48 13 g (k + 1) cap (svcsV (B.svcs.take k) ++ (#[.string s.name, .int .i64 v, .bool s.gone, .int .i64 s.image, .int .i64 s.want, .int .i64 s.down, .int .i64 s.over, .int .i64 t.next, .int .i64 s.per, .int .i64 s.least, .int .i64 s.most, .int .i64 s.load, .int .i64 0] : Array Value).toList)) (V 8) W := hd 8 (by kernel_rfl)
      have d9 : V 9 = _ := hd 9 (by kernel_rfl)
      simp only [putAll, List.getElem?_toArray, List.getElem?_cons_succ, List.getElem?_cons_zero, Option.bind_some, Act.put, List.setIfInBounds_toArray, List.set_cons_succ, List.set_cons_zero] at hA
      clear hd
      generalize V 0 = x0 at hA
      generalize V 1 = x1 at hA
      generalize V 2 = x2 at hA
      generalize V 3 = x3 at hA
      generalize V 4 = x4 at hA
      generalize V 5 = x5 at hA
      generalize V 6 = x6 at hA
      generalize V 7 = x7 at hA
      generalize V 8 = x8 at d8 hA
      generalize V 9 = x9 at d9 hA
      generalize V 10 = x10 at hA
      generalize V 11 = x11 at hA
      subst d9
      obtain rfl := hA
      obtain ⟨gA, capA, rfl, hgA, hrA⟩ := d8
      refine wpList_append_row rfl (.tmp 62) (.tmp 63) 30 rfl 48 _ 13 112 Tryz.underlying30 Tryz.infoSvcX rfl gA (k + 1) capA _ rfl hrA ⟨g1, off, none⟩ mm _ (svcsV (B.svcs.drop (k + 1))) rfl (by rw [svcsV_len, HRL.out]) (SRD.out W hW) (svcsV_one _) (by unfold maxLen; omega) (by omega) ?_
      intro g' cap' w2 hg' hrow hgr
      have hgg : w6.heap.size ≤ g' := by have := hW.size; rcases hg' with rfl | rfl <;> omega
      have hbo := below_of_grown hgr hgA hW.size
      clear hgr
      go_wp2
      exact hK.out _ _ hbo ⟨g', cap', rfl, hgg, hrow.out⟩
     apply own_eq (by kernel_rfl)
     ·intro V W K A hW hd hA hK
      simp only [putAll, List.getElem?_toArray, List.getElem?_cons_succ, List.getElem?_cons_zero, Option.bind_some, Act.put, List.setIfInBounds_toArray, List.set_cons_succ, List.set_cons_zero] at hA
      clear hd
      generalize V 0 = x0 at hA
      generalize V 1 = x1 at hA
      generalize V 2 = x2 at hA
      generalize V 3 = x3 at hA
      generalize V 4 = x4 at hA
      generalize V 5 = x5 at hA
      generalize V 6 = x6 at hA
      generalize V 7 = x7 at hA
      generalize V 8 = x8 at hA
      generalize V 9 = x9 at hA
      generalize V 10 = x10 at hA
      generalize V 11 = x11 at hA
      obtain rfl := hA
      go_wp2
      exact hK.out _ (Below.refl _ _)
     intro V W A hW hS hA
     have d1 : V 1 = _ := hS 1 (by omega) (.inr (by kernel_rfl))
     have d2 : V 2 = _ := hS 2 (by omega) (.inr (by kernel_rfl))
     have d3 : V 3 = _ := hS 3 (by omega) (.inr (by kernel_rfl))
     have d4 : V 4 = _ := hS 4 (by omega) (.inr (by kernel_rfl))
     have d6 : V 6 = _ := hS 6 (by omega) (.inr (by kernel_rfl))
     have d9 : V 9 = _ := hS 9 (by omega) (.inr (by kernel_rfl))
     have d10 : (fun vv W => ∃ g cap, vv = .slice (some ⟨g, 0, none⟩) (k + 1 + mm) cap ∧ w6.heap.size ≤ g ∧ RowIs W 48 13 g (k + 1 + mm) cap (svcsV (B.svcs.take k) ++ (#[.string s.name, .int .i64 v, .bool s.gone, .int .i64 s.image, .int .i64 s.want, .int .i64 s.down, .int .i64 s.over, .int .i64 t.next, .int .i64 s.per, .int .i64 s.least, .int .i64 s.most, .int .i64 s.load, .int .i64 0] : Array Value).toList ++ svcsV (B.svcs.drop (k + 1)))) (V 10) W := hS 10 (by omega) (.inl (by kernel_rfl))
     have d11 : V 11 = _ := hS 11 (by omega) (.inr (by kernel_rfl))
     simp only [putAll, List.getElem?_toArray, List.getElem?_cons_succ, List.getElem?_cons_zero, Option.bind_some, Act.put, List.setIfInBounds_toArray, List.set_cons_succ, List.set_cons_zero] at hA
     clear hS
     generalize V 0 = x0 at hA
     generalize V 1 = x1 at d1 hA
     generalize V 2 = x2 at d2 hA
     generalize V 3 = x3 at d3 hA
     generalize V 4 = x4 at d4 hA
     generalize V 5 = x5 at hA
     generalize V 6 = x6 at d6 hA
     generalize V 7 = x7 at hA
     generalize V 8 = x8 at hA
     generalize V 9 = x9 at d9 hA
     generalize V 10 = x10 at d10 hA
     generalize V 11 = x11 at d11 hA
     subst d1
     subst d2
     subst d3
     subst d4
     subst d6
     subst d9
     subst d11
     obtain rfl := hA
     simp only [List.drop_succ_cons, List.drop_zero]
     obtain ⟨gC, capC, rfl, hgC, hrC⟩ := d10
     have RC : Hid (RowIs W 48 13 gC (k + 1 + mm) capC (svcsV (B.svcs.take k) ++ (#[.string s.name, .int .i64 v, .bool s.gone, .int .i64 s.image, .int .i64 s.want, .int .i64 s.down, .int .i64 s.over, .int .i64 t.next, .int .i64 s.per, .int .i64 s.least, .int .i64 s.most, .int .i64 s.load, .int .i64 0] : Array Value).toList ++ svcsV (B.svcs.drop (k + 1)))) := hrC
     clear hrC
     have hbW := hb6.trans (hW.mono hb6.size)
     have XW : Hid _ := below_blk hW X6.out (by omega)
     have ZW : Hid _ := below_blk hW Z6.out (by omega)
     have hzW : w.heap.size + 1 + 1 < W.heap.size := (Array.getElem?_eq_some_iff.1 ZW.out).1
     go_wp2_with (first
      | (refine wpList_store_one rfl 30 (.tmp 65) (.tmp 64) rfl w.heap.size 1 (.slice (some ⟨gC, 0, none⟩) (k + 1 + mm) capC) rfl rfl Tryz.infosSvcsX rfl rfl 34 #[.int .i64 B.now, .slice (some ⟨g1, 0, none⟩) n1 k1, .slice a2 B.cps.length c2, .slice a3 B.bts.length c3] XW.out (Nat.le_of_ble_eq_true rfl) ?_; intro w8 hz on; have X8 : Hid (w8.heap[w.heap.size]? = some (.cells #[.int .i64 B.now, .slice (some ⟨gC, 0, none⟩) (k + 1 + mm) capC, .slice a2 B.cps.length c2, .slice a3 B.bts.length c3] 34 (0, 0))) := hz; have Z8 : Hid _ := (on.other (w.heap.size + 1 + 1) (by omega)).trans ZW.out; have R8 : Hid (RowIs w8 48 13 gC (k + 1 + mm) capC _) := RC.out.blk (on.other gC (by omega)); have hb8 := hbW.trans (on.below.mono (by omega)); clear hz on; have q0 := blk_cell X8.out 0 rfl; have q1 := blk_cell X8.out 1 rfl; have q2 := blk_cell X8.out 2 rfl; have q3 := blk_cell X8.out 3 rfl)
      | (refine wpList_store_only rfl 34 (.tmp 6) (.tmp 66) rfl (w.heap.size + 1 + 1) 0 #[.int .i64 B.now, .slice (some ⟨gC, 0, none⟩) (k + 1 + mm) capC, .slice a2 B.cps.length c2, .slice a3 B.bts.length c3] rfl rfl 34 #[.int .i64 0, .slice none 0 0, .slice none 0 0, .slice none 0 0] Z8.out Tryz.infosBkX (Nat.le_of_ble_eq_true rfl) (by simp [Value.oneCell']) ?_; intro w9 hz on; have Z9 : Hid (w9.heap[w.heap.size + 1 + 1]? = some (.cells #[.int .i64 B.now, .slice (some ⟨gC, 0, none⟩) (k + 1 + mm) capC, .slice a2 B.cps.length c2, .slice a3 B.bts.length c3] 34 (0, 0))) := hz; have R9 : Hid (RowIs w9 48 13 gC (k + 1 + mm) capC _) := R8.out.blk (on.other gC (by omega)); have hb9 := hb8.trans (on.below.mono (by omega)); clear hz on))
     have HFIN : Hid (svcsV (B.svcs.take k) ++ (#[.string s.name, .int .i64 v, .bool s.gone, .int .i64 s.image, .int .i64 s.want, .int .i64 s.down, .int .i64 s.over, .int .i64 t.next, .int .i64 s.per, .int .i64 s.least, .int .i64 s.most, .int .i64 s.load, .int .i64 0] : Array Value).toList ++ svcsV (B.svcs.drop (k + 1)) = svcsV (wishB B s v).svcs) := by unfold Hid; rw [HPUT.out]; simp [svcsV, Svc.cells]
     exact bodyPost_ret (v := .agg #[.int .i64 B.now, .slice (some ⟨gC, 0, none⟩) (k + 1 + mm) capC, .slice a2 B.cps.length c2, .slice a3 B.bts.length c3]) (results_cell_row rfl _ _ (w.heap.size + 1 + 1) _ _ _ _ rfl Z9.out Tryz.underlying34 rfl Tryz.infosBkX) rfl ⟨gC, k + 1 + mm, capC, rfl, by unfold Hid; rw [HPUT.out, List.length_append, List.length_cons, HTL.out, HRL.out] <;> omega, by omega, by unfold Hid; rw [← HFIN.out]; exact R9.out, hb9⟩
   ·go_wp2
    go_roundw
    case rel => exact ⟨k + 1, by omega, by go_num, hb1, X1, V1, Z1, R1, fun i t' hi ht => by
     rcases Nat.lt_or_ge i k with h | h
     ·exact HA.out i t' h ht
     ·rw [show i = k by omega, HTK.out] at ht
      cases ht
      exact hle⟩
    case measure => simp [intOf]; omega
  ·go_wp2
   refine wp_region_quiet_below (by kernel_rfl) (by kernel_rfl) ?_
   repeat (first | go_big_quiet_step (fail) | quiet_step (fail))
   refine wpQuiet_nil ?_
   intro w1 hw'
   obtain ⟨⟨dq, osq⟩, hw''⟩ := hw'
   have hbq : Below w0.heap.size w0 w1 := by rw [hw'']; exact below_regrown _ _ _
   clear hw''
   have hb1 := hb0.trans (hbq.mono hb0.size)
   have X1 : Hid _ := below_blk hbq X0.out (by omega)
   have V1 : Hid _ := below_blk hbq V0.out (by omega)
   have Z1 : Hid _ := below_blk hbq Z0.out (by omega)
   have R1 : Hid (RowIs w1 48 13 g1 n1 k1 (svcsV B.svcs)) := R0.out.below hbq (by omega)
   have hz1 : w.heap.size + 1 + 1 < w1.heap.size := (Array.getElem?_eq_some_iff.1 Z1.out).1
   clear hbq
   clear x1 v0 X0 V0 Z0 R0 hb0 hzr
   have HNO : Hid (B.svcs[k]? = none) := List.getElem?_eq_none (by rw [HN1.out]; omega)
   have HK : Hid (aheadK (fun t => Op.bytesLess (svNm t) (svNm s)) B.svcs = k) := aheadK_is HKN.out HA.out fun t ht => by rw [HNO.out] at ht; cases ht
   have HPUT : Hid ((wishB B s v).svcs = B.svcs.take k ++ { s with version := v, cool := 0, next := 1 } :: B.svcs.drop k) := by unfold Hid wishB; rw [show wishS B.svcs s v = { s with version := v, cool := 0, next := 1 } by unfold wishS; rw [wishN_end HK.out HNO.out]]; exact putIn_end (x := { s with version := v, cool := 0, next := 1 }) HK.out HNO.out
   go_wp2_with (first
    | (refine wpList_store_one rfl 3 (.tmp 28) (.tmp 27) rfl (w.heap.size + 1) 1 (.int .i64 v) rfl rfl Tryz.infosIntX rfl rfl 48 #[.string s.name, .int .i64 s.version, .bool s.gone, .int .i64 s.image, .int .i64 s.want, .int .i64 s.down, .int .i64 s.over, .int .i64 s.next, .int .i64 s.per, .int .i64 s.least, .int .i64 s.most, .int .i64 s.load, .int .i64 s.cool] V1.out (Nat.le_of_ble_eq_true rfl) ?_; intro w2 hz on; have V2 : Hid (w2.heap[w.heap.size + 1]? = some (.cells #[.string s.name, .int .i64 v, .bool s.gone, .int .i64 s.image, .int .i64 s.want, .int .i64 s.down, .int .i64 s.over, .int .i64 s.next, .int .i64 s.per, .int .i64 s.least, .int .i64 s.most, .int .i64 s.load, .int .i64 s.cool] 48 (0, 0))) := hz; have X2 : Hid _ := (on.other w.heap.size (by omega)).trans X1.out; have Z2 : Hid _ := (on.other (w.heap.size + 1 + 1) (by omega)).trans Z1.out; have R2 : Hid (RowIs w2 48 13 g1 n1 k1 (svcsV B.svcs)) := R1.out.blk (on.other g1 (by omega)); have hb2 := hb1.trans (on.below.mono (by omega)); clear hz on)
    | (refine wpList_store_one rfl 3 (.tmp 29) (.const (.int .i64 0)) rfl (w.heap.size + 1) 12 (.int .i64 0) rfl rfl Tryz.infosIntX rfl rfl 48 #[.string s.name, .int .i64 v, .bool s.gone, .int .i64 s.image, .int .i64 s.want, .int .i64 s.down, .int .i64 s.over, .int .i64 s.next, .int .i64 s.per, .int .i64 s.least, .int .i64 s.most, .int .i64 s.load, .int .i64 s.cool] V2.out (Nat.le_of_ble_eq_true rfl) ?_; intro w3 hz on; have V3 : Hid (w3.heap[w.heap.size + 1]? = some (.cells #[.string s.name, .int .i64 v, .bool s.gone, .int .i64 s.image, .int .i64 s.want, .int .i64 s.down, .int .i64 s.over, .int .i64 s.next, .int .i64 s.per, .int .i64 s.least, .int .i64 s.most, .int .i64 s.load, .int .i64 0] 48 (0, 0))) := hz; have X3 : Hid _ := (on.other w.heap.size (by omega)).trans X2.out; have Z3 : Hid _ := (on.other (w.heap.size + 1 + 1) (by omega)).trans Z2.out; have R3 : Hid (RowIs w3 48 13 g1 n1 k1 (svcsV B.svcs)) := R2.out.blk (on.other g1 (by omega)); have hb3 := hb2.trans (on.below.mono (by omega)); clear hz on; have x1 := blk_cell X3.out 1 rfl)
    | (refine wpList_slice_off rfl 30 (.tmp 31) (some (.tmp 32)) none none rfl Tryz.undSvcsX 13 Tryz.infoElemX g1 0 n1 k1 k n1 k1 rfl (some (.int .i64 k)) none none rfl rfl rfl (fun w => run_slice_l w _ _ _ _ Tryz.undSvcsX .i64 k (by omega) (by omega)) ?_; intro off hoff; obtain ⟨nk, hnk⟩ : ∃ q, n1 - k = q := ⟨_, rfl⟩; rw [hnk]; have hnk1 : n1 ≤ k + nk := (by omega); have hnk2 : k + nk ≤ n1 := (by omega); clear hnk)
    | (refine wpList_store_one rfl 3 (.tmp 34) (.const (.int .i64 1)) rfl (w.heap.size + 1) 7 (.int .i64 1) rfl rfl Tryz.infosIntX rfl rfl 48 #[.string s.name, .int .i64 v, .bool s.gone, .int .i64 s.image, .int .i64 s.want, .int .i64 s.down, .int .i64 s.over, .int .i64 s.next, .int .i64 s.per, .int .i64 s.least, .int .i64 s.most, .int .i64 s.load, .int .i64 0] V3.out (Nat.le_of_ble_eq_true rfl) ?_; intro w4 hz on; have V4 : Hid (w4.heap[w.heap.size + 1]? = some (.cells #[.string s.name, .int .i64 v, .bool s.gone, .int .i64 s.image, .int .i64 s.want, .int .i64 s.down, .int .i64 s.over, .int .i64 1, .int .i64 s.per, .int .i64 s.least, .int .i64 s.most, .int .i64 s.load, .int .i64 0] 48 (0, 0))) := hz; have X4 : Hid _ := (on.other w.heap.size (by omega)).trans X3.out; have Z4 : Hid _ := (on.other (w.heap.size + 1 + 1) (by omega)).trans Z3.out; have R4 : Hid (RowIs w4 48 13 g1 n1 k1 (svcsV B.svcs)) := R3.out.blk (on.other g1 (by omega)); have hb4 := hb3.trans (on.below.mono (by omega)); clear hz on))
   clear x1
   have hz4 : w.heap.size + 1 + 1 < w4.heap.size := (Array.getElem?_eq_some_iff.1 Z4.out).1
   have v0 := gcell V4.out 0 rfl
   obtain rfl : nk = 0 := by omega
   refine wp_region_quiet_below (by kernel_rfl) (by kernel_rfl) ?_
   repeat (first | go_big_quiet_step (fail) | quiet_step (fail))
   refine wpQuiet_nil ?_
   intro w5 hw'
   obtain ⟨⟨dq, osq⟩, hw''⟩ := hw'
   have hbq : Below w4.heap.size w4 w5 := by rw [hw'']; exact below_regrown _ _ _
   clear hw''
   have hb5 := hb4.trans (hbq.mono hb4.size)
   have X5 : Hid _ := below_blk hbq X4.out (by omega)
   have V5 : Hid _ := below_blk hbq V4.out (by omega)
   have Z5 : Hid _ := below_blk hbq Z4.out (by omega)
   have R5 : Hid (RowIs w5 48 13 g1 n1 k1 (svcsV B.svcs)) := R4.out.below hbq (by omega)
   have hz5 : w.heap.size + 1 + 1 < w5.heap.size := (Array.getElem?_eq_some_iff.1 Z5.out).1
   clear hbq
   clear v0 X1 X2 X3 X4 V1 V2 V3 V4 Z1 Z2 Z3 Z4 R1 R2 R3 R4 hb1 hb2 hb3 hb4 hz4 hz1
   go_wp2
   skip
   have HRL : Hid ((B.svcs.drop k).length = 0) := by unfold Hid; rw [List.length_drop, HN1.out]; omega
   have SRD : Hid (∀ W : World, Below w5.heap.size w5 W → ∀ j u, (svcsV (B.svcs.drop k))[j]? = some u → W.cell? ((⟨g1, off, none⟩ : Addr).add j) = some u) := fun W hW => by
    intro j u hu; rw [List.length_eq_zero_iff.1 HRL.out] at hu; simp [svcsV] at hu
   refine wp_region_owns 12 2 [[], [], [1], [], [2, 3], [0, 4], [], [6], [5, 7], [], [8, 9], []] [8, 10] [0, 5, 7, 8, 10] [10] (by kernel_rfl) (by kernel_rfl) (by kernel_rfl) ?_
   refine own_grow (fun vv W => ∃ g, vv = .slice (some ⟨g, 0, none⟩) 0 0 ∧ w5.heap.size ≤ g ∧ W.heap[g]? = some (.cells #[] 48 (0, 0))) (fun v W W2 ⟨g, h1, h2, h3⟩ hb => ⟨g, h1, h2, below_blk hb h3 (Array.getElem?_eq_some_iff.1 h3).1⟩) (by kernel_rfl) (by kernel_rfl) ?_ ?_
   ·intro V W K A hW hd hA hK
    simp only [putAll, List.getElem?_toArray, List.getElem?_cons_succ, List.getElem?_cons_zero, Option.bind_some, Act.put, List.setIfInBounds_toArray, List.set_cons_succ, List.set_cons_zero] at hA
    clear hd
    generalize V 0 = x0 at hA
    generalize V 1 = x1 at hA
    generalize V 2 = x2 at hA
    generalize V 3 = x3 at hA
    generalize V 4 = x4 at hA
    generalize V 5 = x5 at hA
    generalize V 6 = x6 at hA
    generalize V 7 = x7 at hA
    generalize V 8 = x8 at hA
    generalize V 9 = x9 at hA
    generalize V 10 = x10 at hA
    generalize V 11 = x11 at hA
    obtain rfl := hA
    go_wp2
    exact hK.out _ _ (below_box W _) ⟨_, rfl, hW.size, heap_alloc_new W _⟩
   apply own_eq (by kernel_rfl)
   ·intro V W K A hW hd hA hK
    simp only [putAll, List.getElem?_toArray, List.getElem?_cons_succ, List.getElem?_cons_zero, Option.bind_some, Act.put, List.setIfInBounds_toArray, List.set_cons_succ, List.set_cons_zero] at hA
    clear hd
    generalize V 0 = x0 at hA
    generalize V 1 = x1 at hA
    generalize V 2 = x2 at hA
    generalize V 3 = x3 at hA
    generalize V 4 = x4 at hA
    generalize V 5 = x5 at hA
    generalize V 6 = x6 at hA
    generalize V 7 = x7 at hA
    generalize V 8 = x8 at hA
    generalize V 9 = x9 at hA
    generalize V 10 = x10 at hA
    generalize V 11 = x11 at hA
    obtain rfl := hA
    go_wp2
    exact hK.out _ (Below.refl _ _)
   apply own_eq (by kernel_rfl)
   ·intro V W K A hW hd hA hK
    have d1 : V 1 = _ := hd 1 (by kernel_rfl)
    simp only [putAll, List.getElem?_toArray, List.getElem?_cons_succ, List.getElem?_cons_zero, Option.bind_some, Act.put, List.setIfInBounds_toArray, List.set_cons_succ, List.set_cons_zero] at hA
    clear hd
    generalize V 0 = x0 at hA
    generalize V 1 = x1 at d1 hA
    generalize V 2 = x2 at hA
    generalize V 3 = x3 at hA
    generalize V 4 = x4 at hA
    generalize V 5 = x5 at hA
    generalize V 6 = x6 at hA
    generalize V 7 = x7 at hA
    generalize V 8 = x8 at hA
    generalize V 9 = x9 at hA
    generalize V 10 = x10 at hA
    generalize V 11 = x11 at hA
    subst d1
    obtain rfl := hA
    have x1 := blk_cell (below_blk hW X5.out (by omega)) 1 rfl
    go_wp2
    exact hK.out _ (Below.refl _ _)
   apply own_eq (by kernel_rfl)
   ·intro V W K A hW hd hA hK
    simp only [putAll, List.getElem?_toArray, List.getElem?_cons_succ, List.getElem?_cons_zero, Option.bind_some, Act.put, List.setIfInBounds_toArray, List.set_cons_succ, List.set_cons_zero] at hA
    clear hd
    generalize V 0 = x0 at hA
    generalize V 1 = x1 at hA
    generalize V 2 = x2 at hA
    generalize V 3 = x3 at hA
    generalize V 4 = x4 at hA
    generalize V 5 = x5 at hA
    generalize V 6 = x6 at hA
    generalize V 7 = x7 at hA
    generalize V 8 = x8 at hA
    generalize V 9 = x9 at hA
    generalize V 10 = x10 at hA
    generalize V 11 = x11 at hA
    obtain rfl := hA
    go_wp2
    exact hK.out _ (Below.refl _ _)
   apply own_eq (by kernel_rfl)
   ·intro V W K A hW hd hA hK
    have d2 : V 2 = _ := hd 2 (by kernel_rfl)
    have d3 : V 3 = _ := hd 3 (by kernel_rfl)
    simp only [putAll, List.getElem?_toArray, List.getElem?_cons_succ, List.getElem?_cons_zero, Option.bind_some, Act.put, List.setIfInBounds_toArray, List.set_cons_succ, List.set_cons_zero] at hA
    clear hd
    generalize V 0 = x0 at hA
    generalize V 1 = x1 at hA
    generalize V 2 = x2 at d2 hA
    generalize V 3 = x3 at d3 hA
    generalize V 4 = x4 at hA
    generalize V 5 = x5 at hA
    generalize V 6 = x6 at hA
    generalize V 7 = x7 at hA
    generalize V 8 = x8 at hA
    generalize V 9 = x9 at hA
    generalize V 10 = x10 at hA
    generalize V 11 = x11 at hA
    subst d2
    subst d3
    obtain rfl := hA
    go_wp2
    exact hK.out _ (Below.refl _ _)
   refine own_grow (fun vv W => ∃ g cap, vv = .slice (some ⟨g, 0, none⟩) (k) cap ∧ w5.heap.size ≤ g ∧ RowIs W 48 13 g (k) cap (svcsV (B.svcs.take k))) (fun v W W2 ⟨g, cap, h1, h2, h3⟩ hb => ⟨g, cap, h1, h2, h3.below hb h3.lt⟩) (by kernel_rfl) (by kernel_rfl) ?_ ?_
   ·intro V W K A hW hd hA hK
    have d0 : (fun vv W => ∃ g, vv = .slice (some ⟨g, 0, none⟩) 0 0 ∧ w5.heap.size ≤ g ∧ W.heap[g]? = some (.cells #[] 48 (0, 0))) (V 0) W := hd 0 (by kernel_rfl)
    have d4 : V 4 = _ := hd 4 (by kernel_rfl)
    simp only [putAll, List.getElem?_toArray, List.getElem?_cons_succ, List.getElem?_cons_zero, Option.bind_some, Act.put, List.setIfInBounds_toArray, List.set_cons_succ, List.set_cons_zero] at hA
    clear hd
    generalize V 0 = x0 at d0 hA
    generalize V 1 = x1 at hA
    generalize V 2 = x2 at hA
    generalize V 3 = x3 at hA
    generalize V 4 = x4 at d4 hA
    generalize V 5 = x5 at hA
    generalize V 6 = x6 at hA
    generalize V 7 = x7 at hA
    generalize V 8 = x8 at hA
    generalize V 9 = x9 at hA
    generalize V 10 = x10 at hA
    generalize V 11 = x11 at hA
    subst d4
    obtain rfl := hA
    obtain ⟨g, rfl, hg, hgz⟩ := d0
    refine wpList_append_fresh rfl (.tmp 54) (.tmp 58) 30 rfl 48 _ 13 112 Tryz.underlying30 Tryz.infoSvcX rfl g rfl hgz (some ⟨g1, 0, none⟩) k _ (svcsV (B.svcs.take k)) rfl (by rw [svcsV_len, HTL.out]) (fun _ => ⟨_, rfl, (R5.out.below hW (by omega)).srcTake (c := Svc.cells) (fun _ => rfl) k⟩) (svcsV_one _) (by unfold maxLen; omega) (by omega) ?_
    intro g' cap' w2 hg' hrow hb2
    have hgg : w5.heap.size ≤ g' := by have := hW.size; rcases hg' with rfl | rfl <;> omega
    go_wp2
    exact hK.out _ _ hb2 ⟨g', cap', rfl, hgg, hrow.out⟩
   apply own_eq (by kernel_rfl)
   ·intro V W K A hW hd hA hK
    simp only [putAll, List.getElem?_toArray, List.getElem?_cons_succ, List.getElem?_cons_zero, Option.bind_some, Act.put, List.setIfInBounds_toArray, List.set_cons_succ, List.set_cons_zero] at hA
    clear hd
    generalize V 0 = x0 at hA
    generalize V 1 = x1 at hA
    generalize V 2 = x2 at hA
    generalize V 3 = x3 at hA
    generalize V 4 = x4 at hA
    generalize V 5 = x5 at hA
    generalize V 6 = x6 at hA
    generalize V 7 = x7 at hA
    generalize V 8 = x8 at hA
    generalize V 9 = x9 at hA
    generalize V 10 = x10 at hA
    generalize V 11 = x11 at hA
    obtain rfl := hA
    refine wpList_load_row rfl 48 (.tmp 4) rfl (w.heap.size + 1) rfl 48 #[.string s.name, .int .i64 v, .bool s.gone, .int .i64 s.image, .int .i64 s.want, .int .i64 s.down, .int .i64 s.over, .int .i64 1, .int .i64 s.per, .int .i64 s.least, .int .i64 s.most, .int .i64 s.load, .int .i64 0] (0, 0) _ (below_blk hW V5.out (by omega)) Tryz.underlying48 rfl Tryz.infosSvcX ?_
    go_wp2
    exact hK.out _ (Below.refl _ _)
   refine own_grow (fun vv W => ∃ g, vv = .slice (some ⟨g, 0, none⟩) 1 1 ∧ w5.heap.size ≤ g ∧ W.heap[g]? = some (.cells #[.string s.name, .int .i64 v, .bool s.gone, .int .i64 s.image, .int .i64 s.want, .int .i64 s.down, .int .i64 s.over, .int .i64 1, .int .i64 s.per, .int .i64 s.least, .int .i64 s.most, .int .i64 s.load, .int .i64 0] 48 (0, 0))) (fun v W W2 ⟨g, h1, h2, h3⟩ hb => ⟨g, h1, h2, below_blk hb h3 (Array.getElem?_eq_some_iff.1 h3).1⟩) (by kernel_rfl) (by kernel_rfl) ?_ ?_
   ·intro V W K A hW hd hA hK
    have d6 : V 6 = _ := hd 6 (by kernel_rfl)
    simp only [putAll, List.getElem?_toArray, List.getElem?_cons_succ, List.getElem?_cons_zero, Option.bind_some, Act.put, List.setIfInBounds_toArray, List.set_cons_succ, List.set_cons_zero] at hA
    clear hd
    generalize V 0 = x0 at hA
    generalize V 1 = x1 at hA
    generalize V 2 = x2 at hA
    generalize V 3 = x3 at hA
    generalize V 4 = x4 at hA
    generalize V 5 = x5 at hA
    generalize V 6 = x6 at d6 hA
    generalize V 7 = x7 at hA
    generalize V 8 = x8 at hA
    generalize V 9 = x9 at hA
    generalize V 10 = x10 at hA
    generalize V 11 = x11 at hA
    subst d6
    obtain rfl := hA
    go_wp2
    exact hK.out _ _ (below_box W _) ⟨_, rfl, hW.size, heap_alloc_new W _⟩
   refine own_own (fun vv W => ∃ g cap, vv = .slice (some ⟨g, 0, none⟩) (k + 1) cap ∧ w5.heap.size ≤ g ∧ RowIs W 48 13 g (k + 1) cap (svcsV (B.svcs.take k) ++ (#[.string s.name, .int .i64 v, .bool s.gone, .int .i64 s.image, .int .i64 s.want, .int .i64 s.down, .int .i64 s.over, .int .i64 1, .int .i64 s.per, .int .i64 s.least, .int .i64 s.most, .int .i64 s.load, .int .i64 0] : Array Value).toList)) (fun v W W2 ⟨g, cap, h1, h2, h3⟩ hb => ⟨g, cap, h1, h2, h3.below hb h3.lt⟩) (by kernel_rfl) (by kernel_rfl) ?_ ?_
   ·intro V W K A hW hd hA hK
    have d5 : (fun vv W => ∃ g cap, vv = .slice (some ⟨g, 0, none⟩) (k) cap ∧ w5.heap.size ≤ g ∧ RowIs W 48 13 g (k) cap (svcsV (B.svcs.take k))) (V 5) W := hd 5 (by kernel_rfl)
    have d7 : (fun vv W => ∃ g, vv = .slice (some ⟨g, 0, none⟩) 1 1 ∧ w5.heap.size ≤ g ∧ W.heap[g]? = some (.cells #[.string s.name, .int .i64 v, .bool s.gone, .int .i64 s.image, .int .i64 s.want, .int .i64 s.down, .int .i64 s.over, .int .i64 1, .int .i64 s.per, .int .i64 s.least, .int .i64 s.most, .int .i64 s.load, .int .i64 0] 48 (0, 0))) (V 7) W := hd 7 (by kernel_rfl)
    simp only [putAll, List.getElem?_toArray, List.getElem?_cons_succ, List.getElem?_cons_zero, Option.bind_some, Act.put, List.setIfInBounds_toArray, List.set_cons_succ, List.set_cons_zero] at hA
    clear hd
    generalize V 0 = x0 at hA
    generalize V 1 = x1 at hA
    generalize V 2 = x2 at hA
    generalize V 3 = x3 at hA
    generalize V 4 = x4 at hA
    generalize V 5 = x5 at d5 hA
    generalize V 6 = x6 at hA
    generalize V 7 = x7 at d7 hA
    generalize V 8 = x8 at hA
    generalize V 9 = x9 at hA
    generalize V 10 = x10 at hA
    generalize V 11 = x11 at hA
    obtain rfl := hA
    obtain ⟨gA, capA, rfl, hgA, hrA⟩ := d5
    obtain ⟨gb, rfl, hgb, hbz⟩ := d7
    refine wpList_append_row rfl (.tmp 59) (.tmp 61) 30 rfl 48 _ 13 112 Tryz.underlying30 Tryz.infoSvcX rfl gA k capA _ rfl hrA ⟨gb, 0, none⟩ 1 1 (#[.string s.name, .int .i64 v, .bool s.gone, .int .i64 s.image, .int .i64 s.want, .int .i64 s.down, .int .i64 s.over, .int .i64 1, .int .i64 s.per, .int .i64 s.least, .int .i64 s.most, .int .i64 s.load, .int .i64 0] : Array Value).toList rfl rfl (news_row hbz) (by simp [Value.oneCell']) (by unfold maxLen; omega) (by omega) ?_
    intro g' cap' w2 hg' hrow hgr
    have hgg : w5.heap.size ≤ g' := by have := hW.size; rcases hg' with rfl | rfl <;> omega
    have hbo := below_of_grown hgr hgA hW.size
    clear hgr
    go_wp2
    exact hK.out _ _ hbo ⟨g', cap', rfl, hgg, hrow.out⟩
   apply own_eq (by kernel_rfl)
   ·intro V W K A hW hd hA hK
    simp only [putAll, List.getElem?_toArray, List.getElem?_cons_succ, List.getElem?_cons_zero, Option.bind_some, Act.put, List.setIfInBounds_toArray, List.set_cons_succ, List.set_cons_zero] at hA
    clear hd
    generalize V 0 = x0 at hA
    generalize V 1 = x1 at hA
    generalize V 2 = x2 at hA
    generalize V 3 = x3 at hA
    generalize V 4 = x4 at hA
    generalize V 5 = x5 at hA
    generalize V 6 = x6 at hA
    generalize V 7 = x7 at hA
    generalize V 8 = x8 at hA
    generalize V 9 = x9 at hA
    generalize V 10 = x10 at hA
    generalize V 11 = x11 at hA
    obtain rfl := hA
    go_wp2
    exact hK.out _ (Below.refl _ _)
   refine own_own (fun vv W => ∃ g cap, vv = .slice (some ⟨g, 0, none⟩) (k + 1 + 0) cap ∧ w5.heap.size ≤ g ∧ RowIs W 48 13 g (k + 1 + 0) cap (svcsV (B.svcs.take k) ++ (#[.string s.name, .int .i64 v, .bool s.gone, .int .i64 s.image, .int .i64 s.want, .int .i64 s.down, .int .i64 s.over, .int .i64 1, .int .i64 s.per, .int .i64 s.least, .int .i64 s.most, .int .i64 s.load, .int .i64 0] : Array Value).toList ++ svcsV (B.svcs.drop k))) (fun v W W2 ⟨g, cap, h1, h2, h3⟩ hb => ⟨g, cap, h1, h2, h3.below hb h3.lt⟩) (by kernel_rfl) (by kernel_rfl) ?_ ?_
   ·intro V W K A hW hd hA hK
    have d8 : (fun vv W => ∃ g cap, vv = .slice (some ⟨g, 0, none⟩) (k + 1) cap ∧ w5.heap.size ≤ g ∧ RowIs W 48 13 g (k + 1) cap (svcsV (B.svcs.take k) ++ (#[.string s.name, .int .i64 v, .bool s.gone, .int .i64 s.image, .int .i64 s.want, .int .i64 s.down, .int .i64 s.over, .int .i64 1, .int .i64 s.per, .int .i64 s.least, .int .i64 s.most, .int .i64 s.load, .int .i64 0] : Array Value).toList)) (V 8) W := hd 8 (by kernel_rfl)
    have d9 : V 9 = _ := hd 9 (by kernel_rfl)
    simp only [putAll, List.getElem?_toArray, List.getElem?_cons_succ, List.getElem?_cons_zero, Option.bind_some, Act.put, List.setIfInBounds_toArray, List.set_cons_succ, List.set_cons_zero] at hA
    clear hd
    generalize V 0 = x0 at hA
    generalize V 1 = x1 at hA
    generalize V 2 = x2 at hA
    generalize V 3 = x3 at hA
    generalize V 4 = x4 at hA
    generalize V 5 = x5 at hA
    generalize V 6 = x6 at hA
    generalize V 7 = x7 at hA
    generalize V 8 = x8 at d8 hA
    generalize V 9 = x9 at d9 hA
    generalize V 10 = x10 at hA
    generalize V 11 = x11 at hA
    subst d9
    obtain rfl := hA
    obtain ⟨gA, capA, rfl, hgA, hrA⟩ := d8
    refine wpList_append_row rfl (.tmp 62) (.tmp 63) 30 rfl 48 _ 13 112 Tryz.underlying30 Tryz.infoSvcX rfl gA (k + 1) capA _ rfl hrA ⟨g1, off, none⟩ 0 _ (svcsV (B.svcs.drop k)) rfl (by rw [svcsV_len, HRL.out]) (SRD.out W hW) (svcsV_one _) (by unfold maxLen; omega) (by omega) ?_
    intro g' cap' w2 hg' hrow hgr
    have hgg : w5.heap.size ≤ g' := by have := hW.size; rcases hg' with rfl | rfl <;> omega
    have hbo := below_of_grown hgr hgA hW.size
    clear hgr
    go_wp2
    exact hK.out _ _ hbo ⟨g', cap', rfl, hgg, hrow.out⟩
   apply own_eq (by kernel_rfl)
   ·intro V W K A hW hd hA hK
    simp only [putAll, List.getElem?_toArray, List.getElem?_cons_succ, List.getElem?_cons_zero, Option.bind_some, Act.put, List.setIfInBounds_toArray, List.set_cons_succ, List.set_cons_zero] at hA
    clear hd
    generalize V 0 = x0 at hA
    generalize V 1 = x1 at hA
    generalize V 2 = x2 at hA
    generalize V 3 = x3 at hA
    generalize V 4 = x4 at hA
    generalize V 5 = x5 at hA
    generalize V 6 = x6 at hA
    generalize V 7 = x7 at hA
    generalize V 8 = x8 at hA
    generalize V 9 = x9 at hA
    generalize V 10 = x10 at hA
    generalize V 11 = x11 at hA
    obtain rfl := hA
    go_wp2
    exact hK.out _ (Below.refl _ _)
   intro V W A hW hS hA
   have d1 : V 1 = _ := hS 1 (by omega) (.inr (by kernel_rfl))
   have d2 : V 2 = _ := hS 2 (by omega) (.inr (by kernel_rfl))
   have d3 : V 3 = _ := hS 3 (by omega) (.inr (by kernel_rfl))
   have d4 : V 4 = _ := hS 4 (by omega) (.inr (by kernel_rfl))
   have d6 : V 6 = _ := hS 6 (by omega) (.inr (by kernel_rfl))
   have d9 : V 9 = _ := hS 9 (by omega) (.inr (by kernel_rfl))
   have d10 : (fun vv W => ∃ g cap, vv = .slice (some ⟨g, 0, none⟩) (k + 1 + 0) cap ∧ w5.heap.size ≤ g ∧ RowIs W 48 13 g (k + 1 + 0) cap (svcsV (B.svcs.take k) ++ (#[.string s.name, .int .i64 v, .bool s.gone, .int .i64 s.image, .int .i64 s.want, .int .i64 s.down, .int .i64 s.over, .int .i64 1, .int .i64 s.per, .int .i64 s.least, .int .i64 s.most, .int .i64 s.load, .int .i64 0] : Array Value).toList ++ svcsV (B.svcs.drop k))) (V 10) W := hS 10 (by omega) (.inl (by kernel_rfl))
   have d11 : V 11 = _ := hS 11 (by omega) (.inr (by kernel_rfl))
   simp only [putAll, List.getElem?_toArray, List.getElem?_cons_succ, List.getElem?_cons_zero, Option.bind_some, Act.put, List.setIfInBounds_toArray, List.set_cons_succ, List.set_cons_zero] at hA
   clear hS
   generalize V 0 = x0 at hA
   generalize V 1 = x1 at d1 hA
   generalize V 2 = x2 at d2 hA
   generalize V 3 = x3 at d3 hA
   generalize V 4 = x4 at d4 hA
   generalize V 5 = x5 at hA
   generalize V 6 = x6 at d6 hA
   generalize V 7 = x7 at hA
   generalize V 8 = x8 at hA
   generalize V 9 = x9 at d9 hA
   generalize V 10 = x10 at d10 hA
   generalize V 11 = x11 at d11 hA
   subst d1
   subst d2
   subst d3
   subst d4
   subst d6
   subst d9
   subst d11
   obtain rfl := hA
   simp only [List.drop_succ_cons, List.drop_zero]
   obtain ⟨gC, capC, rfl, hgC, hrC⟩ := d10
   have RC : Hid (RowIs W 48 13 gC (k + 1 + 0) capC (svcsV (B.svcs.take k) ++ (#[.string s.name, .int .i64 v, .bool s.gone, .int .i64 s.image, .int .i64 s.want, .int .i64 s.down, .int .i64 s.over, .int .i64 1, .int .i64 s.per, .int .i64 s.least, .int .i64 s.most, .int .i64 s.load, .int .i64 0] : Array Value).toList ++ svcsV (B.svcs.drop k))) := hrC
   clear hrC
   have hbW := hb5.trans (hW.mono hb5.size)
   have XW : Hid _ := below_blk hW X5.out (by omega)
   have ZW : Hid _ := below_blk hW Z5.out (by omega)
   have hzW : w.heap.size + 1 + 1 < W.heap.size := (Array.getElem?_eq_some_iff.1 ZW.out).1
   go_wp2_with (first
    | (refine wpList_store_one rfl 30 (.tmp 65) (.tmp 64) rfl w.heap.size 1 (.slice (some ⟨gC, 0, none⟩) (k + 1 + 0) capC) rfl rfl Tryz.infosSvcsX rfl rfl 34 #[.int .i64 B.now, .slice (some ⟨g1, 0, none⟩) n1 k1, .slice a2 B.cps.length c2, .slice a3 B.bts.length c3] XW.out (Nat.le_of_ble_eq_true rfl) ?_; intro w8 hz on; have X8 : Hid (w8.heap[w.heap.size]? = some (.cells #[.int .i64 B.now, .slice (some ⟨gC, 0, none⟩) (k + 1 + 0) capC, .slice a2 B.cps.length c2, .slice a3 B.bts.length c3] 34 (0, 0))) := hz; have Z8 : Hid _ := (on.other (w.heap.size + 1 + 1) (by omega)).trans ZW.out; have R8 : Hid (RowIs w8 48 13 gC (k + 1 + 0) capC _) := RC.out.blk (on.other gC (by omega)); have hb8 := hbW.trans (on.below.mono (by omega)); clear hz on; have q0 := blk_cell X8.out 0 rfl; have q1 := blk_cell X8.out 1 rfl; have q2 := blk_cell X8.out 2 rfl; have q3 := blk_cell X8.out 3 rfl)
    | (refine wpList_store_only rfl 34 (.tmp 6) (.tmp 66) rfl (w.heap.size + 1 + 1) 0 #[.int .i64 B.now, .slice (some ⟨gC, 0, none⟩) (k + 1 + 0) capC, .slice a2 B.cps.length c2, .slice a3 B.bts.length c3] rfl rfl 34 #[.int .i64 0, .slice none 0 0, .slice none 0 0, .slice none 0 0] Z8.out Tryz.infosBkX (Nat.le_of_ble_eq_true rfl) (by simp [Value.oneCell']) ?_; intro w9 hz on; have Z9 : Hid (w9.heap[w.heap.size + 1 + 1]? = some (.cells #[.int .i64 B.now, .slice (some ⟨gC, 0, none⟩) (k + 1 + 0) capC, .slice a2 B.cps.length c2, .slice a3 B.bts.length c3] 34 (0, 0))) := hz; have R9 : Hid (RowIs w9 48 13 gC (k + 1 + 0) capC _) := R8.out.blk (on.other gC (by omega)); have hb9 := hb8.trans (on.below.mono (by omega)); clear hz on))
   have HFIN : Hid (svcsV (B.svcs.take k) ++ (#[.string s.name, .int .i64 v, .bool s.gone, .int .i64 s.image, .int .i64 s.want, .int .i64 s.down, .int .i64 s.over, .int .i64 1, .int .i64 s.per, .int .i64 s.least, .int .i64 s.most, .int .i64 s.load, .int .i64 0] : Array Value).toList ++ svcsV (B.svcs.drop k) = svcsV (wishB B s v).svcs) := by unfold Hid; rw [HPUT.out]; simp [svcsV, Svc.cells]
   exact bodyPost_ret (v := .agg #[.int .i64 B.now, .slice (some ⟨gC, 0, none⟩) (k + 1 + 0) capC, .slice a2 B.cps.length c2, .slice a3 B.bts.length c3]) (results_cell_row rfl _ _ (w.heap.size + 1 + 1) _ _ _ _ rfl Z9.out Tryz.underlying34 rfl Tryz.infosBkX) rfl ⟨gC, k + 1 + 0, capC, rfl, by unfold Hid; rw [HPUT.out, List.length_append, List.length_cons, HTL.out, HRL.out] <;> omega, by omega, by unfold Hid; rw [← HFIN.out]; exact R9.out, hb9⟩
end Go.Proofs.YtbceafpodamnfabGreat
