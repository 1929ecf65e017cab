/-
  My own: Oi.
-/
import Derived.Test.YtbceafpodamnfabGreatDoorG29
import Derived.Test.YtbceafpodamnfabGreatDoorG30
set_option linter.unusedVariables false
set_option linter.unusedSimpArgs false
namespace Go.Proofs.YtbceafpodamnfabGreatDoor
open Go.RowKit Go.Sort
theorem ret_boolO {a b : Bool} (h : a = b) : Ending.returned (.bool a) = .returned (.bool b) := by rw [h]
set_option maxRecDepth 100000 in
set_option maxHeartbeats 8000000 in
theorem mayCreate_any (A : Ac) (ae : Option Addr) (ce : Nat) (X : Bk) (s : Svc) (N g k : Nat) (I : List Int) (w : World) (hSm : X.small) (HSO : Hid (RiseC X.cps)) (hN : N ≤ w.heap.size) (hk : X.svcs[k]? = some s) (C : Cnt) (HC : Hid (C = cntTo s.image s.name X.cps X.cps.length)) (hcr0 : 0 ≤ A.create) (hcr1 : A.create ≤ 20) (hw0 : 0 ≤ s.want) (hw1 : s.want ≤ 10) (ho0 : 0 ≤ s.over) (ho1 : s.over ≤ 10) (hS : WkAt w N g A ae ce X k I) :
  Calls Tryz.prog 174 #[.pointer (some ⟨g, 0, none⟩)] w fun e w' => e = .returned (.bool (!makeNo A s C)) ∧ Below w.heap.size w w' := by
 obtain ⟨hl1, hl2, _⟩ := hSm
 obtain ⟨b1, b2, b3, d1, d2, d3, ve, hNg, hg, hbk, hei⟩ := hS
 have hkl : k < X.svcs.length := (List.getElem?_eq_some_iff.1 hk).1
 obtain ⟨g1, e1, hN1, hr1⟩ := hbk.svcs.some (by omega)
 subst e1
 obtain ⟨n1, HN1⟩ : ∃ n, Hid (X.svcs.length = n) := ⟨_, rfl⟩
 obtain ⟨n2, HN2⟩ : ∃ n, Hid (X.cps.length = n) := ⟨_, rfl⟩
 obtain ⟨n3, HN3⟩ : ∃ n, Hid (X.bts.length = n) := ⟨_, rfl⟩
 obtain ⟨ne, HNE⟩ : ∃ n, Hid (I.length = n) := ⟨_, rfl⟩
 obtain ⟨r2, r3⟩ : RowN w N 149 7 b2 X.cps.length d2 (cpsV X.cps) ∧ RowN w N 147 2 b3 X.bts.length d3 (btsV X.bts) := ⟨hbk.cps, hbk.bts⟩
 clear hbk
 rw [HN1.out] at hr1 hg hkl hl1
 rw [HN2.out] at r2 hg
 rw [HN3.out] at r3 hg
 rw [HNE.out] at hei
 have HK : Hid _ := hk
 have HG : Hid _ := hg
 have HR1 : Hid (RowIs w 67 13 g1 n1 d1 (svcsV X.svcs)) := hr1
 have HR2 := hidRowN r2
 have HR3 := hidRowN r3
 have HEI : Hid (w.ownsRow N 3 1 ve ne (intsV I)) := hei
 have hlt : g < w.heap.size := (Array.getElem?_eq_some_iff.1 hg).1
 have hlt1 : g1 < w.heap.size := hr1.lt
 clear hk hg hr1 r2 r3 hei
 have HSV : Hid (SvcAt w g1 (k * 13) s) := HR1.out.svcAt HK.out
 have HC2 : Hid (X.cps.length ≤ d2) := by have := HR2.out.cap; unfold Hid; rw [HN2.out]; exact this
 have hup := cntTo_upTo s.image s.name X.cps X.cps.length (Nat.le_refl _)
 rw [← HC.out] at hup
 have hc0 := hup.1
 have hc1 := hup.2.1
 have HUP : Hid _ := hup
 clear hup
 have e2 := blk_cell HG.out 2 rfl
 go_enter Tryz.func174, Tryz.ntmps174
 by_cases hcz : A.create = 0
 ·have HO : Hid ((!makeNo A s C) = true) := by unfold Hid makeNo; rw [hcz]; rfl
  go_wp2
  go_ret
  exact ⟨ret_boolO HO.out.symm, Below.refl _ _⟩
 have hfld := run_field_count0
 have HO : Hid ((!makeNo A s C) = (!s.gone && decide (C.live + A.create ≤ s.want + s.over))) := by
  unfold Hid makeNo
  rw [decide_eq_true (show 0 < A.create by omega)]
  by_cases h : C.live + A.create ≤ s.want + s.over
  ·rw [decide_eq_true h, decide_eq_false (show ¬ s.want + s.over < C.live + A.create by omega)]
   cases s.gone <;> rfl
  ·rw [decide_eq_false h, decide_eq_true (show s.want + s.over < C.live + A.create by omega)]
   cases s.gone <;> rfl
 go_upto_region 4 with (go_at_call 224; refine (service_any A ae ce X.now g g1 n1 d1 k _ _ _ _ hkl hl1 HG.out).mono ?_; rintro e w1 ⟨rfl, hb1⟩; have hq := HSV.out.below hb1 hlt1; unfold SvcAt at hq; obtain ⟨q0, q1, q2, q3, q4, q5, q6, q7, q8, q9, q10, q11, q12⟩ := hq; have T0 : Hid _ := heap_alloc_new w1 (.cells (#[.string s.name, .int .i64 s.version, .bool s.gone, .int .i64 s.image, .int .i64 s.want, .int .i64 s.down, .int .i64 s.over, .int .i64 s.next, .int .i64 s.per, .int .i64 s.least, .int .i64 s.most, .int .i64 s.load, .int .i64 s.cool] : Array Value) 67); have hba := below_box w1 (.cells (#[.string s.name, .int .i64 s.version, .bool s.gone, .int .i64 s.image, .int .i64 s.want, .int .i64 s.down, .int .i64 s.over, .int .i64 s.next, .int .i64 s.per, .int .i64 s.least, .int .i64 s.most, .int .i64 s.load, .int .i64 s.cool] : Array Value) 67); obtain ⟨wa, hwa⟩ : ∃ W, w1.alloc (.cells (#[.string s.name, .int .i64 s.version, .bool s.gone, .int .i64 s.image, .int .i64 s.want, .int .i64 s.down, .int .i64 s.over, .int .i64 s.next, .int .i64 s.per, .int .i64 s.least, .int .i64 s.most, .int .i64 s.load, .int .i64 s.cool] : Array Value) 67) = W := ⟨_, rfl⟩; rw [hwa] at T0 hba)
 clear e2
 clear hwa q0 q1 q2 q3 q4 q5 q6 q7 q8 q9 q10 q11 q12
 have hb0 := hb1.trans (hba.mono hb1.size)
 have HGa : Hid _ := below_blk hb0 HG.out hlt
 have hga : g < wa.heap.size := Nat.lt_of_lt_of_le hlt hb0.size
 have hta : w1.heap.size < wa.heap.size := (Array.getElem?_eq_some_iff.1 T0.out).1
 have HSLC : Hid (SlC wa b2 X.cps) := by
  have := (HR2.out.below hb0)
  rw [← HN2.out] at this
  exact this.slC
 clear hb1 hba
 refine wp_region_grows 13 (by kernel_rfl) (by kernel_rfl) ?_
 apply grow_eq
 ·intro V W K AA hW hd hA hK
  simp only [putAll, pz1, pz2, pz3, pz4, Act.put, pz5, pz6, pz7] at hA
  clear hd
  obtain rfl := hA
  go_wp2
  exact hK.out _ brf
 apply grow_eq
 ·intro V W K AA hW hd hA hK
  have d0 : V 0 = _ := hd 0 (by kernel_rfl)
  simp only [putAll, pz1, pz2, pz3, pz4, Act.put, pz5, pz6, pz7, d0] at hA
  clear hd d0
  obtain rfl := hA
  go_wp2
  exact hK.out _ brf
 apply grow_eq
 ·intro V W K AA hW hd hA hK
  have d1 : V 1 = _ := hd 1 (by kernel_rfl)
  simp only [putAll, pz1, pz2, pz3, pz4, Act.put, pz5, pz6, pz7, d1] at hA
  clear hd d1
  obtain rfl := hA
  go_wp2
  exact hK.out _ brf
 apply grow_eq
 ·intro V W K AA hW hd hA hK
  have d2 : V 2 = _ := hd 2 (by kernel_rfl)
  simp only [putAll, pz1, pz2, pz3, pz4, Act.put, pz5, pz6, pz7, d2] at hA
  clear hd d2
  obtain rfl := hA
  have e8 := blk_cell (below_blk hW HGa.out hga) 8 rfl
  have e9 := blk_cell (below_blk hW HGa.out hga) 9 rfl
  have e10 := blk_cell (below_blk hW HGa.out hga) 10 rfl
  have e11 := blk_cell (below_blk hW HGa.out hga) 11 rfl
  go_wp2
  exact hK.out _ brf
 apply grow_eq
 ·intro V W K AA hW hd hA hK
  simp only [putAll, pz1, pz2, pz3, pz4, Act.put, pz5, pz6, pz7] at hA
  clear hd
  obtain rfl := hA
  have t0 := blk_cell (below_blk hW T0.out hta) 0 rfl
  have t1 := blk_cell (below_blk hW T0.out hta) 1 rfl
  have t2 := blk_cell (below_blk hW T0.out hta) 2 rfl
  have t3 := blk_cell (below_blk hW T0.out hta) 3 rfl
  have t4 := blk_cell (below_blk hW T0.out hta) 4 rfl
  have t5 := blk_cell (below_blk hW T0.out hta) 5 rfl
  have t6 := blk_cell (below_blk hW T0.out hta) 6 rfl
  have t7 := blk_cell (below_blk hW T0.out hta) 7 rfl
  have t8 := blk_cell (below_blk hW T0.out hta) 8 rfl
  have t9 := blk_cell (below_blk hW T0.out hta) 9 rfl
  have t10 := blk_cell (below_blk hW T0.out hta) 10 rfl
  have t11 := blk_cell (below_blk hW T0.out hta) 11 rfl
  have t12 := blk_cell (below_blk hW T0.out hta) 12 rfl
  go_wp2
  exact hK.out _ brf
 apply grow_eq
 ·intro V W K AA hW hd hA hK
  have d3 : V 3 = _ := hd 3 (by kernel_rfl)
  have d4 : V 4 = _ := hd 4 (by kernel_rfl)
  simp only [putAll, pz1, pz2, pz3, pz4, Act.put, pz5, pz6, pz7, d3, d4] at hA
  clear hd d3 d4
  obtain rfl := hA
  go_wp2_with fail
  refine (countCopies_n X s _ _ b3 d1 d2 d3 n1 n2 n3 _ HN1 HN2 HN3 hl2 HSO HC2 (HSLC.out.below hW) C HC).mono ?_
  rintro e w3 ⟨rfl, hb3⟩
  go_wp2
  exact hK.out _ hb3
 apply grow_eq
 ·intro V W K AA hW hd hA hK
  have d5 : V 5 = _ := hd 5 (by kernel_rfl)
  simp only [putAll, pz1, pz2, pz3, pz4, Act.put, pz5, pz6, pz7, d5] at hA
  clear hd d5
  obtain rfl := hA
  go_wp2
  exact hK.out _ brf
 apply grow_eq
 ·intro V W K AA hW hd hA hK
  simp only [putAll, pz1, pz2, pz3, pz4, Act.put, pz5, pz6, pz7] at hA
  clear hd
  obtain rfl := hA
  go_wp2
  exact hK.out _ brf
 apply grow_eq
 ·intro V W K AA hW hd hA hK
  have d7 : V 7 = _ := hd 7 (by kernel_rfl)
  simp only [putAll, pz1, pz2, pz3, pz4, Act.put, pz5, pz6, pz7, d7] at hA
  clear hd d7
  obtain rfl := hA
  go_wp2
  exact hK.out _ brf
 apply grow_eq
 ·intro V W K AA hW hd hA hK
  have d8 : V 8 = _ := hd 8 (by kernel_rfl)
  simp only [putAll, pz1, pz2, pz3, pz4, Act.put, pz5, pz6, pz7, d8] at hA
  clear hd d8
  obtain rfl := hA
  go_wp2
  exact hK.out _ brf
 apply grow_eq
 ·intro V W K AA hW hd hA hK
  have d9 : V 9 = _ := hd 9 (by kernel_rfl)
  simp only [putAll, pz1, pz2, pz3, pz4, Act.put, pz5, pz6, pz7, d9] at hA
  clear hd d9
  obtain rfl := hA
  go_wp2
  exact hK.out _ brf
 apply grow_eq
 ·intro V W K AA hW hd hA hK
  have d10 : V 10 = _ := hd 10 (by kernel_rfl)
  simp only [putAll, pz1, pz2, pz3, pz4, Act.put, pz5, pz6, pz7, d10] at hA
  clear hd d10
  obtain rfl := hA
  have e2 := blk_cell (below_blk hW HGa.out hga) 2 rfl
  go_wp2
  exact hK.out _ brf
 refine grow_op (fun v _ => v = .int .i64 (C.live + A.create)) (fun _ _ _ h _ => h) ?_ ?_
 ·intro V W K AA hW hd hA hK
  have d6 : V 6 = _ := hd 6 (by kernel_rfl)
  have d11 : V 11 = _ := hd 11 (by kernel_rfl)
  simp only [putAll, pz1, pz2, pz3, pz4, Act.put, pz5, pz6, pz7, d6, d11] at hA
  clear hd d6 d11
  obtain rfl := hA
  go_wp2
  exact hK.out _ _ brf (by go_num)
 intro V W AA hW hS hA
 have d0 : V 0 = _ := hS 0 (by omega)
 have d1 : V 1 = _ := hS 1 (by omega)
 have d2 : V 2 = _ := hS 2 (by omega)
 have d3 : V 3 = _ := hS 3 (by omega)
 have d4 : V 4 = _ := hS 4 (by omega)
 have d5 : V 5 = _ := hS 5 (by omega)
 have d6 : V 6 = _ := hS 6 (by omega)
 have d7 : V 7 = _ := hS 7 (by omega)
 have d8 : V 8 = _ := hS 8 (by omega)
 have d9 : V 9 = _ := hS 9 (by omega)
 have d10 : V 10 = _ := hS 10 (by omega)
 have d11 : V 11 = _ := hS 11 (by omega)
 have d12 : (fun v _ => v = .int .i64 (C.live + A.create)) (V 12) W := hS 12 (by omega)
 simp only [putAll, pz1, pz2, pz3, pz4, Act.put, pz5, pz6, pz7, d0, d1, d2, d3, d4, d5, d6, d7, d8, d9, d10, d11] at hA
 clear hS d0 d1 d2 d3 d4 d5 d6 d7 d8 d9 d10 d11
 generalize V 12 = x12 at d12 hA
 obtain rfl := hA
 simp only [List.drop_succ_cons, List.drop_zero]
 obtain rfl := d12
 have HTW : Hid _ := below_blk hW T0.out hta
 have hbW := hb0.trans (hW.mono hb0.size)
 have t2 := blk_cell HTW.out 2 rfl
 have t4 := blk_cell HTW.out 4 rfl
 have t6 := blk_cell HTW.out 6 rfl
 clear hW HGa T0 HSLC hga hta hb0 HUP HC2 HSV HEI HR3 HR2 HR1 HG hcz
 obtain ⟨gn, HGN⟩ : ∃ b, Hid (s.gone = b) := ⟨_, rfl⟩
 rw [HGN.out] at t2
 cases gn
 ·obtain ⟨lb, HLB⟩ : ∃ b, Hid (decide (C.live + A.create ≤ s.want + s.over) = b) := ⟨_, rfl⟩
  go_wp2
  all_goals
   go_ret
   refine ⟨ret_boolO ?_, hbW⟩
   rw [HO.out, HGN.out]
   simp [*]
 ·go_wp2
  go_ret
  exact ⟨ret_boolO (by rw [HO.out, HGN.out]; rfl), hbW⟩
def Cnt.okO (n : Cnt) : Prop := 0 ≤ n.live ∧ 0 ≤ n.ending ∧ n.ready ≤ n.live ∧ n.old ≤ n.live ∧ n.failed ≤ n.live ∧ 0 ≤ n.ready ∧ 0 ≤ n.old ∧ 0 ≤ n.failed
theorem cntOne_okO (img : Int) (sv : ByteArray) (c : Cp) (n : Cnt) (h : n.okO) : (cntOne img sv c n).okO := by
 unfold Cnt.okO at *
 unfold cntOne cntAdd addB
 cases c.service.toList == sv.toList <;> cases c.ending <;> cases c.state == 3 <;> cases c.image != img <;> cases c.state == 4 <;> simp only [if_true, if_false, Bool.false_eq_true] <;> omega
theorem cnt_okO {C : Cnt} {img : Int} {sv : ByteArray} {l : List Cp} (h : C = cntTo img sv l l.length) : C.okO := by
 subst h
 unfold cntTo
 rw [List.take_length]
 have key : ∀ (l : List Cp) (n : Cnt), n.okO → (l.foldl (fun n c => cntOne img sv c n) n).okO := by
  intro l
  induction l with
  | nil => intro n h; exact h
  | cons c l ih => intro n h; exact ih _ (cntOne_okO img sv c n h)
 exact key l Cnt.none (by simp [Cnt.none, Cnt.okO])
set_option maxRecDepth 100000 in
set_option maxHeartbeats 8000000 in
theorem mayDrop_any (A : Ac) (ae : Option Addr) (ce : Nat) (X : Bk) (s : Svc) (N g k : Nat) (I : List Int) (w : World) (hSm : X.small) (HSO : Hid (RiseC X.cps)) (hN : N ≤ w.heap.size) (hk : X.svcs[k]? = some s) (C : Cnt) (HC : Hid (C = cntTo s.image s.name X.cps X.cps.length)) (hS : WkAt w N g A ae ce X k I) :
  Calls Tryz.prog 175 #[.pointer (some ⟨g, 0, none⟩)] w fun e w' => e = .returned (.bool (!dropNo A s C)) ∧ Below w.heap.size w w' := by
 obtain ⟨hl1, hl2, _⟩ := hSm
 obtain ⟨b1, b2, b3, d1, d2, d3, ve, hNg, hg, hbk, hei⟩ := hS
 have hkl : k < X.svcs.length := (List.getElem?_eq_some_iff.1 hk).1
 obtain ⟨g1, e1, hN1, hr1⟩ := hbk.svcs.some (by omega)
 subst e1
 obtain ⟨n1, HN1⟩ : ∃ n, Hid (X.svcs.length = n) := ⟨_, rfl⟩
 obtain ⟨n2, HN2⟩ : ∃ n, Hid (X.cps.length = n) := ⟨_, rfl⟩
 obtain ⟨n3, HN3⟩ : ∃ n, Hid (X.bts.length = n) := ⟨_, rfl⟩
 obtain ⟨ne, HNE⟩ : ∃ n, Hid (I.length = n) := ⟨_, rfl⟩
 obtain ⟨r2, r3⟩ : RowN w N 149 7 b2 X.cps.length d2 (cpsV X.cps) ∧ RowN w N 147 2 b3 X.bts.length d3 (btsV X.bts) := ⟨hbk.cps, hbk.bts⟩
 clear hbk
 rw [HN1.out] at hr1 hg hkl hl1
 rw [HN2.out] at r2 hg
 rw [HN3.out] at r3 hg
 rw [HNE.out] at hei
 have HK : Hid _ := hk
 have HG : Hid _ := hg
 have HR1 : Hid (RowIs w 67 13 g1 n1 d1 (svcsV X.svcs)) := hr1
 have HR2 := hidRowN r2
 have HR3 := hidRowN r3
 have HEI : Hid (w.ownsRow N 3 1 ve ne (intsV I)) := hei
 have hlt : g < w.heap.size := (Array.getElem?_eq_some_iff.1 hg).1
 have hlt1 : g1 < w.heap.size := hr1.lt
 clear hk hg hr1 r2 r3 hei
 have HSV : Hid (SvcAt w g1 (k * 13) s) := HR1.out.svcAt HK.out
 have HC2 : Hid (X.cps.length ≤ d2) := by have := HR2.out.cap; unfold Hid; rw [HN2.out]; exact this
 have hup := cntTo_upTo s.image s.name X.cps X.cps.length (Nat.le_refl _)
 rw [← HC.out] at hup
 have hc0 := hup.1
 have hc1 := hup.2.1
 have HUP : Hid _ := hup
 clear hup
 have e7 := blk_cell HG.out 7 rfl
 go_enter Tryz.func175, Tryz.ntmps175
 obtain ⟨dr, HDR⟩ : ∃ b, Hid (A.drop = b) := ⟨_, rfl⟩
 rw [HDR.out] at e7
 cases dr
 ·have HO : Hid ((!dropNo A s C) = true) := by unfold Hid dropNo; rw [HDR.out]; rfl
  go_wp2
  go_ret
  exact ⟨ret_boolO HO.out.symm, Below.refl _ _⟩
 go_upto_region 4 with (go_at_call 224; refine (service_any A ae ce X.now g g1 n1 d1 k _ _ _ _ hkl hl1 HG.out).mono ?_; rintro e w1 ⟨rfl, hb1⟩; have hq := HSV.out.below hb1 hlt1; unfold SvcAt at hq; obtain ⟨q0, q1, q2, q3, q4, q5, q6, q7, q8, q9, q10, q11, q12⟩ := hq; have T0 : Hid _ := heap_alloc_new w1 (.cells (#[.string s.name, .int .i64 s.version, .bool s.gone, .int .i64 s.image, .int .i64 s.want, .int .i64 s.down, .int .i64 s.over, .int .i64 s.next, .int .i64 s.per, .int .i64 s.least, .int .i64 s.most, .int .i64 s.load, .int .i64 s.cool] : Array Value) 67); have hba := below_box w1 (.cells (#[.string s.name, .int .i64 s.version, .bool s.gone, .int .i64 s.image, .int .i64 s.want, .int .i64 s.down, .int .i64 s.over, .int .i64 s.next, .int .i64 s.per, .int .i64 s.least, .int .i64 s.most, .int .i64 s.load, .int .i64 s.cool] : Array Value) 67); obtain ⟨wa, hwa⟩ : ∃ W, w1.alloc (.cells (#[.string s.name, .int .i64 s.version, .bool s.gone, .int .i64 s.image, .int .i64 s.want, .int .i64 s.down, .int .i64 s.over, .int .i64 s.next, .int .i64 s.per, .int .i64 s.least, .int .i64 s.most, .int .i64 s.load, .int .i64 s.cool] : Array Value) 67) = W := ⟨_, rfl⟩; rw [hwa] at T0 hba)
 clear e7
 clear hwa q0 q1 q2 q3 q4 q5 q6 q7 q8 q9 q10 q11 q12
 have hb0 := hb1.trans (hba.mono hb1.size)
 have HGa : Hid _ := below_blk hb0 HG.out hlt
 have hga : g < wa.heap.size := Nat.lt_of_lt_of_le hlt hb0.size
 have hta : w1.heap.size < wa.heap.size := (Array.getElem?_eq_some_iff.1 T0.out).1
 have HSLC : Hid (SlC wa b2 X.cps) := by
  have := (HR2.out.below hb0)
  rw [← HN2.out] at this
  exact this.slC
 clear hb1 hba
 obtain ⟨gn, HGN⟩ : ∃ b, Hid (s.gone = b) := ⟨_, rfl⟩
 have HOK : Hid C.okO := cnt_okO HC.out
 cases gn
 ·refine wp_region_grows 12 (by kernel_rfl) (by kernel_rfl) ?_
  apply grow_eq
  ·intro V W K AA hW hd hA hK
   simp only [putAll, pz1, pz2, pz3, pz4, Act.put, pz5, pz6, pz7] at hA
   clear hd
   obtain rfl := hA
   go_wp2
   exact hK.out _ brf
  refine grow_op (fun v _ => v = .bool false) (fun _ _ _ h _ => h) ?_ ?_
  ·intro V W K AA hW hd hA hK
   have d0 : V 0 = _ := hd 0 (by kernel_rfl)
   simp only [putAll, pz1, pz2, pz3, pz4, Act.put, pz5, pz6, pz7, d0] at hA
   clear hd d0
   obtain rfl := hA
   have t0 := blk_cell (below_blk hW T0.out hta) 0 rfl
   have t1 := blk_cell (below_blk hW T0.out hta) 1 rfl
   have t2 := blk_cell (below_blk hW T0.out hta) 2 rfl
   have t3 := blk_cell (below_blk hW T0.out hta) 3 rfl
   have t4 := blk_cell (below_blk hW T0.out hta) 4 rfl
   have t5 := blk_cell (below_blk hW T0.out hta) 5 rfl
   have t6 := blk_cell (below_blk hW T0.out hta) 6 rfl
   have t7 := blk_cell (below_blk hW T0.out hta) 7 rfl
   have t8 := blk_cell (below_blk hW T0.out hta) 8 rfl
   have t9 := blk_cell (below_blk hW T0.out hta) 9 rfl
   have t10 := blk_cell (below_blk hW T0.out hta) 10 rfl
   have t11 := blk_cell (below_blk hW T0.out hta) 11 rfl
   have t12 := blk_cell (below_blk hW T0.out hta) 12 rfl
   go_wp2
   exact hK.out _ _ brf (by rw [HGN.out])
  apply grow_eq
  ·intro V W K AA hW hd hA hK
   have d1 : (fun v _ => v = .bool false) (V 1) W := hd 1 (by kernel_rfl)
   simp only [putAll, pz1, pz2, pz3, pz4, Act.put, pz5, pz6, pz7] at hA
   clear hd
   generalize V 1 = x1 at d1 hA
   obtain rfl := hA
   obtain rfl := d1
   go_wp2
   exact hK.out _ brf
  refine grow_op (fun _ _ => True) (fun _ _ _ _ _ => trivial) ?_ ?_
  ·intro V W K AA hW hd hA hK
   have d2 : V 2 = _ := hd 2 (by kernel_rfl)
   simp only [putAll, pz1, pz2, pz3, pz4, Act.put, pz5, pz6, pz7, d2] at hA
   clear hd d2
   obtain rfl := hA
   go_wp2
   exact hK.out _ _ brf trivial
  refine grow_op (fun _ _ => True) (fun _ _ _ _ _ => trivial) ?_ ?_
  ·intro V W K AA hW hd hA hK
   have d2 : V 2 = _ := hd 2 (by kernel_rfl)
   have d3 : (fun _ _ => True) (V 3) W := hd 3 (by kernel_rfl)
   simp only [putAll, pz1, pz2, pz3, pz4, Act.put, pz5, pz6, pz7, d2] at hA
   clear hd d2
   generalize V 3 = x3 at d3 hA
   obtain rfl := hA
   go_wp2
   exact hK.out _ _ brf trivial
  refine grow_op (fun _ _ => True) (fun _ _ _ _ _ => trivial) ?_ ?_
  ·intro V W K AA hW hd hA hK
   have d2 : V 2 = _ := hd 2 (by kernel_rfl)
   have d4 : (fun _ _ => True) (V 4) W := hd 4 (by kernel_rfl)
   simp only [putAll, pz1, pz2, pz3, pz4, Act.put, pz5, pz6, pz7, d2] at hA
   clear hd d2
   generalize V 4 = x4 at d4 hA
   obtain rfl := hA
   go_wp2
   exact hK.out _ _ brf trivial
  refine grow_op (fun _ _ => True) (fun _ _ _ _ _ => trivial) ?_ ?_
  ·intro V W K AA hW hd hA hK
   have d2 : V 2 = _ := hd 2 (by kernel_rfl)
   have d5 : (fun _ _ => True) (V 5) W := hd 5 (by kernel_rfl)
   simp only [putAll, pz1, pz2, pz3, pz4, Act.put, pz5, pz6, pz7, d2] at hA
   clear hd d2
   generalize V 5 = x5 at d5 hA
   obtain rfl := hA
   go_wp2
   exact hK.out _ _ brf trivial
  refine grow_op (fun _ _ => True) (fun _ _ _ _ _ => trivial) ?_ ?_
  ·intro V W K AA hW hd hA hK
   have d2 : V 2 = _ := hd 2 (by kernel_rfl)
   simp only [putAll, pz1, pz2, pz3, pz4, Act.put, pz5, pz6, pz7, d2] at hA
   clear hd d2
   obtain rfl := hA
   go_wp2
   exact hK.out _ _ brf trivial
  refine grow_op (fun _ _ => True) (fun _ _ _ _ _ => trivial) ?_ ?_
  ·intro V W K AA hW hd hA hK
   have d2 : V 2 = _ := hd 2 (by kernel_rfl)
   have d6 : (fun _ _ => True) (V 6) W := hd 6 (by kernel_rfl)
   have d7 : (fun _ _ => True) (V 7) W := hd 7 (by kernel_rfl)
   simp only [putAll, pz1, pz2, pz3, pz4, Act.put, pz5, pz6, pz7, d2] at hA
   clear hd d2
   generalize V 6 = x6 at d6 hA
   generalize V 7 = x7 at d7 hA
   obtain rfl := hA
   go_wp2
   exact hK.out _ _ brf trivial
  refine grow_op (fun _ _ => True) (fun _ _ _ _ _ => trivial) ?_ ?_
  ·intro V W K AA hW hd hA hK
   have d2 : V 2 = _ := hd 2 (by kernel_rfl)
   simp only [putAll, pz1, pz2, pz3, pz4, Act.put, pz5, pz6, pz7, d2] at hA
   clear hd d2
   obtain rfl := hA
   go_wp2
   exact hK.out _ _ brf trivial
  refine grow_op (fun _ _ => True) (fun _ _ _ _ _ => trivial) ?_ ?_
  ·intro V W K AA hW hd hA hK
   have d2 : V 2 = _ := hd 2 (by kernel_rfl)
   have d8 : (fun _ _ => True) (V 8) W := hd 8 (by kernel_rfl)
   have d9 : (fun _ _ => True) (V 9) W := hd 9 (by kernel_rfl)
   simp only [putAll, pz1, pz2, pz3, pz4, Act.put, pz5, pz6, pz7, d2] at hA
   clear hd d2
   generalize V 8 = x8 at d8 hA
   generalize V 9 = x9 at d9 hA
   obtain rfl := hA
   go_wp2
   exact hK.out _ _ brf trivial
  apply grow_eq
  ·intro V W K AA hW hd hA hK
   have d2 : V 2 = _ := hd 2 (by kernel_rfl)
   have d10 : (fun _ _ => True) (V 10) W := hd 10 (by kernel_rfl)
   simp only [putAll, pz1, pz2, pz3, pz4, Act.put, pz5, pz6, pz7, d2] at hA
   clear hd d2
   generalize V 10 = x10 at d10 hA
   obtain rfl := hA
   go_wp2
   exact hK.out _ brf
  intro V W AA hW hS hA
  have d0 : V 0 = _ := hS 0 (by omega)
  have d1 : (fun v _ => v = .bool false) (V 1) W := hS 1 (by omega)
  have d2 : V 2 = _ := hS 2 (by omega)
  have d3 : (fun _ _ => True) (V 3) W := hS 3 (by omega)
  have d4 : (fun _ _ => True) (V 4) W := hS 4 (by omega)
  have d5 : (fun _ _ => True) (V 5) W := hS 5 (by omega)
  have d6 : (fun _ _ => True) (V 6) W := hS 6 (by omega)
  have d7 : (fun _ _ => True) (V 7) W := hS 7 (by omega)
  have d8 : (fun _ _ => True) (V 8) W := hS 8 (by omega)
  have d9 : (fun _ _ => True) (V 9) W := hS 9 (by omega)
  have d10 : (fun _ _ => True) (V 10) W := hS 10 (by omega)
  have d11 : V 11 = _ := hS 11 (by omega)
  simp only [putAll, pz1, pz2, pz3, pz4, Act.put, pz5, pz6, pz7, d0, d2, d11] at hA
  clear hS d0 d2 d11
  generalize V 1 = x1 at d1 hA
  generalize V 3 = x3 at d3 hA
  generalize V 4 = x4 at d4 hA
  generalize V 5 = x5 at d5 hA
  generalize V 6 = x6 at d6 hA
  generalize V 7 = x7 at d7 hA
  generalize V 8 = x8 at d8 hA
  generalize V 9 = x9 at d9 hA
  generalize V 10 = x10 at d10 hA
  obtain rfl := hA
  simp only [List.drop_succ_cons, List.drop_zero]
  obtain rfl := d1
  have HO : Hid ((!dropNo A s C) = false) := by unfold Hid dropNo; rw [HDR.out, HGN.out]; rfl
  go_wp2
  go_ret
  exact ⟨ret_boolO HO.out.symm, hb0.trans (hW.mono hb0.size)⟩
 have hok := HOK.out
 unfold Cnt.okO at hok
 obtain ⟨lv, HLV⟩ : ∃ x, Hid (C.live = x) := ⟨_, rfl⟩
 obtain ⟨rd, HRD⟩ : ∃ x, Hid (C.ready = x) := ⟨_, rfl⟩
 obtain ⟨od, HOD⟩ : ∃ x, Hid (C.old = x) := ⟨_, rfl⟩
 obtain ⟨fd, HFD⟩ : ∃ x, Hid (C.failed = x) := ⟨_, rfl⟩
 obtain ⟨en, HEN⟩ : ∃ x, Hid (C.ending = x) := ⟨_, rfl⟩
 rw [HLV.out, HRD.out, HOD.out, HFD.out, HEN.out] at hok
 have HO : Hid ((!dropNo A s C) = decide (lv + en ≤ 0)) := by
  unfold Hid dropNo
  rw [HDR.out, HGN.out, HLV.out, HEN.out]
  by_cases h : lv + en ≤ 0
  ·rw [decide_eq_true h, decide_eq_false (show ¬ 0 < lv + en by omega)]; rfl
  ·rw [decide_eq_false h, decide_eq_true (show 0 < lv + en by omega)]; rfl
 clear hc0 hc1
 by_cases hlv : lv = 0
 ·have e1 : rd = 0 := by omega
  have e2 : od = 0 := by omega
  have e3 : fd = 0 := by omega
  subst hlv e1 e2 e3
  by_cases hen : en = 0
  ·subst hen
   clear hok
   refine wp_region_grows 12 (by kernel_rfl) (by kernel_rfl) ?_
   apply grow_eq
   ·intro V W K AA hW hd hA hK
    simp only [putAll, pz1, pz2, pz3, pz4, Act.put, pz5, pz6, pz7] at hA
    clear hd
    obtain rfl := hA
    go_wp2
    exact hK.out _ brf
   refine grow_op (fun v _ => v = .bool true) (fun _ _ _ h _ => h) ?_ ?_
   ·intro V W K AA hW hd hA hK
    have d0 : V 0 = _ := hd 0 (by kernel_rfl)
    simp only [putAll, pz1, pz2, pz3, pz4, Act.put, pz5, pz6, pz7, d0] at hA
    clear hd d0
    obtain rfl := hA
    have t0 := blk_cell (below_blk hW T0.out hta) 0 rfl
    have t1 := blk_cell (below_blk hW T0.out hta) 1 rfl
    have t2 := blk_cell (below_blk hW T0.out hta) 2 rfl
    have t3 := blk_cell (below_blk hW T0.out hta) 3 rfl
    have t4 := blk_cell (below_blk hW T0.out hta) 4 rfl
    have t5 := blk_cell (below_blk hW T0.out hta) 5 rfl
    have t6 := blk_cell (below_blk hW T0.out hta) 6 rfl
    have t7 := blk_cell (below_blk hW T0.out hta) 7 rfl
    have t8 := blk_cell (below_blk hW T0.out hta) 8 rfl
    have t9 := blk_cell (below_blk hW T0.out hta) 9 rfl
    have t10 := blk_cell (below_blk hW T0.out hta) 10 rfl
    have t11 := blk_cell (below_blk hW T0.out hta) 11 rfl
    have t12 := blk_cell (below_blk hW T0.out hta) 12 rfl
    go_wp2
    exact hK.out _ _ brf (by rw [HGN.out])
   apply grow_eq
   ·intro V W K AA hW hd hA hK
    have d1 : (fun v _ => v = .bool true) (V 1) W := hd 1 (by kernel_rfl)
    simp only [putAll, pz1, pz2, pz3, pz4, Act.put, pz5, pz6, pz7] at hA
    clear hd
    generalize V 1 = x1 at d1 hA
    obtain rfl := hA
    obtain rfl := d1
    go_wp2
    exact hK.out _ brf
   apply grow_eq
   ·intro V W K AA hW hd hA hK
    have d2 : V 2 = _ := hd 2 (by kernel_rfl)
    simp only [putAll, pz1, pz2, pz3, pz4, Act.put, pz5, pz6, pz7, d2] at hA
    clear hd d2
    obtain rfl := hA
    go_wp2
    exact hK.out _ brf
   apply grow_eq
   ·intro V W K AA hW hd hA hK
    have d2 : V 2 = _ := hd 2 (by kernel_rfl)
    have d3 : V 3 = _ := hd 3 (by kernel_rfl)
    simp only [putAll, pz1, pz2, pz3, pz4, Act.put, pz5, pz6, pz7, d2, d3] at hA
    clear hd d2 d3
    obtain rfl := hA
    go_wp2
    exact hK.out _ brf
   apply grow_eq
   ·intro V W K AA hW hd hA hK
    have d2 : V 2 = _ := hd 2 (by kernel_rfl)
    have d4 : V 4 = _ := hd 4 (by kernel_rfl)
    simp only [putAll, pz1, pz2, pz3, pz4, Act.put, pz5, pz6, pz7, d2, d4] at hA
    clear hd d2 d4
    obtain rfl := hA
    go_wp2
    exact hK.out _ brf
   apply grow_eq
   ·intro V W K AA hW hd hA hK
    have d2 : V 2 = _ := hd 2 (by kernel_rfl)
    have d5 : V 5 = _ := hd 5 (by kernel_rfl)
    simp only [putAll, pz1, pz2, pz3, pz4, Act.put, pz5, pz6, pz7, d2, d5] at hA
    clear hd d2 d5
    obtain rfl := hA
    have e8 := blk_cell (below_blk hW HGa.out hga) 8 rfl
    have e9 := blk_cell (below_blk hW HGa.out hga) 9 rfl
    have e10 := blk_cell (below_blk hW HGa.out hga) 10 rfl
    have e11 := blk_cell (below_blk hW HGa.out hga) 11 rfl
    go_wp2
    exact hK.out _ brf
   apply grow_eq
   ·intro V W K AA hW hd hA hK
    have d2 : V 2 = _ := hd 2 (by kernel_rfl)
    simp only [putAll, pz1, pz2, pz3, pz4, Act.put, pz5, pz6, pz7, d2] at hA
    clear hd d2
    obtain rfl := hA
    have t0 := blk_cell (below_blk hW T0.out hta) 0 rfl
    have t1 := blk_cell (below_blk hW T0.out hta) 1 rfl
    have t2 := blk_cell (below_blk hW T0.out hta) 2 rfl
    have t3 := blk_cell (below_blk hW T0.out hta) 3 rfl
    have t4 := blk_cell (below_blk hW T0.out hta) 4 rfl
    have t5 := blk_cell (below_blk hW T0.out hta) 5 rfl
    have t6 := blk_cell (below_blk hW T0.out hta) 6 rfl
    have t7 := blk_cell (below_blk hW T0.out hta) 7 rfl
    have t8 := blk_cell (below_blk hW T0.out hta) 8 rfl
    have t9 := blk_cell (below_blk hW T0.out hta) 9 rfl
    have t10 := blk_cell (below_blk hW T0.out hta) 10 rfl
    have t11 := blk_cell (below_blk hW T0.out hta) 11 rfl
    have t12 := blk_cell (below_blk hW T0.out hta) 12 rfl
    go_wp2
    exact hK.out _ brf
   refine grow_op (fun v _ => v = .agg #[.int .i64 0, .int .i64 0, .int .i64 0, .int .i64 0, .int .i64 0]) (fun _ _ _ h _ => h) ?_ ?_
   ·intro V W K AA hW hd hA hK
    have d2 : V 2 = _ := hd 2 (by kernel_rfl)
    have d6 : V 6 = _ := hd 6 (by kernel_rfl)
    have d7 : V 7 = _ := hd 7 (by kernel_rfl)
    simp only [putAll, pz1, pz2, pz3, pz4, Act.put, pz5, pz6, pz7, d2, d6, d7] at hA
    clear hd d2 d6 d7
    obtain rfl := hA
    go_wp2_with fail
    refine (countCopies_n X s _ _ b3 d1 d2 d3 n1 n2 n3 _ HN1 HN2 HN3 hl2 HSO HC2 (HSLC.out.below hW) C HC).mono ?_
    rintro e w3 ⟨rfl, hb3⟩
    rw [HLV.out, HRD.out, HOD.out, HFD.out, HEN.out]
    go_wp2
    exact hK.out _ _ hb3 rfl
   apply grow_eq
   ·intro V W K AA hW hd hA hK
    have d2 : V 2 = _ := hd 2 (by kernel_rfl)
    simp only [putAll, pz1, pz2, pz3, pz4, Act.put, pz5, pz6, pz7, d2] at hA
    clear hd d2
    obtain rfl := hA
    go_wp2
    exact hK.out _ brf
   refine grow_op (fun v _ => v = .bool true) (fun _ _ _ h _ => h) ?_ ?_
   ·intro V W K AA hW hd hA hK
    have d2 : V 2 = _ := hd 2 (by kernel_rfl)
    have d8 : (fun v _ => v = .agg #[.int .i64 0, .int .i64 0, .int .i64 0, .int .i64 0, .int .i64 0]) (V 8) W := hd 8 (by kernel_rfl)
    have d9 : V 9 = _ := hd 9 (by kernel_rfl)
    simp only [putAll, pz1, pz2, pz3, pz4, Act.put, pz5, pz6, pz7, d2, d9] at hA
    clear hd d2 d9
    generalize V 8 = x8 at d8 hA
    obtain rfl := hA
    obtain rfl := d8
    go_wp2
    exact hK.out _ _ brf rfl
   apply grow_eq
   ·intro V W K AA hW hd hA hK
    have d2 : V 2 = _ := hd 2 (by kernel_rfl)
    have d10 : (fun v _ => v = .bool true) (V 10) W := hd 10 (by kernel_rfl)
    simp only [putAll, pz1, pz2, pz3, pz4, Act.put, pz5, pz6, pz7, d2] at hA
    clear hd d2
    generalize V 10 = x10 at d10 hA
    obtain rfl := hA
    obtain rfl := d10
    go_wp2
    exact hK.out _ brf
   intro V W AA hW hS hA
   have d0 : V 0 = _ := hS 0 (by omega)
   have d1 : (fun v _ => v = .bool true) (V 1) W := hS 1 (by omega)
   have d2 : V 2 = _ := hS 2 (by omega)
   have d3 : V 3 = _ := hS 3 (by omega)
   have d4 : V 4 = _ := hS 4 (by omega)
   have d5 : V 5 = _ := hS 5 (by omega)
   have d6 : V 6 = _ := hS 6 (by omega)
   have d7 : V 7 = _ := hS 7 (by omega)
   have d8 : (fun v _ => v = .agg #[.int .i64 0, .int .i64 0, .int .i64 0, .int .i64 0, .int .i64 0]) (V 8) W := hS 8 (by omega)
   have d9 : V 9 = _ := hS 9 (by omega)
   have d10 : (fun v _ => v = .bool true) (V 10) W := hS 10 (by omega)
   have d11 : V 11 = _ := hS 11 (by omega)
   simp only [putAll, pz1, pz2, pz3, pz4, Act.put, pz5, pz6, pz7, d0, d2, d3, d4, d5, d6, d7, d9, d11] at hA
   clear hS d0 d2 d3 d4 d5 d6 d7 d9 d11
   generalize V 1 = x1 at d1 hA
   generalize V 8 = x8 at d8 hA
   generalize V 10 = x10 at d10 hA
   obtain rfl := hA
   simp only [List.drop_succ_cons, List.drop_zero]
   obtain rfl := d1
   obtain rfl := d8
   obtain rfl := d10
   have hbW := hb0.trans (hW.mono hb0.size)
   clear hW
   go_wp2
   go_ret
   exact ⟨ret_boolO (by rw [HO.out]; rfl), hbW⟩
  ·have hpos : 0 < en := by omega
   clear hok
   refine wp_region_grows 12 (by kernel_rfl) (by kernel_rfl) ?_
   apply grow_eq
   ·intro V W K AA hW hd hA hK
    simp only [putAll, pz1, pz2, pz3, pz4, Act.put, pz5, pz6, pz7] at hA
    clear hd
    obtain rfl := hA
    go_wp2
    exact hK.out _ brf
   refine grow_op (fun v _ => v = .bool true) (fun _ _ _ h _ => h) ?_ ?_
   ·intro V W K AA hW hd hA hK
    have d0 : V 0 = _ := hd 0 (by kernel_rfl)
    simp only [putAll, pz1, pz2, pz3, pz4, Act.put, pz5, pz6, pz7, d0] at hA
    clear hd d0
    obtain rfl := hA
    have t0 := blk_cell (below_blk hW T0.out hta) 0 rfl
    have t1 := blk_cell (below_blk hW T0.out hta) 1 rfl
    have t2 := blk_cell (below_blk hW T0.out hta) 2 rfl
    have t3 := blk_cell (below_blk hW T0.out hta) 3 rfl
    have t4 := blk_cell (below_blk hW T0.out hta) 4 rfl
    have t5 := blk_cell (below_blk hW T0.out hta) 5 rfl
    have t6 := blk_cell (below_blk hW T0.out hta) 6 rfl
    have t7 := blk_cell (below_blk hW T0.out hta) 7 rfl
    have t8 := blk_cell (below_blk hW T0.out hta) 8 rfl
    have t9 := blk_cell (below_blk hW T0.out hta) 9 rfl
    have t10 := blk_cell (below_blk hW T0.out hta) 10 rfl
    have t11 := blk_cell (below_blk hW T0.out hta) 11 rfl
    have t12 := blk_cell (below_blk hW T0.out hta) 12 rfl
    go_wp2
    exact hK.out _ _ brf (by rw [HGN.out])
   apply grow_eq
   ·intro V W K AA hW hd hA hK
    have d1 : (fun v _ => v = .bool true) (V 1) W := hd 1 (by kernel_rfl)
    simp only [putAll, pz1, pz2, pz3, pz4, Act.put, pz5, pz6, pz7] at hA
    clear hd
    generalize V 1 = x1 at d1 hA
    obtain rfl := hA
    obtain rfl := d1
    go_wp2
    exact hK.out _ brf
   apply grow_eq
   ·intro V W K AA hW hd hA hK
    have d2 : V 2 = _ := hd 2 (by kernel_rfl)
    simp only [putAll, pz1, pz2, pz3, pz4, Act.put, pz5, pz6, pz7, d2] at hA
    clear hd d2
    obtain rfl := hA
    go_wp2
    exact hK.out _ brf
   apply grow_eq
   ·intro V W K AA hW hd hA hK
    have d2 : V 2 = _ := hd 2 (by kernel_rfl)
    have d3 : V 3 = _ := hd 3 (by kernel_rfl)
    simp only [putAll, pz1, pz2, pz3, pz4, Act.put, pz5, pz6, pz7, d2, d3] at hA
    clear hd d2 d3
    obtain rfl := hA
    go_wp2
    exact hK.out _ brf
   apply grow_eq
   ·intro V W K AA hW hd hA hK
    have d2 : V 2 = _ := hd 2 (by kernel_rfl)
    have d4 : V 4 = _ := hd 4 (by kernel_rfl)
    simp only [putAll, pz1, pz2, pz3, pz4, Act.put, pz5, pz6, pz7, d2, d4] at hA
    clear hd d2 d4
    obtain rfl := hA
    go_wp2
    exact hK.out _ brf
   apply grow_eq
   ·intro V W K AA hW hd hA hK
    have d2 : V 2 = _ := hd 2 (by kernel_rfl)
    have d5 : V 5 = _ := hd 5 (by kernel_rfl)
    simp only [putAll, pz1, pz2, pz3, pz4, Act.put, pz5, pz6, pz7, d2, d5] at hA
    clear hd d2 d5
    obtain rfl := hA
    have e8 := blk_cell (below_blk hW HGa.out hga) 8 rfl
    have e9 := blk_cell (below_blk hW HGa.out hga) 9 rfl
    have e10 := blk_cell (below_blk hW HGa.out hga) 10 rfl
    have e11 := blk_cell (below_blk hW HGa.out hga) 11 rfl
    go_wp2
    exact hK.out _ brf
   apply grow_eq
   ·intro V W K AA hW hd hA hK
    have d2 : V 2 = _ := hd 2 (by kernel_rfl)
    simp only [putAll, pz1, pz2, pz3, pz4, Act.put, pz5, pz6, pz7, d2] at hA
    clear hd d2
    obtain rfl := hA
    have t0 := blk_cell (below_blk hW T0.out hta) 0 rfl
    have t1 := blk_cell (below_blk hW T0.out hta) 1 rfl
    have t2 := blk_cell (below_blk hW T0.out hta) 2 rfl
    have t3 := blk_cell (below_blk hW T0.out hta) 3 rfl
    have t4 := blk_cell (below_blk hW T0.out hta) 4 rfl
    have t5 := blk_cell (below_blk hW T0.out hta) 5 rfl
    have t6 := blk_cell (below_blk hW T0.out hta) 6 rfl
    have t7 := blk_cell (below_blk hW T0.out hta) 7 rfl
    have t8 := blk_cell (below_blk hW T0.out hta) 8 rfl
    have t9 := blk_cell (below_blk hW T0.out hta) 9 rfl
    have t10 := blk_cell (below_blk hW T0.out hta) 10 rfl
    have t11 := blk_cell (below_blk hW T0.out hta) 11 rfl
    have t12 := blk_cell (below_blk hW T0.out hta) 12 rfl
    go_wp2
    exact hK.out _ brf
   refine grow_op (fun v _ => v = .agg #[.int .i64 0, .int .i64 0, .int .i64 0, .int .i64 0, .int .i64 en]) (fun _ _ _ h _ => h) ?_ ?_
   ·intro V W K AA hW hd hA hK
    have d2 : V 2 = _ := hd 2 (by kernel_rfl)
    have d6 : V 6 = _ := hd 6 (by kernel_rfl)
    have d7 : V 7 = _ := hd 7 (by kernel_rfl)
    simp only [putAll, pz1, pz2, pz3, pz4, Act.put, pz5, pz6, pz7, d2, d6, d7] at hA
    clear hd d2 d6 d7
    obtain rfl := hA
    go_wp2_with fail
    refine (countCopies_n X s _ _ b3 d1 d2 d3 n1 n2 n3 _ HN1 HN2 HN3 hl2 HSO HC2 (HSLC.out.below hW) C HC).mono ?_
    rintro e w3 ⟨rfl, hb3⟩
    rw [HLV.out, HRD.out, HOD.out, HFD.out, HEN.out]
    go_wp2
    exact hK.out _ _ hb3 rfl
   apply grow_eq
   ·intro V W K AA hW hd hA hK
    have d2 : V 2 = _ := hd 2 (by kernel_rfl)
    simp only [putAll, pz1, pz2, pz3, pz4, Act.put, pz5, pz6, pz7, d2] at hA
    clear hd d2
    obtain rfl := hA
    go_wp2
    exact hK.out _ brf
   refine grow_op (fun v _ => v = .bool false) (fun _ _ _ h _ => h) ?_ ?_
   ·intro V W K AA hW hd hA hK
    have d2 : V 2 = _ := hd 2 (by kernel_rfl)
    have d8 : (fun v _ => v = .agg #[.int .i64 0, .int .i64 0, .int .i64 0, .int .i64 0, .int .i64 en]) (V 8) W := hd 8 (by kernel_rfl)
    have d9 : V 9 = _ := hd 9 (by kernel_rfl)
    simp only [putAll, pz1, pz2, pz3, pz4, Act.put, pz5, pz6, pz7, d2, d9] at hA
    clear hd d2 d9
    generalize V 8 = x8 at d8 hA
    obtain rfl := hA
    obtain rfl := d8
    go_wp2
    exact hK.out _ _ brf rfl
   apply grow_eq
   ·intro V W K AA hW hd hA hK
    have d2 : V 2 = _ := hd 2 (by kernel_rfl)
    have d10 : (fun v _ => v = .bool false) (V 10) W := hd 10 (by kernel_rfl)
    simp only [putAll, pz1, pz2, pz3, pz4, Act.put, pz5, pz6, pz7, d2] at hA
    clear hd d2
    generalize V 10 = x10 at d10 hA
    obtain rfl := hA
    obtain rfl := d10
    go_wp2
    exact hK.out _ brf
   intro V W AA hW hS hA
   have d0 : V 0 = _ := hS 0 (by omega)
   have d1 : (fun v _ => v = .bool true) (V 1) W := hS 1 (by omega)
   have d2 : V 2 = _ := hS 2 (by omega)
   have d3 : V 3 = _ := hS 3 (by omega)
   have d4 : V 4 = _ := hS 4 (by omega)
   have d5 : V 5 = _ := hS 5 (by omega)
   have d6 : V 6 = _ := hS 6 (by omega)
   have d7 : V 7 = _ := hS 7 (by omega)
   have d8 : (fun v _ => v = .agg #[.int .i64 0, .int .i64 0, .int .i64 0, .int .i64 0, .int .i64 en]) (V 8) W := hS 8 (by omega)
   have d9 : V 9 = _ := hS 9 (by omega)
   have d10 : (fun v _ => v = .bool false) (V 10) W := hS 10 (by omega)
   have d11 : V 11 = _ := hS 11 (by omega)
   simp only [putAll, pz1, pz2, pz3, pz4, Act.put, pz5, pz6, pz7, d0, d2, d3, d4, d5, d6, d7, d9, d11] at hA
   clear hS d0 d2 d3 d4 d5 d6 d7 d9 d11
   generalize V 1 = x1 at d1 hA
   generalize V 8 = x8 at d8 hA
   generalize V 10 = x10 at d10 hA
   obtain rfl := hA
   simp only [List.drop_succ_cons, List.drop_zero]
   obtain rfl := d1
   obtain rfl := d8
   obtain rfl := d10
   have hbW := hb0.trans (hW.mono hb0.size)
   clear hW
   go_wp2
   go_ret
   exact ⟨ret_boolO (by rw [HO.out]; simp; omega), hbW⟩
 ·have hpos : 0 < lv + en := by omega
  clear hok
  refine wp_region_grows 12 (by kernel_rfl) (by kernel_rfl) ?_
  apply grow_eq
  ·intro V W K AA hW hd hA hK
   simp only [putAll, pz1, pz2, pz3, pz4, Act.put, pz5, pz6, pz7] at hA
   clear hd
   obtain rfl := hA
   go_wp2
   exact hK.out _ brf
  refine grow_op (fun v _ => v = .bool true) (fun _ _ _ h _ => h) ?_ ?_
  ·intro V W K AA hW hd hA hK
   have d0 : V 0 = _ := hd 0 (by kernel_rfl)
   simp only [putAll, pz1, pz2, pz3, pz4, Act.put, pz5, pz6, pz7, d0] at hA
   clear hd d0
   obtain rfl := hA
   have t0 := blk_cell (below_blk hW T0.out hta) 0 rfl
   have t1 := blk_cell (below_blk hW T0.out hta) 1 rfl
   have t2 := blk_cell (below_blk hW T0.out hta) 2 rfl
   have t3 := blk_cell (below_blk hW T0.out hta) 3 rfl
   have t4 := blk_cell (below_blk hW T0.out hta) 4 rfl
   have t5 := blk_cell (below_blk hW T0.out hta) 5 rfl
   have t6 := blk_cell (below_blk hW T0.out hta) 6 rfl
   have t7 := blk_cell (below_blk hW T0.out hta) 7 rfl
   have t8 := blk_cell (below_blk hW T0.out hta) 8 rfl
   have t9 := blk_cell (below_blk hW T0.out hta) 9 rfl
   have t10 := blk_cell (below_blk hW T0.out hta) 10 rfl
   have t11 := blk_cell (below_blk hW T0.out hta) 11 rfl
   have t12 := blk_cell (below_blk hW T0.out hta) 12 rfl
   go_wp2
   exact hK.out _ _ brf (by rw [HGN.out])
  apply grow_eq
  ·intro V W K AA hW hd hA hK
   have d1 : (fun v _ => v = .bool true) (V 1) W := hd 1 (by kernel_rfl)
   simp only [putAll, pz1, pz2, pz3, pz4, Act.put, pz5, pz6, pz7] at hA
   clear hd
   generalize V 1 = x1 at d1 hA
   obtain rfl := hA
   obtain rfl := d1
   go_wp2
   exact hK.out _ brf
  apply grow_eq
  ·intro V W K AA hW hd hA hK
   have d2 : V 2 = _ := hd 2 (by kernel_rfl)
   simp only [putAll, pz1, pz2, pz3, pz4, Act.put, pz5, pz6, pz7, d2] at hA
   clear hd d2
   obtain rfl := hA
   go_wp2
   exact hK.out _ brf
  apply grow_eq
  ·intro V W K AA hW hd hA hK
   have d2 : V 2 = _ := hd 2 (by kernel_rfl)
   have d3 : V 3 = _ := hd 3 (by kernel_rfl)
   simp only [putAll, pz1, pz2, pz3, pz4, Act.put, pz5, pz6, pz7, d2, d3] at hA
   clear hd d2 d3
   obtain rfl := hA
   go_wp2
   exact hK.out _ brf
  apply grow_eq
  ·intro V W K AA hW hd hA hK
   have d2 : V 2 = _ := hd 2 (by kernel_rfl)
   have d4 : V 4 = _ := hd 4 (by kernel_rfl)
   simp only [putAll, pz1, pz2, pz3, pz4, Act.put, pz5, pz6, pz7, d2, d4] at hA
   clear hd d2 d4
   obtain rfl := hA
   go_wp2
   exact hK.out _ brf
  apply grow_eq
  ·intro V W K AA hW hd hA hK
   have d2 : V 2 = _ := hd 2 (by kernel_rfl)
   have d5 : V 5 = _ := hd 5 (by kernel_rfl)
   simp only [putAll, pz1, pz2, pz3, pz4, Act.put, pz5, pz6, pz7, d2, d5] at hA
   clear hd d2 d5
   obtain rfl := hA
   have e8 := blk_cell (below_blk hW HGa.out hga) 8 rfl
   have e9 := blk_cell (below_blk hW HGa.out hga) 9 rfl
   have e10 := blk_cell (below_blk hW HGa.out hga) 10 rfl
   have e11 := blk_cell (below_blk hW HGa.out hga) 11 rfl
   go_wp2
   exact hK.out _ brf
  apply grow_eq
  ·intro V W K AA hW hd hA hK
   have d2 : V 2 = _ := hd 2 (by kernel_rfl)
   simp only [putAll, pz1, pz2, pz3, pz4, Act.put, pz5, pz6, pz7, d2] at hA
   clear hd d2
   obtain rfl := hA
   have t0 := blk_cell (below_blk hW T0.out hta) 0 rfl
   have t1 := blk_cell (below_blk hW T0.out hta) 1 rfl
   have t2 := blk_cell (below_blk hW T0.out hta) 2 rfl
   have t3 := blk_cell (below_blk hW T0.out hta) 3 rfl
   have t4 := blk_cell (below_blk hW T0.out hta) 4 rfl
   have t5 := blk_cell (below_blk hW T0.out hta) 5 rfl
   have t6 := blk_cell (below_blk hW T0.out hta) 6 rfl
   have t7 := blk_cell (below_blk hW T0.out hta) 7 rfl
   have t8 := blk_cell (below_blk hW T0.out hta) 8 rfl
   have t9 := blk_cell (below_blk hW T0.out hta) 9 rfl
   have t10 := blk_cell (below_blk hW T0.out hta) 10 rfl
   have t11 := blk_cell (below_blk hW T0.out hta) 11 rfl
   have t12 := blk_cell (below_blk hW T0.out hta) 12 rfl
   go_wp2
   exact hK.out _ brf
  refine grow_op (fun v _ => v = .agg #[.int .i64 lv, .int .i64 rd, .int .i64 od, .int .i64 fd, .int .i64 en]) (fun _ _ _ h _ => h) ?_ ?_
  ·intro V W K AA hW hd hA hK
   have d2 : V 2 = _ := hd 2 (by kernel_rfl)
   have d6 : V 6 = _ := hd 6 (by kernel_rfl)
   have d7 : V 7 = _ := hd 7 (by kernel_rfl)
   simp only [putAll, pz1, pz2, pz3, pz4, Act.put, pz5, pz6, pz7, d2, d6, d7] at hA
   clear hd d2 d6 d7
   obtain rfl := hA
   go_wp2_with fail
   refine (countCopies_n X s _ _ b3 d1 d2 d3 n1 n2 n3 _ HN1 HN2 HN3 hl2 HSO HC2 (HSLC.out.below hW) C HC).mono ?_
   rintro e w3 ⟨rfl, hb3⟩
   rw [HLV.out, HRD.out, HOD.out, HFD.out, HEN.out]
   go_wp2
   exact hK.out _ _ hb3 rfl
  apply grow_eq
  ·intro V W K AA hW hd hA hK
   have d2 : V 2 = _ := hd 2 (by kernel_rfl)
   simp only [putAll, pz1, pz2, pz3, pz4, Act.put, pz5, pz6, pz7, d2] at hA
   clear hd d2
   obtain rfl := hA
   go_wp2
   exact hK.out _ brf
  refine grow_op (fun v _ => v = .bool false) (fun _ _ _ h _ => h) ?_ ?_
  ·intro V W K AA hW hd hA hK
   have d2 : V 2 = _ := hd 2 (by kernel_rfl)
   have d8 : (fun v _ => v = .agg #[.int .i64 lv, .int .i64 rd, .int .i64 od, .int .i64 fd, .int .i64 en]) (V 8) W := hd 8 (by kernel_rfl)
   have d9 : V 9 = _ := hd 9 (by kernel_rfl)
   simp only [putAll, pz1, pz2, pz3, pz4, Act.put, pz5, pz6, pz7, d2, d9] at hA
   clear hd d2 d9
   generalize V 8 = x8 at d8 hA
   obtain rfl := hA
   obtain rfl := d8
   go_wp2
   exact hK.out _ _ brf rfl
  apply grow_eq
  ·intro V W K AA hW hd hA hK
   have d2 : V 2 = _ := hd 2 (by kernel_rfl)
   have d10 : (fun v _ => v = .bool false) (V 10) W := hd 10 (by kernel_rfl)
   simp only [putAll, pz1, pz2, pz3, pz4, Act.put, pz5, pz6, pz7, d2] at hA
   clear hd d2
   generalize V 10 = x10 at d10 hA
   obtain rfl := hA
   obtain rfl := d10
   go_wp2
   exact hK.out _ brf
  intro V W AA hW hS hA
  have d0 : V 0 = _ := hS 0 (by omega)
  have d1 : (fun v _ => v = .bool true) (V 1) W := hS 1 (by omega)
  have d2 : V 2 = _ := hS 2 (by omega)
  have d3 : V 3 = _ := hS 3 (by omega)
  have d4 : V 4 = _ := hS 4 (by omega)
  have d5 : V 5 = _ := hS 5 (by omega)
  have d6 : V 6 = _ := hS 6 (by omega)
  have d7 : V 7 = _ := hS 7 (by omega)
  have d8 : (fun v _ => v = .agg #[.int .i64 lv, .int .i64 rd, .int .i64 od, .int .i64 fd, .int .i64 en]) (V 8) W := hS 8 (by omega)
  have d9 : V 9 = _ := hS 9 (by omega)
  have d10 : (fun v _ => v = .bool false) (V 10) W := hS 10 (by omega)
  have d11 : V 11 = _ := hS 11 (by omega)
  simp only [putAll, pz1, pz2, pz3, pz4, Act.put, pz5, pz6, pz7, d0, d2, d3, d4, d5, d6, d7, d9, d11] at hA
  clear hS d0 d2 d3 d4 d5 d6 d7 d9 d11
  generalize V 1 = x1 at d1 hA
  generalize V 8 = x8 at d8 hA
  generalize V 10 = x10 at d10 hA
  obtain rfl := hA
  simp only [List.drop_succ_cons, List.drop_zero]
  obtain rfl := d1
  obtain rfl := d8
  obtain rfl := d10
  have hbW := hb0.trans (hW.mono hb0.size)
  clear hW
  go_wp2
  go_ret
  exact ⟨ret_boolO (by rw [HO.out]; simp; omega), hbW⟩
end Go.Proofs.YtbceafpodamnfabGreatDoor
