/-
  My own: Og.
-/
import Derived.Test.YtbceafpodamnfabGreatDoorG28
import Derived.Test.YtbceafpodamnfabGreatDoorG06
import Derived.Test.YtbceafpodamnfabGreatDoorG07
import Derived.Test.YtbceafpodamnfabGreatDoorG11
set_option linter.unusedVariables false
set_option linter.unusedSimpArgs false
namespace Go.Proofs.YtbceafpodamnfabGreatDoor
open Go.RowKit Go.Sort
def rdyB (sv : ByteArray) (c : Cp) : Bool := c.service.toList == sv.toList && (!c.ending && c.state == 3)
theorem fold_ready (img : Int) (sv : ByteArray) : ∀ (l : List Cp) (n : Cnt), (l.foldl (fun n c => cntOne img sv c n) n).ready = n.ready + (l.countP (rdyB sv) : Int)
 | [], n => by simp
 | c :: l, n => by
  rw [List.foldl_cons, fold_ready img sv l, List.countP_cons]
  have : (cntOne img sv c n).ready = n.ready + (if rdyB sv c = true then 1 else 0 : Nat) := by
   unfold cntOne cntAdd addB rdyB
   cases c.service.toList == sv.toList <;> cases c.ending <;> cases c.state == 3 <;> simp
  rw [this]
  omega
theorem cnt_ready (img : Int) (sv : ByteArray) (l : List Cp) : (cntTo img sv l l.length).ready = (l.countP (rdyB sv) : Int) := by
 unfold cntTo
 rw [List.take_length, fold_ready]
 simp [Cnt.none]
theorem countP_setO (p : Cp → Bool) : ∀ (l : List Cp) (i : Nat) (c d : Cp), l[i]? = some c → (l.set i d).countP p + (if p c = true then 1 else 0) = l.countP p + (if p d = true then 1 else 0)
 | [], i, c, d, h => by simp at h
 | x :: l, 0, c, d, h => by
  obtain rfl := Option.some.inj h
  rw [List.set_cons_zero, List.countP_cons, List.countP_cons]
  omega
 | x :: l, i + 1, c, d, h => by
  have := countP_setO p l i c d (by simpa using h)
  rw [List.set_cons_succ, List.countP_cons, List.countP_cons]
  omega
theorem ready_mark {img : Int} {sv : ByteArray} {l : List Cp} {i : Nat} {c : Cp} {v : Int} (hc : l[i]? = some c) (hs : c.service = sv) (he : c.ending = false) : (cntTo img sv (l.set i (markC v c)) (l.set i (markC v c)).length).ready = (cntTo img sv l l.length).ready - (if c.state = 3 then 1 else 0) := by
 rw [cnt_ready, cnt_ready]
 have h := countP_setO (rdyB sv) l i c (markC v c) hc
 have h1 : rdyB sv (markC v c) = false := by simp [rdyB, markC]
 have h2 : rdyB sv c = (c.state == 3) := by simp [rdyB, hs, he]
 rw [h1, h2] at h
 by_cases h3 : c.state = 3
 ·simp [h3] at h ⊢
  omega
 ·simp [h3] at h ⊢
  omega
theorem idx_ckey {l l' : List Cp} (h : l.map ckey = l'.map ckey) (sv : ByteArray) (num : Int) : idxC l sv num = idxC l' sv num := by
 have e : isC sv num = (fun k : ByteArray × Int => k.1.toList == sv.toList && k.2 == num) ∘ ckey := rfl
 unfold idxC idxOf
 rw [e, ← List.findIdx?_map, h, List.findIdx?_map]
theorem find_at {l : List Cp} {sv : ByteArray} {num : Int} {i : Nat} (hs : (l.find? (isC sv num)).isSome = true) (hi : idxC l sv num = (i : Int)) : ∃ c, l[i]? = some c ∧ l.find? (isC sv num) = some c ∧ c.service = sv ∧ c.number = num := by
 obtain ⟨c, hc⟩ := Option.isSome_iff_exists.1 hs
 obtain ⟨i', h1, h2⟩ := idxOf_find hc
 have : i' = i := by unfold idxC at hi; rw [h2] at hi; omega
 subst this
 exact ⟨c, h1, hc, isC_iff.1 (List.find?_some hc)⟩
theorem RowN.cap {w : World} {N : Nat} {e : TypeId} {size : Nat} {ao : Option Addr} {n cap : Nat} {xs : List Value} (h : RowN w N e size ao n cap xs) : n ≤ cap := by
 rcases h with ⟨_, h1, h2, _⟩ | ⟨_, _, _, _, h, _⟩
 ·omega
 ·exact h
theorem mayR_free {s : Svc} {c : Cp} {r : Int} (h : mayR s c r = true) : c.ending = false := by
 unfold mayR at h
 cases hc : c.ending
 ·rfl
 ·rw [hc] at h; simp at h
theorem marks_yes {B : Bk} {s : Svc} {sv : ByteArray} {v : Int} {es : List En} {l : List Cp} {j : Nat} {en : En} {c : Cp} (he : es[j]? = some en) (hf : l.find? (isC sv en.number) = some c) (hm : mayR s c (cntTo s.image sv l l.length).ready = true) : marks B s sv v (es.drop j) l = marks B s sv v (es.drop (j + 1)) (markAt sv v l en.number) := by
 obtain ⟨hj, e⟩ := List.getElem?_eq_some_iff.1 he
 rw [List.drop_eq_getElem_cons hj, e]
 show (match l.find? (isC sv en.number) with | some c => _ | none => _) = _
 rw [hf]
 show (if mayL _ s sv c then _ else _) = _
 rw [mayL_R]
 show (if mayR s c (cntTo s.image sv l l.length).ready then _ else _) = _
 rw [hm]
 rfl
theorem marks_no {B : Bk} {s : Svc} {sv : ByteArray} {v : Int} {es : List En} {l : List Cp} {j : Nat} {en : En} {c : Cp} (he : es[j]? = some en) (hf : l.find? (isC sv en.number) = some c) (hm : mayR s c (cntTo s.image sv l l.length).ready = false) : marks B s sv v (es.drop j) l = none := by
 obtain ⟨hj, e⟩ := List.getElem?_eq_some_iff.1 he
 rw [List.drop_eq_getElem_cons hj, e]
 show (match l.find? (isC sv en.number) with | some c => _ | none => _) = _
 rw [hf]
 show (if mayL _ s sv c then _ else _) = _
 rw [mayL_R]
 show (if mayR s c (cntTo s.image sv l l.length).ready then _ else _) = _
 rw [hm]
 rfl
theorem countCopies_n (B : Bk) (s : Svc) (a1 a2 a3 : Option Addr) (c1 c2 c3 n1 n2 n3 : Nat) (w : World) (h1 : Hid (B.svcs.length = n1)) (h2 : Hid (B.cps.length = n2)) (h3 : Hid (B.bts.length = n3)) (hl2 : B.cps.length ≤ 1048576) (HSO : Hid (RiseC B.cps)) (HK : Hid (B.cps.length ≤ c2)) (hC : SlC w a2 B.cps) (N : Cnt) (hN : Hid (N = cntTo s.image s.name B.cps B.cps.length)) :
  Calls Tryz.prog 225 #[.agg #[.int .i64 B.now, .slice a1 n1 c1, .slice a2 n2 c2, .slice a3 n3 c3], .agg #[.string s.name, .int .i64 s.version, .bool s.gone, .int .i64 s.image, .int .i64 s.want, .int .i64 s.down, .int .i64 s.over, .int .i64 s.next, .int .i64 s.per, .int .i64 s.least, .int .i64 s.most, .int .i64 s.load, .int .i64 s.cool]] w fun e w' => e = .returned (.agg #[.int .i64 N.live, .int .i64 N.ready, .int .i64 N.old, .int .i64 N.failed, .int .i64 N.ending]) ∧ Below w.heap.size w w' := by
 rw [← h1.out, ← h2.out, ← h3.out]
 exact countCopies_any B s a1 a2 a3 c1 c2 c3 w hl2 HSO HK hC N hN
def EndIs (N g : Nat) (A : Ac) (ae : Option Addr) (ce : Nat) (B X : Bk) (s : Svc) (k : Nat) (e : Ending) (w' : World) : Prop :=
 (∃ L, marks B s A.service X.now A.ends B.cps = some L ∧ e = .returned (.tuple #[]) ∧ WkAt w' N g A ae ce { X with cps := L } k (idxL B A)) ∨
 (marks B s A.service X.now A.ends B.cps = none ∧ e = .panicked (noWay 5))
set_option maxRecDepth 100000 in
set_option maxHeartbeats 8000000 in
theorem end_any (A : Ac) (ae : Option Addr) (ce : Nat) (B X : Bk) (s : Svc) (N g k : Nat) (w : World) (HXB : Hid (X.cps = B.cps)) (hSm : X.small) (HSO : Hid (RiseC X.cps)) (hl : A.ends.length ≤ 1048576) (hN : N ≤ w.heap.size) (hk : X.svcs[k]? = some s) (HNM : Hid (s.name = A.service)) (hw0 : 0 ≤ s.want) (hw1 : s.want ≤ 10) (hd0 : 0 ≤ s.down) (hd1 : s.down ≤ 10) (HIN : Hid (A.ends.all (endIn B A) = true)) (hS : WkAt w N g A ae ce X k (idxL B A)) :
  Calls Tryz.prog 172 #[.pointer (some ⟨g, 0, none⟩)] w fun e w' => EndIs N g A ae ce B X s k e w' ∧ Below N w w' := by
 have HST := hidWk hS
 obtain ⟨hl1, hl2, _⟩ := hSm
 obtain ⟨b1, b2, b3, d1, d2, d3, ve, hNg, hg, hbk, hei⟩ := hS
 have hkl : k < X.svcs.length := (List.getElem?_eq_some_iff.1 hk).1
 obtain ⟨g1, e1, hN1, hr1⟩ := hbk.svcs.some (by omega)
 subst e1
 obtain ⟨n1, HN1⟩ : ∃ n, Hid (X.svcs.length = n) := ⟨_, rfl⟩
 obtain ⟨n2, HN2⟩ : ∃ n, Hid (X.cps.length = n) := ⟨_, rfl⟩
 obtain ⟨n3, HN3⟩ : ∃ n, Hid (X.bts.length = n) := ⟨_, rfl⟩
 obtain ⟨ne, HNE⟩ : ∃ n, Hid ((idxL B A).length = n) := ⟨_, rfl⟩
 obtain ⟨r2, r3⟩ : RowN w N 149 7 b2 X.cps.length d2 (cpsV X.cps) ∧ RowN w N 147 2 b3 X.bts.length d3 (btsV X.bts) := ⟨hbk.cps, hbk.bts⟩
 clear hbk
 rw [HN1.out] at hr1 hg hkl hl1
 rw [HN2.out] at r2 hg
 rw [HN3.out] at r3 hg
 rw [HNE.out] at hei
 have HK : Hid _ := hk
 have HG : Hid _ := hg
 have HR1 : Hid (RowIs w 67 13 g1 n1 d1 (svcsV X.svcs)) := hr1
 have HR2 := hidRowN r2
 have HR3 := hidRowN r3
 have HEI : Hid (w.ownsRow N 3 1 ve ne (intsV (idxL B A))) := hei
 have hlt : g < w.heap.size := (Array.getElem?_eq_some_iff.1 hg).1
 have hlt1 : g1 < w.heap.size := hr1.lt
 clear hk hg hr1 r2 r3 hei
 have HHE : Hid (ne = A.ends.length) := by unfold Hid; rw [← HNE.out, idxL_len]
 have HSV : Hid (SvcAt w g1 (k * 13) s) := HR1.out.svcAt HK.out
 have HC2 : Hid (X.cps.length ≤ d2) := by have := HR2.out.cap; unfold Hid; rw [HN2.out]; exact this
 obtain ⟨C, HC⟩ : ∃ C, Hid (C = cntTo s.image s.name X.cps X.cps.length) := ⟨_, rfl⟩
 have hfld := run_field_count
 go_enter Tryz.func172, Tryz.ntmps172
 go_upto_region 1 with (go_at_call 224; refine (service_any A ae ce X.now g g1 n1 d1 k _ _ _ _ hkl hl1 HG.out).mono ?_; rintro e w1 ⟨rfl, hb1⟩; have hq := HSV.out.below hb1 hlt1; unfold SvcAt at hq; obtain ⟨q0, q1, q2, q3, q4, q5, q6, q7, q8, q9, q10, q11, q12⟩ := hq; have T0 : Hid _ := heap_alloc_new w1 (.cells (#[.string s.name, .int .i64 s.version, .bool s.gone, .int .i64 s.image, .int .i64 s.want, .int .i64 s.down, .int .i64 s.over, .int .i64 s.next, .int .i64 s.per, .int .i64 s.least, .int .i64 s.most, .int .i64 s.load, .int .i64 s.cool] : Array Value) 67); have hba := below_box w1 (.cells (#[.string s.name, .int .i64 s.version, .bool s.gone, .int .i64 s.image, .int .i64 s.want, .int .i64 s.down, .int .i64 s.over, .int .i64 s.next, .int .i64 s.per, .int .i64 s.least, .int .i64 s.most, .int .i64 s.load, .int .i64 s.cool] : Array Value) 67); obtain ⟨wa, hwa⟩ : ∃ W, w1.alloc (.cells (#[.string s.name, .int .i64 s.version, .bool s.gone, .int .i64 s.image, .int .i64 s.want, .int .i64 s.down, .int .i64 s.over, .int .i64 s.next, .int .i64 s.per, .int .i64 s.least, .int .i64 s.most, .int .i64 s.load, .int .i64 s.cool] : Array Value) 67) = W := ⟨_, rfl⟩; rw [hwa] at T0 hba)
 clear hwa q0 q1 q2 q3 q4 q5 q6 q7 q8 q9 q10 q11 q12
 have hb0 := hb1.trans (hba.mono hb1.size)
 have HGa : Hid _ := below_blk hb0 HG.out hlt
 have hga : g < wa.heap.size := Nat.lt_of_lt_of_le hlt hb0.size
 have hta : w1.heap.size < wa.heap.size := (Array.getElem?_eq_some_iff.1 T0.out).1
 have HSLC : Hid (SlC wa b2 X.cps) := by
  have := (HR2.out.below hb0)
  rw [← HN2.out] at this
  exact this.slC
 clear hb1 hba
 refine wp_region_grows 7 (by kernel_rfl) (by kernel_rfl) ?_
 apply grow_eq
 ·intro V W K A hW hd hA hK
  simp only [putAll, pz1, pz2, pz3, pz4, Act.put, pz5, pz6, pz7] at hA
  clear hd
  obtain rfl := hA
  go_wp2
  exact hK.out _ brf
 apply grow_eq
 ·intro V W K A hW hd hA hK
  have d0 : V 0 = _ := hd 0 (by kernel_rfl)
  simp only [putAll, pz1, pz2, pz3, pz4, Act.put, pz5, pz6, pz7, d0] at hA
  clear hd d0
  obtain rfl := hA
  go_wp2
  exact hK.out _ brf
 apply grow_eq
 ·intro V W K A hW hd hA hK
  have d1 : V 1 = _ := hd 1 (by kernel_rfl)
  simp only [putAll, pz1, pz2, pz3, pz4, Act.put, pz5, pz6, pz7, d1] at hA
  clear hd d1
  obtain rfl := hA
  go_wp2
  exact hK.out _ brf
 apply grow_eq
 ·intro V W K A hW hd hA hK
  have d2 : V 2 = _ := hd 2 (by kernel_rfl)
  simp only [putAll, pz1, pz2, pz3, pz4, Act.put, pz5, pz6, pz7, d2] at hA
  clear hd d2
  obtain rfl := hA
  have e8 := blk_cell (below_blk hW HGa.out hga) 8 rfl
  have e9 := blk_cell (below_blk hW HGa.out hga) 9 rfl
  have e10 := blk_cell (below_blk hW HGa.out hga) 10 rfl
  have e11 := blk_cell (below_blk hW HGa.out hga) 11 rfl
  go_wp2
  exact hK.out _ brf
 apply grow_eq
 ·intro V W K A hW hd hA hK
  simp only [putAll, pz1, pz2, pz3, pz4, Act.put, pz5, pz6, pz7] at hA
  clear hd
  obtain rfl := hA
  have t0 := blk_cell (below_blk hW T0.out hta) 0 rfl
  have t1 := blk_cell (below_blk hW T0.out hta) 1 rfl
  have t2 := blk_cell (below_blk hW T0.out hta) 2 rfl
  have t3 := blk_cell (below_blk hW T0.out hta) 3 rfl
  have t4 := blk_cell (below_blk hW T0.out hta) 4 rfl
  have t5 := blk_cell (below_blk hW T0.out hta) 5 rfl
  have t6 := blk_cell (below_blk hW T0.out hta) 6 rfl
  have t7 := blk_cell (below_blk hW T0.out hta) 7 rfl
  have t8 := blk_cell (below_blk hW T0.out hta) 8 rfl
  have t9 := blk_cell (below_blk hW T0.out hta) 9 rfl
  have t10 := blk_cell (below_blk hW T0.out hta) 10 rfl
  have t11 := blk_cell (below_blk hW T0.out hta) 11 rfl
  have t12 := blk_cell (below_blk hW T0.out hta) 12 rfl
  go_wp2
  exact hK.out _ brf
 apply grow_eq
 ·intro V W K A hW hd hA hK
  have d3 : V 3 = _ := hd 3 (by kernel_rfl)
  have d4 : V 4 = _ := hd 4 (by kernel_rfl)
  simp only [putAll, pz1, pz2, pz3, pz4, Act.put, pz5, pz6, pz7, d3, d4] at hA
  clear hd d3 d4
  obtain rfl := hA
  go_wp2_with fail
  refine (countCopies_n X s _ _ b3 d1 d2 d3 n1 n2 n3 _ HN1 HN2 HN3 hl2 HSO HC2 (HSLC.out.below hW) C HC).mono ?_
  rintro e w3 ⟨rfl, hb3⟩
  go_wp2
  exact hK.out _ hb3
 apply grow_eq
 ·intro V W K A hW hd hA hK
  have d5 : V 5 = _ := hd 5 (by kernel_rfl)
  simp only [putAll, pz1, pz2, pz3, pz4, Act.put, pz5, pz6, pz7, d5] at hA
  clear hd d5
  obtain rfl := hA
  go_wp2
  exact hK.out _ brf
 intro V W A hW hS hA
 have d0 : V 0 = _ := hS 0 (by omega)
 have d1 : V 1 = _ := hS 1 (by omega)
 have d2 : V 2 = _ := hS 2 (by omega)
 have d3 : V 3 = _ := hS 3 (by omega)
 have d4 : V 4 = _ := hS 4 (by omega)
 have d5 : V 5 = _ := hS 5 (by omega)
 have d6 : V 6 = _ := hS 6 (by omega)
 simp only [putAll, pz1, pz2, pz3, pz4, Act.put, pz5, pz6, pz7, d0, d1, d2, d3, d4, d5, d6] at hA
 clear hS d0 d1 d2 d3 d4 d5 d6
 obtain rfl := hA
 simp only [List.drop_succ_cons, List.drop_zero]
 have HGW : Hid _ := below_blk hW HGa.out hga
 have HTW : Hid _ := below_blk hW T0.out hta
 have hbW := hb0.trans (hW.mono hb0.size)
 have HSTW := hidWk (HST.out.below hbW)
 obtain ⟨ao, de, hve, hrow⟩ := ownO_open HEI.out
 subst hve
 have hne1 : ne ≤ 1048576 := by have := HHE.out; omega
 have hC0 : C.ready = (cntTo s.image A.service X.cps X.cps.length).ready := by rw [HC.out, HNM.out]
 have HCR : Hid _ := hC0
 have HOW : Hid (W.ownsRow N 3 1 (.slice ao ne de) ne (intsV (idxL B A))) := ownO_below HEI.out hbW
 clear hrow hC0 HGa HSLC hga hta hb0 hW T0 HR1 HR2 HR3 HEI HG HST HSV HC2
 have e13 := blk_cell HGW.out 13 rfl
 go_wp2
 clear e13 HGW
 go_loopw [3, 23] (fun rv iv wr => ∃ (j : Nat) (l : List Cp), j ≤ ne ∧ iv = .int .i64 j ∧ rv = .int .i64 (cntTo s.image A.service l l.length).ready ∧ Hid (WkAt wr N g A ae ce { X with cps := l } k (idxL B A)) ∧ Hid (marks B s A.service X.now (A.ends.drop j) l = marks B s A.service X.now A.ends B.cps) ∧ Hid (l.map ckey = B.cps.map ckey) ∧ Hid (wr.heap[w1.heap.size]? = some (.cells #[.string s.name, .int .i64 s.version, .bool s.gone, .int .i64 s.image, .int .i64 s.want, .int .i64 s.down, .int .i64 s.over, .int .i64 s.next, .int .i64 s.per, .int .i64 s.least, .int .i64 s.most, .int .i64 s.load, .int .i64 s.cool] 67 (0, 0))) ∧ Hid (wr.ownsRow N 3 1 (.slice ao ne de) ne (intsV (idxL B A))) ∧ Below N w wr) (fun _ iv _ => ne - (intOf iv).toNat)
 case atStart => exact ⟨0, X.cps, Nat.zero_le _, rfl, by rw [HCR.out], HSTW, by unfold Hid; rw [List.drop_zero, HXB.out], by unfold Hid; rw [HXB.out], HTW, HOW, hbW.mono hN⟩
 case round =>
  obtain ⟨j, l, hj, rfl, rfl, HWR, HMK, HKY, HTR, HOR, hb⟩ := hrel
  clear HSTW HTW HOW hbW
  obtain ⟨r, HRD⟩ : ∃ r, Hid (r = (cntTo s.image A.service l l.length).ready) := ⟨_, rfl⟩
  rw [← HRD.out]
  have hll : l.length = X.cps.length := by have := congrArg List.length HKY.out; simp only [List.length_map] at this; rw [this, HXB.out]
  have hup := cntTo_upTo s.image A.service l l.length (Nat.le_refl _)
  rw [hll, ← hll] at hup
  have hr0 : 0 ≤ r := by rw [HRD.out]; exact hup.2.2.1
  have hr1 : r ≤ 1048576 := by rw [HRD.out]; have := hup.2.2.2.1; omega
  have HLL : Hid _ := hll
  clear hup hll
  by_cases hlj : j < ne
  ·obtain ⟨en, hen⟩ : ∃ x, A.ends[j]? = some x := ⟨A.ends[j]'(by have := HHE.out; omega), by simp⟩
   obtain ⟨ic, c0, hic0, hidc, hfc, hix⟩ := endIn_at HIN.out hen
   obtain ⟨c, hic, hfl, hcs, hcn⟩ := find_at (l := l) (sv := A.service) (num := en.number) (i := ic) (by rw [find_ckey HKY.out, hfc]; rfl) (by rw [idx_ckey HKY.out]; exact hidc)
   have hiclt : ic < l.length := (List.getElem?_eq_some_iff.1 hic).1
   obtain ⟨b1, b2, b3, d1, d2, d3, vq, _, hg, hbk, hei⟩ := HWR.out
   obtain ⟨g2, e2, hN2, hr2⟩ := hbk.cps.some (by show l.length ≠ 0; omega)
   subst e2
   obtain ⟨n2, HN2⟩ : ∃ n, Hid (l.length = n) := ⟨_, rfl⟩
   have HR2 : Hid (RowIs wr 149 7 g2 n2 d2 (cpsV l)) := by have := hr2; rw [show ({ X with cps := l } : Bk).cps.length = n2 from HN2.out] at this; exact this
   rw [HNE.out] at hei
   obtain ⟨ao', de', hve, hrow⟩ := ownO_open HOR.out
   injection hve with hv1 hv2 hv3
   clear hv2
   subst hv1 hv3
   obtain ⟨ge, ea2, hNe, hre⟩ : ∃ ge, ao = some ⟨ge, 0, none⟩ ∧ N ≤ ge ∧ RowIs wr 3 1 ge ne de (intsV (idxL B A)) := by
    rcases hrow with h | h
    ·omega
    ·exact h
   subst ea2
   have HG : Hid (wr.heap[g]? = some (.cells #[.string A.service, .int .i64 A.seen, .int .i64 A.create, .int .i64 A.want, .int .i64 A.cool, .bool A.scale, .slice ae A.ends.length ce, .bool A.drop, .int .i64 X.now, .slice b1 X.svcs.length d1, .slice (some ⟨g2, 0, none⟩) n2 d2, .slice b3 X.bts.length d3, .int .i64 (k : Int), vq] 222 (0, 0))) := by have := hg; rw [show ({ X with cps := l } : Bk).cps.length = n2 from HN2.out] at this; exact this
   have HRS : Hid (RowN wr N 67 13 b1 X.svcs.length d1 (svcsV X.svcs) ∧ RowN wr N 147 2 b3 X.bts.length d3 (btsV X.bts)) := ⟨hbk.svcs, hbk.bts⟩
   have HEI : Hid (wr.ownsRow N 3 1 vq ne (intsV (idxL B A))) := hei
   have hgl : g < wr.heap.size := (Array.getElem?_eq_some_iff.1 hg).1
   have hg2 : g2 < wr.heap.size := hr2.lt
   have htr : w1.heap.size < wr.heap.size := (Array.getElem?_eq_some_iff.1 HTR.out).1
   have hNr : N ≤ wr.heap.size := by omega
   have HCP : Hid (CpAt wr g2 (ic * 7) c) := HR2.out.cpAt hic
   have hcx := hre.cell (j := j) (u := .int .i64 (ic : Int)) (by unfold intsV; rw [List.getElem?_map, hix]; rfl)
   obtain ⟨mb, HMB⟩ : ∃ b, Hid (mayR s c r = b) := ⟨_, rfl⟩
   rw [HN2.out] at hiclt
   have hn2 : n2 ≤ 1048576 := by rw [← HN2.out, HLL.out]; exact hl2
   have HIC : Hid _ := hic
   have HFL : Hid _ := hfl
   have HEN : Hid _ := hen
   have HCS : Hid _ := hcs
   have HIX : Hid (idxC l A.service en.number = (ic : Int)) := by unfold Hid; rw [idx_ckey HKY.out]; exact hidc
   have e10 := blk_cell HG.out 10 rfl
   clear hic hfl hcs hcn hic0 hidc hfc hix hbk hr2 hg hei hrow hre hen HWR
   go_upto_region 6 with fail
   clear hcx e10
   refine wp_region_grows 6 (by kernel_rfl) (by kernel_rfl) ?_
   apply grow_eq
   ·intro V W K A hW hd hA hK
    simp only [putAll, pz1, pz2, pz3, pz4, Act.put, pz5, pz6, pz7] at hA
    clear hd
    obtain rfl := hA
    have t0 := blk_cell (below_blk hW HTR.out htr) 0 rfl
    have t1 := blk_cell (below_blk hW HTR.out htr) 1 rfl
    have t2 := blk_cell (below_blk hW HTR.out htr) 2 rfl
    have t3 := blk_cell (below_blk hW HTR.out htr) 3 rfl
    have t4 := blk_cell (below_blk hW HTR.out htr) 4 rfl
    have t5 := blk_cell (below_blk hW HTR.out htr) 5 rfl
    have t6 := blk_cell (below_blk hW HTR.out htr) 6 rfl
    have t7 := blk_cell (below_blk hW HTR.out htr) 7 rfl
    have t8 := blk_cell (below_blk hW HTR.out htr) 8 rfl
    have t9 := blk_cell (below_blk hW HTR.out htr) 9 rfl
    have t10 := blk_cell (below_blk hW HTR.out htr) 10 rfl
    have t11 := blk_cell (below_blk hW HTR.out htr) 11 rfl
    have t12 := blk_cell (below_blk hW HTR.out htr) 12 rfl
    go_wp2
    exact hK.out _ brf
   apply grow_eq
   ·intro V W K A hW hd hA hK
    simp only [putAll, pz1, pz2, pz3, pz4, Act.put, pz5, pz6, pz7] at hA
    clear hd
    obtain rfl := hA
    go_wp2
    exact hK.out _ brf
   apply grow_eq
   ·intro V W K A hW hd hA hK
    have d1 : V 1 = _ := hd 1 (by kernel_rfl)
    simp only [putAll, pz1, pz2, pz3, pz4, Act.put, pz5, pz6, pz7, d1] at hA
    clear hd d1
    obtain rfl := hA
    go_wp2
    exact hK.out _ brf
   apply grow_eq
   ·intro V W K A hW hd hA hK
    have d2 : V 2 = _ := hd 2 (by kernel_rfl)
    simp only [putAll, pz1, pz2, pz3, pz4, Act.put, pz5, pz6, pz7, d2] at hA
    clear hd d2
    obtain rfl := hA
    have hq := HCP.out.below hW hg2
    unfold CpAt at hq
    obtain ⟨q0, q1, q2, q3, q4, q5, q6⟩ := hq
    go_wp2
    exact hK.out _ brf
   apply grow_eq
   ·intro V W K A hW hd hA hK
    simp only [putAll, pz1, pz2, pz3, pz4, Act.put, pz5, pz6, pz7] at hA
    clear hd
    obtain rfl := hA
    go_wp2
    exact hK.out _ brf
   refine grow_op (fun v W => v = .bool mb) (fun _ _ _ h _ => h) ?_ ?_
   ·intro V W K A hW hd hA hK
    have d0 : V 0 = _ := hd 0 (by kernel_rfl)
    have d3 : V 3 = _ := hd 3 (by kernel_rfl)
    have d4 : V 4 = _ := hd 4 (by kernel_rfl)
    simp only [putAll, pz1, pz2, pz3, pz4, Act.put, pz5, pz6, pz7, d0, d3, d4] at hA
    clear hd d0 d3 d4
    obtain rfl := hA
    go_wp2_with fail
    refine (mayEnd_any s c r _ hr0 hr1 hw0 hw1 hd0 hd1).mono ?_
    rintro e w3 ⟨rfl, hb3⟩
    rw [HMB.out]
    go_wp2
    exact hK.out _ _ hb3 rfl
   intro V W A hW hS hA
   have d0 : V 0 = _ := hS 0 (by omega)
   have d1 : V 1 = _ := hS 1 (by omega)
   have d2 : V 2 = _ := hS 2 (by omega)
   have d3 : V 3 = _ := hS 3 (by omega)
   have d4 : V 4 = _ := hS 4 (by omega)
   have d5 : (fun v W => v = .bool mb) (V 5) W := hS 5 (by omega)
   simp only [putAll, pz1, pz2, pz3, pz4, Act.put, pz5, pz6, pz7, d0, d1, d2, d3, d4] at hA
   clear hS d0 d1 d2 d3 d4
   generalize V 5 = x5 at d5 hA
   obtain rfl := hA
   simp only [List.drop_succ_cons, List.drop_zero]
   obtain rfl := d5
   have HGW : Hid _ := below_blk hW HG.out hgl
   have HTW : Hid _ := below_blk hW HTR.out htr
   have HR2W : Hid (RowIs W 149 7 g2 n2 d2 (cpsV l)) := HR2.out.below hW hg2
   have HRSW : Hid (RowN W N 67 13 b1 X.svcs.length d1 (svcsV X.svcs) ∧ RowN W N 147 2 b3 X.bts.length d3 (btsV X.bts)) := ⟨HRS.out.1.below hW, HRS.out.2.below hW⟩
   have HEW : Hid (W.ownsRow N 3 1 vq ne (intsV (idxL B A))) := ownO_below HEI.out hW
   have HOW : Hid (W.ownsRow N 3 1 (.slice (some ⟨ge, 0, none⟩) ne de) ne (intsV (idxL B A))) := ownO_below HOR.out hW
   have hbW := hb.trans (hW.mono hNr)
   have HCW : Hid (CpAt W g2 (ic * 7) c) := HCP.out.below hW hg2
   clear HG HTR HR2 HRS HEI HOR HCP hgl hg2 htr hNr hb hW
   cases mb
   ·go_wp2_with (go_at_call 167; refine (insist_no 5 _).mono ?_; rintro e w2 ⟨rfl, rfl⟩)
    refine ⟨rfl, .inr ⟨?_, rfl⟩, hbW⟩
    rw [← HMK.out]
    exact marks_no HEN.out HFL.out (by rw [← HRD.out]; exact HMB.out)
   have HFREE : Hid (c.ending = false) := mayR_free HMB.out
   have HMK2 : Hid (marks B s A.service X.now (A.ends.drop (j + 1)) (l.set ic (markC X.now c)) = marks B s A.service X.now A.ends B.cps) := by
    unfold Hid
    rw [← HMK.out, marks_yes HEN.out HFL.out (by rw [← HRD.out]; exact HMB.out), markAt_eq HIX.out HIC.out]
   have HRD2 : Hid ((cntTo s.image A.service (l.set ic (markC X.now c)) (l.set ic (markC X.now c)).length).ready = r - (if c.state = 3 then 1 else 0)) := by unfold Hid; rw [ready_mark HIC.out HCS.out HFREE.out, ← HRD.out]
   have HKY2 : Hid ((l.set ic (markC X.now c)).map ckey = B.cps.map ckey) := by unfold Hid; rw [ckey_set HIC.out, HKY.out]
   have hq := HCW.out
   unfold CpAt at hq
   obtain ⟨q0, q1, q2, q3, q4, q5, q6⟩ := hq
   by_cases h3 : c.state = 3
   ·have HS3 : Hid _ := h3
    go_wp2_with (first
     | (go_at_call 167; refine (insist_yes 5 _).mono ?_; rintro e w2 ⟨rfl, rfl⟩)
     | ((with_reducible show wpList _ _ _ _ _ _); refine wpList_row_one rfl 4 (.tmp 50) (.const (.bool true)) rfl g2 _ (.bool true) rfl rfl Tryz.infosBoolO rfl rfl 149 7 n2 d2 _ HR2W.out (by omega) ?_; intro w2 hr on; have R2 : Hid (RowIs w2 149 7 g2 n2 d2 (cpsV (l.set ic { c with ending := true }))) := (by have := hr.out; rw [show splice (cpsV l) (ic * 7 + 5) [.bool true] = cpsV (l.set ic { c with ending := true }) from flat_splice_one (c := Cp.cells) (n := 7) (fun _ => rfl) l ic 5 c { c with ending := true } _ HIC.out (by omega) rfl] at this; exact this); have HO2 : Hid (Only g2 W w2) := on; have e8 := blk_cell ((KeepT.of_row on HR2W.out).blk HGW.out (by decide)) 8 rfl; clear hr on q0 q1 q2 q3 q4 q5 q6)
     | ((with_reducible show wpList _ _ _ _ _ _); refine wpList_row_one rfl 3 (.tmp 58) (.tmp 56) rfl g2 _ (.int .i64 X.now) rfl rfl Tryz.infosIntO rfl rfl 149 7 n2 d2 _ R2.out (by omega) ?_; intro w3 hr on; have R3 : Hid (RowIs w3 149 7 g2 n2 d2 (cpsV (l.set ic (markC X.now c)))) := (by have := hr.out; rw [show splice (cpsV (l.set ic { c with ending := true })) (ic * 7 + 2) [.int .i64 X.now] = cpsV ((l.set ic { c with ending := true }).set ic (markC X.now c)) from flat_splice_one (c := Cp.cells) (n := 7) (fun _ => rfl) (l.set ic { c with ending := true }) ic 2 { c with ending := true } (markC X.now c) _ (by rw [List.getElem?_set_self (by rw [HN2.out]; exact hiclt)]) (by omega) rfl, List.set_set] at this; exact this); have HO3 : Hid (Only g2 w2 w3) := on; clear hr on e8))
    go_roundw
    case rel =>
     have k2 : KeepT 149 W w2 := .of_row HO2.out HR2W.out
     have k3 : KeepT 149 w2 w3 := .of_row HO3.out R2.out
     have k23 := k2.trans k3
     have hlen : (l.set ic (markC X.now c)).length = n2 := by rw [List.length_set]; exact HN2.out
     refine ⟨j + 1, l.set ic (markC X.now c), hlj, by go_num, ?_, ⟨b1, some ⟨g2, 0, none⟩, b3, d1, d2, d3, vq, hNg, ?_, ⟨?_, ?_, ?_⟩, ?_⟩, HMK2, HKY2, k23.blk HTW.out (by decide), k23.own HOW.out (by decide), hbW.trans ((HO2.out.below.mono hN2).trans (HO3.out.below.mono hN2))⟩
     ·rw [HRD2.out, if_pos HS3.out]
      all_goals go_num
     ·have := k23.blk HGW.out (by decide)
      show w3.heap[g]? = some (.cells #[.string A.service, .int .i64 A.seen, .int .i64 A.create, .int .i64 A.want, .int .i64 A.cool, .bool A.scale, .slice ae A.ends.length ce, .bool A.drop, .int .i64 X.now, .slice b1 X.svcs.length d1, .slice (some ⟨g2, 0, none⟩) (l.set ic (markC X.now c)).length d2, .slice b3 X.bts.length d3, .int .i64 (k : Int), vq] 222 (0, 0))
      rw [hlen]
      exact this
     ·exact k23.rowN HRSW.out.1 (by decide)
     ·show RowN w3 N 149 7 (some ⟨g2, 0, none⟩) (l.set ic (markC X.now c)).length d2 (cpsV (l.set ic (markC X.now c)))
      rw [hlen]
      exact .inr ⟨g2, rfl, hN2, R3.out⟩
     ·exact k23.rowN HRSW.out.2 (by decide)
     ·rw [HNE.out]
      exact k23.own HEW.out (by decide)
    case measure => simp [intOf]; omega
   ·have HS3 : Hid _ := h3
    go_wp2_with (first
     | (go_at_call 167; refine (insist_yes 5 _).mono ?_; rintro e w2 ⟨rfl, rfl⟩)
     | ((with_reducible show wpList _ _ _ _ _ _); refine wpList_row_one rfl 4 (.tmp 50) (.const (.bool true)) rfl g2 _ (.bool true) rfl rfl Tryz.infosBoolO rfl rfl 149 7 n2 d2 _ HR2W.out (by omega) ?_; intro w2 hr on; have R2 : Hid (RowIs w2 149 7 g2 n2 d2 (cpsV (l.set ic { c with ending := true }))) := (by have := hr.out; rw [show splice (cpsV l) (ic * 7 + 5) [.bool true] = cpsV (l.set ic { c with ending := true }) from flat_splice_one (c := Cp.cells) (n := 7) (fun _ => rfl) l ic 5 c { c with ending := true } _ HIC.out (by omega) rfl] at this; exact this); have HO2 : Hid (Only g2 W w2) := on; have e8 := blk_cell ((KeepT.of_row on HR2W.out).blk HGW.out (by decide)) 8 rfl; clear hr on q0 q1 q2 q3 q4 q5 q6)
     | ((with_reducible show wpList _ _ _ _ _ _); refine wpList_row_one rfl 3 (.tmp 58) (.tmp 56) rfl g2 _ (.int .i64 X.now) rfl rfl Tryz.infosIntO rfl rfl 149 7 n2 d2 _ R2.out (by omega) ?_; intro w3 hr on; have R3 : Hid (RowIs w3 149 7 g2 n2 d2 (cpsV (l.set ic (markC X.now c)))) := (by have := hr.out; rw [show splice (cpsV (l.set ic { c with ending := true })) (ic * 7 + 2) [.int .i64 X.now] = cpsV ((l.set ic { c with ending := true }).set ic (markC X.now c)) from flat_splice_one (c := Cp.cells) (n := 7) (fun _ => rfl) (l.set ic { c with ending := true }) ic 2 { c with ending := true } (markC X.now c) _ (by rw [List.getElem?_set_self (by rw [HN2.out]; exact hiclt)]) (by omega) rfl, List.set_set] at this; exact this); have HO3 : Hid (Only g2 w2 w3) := on; clear hr on e8))
    go_roundw
    case rel =>
     have k2 : KeepT 149 W w2 := .of_row HO2.out HR2W.out
     have k3 : KeepT 149 w2 w3 := .of_row HO3.out R2.out
     have k23 := k2.trans k3
     have hlen : (l.set ic (markC X.now c)).length = n2 := by rw [List.length_set]; exact HN2.out
     refine ⟨j + 1, l.set ic (markC X.now c), hlj, by go_num, ?_, ⟨b1, some ⟨g2, 0, none⟩, b3, d1, d2, d3, vq, hNg, ?_, ⟨?_, ?_, ?_⟩, ?_⟩, HMK2, HKY2, k23.blk HTW.out (by decide), k23.own HOW.out (by decide), hbW.trans ((HO2.out.below.mono hN2).trans (HO3.out.below.mono hN2))⟩
     ·rw [HRD2.out, if_neg HS3.out]
      rw [Int.sub_zero]
     ·have := k23.blk HGW.out (by decide)
      show w3.heap[g]? = some (.cells #[.string A.service, .int .i64 A.seen, .int .i64 A.create, .int .i64 A.want, .int .i64 A.cool, .bool A.scale, .slice ae A.ends.length ce, .bool A.drop, .int .i64 X.now, .slice b1 X.svcs.length d1, .slice (some ⟨g2, 0, none⟩) (l.set ic (markC X.now c)).length d2, .slice b3 X.bts.length d3, .int .i64 (k : Int), vq] 222 (0, 0))
      rw [hlen]
      exact this
     ·exact k23.rowN HRSW.out.1 (by decide)
     ·show RowN w3 N 149 7 (some ⟨g2, 0, none⟩) (l.set ic (markC X.now c)).length d2 (cpsV (l.set ic (markC X.now c)))
      rw [hlen]
      exact .inr ⟨g2, rfl, hN2, R3.out⟩
     ·exact k23.rowN HRSW.out.2 (by decide)
     ·rw [HNE.out]
      exact k23.own HEW.out (by decide)
    case measure => simp [intOf]; omega
  ·go_wp2
   go_end0
   have hjn : j = A.ends.length := by have := HHE.out; omega
   refine ⟨.inl ⟨l, ?_, rfl, HWR.out⟩, hb⟩
   rw [← HMK.out, List.drop_eq_nil_of_le (by omega)]
   rfl
end Go.Proofs.YtbceafpodamnfabGreatDoor
