/-
  My own: Id, If.
-/
import Derived.Test.YtbceafpodamnfabGreatG11
import Derived.Test.YtbceafpodamnfabGreatG04
set_option linter.unusedVariables false
set_option linter.unusedSimpArgs false
namespace Go.Proofs.YtbceafpodamnfabGreat
open Go.RowKit Go.Sort
theorem Tryz.undSvcsI : Tryz.prog.underlying 30 = some (.slice (Tryz.prog.elem 30)) := by kernel_rfl
theorem Tryz.infoElemSvcI : (Tryz.prog.info? (Tryz.prog.elem 30)).map (·.size) = some 13 := by kernel_rfl
theorem Tryz.infosSvcI : (Tryz.prog.info? 48).map (·.size) = some 13 := by kernel_rfl
set_option maxRecDepth 100000 in
set_option maxHeartbeats 16000000 in
theorem insS_any (l : List Svc) (x : Svc) (ao : Option Addr) (n cap i N vb : Nat) (w : World) (HN : Hid (l.length = n)) (hl : n ≤ 1048576) (hi : i ≤ n) (hN : N ≤ w.heap.size) (hR : RowN w N 48 13 ao n cap (svcsV l)) (hv : w.heap[vb]? = some (.cells #[.string x.name, .int .i64 x.version, .bool x.gone, .int .i64 x.image, .int .i64 x.want, .int .i64 x.down, .int .i64 x.over, .int .i64 x.next, .int .i64 x.per, .int .i64 x.least, .int .i64 x.most, .int .i64 x.load, .int .i64 x.cool] 48 (0, 0))) (hvb : ao ≠ some ⟨vb, 0, none⟩) :
  Calls Tryz.prog 166 #[.slice ao n cap, .int .i64 i, .slice (some ⟨vb, 0, none⟩) 1 1] w fun e w' => ∃ bo k, e = .returned (.slice bo (n + 1) k) ∧ RowN w' N 48 13 bo (n + 1) k (svcsV (l.take i ++ x :: l.drop i)) ∧ (∀ q, q < w.heap.size → ao ≠ some ⟨q, 0, none⟩ → w'.heap[q]? = w.heap[q]?) ∧ Below N w w' := by
 have hvl := (Array.getElem?_eq_some_iff.1 hv).1
 have HV : Hid (w.heap[vb]? = some (.cells #[.string x.name, .int .i64 x.version, .bool x.gone, .int .i64 x.image, .int .i64 x.want, .int .i64 x.down, .int .i64 x.over, .int .i64 x.next, .int .i64 x.per, .int .i64 x.least, .int .i64 x.most, .int .i64 x.load, .int .i64 x.cool] 48 (0, 0))) := hv
 obtain ⟨XS, hXS⟩ : ∃ q, q = (#[.string x.name, .int .i64 x.version, .bool x.gone, .int .i64 x.image, .int .i64 x.want, .int .i64 x.down, .int .i64 x.over, .int .i64 x.next, .int .i64 x.per, .int .i64 x.least, .int .i64 x.most, .int .i64 x.load, .int .i64 x.cool] : Array Value).toList := ⟨_, rfl⟩
 have HXL : Hid (XS.length = 13) := by unfold Hid; rw [hXS]; rfl
 have HX1 : Hid (∀ u ∈ XS, u.oneCell' = true) := by unfold Hid; rw [hXS]; simp [Value.oneCell']
 have HVL : Hid (svcsV (l.take i ++ x :: l.drop i) = svcsV (l.take i) ++ XS ++ svcsV (l.drop i)) := by unfold Hid; rw [hXS]; simp [svcsV, Svc.cells]
 have HNW : Hid (∀ W : World, W.heap[vb]? = some (.cells #[.string x.name, .int .i64 x.version, .bool x.gone, .int .i64 x.image, .int .i64 x.want, .int .i64 x.down, .int .i64 x.over, .int .i64 x.next, .int .i64 x.per, .int .i64 x.least, .int .i64 x.most, .int .i64 x.load, .int .i64 x.cool] 48 (0, 0)) → ∀ j u, XS[j]? = some u → W.cell? ((⟨vb, 0, none⟩ : Addr).add j) = some u) := fun W h => by rw [hXS]; exact news_row h
 have HX0 : Hid (svcsV [x] = XS) := by unfold Hid; rw [hXS]; simp [svcsV, Svc.cells]
 clear hv hXS
 rcases hR with ⟨rfl, rfl, rfl, hnil⟩ | ⟨g, rfl, hNg, hr⟩
 ·obtain rfl : i = 0 := by omega
  obtain rfl : l = [] := List.length_eq_zero_iff.1 HN.out
  clear hnil hvb
  go_enter Tryz.func166, Tryz.ntmps166
  go_wp2_with (at_builtin; refine wpList_append_nil rfl (.tmp 23) (.tmp 24) 30 rfl 48 _ 13 112 Tryz.underlying30 Tryz.infoSvcI rfl (by omega) rfl (some ⟨vb, 0, none⟩) 1 1 XS rfl (by rw [HXL.out]) (fun _ => ⟨_, rfl, HNW.out _ HV.out⟩) HX1.out (by unfold maxLen; omega) (by omega) (fun h => absurd h (by omega)) (fun _ => ?_); intro g k w1 hg hr hb)
  have HRX : Hid (RowIs w1 48 13 g 1 k XS) := hr
  clear hr
  go_ret
  exact ⟨some ⟨g, 0, none⟩, k, rfl, .inr ⟨g, rfl, by omega, by have h := HRX.out; rw [← HX0.out] at h; simpa using h⟩, fun q hq _ => hb.block q hq, hb.mono' hN⟩
 have HR : Hid (RowIs w 48 13 g n cap (svcsV l)) := hr
 have hgl := hr.lt
 have hnc := hr.2.1
 have hvg : vb ≠ g := fun e => hvb (by rw [e])
 clear hvb hr
 have HTL : Hid ((l.take i).length = i) := by unfold Hid; rw [List.length_take, HN.out]; omega
 have HDL : Hid ((l.drop i).length = n - i) := by unfold Hid; rw [List.length_drop, HN.out]
 by_cases hin : i = n
 ·subst hin
  have HTD : Hid (l.take i = l ∧ l.drop i = []) := ⟨List.take_of_length_le (by rw [HN.out]; omega), List.drop_eq_nil_of_le (by rw [HN.out]; omega)⟩
  go_enter Tryz.func166, Tryz.ntmps166
  go_upto_region 2 with (refine wpList_slice_off rfl 30 (.tmp 10) (some (.tmp 11)) none none rfl Tryz.undSvcsI 13 Tryz.infoElemSvcI g 0 i cap i i cap rfl (some (.int .i64 (i : Int))) none none rfl rfl rfl (fun w => run_slice_l w _ _ _ _ Tryz.undSvcsI .i64 (i : Int) (by omega) (by omega)) ?_; intro off _)
  go_wp2_with (at_builtin; refine wpList_append_row rfl (.tmp 23) (.tmp 24) 30 rfl 48 _ 13 112 Tryz.underlying30 Tryz.infoSvcI rfl g i cap _ rfl HR.out ⟨vb, 0, none⟩ 1 1 XS rfl (by rw [HXL.out]) (HNW.out _ HV.out) HX1.out (by unfold maxLen; omega) (by omega) ?_; intro g' k w1 hg' hr hgr; have HRX : Hid (RowIs w1 48 13 g' (i + 1) k (svcsV l ++ XS)) := hr; have HGR : Hid (∀ q, q < w.heap.size → q ≠ g → w1.heap[q]? = w.heap[q]?) := (fun q hq hne => hgr.block q hq (fun e => hne (Option.some.inj e))); have hbo := below_of_grown hgr hNg hN; clear hr hgr)
  go_ret
  exact ⟨some ⟨g', 0, none⟩, k, rfl, .inr ⟨g', rfl, by rcases hg' with h | h <;> omega, by rw [HVL.out, HTD.out.1, HTD.out.2]; simpa [svcsV] using HRX.out⟩, fun q hq hne => HGR.out q hq (fun e => hne (by rw [e])), hbo⟩
 have hlt : i < n := by omega
 clear hin
 have HSRC : Hid (∀ W : World, RowIs W 48 13 g n cap (svcsV l) → ∀ off, off = i * 13 → ∀ j u, (svcsV (l.drop i))[j]? = some u → W.cell? ((⟨g, off, none⟩ : Addr).add j) = some u) := fun W h off ho => by rw [ho]; exact h.srcDrop (c := Svc.cells) (fun _ => rfl) i
 have HFT : Hid (svcsV (l.take i) = (svcsV l).take (i * 13)) := flat_take (c := Svc.cells) (fun _ => rfl) l i
 by_cases hroom : n + 1 ≤ cap
 ·obtain ⟨cur, hgc, hcs, htk⟩ := HR.out.2.2
  have HGC : Hid (w.heap[g]? = some (.cells cur 48 (0, 0))) := hgc
  have HCS : Hid (cur.size = cap * 13 ∧ cur.toList.take (n * 13) = svcsV l) := ⟨hcs, htk⟩
  have HCL : Hid (cur.toList.length = cur.size) := Array.length_toList
  have hfitc : (n + 1) * 13 ≤ cur.size := by rw [hcs]; exact Nat.mul_le_mul_right _ hroom
  clear hgc hcs htk
  obtain ⟨dd, hdd⟩ : ∃ q, n - i = q := ⟨_, rfl⟩
  have hd1 : n ≤ i + dd := by omega
  have hd1' : i + dd ≤ n := by omega
  obtain ⟨ss, hss⟩ : ∃ q, n + 1 - i = q := ⟨_, rfl⟩
  have hs1 : n + 1 ≤ i + ss := by omega
  have hs1' : i + ss ≤ n + 1 := by omega
  have HDD : Hid ((l.drop i).length = dd) := by unfold Hid; rw [HDL.out]; exact hdd
  have hd2 : 0 < dd := by omega
  clear hdd hss
  have hov : ∀ off' lb cb, (callFunc 171 #[.slice (some ⟨vb, 0, none⟩) 1 1, .slice (some ⟨g, off', none⟩) lb cb]).run Tryz.prog w = .ok (.value (.bool false)) w := fun off' lb cb => by
   rw [run_callFunc_extern Tryz.func171 (by kernel_rfl) (by kernel_rfl) (by kernel_rfl) (e := Extern.SlicesOverlaps.overlaps #[30, 30] #[4]) (by kernel_rfl),
    Lib.run_overlaps_apart w 30 4 48 Tryz.underlying30 13 (fun _ => by kernel_rfl) ⟨vb, 0, none⟩ ⟨g, off', none⟩ 1 1 lb cb hvg 48 48 13 cur.size (by simp [World.shape?, HV.out]) (by simp [World.shape?, HGC.out]) (by omega) (blk_frozen HV.out 0) (blk_frozen HV.out 13)]
   rfl
  have HOV : Hid _ := hov
  clear hov
  go_enter Tryz.func166, Tryz.ntmps166
  go_upto_region 2 with (refine wpList_slice_off rfl 30 (.tmp 10) (some (.tmp 11)) none none rfl Tryz.undSvcsI 13 Tryz.infoElemSvcI g 0 n cap i n cap rfl (some (.int .i64 (i : Int))) none none rfl rfl rfl (fun w => run_slice_l w _ _ _ _ Tryz.undSvcsI .i64 (i : Int) (by omega) (by omega)) ?_; intro off0 _)
  go_upto_region 14 with fail
  have hov := HOV.out
  go_upto_region 15 with (first
   | (refine wpList_slice_off rfl 30 (.tmp 62) (some (.tmp 65)) none none rfl Tryz.undSvcsI 13 Tryz.infoElemSvcI g 0 (n + 1) cap (i + 1) (n + 1) cap rfl (some (.int .i64 ((i : Int) + 1))) none none rfl rfl rfl (fun w => run_slice_l w _ _ _ _ Tryz.undSvcsI .i64 ((i + 1 : Nat) : Int) (by omega) (by omega)) ?_; intro off1 _)
   | (simp only [hov]))
  clear hov
  refine wp_region_grows 8 (by kernel_rfl) (by kernel_rfl) ?_
  apply grow_eq
  ·intro V W K A hW hd hA hK
   simp only [putAll, List.getElem?_toArray, List.getElem?_cons_succ, List.getElem?_cons_zero, Option.bind_some, Act.put, List.setIfInBounds_toArray, List.set_cons_succ, List.set_cons_zero] at hA
   clear hd
   generalize V 0 = x0 at hA
   generalize V 1 = x1 at hA
   generalize V 2 = x2 at hA
   generalize V 3 = x3 at hA
   generalize V 4 = x4 at hA
   generalize V 5 = x5 at hA
   generalize V 6 = x6 at hA
   generalize V 7 = x7 at hA
   obtain rfl := hA
   go_wp2
   exact hK.out _ (Below.refl _ _)
  apply grow_eq
  ·intro V W K A hW hd hA hK
   simp only [putAll, List.getElem?_toArray, List.getElem?_cons_succ, List.getElem?_cons_zero, Option.bind_some, Act.put, List.setIfInBounds_toArray, List.set_cons_succ, List.set_cons_zero] at hA
   clear hd
   generalize V 0 = x0 at hA
   generalize V 1 = x1 at hA
   generalize V 2 = x2 at hA
   generalize V 3 = x3 at hA
   generalize V 4 = x4 at hA
   generalize V 5 = x5 at hA
   generalize V 6 = x6 at hA
   generalize V 7 = x7 at hA
   obtain rfl := hA
   go_wp2
   exact hK.out _ (Below.refl _ _)
  apply grow_eq
  ·intro V W K A hW hd hA hK
   simp only [putAll, List.getElem?_toArray, List.getElem?_cons_succ, List.getElem?_cons_zero, Option.bind_some, Act.put, List.setIfInBounds_toArray, List.set_cons_succ, List.set_cons_zero] at hA
   clear hd
   generalize V 0 = x0 at hA
   generalize V 1 = x1 at hA
   generalize V 2 = x2 at hA
   generalize V 3 = x3 at hA
   generalize V 4 = x4 at hA
   generalize V 5 = x5 at hA
   generalize V 6 = x6 at hA
   generalize V 7 = x7 at hA
   obtain rfl := hA
   go_wp2
   exact hK.out _ (Below.refl _ _)
  apply grow_eq
  ·intro V W K A hW hd hA hK
   have d1 : V 1 = _ := hd 1 (by kernel_rfl)
   have d2 : V 2 = _ := hd 2 (by kernel_rfl)
   simp only [putAll, List.getElem?_toArray, List.getElem?_cons_succ, List.getElem?_cons_zero, Option.bind_some, Act.put, List.setIfInBounds_toArray, List.set_cons_succ, List.set_cons_zero] at hA
   clear hd
   generalize V 0 = x0 at hA
   generalize V 1 = x1 at d1 hA
   generalize V 2 = x2 at d2 hA
   generalize V 3 = x3 at hA
   generalize V 4 = x4 at hA
   generalize V 5 = x5 at hA
   generalize V 6 = x6 at hA
   generalize V 7 = x7 at hA
   subst d1
   subst d2
   obtain rfl := hA
   go_wp2
   exact hK.out _ (Below.refl _ _)
  refine grow_op (fun vv (_ : World) => ∃ off, vv = .slice (some ⟨g, off, none⟩) dd (cap - (i + 1)) ∧ (off = (i + 1) * 13 ∨ cap = i + 1)) (fun _ _ _ h _ => h) ?_ ?_
  ·intro V W K A hW hd hA hK
   have d0 : V 0 = _ := hd 0 (by kernel_rfl)
   have d3 : V 3 = _ := hd 3 (by kernel_rfl)
   simp only [putAll, List.getElem?_toArray, List.getElem?_cons_succ, List.getElem?_cons_zero, Option.bind_some, Act.put, List.setIfInBounds_toArray, List.set_cons_succ, List.set_cons_zero] at hA
   clear hd
   generalize V 0 = x0 at d0 hA
   generalize V 1 = x1 at hA
   generalize V 2 = x2 at hA
   generalize V 3 = x3 at d3 hA
   generalize V 4 = x4 at hA
   generalize V 5 = x5 at hA
   generalize V 6 = x6 at hA
   generalize V 7 = x7 at hA
   subst d0
   subst d3
   obtain rfl := hA
   refine wpList_slice_off rfl 30 (.tmp 69) (some (.tmp 72)) none none rfl Tryz.undSvcsI 13 Tryz.infoElemSvcI g 0 (n + 1) cap (i + 1) (n + 1) cap rfl (some (.int .i64 ((i : Int) + 1))) none none rfl rfl rfl (fun w => run_slice_l w _ _ _ _ Tryz.undSvcsI .i64 ((i + 1 : Nat) : Int) (by omega) (by omega)) ?_
   intro off hoff
   rw [show (n + 1) - (i + 1) = dd by omega]
   go_wp2
   exact hK.out _ _ (Below.refl _ _) ⟨off, rfl, by omega⟩
  apply grow_eq
  ·intro V W K A hW hd hA hK
   simp only [putAll, List.getElem?_toArray, List.getElem?_cons_succ, List.getElem?_cons_zero, Option.bind_some, Act.put, List.setIfInBounds_toArray, List.set_cons_succ, List.set_cons_zero] at hA
   clear hd
   generalize V 0 = x0 at hA
   generalize V 1 = x1 at hA
   generalize V 2 = x2 at hA
   generalize V 3 = x3 at hA
   generalize V 4 = x4 at hA
   generalize V 5 = x5 at hA
   generalize V 6 = x6 at hA
   generalize V 7 = x7 at hA
   obtain rfl := hA
   go_wp2
   exact hK.out _ (Below.refl _ _)
  apply grow_eq
  ·intro V W K A hW hd hA hK
   simp only [putAll, List.getElem?_toArray, List.getElem?_cons_succ, List.getElem?_cons_zero, Option.bind_some, Act.put, List.setIfInBounds_toArray, List.set_cons_succ, List.set_cons_zero] at hA
   clear hd
   generalize V 0 = x0 at hA
   generalize V 1 = x1 at hA
   generalize V 2 = x2 at hA
   generalize V 3 = x3 at hA
   generalize V 4 = x4 at hA
   generalize V 5 = x5 at hA
   generalize V 6 = x6 at hA
   generalize V 7 = x7 at hA
   obtain rfl := hA
   go_wp2
   exact hK.out _ (Below.refl _ _)
  refine grow_op (fun vv (_ : World) => ∃ off, vv = .slice (some ⟨g, off, none⟩) ss (cap - i) ∧ (off = i * 13 ∨ cap = i)) (fun _ _ _ h _ => h) ?_ ?_
  ·intro V W K A hW hd hA hK
   have d5 : V 5 = _ := hd 5 (by kernel_rfl)
   have d6 : V 6 = _ := hd 6 (by kernel_rfl)
   simp only [putAll, List.getElem?_toArray, List.getElem?_cons_succ, List.getElem?_cons_zero, Option.bind_some, Act.put, List.setIfInBounds_toArray, List.set_cons_succ, List.set_cons_zero] at hA
   clear hd
   generalize V 0 = x0 at hA
   generalize V 1 = x1 at hA
   generalize V 2 = x2 at hA
   generalize V 3 = x3 at hA
   generalize V 4 = x4 at hA
   generalize V 5 = x5 at d5 hA
   generalize V 6 = x6 at d6 hA
   generalize V 7 = x7 at hA
   subst d5
   subst d6
   obtain rfl := hA
   refine wpList_slice_off rfl 30 (.tmp 74) (some (.tmp 75)) none none rfl Tryz.undSvcsI 13 Tryz.infoElemSvcI g 0 (n + 1) cap i (n + 1) cap rfl (some (.int .i64 (i : Int))) none none rfl rfl rfl (fun w => run_slice_l w _ _ _ _ Tryz.undSvcsI .i64 (i : Int) (by omega) (by omega)) ?_
   intro off hoff
   rw [show (n + 1) - i = ss by omega]
   go_wp2
   exact hK.out _ _ (Below.refl _ _) ⟨off, rfl, by omega⟩
  intro V W A hW hS hA
  have d0 : V 0 = _ := hS 0 (by omega)
  have d1 : V 1 = _ := hS 1 (by omega)
  have d2 : V 2 = _ := hS 2 (by omega)
  have d3 : V 3 = _ := hS 3 (by omega)
  have d4 : (fun vv (_ : World) => ∃ off, vv = .slice (some ⟨g, off, none⟩) dd (cap - (i + 1)) ∧ (off = (i + 1) * 13 ∨ cap = i + 1)) (V 4) W := hS 4 (by omega)
  have d5 : V 5 = _ := hS 5 (by omega)
  have d6 : V 6 = _ := hS 6 (by omega)
  have d7 : (fun vv (_ : World) => ∃ off, vv = .slice (some ⟨g, off, none⟩) ss (cap - i) ∧ (off = i * 13 ∨ cap = i)) (V 7) W := hS 7 (by omega)
  simp only [putAll, List.getElem?_toArray, List.getElem?_cons_succ, List.getElem?_cons_zero, Option.bind_some, Act.put, List.setIfInBounds_toArray, List.set_cons_succ, List.set_cons_zero] at hA
  clear hS
  generalize V 0 = x0 at d0 hA
  generalize V 1 = x1 at d1 hA
  generalize V 2 = x2 at d2 hA
  generalize V 3 = x3 at d3 hA
  generalize V 4 = x4 at d4 hA
  generalize V 5 = x5 at d5 hA
  generalize V 6 = x6 at d6 hA
  generalize V 7 = x7 at d7 hA
  subst d0
  subst d1
  subst d2
  subst d3
  subst d5
  subst d6
  obtain rfl := hA
  simp only [List.drop_succ_cons, List.drop_zero]
  obtain ⟨off4, rfl, h4⟩ := d4
  obtain ⟨off7, rfl, h7⟩ := d7
  have HGW : Hid (W.heap[g]? = some (.cells cur 48 (0, 0))) := below_blk hW HGC.out hgl
  have HRW : Hid (RowIs W 48 13 g n cap (svcsV l)) := HR.out.below hW hgl
  have HVW : Hid _ := below_blk hW HV.out hvl
  (refine wpList_copy_k rfl (.tmp 73) (.tmp 76) 30 rfl 48 13 Tryz.underlying30 Tryz.infosSvcI (some ⟨g, off4, none⟩) (some ⟨g, off7, none⟩) dd _ ss _ rfl rfl dd (by show min ss dd = dd; omega) g ((i + 1) * 13) cur 48 HGW.out (svcsV (l.drop i)) (by rw [svcsV_len, HDD.out]) (fun _ => ⟨by rw [show off4 = (i + 1) * 13 by omega], _, rfl, HSRC.out W HRW.out off7 (by omega)⟩) (by rw [svcsV_len, HDD.out]; omega) (svcsV_one _) ?_; intro w2 hz on; have HZ2 : Hid (w2.heap[g]? = some (.cells (splice cur.toList ((i + 1) * 13) (svcsV (l.drop i))).toArray 48 (0, 0))) := hz; have HO2 : Hid (Only g W w2) := on; clear hz on)
  have HV2 : Hid _ := (HO2.out.other vb hvg).trans HVW.out
  have HSL : Hid ((splice cur.toList ((i + 1) * 13) (svcsV (l.drop i))).length = cur.size) := by unfold Hid; rw [length_splice _ _ _ (by rw [svcsV_len, HDD.out, HCL.out]; omega), HCL.out]
  go_upto_region 17 with (first
   | (refine wpList_slice_off rfl 30 (.tmp 78) (some (.tmp 79)) none none rfl Tryz.undSvcsI 13 Tryz.infoElemSvcI g 0 (n + 1) cap i (n + 1) cap rfl (some (.int .i64 (i : Int))) none none rfl rfl rfl (fun w => run_slice_l w _ _ _ _ Tryz.undSvcsI .i64 (i : Int) (by omega) (by omega)) ?_; intro off8 h8; rw [show n + 1 - i = ss by omega])
   | (refine wpList_copy_k rfl (.tmp 80) (.tmp 81) 30 rfl 48 13 Tryz.underlying30 Tryz.infosSvcI (some ⟨g, off8, none⟩) (some ⟨vb, 0, none⟩) ss _ 1 1 rfl rfl 1 (by show min 1 ss = 1; omega) g (i * 13) _ 48 HZ2.out XS (by rw [HXL.out]) (fun _ => ⟨by rw [show off8 = i * 13 by omega], _, rfl, HNW.out _ HV2.out⟩) (by rw [List.size_toArray, HSL.out]; rw [HXL.out]; omega) HX1.out ?_; intro w3 hz on; have HZ3 : Hid (w3.heap[g]? = some (.cells (splice (splice cur.toList ((i + 1) * 13) (svcsV (l.drop i))) (i * 13) XS).toArray 48 (0, 0))) := hz; have HO3 : Hid (Only g w2 w3) := on; clear hz on))
  go_wp2
  go_ret
  have hmid := (ins_mid (A := svcsV (l.take i)) (X := XS) (D := svcsV (l.drop i)) (L := cur.toList) (a := i * 13) (s := 13) (d := dd * 13) (by rw [svcsV_len, HTL.out]) HXL.out (by rw [svcsV_len, HDD.out]) (by rw [HFT.out, ← HCS.out.2, List.take_take, Nat.min_eq_left (Nat.mul_le_mul_right _ (by omega))]) (by rw [HCL.out]; omega)).2
  rw [show i * 13 + 13 = (i + 1) * 13 by omega, show (i + 1) * 13 + dd * 13 = (n + 1) * 13 by omega] at hmid
  refine ⟨some ⟨g, 0, none⟩, cap, rfl, .inr ⟨g, rfl, hNg, ?_⟩, fun q hq hne => ?_, ?_⟩
  ·rw [HVL.out]
   refine ⟨?_, hroom, _, HZ3.out, ?_, ?_⟩
   ·simp only [List.length_append, svcsV_len, HTL.out, HDD.out]; rw [HXL.out]; omega
   ·rw [List.size_toArray, length_splice _ _ _ (by rw [HSL.out]; rw [HXL.out]; omega), HSL.out, HCS.out.1]
   ·exact hmid
  ·have hqg : q ≠ g := fun e => hne (by rw [e])
   exact (HO3.out.other q hqg).trans ((HO2.out.other q hqg).trans (hW.block q hq))
  ·exact (hW.mono' hN).trans ((HO2.out.below.mono' hNg).trans (HO3.out.below.mono' hNg))
 ·obtain ⟨dd, hdd⟩ : ∃ q, n - i = q := ⟨_, rfl⟩
  have hd1 : n ≤ i + dd := by omega
  have hd1' : i + dd ≤ n := by omega
  obtain ⟨mz, hmz⟩ : ∃ q, n + 1 - i = q := ⟨_, rfl⟩
  have hm1 : n + 1 ≤ i + mz := by omega
  have hm1' : i + mz ≤ n + 1 := by omega
  have HDD : Hid ((l.drop i).length = dd) := by unfold Hid; rw [HDL.out]; exact hdd
  have hd2 : 0 < dd := by omega
  clear hdd hmz
  go_enter Tryz.func166, Tryz.ntmps166
  go_upto_region 2 with (refine wpList_slice_off rfl 30 (.tmp 10) (some (.tmp 11)) none none rfl Tryz.undSvcsI 13 Tryz.infoElemSvcI g 0 n cap i n cap rfl (some (.int .i64 (i : Int))) none none rfl rfl rfl (fun w => run_slice_l w _ _ _ _ Tryz.undSvcsI .i64 (i : Int) (by omega) (by omega)) ?_; intro off0 _; rw [show n - i = dd by omega])
  go_upto_region 9 with fail
  go_upto_region 10 with (refine wpList_append_zeros rfl (.tmp 34) (.tmp 39) 30 3 rfl 48 _ 13 112 .i64 Tryz.underlying30 Tryz.underlying3 Tryz.infoSvcI rfl (by omega) ⟨g, 0, none⟩ i cap (svcsV (l.take i)) rfl (by rw [svcsV_len, HTL.out]) (HR.out.srcTake (c := Svc.cells) (fun _ => rfl) i) mz (congrArg (Value.int .i64) (by omega)) (by omega) (by omega) (by unfold maxLen; omega) (by omega) ?_; intro g2 cap2 cur w1 hg2 hc2 hz1 hcs1 hb1)
  have hgg2 : vb ≠ g2 := by omega
  have HCL : Hid (cur.toList.length = cur.size) := Array.length_toList
  have hg2l := (Array.getElem?_eq_some_iff.1 hz1.out).1
  have HV1 : Hid _ := below_blk hb1 HV.out hvl
  have HR1 : Hid (RowIs w1 48 13 g n cap (svcsV l)) := HR.out.below hb1 hgl
  have hcsz : (i + mz) * 13 ≤ cur.size := by rw [hcs1.out.1]; exact Nat.mul_le_mul_right _ hc2
  go_upto_region 11 with (first
   | (refine wpList_slice_off rfl 30 (.tmp 41) (some (.tmp 42)) none none rfl Tryz.undSvcsI 13 Tryz.infoElemSvcI g2 0 (i + mz) cap2 i (i + mz) cap2 rfl (some (.int .i64 (i : Int))) none none rfl rfl rfl (fun w => run_slice_l w _ _ _ _ Tryz.undSvcsI .i64 (i : Int) (by omega) (by omega)) ?_; intro off8 h8; rw [show i + mz - i = mz by omega])
   | (refine wpList_copy_k rfl (.tmp 43) (.tmp 44) 30 rfl 48 13 Tryz.underlying30 Tryz.infosSvcI (some ⟨g2, off8, none⟩) (some ⟨vb, 0, none⟩) mz _ 1 1 rfl rfl 1 (by show min 1 mz = 1; omega) g2 (i * 13) _ 48 hz1.out XS (by rw [HXL.out]) (fun _ => ⟨by rw [show off8 = i * 13 by omega], _, rfl, HNW.out _ HV1.out⟩) (by rw [HXL.out]; omega) HX1.out ?_; intro w2 hz on; have HZ2 : Hid (w2.heap[g2]? = some (.cells (splice cur.toList (i * 13) XS).toArray 48 (0, 0))) := hz; have HO2 : Hid (Only g2 w1 w2) := on; clear hz on))
  have HSL : Hid ((splice cur.toList (i * 13) XS).length = cur.size) := by unfold Hid; rw [length_splice _ _ _ (by rw [HCL.out, HXL.out]; omega), HCL.out]
  have HR2 : Hid (RowIs w2 48 13 g n cap (svcsV l)) := HR1.out.blk (HO2.out.other g (by omega))
  have hb2 : Below w.heap.size w w2 := hb1.trans (HO2.out.below.mono' hg2)
  have hg2w : g2 < w2.heap.size := (Array.getElem?_eq_some_iff.1 HZ2.out).1
  have hgl2 := HR2.out.lt
  refine wp_region_grows 8 (by kernel_rfl) (by kernel_rfl) ?_
  apply grow_eq
  ·intro V W K A hW hd hA hK
   simp only [putAll, List.getElem?_toArray, List.getElem?_cons_succ, List.getElem?_cons_zero, Option.bind_some, Act.put, List.setIfInBounds_toArray, List.set_cons_succ, List.set_cons_zero] at hA
   clear hd
   generalize V 0 = x0 at hA
   generalize V 1 = x1 at hA
   generalize V 2 = x2 at hA
   generalize V 3 = x3 at hA
   generalize V 4 = x4 at hA
   generalize V 5 = x5 at hA
   generalize V 6 = x6 at hA
   generalize V 7 = x7 at hA
   obtain rfl := hA
   go_wp2
   exact hK.out _ (Below.refl _ _)
  apply grow_eq
  ·intro V W K A hW hd hA hK
   simp only [putAll, List.getElem?_toArray, List.getElem?_cons_succ, List.getElem?_cons_zero, Option.bind_some, Act.put, List.setIfInBounds_toArray, List.set_cons_succ, List.set_cons_zero] at hA
   clear hd
   generalize V 0 = x0 at hA
   generalize V 1 = x1 at hA
   generalize V 2 = x2 at hA
   generalize V 3 = x3 at hA
   generalize V 4 = x4 at hA
   generalize V 5 = x5 at hA
   generalize V 6 = x6 at hA
   generalize V 7 = x7 at hA
   obtain rfl := hA
   go_wp2
   exact hK.out _ (Below.refl _ _)
  apply grow_eq
  ·intro V W K A hW hd hA hK
   simp only [putAll, List.getElem?_toArray, List.getElem?_cons_succ, List.getElem?_cons_zero, Option.bind_some, Act.put, List.setIfInBounds_toArray, List.set_cons_succ, List.set_cons_zero] at hA
   clear hd
   generalize V 0 = x0 at hA
   generalize V 1 = x1 at hA
   generalize V 2 = x2 at hA
   generalize V 3 = x3 at hA
   generalize V 4 = x4 at hA
   generalize V 5 = x5 at hA
   generalize V 6 = x6 at hA
   generalize V 7 = x7 at hA
   obtain rfl := hA
   go_wp2
   exact hK.out _ (Below.refl _ _)
  apply grow_eq
  ·intro V W K A hW hd hA hK
   have d1 : V 1 = _ := hd 1 (by kernel_rfl)
   have d2 : V 2 = _ := hd 2 (by kernel_rfl)
   simp only [putAll, List.getElem?_toArray, List.getElem?_cons_succ, List.getElem?_cons_zero, Option.bind_some, Act.put, List.setIfInBounds_toArray, List.set_cons_succ, List.set_cons_zero] at hA
   clear hd
   generalize V 0 = x0 at hA
   generalize V 1 = x1 at d1 hA
   generalize V 2 = x2 at d2 hA
   generalize V 3 = x3 at hA
   generalize V 4 = x4 at hA
   generalize V 5 = x5 at hA
   generalize V 6 = x6 at hA
   generalize V 7 = x7 at hA
   subst d1
   subst d2
   obtain rfl := hA
   go_wp2
   exact hK.out _ (Below.refl _ _)
  refine grow_op (fun vv (_ : World) => ∃ off, vv = .slice (some ⟨g2, off, none⟩) dd (cap2 - (i + 1)) ∧ (off = (i + 1) * 13 ∨ cap2 = i + 1)) (fun _ _ _ h _ => h) ?_ ?_
  ·intro V W K A hW hd hA hK
   have d0 : V 0 = _ := hd 0 (by kernel_rfl)
   have d3 : V 3 = _ := hd 3 (by kernel_rfl)
   simp only [putAll, List.getElem?_toArray, List.getElem?_cons_succ, List.getElem?_cons_zero, Option.bind_some, Act.put, List.setIfInBounds_toArray, List.set_cons_succ, List.set_cons_zero] at hA
   clear hd
   generalize V 0 = x0 at d0 hA
   generalize V 1 = x1 at hA
   generalize V 2 = x2 at hA
   generalize V 3 = x3 at d3 hA
   generalize V 4 = x4 at hA
   generalize V 5 = x5 at hA
   generalize V 6 = x6 at hA
   generalize V 7 = x7 at hA
   subst d0
   subst d3
   obtain rfl := hA
   refine wpList_slice_off rfl 30 (.tmp 46) (some (.tmp 49)) none none rfl Tryz.undSvcsI 13 Tryz.infoElemSvcI g2 0 (i + mz) cap2 (i + 1) (i + mz) cap2 rfl (some (.int .i64 ((i : Int) + 1))) none none rfl rfl rfl (fun w => run_slice_l w _ _ _ _ Tryz.undSvcsI .i64 ((i + 1 : Nat) : Int) (by omega) (by omega)) ?_
   intro off hoff
   rw [show (i + mz) - (i + 1) = dd by omega]
   go_wp2
   exact hK.out _ _ (Below.refl _ _) ⟨off, rfl, by omega⟩
  apply grow_eq
  ·intro V W K A hW hd hA hK
   simp only [putAll, List.getElem?_toArray, List.getElem?_cons_succ, List.getElem?_cons_zero, Option.bind_some, Act.put, List.setIfInBounds_toArray, List.set_cons_succ, List.set_cons_zero] at hA
   clear hd
   generalize V 0 = x0 at hA
   generalize V 1 = x1 at hA
   generalize V 2 = x2 at hA
   generalize V 3 = x3 at hA
   generalize V 4 = x4 at hA
   generalize V 5 = x5 at hA
   generalize V 6 = x6 at hA
   generalize V 7 = x7 at hA
   obtain rfl := hA
   go_wp2
   exact hK.out _ (Below.refl _ _)
  apply grow_eq
  ·intro V W K A hW hd hA hK
   simp only [putAll, List.getElem?_toArray, List.getElem?_cons_succ, List.getElem?_cons_zero, Option.bind_some, Act.put, List.setIfInBounds_toArray, List.set_cons_succ, List.set_cons_zero] at hA
   clear hd
   generalize V 0 = x0 at hA
   generalize V 1 = x1 at hA
   generalize V 2 = x2 at hA
   generalize V 3 = x3 at hA
   generalize V 4 = x4 at hA
   generalize V 5 = x5 at hA
   generalize V 6 = x6 at hA
   generalize V 7 = x7 at hA
   obtain rfl := hA
   go_wp2
   exact hK.out _ (Below.refl _ _)
  refine grow_op (fun vv (_ : World) => ∃ off, vv = .slice (some ⟨g, off, none⟩) dd (cap - i) ∧ (off = i * 13 ∨ cap = i)) (fun _ _ _ h _ => h) ?_ ?_
  ·intro V W K A hW hd hA hK
   have d5 : V 5 = _ := hd 5 (by kernel_rfl)
   have d6 : V 6 = _ := hd 6 (by kernel_rfl)
   simp only [putAll, List.getElem?_toArray, List.getElem?_cons_succ, List.getElem?_cons_zero, Option.bind_some, Act.put, List.setIfInBounds_toArray, List.set_cons_succ, List.set_cons_zero] at hA
   clear hd
   generalize V 0 = x0 at hA
   generalize V 1 = x1 at hA
   generalize V 2 = x2 at hA
   generalize V 3 = x3 at hA
   generalize V 4 = x4 at hA
   generalize V 5 = x5 at d5 hA
   generalize V 6 = x6 at d6 hA
   generalize V 7 = x7 at hA
   subst d5
   subst d6
   obtain rfl := hA
   refine wpList_slice_off rfl 30 (.tmp 51) (some (.tmp 52)) none none rfl Tryz.undSvcsI 13 Tryz.infoElemSvcI g 0 n cap i n cap rfl (some (.int .i64 (i : Int))) none none rfl rfl rfl (fun w => run_slice_l w _ _ _ _ Tryz.undSvcsI .i64 (i : Int) (by omega) (by omega)) ?_
   intro off hoff
   rw [show n - i = dd by omega]
   go_wp2
   exact hK.out _ _ (Below.refl _ _) ⟨off, rfl, by omega⟩
  intro V W A hW hS hA
  have d0 : V 0 = _ := hS 0 (by omega)
  have d1 : V 1 = _ := hS 1 (by omega)
  have d2 : V 2 = _ := hS 2 (by omega)
  have d3 : V 3 = _ := hS 3 (by omega)
  have d4 : (fun vv (_ : World) => ∃ off, vv = .slice (some ⟨g2, off, none⟩) dd (cap2 - (i + 1)) ∧ (off = (i + 1) * 13 ∨ cap2 = i + 1)) (V 4) W := hS 4 (by omega)
  have d5 : V 5 = _ := hS 5 (by omega)
  have d6 : V 6 = _ := hS 6 (by omega)
  have d7 : (fun vv (_ : World) => ∃ off, vv = .slice (some ⟨g, off, none⟩) dd (cap - i) ∧ (off = i * 13 ∨ cap = i)) (V 7) W := hS 7 (by omega)
  simp only [putAll, List.getElem?_toArray, List.getElem?_cons_succ, List.getElem?_cons_zero, Option.bind_some, Act.put, List.setIfInBounds_toArray, List.set_cons_succ, List.set_cons_zero] at hA
  clear hS
  generalize V 0 = x0 at d0 hA
  generalize V 1 = x1 at d1 hA
  generalize V 2 = x2 at d2 hA
  generalize V 3 = x3 at d3 hA
  generalize V 4 = x4 at d4 hA
  generalize V 5 = x5 at d5 hA
  generalize V 6 = x6 at d6 hA
  generalize V 7 = x7 at d7 hA
  subst d0
  subst d1
  subst d2
  subst d3
  subst d5
  subst d6
  obtain rfl := hA
  simp only [List.drop_succ_cons, List.drop_zero]
  obtain ⟨off4, rfl, h4⟩ := d4
  obtain ⟨off7, rfl, h7⟩ := d7
  have HZW : Hid _ := below_blk hW HZ2.out hg2w
  have HRW : Hid (RowIs W 48 13 g n cap (svcsV l)) := HR2.out.below hW hgl2
  (refine wpList_copy_k rfl (.tmp 50) (.tmp 53) 30 rfl 48 13 Tryz.underlying30 Tryz.infosSvcI (some ⟨g2, off4, none⟩) (some ⟨g, off7, none⟩) dd _ dd _ rfl rfl dd (by show min dd dd = dd; omega) g2 ((i + 1) * 13) _ 48 HZW.out (svcsV (l.drop i)) (by rw [svcsV_len, HDD.out]) (fun _ => ⟨by rw [show off4 = (i + 1) * 13 by omega], _, rfl, HSRC.out W HRW.out off7 (by omega)⟩) (by rw [svcsV_len, HDD.out, List.size_toArray, HSL.out]; omega) (svcsV_one _) ?_; intro w3 hz on; have HZ3 : Hid (w3.heap[g2]? = some (.cells (splice (splice cur.toList (i * 13) XS) ((i + 1) * 13) (svcsV (l.drop i))).toArray 48 (0, 0))) := hz; have HO3 : Hid (Only g2 W w3) := on; clear hz on)
  go_wp2
  go_ret
  have hmid := (ins_mid (A := svcsV (l.take i)) (X := XS) (D := svcsV (l.drop i)) (L := cur.toList) (a := i * 13) (s := 13) (d := dd * 13) (by rw [svcsV_len, HTL.out]) HXL.out (by rw [svcsV_len, HDD.out]) hcs1.out.2 (by rw [HCL.out]; omega)).1
  rw [show i * 13 + 13 = (i + 1) * 13 by omega, show (i + 1) * 13 + dd * 13 = (n + 1) * 13 by omega] at hmid
  have hb3 : Below w.heap.size w w3 := hb2.trans ((hW.mono' (by omega)).trans (HO3.out.below.mono' hg2))
  refine ⟨some ⟨g2, 0, none⟩, cap2, by rw [show i + mz = n + 1 by omega]; rfl, .inr ⟨g2, rfl, by omega, ?_⟩, fun q hq _ => hb3.block q hq, hb3.mono' hN⟩
  rw [HVL.out]
  refine ⟨?_, by omega, _, HZ3.out, ?_, ?_⟩
  ·simp only [List.length_append, svcsV_len, HTL.out, HDD.out]; rw [HXL.out]; omega
  ·rw [List.size_toArray, length_splice _ _ _ (by rw [HSL.out, svcsV_len, HDD.out]; omega), HSL.out, hcs1.out.1]
  ·exact hmid
end Go.Proofs.YtbceafpodamnfabGreat

namespace Go.Proofs.YtbceafpodamnfabGreat
open Go.RowKit Go.Sort
set_option maxRecDepth 100000 in
set_option maxHeartbeats 16000000 in
theorem bsB_any (l : List Bt) (x : Bt) (ao : Option Addr) (n cap N : Nat) (w : World) (HN : Hid (l.length = n)) (hl : n ≤ 1048576) (HSO : Hid (∀ (i j : Nat) s t, i < j → l[i]? = some s → l[j]? = some t → Op.bytesLess s.name.toList t.name.toList = true)) (hR : RowN w N 86 2 ao n cap (btsV l)) :
  Calls Tryz.prog 167 #[.slice ao n cap, .agg #[.string x.name, .bool x.drain], .func (.func 154) #[] #[]] w fun e w' => ∃ (k : Nat) (fd : Bool), e = .returned (.tuple #[.int .i64 k, .bool fd]) ∧ k ≤ n ∧ (∀ (i : Nat) s, i < k → l[i]? = some s → Op.bytesLess s.name.toList x.name.toList = true) ∧ (∀ s, l[k]? = some s → Op.bytesLess s.name.toList x.name.toList = false) ∧ (fd = true ↔ ∃ s, l[k]? = some s ∧ s.name = x.name) ∧ Below w.heap.size w w' := by
 have HRN : Hid (RowN w N 86 2 ao n cap (btsV l)) := hR
 obtain ⟨W0, hW0⟩ : ∃ W, w.alloc (.cells #[.string x.name, .bool x.drain] 86) = W := ⟨_, rfl⟩
 have hb0 := below_box w (.cells #[.string x.name, .bool x.drain] 86)
 have T0 : Hid _ := heap_alloc_new w (.cells #[.string x.name, .bool x.drain] 86)
 rw [hW0] at hb0 T0
 clear hR
 go_enter Tryz.func167, Tryz.ntmps167
 go_upto_region 1 with fail
 clear hW0
 go_wp2
 go_loopw [9, 10] (fun iv jv wr => ∃ (i j : Nat), i ≤ j ∧ j ≤ n ∧ iv = .int .i64 i ∧ jv = .int .i64 j ∧ Below w.heap.size w wr ∧ Hid (wr.heap[w.heap.size]? = some (.cells #[.string x.name, .bool x.drain] 86 (0, 0))) ∧ Hid (∀ (q : Nat) s, q < i → l[q]? = some s → Op.bytesLess s.name.toList x.name.toList = true) ∧ Hid (∀ (q : Nat) s, j ≤ q → l[q]? = some s → Op.bytesLess s.name.toList x.name.toList = false)) (fun i j _ => (intOf j).toNat - (intOf i).toNat)
 case atStart => exact ⟨0, n, by omega, by omega, rfl, rfl, hb0, T0, fun q s hq => absurd hq (by omega), fun q s hq hs => absurd (List.getElem?_eq_some_iff.1 hs).1 (by rw [HN.out]; omega)⟩
 case round =>
  clear hb0 T0
  obtain ⟨i, j, hij, hjn, rfl, rfl, hb, HX, HL, HG⟩ := hrel
  have hzx : w.heap.size < wr.heap.size := (Array.getElem?_eq_some_iff.1 HX.out).1
  by_cases hlt : i < j
  ·obtain ⟨g, rfl, hNg, hr⟩ := HRN.out.some (by omega)
   have HR : Hid (RowIs w 86 2 g n cap (btsV l)) := hr
   have hgl := hr.lt
   clear hr
   have HRr : Hid (RowIs wr 86 2 g n cap (btsV l)) := HR.out.below hb hgl
   go_upto_region 5 with fail
   obtain ⟨h, hh⟩ : ∃ h : Nat, ((i : Int) + (j : Int)) / 2 = (h : Int) := ⟨(i + j) / 2, by omega⟩
   have h1 : i ≤ h := by omega
   have h2 : h < j := by omega
   rw [hh]
   clear hh
   obtain ⟨s, hs⟩ : ∃ s, l[h]? = some s := ⟨l[h]'(by rw [HN.out]; omega), by rw [List.getElem?_eq_getElem]⟩
   have HLS : Hid (l[h]? = some s) := hs
   clear hs
   have y0 : ∀ p : Regrown, (grow (redrawn wr p.d) p.os).cell? ⟨g, h * 2, none⟩ = some (.string s.name) := fun p => cell_regrown (HRr.out.cell (flat_at (c := Bt.cells) (n := 2) (fun _ => rfl) l h s 0 (.string s.name) HLS.out rfl)) p.d p.os
   have y1 : ∀ p : Regrown, (grow (redrawn wr p.d) p.os).cell? ⟨g, h * 2 + 1, none⟩ = some (.bool s.drain) := fun p => cell_regrown (HRr.out.cell (flat_at (c := Bt.cells) (n := 2) (fun _ => rfl) l h s 1 (.bool s.drain) HLS.out rfl)) p.d p.os
   have c0 := gcell HX.out 0 rfl
   have c1 := gcell HX.out 1 rfl
   refine wp_region_quiet_below (by kernel_rfl) (by kernel_rfl) ?_
   repeat (first | go_big_quiet_step (exact Calls.regrown_of (raise1_any s x _)) | quiet_step (exact Calls.regrown_of (raise1_any s x _)))
   refine wpQuiet_nil ?_
   intro w2 hw'
   obtain ⟨⟨dq, osq⟩, hw''⟩ := hw'
   have hbq : Below wr.heap.size wr w2 := by rw [hw'']; exact below_regrown _ _ _
   clear hw''
   have hb2 := hb.trans (hbq.mono hb.size)
   have X2 : Hid _ := below_blk hbq HX.out hzx
   clear hbq y0 c0 y1 c1
   cases hle : Op.bytesLess s.name.toList x.name.toList
   ·have h0 : ¬ (cmpS s.name x.name < 0) := by unfold cmpS; rw [hle]; simp only [Bool.false_eq_true, if_false]; split <;> omega
    go_wp2
    go_roundw
    case rel => exact ⟨i, h, by omega, by omega, (by first | rfl | trivial), (by first | rfl | trivial), hb2, X2, HL, fun q t hq ht => by
     rcases Nat.lt_or_ge h q with hlt' | hge
     ·cases hlx : Op.bytesLess t.name.toList x.name.toList
      ·rfl
      ·exfalso
       have := bytesLess_trans _ _ _ (HSO.out h q s t hlt' HLS.out ht) hlx
       rw [hle] at this
       cases this
     ·rw [show q = h by omega, HLS.out] at ht
      cases ht
      exact hle⟩
    case measure => simp [intOf]; omega
   ·have h0 : cmpS s.name x.name < 0 := by unfold cmpS; rw [hle]; simp
    go_wp2
    go_roundw
    case rel => exact ⟨h + 1, j, by omega, by omega, by go_num, (by first | rfl | trivial), hb2, X2, fun q t hq ht => by
     rcases Nat.lt_or_ge q h with hlt' | hge
     ·exact bytesLess_trans _ _ _ (HSO.out q h t s hlt' ht HLS.out) hle
     ·rw [show q = h by omega, HLS.out] at ht
      cases ht
      exact hle, HG⟩
    case measure => simp [intOf]; omega
  ·obtain rfl : i = j := by omega
   by_cases hin : i < n
   ·obtain ⟨g, rfl, hNg, hr⟩ := HRN.out.some (by omega)
    have HR : Hid (RowIs w 86 2 g n cap (btsV l)) := hr
    have hgl := hr.lt
    clear hr
    have HRr : Hid (RowIs wr 86 2 g n cap (btsV l)) := HR.out.below hb hgl
    obtain ⟨s, hs⟩ : ∃ s, l[i]? = some s := ⟨l[i]'(by rw [HN.out]; omega), by rw [List.getElem?_eq_getElem]⟩
    have HLS : Hid (l[i]? = some s) := hs
    clear hs
    have y0 : ∀ p : Regrown, (grow (redrawn wr p.d) p.os).cell? ⟨g, i * 2, none⟩ = some (.string s.name) := fun p => cell_regrown (HRr.out.cell (flat_at (c := Bt.cells) (n := 2) (fun _ => rfl) l i s 0 (.string s.name) HLS.out rfl)) p.d p.os
    have y1 : ∀ p : Regrown, (grow (redrawn wr p.d) p.os).cell? ⟨g, i * 2 + 1, none⟩ = some (.bool s.drain) := fun p => cell_regrown (HRr.out.cell (flat_at (c := Bt.cells) (n := 2) (fun _ => rfl) l i s 1 (.bool s.drain) HLS.out rfl)) p.d p.os
    have c0 := gcell HX.out 0 rfl
    have c1 := gcell HX.out 1 rfl
    go_upto_region 8 with fail
    refine wp_region_quiet_below (by kernel_rfl) (by kernel_rfl) ?_
    repeat (first | go_big_quiet_step (exact Calls.regrown_of (raise1_any s x _)) | quiet_step (exact Calls.regrown_of (raise1_any s x _)))
    refine wpQuiet_nil ?_
    intro w2 hw'
    obtain ⟨⟨dq, osq⟩, hw''⟩ := hw'
    have hbq : Below wr.heap.size wr w2 := by rw [hw'']; exact below_regrown _ _ _
    clear hw''
    have hb2 := hb.trans (hbq.mono hb.size)
    have X2 : Hid _ := below_blk hbq HX.out hzx
    clear hbq y0 c0 y1 c1
    have HLE : Hid (Op.bytesLess s.name.toList x.name.toList = false) := HG.out i s (Nat.le_refl _) HLS.out
    cases hq : (s.name.toList == x.name.toList)
    ·have h0 : (cmpS s.name x.name == 0) = false := by unfold cmpS; rw [HLE.out, hq]; rfl
     go_wp2
     exact bodyPost_ret (v := .tuple #[.int .i64 i, .bool false]) (by simp [results, Tryz.results167, go_sem]; simpa using h0) rfl ⟨i, false, rfl, by omega, HL.out, fun t ht => HG.out i t (Nat.le_refl _) ht, ⟨fun h => absurd h (by simp), fun ⟨t, ht, e⟩ => by rw [HLS.out] at ht; cases ht; rw [e] at hq; simp at hq⟩, hb2⟩
    ·have h0 : (cmpS s.name x.name == 0) = true := by unfold cmpS; rw [HLE.out, hq]; rfl
     go_wp2
     exact bodyPost_ret (v := .tuple #[.int .i64 i, .bool true]) (by simp [results, Tryz.results167, go_sem]; simpa using h0) rfl ⟨i, true, rfl, by omega, HL.out, fun t ht => HG.out i t (Nat.le_refl _) ht, ⟨fun _ => ⟨s, HLS.out, same_nm.1 hq⟩, fun _ => rfl⟩, hb2⟩
   ·go_upto_region 8 with fail
    refine wp_region_quiet_below (by kernel_rfl) (by kernel_rfl) ?_
    repeat (first | go_big_quiet_step (fail) | quiet_step (fail))
    refine wpQuiet_nil ?_
    intro w2 hw'
    obtain ⟨⟨dq, osq⟩, hw''⟩ := hw'
    have hbq : Below wr.heap.size wr w2 := by rw [hw'']; exact below_regrown _ _ _
    clear hw''
    have hb2 := hb.trans (hbq.mono hb.size)
    have HNO : Hid (l[i]? = none) := List.getElem?_eq_none (by rw [HN.out]; omega)
    go_wp2
    exact bodyPost_ret (v := .tuple #[.int .i64 i, .bool false]) (by simp [results, Tryz.results167, go_sem]) rfl ⟨i, false, rfl, by omega, HL.out, fun t ht => HG.out i t (Nat.le_refl _) ht, ⟨fun h => absurd h (by simp), fun ⟨t, ht, _⟩ => by rw [HNO.out] at ht; cases ht⟩, hb2⟩
set_option maxRecDepth 100000 in
set_option maxHeartbeats 16000000 in
theorem bsS_any (l : List Svc) (x : Svc) (ao : Option Addr) (n cap N : Nat) (w : World) (HN : Hid (l.length = n)) (hl : n ≤ 1048576) (HSO : Hid (∀ (i j : Nat) s t, i < j → l[i]? = some s → l[j]? = some t → Op.bytesLess s.name.toList t.name.toList = true)) (hR : RowN w N 48 13 ao n cap (svcsV l)) :
  Calls Tryz.prog 165 #[.slice ao n cap, .agg #[.string x.name, .int .i64 x.version, .bool x.gone, .int .i64 x.image, .int .i64 x.want, .int .i64 x.down, .int .i64 x.over, .int .i64 x.next, .int .i64 x.per, .int .i64 x.least, .int .i64 x.most, .int .i64 x.load, .int .i64 x.cool], .func (.func 148) #[] #[]] w fun e w' => ∃ (k : Nat) (fd : Bool), e = .returned (.tuple #[.int .i64 k, .bool fd]) ∧ k ≤ n ∧ (∀ (i : Nat) s, i < k → l[i]? = some s → Op.bytesLess s.name.toList x.name.toList = true) ∧ (∀ s, l[k]? = some s → Op.bytesLess s.name.toList x.name.toList = false) ∧ (fd = true ↔ ∃ s, l[k]? = some s ∧ s.name = x.name) ∧ Below w.heap.size w w' := by
 have HRN : Hid (RowN w N 48 13 ao n cap (svcsV l)) := hR
 obtain ⟨W0, hW0⟩ : ∃ W, w.alloc (.cells #[.string x.name, .int .i64 x.version, .bool x.gone, .int .i64 x.image, .int .i64 x.want, .int .i64 x.down, .int .i64 x.over, .int .i64 x.next, .int .i64 x.per, .int .i64 x.least, .int .i64 x.most, .int .i64 x.load, .int .i64 x.cool] 48) = W := ⟨_, rfl⟩
 have hb0 := below_box w (.cells #[.string x.name, .int .i64 x.version, .bool x.gone, .int .i64 x.image, .int .i64 x.want, .int .i64 x.down, .int .i64 x.over, .int .i64 x.next, .int .i64 x.per, .int .i64 x.least, .int .i64 x.most, .int .i64 x.load, .int .i64 x.cool] 48)
 have T0 : Hid _ := heap_alloc_new w (.cells #[.string x.name, .int .i64 x.version, .bool x.gone, .int .i64 x.image, .int .i64 x.want, .int .i64 x.down, .int .i64 x.over, .int .i64 x.next, .int .i64 x.per, .int .i64 x.least, .int .i64 x.most, .int .i64 x.load, .int .i64 x.cool] 48)
 rw [hW0] at hb0 T0
 clear hR
 go_enter Tryz.func165, Tryz.ntmps165
 go_upto_region 1 with fail
 clear hW0
 go_wp2
 go_loopw [9, 10] (fun iv jv wr => ∃ (i j : Nat), i ≤ j ∧ j ≤ n ∧ iv = .int .i64 i ∧ jv = .int .i64 j ∧ Below w.heap.size w wr ∧ Hid (wr.heap[w.heap.size]? = some (.cells #[.string x.name, .int .i64 x.version, .bool x.gone, .int .i64 x.image, .int .i64 x.want, .int .i64 x.down, .int .i64 x.over, .int .i64 x.next, .int .i64 x.per, .int .i64 x.least, .int .i64 x.most, .int .i64 x.load, .int .i64 x.cool] 48 (0, 0))) ∧ Hid (∀ (q : Nat) s, q < i → l[q]? = some s → Op.bytesLess s.name.toList x.name.toList = true) ∧ Hid (∀ (q : Nat) s, j ≤ q → l[q]? = some s → Op.bytesLess s.name.toList x.name.toList = false)) (fun i j _ => (intOf j).toNat - (intOf i).toNat)
 case atStart => exact ⟨0, n, by omega, by omega, rfl, rfl, hb0, T0, fun q s hq => absurd hq (by omega), fun q s hq hs => absurd (List.getElem?_eq_some_iff.1 hs).1 (by rw [HN.out]; omega)⟩
 case round =>
  clear hb0 T0
  obtain ⟨i, j, hij, hjn, rfl, rfl, hb, HX, HL, HG⟩ := hrel
  have hzx : w.heap.size < wr.heap.size := (Array.getElem?_eq_some_iff.1 HX.out).1
  by_cases hlt : i < j
  ·obtain ⟨g, rfl, hNg, hr⟩ := HRN.out.some (by omega)
   have HR : Hid (RowIs w 48 13 g n cap (svcsV l)) := hr
   have hgl := hr.lt
   clear hr
   have HRr : Hid (RowIs wr 48 13 g n cap (svcsV l)) := HR.out.below hb hgl
   go_upto_region 5 with fail
   obtain ⟨h, hh⟩ : ∃ h : Nat, ((i : Int) + (j : Int)) / 2 = (h : Int) := ⟨(i + j) / 2, by omega⟩
   have h1 : i ≤ h := by omega
   have h2 : h < j := by omega
   rw [hh]
   clear hh
   obtain ⟨s, hs⟩ : ∃ s, l[h]? = some s := ⟨l[h]'(by rw [HN.out]; omega), by rw [List.getElem?_eq_getElem]⟩
   have HLS : Hid (l[h]? = some s) := hs
   clear hs
   have y0 : ∀ p : Regrown, (grow (redrawn wr p.d) p.os).cell? ⟨g, h * 13, none⟩ = some (.string s.name) := fun p => cell_regrown (HRr.out.cell (flat_at (c := Svc.cells) (n := 13) (fun _ => rfl) l h s 0 (.string s.name) HLS.out rfl)) p.d p.os
   have y1 : ∀ p : Regrown, (grow (redrawn wr p.d) p.os).cell? ⟨g, h * 13 + 1, none⟩ = some (.int .i64 s.version) := fun p => cell_regrown (HRr.out.cell (flat_at (c := Svc.cells) (n := 13) (fun _ => rfl) l h s 1 (.int .i64 s.version) HLS.out rfl)) p.d p.os
   have y2 : ∀ p : Regrown, (grow (redrawn wr p.d) p.os).cell? ⟨g, h * 13 + 2, none⟩ = some (.bool s.gone) := fun p => cell_regrown (HRr.out.cell (flat_at (c := Svc.cells) (n := 13) (fun _ => rfl) l h s 2 (.bool s.gone) HLS.out rfl)) p.d p.os
   have y3 : ∀ p : Regrown, (grow (redrawn wr p.d) p.os).cell? ⟨g, h * 13 + 3, none⟩ = some (.int .i64 s.image) := fun p => cell_regrown (HRr.out.cell (flat_at (c := Svc.cells) (n := 13) (fun _ => rfl) l h s 3 (.int .i64 s.image) HLS.out rfl)) p.d p.os
   have y4 : ∀ p : Regrown, (grow (redrawn wr p.d) p.os).cell? ⟨g, h * 13 + 4, none⟩ = some (.int .i64 s.want) := fun p => cell_regrown (HRr.out.cell (flat_at (c := Svc.cells) (n := 13) (fun _ => rfl) l h s 4 (.int .i64 s.want) HLS.out rfl)) p.d p.os
   have y5 : ∀ p : Regrown, (grow (redrawn wr p.d) p.os).cell? ⟨g, h * 13 + 5, none⟩ = some (.int .i64 s.down) := fun p => cell_regrown (HRr.out.cell (flat_at (c := Svc.cells) (n := 13) (fun _ => rfl) l h s 5 (.int .i64 s.down) HLS.out rfl)) p.d p.os
   have y6 : ∀ p : Regrown, (grow (redrawn wr p.d) p.os).cell? ⟨g, h * 13 + 6, none⟩ = some (.int .i64 s.over) := fun p => cell_regrown (HRr.out.cell (flat_at (c := Svc.cells) (n := 13) (fun _ => rfl) l h s 6 (.int .i64 s.over) HLS.out rfl)) p.d p.os
   have y7 : ∀ p : Regrown, (grow (redrawn wr p.d) p.os).cell? ⟨g, h * 13 + 7, none⟩ = some (.int .i64 s.next) := fun p => cell_regrown (HRr.out.cell (flat_at (c := Svc.cells) (n := 13) (fun _ => rfl) l h s 7 (.int .i64 s.next) HLS.out rfl)) p.d p.os
   have y8 : ∀ p : Regrown, (grow (redrawn wr p.d) p.os).cell? ⟨g, h * 13 + 8, none⟩ = some (.int .i64 s.per) := fun p => cell_regrown (HRr.out.cell (flat_at (c := Svc.cells) (n := 13) (fun _ => rfl) l h s 8 (.int .i64 s.per) HLS.out rfl)) p.d p.os
   have y9 : ∀ p : Regrown, (grow (redrawn wr p.d) p.os).cell? ⟨g, h * 13 + 9, none⟩ = some (.int .i64 s.least) := fun p => cell_regrown (HRr.out.cell (flat_at (c := Svc.cells) (n := 13) (fun _ => rfl) l h s 9 (.int .i64 s.least) HLS.out rfl)) p.d p.os
   have y10 : ∀ p : Regrown, (grow (redrawn wr p.d) p.os).cell? ⟨g, h * 13 + 10, none⟩ = some (.int .i64 s.most) := fun p => cell_regrown (HRr.out.cell (flat_at (c := Svc.cells) (n := 13) (fun _ => rfl) l h s 10 (.int .i64 s.most) HLS.out rfl)) p.d p.os
   have y11 : ∀ p : Regrown, (grow (redrawn wr p.d) p.os).cell? ⟨g, h * 13 + 11, none⟩ = some (.int .i64 s.load) := fun p => cell_regrown (HRr.out.cell (flat_at (c := Svc.cells) (n := 13) (fun _ => rfl) l h s 11 (.int .i64 s.load) HLS.out rfl)) p.d p.os
   have y12 : ∀ p : Regrown, (grow (redrawn wr p.d) p.os).cell? ⟨g, h * 13 + 12, none⟩ = some (.int .i64 s.cool) := fun p => cell_regrown (HRr.out.cell (flat_at (c := Svc.cells) (n := 13) (fun _ => rfl) l h s 12 (.int .i64 s.cool) HLS.out rfl)) p.d p.os
   have c0 := gcell HX.out 0 rfl
   have c1 := gcell HX.out 1 rfl
   have c2 := gcell HX.out 2 rfl
   have c3 := gcell HX.out 3 rfl
   have c4 := gcell HX.out 4 rfl
   have c5 := gcell HX.out 5 rfl
   have c6 := gcell HX.out 6 rfl
   have c7 := gcell HX.out 7 rfl
   have c8 := gcell HX.out 8 rfl
   have c9 := gcell HX.out 9 rfl
   have c10 := gcell HX.out 10 rfl
   have c11 := gcell HX.out 11 rfl
   have c12 := gcell HX.out 12 rfl
   refine wp_region_quiet_below (by kernel_rfl) (by kernel_rfl) ?_
   repeat (first | go_big_quiet_step (exact Calls.regrown_of (put1_any s x _)) | quiet_step (exact Calls.regrown_of (put1_any s x _)))
   refine wpQuiet_nil ?_
   intro w2 hw'
   obtain ⟨⟨dq, osq⟩, hw''⟩ := hw'
   have hbq : Below wr.heap.size wr w2 := by rw [hw'']; exact below_regrown _ _ _
   clear hw''
   have hb2 := hb.trans (hbq.mono hb.size)
   have X2 : Hid _ := below_blk hbq HX.out hzx
   clear hbq y0 c0 y1 c1 y2 c2 y3 c3 y4 c4 y5 c5 y6 c6 y7 c7 y8 c8 y9 c9 y10 c10 y11 c11 y12 c12
   cases hle : Op.bytesLess s.name.toList x.name.toList
   ·have h0 : ¬ (cmpS s.name x.name < 0) := by unfold cmpS; rw [hle]; simp only [Bool.false_eq_true, if_false]; split <;> omega
    go_wp2
    go_roundw
    case rel => exact ⟨i, h, by omega, by omega, (by first | rfl | trivial), (by first | rfl | trivial), hb2, X2, HL, fun q t hq ht => by
     rcases Nat.lt_or_ge h q with hlt' | hge
     ·cases hlx : Op.bytesLess t.name.toList x.name.toList
      ·rfl
      ·exfalso
       have := bytesLess_trans _ _ _ (HSO.out h q s t hlt' HLS.out ht) hlx
       rw [hle] at this
       cases this
     ·rw [show q = h by omega, HLS.out] at ht
      cases ht
      exact hle⟩
    case measure => simp [intOf]; omega
   ·have h0 : cmpS s.name x.name < 0 := by unfold cmpS; rw [hle]; simp
    go_wp2
    go_roundw
    case rel => exact ⟨h + 1, j, by omega, by omega, by go_num, (by first | rfl | trivial), hb2, X2, fun q t hq ht => by
     rcases Nat.lt_or_ge q h with hlt' | hge
     ·exact bytesLess_trans _ _ _ (HSO.out q h t s hlt' ht HLS.out) hle
     ·rw [show q = h by omega, HLS.out] at ht
      cases ht
      exact hle, HG⟩
    case measure => simp [intOf]; omega
  ·obtain rfl : i = j := by omega
   by_cases hin : i < n
   ·obtain ⟨g, rfl, hNg, hr⟩ := HRN.out.some (by omega)
    have HR : Hid (RowIs w 48 13 g n cap (svcsV l)) := hr
    have hgl := hr.lt
    clear hr
    have HRr : Hid (RowIs wr 48 13 g n cap (svcsV l)) := HR.out.below hb hgl
    obtain ⟨s, hs⟩ : ∃ s, l[i]? = some s := ⟨l[i]'(by rw [HN.out]; omega), by rw [List.getElem?_eq_getElem]⟩
    have HLS : Hid (l[i]? = some s) := hs
    clear hs
    have y0 : ∀ p : Regrown, (grow (redrawn wr p.d) p.os).cell? ⟨g, i * 13, none⟩ = some (.string s.name) := fun p => cell_regrown (HRr.out.cell (flat_at (c := Svc.cells) (n := 13) (fun _ => rfl) l i s 0 (.string s.name) HLS.out rfl)) p.d p.os
    have y1 : ∀ p : Regrown, (grow (redrawn wr p.d) p.os).cell? ⟨g, i * 13 + 1, none⟩ = some (.int .i64 s.version) := fun p => cell_regrown (HRr.out.cell (flat_at (c := Svc.cells) (n := 13) (fun _ => rfl) l i s 1 (.int .i64 s.version) HLS.out rfl)) p.d p.os
    have y2 : ∀ p : Regrown, (grow (redrawn wr p.d) p.os).cell? ⟨g, i * 13 + 2, none⟩ = some (.bool s.gone) := fun p => cell_regrown (HRr.out.cell (flat_at (c := Svc.cells) (n := 13) (fun _ => rfl) l i s 2 (.bool s.gone) HLS.out rfl)) p.d p.os
    have y3 : ∀ p : Regrown, (grow (redrawn wr p.d) p.os).cell? ⟨g, i * 13 + 3, none⟩ = some (.int .i64 s.image) := fun p => cell_regrown (HRr.out.cell (flat_at (c := Svc.cells) (n := 13) (fun _ => rfl) l i s 3 (.int .i64 s.image) HLS.out rfl)) p.d p.os
    have y4 : ∀ p : Regrown, (grow (redrawn wr p.d) p.os).cell? ⟨g, i * 13 + 4, none⟩ = some (.int .i64 s.want) := fun p => cell_regrown (HRr.out.cell (flat_at (c := Svc.cells) (n := 13) (fun _ => rfl) l i s 4 (.int .i64 s.want) HLS.out rfl)) p.d p.os
    have y5 : ∀ p : Regrown, (grow (redrawn wr p.d) p.os).cell? ⟨g, i * 13 + 5, none⟩ = some (.int .i64 s.down) := fun p => cell_regrown (HRr.out.cell (flat_at (c := Svc.cells) (n := 13) (fun _ => rfl) l i s 5 (.int .i64 s.down) HLS.out rfl)) p.d p.os
    have y6 : ∀ p : Regrown, (grow (redrawn wr p.d) p.os).cell? ⟨g, i * 13 + 6, none⟩ = some (.int .i64 s.over) := fun p => cell_regrown (HRr.out.cell (flat_at (c := Svc.cells) (n := 13) (fun _ => rfl) l i s 6 (.int .i64 s.over) HLS.out rfl)) p.d p.os
    have y7 : ∀ p : Regrown, (grow (redrawn wr p.d) p.os).cell? ⟨g, i * 13 + 7, none⟩ = some (.int .i64 s.next) := fun p => cell_regrown (HRr.out.cell (flat_at (c := Svc.cells) (n := 13) (fun _ => rfl) l i s 7 (.int .i64 s.next) HLS.out rfl)) p.d p.os
    have y8 : ∀ p : Regrown, (grow (redrawn wr p.d) p.os).cell? ⟨g, i * 13 + 8, none⟩ = some (.int .i64 s.per) := fun p => cell_regrown (HRr.out.cell (flat_at (c := Svc.cells) (n := 13) (fun _ => rfl) l i s 8 (.int .i64 s.per) HLS.out rfl)) p.d p.os
    have y9 : ∀ p : Regrown, (grow (redrawn wr p.d) p.os).cell? ⟨g, i * 13 + 9, none⟩ = some (.int .i64 s.least) := fun p => cell_regrown (HRr.out.cell (flat_at (c := Svc.cells) (n := 13) (fun _ => rfl) l i s 9 (.int .i64 s.least) HLS.out rfl)) p.d p.os
    have y10 : ∀ p : Regrown, (grow (redrawn wr p.d) p.os).cell? ⟨g, i * 13 + 10, none⟩ = some (.int .i64 s.most) := fun p => cell_regrown (HRr.out.cell (flat_at (c := Svc.cells) (n := 13) (fun _ => rfl) l i s 10 (.int .i64 s.most) HLS.out rfl)) p.d p.os
    have y11 : ∀ p : Regrown, (grow (redrawn wr p.d) p.os).cell? ⟨g, i * 13 + 11, none⟩ = some (.int .i64 s.load) := fun p => cell_regrown (HRr.out.cell (flat_at (c := Svc.cells) (n := 13) (fun _ => rfl) l i s 11 (.int .i64 s.load) HLS.out rfl)) p.d p.os
    have y12 : ∀ p : Regrown, (grow (redrawn wr p.d) p.os).cell? ⟨g, i * 13 + 12, none⟩ = some (.int .i64 s.cool) := fun p => cell_regrown (HRr.out.cell (flat_at (c := Svc.cells) (n := 13) (fun _ => rfl) l i s 12 (.int .i64 s.cool) HLS.out rfl)) p.d p.os
    have c0 := gcell HX.out 0 rfl
    have c1 := gcell HX.out 1 rfl
    have c2 := gcell HX.out 2 rfl
    have c3 := gcell HX.out 3 rfl
    have c4 := gcell HX.out 4 rfl
    have c5 := gcell HX.out 5 rfl
    have c6 := gcell HX.out 6 rfl
    have c7 := gcell HX.out 7 rfl
    have c8 := gcell HX.out 8 rfl
    have c9 := gcell HX.out 9 rfl
    have c10 := gcell HX.out 10 rfl
    have c11 := gcell HX.out 11 rfl
    have c12 := gcell HX.out 12 rfl
    go_upto_region 8 with fail
    refine wp_region_quiet_below (by kernel_rfl) (by kernel_rfl) ?_
    repeat (first | go_big_quiet_step (exact Calls.regrown_of (put1_any s x _)) | quiet_step (exact Calls.regrown_of (put1_any s x _)))
    refine wpQuiet_nil ?_
    intro w2 hw'
    obtain ⟨⟨dq, osq⟩, hw''⟩ := hw'
    have hbq : Below wr.heap.size wr w2 := by rw [hw'']; exact below_regrown _ _ _
    clear hw''
    have hb2 := hb.trans (hbq.mono hb.size)
    have X2 : Hid _ := below_blk hbq HX.out hzx
    clear hbq y0 c0 y1 c1 y2 c2 y3 c3 y4 c4 y5 c5 y6 c6 y7 c7 y8 c8 y9 c9 y10 c10 y11 c11 y12 c12
    have HLE : Hid (Op.bytesLess s.name.toList x.name.toList = false) := HG.out i s (Nat.le_refl _) HLS.out
    cases hq : (s.name.toList == x.name.toList)
    ·have h0 : (cmpS s.name x.name == 0) = false := by unfold cmpS; rw [HLE.out, hq]; rfl
     go_wp2
     exact bodyPost_ret (v := .tuple #[.int .i64 i, .bool false]) (by simp [results, Tryz.results165, go_sem]; simpa using h0) rfl ⟨i, false, rfl, by omega, HL.out, fun t ht => HG.out i t (Nat.le_refl _) ht, ⟨fun h => absurd h (by simp), fun ⟨t, ht, e⟩ => by rw [HLS.out] at ht; cases ht; rw [e] at hq; simp at hq⟩, hb2⟩
    ·have h0 : (cmpS s.name x.name == 0) = true := by unfold cmpS; rw [HLE.out, hq]; rfl
     go_wp2
     exact bodyPost_ret (v := .tuple #[.int .i64 i, .bool true]) (by simp [results, Tryz.results165, go_sem]; simpa using h0) rfl ⟨i, true, rfl, by omega, HL.out, fun t ht => HG.out i t (Nat.le_refl _) ht, ⟨fun _ => ⟨s, HLS.out, same_nm.1 hq⟩, fun _ => rfl⟩, hb2⟩
   ·go_upto_region 8 with fail
    refine wp_region_quiet_below (by kernel_rfl) (by kernel_rfl) ?_
    repeat (first | go_big_quiet_step (fail) | quiet_step (fail))
    refine wpQuiet_nil ?_
    intro w2 hw'
    obtain ⟨⟨dq, osq⟩, hw''⟩ := hw'
    have hbq : Below wr.heap.size wr w2 := by rw [hw'']; exact below_regrown _ _ _
    clear hw''
    have hb2 := hb.trans (hbq.mono hb.size)
    have HNO : Hid (l[i]? = none) := List.getElem?_eq_none (by rw [HN.out]; omega)
    go_wp2
    exact bodyPost_ret (v := .tuple #[.int .i64 i, .bool false]) (by simp [results, Tryz.results165, go_sem]) rfl ⟨i, false, rfl, by omega, HL.out, fun t ht => HG.out i t (Nat.le_refl _) ht, ⟨fun h => absurd h (by simp), fun ⟨t, ht, _⟩ => by rw [HNO.out] at ht; cases ht⟩, hb2⟩
end Go.Proofs.YtbceafpodamnfabGreat
