/-
  My own: Ic, Yk, Ie.
-/
import Derived.Test.YtbceafpodamnfabGreatG09
import Derived.Test.YtbceafpodamnfabGreatG10
import Derived.Test.YtbceafpodamnfabGreatG00
import Derived.Test.YtbceafpodamnfabGreatG03
import Derived.Test.YtbceafpodamnfabGreatG01
import Derived.Great.Walk
import Derived.Deep.DeepCutAuto
set_option linter.unusedVariables false
set_option linter.unusedSimpArgs false
namespace Go.Proofs.YtbceafpodamnfabGreat
open Go.RowKit Go.Sort
theorem ins_mid {A X D L : List Value} {a s d : Nat} (ha : A.length = a) (hX : X.length = s) (hD : D.length = d) (hL : L.take a = A) (hfit : a + s + d ≤ L.length) : (splice (splice L a X) (a + s) D).take (a + s + d) = A ++ X ++ D ∧ (splice (splice L (a + s) D) a X).take (a + s + d) = A ++ X ++ D := by
 have h1 : ∀ j, j < a → L[j]? = A[j]? := fun j hj => by rw [← hL, List.getElem?_take_of_lt hj]
 have key : ∀ M : List Value, a + s + d ≤ M.length → (∀ j, j < a → M[j]? = L[j]?) → (∀ j, a ≤ j → j < a + s → M[j]? = X[j - a]?) → (∀ j, a + s ≤ j → j < a + s + d → M[j]? = D[j - (a + s)]?) → M.take (a + s + d) = A ++ X ++ D := fun M hM q1 q2 q3 => by
  refine List.ext_getElem? fun j => ?_
  rw [List.append_assoc]
  by_cases c1 : j < a
  ·rw [List.getElem?_take_of_lt (by omega), q1 j c1, h1 j c1, List.getElem?_append_left (by omega)]
  ·rw [List.getElem?_append_right (by omega), ha]
   by_cases c2 : j < a + s
   ·rw [List.getElem?_take_of_lt (by omega), q2 j (by omega) c2, List.getElem?_append_left (by omega)]
   ·rw [List.getElem?_append_right (by omega), hX]
    by_cases c3 : j < a + s + d
    ·rw [List.getElem?_take_of_lt c3, q3 j (by omega) c3, show j - (a + s) = j - a - s by omega]
    ·rw [List.getElem?_eq_none (by rw [List.length_take]; omega), List.getElem?_eq_none (by omega)]
 have l1 : (splice L a X).length = L.length := length_splice L a X (by omega)
 have l2 : (splice L (a + s) D).length = L.length := length_splice L (a + s) D (by omega)
 constructor
 ·refine key _ (by rw [length_splice _ _ _ (by omega)]; omega) (fun j hj => ?_) (fun j h2 h3 => ?_) (fun j h2 h3 => ?_)
  ·rw [splice_get _ _ _ (by omega), if_pos (by omega), splice_get _ _ _ (by omega), if_pos hj]
  ·rw [splice_get _ _ _ (by omega), if_pos (by omega), splice_get _ _ _ (by omega), if_neg (by omega), if_pos (by omega)]
  ·rw [splice_get _ _ _ (by omega), if_neg (by omega), if_pos (by omega)]
 ·refine key _ (by rw [length_splice _ _ _ (by omega)]; omega) (fun j hj => ?_) (fun j h2 h3 => ?_) (fun j h2 h3 => ?_)
  ·rw [splice_get _ _ _ (by omega), if_pos hj, splice_get _ _ _ (by omega), if_pos (by omega)]
  ·rw [splice_get _ _ _ (by omega), if_neg (by omega), if_pos (by omega)]
  ·rw [splice_get _ _ _ (by omega), if_neg (by omega), if_neg (by omega), splice_get _ _ _ (by omega), if_neg (by omega), if_pos (by omega)]
theorem Tryz.undBtsI : Tryz.prog.underlying 32 = some (.slice (Tryz.prog.elem 32)) := by kernel_rfl
theorem Tryz.infoElemBtI : (Tryz.prog.info? (Tryz.prog.elem 32)).map (·.size) = some 2 := by kernel_rfl
theorem Tryz.infosBtI : (Tryz.prog.info? 86).map (·.size) = some 2 := by kernel_rfl
set_option maxRecDepth 100000 in
set_option maxHeartbeats 16000000 in
theorem insB_any (l : List Bt) (x : Bt) (ao : Option Addr) (n cap i N vb : Nat) (w : World) (HN : Hid (l.length = n)) (hl : n ≤ 1048576) (hi : i ≤ n) (hN : N ≤ w.heap.size) (hR : RowN w N 86 2 ao n cap (btsV l)) (hv : w.heap[vb]? = some (.cells #[.string x.name, .bool x.drain] 86 (0, 0))) (hvb : ao ≠ some ⟨vb, 0, none⟩) :
  Calls Tryz.prog 168 #[.slice ao n cap, .int .i64 i, .slice (some ⟨vb, 0, none⟩) 1 1] w fun e w' => ∃ bo k, e = .returned (.slice bo (n + 1) k) ∧ RowN w' N 86 2 bo (n + 1) k (btsV (l.take i ++ x :: l.drop i)) ∧ (∀ q, q < w.heap.size → ao ≠ some ⟨q, 0, none⟩ → w'.heap[q]? = w.heap[q]?) ∧ Below N w w' := by
 have hvl := (Array.getElem?_eq_some_iff.1 hv).1
 have HV : Hid (w.heap[vb]? = some (.cells #[.string x.name, .bool x.drain] 86 (0, 0))) := hv
 obtain ⟨XS, hXS⟩ : ∃ q, q = (#[.string x.name, .bool x.drain] : Array Value).toList := ⟨_, rfl⟩
 have HXL : Hid (XS.length = 2) := by unfold Hid; rw [hXS]; rfl
 have HX1 : Hid (∀ u ∈ XS, u.oneCell' = true) := by unfold Hid; rw [hXS]; simp [Value.oneCell']
 have HVL : Hid (btsV (l.take i ++ x :: l.drop i) = btsV (l.take i) ++ XS ++ btsV (l.drop i)) := by unfold Hid; rw [hXS]; simp [btsV, Bt.cells]
 have HNW : Hid (∀ W : World, W.heap[vb]? = some (.cells #[.string x.name, .bool x.drain] 86 (0, 0)) → ∀ j u, XS[j]? = some u → W.cell? ((⟨vb, 0, none⟩ : Addr).add j) = some u) := fun W h => by rw [hXS]; exact news_row h
 have HX0 : Hid (btsV [x] = XS) := by unfold Hid; rw [hXS]; simp [btsV, Bt.cells]
 clear hv hXS
 rcases hR with ⟨rfl, rfl, rfl, hnil⟩ | ⟨g, rfl, hNg, hr⟩
 ·obtain rfl : i = 0 := by omega
  obtain rfl : l = [] := List.length_eq_zero_iff.1 HN.out
  clear hnil hvb
  go_enter Tryz.func168, Tryz.ntmps168
  go_wp2_with (at_builtin; refine wpList_append_nil rfl (.tmp 23) (.tmp 24) 32 rfl 86 _ 2 24 Tryz.underlying32 Tryz.infoBtI rfl (by omega) rfl (some ⟨vb, 0, none⟩) 1 1 XS rfl (by rw [HXL.out]) (fun _ => ⟨_, rfl, HNW.out _ HV.out⟩) HX1.out (by unfold maxLen; omega) (by omega) (fun h => absurd h (by omega)) (fun _ => ?_); intro g k w1 hg hr hb)
  have HRX : Hid (RowIs w1 86 2 g 1 k XS) := hr
  clear hr
  go_ret
  exact ⟨some ⟨g, 0, none⟩, k, rfl, .inr ⟨g, rfl, by omega, by have h := HRX.out; rw [← HX0.out] at h; simpa using h⟩, fun q hq _ => hb.block q hq, hb.mono' hN⟩
 have HR : Hid (RowIs w 86 2 g n cap (btsV l)) := hr
 have hgl := hr.lt
 have hnc := hr.2.1
 have hvg : vb ≠ g := fun e => hvb (by rw [e])
 clear hvb hr
 have HTL : Hid ((l.take i).length = i) := by unfold Hid; rw [List.length_take, HN.out]; omega
 have HDL : Hid ((l.drop i).length = n - i) := by unfold Hid; rw [List.length_drop, HN.out]
 by_cases hin : i = n
 ·subst hin
  have HTD : Hid (l.take i = l ∧ l.drop i = []) := ⟨List.take_of_length_le (by rw [HN.out]; omega), List.drop_eq_nil_of_le (by rw [HN.out]; omega)⟩
  go_enter Tryz.func168, Tryz.ntmps168
  go_upto_region 2 with (refine wpList_slice_off rfl 32 (.tmp 10) (some (.tmp 11)) none none rfl Tryz.undBtsI 2 Tryz.infoElemBtI g 0 i cap i i cap rfl (some (.int .i64 (i : Int))) none none rfl rfl rfl (fun w => run_slice_l w _ _ _ _ Tryz.undBtsI .i64 (i : Int) (by omega) (by omega)) ?_; intro off _)
  go_wp2_with (at_builtin; refine wpList_append_row rfl (.tmp 23) (.tmp 24) 32 rfl 86 _ 2 24 Tryz.underlying32 Tryz.infoBtI rfl g i cap _ rfl HR.out ⟨vb, 0, none⟩ 1 1 XS rfl (by rw [HXL.out]) (HNW.out _ HV.out) HX1.out (by unfold maxLen; omega) (by omega) ?_; intro g' k w1 hg' hr hgr; have HRX : Hid (RowIs w1 86 2 g' (i + 1) k (btsV l ++ XS)) := hr; have HGR : Hid (∀ q, q < w.heap.size → q ≠ g → w1.heap[q]? = w.heap[q]?) := (fun q hq hne => hgr.block q hq (fun e => hne (Option.some.inj e))); have hbo := below_of_grown hgr hNg hN; clear hr hgr)
  go_ret
  exact ⟨some ⟨g', 0, none⟩, k, rfl, .inr ⟨g', rfl, by rcases hg' with h | h <;> omega, by rw [HVL.out, HTD.out.1, HTD.out.2]; simpa [btsV] using HRX.out⟩, fun q hq hne => HGR.out q hq (fun e => hne (by rw [e])), hbo⟩
 have hlt : i < n := by omega
 clear hin
 have HSRC : Hid (∀ W : World, RowIs W 86 2 g n cap (btsV l) → ∀ off, off = i * 2 → ∀ j u, (btsV (l.drop i))[j]? = some u → W.cell? ((⟨g, off, none⟩ : Addr).add j) = some u) := fun W h off ho => by rw [ho]; exact h.srcDrop (c := Bt.cells) (fun _ => rfl) i
 have HFT : Hid (btsV (l.take i) = (btsV l).take (i * 2)) := flat_take (c := Bt.cells) (fun _ => rfl) l i
 by_cases hroom : n + 1 ≤ cap
 ·obtain ⟨cur, hgc, hcs, htk⟩ := HR.out.2.2
  have HGC : Hid (w.heap[g]? = some (.cells cur 86 (0, 0))) := hgc
  have HCS : Hid (cur.size = cap * 2 ∧ cur.toList.take (n * 2) = btsV l) := ⟨hcs, htk⟩
  have HCL : Hid (cur.toList.length = cur.size) := Array.length_toList
  have hfitc : (n + 1) * 2 ≤ cur.size := by rw [hcs]; exact Nat.mul_le_mul_right _ hroom
  clear hgc hcs htk
  obtain ⟨dd, hdd⟩ : ∃ q, n - i = q := ⟨_, rfl⟩
  have hd1 : n ≤ i + dd := by omega
  have hd1' : i + dd ≤ n := by omega
  obtain ⟨ss, hss⟩ : ∃ q, n + 1 - i = q := ⟨_, rfl⟩
  have hs1 : n + 1 ≤ i + ss := by omega
  have hs1' : i + ss ≤ n + 1 := by omega
  have HDD : Hid ((l.drop i).length = dd) := by unfold Hid; rw [HDL.out]; exact hdd
  have hd2 : 0 < dd := by omega
  clear hdd hss
  have hov : ∀ off' lb cb, (callFunc 173 #[.slice (some ⟨vb, 0, none⟩) 1 1, .slice (some ⟨g, off', none⟩) lb cb]).run Tryz.prog w = .ok (.value (.bool false)) w := fun off' lb cb => by
   rw [run_callFunc_extern Tryz.func173 (by kernel_rfl) (by kernel_rfl) (by kernel_rfl) (e := Extern.SlicesOverlaps.overlaps #[32, 32] #[4]) (by kernel_rfl),
    Lib.run_overlaps_apart w 32 4 86 Tryz.underlying32 2 (fun _ => by kernel_rfl) ⟨vb, 0, none⟩ ⟨g, off', none⟩ 1 1 lb cb hvg 86 86 2 cur.size (by simp [World.shape?, HV.out]) (by simp [World.shape?, HGC.out]) (by omega) (blk_frozen HV.out 0) (blk_frozen HV.out 2)]
   rfl
  have HOV : Hid _ := hov
  clear hov
  go_enter Tryz.func168, Tryz.ntmps168
  go_upto_region 2 with (refine wpList_slice_off rfl 32 (.tmp 10) (some (.tmp 11)) none none rfl Tryz.undBtsI 2 Tryz.infoElemBtI g 0 n cap i n cap rfl (some (.int .i64 (i : Int))) none none rfl rfl rfl (fun w => run_slice_l w _ _ _ _ Tryz.undBtsI .i64 (i : Int) (by omega) (by omega)) ?_; intro off0 _)
  go_upto_region 14 with fail
  have hov := HOV.out
  go_upto_region 15 with (first
   | (refine wpList_slice_off rfl 32 (.tmp 62) (some (.tmp 65)) none none rfl Tryz.undBtsI 2 Tryz.infoElemBtI g 0 (n + 1) cap (i + 1) (n + 1) cap rfl (some (.int .i64 ((i : Int) + 1))) none none rfl rfl rfl (fun w => run_slice_l w _ _ _ _ Tryz.undBtsI .i64 ((i + 1 : Nat) : Int) (by omega) (by omega)) ?_; intro off1 _)
   | (simp only [hov]))
  clear hov
  refine wp_region_grows 8 (by kernel_rfl) (by kernel_rfl) ?_
  apply grow_eq
  ·intro V W K A hW hd hA hK
   simp only [putAll, List.getElem?_toArray, List.getElem?_cons_succ, List.getElem?_cons_zero, Option.bind_some, Act.put, List.setIfInBounds_toArray, List.set_cons_succ, List.set_cons_zero] at hA
   clear hd
   generalize V 0 = x0 at hA
   generalize V 1 = x1 at hA
   generalize V 2 = x2 at hA
   generalize V 3 = x3 at hA
   generalize V 4 = x4 at hA
   generalize V 5 = x5 at hA
   generalize V 6 = x6 at hA
   generalize V 7 = x7 at hA
   obtain rfl := hA
   go_wp2
   exact hK.out _ (Below.refl _ _)
  apply grow_eq
  ·intro V W K A hW hd hA hK
   simp only [putAll, List.getElem?_toArray, List.getElem?_cons_succ, List.getElem?_cons_zero, Option.bind_some, Act.put, List.setIfInBounds_toArray, List.set_cons_succ, List.set_cons_zero] at hA
   clear hd
   generalize V 0 = x0 at hA
   generalize V 1 = x1 at hA
   generalize V 2 = x2 at hA
   generalize V 3 = x3 at hA
   generalize V 4 = x4 at hA
   generalize V 5 = x5 at hA
   generalize V 6 = x6 at hA
   generalize V 7 = x7 at hA
   obtain rfl := hA
   go_wp2
   exact hK.out _ (Below.refl _ _)
  apply grow_eq
  ·intro V W K A hW hd hA hK
   simp only [putAll, List.getElem?_toArray, List.getElem?_cons_succ, List.getElem?_cons_zero, Option.bind_some, Act.put, List.setIfInBounds_toArray, List.set_cons_succ, List.set_cons_zero] at hA
   clear hd
   generalize V 0 = x0 at hA
   generalize V 1 = x1 at hA
   generalize V 2 = x2 at hA
   generalize V 3 = x3 at hA
   generalize V 4 = x4 at hA
   generalize V 5 = x5 at hA
   generalize V 6 = x6 at hA
   generalize V 7 = x7 at hA
   obtain rfl := hA
   go_wp2
   exact hK.out _ (Below.refl _ _)
  apply grow_eq
  ·intro V W K A hW hd hA hK
   have d1 : V 1 = _ := hd 1 (by kernel_rfl)
   have d2 : V 2 = _ := hd 2 (by kernel_rfl)
   simp only [putAll, List.getElem?_toArray, List.getElem?_cons_succ, List.getElem?_cons_zero, Option.bind_some, Act.put, List.setIfInBounds_toArray, List.set_cons_succ, List.set_cons_zero] at hA
   clear hd
   generalize V 0 = x0 at hA
   generalize V 1 = x1 at d1 hA
   generalize V 2 = x2 at d2 hA
   generalize V 3 = x3 at hA
   generalize V 4 = x4 at hA
   generalize V 5 = x5 at hA
   generalize V 6 = x6 at hA
   generalize V 7 = x7 at hA
   subst d1
   subst d2
   obtain rfl := hA
   go_wp2
   exact hK.out _ (Below.refl _ _)
  refine grow_op (fun vv (_ : World) => ∃ off, vv = .slice (some ⟨g, off, none⟩) dd (cap - (i + 1)) ∧ (off = (i + 1) * 2 ∨ cap = i + 1)) (fun _ _ _ h _ => h) ?_ ?_
  ·intro V W K A hW hd hA hK
   have d0 : V 0 = _ := hd 0 (by kernel_rfl)
   have d3 : V 3 = _ := hd 3 (by kernel_rfl)
   simp only [putAll, List.getElem?_toArray, List.getElem?_cons_succ, List.getElem?_cons_zero, Option.bind_some, Act.put, List.setIfInBounds_toArray, List.set_cons_succ, List.set_cons_zero] at hA
   clear hd
   generalize V 0 = x0 at d0 hA
   generalize V 1 = x1 at hA
   generalize V 2 = x2 at hA
   generalize V 3 = x3 at d3 hA
   generalize V 4 = x4 at hA
   generalize V 5 = x5 at hA
   generalize V 6 = x6 at hA
   generalize V 7 = x7 at hA
   subst d0
   subst d3
   obtain rfl := hA
   refine wpList_slice_off rfl 32 (.tmp 69) (some (.tmp 72)) none none rfl Tryz.undBtsI 2 Tryz.infoElemBtI g 0 (n + 1) cap (i + 1) (n + 1) cap rfl (some (.int .i64 ((i : Int) + 1))) none none rfl rfl rfl (fun w => run_slice_l w _ _ _ _ Tryz.undBtsI .i64 ((i + 1 : Nat) : Int) (by omega) (by omega)) ?_
   intro off hoff
   rw [show (n + 1) - (i + 1) = dd by omega]
   go_wp2
   exact hK.out _ _ (Below.refl _ _) ⟨off, rfl, by omega⟩
  apply grow_eq
  ·intro V W K A hW hd hA hK
   simp only [putAll, List.getElem?_toArray, List.getElem?_cons_succ, List.getElem?_cons_zero, Option.bind_some, Act.put, List.setIfInBounds_toArray, List.set_cons_succ, List.set_cons_zero] at hA
   clear hd
   generalize V 0 = x0 at hA
   generalize V 1 = x1 at hA
   generalize V 2 = x2 at hA
   generalize V 3 = x3 at hA
   generalize V 4 = x4 at hA
   generalize V 5 = x5 at hA
   generalize V 6 = x6 at hA
   generalize V 7 = x7 at hA
   obtain rfl := hA
   go_wp2
   exact hK.out _ (Below.refl _ _)
  apply grow_eq
  ·intro V W K A hW hd hA hK
   simp only [putAll, List.getElem?_toArray, List.getElem?_cons_succ, List.getElem?_cons_zero, Option.bind_some, Act.put, List.setIfInBounds_toArray, List.set_cons_succ, List.set_cons_zero] at hA
   clear hd
   generalize V 0 = x0 at hA
   generalize V 1 = x1 at hA
   generalize V 2 = x2 at hA
   generalize V 3 = x3 at hA
   generalize V 4 = x4 at hA
   generalize V 5 = x5 at hA
   generalize V 6 = x6 at hA
   generalize V 7 = x7 at hA
   obtain rfl := hA
   go_wp2
   exact hK.out _ (Below.refl _ _)
  refine grow_op (fun vv (_ : World) => ∃ off, vv = .slice (some ⟨g, off, none⟩) ss (cap - i) ∧ (off = i * 2 ∨ cap = i)) (fun _ _ _ h _ => h) ?_ ?_
  ·intro V W K A hW hd hA hK
   have d5 : V 5 = _ := hd 5 (by kernel_rfl)
   have d6 : V 6 = _ := hd 6 (by kernel_rfl)
   simp only [putAll, List.getElem?_toArray, List.getElem?_cons_succ, List.getElem?_cons_zero, Option.bind_some, Act.put, List.setIfInBounds_toArray, List.set_cons_succ, List.set_cons_zero] at hA
   clear hd
   generalize V 0 = x0 at hA
   generalize V 1 = x1 at hA
   generalize V 2 = x2 at hA
   generalize V 3 = x3 at hA
   generalize V 4 = x4 at hA
   generalize V 5 = x5 at d5 hA
   generalize V 6 = x6 at d6 hA
   generalize V 7 = x7 at hA
   subst d5
   subst d6
   obtain rfl := hA
   refine wpList_slice_off rfl 32 (.tmp 74) (some (.tmp 75)) none none rfl Tryz.undBtsI 2 Tryz.infoElemBtI g 0 (n + 1) cap i (n + 1) cap rfl (some (.int .i64 (i : Int))) none none rfl rfl rfl (fun w => run_slice_l w _ _ _ _ Tryz.undBtsI .i64 (i : Int) (by omega) (by omega)) ?_
   intro off hoff
   rw [show (n + 1) - i = ss by omega]
   go_wp2
   exact hK.out _ _ (Below.refl _ _) ⟨off, rfl, by omega⟩
  intro V W A hW hS hA
  have d0 : V 0 = _ := hS 0 (by omega)
  have d1 : V 1 = _ := hS 1 (by omega)
  have d2 : V 2 = _ := hS 2 (by omega)
  have d3 : V 3 = _ := hS 3 (by omega)
  have d4 : (fun vv (_ : World) => ∃ off, vv = .slice (some ⟨g, off, none⟩) dd (cap - (i + 1)) ∧ (off = (i + 1) * 2 ∨ cap = i + 1)) (V 4) W := hS 4 (by omega)
  have d5 : V 5 = _ := hS 5 (by omega)
  have d6 : V 6 = _ := hS 6 (by omega)
  have d7 : (fun vv (_ : World) => ∃ off, vv = .slice (some ⟨g, off, none⟩) ss (cap - i) ∧ (off = i * 2 ∨ cap = i)) (V 7) W := hS 7 (by omega)
  simp only [putAll, List.getElem?_toArray, List.getElem?_cons_succ, List.getElem?_cons_zero, Option.bind_some, Act.put, List.setIfInBounds_toArray, List.set_cons_succ, List.set_cons_zero] at hA
  clear hS
  generalize V 0 = x0 at d0 hA
  generalize V 1 = x1 at d1 hA
  generalize V 2 = x2 at d2 hA
  generalize V 3 = x3 at d3 hA
  generalize V 4 = x4 at d4 hA
  generalize V 5 = x5 at d5 hA
  generalize V 6 = x6 at d6 hA
  generalize V 7 = x7 at d7 hA
  subst d0
  subst d1
  subst d2
  subst d3
  subst d5
  subst d6
  obtain rfl := hA
  simp only [List.drop_succ_cons, List.drop_zero]
  obtain ⟨off4, rfl, h4⟩ := d4
  obtain ⟨off7, rfl, h7⟩ := d7
  have HGW : Hid (W.heap[g]? = some (.cells cur 86 (0, 0))) := below_blk hW HGC.out hgl
  have HRW : Hid (RowIs W 86 2 g n cap (btsV l)) := HR.out.below hW hgl
  have HVW : Hid _ := below_blk hW HV.out hvl
  (refine wpList_copy_k rfl (.tmp 73) (.tmp 76) 32 rfl 86 2 Tryz.underlying32 Tryz.infosBtI (some ⟨g, off4, none⟩) (some ⟨g, off7, none⟩) dd _ ss _ rfl rfl dd (by show min ss dd = dd; omega) g ((i + 1) * 2) cur 86 HGW.out (btsV (l.drop i)) (by rw [btsV_len, HDD.out]) (fun _ => ⟨by rw [show off4 = (i + 1) * 2 by omega], _, rfl, HSRC.out W HRW.out off7 (by omega)⟩) (by rw [btsV_len, HDD.out]; omega) (btsV_one _) ?_; intro w2 hz on; have HZ2 : Hid (w2.heap[g]? = some (.cells (splice cur.toList ((i + 1) * 2) (btsV (l.drop i))).toArray 86 (0, 0))) := hz; have HO2 : Hid (Only g W w2) := on; clear hz on)
  have HV2 : Hid _ := (HO2.out.other vb hvg).trans HVW.out
  have HSL : Hid ((splice cur.toList ((i + 1) * 2) (btsV (l.drop i))).length = cur.size) := by unfold Hid; rw [length_splice _ _ _ (by rw [btsV_len, HDD.out, HCL.out]; omega), HCL.out]
  go_upto_region 17 with (first
   | (refine wpList_slice_off rfl 32 (.tmp 78) (some (.tmp 79)) none none rfl Tryz.undBtsI 2 Tryz.infoElemBtI g 0 (n + 1) cap i (n + 1) cap rfl (some (.int .i64 (i : Int))) none none rfl rfl rfl (fun w => run_slice_l w _ _ _ _ Tryz.undBtsI .i64 (i : Int) (by omega) (by omega)) ?_; intro off8 h8; rw [show n + 1 - i = ss by omega])
   | (refine wpList_copy_k rfl (.tmp 80) (.tmp 81) 32 rfl 86 2 Tryz.underlying32 Tryz.infosBtI (some ⟨g, off8, none⟩) (some ⟨vb, 0, none⟩) ss _ 1 1 rfl rfl 1 (by show min 1 ss = 1; omega) g (i * 2) _ 86 HZ2.out XS (by rw [HXL.out]) (fun _ => ⟨by rw [show off8 = i * 2 by omega], _, rfl, HNW.out _ HV2.out⟩) (by rw [List.size_toArray, HSL.out]; rw [HXL.out]; omega) HX1.out ?_; intro w3 hz on; have HZ3 : Hid (w3.heap[g]? = some (.cells (splice (splice cur.toList ((i + 1) * 2) (btsV (l.drop i))) (i * 2) XS).toArray 86 (0, 0))) := hz; have HO3 : Hid (Only g w2 w3) := on; clear hz on))
  go_wp2
  go_ret
  have hmid := (ins_mid (A := btsV (l.take i)) (X := XS) (D := btsV (l.drop i)) (L := cur.toList) (a := i * 2) (s := 2) (d := dd * 2) (by rw [btsV_len, HTL.out]) HXL.out (by rw [btsV_len, HDD.out]) (by rw [HFT.out, ← HCS.out.2, List.take_take, Nat.min_eq_left (Nat.mul_le_mul_right _ (by omega))]) (by rw [HCL.out]; omega)).2
  rw [show i * 2 + 2 = (i + 1) * 2 by omega, show (i + 1) * 2 + dd * 2 = (n + 1) * 2 by omega] at hmid
  refine ⟨some ⟨g, 0, none⟩, cap, rfl, .inr ⟨g, rfl, hNg, ?_⟩, fun q hq hne => ?_, ?_⟩
  ·rw [HVL.out]
   refine ⟨?_, hroom, _, HZ3.out, ?_, ?_⟩
   ·simp only [List.length_append, btsV_len, HTL.out, HDD.out]; rw [HXL.out]; omega
   ·rw [List.size_toArray, length_splice _ _ _ (by rw [HSL.out]; rw [HXL.out]; omega), HSL.out, HCS.out.1]
   ·exact hmid
  ·have hqg : q ≠ g := fun e => hne (by rw [e])
   exact (HO3.out.other q hqg).trans ((HO2.out.other q hqg).trans (hW.block q hq))
  ·exact (hW.mono' hN).trans ((HO2.out.below.mono' hNg).trans (HO3.out.below.mono' hNg))
 ·obtain ⟨dd, hdd⟩ : ∃ q, n - i = q := ⟨_, rfl⟩
  have hd1 : n ≤ i + dd := by omega
  have hd1' : i + dd ≤ n := by omega
  obtain ⟨mz, hmz⟩ : ∃ q, n + 1 - i = q := ⟨_, rfl⟩
  have hm1 : n + 1 ≤ i + mz := by omega
  have hm1' : i + mz ≤ n + 1 := by omega
  have HDD : Hid ((l.drop i).length = dd) := by unfold Hid; rw [HDL.out]; exact hdd
  have hd2 : 0 < dd := by omega
  clear hdd hmz
  go_enter Tryz.func168, Tryz.ntmps168
  go_upto_region 2 with (refine wpList_slice_off rfl 32 (.tmp 10) (some (.tmp 11)) none none rfl Tryz.undBtsI 2 Tryz.infoElemBtI g 0 n cap i n cap rfl (some (.int .i64 (i : Int))) none none rfl rfl rfl (fun w => run_slice_l w _ _ _ _ Tryz.undBtsI .i64 (i : Int) (by omega) (by omega)) ?_; intro off0 _; rw [show n - i = dd by omega])
  go_upto_region 9 with fail
  go_upto_region 10 with (refine wpList_append_zeros rfl (.tmp 34) (.tmp 39) 32 3 rfl 86 _ 2 24 .i64 Tryz.underlying32 Tryz.underlying3 Tryz.infoBtI rfl (by omega) ⟨g, 0, none⟩ i cap (btsV (l.take i)) rfl (by rw [btsV_len, HTL.out]) (HR.out.srcTake (c := Bt.cells) (fun _ => rfl) i) mz (congrArg (Value.int .i64) (by omega)) (by omega) (by omega) (by unfold maxLen; omega) (by omega) ?_; intro g2 cap2 cur w1 hg2 hc2 hz1 hcs1 hb1)
  have hgg2 : vb ≠ g2 := by omega
  have HCL : Hid (cur.toList.length = cur.size) := Array.length_toList
  have hg2l := (Array.getElem?_eq_some_iff.1 hz1.out).1
  have HV1 : Hid _ := below_blk hb1 HV.out hvl
  have HR1 : Hid (RowIs w1 86 2 g n cap (btsV l)) := HR.out.below hb1 hgl
  have hcsz : (i + mz) * 2 ≤ cur.size := by rw [hcs1.out.1]; exact Nat.mul_le_mul_right _ hc2
  go_upto_region 11 with (first
   | (refine wpList_slice_off rfl 32 (.tmp 41) (some (.tmp 42)) none none rfl Tryz.undBtsI 2 Tryz.infoElemBtI g2 0 (i + mz) cap2 i (i + mz) cap2 rfl (some (.int .i64 (i : Int))) none none rfl rfl rfl (fun w => run_slice_l w _ _ _ _ Tryz.undBtsI .i64 (i : Int) (by omega) (by omega)) ?_; intro off8 h8; rw [show i + mz - i = mz by omega])
   | (refine wpList_copy_k rfl (.tmp 43) (.tmp 44) 32 rfl 86 2 Tryz.underlying32 Tryz.infosBtI (some ⟨g2, off8, none⟩) (some ⟨vb, 0, none⟩) mz _ 1 1 rfl rfl 1 (by show min 1 mz = 1; omega) g2 (i * 2) _ 86 hz1.out XS (by rw [HXL.out]) (fun _ => ⟨by rw [show off8 = i * 2 by omega], _, rfl, HNW.out _ HV1.out⟩) (by rw [HXL.out]; omega) HX1.out ?_; intro w2 hz on; have HZ2 : Hid (w2.heap[g2]? = some (.cells (splice cur.toList (i * 2) XS).toArray 86 (0, 0))) := hz; have HO2 : Hid (Only g2 w1 w2) := on; clear hz on))
  have HSL : Hid ((splice cur.toList (i * 2) XS).length = cur.size) := by unfold Hid; rw [length_splice _ _ _ (by rw [HCL.out, HXL.out]; omega), HCL.out]
  have HR2 : Hid (RowIs w2 86 2 g n cap (btsV l)) := HR1.out.blk (HO2.out.other g (by omega))
  have hb2 : Below w.heap.size w w2 := hb1.trans (HO2.out.below.mono' hg2)
  have hg2w : g2 < w2.heap.size := (Array.getElem?_eq_some_iff.1 HZ2.out).1
  have hgl2 := HR2.out.lt
  refine wp_region_grows 8 (by kernel_rfl) (by kernel_rfl) ?_
  apply grow_eq
  ·intro V W K A hW hd hA hK
   simp only [putAll, List.getElem?_toArray, List.getElem?_cons_succ, List.getElem?_cons_zero, Option.bind_some, Act.put, List.setIfInBounds_toArray, List.set_cons_succ, List.set_cons_zero] at hA
   clear hd
   generalize V 0 = x0 at hA
   generalize V 1 = x1 at hA
   generalize V 2 = x2 at hA
   generalize V 3 = x3 at hA
   generalize V 4 = x4 at hA
   generalize V 5 = x5 at hA
   generalize V 6 = x6 at hA
   generalize V 7 = x7 at hA
   obtain rfl := hA
   go_wp2
   exact hK.out _ (Below.refl _ _)
  apply grow_eq
  ·intro V W K A hW hd hA hK
   simp only [putAll, List.getElem?_toArray, List.getElem?_cons_succ, List.getElem?_cons_zero, Option.bind_some, Act.put, List.setIfInBounds_toArray, List.set_cons_succ, List.set_cons_zero] at hA
   clear hd
   generalize V 0 = x0 at hA
   generalize V 1 = x1 at hA
   generalize V 2 = x2 at hA
   generalize V 3 = x3 at hA
   generalize V 4 = x4 at hA
   generalize V 5 = x5 at hA
   generalize V 6 = x6 at hA
   generalize V 7 = x7 at hA
   obtain rfl := hA
   go_wp2
   exact hK.out _ (Below.refl _ _)
  apply grow_eq
  ·intro V W K A hW hd hA hK
   simp only [putAll, List.getElem?_toArray, List.getElem?_cons_succ, List.getElem?_cons_zero, Option.bind_some, Act.put, List.setIfInBounds_toArray, List.set_cons_succ, List.set_cons_zero] at hA
   clear hd
   generalize V 0 = x0 at hA
   generalize V 1 = x1 at hA
   generalize V 2 = x2 at hA
   generalize V 3 = x3 at hA
   generalize V 4 = x4 at hA
   generalize V 5 = x5 at hA
   generalize V 6 = x6 at hA
   generalize V 7 = x7 at hA
   obtain rfl := hA
   go_wp2
   exact hK.out _ (Below.refl _ _)
  apply grow_eq
  ·intro V W K A hW hd hA hK
   have d1 : V 1 = _ := hd 1 (by kernel_rfl)
   have d2 : V 2 = _ := hd 2 (by kernel_rfl)
   simp only [putAll, List.getElem?_toArray, List.getElem?_cons_succ, List.getElem?_cons_zero, Option.bind_some, Act.put, List.setIfInBounds_toArray, List.set_cons_succ, List.set_cons_zero] at hA
   clear hd
   generalize V 0 = x0 at hA
   generalize V 1 = x1 at d1 hA
   generalize V 2 = x2 at d2 hA
   generalize V 3 = x3 at hA
   generalize V 4 = x4 at hA
   generalize V 5 = x5 at hA
   generalize V 6 = x6 at hA
   generalize V 7 = x7 at hA
   subst d1
   subst d2
   obtain rfl := hA
   go_wp2
   exact hK.out _ (Below.refl _ _)
  refine grow_op (fun vv (_ : World) => ∃ off, vv = .slice (some ⟨g2, off, none⟩) dd (cap2 - (i + 1)) ∧ (off = (i + 1) * 2 ∨ cap2 = i + 1)) (fun _ _ _ h _ => h) ?_ ?_
  ·intro V W K A hW hd hA hK
   have d0 : V 0 = _ := hd 0 (by kernel_rfl)
   have d3 : V 3 = _ := hd 3 (by kernel_rfl)
   simp only [putAll, List.getElem?_toArray, List.getElem?_cons_succ, List.getElem?_cons_zero, Option.bind_some, Act.put, List.setIfInBounds_toArray, List.set_cons_succ, List.set_cons_zero] at hA
   clear hd
   generalize V 0 = x0 at d0 hA
   generalize V 1 = x1 at hA
   generalize V 2 = x2 at hA
   generalize V 3 = x3 at d3 hA
   generalize V 4 = x4 at hA
   generalize V 5 = x5 at hA
   generalize V 6 = x6 at hA
   generalize V 7 = x7 at hA
   subst d0
   subst d3
   obtain rfl := hA
   refine wpList_slice_off rfl 32 (.tmp 46) (some (.tmp 49)) none none rfl Tryz.undBtsI 2 Tryz.infoElemBtI g2 0 (i + mz) cap2 (i + 1) (i + mz) cap2 rfl (some (.int .i64 ((i : Int) + 1))) none none rfl rfl rfl (fun w => run_slice_l w _ _ _ _ Tryz.undBtsI .i64 ((i + 1 : Nat) : Int) (by omega) (by omega)) ?_
   intro off hoff
   rw [show (i + mz) - (i + 1) = dd by omega]
   go_wp2
   exact hK.out _ _ (Below.refl _ _) ⟨off, rfl, by omega⟩
  apply grow_eq
  ·intro V W K A hW hd hA hK
   simp only [putAll, List.getElem?_toArray, List.getElem?_cons_succ, List.getElem?_cons_zero, Option.bind_some, Act.put, List.setIfInBounds_toArray, List.set_cons_succ, List.set_cons_zero] at hA
   clear hd
   generalize V 0 = x0 at hA
   generalize V 1 = x1 at hA
   generalize V 2 = x2 at hA
   generalize V 3 = x3 at hA
   generalize V 4 = x4 at hA
   generalize V 5 = x5 at hA
   generalize V 6 = x6 at hA
   generalize V 7 = x7 at hA
   obtain rfl := hA
   go_wp2
   exact hK.out _ (Below.refl _ _)
  apply grow_eq
  ·intro V W K A hW hd hA hK
   simp only [putAll, List.getElem?_toArray, List.getElem?_cons_succ, List.getElem?_cons_zero, Option.bind_some, Act.put, List.setIfInBounds_toArray, List.set_cons_succ, List.set_cons_zero] at hA
   clear hd
   generalize V 0 = x0 at hA
   generalize V 1 = x1 at hA
   generalize V 2 = x2 at hA
   generalize V 3 = x3 at hA
   generalize V 4 = x4 at hA
   generalize V 5 = x5 at hA
   generalize V 6 = x6 at hA
   generalize V 7 = x7 at hA
   obtain rfl := hA
   go_wp2
   exact hK.out _ (Below.refl _ _)
  refine grow_op (fun vv (_ : World) => ∃ off, vv = .slice (some ⟨g, off, none⟩) dd (cap - i) ∧ (off = i * 2 ∨ cap = i)) (fun _ _ _ h _ => h) ?_ ?_
  ·intro V W K A hW hd hA hK
   have d5 : V 5 = _ := hd 5 (by kernel_rfl)
   have d6 : V 6 = _ := hd 6 (by kernel_rfl)
   simp only [putAll, List.getElem?_toArray, List.getElem?_cons_succ, List.getElem?_cons_zero, Option.bind_some, Act.put, List.setIfInBounds_toArray, List.set_cons_succ, List.set_cons_zero] at hA
   clear hd
   generalize V 0 = x0 at hA
   generalize V 1 = x1 at hA
   generalize V 2 = x2 at hA
   generalize V 3 = x3 at hA
   generalize V 4 = x4 at hA
   generalize V 5 = x5 at d5 hA
   generalize V 6 = x6 at d6 hA
   generalize V 7 = x7 at hA
   subst d5
   subst d6
   obtain rfl := hA
   refine wpList_slice_off rfl 32 (.tmp 51) (some (.tmp 52)) none none rfl Tryz.undBtsI 2 Tryz.infoElemBtI g 0 n cap i n cap rfl (some (.int .i64 (i : Int))) none none rfl rfl rfl (fun w => run_slice_l w _ _ _ _ Tryz.undBtsI .i64 (i : Int) (by omega) (by omega)) ?_
   intro off hoff
   rw [show n - i = dd by omega]
   go_wp2
   exact hK.out _ _ (Below.refl _ _) ⟨off, rfl, by omega⟩
  intro V W A hW hS hA
  have d0 : V 0 = _ := hS 0 (by omega)
  have d1 : V 1 = _ := hS 1 (by omega)
  have d2 : V 2 = _ := hS 2 (by omega)
  have d3 : V 3 = _ := hS 3 (by omega)
  have d4 : (fun vv (_ : World) => ∃ off, vv = .slice (some ⟨g2, off, none⟩) dd (cap2 - (i + 1)) ∧ (off = (i + 1) * 2 ∨ cap2 = i + 1)) (V 4) W := hS 4 (by omega)
  have d5 : V 5 = _ := hS 5 (by omega)
  have d6 : V 6 = _ := hS 6 (by omega)
  have d7 : (fun vv (_ : World) => ∃ off, vv = .slice (some ⟨g, off, none⟩) dd (cap - i) ∧ (off = i * 2 ∨ cap = i)) (V 7) W := hS 7 (by omega)
  simp only [putAll, List.getElem?_toArray, List.getElem?_cons_succ, List.getElem?_cons_zero, Option.bind_some, Act.put, List.setIfInBounds_toArray, List.set_cons_succ, List.set_cons_zero] at hA
  clear hS
  generalize V 0 = x0 at d0 hA
  generalize V 1 = x1 at d1 hA
  generalize V 2 = x2 at d2 hA
  generalize V 3 = x3 at d3 hA
  generalize V 4 = x4 at d4 hA
  generalize V 5 = x5 at d5 hA
  generalize V 6 = x6 at d6 hA
  generalize V 7 = x7 at d7 hA
  subst d0
  subst d1
  subst d2
  subst d3
  subst d5
  subst d6
  obtain rfl := hA
  simp only [List.drop_succ_cons, List.drop_zero]
  obtain ⟨off4, rfl, h4⟩ := d4
  obtain ⟨off7, rfl, h7⟩ := d7
  have HZW : Hid _ := below_blk hW HZ2.out hg2w
  have HRW : Hid (RowIs W 86 2 g n cap (btsV l)) := HR2.out.below hW hgl2
  (refine wpList_copy_k rfl (.tmp 50) (.tmp 53) 32 rfl 86 2 Tryz.underlying32 Tryz.infosBtI (some ⟨g2, off4, none⟩) (some ⟨g, off7, none⟩) dd _ dd _ rfl rfl dd (by show min dd dd = dd; omega) g2 ((i + 1) * 2) _ 86 HZW.out (btsV (l.drop i)) (by rw [btsV_len, HDD.out]) (fun _ => ⟨by rw [show off4 = (i + 1) * 2 by omega], _, rfl, HSRC.out W HRW.out off7 (by omega)⟩) (by rw [btsV_len, HDD.out, List.size_toArray, HSL.out]; omega) (btsV_one _) ?_; intro w3 hz on; have HZ3 : Hid (w3.heap[g2]? = some (.cells (splice (splice cur.toList (i * 2) XS) ((i + 1) * 2) (btsV (l.drop i))).toArray 86 (0, 0))) := hz; have HO3 : Hid (Only g2 W w3) := on; clear hz on)
  go_wp2
  go_ret
  have hmid := (ins_mid (A := btsV (l.take i)) (X := XS) (D := btsV (l.drop i)) (L := cur.toList) (a := i * 2) (s := 2) (d := dd * 2) (by rw [btsV_len, HTL.out]) HXL.out (by rw [btsV_len, HDD.out]) hcs1.out.2 (by rw [HCL.out]; omega)).1
  rw [show i * 2 + 2 = (i + 1) * 2 by omega, show (i + 1) * 2 + dd * 2 = (n + 1) * 2 by omega] at hmid
  have hb3 : Below w.heap.size w w3 := hb2.trans ((hW.mono' (by omega)).trans (HO3.out.below.mono' hg2))
  refine ⟨some ⟨g2, 0, none⟩, cap2, by rw [show i + mz = n + 1 by omega]; rfl, .inr ⟨g2, rfl, by omega, ?_⟩, fun q hq _ => hb3.block q hq, hb3.mono' hN⟩
  rw [HVL.out]
  refine ⟨?_, by omega, _, HZ3.out, ?_, ?_⟩
  ·simp only [List.length_append, btsV_len, HTL.out, HDD.out]; rw [HXL.out]; omega
  ·rw [List.size_toArray, length_splice _ _ _ (by rw [HSL.out, btsV_len, HDD.out]; omega), HSL.out, hcs1.out.1]
  ·exact hmid
end Go.Proofs.YtbceafpodamnfabGreat

namespace Go.Proofs.YtbceafpodamnfabGreat
open Go.RowKit Go.Sort
def cmpS (a b : ByteArray) : Int := if Op.bytesLess a.toList b.toList = true then -1 else if (a.toList == b.toList) = true then 0 else 1
set_option maxHeartbeats 1000000 in
theorem isNaNS_any (a : ByteArray) (w : World) : Calls Tryz.prog 155 #[.string a] w fun e w' => e = .returned (.bool false) ∧ w' = w := by
 go_enter Tryz.func155, Tryz.ntmps155
 go_wp2
 go_ret
 exact ⟨rfl, rfl⟩
set_option maxHeartbeats 1000000 in
theorem cmpStr_any (a b : ByteArray) (w : World) : Calls Tryz.prog 138 #[.string a, .string b] w fun e w' => e = .returned (.int .i64 (cmpS a b)) ∧ w' = w := by
 obtain ⟨cd, HCD⟩ : ∃ cd, Hid (cmpS a b = cd) := ⟨_, rfl⟩
 rw [HCD.out]
 go_enter Tryz.func138, Tryz.ntmps138
 go_wp2_with fail
 refine (isNaNS_any a _).mono ?_
 rintro e _ ⟨rfl, rfl⟩
 go_wp2_with fail
 refine (isNaNS_any b _).mono ?_
 rintro e _ ⟨rfl, rfl⟩
 cases h1 : Op.bytesLess a.toList b.toList
 ·cases h2 : (a.toList == b.toList)
  ·have HC : Hid (cd = 1) := by unfold Hid; rw [← HCD.out]; unfold cmpS; rw [h1, h2]; rfl
   go_wp2
   go_ret
   exact ⟨by rw [HC.out]; rfl, rfl⟩
  ·have HC : Hid (cd = 0) := by unfold Hid; rw [← HCD.out]; unfold cmpS; rw [h1, h2]; rfl
   go_wp2
   go_ret
   exact ⟨by rw [HC.out]; rfl, rfl⟩
 ·have HC : Hid (cd = -1) := by unfold Hid; rw [← HCD.out]; unfold cmpS; rw [h1]; rfl
  go_wp2
  go_ret
  exact ⟨by rw [HC.out]; rfl, rfl⟩
end Go.Proofs.YtbceafpodamnfabGreat

namespace Go.Proofs.YtbceafpodamnfabGreat
open Go.RowKit Go.Sort
set_option maxRecDepth 100000 in
set_option maxHeartbeats 2000000 in
theorem raise1_any (x y : Bt) (w : World) : Calls Tryz.prog 154 #[.agg #[.string x.name, .bool x.drain], .agg #[.string y.name, .bool y.drain]] w fun e w' => e = .returned (.int .i64 (cmpS x.name y.name)) ∧ Below w.heap.size w w' := by
 obtain ⟨W0, hW0, t0, t1, hz0, hz0', hb0⟩ := two_newV w (.cells #[.string x.name, .bool x.drain] 86) (.cells #[.string y.name, .bool y.drain] 86)
 have e0 := blk_cell t0 0 rfl
 have e1 := blk_cell t1 0 rfl
 clear t0 t1
 go_enter Tryz.func154, Tryz.ntmps154
 go_upto_region 1 with fail
 clear hW0
 go_wp2_with fail
 refine (cmpStr_any x.name y.name W0).mono ?_
 rintro e _ ⟨rfl, rfl⟩
 clear e0 e1
 go_wp2
 go_ret
 exact ⟨rfl, hb0⟩
set_option maxRecDepth 100000 in
set_option maxHeartbeats 2000000 in
theorem put1_any (x y : Svc) (w : World) : Calls Tryz.prog 148 #[.agg #[.string x.name, .int .i64 x.version, .bool x.gone, .int .i64 x.image, .int .i64 x.want, .int .i64 x.down, .int .i64 x.over, .int .i64 x.next, .int .i64 x.per, .int .i64 x.least, .int .i64 x.most, .int .i64 x.load, .int .i64 x.cool], .agg #[.string y.name, .int .i64 y.version, .bool y.gone, .int .i64 y.image, .int .i64 y.want, .int .i64 y.down, .int .i64 y.over, .int .i64 y.next, .int .i64 y.per, .int .i64 y.least, .int .i64 y.most, .int .i64 y.load, .int .i64 y.cool]] w fun e w' => e = .returned (.int .i64 (cmpS x.name y.name)) ∧ Below w.heap.size w w' := by
 obtain ⟨W0, hW0, t0, t1, hz0, hz0', hb0⟩ := two_newV w (.cells #[.string x.name, .int .i64 x.version, .bool x.gone, .int .i64 x.image, .int .i64 x.want, .int .i64 x.down, .int .i64 x.over, .int .i64 x.next, .int .i64 x.per, .int .i64 x.least, .int .i64 x.most, .int .i64 x.load, .int .i64 x.cool] 48) (.cells #[.string y.name, .int .i64 y.version, .bool y.gone, .int .i64 y.image, .int .i64 y.want, .int .i64 y.down, .int .i64 y.over, .int .i64 y.next, .int .i64 y.per, .int .i64 y.least, .int .i64 y.most, .int .i64 y.load, .int .i64 y.cool] 48)
 have e0 := blk_cell t0 0 rfl
 have e1 := blk_cell t1 0 rfl
 clear t0 t1
 go_enter Tryz.func148, Tryz.ntmps148
 go_upto_region 1 with fail
 clear hW0
 go_wp2_with fail
 refine (cmpStr_any x.name y.name W0).mono ?_
 rintro e _ ⟨rfl, rfl⟩
 clear e0 e1
 go_wp2
 go_ret
 exact ⟨rfl, hb0⟩
end Go.Proofs.YtbceafpodamnfabGreat
