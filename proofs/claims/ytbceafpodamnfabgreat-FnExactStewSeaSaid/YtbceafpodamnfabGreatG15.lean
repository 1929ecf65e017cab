/-
  My own: Ir, Is, Lm, Ik.
-/
import Derived.Test.YtbceafpodamnfabGreatG14
import Derived.Test.YtbceafpodamnfabGreatG05
import Derived.Test.YtbceafpodamnfabGreatG10
set_option linter.unusedVariables false
set_option linter.unusedSimpArgs false
namespace Go.Proofs.YtbceafpodamnfabGreat
open Go.RowKit Go.Sort
structure Placed (Y : Bk) : Prop where
 names : ∀ t ∈ Y.bts, t.name ≠ ⟨#[]⟩
 waits : ∀ c ∈ Y.cps, c.state = 1 → c.berth = ⟨#[]⟩
 uB : uniqB Y
def standF (Y : Bk) (i : Nat) : Int := (standL Y Y.cps.length).getD i 0
theorem standF_at {Y : Bk} {i : Nat} {t : Bt} (h : Y.bts[i]? = some t) : standF Y i = standN Y t.name := by
 unfold standF standL standN
 rw [List.getD_eq_getElem?_getD, List.getElem?_map, h]
 rfl
theorem least_open {Y : Bk} (hne : ∀ t ∈ Y.bts, t.name ≠ ⟨#[]⟩) : ∀ k, k ≤ Y.bts.length → (openTo Y k = [] → leastTo Y k = (⟨#[]⟩, 0)) ∧ (openTo Y k ≠ [] → ∃ t, Y.bts[bestN (standF Y) (openTo Y k)]? = some t ∧ leastTo Y k = (t.name, standN Y t.name))
 | 0, _ => ⟨fun _ => rfl, fun h => absurd rfl h⟩
 | k + 1, hk => by
  obtain ⟨t, ht⟩ : ∃ t, Y.bts[k]? = some t := ⟨Y.bts[k]'(by omega), by rw [List.getElem?_eq_getElem]⟩
  obtain ⟨ih1, ih2⟩ := least_open hne k (by omega)
  rw [openTo_succ ht, leastTo_succ ht]
  cases hd : t.drain
  ·simp only [Bool.false_eq_true, if_false]
   refine ⟨fun h => absurd h (by simp), fun _ => ?_⟩
   by_cases ho : openTo Y k = []
   ·refine ⟨t, ?_, ?_⟩
    ·rw [ho]; exact ht
    ·rw [ih1 ho]
     unfold leastS
     rw [hd, if_pos (by simp [show (⟨#[]⟩ : ByteArray).toList = [] by rw [ByteArray.toList_eq]])]
   ·obtain ⟨s, hs, hl⟩ := ih2 ho
    rw [hl, bestN_add ho]
    have hsn : (s.name.toList == []) = false := by
     cases hq : (s.name.toList == [])
     ·rfl
     ·exact absurd (nil_bytes.1 hq) (hne s (List.mem_of_getElem? hs))
    rw [standF_at ht, standF_at hs]
    unfold leastS
    rw [hd]
    by_cases hlt : standN Y t.name < standN Y s.name
    ·refine ⟨t, ?_, ?_⟩
     ·rw [if_pos hlt]; exact ht
     ·rw [if_pos (by simp [hsn, hlt])]
    ·refine ⟨s, ?_, ?_⟩
     ·rw [if_neg hlt]; exact hs
     ·rw [if_neg (by simp [hsn, hlt])]
  ·have e : leastS Y (leastTo Y k) t = leastTo Y k := by unfold leastS; rw [hd]; simp
   simp only [if_true, List.append_nil]
   rw [e]
   exact ⟨ih1, ih2⟩
theorem openTo_same {Y Z : Bk} (h : Y.bts = Z.bts) : ∀ k, openTo Y k = openTo Z k
 | 0 => rfl
 | k + 1 => by
  show openTo Y k ++ _ = openTo Z k ++ _
  rw [openTo_same h k, h]
theorem placeAt_none {v : Int} {Y : Bk} {i : Nat} (hne : ∀ t ∈ Y.bts, t.name ≠ ⟨#[]⟩) (ho : openTo Y Y.bts.length = []) : placeAt v Y i = Y := by
 have hl : leastB Y = ⟨#[]⟩ := by unfold leastB; rw [(least_open hne _ (Nat.le_refl _)).1 ho]
 unfold placeAt
 split
 ·rw [if_neg (by rw [hl]; simp)]
 ·rfl
theorem placeAt_still {v : Int} {Y : Bk} {i : Nat} {c : Cp} (hc : Y.cps[i]? = some c) (hs : c.state ≠ 1) : placeAt v Y i = Y := by
 unfold placeAt
 rw [hc]
 simp only
 rw [if_neg (fun h => hs h.1)]
theorem placeAt_best {v : Int} {Y : Bk} {i : Nat} {c : Cp} (hP : Placed Y) (hc : Y.cps[i]? = some c) (hs : c.state = 1) (ho : openTo Y Y.bts.length ≠ []) : ∃ t, Y.bts[bestN (standF Y) (openTo Y Y.bts.length)]? = some t ∧ placeAt v Y i = { Y with cps := Y.cps.set i { c with state := 2, berth := t.name, version := v } } := by
 obtain ⟨t, ht, hl⟩ := (least_open hP.names _ (Nat.le_refl _)).2 ho
 have hb : leastB Y = t.name := by unfold leastB; rw [hl]
 refine ⟨t, ht, ?_⟩
 unfold placeAt
 rw [hc]
 simp only
 rw [hb, if_pos ⟨hs, hP.names t (List.mem_of_getElem? ht)⟩]
theorem standN_set {Y : Bk} {i : Nat} {c d : Cp} (nm : ByteArray) (hc : Y.cps[i]? = some c) (h0 : (c.berth.toList == nm.toList) = false) : standN { Y with cps := Y.cps.set i d } nm = addB (d.berth.toList == nm.toList) (standN Y nm) := by
 have hi := (List.getElem?_eq_some_iff.1 hc).1
 have hci : Y.cps[i] = c := by rw [List.getElem?_eq_getElem hi] at hc; exact Option.some.inj hc
 unfold standN standTo
 simp only [List.take_length]
 rw [← List.countP_eq_length_filter, ← List.countP_eq_length_filter, List.countP_set hi, hci, h0]
 unfold addB
 cases (d.berth.toList == nm.toList) <;> simp
theorem standL_set {Y : Bk} {i j : Nat} {c d : Cp} {t : Bt} (hP : Placed Y) (hc : Y.cps[i]? = some c) (hs : c.state = 1) (ht : Y.bts[j]? = some t) (hd : d.berth = t.name) : standL { Y with cps := Y.cps.set i d } (Y.cps.set i d).length = (standL Y Y.cps.length).set j (standN Y t.name + 1) := by
 have hjl := (List.getElem?_eq_some_iff.1 ht).1
 have hcb := hP.waits c (List.mem_of_getElem? hc) hs
 have h0 : ∀ s ∈ Y.bts, (c.berth.toList == s.name.toList) = false := fun s hs' => by
  cases hq : (c.berth.toList == s.name.toList)
  ·rfl
  ·exact absurd ((same_nm.1 hq).symm.trans hcb) (hP.names s hs')
 refine List.ext_getElem? fun q => ?_
 by_cases hq : q = j
 ·subst hq
  rw [List.getElem?_set_self (by unfold standL; rw [List.length_map]; exact hjl)]
  unfold standL
  rw [List.getElem?_map, show ({ Y with cps := Y.cps.set i d } : Bk).bts = Y.bts from rfl, ht, Option.map_some]
  have := standN_set (d := d) t.name hc (h0 t (List.mem_of_getElem? ht))
  unfold standN at this
  rw [this, hd]
  simp [addB]
  rfl
 ·rw [List.getElem?_set_ne (by omega)]
  unfold standL
  rw [List.getElem?_map, List.getElem?_map, show ({ Y with cps := Y.cps.set i d } : Bk).bts = Y.bts from rfl]
  cases hs' : Y.bts[q]? with
  | none => rfl
  | some s =>
   rw [Option.map_some, Option.map_some]
   have hne : s.name ≠ t.name := by
    rcases Nat.lt_or_gt_of_ne hq with h | h
    ·exact hP.uB q j s t h hs' ht
    ·exact fun e => hP.uB j q t s h ht hs' e.symm
   have := standN_set (d := d) s.name hc (h0 s (List.mem_of_getElem? hs'))
   unfold standN at this
   rw [this, hd]
   have hb : (t.name.toList == s.name.toList) = false := by
    cases hq' : (t.name.toList == s.name.toList)
    ·rfl
    ·exact absurd (same_nm.1 hq').symm hne
   rw [hb]
   rfl
def placeTo (Y : Bk) (v : Int) (k : Nat) : Bk := (List.range k).foldl (placeAt v) Y
theorem placeTo_succ (Y : Bk) (v : Int) (k : Nat) : placeTo Y v (k + 1) = placeAt v (placeTo Y v k) k := by
 unfold placeTo
 rw [List.range_succ, List.foldl_append]
 rfl
theorem placeTo_same (Y : Bk) (v : Int) : ∀ k, (placeTo Y v k).now = Y.now ∧ (placeTo Y v k).svcs = Y.svcs ∧ (placeTo Y v k).bts = Y.bts ∧ (placeTo Y v k).cps.length = Y.cps.length
 | 0 => ⟨rfl, rfl, rfl, rfl⟩
 | k + 1 => by
  rw [placeTo_succ]
  obtain ⟨h1, h2, h3, h4⟩ := placeAt_same v (placeTo Y v k) k
  obtain ⟨q1, q2, q3, q4⟩ := placeTo_same Y v k
  exact ⟨h1.trans q1, h2.trans q2, h3.trans q3, h4.trans q4⟩
theorem placeAt_placed {v : Int} {Y : Bk} {i : Nat} (hP : Placed Y) : Placed (placeAt v Y i) := by
 unfold placeAt
 split
 ·split
  ·exact ⟨hP.names, fun c hc hs => by
    rcases List.mem_or_eq_of_mem_set hc with h | h
    ·exact hP.waits c h hs
    ·rw [h] at hs; exact absurd hs (by simp), hP.uB⟩
  ·exact hP
 ·exact hP
theorem placeTo_placed {Y : Bk} (hP : Placed Y) (v : Int) : ∀ k, Placed (placeTo Y v k)
 | 0 => hP
 | k + 1 => by rw [placeTo_succ]; exact placeAt_placed (placeTo_placed hP v k)
theorem placeTo_none {Y : Bk} (hP : Placed Y) (v : Int) (ho : openTo Y Y.bts.length = []) : ∀ k, placeTo Y v k = Y
 | 0 => rfl
 | k + 1 => by rw [placeTo_succ, placeTo_none hP v ho k]; exact placeAt_none hP.names ho
end Go.Proofs.YtbceafpodamnfabGreat

namespace Go.Proofs.YtbceafpodamnfabGreat
open Go.RowKit Go.Sort
theorem BkVar.only {w w' : World} {N A b : Nat} {B : Bk} {a1 a2 a3 : Option Addr} {k1 k2 k3 : Nat} {t : TypeId} {cs : Array Value} {fr : Nat × Nat} (h : BkVar w N A B a1 a2 a3 k1 k2 k3) (on : Only b w w') (hb : w.heap[b]? = some (.cells cs t fr)) (h0 : t ≠ 34) (h1 : t ≠ 48) (h2 : t ≠ 88) (h3 : t ≠ 86) : BkVar w' N A B a1 a2 a3 k1 k2 k3 :=
 ⟨h.lo, (on.other A (fun e => by
  have hx := h.box
  rw [e, hb] at hx
  injection hx with hx
  injection hx with _ hx
  exact h0 hx)).trans h.box, h.rows.only on hb h1 h2 h3⟩
theorem Tryz.infosIntsP : (Tryz.prog.info? 91).map (·.size) = some 1 := by kernel_rfl
set_option maxRecDepth 100000 in
set_option maxHeartbeats 16000000 in
theorem place_any (X : Bk) (N A : Nat) (a1 a2 a3 : Option Addr) (k1 k2 k3 : Nat) (w : World) (hF : Fit X) (hP : Placed X) (hN : N ≤ w.heap.size) (hV : BkVar w N A X a1 a2 a3 k1 k2 k3) :
  Calls Tryz.prog 145 #[.agg #[.pointer (some ⟨A, 0, none⟩)]] w fun e w' => e = .returned (.tuple #[]) ∧ BkVar w' N A (placeTo X X.now X.cps.length) a1 a2 a3 k1 k2 k3 ∧ Below N w w' := by
 have hl2 := hF.l2
 have hl3 := hF.l3
 have hAl := (Array.getElem?_eq_some_iff.1 hV.box).1
 obtain ⟨W0, hW0⟩ : ∃ W, w.alloc (.cells #[.pointer (some ⟨A, 0, none⟩)] 162) = W := ⟨_, rfl⟩
 have hb0 := below_box w (.cells #[.pointer (some ⟨A, 0, none⟩)] 162)
 have E0 : Hid (W0.heap[w.heap.size]? = some (.cells #[.pointer (some ⟨A, 0, none⟩)] 162 (0, 0))) := by unfold Hid; rw [← hW0]; exact heap_alloc_new w (.cells #[.pointer (some ⟨A, 0, none⟩)] 162)
 rw [hW0] at hb0
 have hz0 := (Array.getElem?_eq_some_iff.1 E0.out).1
 have V0 := hidBkVar (hV.below hb0)
 skip
 have A0 : Hid (W0.heap[A]? = some (.cells #[.int .i64 X.now, .slice a1 X.svcs.length k1, .slice a2 X.cps.length k2, .slice a3 X.bts.length k3] 34 (0, 0))) := V0.out.box
 have q0 := blk_cell E0.out 0 rfl
 have e0 := blk_cell A0.out 0 rfl
 have e1 := blk_cell A0.out 1 rfl
 have e2 := blk_cell A0.out 2 rfl
 have e3 := blk_cell A0.out 3 rfl
 clear hV
 go_enter Tryz.func145, Tryz.ntmps145
 go_upto_region 1 with fail
 clear hW0
 go_wp2_with fail
 refine (standing_any X a1 a2 a3 k1 k2 k3 W0 hF V0.out.rows.at).mono ?_
 rintro e w1 ⟨gs, rfl, hgs, hr1, hb1⟩
 have R1 : Hid (RowIs w1 3 1 gs X.bts.length X.bts.length (rowI (standL X X.cps.length))) := hr1
 have hgl1 := hr1.lt
 obtain ⟨W2, hW2⟩ : ∃ W, w1.alloc (.cells #[.slice none 0 0] 91) = W := ⟨_, rfl⟩
 have hb2 := below_box w1 (.cells #[.slice none 0 0] 91)
 obtain ⟨sv, hsv⟩ : ∃ q, w1.heap.size = q := ⟨_, rfl⟩
 have S2 : Hid (W2.heap[sv]? = some (.cells #[.slice none 0 0] 91 (0, 0))) := by unfold Hid; rw [← hW2, ← hsv]; exact heap_alloc_new w1 (.cells #[.slice none 0 0] 91)
 rw [hW2] at hb2
 have hsv1 : w1.heap.size ≤ sv := by omega
 have hsv2 : sv ≤ w1.heap.size := by omega
 clear hr1 q0 e0 e1 e2 e3
 go_upto_region 2 with (refine wpList_store_one rfl 91 (.tmp 2) (.tmp 13) rfl sv 0 (.slice (some ⟨gs, 0, none⟩) X.bts.length X.bts.length) rfl rfl Tryz.infosIntsP rfl rfl 91 #[.slice none 0 0] S2.out (Nat.le_of_ble_eq_true rfl) ?_; intro w3 hz on; have S3 : Hid (w3.heap[sv]? = some (.cells #[.slice (some ⟨gs, 0, none⟩) X.bts.length X.bts.length] 91 (0, 0))) := hz; have hb3 := hb2.trans (on.below.mono' hsv1); clear hz on)
 clear hW2 hsv S2 hb2
 have hbB : Below W0.heap.size W0 w3 := hb1.trans (hb3.mono' hb1.size)
 have V3 := hidBkVar (V0.out.below hbB)
 have E3 : Hid (w3.heap[w.heap.size]? = some (.cells #[.pointer (some ⟨A, 0, none⟩)] 162 (0, 0))) := below_blk hbB E0.out hz0
 have A3 : Hid (w3.heap[A]? = some (.cells #[.int .i64 X.now, .slice a1 X.svcs.length k1, .slice a2 X.cps.length k2, .slice a3 X.bts.length k3] 34 (0, 0))) := V3.out.box
 have R3 : Hid (RowIs w3 3 1 gs X.bts.length X.bts.length (rowI (standL X X.cps.length))) := R1.out.below hb3 hgl1
 have hbw3 := hb0.trans (hbB.mono hb0.size)
 have hz3 := (Array.getElem?_eq_some_iff.1 S3.out).1
 have q0 := blk_cell E3.out 0 rfl
 have e0 := blk_cell A3.out 0 rfl
 have e1 := blk_cell A3.out 1 rfl
 have e2 := blk_cell A3.out 2 rfl
 have e3 := blk_cell A3.out 3 rfl
 have hszE : w.heap.size < W0.heap.size := hz0
 have hb1s := hb1.size
 clear hb1 hb3 R1 V0 E0 A0 hbB
 go_wp2_with fail
 refine (openBerths_any X a1 a2 a3 k1 k2 k3 w3 hF V3.out.rows.at).mono ?_
 rintro e w4 ⟨ao, n, cap, rfl, hn4, hr4, hb4⟩
 obtain ⟨M, hM⟩ : ∃ q, w3.heap.size = q := ⟨_, rfl⟩
 rw [hM] at hr4
 have hM1 : w3.heap.size ≤ M := by omega
 have hgM : gs < M := by omega
 have HN4 : Hid (n = (openTo X X.bts.length).length) := hn4
 have hn1 : n ≤ 1000 := by rw [hn4]; have := openTo_len X X.bts.length; omega
 have O4 := hidRowN hr4
 have V4 := hidBkVar (V3.out.below hb4)
 have E4 : Hid (w4.heap[w.heap.size]? = some (.cells #[.pointer (some ⟨A, 0, none⟩)] 162 (0, 0))) := below_blk hb4 E3.out (by omega)
 have A4 : Hid (w4.heap[A]? = some (.cells #[.int .i64 X.now, .slice a1 X.svcs.length k1, .slice a2 X.cps.length k2, .slice a3 X.bts.length k3] 34 (0, 0))) := V4.out.box
 have S4 : Hid (w4.heap[sv]? = some (.cells #[.slice (some ⟨gs, 0, none⟩) X.bts.length X.bts.length] 91 (0, 0))) := below_blk hb4 S3.out hz3
 have R4 : Hid (RowIs w4 3 1 gs X.bts.length X.bts.length (rowI (standL X X.cps.length))) := R3.out.below hb4 R3.out.lt
 have hbw4 : Below N w w4 := (hbw3.trans (hb4.mono hbw3.size)).mono' hN
 have hsvw : w.heap.size < sv := by omega
 clear hn4 hr4 hM q0 e0 e1 e2 e3 V3 E3 A3 S3 R3 hbw3 hz3 hb4
 have q0 := blk_cell E4.out 0 rfl
 have e2 := blk_cell A4.out 2 rfl
 go_upto_region 4 with fail
 clear q0 e2 A4
 go_wp2
 go_loopw [27] (fun iv wr => ∃ k : Nat, k ≤ X.cps.length ∧ iv = .int .i64 k ∧ Hid (wr.heap[w.heap.size]? = some (.cells #[.pointer (some ⟨A, 0, none⟩)] 162 (0, 0))) ∧ Hid (BkVar wr N A (placeTo X X.now k) a1 a2 a3 k1 k2 k3) ∧ Hid (wr.heap[sv]? = some (.cells #[.slice (some ⟨gs, 0, none⟩) X.bts.length X.bts.length] 91 (0, 0))) ∧ Hid (RowIs wr 3 1 gs X.bts.length X.bts.length (rowI (standL (placeTo X X.now k) X.cps.length))) ∧ Hid (RowN wr M 3 1 ao n cap (rowI (natI (openTo X X.bts.length)))) ∧ Below N w wr) (fun i _ => X.cps.length - (intOf i).toNat)
 case atStart => exact ⟨0, by omega, rfl, E4, V4, S4, R4, O4, hbw4⟩
 case round =>
  clear E4 V4 S4 R4 O4 hbw4
  obtain ⟨k, hk, rfl, E5, V5, S5, R5, O5, hb5⟩ := hrel
  obtain ⟨Y, HY⟩ : ∃ Y, Hid (placeTo X X.now k = Y) := ⟨_, rfl⟩
  rw [HY.out] at V5 R5
  have HYP : Hid (Placed Y) := by unfold Hid; rw [← HY.out]; exact placeTo_placed hP X.now k
  have HYS : Hid (Y.now = X.now ∧ Y.svcs = X.svcs ∧ Y.bts = X.bts ∧ Y.cps.length = X.cps.length) := by unfold Hid; rw [← HY.out]; exact placeTo_same X X.now k
  have A5 : Hid (wr.heap[A]? = some (.cells #[.int .i64 X.now, .slice a1 X.svcs.length k1, .slice a2 X.cps.length k2, .slice a3 X.bts.length k3] 34 (0, 0))) := by have h := V5.out.box; rw [HYS.out.1, HYS.out.2.1, HYS.out.2.2.1, HYS.out.2.2.2] at h; exact h
  by_cases hlt : k < X.cps.length
  ·obtain ⟨c, hc⟩ : ∃ c, Y.cps[k]? = some c := ⟨Y.cps[k]'(by rw [HYS.out.2.2.2]; exact hlt), by rw [List.getElem?_eq_getElem]⟩
   have HC : Hid (Y.cps[k]? = some c) := hc
   obtain ⟨g, ea, hNg, hr⟩ := V5.out.rows.cps.some (by rw [HYS.out.2.2.2]; omega)
   have HEA : Hid (a2 = some ⟨g, 0, none⟩) := ea
   have HR : Hid (RowIs wr 88 7 g X.cps.length k2 (cpsV Y.cps)) := by have h := hr; rw [HYS.out.2.2.2] at h; exact h
   have hcap := HR.out.2.1
   have hgl := hr.lt
   have q0 := blk_cell E5.out 0 rfl
   have e2 : wr.cell? ⟨A, 2, none⟩ = some (.slice (some ⟨g, 0, none⟩) X.cps.length k2) := by have h := blk_cell A5.out 2 rfl; rw [ea] at h; exact h
   have y4 := HR.out.cell (flat_at (c := Cp.cells) (n := 7) (fun _ => rfl) Y.cps k c 4 (.int .i64 c.state) hc rfl)
   have hfit : k * 7 + 7 ≤ X.cps.length * 7 := by omega
   clear hc hr ea
   by_cases hst : c.state = 1
   ·have hs1 : (c.state != 1) = false := by simp [hst]
    have HST : Hid (c.state = 1) := hst
    clear hst
    go_upto_region 8 with fail
    clear y4
    have HOL : Hid ((openTo X X.bts.length).length = n) := HN4.out.symm
    have HLL : Hid ((standL Y X.cps.length).length = X.bts.length) := by unfold Hid standL; rw [List.length_map, HYS.out.2.2.1]
    obtain ⟨at', HAT⟩ : ∃ q : Nat, Hid (bestN (fun i => (standL Y X.cps.length).getD i 0) (openTo X X.bts.length) = q) := ⟨_, rfl⟩
    have hcall := firstOfI_any (standL Y X.cps.length) (openTo X X.bts.length) ao n cap M sv gs X.bts.length wr HOL hn1 O5.out S5.out R5.out (fun i hi => by rw [HLL.out]; exact (openTo_mem hi).1)
    rw [HAT.out] at hcall
    by_cases hn0 : 0 < n
    ·rw [show decide (0 < n) = true by simp [hn0]] at hcall
     have HON : Hid (openTo Y Y.bts.length ≠ []) := by unfold Hid; rw [HYS.out.2.2.1, openTo_same HYS.out.2.2.1]; intro h; have := congrArg List.length h; rw [HOL.out] at this; simp at this; omega
     obtain ⟨t, ht, hpl⟩ := placeAt_best (v := X.now) HYP.out HC.out HST.out HON.out
     have HF : Hid (bestN (standF Y) (openTo Y Y.bts.length) = at') := by
      unfold Hid
      rw [← HAT.out, HYS.out.2.2.1, openTo_same HYS.out.2.2.1]
      unfold standF
      rw [HYS.out.2.2.2]
     rw [HF.out] at ht
     have HT : Hid (X.bts[at']? = some t) := by unfold Hid; rw [← HYS.out.2.2.1]; exact ht
     have hatl : at' < X.bts.length := (List.getElem?_eq_some_iff.1 HT.out).1
     have HY1 : Hid (placeTo X X.now (k + 1) = { Y with cps := Y.cps.set k { c with state := 2, berth := t.name, version := X.now } }) := by unfold Hid; rw [placeTo_succ, HY.out]; exact hpl
     obtain ⟨x, hx⟩ : ∃ x, standN Y t.name = x := ⟨_, rfl⟩
     have hxi := standTo_in Y t.name Y.cps.length
     rw [show standTo Y t.name Y.cps.length = x from hx, HYS.out.2.2.2] at hxi
     have hx0 := hxi.1
     have hx1 := hxi.2
     have HLI : Hid ((standL Y X.cps.length)[at']? = some x) := by
      unfold Hid standL
      rw [List.getElem?_map, ht, Option.map_some, ← HYS.out.2.2.2]
      exact congrArg some hx
     have HSL : Hid (standL { Y with cps := Y.cps.set k { c with state := 2, berth := t.name, version := X.now } } X.cps.length = (standL Y X.cps.length).set at' (x + 1)) := by
      unfold Hid
      have h := standL_set (d := { c with state := 2, berth := t.name, version := X.now }) HYP.out HC.out HST.out ht rfl
      rw [List.length_set, HYS.out.2.2.2, hx] at h
      exact h
     clear ht hpl hxi hx
     go_wp2_with fail
     refine hcall.mono ?_
     clear hcall
     rintro e w6 ⟨rfl, hbq⟩
     have V6 := hidBkVar (V5.out.below hbq)
     have E6 : Hid (w6.heap[w.heap.size]? = some (.cells #[.pointer (some ⟨A, 0, none⟩)] 162 (0, 0))) := below_blk hbq E5.out (Array.getElem?_eq_some_iff.1 E5.out).1
     have A6 : Hid (w6.heap[A]? = some (.cells #[.int .i64 X.now, .slice a1 X.svcs.length k1, .slice a2 X.cps.length k2, .slice a3 X.bts.length k3] 34 (0, 0))) := below_blk hbq A5.out (Array.getElem?_eq_some_iff.1 A5.out).1
     have S6 : Hid (w6.heap[sv]? = some (.cells #[.slice (some ⟨gs, 0, none⟩) X.bts.length X.bts.length] 91 (0, 0))) := below_blk hbq S5.out (Array.getElem?_eq_some_iff.1 S5.out).1
     have R6 : Hid (RowIs w6 3 1 gs X.bts.length X.bts.length (rowI (standL Y X.cps.length))) := R5.out.below hbq R5.out.lt
     have O6 : Hid (RowN w6 M 3 1 ao n cap (rowI (natI (openTo X X.bts.length)))) := O5.out.below hbq
     have HR6 : Hid (RowIs w6 88 7 g X.cps.length k2 (cpsV Y.cps)) := HR.out.below hbq hgl
     have hb6 : Below N w w6 := hb5.trans (hbq.mono' (by have := hb5.size; omega))
     have hb5s := hb5.size
     have hb6s := hbq.size
     clear q0 e2 hbq V5 E5 A5 S5 R5 O5 HR hb5
     have s0 := blk_cell S6.out 0 rfl
     have z0 : w6.cell? ⟨gs, at', none⟩ = some (.int .i64 x) := R6.out.cell (rowI_get HLI.out)
     go_upto_region 11 with (refine wpList_row_one rfl 3 (.tmp 56) (.tmp 55) rfl gs at' (.int .i64 (x + 1)) rfl rfl Tryz.infosIntP rfl rfl 3 1 X.bts.length X.bts.length _ R6.out (by omega) ?_; intro w7 hr on; have R7 : Hid (RowIs w7 3 1 gs X.bts.length X.bts.length (rowI ((standL Y X.cps.length).set at' (x + 1)))) := (by have h := hr.out; rw [rowI_set _ at' (x + 1) (by rw [HLL.out]; exact hatl)] at h; exact h); have HO7 : Hid (Only gs w6 w7) := on; clear hr on)
     obtain ⟨curS, hcS⟩ : ∃ cur, w6.heap[gs]? = some (.cells cur 3 (0, 0)) := by obtain ⟨_, _, cur, h, _⟩ := R6.out; exact ⟨cur, h⟩
     have V7 := hidBkVar (V6.out.only HO7.out hcS (by decide) (by decide) (by decide) (by decide))
     have hneE : w.heap.size ≠ gs := by omega
     have hneA : A ≠ gs := fun e => by rw [← e, A6.out] at hcS; cases hcS
     have hneS : sv ≠ gs := fun e => by rw [← e, S6.out] at hcS; cases hcS
     have E7 : Hid (w7.heap[w.heap.size]? = some (.cells #[.pointer (some ⟨A, 0, none⟩)] 162 (0, 0))) := (HO7.out.other _ hneE).trans E6.out
     have A7 : Hid (w7.heap[A]? = some (.cells #[.int .i64 X.now, .slice a1 X.svcs.length k1, .slice a2 X.cps.length k2, .slice a3 X.bts.length k3] 34 (0, 0))) := (HO7.out.other _ hneA).trans A6.out
     have S7 : Hid (w7.heap[sv]? = some (.cells #[.slice (some ⟨gs, 0, none⟩) X.bts.length X.bts.length] 91 (0, 0))) := (HO7.out.other _ hneS).trans S6.out
     have O7 : Hid (RowN w7 M 3 1 ao n cap (rowI (natI (openTo X X.bts.length)))) := O6.out.blk fun q cs fr hq _ => HO7.out.other q (by omega)
     have HR7 : Hid (RowIs w7 88 7 g X.cps.length k2 (cpsV Y.cps)) := HR6.out.blk (HO7.out.other g (fun e => by obtain ⟨_, _, cur, h, _⟩ := HR6.out; rw [e, hcS] at h; cases h))
     have hb7 : Below N w w7 := hb6.trans (HO7.out.below.mono' (by omega))
     have hs7 := HO7.out.size
     have hs7' : w7.heap.size ≤ w6.heap.size := by omega
     have hs7'' : w6.heap.size ≤ w7.heap.size := by omega
     obtain ⟨g3, ea3, _, hr3⟩ := V7.out.rows.bts.some (by rw [HYS.out.2.2.1]; omega)
     have z3 : w7.cell? ⟨g3, at' * 2, none⟩ = some (.string t.name) := hr3.cell (flat_at (c := Bt.cells) (n := 2) (fun _ => rfl) Y.bts at' t 0 (.string t.name) (by rw [HYS.out.2.2.1]; exact HT.out) rfl)
     have hcap3 := hr3.2.1
     rw [HYS.out.2.2.1] at hcap3
     have q0 := blk_cell E7.out 0 rfl
     have e3 : w7.cell? ⟨A, 3, none⟩ = some (.slice (some ⟨g3, 0, none⟩) X.bts.length k3) := by have h := blk_cell A7.out 3 rfl; rw [ea3] at h; exact h
     have HCN : Hid (k < Y.cps.length) := by unfold Hid; rw [HYS.out.2.2.2]; exact hlt
     clear hs7 s0 z0 hcS hr3 ea3 V6 E6 A6 S6 R6 O6 HR6 hb6 HO7 hneE hneA hneS
     go_upto_region 12 with (refine wpList_row_one rfl 9 (.tmp 69) (.tmp 67) rfl g _ (.string t.name) rfl rfl Tryz.infosStrX rfl rfl 88 7 X.cps.length k2 _ HR7.out (by omega) ?_; intro w8 hr on; have HR8 : Hid (RowIs w8 88 7 g X.cps.length k2 (cpsV (Y.cps.set k { c with berth := t.name }))) := (by have h := hr.out; rw [show splice (cpsV Y.cps) (k * 7 + 6) [.string t.name] = cpsV (Y.cps.set k { c with berth := t.name }) from flat_splice_one (c := Cp.cells) (n := 7) (fun _ => rfl) Y.cps k 6 c { c with berth := t.name } _ HC.out (by omega) rfl] at h; exact h); have HO8 : Hid (Only g w7 w8) := on; clear hr on)
     obtain ⟨curC, hcC⟩ : ∃ cur, w7.heap[g]? = some (.cells cur 88 (0, 0)) := by obtain ⟨_, _, cur, h, _⟩ := HR7.out; exact ⟨cur, h⟩
     have hneE : w.heap.size ≠ g := fun e => by rw [← e, E7.out] at hcC; cases hcC
     have hneA : A ≠ g := fun e => by rw [← e, A7.out] at hcC; cases hcC
     have hneS : sv ≠ g := fun e => by rw [← e, S7.out] at hcC; cases hcC
     have hneG : gs ≠ g := fun e => by obtain ⟨_, _, cur, h, _⟩ := R7.out; rw [e, hcC] at h; cases h
     have E8 : Hid (w8.heap[w.heap.size]? = some (.cells #[.pointer (some ⟨A, 0, none⟩)] 162 (0, 0))) := (HO8.out.other _ hneE).trans E7.out
     have A8 : Hid (w8.heap[A]? = some (.cells #[.int .i64 X.now, .slice a1 X.svcs.length k1, .slice a2 X.cps.length k2, .slice a3 X.bts.length k3] 34 (0, 0))) := (HO8.out.other _ hneA).trans A7.out
     have S8 : Hid (w8.heap[sv]? = some (.cells #[.slice (some ⟨gs, 0, none⟩) X.bts.length X.bts.length] 91 (0, 0))) := (HO8.out.other _ hneS).trans S7.out
     have R8 : Hid (RowIs w8 3 1 gs X.bts.length X.bts.length (rowI ((standL Y X.cps.length).set at' (x + 1)))) := R7.out.blk (HO8.out.other _ hneG)
     have O8 : Hid (RowN w8 M 3 1 ao n cap (rowI (natI (openTo X X.bts.length)))) := O7.out.only HO8.out hcC (by decide)
     have HRO8 : Hid (RowOnly a2 N w7 w8) := ⟨fun q _ hne => HO8.out.other q (fun e => hne (by rw [HEA.out, e])), by have := HO8.out.size; omega, HO8.out.below.mono' hNg⟩
     have q0' := blk_cell E8.out 0 rfl
     clear q0 e3 z3 S7 R7 O7 E7 A7 HR7
     go_wp2_with fail
     refine (turn_any X.now 2 A g k X.cps.length k2 (.slice a1 X.svcs.length k1) (.slice a2 X.cps.length k2) (.slice a3 X.bts.length k3) (Y.cps.set k { c with berth := t.name }) { c with berth := t.name } w8 A8.out HR8.out (by rw [List.length_set]; exact HYS.out.2.2.2) (List.getElem?_set_self HCN.out)).mono ?_
     rintro e w9 ⟨rfl, hr9, hkp9, hb9⟩
     have HKP : Hid _ := hkp9
     have R9 : Hid (RowIs w9 88 7 g X.cps.length k2 (cpsV (Y.cps.set k { c with state := 2, berth := t.name, version := X.now }))) := by have h := hr9; rw [List.set_set] at h; exact h
     have hs9 := hb9.size
     have HRO9 : Hid (RowOnly a2 N w7 w9) := ⟨fun q hq hne => (HKP.out q (by have := HRO8.out.size; omega) (fun e => hne (by rw [HEA.out, e]))).trans (HRO8.out.block q hq hne), Nat.le_trans HRO8.out.size hs9, HRO8.out.below.trans (hb9.mono' hNg)⟩
     have hs8 : w7.heap.size ≤ w8.heap.size := HRO8.out.size
     have E9 : Hid (w9.heap[w.heap.size]? = some (.cells #[.pointer (some ⟨A, 0, none⟩)] 162 (0, 0))) := (HKP.out _ (Array.getElem?_eq_some_iff.1 E8.out).1 hneE).trans E8.out
     have S9 : Hid (w9.heap[sv]? = some (.cells #[.slice (some ⟨gs, 0, none⟩) X.bts.length X.bts.length] 91 (0, 0))) := (HKP.out _ (Array.getElem?_eq_some_iff.1 S8.out).1 hneS).trans S8.out
     have R9s : Hid (RowIs w9 3 1 gs X.bts.length X.bts.length (rowI (standL { Y with cps := Y.cps.set k { c with state := 2, berth := t.name, version := X.now } } X.cps.length))) := by unfold Hid; rw [HSL.out]; exact R8.out.blk (HKP.out _ R8.out.lt hneG)
     have O9 : Hid (RowN w9 M 3 1 ao n cap (rowI (natI (openTo X X.bts.length)))) := O8.out.blk fun q cs fr _ hq => HKP.out q (Array.getElem?_eq_some_iff.1 hq).1 (fun e => by obtain ⟨_, _, cur, h, _⟩ := HR8.out; rw [e, h] at hq; cases hq)
     have V9 : Hid (BkVar w9 N A { Y with cps := Y.cps.set k { c with state := 2, berth := t.name, version := X.now } } a1 a2 a3 k1 k2 k3) := by
      have hB := V7.out.rows
      refine ⟨V7.out.lo, ?_, hB.svcs.rowOnly HRO9.out hB.cps (by decide), ?_, hB.bts.rowOnly HRO9.out hB.cps (by decide)⟩
      ·have h := (HRO9.out.block A (Array.getElem?_eq_some_iff.1 V7.out.box).1 (fun e => hneA (by rw [HEA.out] at e; cases e; rfl))).trans V7.out.box
       simpa using h
      ·exact .inr ⟨g, HEA.out, hNg, by have h := R9.out; rw [← HYS.out.2.2.2] at h; simpa using h⟩
     have hb9N : Below N w w9 := hb7.trans HRO9.out.below
     clear hkp9 hr9 q0' hb9 HKP HRO8 HRO9 V7 E8 A8 S8 R8 O8 HR8 HO8 hcC R9
     go_wp2
     go_roundw
     case rel => exact ⟨k + 1, by omega, by go_num, E9, by unfold Hid; rw [HY1.out]; exact V9.out, S9, by unfold Hid; rw [HY1.out]; exact R9s.out, O9, hb9N⟩
     case measure => simp [intOf]; omega
    ·rw [show decide (0 < n) = false by simp [hn0]] at hcall
     have HO0 : Hid (openTo X X.bts.length = []) := List.length_eq_zero_iff.1 (by rw [HOL.out]; omega)
     have HYE : Hid (placeTo X X.now X.cps.length = Y) := by unfold Hid; rw [← HY.out, placeTo_none hP X.now HO0.out, placeTo_none hP X.now HO0.out]
     go_wp2_with fail
     refine hcall.mono ?_
     clear hcall
     rintro e w6 ⟨rfl, hbq⟩
     have V6 := hidBkVar (V5.out.below hbq)
     have hb6 : Below N w w6 := hb5.trans (hbq.mono' (by have := hb5.size; omega))
     clear q0 e2 hbq
     go_wp2
     exact bodyPost_ret (v := .tuple #[]) (by simp [results, Tryz.results145, go_sem]) rfl ⟨rfl, by rw [HYE.out]; exact V6.out, hb6⟩
   ·have hs1 : (c.state != 1) = true := by simpa using hst
    have HY1 : Hid (placeTo X X.now (k + 1) = Y) := by unfold Hid; rw [placeTo_succ, HY.out]; exact placeAt_still HC.out hst
    clear hst
    go_wp2
    go_roundw
    case rel => exact ⟨k + 1, by omega, by go_num, E5, by unfold Hid; rw [HY1.out]; exact V5.out, S5, by unfold Hid; rw [HY1.out]; exact R5.out, O5, hb5⟩
    case measure => simp [intOf]; omega
  ·have HKE : Hid (k = X.cps.length) := by unfold Hid; omega
   go_wp2
   exact Go.Great.bodyPost_end0 rfl rfl ⟨rfl, by rw [← HKE.out, HY.out]; exact V5.out, hb5⟩
end Go.Proofs.YtbceafpodamnfabGreat

namespace Go.Proofs.YtbceafpodamnfabGreat
open Go.RowKit
section
variable {P : Program}
theorem zeroCells_one {z : Array Value} (h : ∀ u ∈ z, u.oneCell' = true) (n : Nat) : ∀ u ∈ (Builtin.zeroCells z n).toList, u.oneCell' = true := fun u hu => by
 unfold Builtin.zeroCells at hu
 rw [Array.mem_toList_iff, Array.mem_map] at hu
 obtain ⟨i, hi, rfl⟩ := hu
 have hlt : i < n * z.size := by simpa using hi
 have hp : 0 < z.size := by
  rcases Nat.eq_zero_or_pos z.size with h0 | h0
  ·rw [h0] at hlt; simp at hlt
  ·exact h0
 have hm := Nat.mod_lt i hp
 rw [getElem!_pos z _ hm]
 exact h _ (Array.getElem_mem hm)
theorem wpList_clear_k {ops : Array Oper} {rest : List Oper} {o : Oper} {a : Act} {w : World} {Q : Exit → Act → World → Prop} (hgd : o.guard = none) (x : Operand) (t : TypeId)
  (ho : o.op = .call { callee := .builtin .clear, args := #[x], argTypes := #[t] }) (e : TypeId) (z : Value) (size bytes : Nat) (ht : P.underlying t = some (.slice e)) (hinfo : (P.info? e).map (fun i => (i.zero, i.size, i.bytes)) = some (some z, size, bytes)) (hzs : z.cells.size = size) (hz1 : ∀ u ∈ z.cells, u.oneCell' = true)
  (g off m c : Nat) (hx : a.eval x = .slice (some ⟨g, off, none⟩) m c) (cur : Array Value) (ty : TypeId) (hg : w.heap[g]? = some (.cells cur ty (0, 0))) (hfit : m ≠ 0 → off + m * size ≤ cur.size)
  (h : ∀ cur' w', Hid (w'.heap[g]? = some (.cells cur' ty (0, 0))) → Hid (cur'.size = cur.size ∧ ∀ q, (m ≠ 0 → q ≤ off) → cur'.toList.take q = cur.toList.take q) → Only g w w' → wpList P ops Q rest (a.put o.dst (.tuple #[])) w') : wpList P ops Q (o :: rest) a w := by
 obtain ⟨i, hi, hz, hs', hb⟩ := info_parts hinfo
 refine wpList_plain hgd fun K hK => ?_
 by_cases h0 : m = 0
 ·subst h0
  have hr : (Builtin.clear_ #[t] o.type #[.slice (some ⟨g, off, none⟩) 0 c]).run P w = .ok (.tuple #[]) w := by simp [Builtin.clear_, run_underlying ht]
  unfold Oper.wp execOp
  simp only [ho, resolve, invoke, builtin, Sem.run_bind, Sem.run_pure, Result.andThen_ok, List.map_toArray, List.map_cons, List.map_nil, hx, hr]
  exact hK _ _ (h cur w hg ⟨rfl, fun _ _ => rfl⟩ ⟨fun _ _ => rfl, Below.refl _ _, rfl⟩)
 ·have hlen : (Builtin.zeroCells z.cells m).toList.length = m * size := by rw [Array.length_toList, size_zeroCells, hzs]
  have hst := run_storeCells_at P g off ty (Builtin.zeroCells z.cells m).toList 0 cur w hg (by rw [hlen]; simpa using hfit h0) (zeroCells_one hz1 m)
  have hr : (Builtin.clear_ #[t] o.type #[.slice (some ⟨g, off, none⟩) m c]).run P w = .ok (.tuple #[]) (w.setRow g (splice cur.toList off (Builtin.zeroCells z.cells m).toList).toArray) := by
   simp only [Nat.add_zero, List.append_assoc] at hst
   cases m with
   | zero => exact absurd rfl h0
   | succ m => simp [Builtin.clear_, run_underlying ht, zeroValue, typeInfo, hi, hz, hst, splice]
  unfold Oper.wp execOp
  simp only [ho, resolve, invoke, builtin, Sem.run_bind, Sem.run_pure, Result.andThen_ok, List.map_toArray, List.map_cons, List.map_nil, hx, hr]
  have hfl : off + (Builtin.zeroCells z.cells m).toList.length ≤ cur.toList.length := by rw [hlen, Array.length_toList]; exact hfit h0
  refine hK _ _ (h _ _ (setRow_heap w g cur _ ty _ hg) ⟨?_, fun q hq => ?_⟩ (only_setRow w g _))
  ·rw [List.size_toArray, length_splice _ _ _ hfl, Array.length_toList]
  ·show (splice cur.toList off (Builtin.zeroCells z.cells m).toList).take q = _
   unfold splice
   rw [List.take_append_of_le_length (by rw [List.length_take]; have := hq h0; omega), List.take_take, Nat.min_eq_left (hq h0)]
end
end Go.Proofs.YtbceafpodamnfabGreat

namespace Go.Proofs.YtbceafpodamnfabGreat
open Go.RowKit Go.Sort
theorem Tryz.undCpsI : Tryz.prog.underlying 31 = some (.slice (Tryz.prog.elem 31)) := by kernel_rfl
theorem Tryz.infoElemCpI : (Tryz.prog.info? (Tryz.prog.elem 31)).map (·.size) = some 7 := by kernel_rfl
theorem take_set_succ {α : Type} {l : List α} {i : Nat} {x : α} (h : i < l.length) : (l.set i x).take (i + 1) = l.take i ++ [x] := by
 rw [List.take_add_one, List.getElem?_set_self h, List.take_set_of_le (Nat.le_refl _)]
 rfl
set_option maxRecDepth 100000 in
set_option maxHeartbeats 2000000 in
theorem pass1_any (c : Cp) (w : World) : Calls Tryz.prog 143 #[.agg #[.string c.service, .int .i64 c.number, .int .i64 c.version, .int .i64 c.image, .int .i64 c.state, .bool c.ending, .string c.berth]] w fun e w' => e = .returned (.bool c.ending) ∧ Below w.heap.size w w' := by
 obtain ⟨W0, hW0⟩ : ∃ W, w.alloc (.cells #[.string c.service, .int .i64 c.number, .int .i64 c.version, .int .i64 c.image, .int .i64 c.state, .bool c.ending, .string c.berth] 88) = W := ⟨_, rfl⟩
 have hb0 := below_box w (.cells #[.string c.service, .int .i64 c.number, .int .i64 c.version, .int .i64 c.image, .int .i64 c.state, .bool c.ending, .string c.berth] 88)
 have e5 := blk_cell (heap_alloc_new w (.cells #[.string c.service, .int .i64 c.number, .int .i64 c.version, .int .i64 c.image, .int .i64 c.state, .bool c.ending, .string c.berth] 88)) 5 rfl
 rw [hW0] at hb0 e5
 go_enter Tryz.func143, Tryz.ntmps143
 go_upto_region 1 with fail
 clear hW0
 go_wp2
 go_ret
 exact ⟨rfl, hb0⟩
set_option maxRecDepth 100000 in
set_option maxHeartbeats 2000000 in
theorem sink1_any (c : Cp) (nm : ByteArray) (A E : Nat) (w : World) (hE : w.heap[E]? = some (.cells #[.pointer (some ⟨A, 0, none⟩), .string nm] 171 (0, 0))) : Calls Tryz.prog 152 #[.agg #[.string c.service, .int .i64 c.number, .int .i64 c.version, .int .i64 c.image, .int .i64 c.state, .bool c.ending, .string c.berth], .pointer (some ⟨E, 0, none⟩)] w fun e w' => e = .returned (.bool (c.berth.toList == nm.toList)) ∧ Below w.heap.size w w' := by
 obtain ⟨W0, hW0⟩ : ∃ W, w.alloc (.cells #[.string c.service, .int .i64 c.number, .int .i64 c.version, .int .i64 c.image, .int .i64 c.state, .bool c.ending, .string c.berth] 88) = W := ⟨_, rfl⟩
 have hb0 := below_box w (.cells #[.string c.service, .int .i64 c.number, .int .i64 c.version, .int .i64 c.image, .int .i64 c.state, .bool c.ending, .string c.berth] 88)
 have e6 := blk_cell (heap_alloc_new w (.cells #[.string c.service, .int .i64 c.number, .int .i64 c.version, .int .i64 c.image, .int .i64 c.state, .bool c.ending, .string c.berth] 88)) 6 rfl
 rw [hW0] at hb0 e6
 have q1 := blk_cell (below_blk hb0 hE (Array.getElem?_eq_some_iff.1 hE).1) 1 rfl
 go_enter Tryz.func152, Tryz.ntmps152
 go_upto_region 1 with fail
 clear hW0
 go_wp2
 go_ret
 exact ⟨rfl, hb0⟩
set_option maxRecDepth 100000 in
set_option maxHeartbeats 4000000 in
theorem indexE_any (l : List Cp) (ao : Option Addr) (n cap N : Nat) (w : World) (HN : Hid (l.length = n)) (hl : n ≤ 1048576) (hR : RowN w N 88 7 ao n cap (cpsV l)) :
  Calls Tryz.prog 160 #[.slice ao n cap, .func (.func 143) #[] #[]] w fun e w' => ∃ k : Int, e = .returned (.int .i64 k) ∧ ((k = -1 ∧ ∀ c ∈ l, c.ending = false) ∨ ∃ i : Nat, k = i ∧ i < n ∧ (∀ (j : Nat) c, j < i → l[j]? = some c → c.ending = false) ∧ ∃ c, l[i]? = some c ∧ c.ending = true) ∧ Below w.heap.size w w' := by
 have HRN := hidRowN hR
 clear hR
 go_enter Tryz.func160, Tryz.ntmps160
 go_wp2
 go_loopw [8] (fun iv wr => ∃ (i : Nat), i ≤ n ∧ iv = .int .i64 i ∧ Below w.heap.size w wr ∧ Hid (∀ (j : Nat) c, j < i → l[j]? = some c → c.ending = false)) (fun i _ => n - (intOf i).toNat)
 case atStart => exact ⟨0, by omega, rfl, Below.refl _ _, fun j c hj => absurd hj (by omega)⟩
 case round =>
  obtain ⟨i, hi, rfl, hb, HA⟩ := hrel
  by_cases hlt : i < n
  ·obtain ⟨g, ea, hNg, hr⟩ := HRN.out.some (by omega)
   subst ea
   have hgl := hr.lt
   have HR : Hid (RowIs wr 88 7 g n cap (cpsV l)) := hr.below hb hgl
   obtain ⟨c, hc⟩ : ∃ c, l[i]? = some c := ⟨l[i]'(by rw [HN.out]; exact hlt), by rw [List.getElem?_eq_getElem]⟩
   have HC : Hid (l[i]? = some c) := hc
   clear hr hc
   have y0 : wr.cell? ⟨g, i * 7, none⟩ = some (.string c.service) := HR.out.cell (flat_at (c := Cp.cells) (n := 7) (fun _ => rfl) l i c 0 (.string c.service) HC.out rfl)
   have y1 : wr.cell? ⟨g, i * 7 + 1, none⟩ = some (.int .i64 c.number) := HR.out.cell (flat_at (c := Cp.cells) (n := 7) (fun _ => rfl) l i c 1 (.int .i64 c.number) HC.out rfl)
   have y2 : wr.cell? ⟨g, i * 7 + 2, none⟩ = some (.int .i64 c.version) := HR.out.cell (flat_at (c := Cp.cells) (n := 7) (fun _ => rfl) l i c 2 (.int .i64 c.version) HC.out rfl)
   have y3 : wr.cell? ⟨g, i * 7 + 3, none⟩ = some (.int .i64 c.image) := HR.out.cell (flat_at (c := Cp.cells) (n := 7) (fun _ => rfl) l i c 3 (.int .i64 c.image) HC.out rfl)
   have y4 : wr.cell? ⟨g, i * 7 + 4, none⟩ = some (.int .i64 c.state) := HR.out.cell (flat_at (c := Cp.cells) (n := 7) (fun _ => rfl) l i c 4 (.int .i64 c.state) HC.out rfl)
   have y5 : wr.cell? ⟨g, i * 7 + 5, none⟩ = some (.bool c.ending) := HR.out.cell (flat_at (c := Cp.cells) (n := 7) (fun _ => rfl) l i c 5 (.bool c.ending) HC.out rfl)
   have y6 : wr.cell? ⟨g, i * 7 + 6, none⟩ = some (.string c.berth) := HR.out.cell (flat_at (c := Cp.cells) (n := 7) (fun _ => rfl) l i c 6 (.string c.berth) HC.out rfl)
   go_wp2_with fail
   refine (pass1_any c wr).mono ?_
   rintro e w2 ⟨rfl, hbq⟩
   have hb2 := hb.trans (hbq.mono hb.size)
   clear y0 y1 y2 y3 y4 y5 y6 hbq
   cases hp : c.ending
   ·go_wp2
    go_roundw
    case rel => exact ⟨i + 1, by omega, by go_num, hb2, fun j d hj hd => by
     rcases Nat.lt_or_ge j i with h | h
     ·exact HA.out j d h hd
     ·rw [show j = i by omega, HC.out] at hd
      cases hd
      exact hp⟩
    case measure => simp [intOf]; omega
   ·go_wp2
    go_ret
    exact ⟨i, rfl, .inr ⟨i, rfl, hlt, HA.out, c, HC.out, hp⟩, hb2⟩
  ·go_wp2
   go_ret
   exact ⟨-1, rfl, .inl ⟨rfl, fun c hc => by
    obtain ⟨j, hj⟩ := List.getElem?_of_mem hc
    exact HA.out j c (by have := (List.getElem?_eq_some_iff.1 hj).1; rw [HN.out] at this; omega) hj⟩, hb⟩
set_option maxRecDepth 100000 in
set_option maxHeartbeats 16000000 in
theorem deleteE_any (l : List Cp) (ao : Option Addr) (n cap N : Nat) (w : World) (HN : Hid (l.length = n)) (hl : n ≤ 1048576) (hN : N ≤ w.heap.size) (hR : RowN w N 88 7 ao n cap (cpsV l)) :
  Calls Tryz.prog 142 #[.slice ao n cap, .func (.func 143) #[] #[]] w fun e w' => ∃ (bo : Option Addr) (n' k : Nat), e = .returned (.slice bo n' k) ∧ n' = (l.filter fun c => !(c.ending)).length ∧ RowN w' N 88 7 bo n' k (cpsV (l.filter fun c => !(c.ending))) ∧ (∀ q, q < w.heap.size → ao ≠ some ⟨q, 0, none⟩ → w'.heap[q]? = w.heap[q]?) ∧ Below N w w' := by
 have HRN := hidRowN hR
 clear hR
 go_enter Tryz.func142, Tryz.ntmps142
 go_wp2_with fail
 refine (indexE_any l ao n cap N w HN hl HRN.out).mono ?_
 rintro e w1 ⟨k, rfl, hk, hb1⟩
 rcases hk with ⟨rfl, hnone⟩ | ⟨i0, rfl, hi0, hbef, c0, hc0, hp0⟩
 ·have HF : Hid (l.filter (fun c => !(c.ending)) = l) := List.filter_eq_self.2 fun c hc => by rw [hnone c hc]; rfl
  clear hnone
  go_wp2
  go_ret
  exact ⟨ao, n, cap, rfl, by rw [HF.out, HN.out], by rw [HF.out]; exact HRN.out.below hb1, fun q hq _ => hb1.block q hq, hb1.mono' hN⟩
 ·obtain ⟨g, ea, hNg, hr⟩ := HRN.out.some (by omega)
  subst ea
  have hgl := hr.lt
  have hncap := hr.2.1
  have R1 : Hid (RowIs w1 88 7 g n cap (cpsV l)) := hr.below hb1 hgl
  have HF0 : Hid ((l.take (i0 + 1)).filter (fun c => !(c.ending)) = l.take i0) := by
   unfold Hid
   rw [List.take_add_one, hc0, List.filter_append]
   have h1 : (l.take i0).filter (fun c => !(c.ending)) = l.take i0 := List.filter_eq_self.2 fun c hc => by
    obtain ⟨j, hj⟩ := List.getElem?_of_mem hc
    have hji : j < i0 := by have := (List.getElem?_eq_some_iff.1 hj).1; rw [List.length_take] at this; omega
    rw [List.getElem?_take_of_lt hji] at hj
    rw [hbef j c hji hj]; rfl
   have h2 : (some c0).toList.filter (fun c => !(c.ending)) = [] := by
    simp only [Option.toList_some]
    rw [List.filter_cons_of_neg (by simpa using hp0)]
    rfl
   rw [h1, h2, List.append_nil]
  clear hr hbef hc0 hp0 HRN
  go_wp2
  go_loopw [5, 6] (fun iv jv wr => ∃ (i j : Nat) (L : List Cp), i < j ∧ j ≤ n ∧ iv = .int .i64 i ∧ jv = .int .i64 j ∧ Hid (L.length = n) ∧ Hid (L.take i = (l.take j).filter (fun c => !(c.ending))) ∧ Hid (L.drop j = l.drop j) ∧ w.heap.size ≤ wr.heap.size ∧ Hid (∀ q, q < w.heap.size → q ≠ g → wr.heap[q]? = w.heap[q]?) ∧ Below N w wr ∧ Hid (RowIs wr 88 7 g n cap (cpsV L))) (fun _ j _ => n - (intOf j).toNat)
  case atStart => exact ⟨i0, i0 + 1, l, by omega, by omega, rfl, by go_num, HN, HF0.out.symm, rfl, hb1.size, fun q hq _ => hb1.block q hq, hb1.mono' hN, R1⟩
  case round =>
   clear hb1 R1 HF0
   obtain ⟨i, j, L, hij, hjn, rfl, rfl, HLN, HTK, HDP, hsz, HKP, hbN, R2⟩ := hrel
   have hgr := R2.out.lt
   by_cases hlt : j < n
   ·obtain ⟨c, hc⟩ : ∃ c, l[j]? = some c := ⟨l[j]'(by rw [HN.out]; exact hlt), by rw [List.getElem?_eq_getElem]⟩
    have HCL : Hid (l[j]? = some c) := hc
    have HC : Hid (L[j]? = some c) := by
     unfold Hid
     have h : (L.drop j)[0]? = (l.drop j)[0]? := by rw [HDP.out]
     simp only [List.getElem?_drop, Nat.add_zero] at h
     rw [h]; exact hc
    have HTS : Hid ((l.take (j + 1)).filter (fun c => !(c.ending)) = (l.take j).filter (fun c => !(c.ending)) ++ (if (!(c.ending)) = true then [c] else [])) := by unfold Hid; rw [List.take_add_one, hc, List.filter_append]; cases hq : c.ending <;> simp [List.filter, hq]
    have HDS : Hid (L.drop (j + 1) = l.drop (j + 1)) := by unfold Hid; have h := congrArg (List.drop 1) HDP.out; simpa [List.drop_drop, Nat.add_comm] using h
    clear hc
    have y0 : wr.cell? ⟨g, j * 7, none⟩ = some (.string c.service) := R2.out.cell (flat_at (c := Cp.cells) (n := 7) (fun _ => rfl) L j c 0 (.string c.service) HC.out rfl)
    have y1 : wr.cell? ⟨g, j * 7 + 1, none⟩ = some (.int .i64 c.number) := R2.out.cell (flat_at (c := Cp.cells) (n := 7) (fun _ => rfl) L j c 1 (.int .i64 c.number) HC.out rfl)
    have y2 : wr.cell? ⟨g, j * 7 + 2, none⟩ = some (.int .i64 c.version) := R2.out.cell (flat_at (c := Cp.cells) (n := 7) (fun _ => rfl) L j c 2 (.int .i64 c.version) HC.out rfl)
    have y3 : wr.cell? ⟨g, j * 7 + 3, none⟩ = some (.int .i64 c.image) := R2.out.cell (flat_at (c := Cp.cells) (n := 7) (fun _ => rfl) L j c 3 (.int .i64 c.image) HC.out rfl)
    have y4 : wr.cell? ⟨g, j * 7 + 4, none⟩ = some (.int .i64 c.state) := R2.out.cell (flat_at (c := Cp.cells) (n := 7) (fun _ => rfl) L j c 4 (.int .i64 c.state) HC.out rfl)
    have y5 : wr.cell? ⟨g, j * 7 + 5, none⟩ = some (.bool c.ending) := R2.out.cell (flat_at (c := Cp.cells) (n := 7) (fun _ => rfl) L j c 5 (.bool c.ending) HC.out rfl)
    have y6 : wr.cell? ⟨g, j * 7 + 6, none⟩ = some (.string c.berth) := R2.out.cell (flat_at (c := Cp.cells) (n := 7) (fun _ => rfl) L j c 6 (.string c.berth) HC.out rfl)
    obtain ⟨W3, hW3⟩ : ∃ W, wr.alloc (.cells #[.string ⟨#[]⟩, .int .i64 0, .int .i64 0, .int .i64 0, .int .i64 0, .bool false, .string ⟨#[]⟩] 88) = W := ⟨_, rfl⟩
    have hb3 := below_box wr (.cells #[.string ⟨#[]⟩, .int .i64 0, .int .i64 0, .int .i64 0, .int .i64 0, .bool false, .string ⟨#[]⟩] 88)
    obtain ⟨vb, hvb⟩ : ∃ q, wr.heap.size = q := ⟨_, rfl⟩
    have V3 : Hid (W3.heap[vb]? = some (.cells #[.string ⟨#[]⟩, .int .i64 0, .int .i64 0, .int .i64 0, .int .i64 0, .bool false, .string ⟨#[]⟩] 88 (0, 0))) := by unfold Hid; rw [← hW3, ← hvb]; exact heap_alloc_new wr (.cells #[.string ⟨#[]⟩, .int .i64 0, .int .i64 0, .int .i64 0, .int .i64 0, .bool false, .string ⟨#[]⟩] 88)
    rw [hW3] at hb3
    have hvb1 : wr.heap.size ≤ vb := by omega
    have hvb2 : vb ≤ wr.heap.size := by omega
    have hvg : vb ≠ g := by omega
    go_upto_region 8 with (refine wpList_store_only rfl 88 (.tmp 7) (.tmp 25) rfl vb 0 #[.string c.service, .int .i64 c.number, .int .i64 c.version, .int .i64 c.image, .int .i64 c.state, .bool c.ending, .string c.berth] rfl rfl 88 #[.string ⟨#[]⟩, .int .i64 0, .int .i64 0, .int .i64 0, .int .i64 0, .bool false, .string ⟨#[]⟩] V3.out Tryz.infosCpX (Nat.le_of_ble_eq_true rfl) (one_CpX c) ?_; intro w4 hz on; have V4 : Hid (w4.heap[vb]? = some (.cells #[.string c.service, .int .i64 c.number, .int .i64 c.version, .int .i64 c.image, .int .i64 c.state, .bool c.ending, .string c.berth] 88 (0, 0))) := hz; have hb4 := hb3.trans (on.below.mono' hvb1); clear hz on)
    clear hW3 hvb y0 y1 y2 y3 y4 y5 y6 V3 hb3
    have R4 : Hid (RowIs w4 88 7 g n cap (cpsV L)) := R2.out.below hb4 hgr
    have HK4 : Hid (∀ q, q < w.heap.size → q ≠ g → w4.heap[q]? = w.heap[q]?) := fun q hq hne => (hb4.block q (by omega)).trans (HKP.out q hq hne)
    have hv4 := (Array.getElem?_eq_some_iff.1 V4.out).1
    go_wp2_with (refine wpList_load_row rfl 88 (.tmp 7) rfl vb rfl 88 #[.string c.service, .int .i64 c.number, .int .i64 c.version, .int .i64 c.image, .int .i64 c.state, .bool c.ending, .string c.berth] (0, 0) _ V4.out Tryz.underlying88 rfl Tryz.infosCpX ?_)
    refine (pass1_any c w4).mono ?_
    rintro e w5 ⟨he, hbq⟩
    obtain ⟨pb, hpb⟩ : ∃ pb, c.ending = pb := ⟨_, rfl⟩
    rw [hpb] at he
    subst he
    have HPB : Hid (c.ending = pb) := hpb
    clear hpb
    have hb5 := hb4.trans (hbq.mono' (by have := hb4.size; omega))
    have V5 : Hid (w5.heap[vb]? = some (.cells #[.string c.service, .int .i64 c.number, .int .i64 c.version, .int .i64 c.image, .int .i64 c.state, .bool c.ending, .string c.berth] 88 (0, 0))) := below_blk hbq V4.out hv4
    have R5 : Hid (RowIs w5 88 7 g n cap (cpsV L)) := R4.out.below hbq R4.out.lt
    have HK5 : Hid (∀ q, q < w.heap.size → q ≠ g → w5.heap[q]? = w.heap[q]?) := fun q hq hne => (hbq.block q (by have := hb4.size; omega)).trans (HK4.out q hq hne)
    have hb5N : Below N w w5 := hbN.trans (hb5.mono' (by omega))
    have hs5 : w.heap.size ≤ w5.heap.size := hb5N.size
    clear hbq hb4 V4 R4 HK4 hbN HKP R2 hb5
    cases pb
    ·have HTS1 : Hid ((l.take (j + 1)).filter (fun c => !(c.ending)) = (l.take j).filter (fun c => !(c.ending)) ++ [c]) := by unfold Hid; rw [HTS.out, HPB.out]; rfl
     have hfi : i * 7 + 7 ≤ n * 7 := by omega
     go_wp2_with (first
      | (refine wpList_load_row rfl 88 (.tmp 7) rfl vb rfl 88 #[.string c.service, .int .i64 c.number, .int .i64 c.version, .int .i64 c.image, .int .i64 c.state, .bool c.ending, .string c.berth] (0, 0) _ V5.out Tryz.underlying88 rfl Tryz.infosCpX ?_)
      | (refine wpList_row_only rfl 88 (.tmp 33) (.tmp 32) rfl g (i * 7) #[.string c.service, .int .i64 c.number, .int .i64 c.version, .int .i64 c.image, .int .i64 c.state, .bool c.ending, .string c.berth] rfl rfl Tryz.infosCpX (one_CpX c) 88 7 n cap _ R5.out (by show i * 7 + 7 ≤ n * 7; omega) ?_; intro w6 hr on; have R6 : Hid (RowIs w6 88 7 g n cap (cpsV (L.set i c))) := (by have h := hr.out; rw [show splice (cpsV L) (i * 7) (#[.string c.service, .int .i64 c.number, .int .i64 c.version, .int .i64 c.image, .int .i64 c.state, .bool c.ending, .string c.berth] : Array Value).toList = cpsV (L.set i c) from flat_splice (c := Cp.cells) (n := 7) (fun _ => rfl) L i c (by rw [HLN.out]; omega)] at h; exact h); have HON : Hid (Only g w5 w6) := on; clear hr on))
     go_roundw
     case rel => exact ⟨_, _, _, _, _, _, _, _, _, _, _, _, _, _, _, _, _, _, _, _, _, _, _, ⟨i + 1, j + 1, L.set i c, by omega, by omega, by go_num, by go_num, by unfold Hid; rw [List.length_set]; exact HLN.out, by unfold Hid; rw [HTS1.out, ← HTK.out]; exact take_set_succ (by rw [HLN.out]; omega), by unfold Hid; rw [List.drop_set_of_lt (by omega)]; exact HDS.out, by rw [HON.out.size]; exact hs5, fun q hq hne => (HON.out.other q hne).trans (HK5.out q hq hne), hb5N.trans (HON.out.below.mono' hNg), R6⟩, rfl⟩
     case measure => simp [intOf]; omega
    ·have HTS1 : Hid ((l.take (j + 1)).filter (fun c => !(c.ending)) = (l.take j).filter (fun c => !(c.ending))) := by unfold Hid; rw [HTS.out, HPB.out]; simp
     go_wp2
     go_roundw
     case rel => exact ⟨_, _, _, _, _, _, _, _, _, _, _, _, _, _, _, _, _, _, _, _, _, _, _, ⟨i, j + 1, L, by omega, by omega, (by first | rfl | trivial), by go_num, HLN, by unfold Hid; rw [HTS1.out]; exact HTK.out, HDS, hs5, HK5, hb5N, R5⟩, rfl⟩
     case measure => simp [intOf]; omega
   ·have HFE : Hid (L.take i = l.filter (fun c => !(c.ending))) := by unfold Hid; rw [HTK.out, List.take_of_length_le (by rw [HN.out]; omega)]
    obtain ⟨cur, hgc, hcs, htk⟩ := R2.out.2.2
    have HGC : Hid (wr.heap[g]? = some (.cells cur 88 (0, 0))) := hgc
    have HCS : Hid (cur.size = cap * 7 ∧ cur.toList.take (n * 7) = cpsV L) := ⟨hcs, htk⟩
    have hcs' : n * 7 ≤ cur.size := by rw [hcs]; exact Nat.mul_le_mul_right _ hncap
    obtain ⟨m, hm⟩ : ∃ q, n - i = q := ⟨_, rfl⟩
    have hm1 : n ≤ i + m := by omega
    have hm2 : i + m ≤ n := by omega
    clear hgc hcs htk
    go_upto_region 12 with (first
     | (refine wpList_slice_off rfl 31 (.tmp 36) (some (.tmp 37)) none none rfl Tryz.undCpsI 7 Tryz.infoElemCpI g 0 n cap i n cap rfl (some (.int .i64 (i : Int))) none none rfl rfl rfl (fun w => run_slice_l w _ _ _ _ Tryz.undCpsI .i64 (i : Int) (by omega) (by omega)) ?_; intro off hoff; rw [hm]; clear hm)
     | (refine wpList_clear_k rfl (.tmp 38) 31 rfl 88 _ 7 72 Tryz.underlying31 Tryz.infoCpI rfl (by simp [Value.cells, Value.oneCell']) g off m _ rfl cur 88 HGC.out (fun _ => by omega) ?_; intro cur' w3 hg3 hc3 on3; have HON : Hid (Only g wr w3) := on3; clear on3))
    go_wp2
    go_ret
    have hLi : (cpsV L).take (i * 7) = cpsV (L.take i) := (flat_take (c := Cp.cells) (fun _ => rfl) L i).symm
    refine ⟨some ⟨g, 0, none⟩, i, cap, rfl, ?_, .inr ⟨g, rfl, hNg, ?_⟩, fun q hq hne => (HON.out.other q (fun e => hne (by rw [e]))).trans (HKP.out q hq (fun e => hne (by rw [e]))), hbN.trans (HON.out.below.mono' hNg)⟩
    ·rw [← HFE.out, List.length_take, HLN.out]; omega
    ·rw [← HFE.out]
     refine ⟨?_, by omega, cur', hg3.out, by rw [hc3.out.1, HCS.out.1], ?_⟩
     ·rw [cpsV_len, List.length_take, HLN.out, Nat.min_eq_left (by omega)]
     ·rw [hc3.out.2 (i * 7) (fun _ => by omega), ← hLi, ← HCS.out.2, List.take_take, Nat.min_eq_left (Nat.mul_le_mul_right _ (by omega))]
end Go.Proofs.YtbceafpodamnfabGreat
