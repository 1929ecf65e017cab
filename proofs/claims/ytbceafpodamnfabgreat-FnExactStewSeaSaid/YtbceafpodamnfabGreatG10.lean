/-
  My own: Sk, Ib, Lk.
-/
import Derived.Test.YtbceafpodamnfabGreatG02
import Derived.Test.YtbceafpodamnfabGreatG03
import Derived.Test.YtbceafpodamnfabGreatG09
import Derived.Great.Walk
import Derived.Test.YtbceafpodamnfabGreatG05
import Derived.Test.YtbceafpodamnfabGreatG06
import Derived.Laws.CopyOwn
import Derived.Lib.AppendZeros
import Derived.Lib.Overlaps
import Derived.Laws.Externs
set_option linter.unusedVariables false
set_option linter.unusedSimpArgs false
namespace Go.Proofs.YtbceafpodamnfabGreat
open Go.RowKit Go.Sort Go.Maps
def uniqB (B : Bk) : Prop := ∀ (i j : Nat) s t, i < j → B.bts[i]? = some s → B.bts[j]? = some t → s.name ≠ t.name
theorem bts_less {B : Bk} (h : ∀ i, i < B.bts.length → btAtB B i = true) : ∀ (j i : Nat) s t, i < j → B.bts[i]? = some s → B.bts[j]? = some t → Op.bytesLess s.name.toList t.name.toList = true
 | 0, i, _, _, hi, _, _ => absurd hi (by omega)
 | j + 1, i, s, t, hi, hs, ht => by
  have hlt : j + 1 < B.bts.length := (List.getElem?_eq_some_iff.1 ht).1
  obtain ⟨p, hp⟩ : ∃ p, B.bts[j]? = some p := ⟨B.bts[j]'(by omega), by rw [List.getElem?_eq_getElem]⟩
  have h1 : Op.bytesLess p.name.toList t.name.toList = true := by
   have := h (j + 1) hlt
   unfold btAtB at this
   rw [ht] at this
   simp [hp] at this
   exact this.2
  rcases Nat.lt_or_ge i j with h' | h'
  ·exact bytesLess_trans _ _ _ (bts_less h j i s p h' hs hp) h1
  ·have e : i = j := by omega
   subst e
   rw [hp] at hs
   cases hs
   exact h1
theorem uniqB_of {B : Bk} (h : allTo (btAtB B) B.bts.length = true) : uniqB B := fun i j s t hij hs ht e => by
 have h' : ∀ i, i < B.bts.length → btAtB B i = true := fun i hi => by
  unfold allTo at h; exact List.all_eq_true.1 h i (List.mem_range.2 hi)
 have := bts_less h' j i s t hij hs ht
 rw [e, bytesLess_irrefl] at this
 cases this
def PlacesX (w : World) (b : Nat) (B : Bk) (ks kb : Nat) : Prop := ∃ (n : Nat) (D : DataW Unit), n ≤ ks + kb ∧ w.ownsMap Tryz.prog 138 (plainElem Tryz.prog 3) b n D ∧
 (∀ x : ByteArray, x.size ≤ maxLen → (∀ (i : Nat) s, i < ks → B.svcs[i]? = some s → s.name ≠ x) → Maps.has D (key 1 x) = false) ∧
 (∀ (i : Nat) s, i < ks → B.svcs[i]? = some s → Maps.has D (key 1 s.name) = true ∧ D.atKey (key 1 s.name) (.lit (.int .i64 0)) = .lit (.int .i64 i)) ∧
 (∀ x : ByteArray, x.size ≤ maxLen → (∀ (i : Nat) s, i < kb → B.bts[i]? = some s → s.name ≠ x) → Maps.has D (key 2 x) = false) ∧
 (∀ (i : Nat) s, i < kb → B.bts[i]? = some s → Maps.has D (key 2 s.name) = true ∧ D.atKey (key 2 s.name) (.lit (.int .i64 0)) = .lit (.int .i64 i))
theorem PlacesX.blk {w w' : World} {b : Nat} {B : Bk} {ks kb : Nat} (h : PlacesX w b B ks kb) (hb : w'.heap[b]? = w.heap[b]?) : PlacesX w' b B ks kb := by
 obtain ⟨n, D, hn, ⟨es, clock, he, F, hs, hD⟩, r⟩ := h
 exact ⟨n, D, hn, ⟨es, clock, by rw [hb]; exact he, F, hs, hD⟩, r⟩
theorem PlacesX.below {w w' : World} {b N : Nat} {B : Bk} {ks kb : Nat} (h : PlacesX w b B ks kb) (hb : Below N w w') (hN : b < N) : PlacesX w' b B ks kb := h.blk (hb.block b hN)
theorem PlacesX.lt {w : World} {b : Nat} {B : Bk} {ks kb : Nat} (h : PlacesX w b B ks kb) : b < w.heap.size := by
 obtain ⟨n, D, hn, hown, _⟩ := h
 exact hown.lt
theorem PlacesX.start (w : World) (B : Bk) : PlacesX (w.alloc (.map #[] 0)) w.heap.size B 0 0 :=
 ⟨0, .map [], Nat.le_refl _, World.ownsMap_made w _ _ _, fun _ _ _ => rfl, fun i s hi => absurd hi (by omega), fun _ _ _ => rfl, fun i s hi => absurd hi (by omega)⟩
theorem PlacesX.stepS {w' : World} {b : Nat} {B : Bk} {k n : Nat} {D : DataW Unit} {s : Svc} (hz : ∀ s ∈ B.svcs, s.name.size ≤ maxLen) (_hzb : ∀ s ∈ B.bts, s.name.size ≤ maxLen) (hu : uniqS B) (hsk : B.svcs[k]? = some s)
  (hn : n ≤ k + 0) (h1 : ∀ x : ByteArray, x.size ≤ maxLen → (∀ (i : Nat) s, i < k → B.svcs[i]? = some s → s.name ≠ x) → Maps.has D (key 1 x) = false)
  (h2 : ∀ (i : Nat) s, i < k → B.svcs[i]? = some s → Maps.has D (key 1 s.name) = true ∧ D.atKey (key 1 s.name) (.lit (.int .i64 0)) = .lit (.int .i64 i))
  (h3 : ∀ x : ByteArray, x.size ≤ maxLen → (∀ (i : Nat) s, i < 0 → B.bts[i]? = some s → s.name ≠ x) → Maps.has D (key 2 x) = false)
  (hD : IsMap D)
  (hown : w'.ownsMap Tryz.prog 138 (plainElem Tryz.prog 3) b (n + 1) (D.put (key 1 s.name) (.lit (.int .i64 (k : Int))))) : PlacesX w' b B (k + 1) 0 := by
 have hss := hz s (List.mem_of_getElem? hsk)
 refine ⟨n + 1, _, by omega, hown, fun x hx hno => ?_, fun i t hi ht => ?_, fun x hx hno => ?_, fun i t hi => absurd hi (by omega)⟩
 ·rw [has_put_other (key_ne_name wf1 hx hss (fun e => hno k s (by omega) hsk e.symm))]
  exact h1 x hx fun i t hi ht => hno i t (by omega) ht
 ·rcases Nat.lt_or_ge i k with h' | h'
  ·have hts := hz t (List.mem_of_getElem? ht)
   have hne := key_ne_name wf1 hts hss (hu i k t s h' ht hsk)
   rw [has_put_other hne, atKey_put_other hne]
   exact h2 i t h' ht
  ·have e : i = k := by omega
   subst e
   rw [hsk] at ht
   cases ht
   exact ⟨has_put_same hD (key_isKey _ _) _, atKey_put_same hD (key_isKey _ _) _ _⟩
 ·rw [has_put_other (fun e => key_ne_kind hss hx e.symm)]
  exact h3 x hx fun i t hi => absurd hi (by omega)
theorem PlacesX.stepB {w' : World} {b : Nat} {B : Bk} {ks k n : Nat} {D : DataW Unit} {s : Bt} (hz : ∀ s ∈ B.svcs, s.name.size ≤ maxLen) (hzb : ∀ s ∈ B.bts, s.name.size ≤ maxLen) (hub : uniqB B) (hsk : B.bts[k]? = some s)
  (hn : n ≤ ks + k) (h1 : ∀ x : ByteArray, x.size ≤ maxLen → (∀ (i : Nat) s, i < ks → B.svcs[i]? = some s → s.name ≠ x) → Maps.has D (key 1 x) = false)
  (h2 : ∀ (i : Nat) s, i < ks → B.svcs[i]? = some s → Maps.has D (key 1 s.name) = true ∧ D.atKey (key 1 s.name) (.lit (.int .i64 0)) = .lit (.int .i64 i))
  (h3 : ∀ x : ByteArray, x.size ≤ maxLen → (∀ (i : Nat) s, i < k → B.bts[i]? = some s → s.name ≠ x) → Maps.has D (key 2 x) = false)
  (h4 : ∀ (i : Nat) s, i < k → B.bts[i]? = some s → Maps.has D (key 2 s.name) = true ∧ D.atKey (key 2 s.name) (.lit (.int .i64 0)) = .lit (.int .i64 i))
  (hD : IsMap D)
  (hown : w'.ownsMap Tryz.prog 138 (plainElem Tryz.prog 3) b (n + 1) (D.put (key 2 s.name) (.lit (.int .i64 (k : Int))))) : PlacesX w' b B ks (k + 1) := by
 have hss := hzb s (List.mem_of_getElem? hsk)
 refine ⟨n + 1, _, by omega, hown, fun x hx hno => ?_, fun i t hi ht => ?_, fun x hx hno => ?_, fun i t hi ht => ?_⟩
 ·rw [has_put_other (key_ne_kind hx hss)]
  exact h1 x hx hno
 ·have hts := hz t (List.mem_of_getElem? ht)
  rw [has_put_other (key_ne_kind hts hss), atKey_put_other (key_ne_kind hts hss)]
  exact h2 i t hi ht
 ·rw [has_put_other (key_ne_name wf2 hx hss (fun e => hno k s (by omega) hsk e.symm))]
  exact h3 x hx fun i t hi ht => hno i t (by omega) ht
 ·rcases Nat.lt_or_ge i k with h' | h'
  ·have hts := hzb t (List.mem_of_getElem? ht)
   have hne := key_ne_name wf2 hts hss (hub i k t s h' ht hsk)
   rw [has_put_other hne, atKey_put_other hne]
   exact h4 i t h' ht
  ·have e : i = k := by omega
   subst e
   rw [hsk] at ht
   cases ht
   exact ⟨has_put_same hD (key_isKey _ _) _, atKey_put_same hD (key_isKey _ _) _ _⟩
set_option maxHeartbeats 4000000 in
theorem placesIn_x (B : Bk) (a1 a2 a3 : Option Addr) (c1 c2 c3 : Nat) (w : World) (hS : B.small) (hZ : B.sized) (hU : uniqS B) (hUB : uniqB B) (hB : BkAt w a1 a2 a3 B) :
  Calls Tryz.prog 71 #[.agg #[.int .i64 B.now, .slice a1 B.svcs.length c1, .slice a2 B.cps.length c2, .slice a3 B.bts.length c3]] w fun e w' => e = .returned (.map (some (w.heap.size + 1))) ∧ PlacesX w' (w.heap.size + 1) B B.svcs.length B.bts.length ∧ Below w.heap.size w w' := by
 obtain ⟨hl1, hl2, hl3⟩ := hS
 have hmm := run_makeMap_n
 obtain ⟨t0, t1, t2⟩ := two_new w (.cells #[.int .i64 B.now, .slice a1 B.svcs.length c1, .slice a2 B.cps.length c2, .slice a3 B.bts.length c3] 34) (.map #[] 0)
 have T0 : Hid _ := t0
 have T1 : Hid (PlacesX ((w.alloc (.cells #[.int .i64 B.now, .slice a1 B.svcs.length c1, .slice a2 B.cps.length c2, .slice a3 B.bts.length c3] 34)).alloc (.map #[] 0)) (w.heap.size + 1) B 0 0) := by
  have := PlacesX.start (w.alloc (.cells #[.int .i64 B.now, .slice a1 B.svcs.length c1, .slice a2 B.cps.length c2, .slice a3 B.bts.length c3] 34)) B
  have e : (w.alloc (.cells #[.int .i64 B.now, .slice a1 B.svcs.length c1, .slice a2 B.cps.length c2, .slice a3 B.bts.length c3] 34)).heap.size = w.heap.size + 1 := by show (w.heap.push _).size = _; simp
  rw [e] at this
  exact this
 clear t0 t1 t2
 go_enter Tryz.func71, Tryz.ntmps71
 go_wp2
 clear hmm
 go_loopw [19] (fun iv wr => ∃ k : Nat, k ≤ B.svcs.length ∧ iv = .int .i64 k ∧ Below w.heap.size w wr ∧ Hid (wr.heap[w.heap.size]? = some (.cells #[.int .i64 B.now, .slice a1 B.svcs.length c1, .slice a2 B.cps.length c2, .slice a3 B.bts.length c3] 34 (0, 0))) ∧ Hid (PlacesX wr (w.heap.size + 1) B k 0)) (fun i _ => B.svcs.length - (intOf i).toNat)
 case atStart => exact ⟨0, by omega, rfl, ((Below.refl _ _).alloc (Nat.le_refl _) _).alloc (by simp) _, T0, T1⟩
 case round =>
  obtain ⟨k, hk, rfl, hb, hbox, hpl⟩ := hrel
  have hNlt : w.heap.size + 1 < wr.heap.size := hpl.out.lt
  by_cases hlt : k < B.svcs.length
  ·have hne : B.svcs ≠ [] := by intro h; rw [h] at hlt; simp at hlt
   obtain ⟨b, off, ea, hbs, hat⟩ := hB.1 hne
   subst ea
   obtain ⟨s, hsk⟩ : ∃ s, B.svcs[k]? = some s := ⟨B.svcs[k], by simp [hlt]⟩
   have hmem := hZ.2.2.2.1 s (List.mem_of_getElem? hsk)
   have HSK : Hid _ := hsk
   have hcs := (hat k s hsk).below hb hbs
   unfold SvcAt at hcs
   obtain ⟨x0, x1, x2, x3, x4, x5, x6, x7, x8, x9, x10, x11, x12⟩ := hcs
   obtain ⟨n, D, hn, hown, h1, h2, h3, h4⟩ := hpl.out
   have H1 : Hid _ := h1
   have H2 : Hid _ := h2
   have H3 : Hid _ := h3
   have hnn : n < maxLen := by unfold maxLen; omega
   clear hsk hat hne h1 h2 h3 h4
   go_wp2_with (at_mapUpdate; refine wpList_mapUpdate_own _ rfl (.tmp 24) (.tmp 27) (.tmp 28) 104 rfl 138 3 thingLaw Tryz.underlying104 (plainElem Tryz.prog 3) (w.heap.size + 1) n D rfl (hown.alloc _) hnn _ _ _ rfl rfl (key_ok 1 s.name wf1 hmem) _ [] (plainElem_int Tryz.underlying3 (WalkArith.wf_i64 (by omega))) ?_; intro w1 hown1 hgrow1)
   have hsz : (wr.alloc (.cells #[.string s.name, .int .i64 s.version, .bool s.gone, .int .i64 s.image, .int .i64 s.want, .int .i64 s.down, .int .i64 s.over, .int .i64 s.next, .int .i64 s.per, .int .i64 s.least, .int .i64 s.most, .int .i64 s.load, .int .i64 s.cool] 48)).heap.size = wr.heap.size + 1 := by show (wr.heap.push _).size = _; simp
   have hb1 : Below w.heap.size w w1 := (hb.alloc hb.size _).grown hgrow1 (by rw [hsz]; omega) (fun j hj => by cases hj; omega)
   have hbox1 : Hid _ := (hgrow1.block w.heap.size (by rw [hsz]; omega) (fun e => by have := Option.some.inj e; omega)).trans (below_blk (below_box wr (.cells #[.string s.name, .int .i64 s.version, .bool s.gone, .int .i64 s.image, .int .i64 s.want, .int .i64 s.down, .int .i64 s.over, .int .i64 s.next, .int .i64 s.per, .int .i64 s.least, .int .i64 s.most, .int .i64 s.load, .int .i64 s.cool] 48)) hbox.out (by omega))
   have hpl1 : Hid _ := PlacesX.stepS hZ.2.2.2.1 hZ.2.2.2.2.2 hU HSK.out hn H1.out H2.out H3.out hown.isMap hown1
   go_roundw
   case rel => exact ⟨k + 1, by omega, by go_num, hb1, hbox1, hpl1⟩
   case measure => simp [intOf]; omega
  ·have hkl : k = B.svcs.length := by omega
   subst hkl
   have e3 := blk_cell hbox.out 3 rfl
   go_wp2
   clear e3
   go_loopw [33] (fun iv wr => ∃ k : Nat, k ≤ B.bts.length ∧ iv = .int .i64 k ∧ Below w.heap.size w wr ∧ Hid (wr.heap[w.heap.size]? = some (.cells #[.int .i64 B.now, .slice a1 B.svcs.length c1, .slice a2 B.cps.length c2, .slice a3 B.bts.length c3] 34 (0, 0))) ∧ Hid (PlacesX wr (w.heap.size + 1) B B.svcs.length k)) (fun i _ => B.bts.length - (intOf i).toNat)
   case atStart => exact ⟨0, by omega, rfl, hb, hbox, hpl⟩
   case round =>
    clear hb hbox hpl hNlt hlt
    rename_i wr0 _
    obtain ⟨k, hk, rfl, hb, hbox, hpl⟩ := hrel
    have hNlt : w.heap.size + 1 < wr.heap.size := hpl.out.lt
    by_cases hlt : k < B.bts.length
    ·have hne : B.bts ≠ [] := by intro h; rw [h] at hlt; simp at hlt
     obtain ⟨b, off, ea, hbs, hat⟩ := hB.2.2 hne
     subst ea
     obtain ⟨s, hsk⟩ : ∃ s, B.bts[k]? = some s := ⟨B.bts[k], by simp [hlt]⟩
     have hmem := hZ.2.2.2.2.2 s (List.mem_of_getElem? hsk)
     have HSK : Hid _ := hsk
     have hcs := (hat k s hsk).below hb hbs
     unfold BtAt at hcs
     obtain ⟨x0, x1⟩ := hcs
     obtain ⟨n, D, hn, hown, h1, h2, h3, h4⟩ := hpl.out
     have H1 : Hid _ := h1
     have H2 : Hid _ := h2
     have H3 : Hid _ := h3
     have H4 : Hid _ := h4
     have hnn : n < maxLen := by unfold maxLen; omega
     clear hsk hat hne h1 h2 h3 h4
     go_wp2_with (at_mapUpdate; refine wpList_mapUpdate_own _ rfl (.tmp 38) (.tmp 41) (.tmp 42) 104 rfl 138 3 thingLaw Tryz.underlying104 (plainElem Tryz.prog 3) (w.heap.size + 1) n D rfl (hown.alloc _) hnn _ _ _ rfl rfl (key_ok 2 s.name wf2 hmem) _ [] (plainElem_int Tryz.underlying3 (WalkArith.wf_i64 (by omega))) ?_; intro w1 hown1 hgrow1)
     have hsz : (wr.alloc (.cells #[.string s.name, .bool s.drain] 86)).heap.size = wr.heap.size + 1 := by show (wr.heap.push _).size = _; simp
     have hb1 : Below w.heap.size w w1 := (hb.alloc hb.size _).grown hgrow1 (by rw [hsz]; omega) (fun j hj => by cases hj; omega)
     have hbox1 : Hid _ := (hgrow1.block w.heap.size (by rw [hsz]; omega) (fun e => by have := Option.some.inj e; omega)).trans (below_blk (below_box wr (.cells #[.string s.name, .bool s.drain] 86)) hbox.out (by omega))
     have hpl1 : Hid _ := PlacesX.stepB hZ.2.2.2.1 hZ.2.2.2.2.2 hUB HSK.out hn H1.out H2.out H3.out H4.out hown.isMap hown1
     go_roundw
     case rel => exact ⟨k + 1, by omega, by go_num, hb1, hbox1, hpl1⟩
     case measure => simp [intOf]; omega
    ·go_wp2
     go_ret
     have hkl : k = B.bts.length := by omega
     subst hkl
     exact ⟨rfl, hpl.out, hb⟩
end Go.Proofs.YtbceafpodamnfabGreat

namespace Go.Proofs.YtbceafpodamnfabGreat
open Go.RowKit Go.Sort Go.Maps
def fstI {α : Type} (o : Option (Nat × α)) : Int := match o with | some p => (p.1 : Int) | none => 0
theorem atIdx_no {α : Type} {p : α → Bool} {l : List α} (h : atIdx p l = none) : ∀ x ∈ l, p x ≠ true := fun x hx hp => by
 have := atIdx_none h
 have h2 := idxOf_ge p l
 rw [this] at h2
 have h3 : l.any p = true := List.any_eq_true.2 ⟨x, hx, hp⟩
 rw [h3] at h2
 simp at h2
set_option maxRecDepth 100000 in
set_option maxHeartbeats 4000000 in
theorem find1_any (B : Bk) (nm : ByteArray) (A : Nat) (a1 a2 a3 : Option Addr) (c1 c2 c3 : Nat) (w : World) (hS : B.small) (hZ : B.sized) (hU : uniqS B) (hUB : uniqB B) (hnm : nm.size ≤ maxLen) (hA : w.heap[A]? = some (.cells #[.int .i64 B.now, .slice a1 B.svcs.length c1, .slice a2 B.cps.length c2, .slice a3 B.bts.length c3] 34 (0, 0))) (hB : BkAt w a1 a2 a3 B) :
  Calls Tryz.prog 146 #[.agg #[.pointer (some ⟨A, 0, none⟩)], .int .i64 1, .string nm] w fun e w' => e = .returned (.tuple #[.int .i64 (fstI (atIdx (fun t : Svc => t.name.toList == nm.toList) B.svcs)), .bool (atIdx (fun t : Svc => t.name.toList == nm.toList) B.svcs).isSome]) ∧ Below w.heap.size w w' := by
 have hAl := (Array.getElem?_eq_some_iff.1 hA).1
 obtain ⟨W0, hW0⟩ : ∃ W, w.alloc (.cells #[.pointer (some ⟨A, 0, none⟩)] 128) = W := ⟨_, rfl⟩
 have hb0 := below_box w (.cells #[.pointer (some ⟨A, 0, none⟩)] 128)
 have T0 : Hid _ := heap_alloc_new w (.cells #[.pointer (some ⟨A, 0, none⟩)] 128)
 rw [hW0] at hb0 T0
 have A0 : Hid _ := below_blk hb0 hA hAl
 have hz0 := (Array.getElem?_eq_some_iff.1 T0.out).1
 have q0 := blk_cell T0.out 0 rfl
 have e0 := blk_cell A0.out 0 rfl
 have e1 := blk_cell A0.out 1 rfl
 have e2 := blk_cell A0.out 2 rfl
 have e3 := blk_cell A0.out 3 rfl
 clear hA
 go_enter Tryz.func146, Tryz.ntmps146
 go_upto_region 1 with fail
 clear hW0
 go_wp2_with fail
 refine (placesIn_x B a1 a2 a3 c1 c2 c3 W0 hS hZ hU hUB (hB.below hb0)).mono ?_
 rintro e w1 ⟨rfl, hpl, hbq⟩
 have hb1 := hb0.trans (hbq.mono hb0.size)
 obtain ⟨n, D, hn, hown, q1, q2, q3, q4⟩ := hpl
 have H1 : Hid _ := q1
 have H2 : Hid _ := q2
 have H3 : Hid _ := q3
 have H4 : Hid _ := q4
 clear q1 q2 q3 q4 e0 e1 e2 e3 q0 hbq
 cases hat : atIdx (fun t : Svc => t.name.toList == nm.toList) B.svcs with
 | none =>
  have HH : Hid (Maps.has D (key 1 nm) = false) := H1.out nm hnm fun i s _ hs e => atIdx_no hat s (List.mem_of_getElem? hs) (same_name.2 e)
  have HAK : Hid (D.atKey (key 1 nm) (.lit (.int .i64 0)) = .lit (.int .i64 0)) := atKey_of_not_has HH.out _
  have HAT : Hid _ := hat
  clear hat
  go_wp2_with (at_lookup; refine wpList_lookup_is _ rfl (.tmp 15) (.tmp 18) 104 rfl 138 3 .i64 thingLaw Tryz.underlying104 Tryz.underlying3 (zeroInt _) (W0.heap.size + 1) n D rfl hown _ _ rfl (key_ok 1 nm wf1 hnm) 0 false HAK.out HH.out ?_)
  exact bodyPost_ret (v := .tuple #[.int .i64 0, .bool false]) (by simp [results, Tryz.results146, go_sem]) rfl ⟨by rw [HAT.out]; rfl, hb1⟩
 | some p =>
  obtain ⟨i, t⟩ := p
  obtain ⟨_, hi, hp⟩ := atIdx_some hat
  have hil := (List.getElem?_eq_some_iff.1 hi).1
  have hnm' : t.name = nm := same_name.1 hp
  have h4' := H2.out i t hil hi
  rw [hnm'] at h4'
  have HH : Hid (Maps.has D (key 1 nm) = true) := h4'.1
  have HAK : Hid (D.atKey (key 1 nm) (.lit (.int .i64 0)) = .lit (.int .i64 (i : Int))) := h4'.2
  have HAT : Hid _ := hat
  clear hat hi hp hil hnm' h4'
  go_wp2_with (at_lookup; refine wpList_lookup_is _ rfl (.tmp 15) (.tmp 18) 104 rfl 138 3 .i64 thingLaw Tryz.underlying104 Tryz.underlying3 (zeroInt _) (W0.heap.size + 1) n D rfl hown _ _ rfl (key_ok 1 nm wf1 hnm) (i : Int) true HAK.out HH.out ?_)
  exact bodyPost_ret (v := .tuple #[.int .i64 i, .bool true]) (by simp [results, Tryz.results146, go_sem]) rfl ⟨by rw [HAT.out]; rfl, hb1⟩
set_option maxRecDepth 100000 in
set_option maxHeartbeats 4000000 in
theorem find2_any (B : Bk) (nm : ByteArray) (A : Nat) (a1 a2 a3 : Option Addr) (c1 c2 c3 : Nat) (w : World) (hS : B.small) (hZ : B.sized) (hU : uniqS B) (hUB : uniqB B) (hnm : nm.size ≤ maxLen) (hA : w.heap[A]? = some (.cells #[.int .i64 B.now, .slice a1 B.svcs.length c1, .slice a2 B.cps.length c2, .slice a3 B.bts.length c3] 34 (0, 0))) (hB : BkAt w a1 a2 a3 B) :
  Calls Tryz.prog 146 #[.agg #[.pointer (some ⟨A, 0, none⟩)], .int .i64 2, .string nm] w fun e w' => e = .returned (.tuple #[.int .i64 (fstI (atIdx (fun t : Bt => t.name.toList == nm.toList) B.bts)), .bool (atIdx (fun t : Bt => t.name.toList == nm.toList) B.bts).isSome]) ∧ Below w.heap.size w w' := by
 have hAl := (Array.getElem?_eq_some_iff.1 hA).1
 obtain ⟨W0, hW0⟩ : ∃ W, w.alloc (.cells #[.pointer (some ⟨A, 0, none⟩)] 128) = W := ⟨_, rfl⟩
 have hb0 := below_box w (.cells #[.pointer (some ⟨A, 0, none⟩)] 128)
 have T0 : Hid _ := heap_alloc_new w (.cells #[.pointer (some ⟨A, 0, none⟩)] 128)
 rw [hW0] at hb0 T0
 have A0 : Hid _ := below_blk hb0 hA hAl
 have hz0 := (Array.getElem?_eq_some_iff.1 T0.out).1
 have q0 := blk_cell T0.out 0 rfl
 have e0 := blk_cell A0.out 0 rfl
 have e1 := blk_cell A0.out 1 rfl
 have e2 := blk_cell A0.out 2 rfl
 have e3 := blk_cell A0.out 3 rfl
 clear hA
 go_enter Tryz.func146, Tryz.ntmps146
 go_upto_region 1 with fail
 clear hW0
 go_wp2_with fail
 refine (placesIn_x B a1 a2 a3 c1 c2 c3 W0 hS hZ hU hUB (hB.below hb0)).mono ?_
 rintro e w1 ⟨rfl, hpl, hbq⟩
 have hb1 := hb0.trans (hbq.mono hb0.size)
 obtain ⟨n, D, hn, hown, q1, q2, q3, q4⟩ := hpl
 have H1 : Hid _ := q1
 have H2 : Hid _ := q2
 have H3 : Hid _ := q3
 have H4 : Hid _ := q4
 clear q1 q2 q3 q4 e0 e1 e2 e3 q0 hbq
 cases hat : atIdx (fun t : Bt => t.name.toList == nm.toList) B.bts with
 | none =>
  have HH : Hid (Maps.has D (key 2 nm) = false) := H3.out nm hnm fun i s _ hs e => atIdx_no hat s (List.mem_of_getElem? hs) (same_name.2 e)
  have HAK : Hid (D.atKey (key 2 nm) (.lit (.int .i64 0)) = .lit (.int .i64 0)) := atKey_of_not_has HH.out _
  have HAT : Hid _ := hat
  clear hat
  go_wp2_with (at_lookup; refine wpList_lookup_is _ rfl (.tmp 15) (.tmp 18) 104 rfl 138 3 .i64 thingLaw Tryz.underlying104 Tryz.underlying3 (zeroInt _) (W0.heap.size + 1) n D rfl hown _ _ rfl (key_ok 2 nm wf2 hnm) 0 false HAK.out HH.out ?_)
  exact bodyPost_ret (v := .tuple #[.int .i64 0, .bool false]) (by simp [results, Tryz.results146, go_sem]) rfl ⟨by rw [HAT.out]; rfl, hb1⟩
 | some p =>
  obtain ⟨i, t⟩ := p
  obtain ⟨_, hi, hp⟩ := atIdx_some hat
  have hil := (List.getElem?_eq_some_iff.1 hi).1
  have hnm' : t.name = nm := same_name.1 hp
  have h4' := H4.out i t hil hi
  rw [hnm'] at h4'
  have HH : Hid (Maps.has D (key 2 nm) = true) := h4'.1
  have HAK : Hid (D.atKey (key 2 nm) (.lit (.int .i64 0)) = .lit (.int .i64 (i : Int))) := h4'.2
  have HAT : Hid _ := hat
  clear hat hi hp hil hnm' h4'
  go_wp2_with (at_lookup; refine wpList_lookup_is _ rfl (.tmp 15) (.tmp 18) 104 rfl 138 3 .i64 thingLaw Tryz.underlying104 Tryz.underlying3 (zeroInt _) (W0.heap.size + 1) n D rfl hown _ _ rfl (key_ok 2 nm wf2 hnm) (i : Int) true HAK.out HH.out ?_)
  exact bodyPost_ret (v := .tuple #[.int .i64 i, .bool true]) (by simp [results, Tryz.results146, go_sem]) rfl ⟨by rw [HAT.out]; rfl, hb1⟩
set_option maxRecDepth 100000 in
set_option maxHeartbeats 4000000 in
theorem validity_any (B : Bk) (A : Nat) (a1 a2 a3 : Option Addr) (c1 c2 c3 : Nat) (w : World) (hS : B.small) (hZ : B.sized) (hA : w.heap[A]? = some (.cells #[.int .i64 B.now, .slice a1 B.svcs.length c1, .slice a2 B.cps.length c2, .slice a3 B.bts.length c3] 34 (0, 0))) (hB : BkAt w a1 a2 a3 B) :
  Calls Tryz.prog 149 #[.agg #[.pointer (some ⟨A, 0, none⟩)]] w fun e w' => e = .returned (.int .i64 (if validB B = true then 0 else 2)) ∧ Below w.heap.size w w' := by
 obtain ⟨cd, hcd⟩ : ∃ cd : Int, (if validB B = true then 0 else 2) = cd := ⟨_, rfl⟩
 rw [hcd]
 have HCD : Hid _ := hcd
 clear hcd
 have hAl := (Array.getElem?_eq_some_iff.1 hA).1
 obtain ⟨W0, hW0⟩ : ∃ W, w.alloc (.cells #[.pointer (some ⟨A, 0, none⟩)] 128) = W := ⟨_, rfl⟩
 have hb0 := below_box w (.cells #[.pointer (some ⟨A, 0, none⟩)] 128)
 have T0 : Hid _ := heap_alloc_new w (.cells #[.pointer (some ⟨A, 0, none⟩)] 128)
 rw [hW0] at hb0 T0
 have A0 : Hid _ := below_blk hb0 hA hAl
 have q0 := blk_cell T0.out 0 rfl
 have e0 := blk_cell A0.out 0 rfl
 have e1 := blk_cell A0.out 1 rfl
 have e2 := blk_cell A0.out 2 rfl
 have e3 := blk_cell A0.out 3 rfl
 clear hA
 go_enter Tryz.func149, Tryz.ntmps149
 go_upto_region 1 with fail
 clear hW0
 go_wp2_with fail
 refine (implValid_any B a1 a2 a3 c1 c2 c3 W0 hS hZ (hB.below hb0)).mono ?_
 rintro e w1 ⟨rfl, hbq⟩
 have hb1 := hb0.trans (hbq.mono hb0.size)
 clear e0 e1 e2 e3 q0 hbq
 cases hv : validB B
 ·have HC2 : Hid (cd = 2) := by unfold Hid; rw [← HCD.out, hv]; rfl
  go_wp2
  go_ret
  exact ⟨by rw [HC2.out]; rfl, hb1⟩
 ·have HC2 : Hid (cd = 0) := by unfold Hid; rw [← HCD.out, hv]; rfl
  go_wp2
  go_ret
  exact ⟨by rw [HC2.out]; rfl, hb1⟩
def turnC (s v : Int) (c : Cp) : Cp := { c with state := s, version := v }
set_option maxRecDepth 100000 in
set_option maxHeartbeats 4000000 in
theorem turn_any (now st : Int) (A g i n cap : Nat) (s1 s2 s3 : Value) (l : List Cp) (c : Cp) (w : World) (hA : w.heap[A]? = some (.cells #[.int .i64 now, s1, s2, s3] 34 (0, 0))) (hR : RowIs w 88 7 g n cap (cpsV l)) (hn : l.length = n) (hi : l[i]? = some c) :
  Calls Tryz.prog 144 #[.agg #[.pointer (some ⟨A, 0, none⟩)], .pointer (some ⟨g, i * 7, none⟩), .int .i64 st] w fun e w' => e = .returned (.tuple #[]) ∧ RowIs w' 88 7 g n cap (cpsV (l.set i (turnC st now c))) ∧ (∀ q, q < w.heap.size → q ≠ g → w'.heap[q]? = w.heap[q]?) ∧ Below g w w' := by
 have hAl := (Array.getElem?_eq_some_iff.1 hA).1
 have hgl := hR.lt
 have hil : i < n := by rw [← hn]; exact (List.getElem?_eq_some_iff.1 hi).1
 have hfit : i * 7 + 7 ≤ n * 7 := by omega
 have hAg : A ≠ g := fun e => by
  obtain ⟨_, _, cur, h1, _⟩ := hR
  rw [e, h1] at hA
  cases hA
 obtain ⟨W0, hW0⟩ : ∃ W, w.alloc (.cells #[.pointer (some ⟨A, 0, none⟩)] 128) = W := ⟨_, rfl⟩
 have hb0 := below_box w (.cells #[.pointer (some ⟨A, 0, none⟩)] 128)
 have T0 : Hid _ := heap_alloc_new w (.cells #[.pointer (some ⟨A, 0, none⟩)] 128)
 rw [hW0] at hb0 T0
 have A0 : Hid _ := below_blk hb0 hA hAl
 have R0 : Hid (RowIs W0 88 7 g n cap (cpsV l)) := hR.below hb0 hgl
 have HI : Hid (l[i]? = some c) := hi
 have HNL : Hid (l.length = n) := hn
 have q0 := blk_cell T0.out 0 rfl
 have e0 := blk_cell A0.out 0 rfl
 clear hA hR hn hi
 go_enter Tryz.func144, Tryz.ntmps144
 go_upto_region 1 with fail
 clear hW0
 go_wp2_with (first
  | (refine wpList_row_one rfl 3 (.tmp 15) (.tmp 8) rfl g _ (.int .i64 st) rfl rfl Tryz.infosIntX rfl rfl 88 7 n cap _ R0.out (by omega) ?_; intro w1 hr on; have R1 : Hid (RowIs w1 88 7 g n cap (cpsV (l.set i { c with state := st }))) := (by have := hr.out; rw [show splice (cpsV l) (i * 7 + 4) [.int .i64 st] = cpsV (l.set i { c with state := st }) from flat_splice_one (c := Cp.cells) (n := 7) (fun _ => rfl) l i 4 c { c with state := st } _ HI.out (by omega) rfl] at this; exact this); have HO1 : Hid (Only g W0 w1) := on; clear hr on)
  | (refine wpList_row_one rfl 3 (.tmp 17) (.tmp 13) rfl g _ (.int .i64 now) rfl rfl Tryz.infosIntX rfl rfl 88 7 n cap _ R1.out (by omega) ?_; intro w2 hr on; have R2 : Hid (RowIs w2 88 7 g n cap (cpsV (l.set i (turnC st now c)))) := (by have := hr.out; rw [show splice (cpsV (l.set i { c with state := st })) (i * 7 + 2) [.int .i64 now] = cpsV ((l.set i { c with state := st }).set i (turnC st now c)) from flat_splice_one (c := Cp.cells) (n := 7) (fun _ => rfl) (l.set i { c with state := st }) i 2 { c with state := st } (turnC st now c) _ (by rw [List.getElem?_set_self (by rw [HNL.out]; exact hil)]) (by omega) rfl, List.set_set] at this; exact this); have HO2 : Hid (Only g w1 w2) := on; clear hr on))
 exact Go.Great.bodyPost_end0 rfl rfl ⟨rfl, R2.out, fun q hq hne => (HO2.out.other q hne).trans ((HO1.out.other q hne).trans (hb0.block q hq)), (hb0.mono' (by omega)).trans (HO1.out.below.trans HO2.out.below)⟩
end Go.Proofs.YtbceafpodamnfabGreat

namespace Go.Proofs.YtbceafpodamnfabGreat
open Go.RowKit
section
variable {P : Program}
theorem wpList_copy_k {ops : Array Oper} {rest : List Oper} {o : Oper} {a : Act} {w : World} {Q : Exit → Act → World → Prop} (hgd : o.guard = none) (d s : Operand) (t : TypeId)
  (ho : o.op = .call { callee := .builtin .copy, args := #[d, s], argTypes := #[t, t] }) (e : TypeId) (size : Nat) (ht : P.underlying t = some (.slice e)) (hsz : (P.info? e).map (·.size) = some size)
  (dp sp : Option Addr) (dLen dCap sLen sCap : Nat) (hd : a.eval d = .slice dp dLen dCap) (hs : a.eval s = .slice sp sLen sCap) (k : Nat) (hk : Nat.min sLen dLen = k)
  (g off : Nat) (cur : Array Value) (ty : TypeId) (hg : w.heap[g]? = some (.cells cur ty (0, 0))) (cs : List Value) (hl : cs.length = k * size)
  (hpos : k ≠ 0 → dp = some ⟨g, off, none⟩ ∧ ∃ ad, sp = some ad ∧ ∀ j v, cs[j]? = some v → w.cell? (ad.add j) = some v) (hfit : off + cs.length ≤ cur.size) (h1 : ∀ v ∈ cs, v.oneCell' = true)
  (h : ∀ w', Hid (w'.heap[g]? = some (.cells (splice cur.toList off cs).toArray ty (0, 0))) → Only g w w' → wpList P ops Q rest (a.put o.dst (goInt k)) w') : wpList P ops Q (o :: rest) a w := by
 refine wpList_plain hgd fun K hK => ?_
 obtain ⟨i, hi, his⟩ : ∃ i, P.info? e = some i ∧ i.size = size := by
  cases hq : P.info? e with
  | none => simp [hq] at hsz
  | some i => exact ⟨i, rfl, by simpa [hq] using hsz⟩
 by_cases h0 : k = 0
 ·subst h0
  have hcs : cs = [] := List.eq_nil_of_length_eq_zero (by simpa using hl)
  subst hcs
  have hr : (Builtin.copy_ #[t, t] o.type #[.slice dp dLen dCap, .slice sp sLen sCap]).run P w = .ok (goInt 0) w := by
   cases dp <;> cases sp <;> simp [Builtin.copy_, run_underlying ht, sizeOf, typeInfo, hi, Builtin.lenOf, Builtin.firstCells, storeCells, loadCells, loadCellsFrom, hk]
  unfold Oper.wp execOp
  simp only [ho, resolve, invoke, builtin, Sem.run_bind, Sem.run_pure, Result.andThen_ok, List.map_toArray, List.map_cons, List.map_nil, hd, hs, hr]
  exact hK _ _ (h w (show _ = _ by simpa [splice] using hg) ⟨fun _ _ => rfl, Below.refl _ _, rfl⟩)
 ·obtain ⟨rfl, ad, rfl, hsrc⟩ := hpos h0
  have hf := run_firstCells_some (P := P) w i.size k ad sLen sCap cs (by rw [his]; exact hl) hsrc
  have hst := run_storeCells_at P g off ty cs 0 cur w hg (by simpa using hfit) h1
  have hr : (Builtin.copy_ #[t, t] o.type #[.slice (some ⟨g, off, none⟩) dLen dCap, .slice (some ad) sLen sCap]).run P w = .ok (goInt k) (w.setRow g (splice cur.toList off cs).toArray) := by
   simp only [Nat.add_zero, List.append_assoc] at hst
   simp [Builtin.copy_, run_underlying ht, sizeOf, typeInfo, hi, Builtin.lenOf, hk, hf, hst, splice]
  unfold Oper.wp execOp
  simp only [ho, resolve, invoke, builtin, Sem.run_bind, Sem.run_pure, Result.andThen_ok, List.map_toArray, List.map_cons, List.map_nil, hd, hs, hr]
  exact hK _ _ (h _ (setRow_heap w g cur _ ty _ hg) (only_setRow w g _))
theorem wpList_append_zeros {ops : Array Oper} {rest : List Oper} {o : Oper} {a : Act} {w : World} {Q : Exit → Act → World → Prop} (hgd : o.guard = none) (s x : Operand) (t tn : TypeId)
  (ho : o.op = .call { callee := .builtin .append, args := #[s, x], argTypes := #[t, tn] })
  (e : TypeId) (z : Value) (size bytes : Nat) (kn : IntKind) (ht : P.underlying t = some (.slice e)) (htn : P.underlying tn = some (.int kn)) (hinfo : (P.info? e).map (fun i => (i.zero, i.size, i.bytes)) = some (some z, size, bytes)) (hzs : z.cells.size = size) (hs0 : 0 < size)
  (b : Addr) (n cap : Nat) (olds : List Value) (hs : a.eval s = .slice (some b) n cap) (hlo : olds.length = n * size) (holds : ∀ j v, olds[j]? = some v → w.cell? (b.add j) = some v)
  (m : Nat) (hx : a.eval x = .int .i64 m) (hm : 0 < m) (hg : cap < n + m) (h63 : n + m ≤ maxLen) (hbytes : (n + m) * bytes ≤ 140737488355328)
  (h : ∀ g cap' cur w', w.heap.size ≤ g → n + m ≤ cap' → Hid (w'.heap[g]? = some (.cells cur e (0, 0))) → Hid (cur.size = cap' * size ∧ cur.toList.take (n * size) = olds) → Below w.heap.size w w' → wpList P ops Q rest (a.put o.dst (.slice (some ⟨g, 0, none⟩) (n + m) cap')) w') : wpList P ops Q (o :: rest) a w := by
 obtain ⟨i, hi, hz, hs', hb⟩ := info_parts hinfo
 subst hs' hb
 have hmx : (n + m : Nat) ≤ 9223372036854775807 := by unfold maxLen at h63; omega
 have hfitN : Builtin.nextslicecap (n + m) cap * i.bytes ≤ 281474976710656 := growslice_fits (by omega) hbytes
 have hn : ¬ (n + m ≤ cap) := by omega
 have h63' : ¬ (9223372036854775807 < ((n : Int) + (m : Int))) := by omega
 have h48' : ¬ (281474976710656 < Builtin.nextslicecap (n + m) cap * i.bytes) := by omega
 have hw : IntKind.i64.wrap (m : Int) = m := by rw [IntKind.wrap_i64]; omega
 have hneg : ¬ ((m : Int) < 0) := by omega
 have hmb : m * i.bytes ≤ (n + m) * i.bytes := Nat.mul_le_mul_right _ (by omega)
 have h48i : ¬ (281474976710656 < (m : Int) * (i.bytes : Int)) := by
  rw [← Int.natCast_mul]
  omega
 have hns : ¬ (m * i.size = 0) := Nat.mul_ne_zero (by omega) (by omega)
 have hm0 : m ≠ 0 := by omega
 have hfo := run_firstCells_some (P := P) w.drew i.size n b n cap olds hlo (by simpa using holds)
 have hr : (Builtin.append_ #[t, tn] o.type #[.slice (some b) n cap, .int .i64 m]).run P w =
   .ok (.slice (some ⟨w.heap.size, 0, none⟩) (n + m) (grownCap w (n + m) cap e)) (w.drew.alloc (.cells (olds.toArray ++ Builtin.zeroCells z.cells m ++ Builtin.zeroCells z.cells (grownCap w (n + m) cap e - (n + m))) e)) := by
  simp [Builtin.append_, run_underlying ht, run_underlying htn, sizeOf, typeInfo, zeroValue, hi, hz, asInt, asIntOf, hw, hn, hneg, hns, hm0, h63', h48', h48i, Question.forced, hfo, newRow, grownCap]
 refine wpList_plain hgd fun K hK => ?_
 unfold Oper.wp execOp
 simp only [ho, resolve, invoke, builtin, Sem.run_bind, Sem.run_pure, Result.andThen_ok, List.map_toArray, List.map_cons, List.map_nil, hs, hx, hr]
 have hge := grownCap_ge w (n + m) cap e
 refine hK _ _ (h w.heap.size _ _ _ (Nat.le_refl _) hge (heap_alloc_new w.drew _) ⟨?_, ?_⟩ ⟨rfl, rfl, rfl, by simp, fun k hk => by show (w.heap.push _)[k]? = _; rw [Array.getElem?_push, if_neg (by omega)]⟩)
 ·simp only [Array.size_append, List.size_toArray, size_zeroCells, hzs, hlo]
  rw [← Nat.add_mul, ← Nat.add_mul]
  congr 1
  omega
 ·simp only [Array.toList_append, List.append_assoc]
  rw [← hlo]
  exact List.take_left
end
end Go.Proofs.YtbceafpodamnfabGreat
