/-
  My own: Iy, Iz, Ja, Tb.
-/
import Derived.Test.YtbceafpodamnfabGreatG22
import Derived.Test.YtbceafpodamnfabGreatG03
import Derived.Test.YtbceafpodamnfabGreatG14
set_option linter.unusedVariables false
set_option linter.unusedSimpArgs false
namespace Go.Proofs.YtbceafpodamnfabGreat
open Go.RowKit Go.Sort
theorem allTo_at {f : Nat → Bool} {n : Nat} (h : allTo f n = true) (i : Nat) (hi : i < n) : f i = true := by
 unfold allTo at h
 exact List.all_eq_true.1 h i (List.mem_range.2 hi)
theorem adj {α : Type} {r : α → α → Bool} {l : List α} (h : l.Pairwise fun a b => r a b = true) {k : Nat} {s : α} (hs : l[k]? = some s) : k = 0 ∨ ∀ p, l[k - 1]? = some p → r p s = true := by
 cases k with
 | zero => exact .inl rfl
 | succ k =>
  obtain ⟨hk, e2⟩ := List.getElem?_eq_some_iff.1 hs
  have h1 := List.pairwise_iff_getElem.1 h k (k + 1) (by omega) hk (by omega)
  rw [e2] at h1
  have hp : l[k + 1 - 1]? = some (l[k]'(by omega)) := List.getElem?_eq_getElem (by omega)
  refine .inr fun p hq => ?_
  rw [hp] at hq
  cases hq
  exact h1
theorem valid_mk {B : Bk} (h0 : 0 ≤ B.now) (h1 : B.now ≤ 1000000) (ls : B.svcs.length ≤ 8) (lc : B.cps.length ≤ 200) (lb : B.bts.length ≤ 6) (hs : ∀ s ∈ B.svcs, svcB B.now s = true) (os : B.svcs.Pairwise fun a b => Op.bytesLess a.name.toList b.name.toList = true) (hb : ∀ t ∈ B.bts, nameB t.name = true) (ob : B.bts.Pairwise fun a b => Op.bytesLess a.name.toList b.name.toList = true) (hc : ∀ c ∈ B.cps, cpB B c = true) (oc : B.cps.Pairwise fun a b => aheadB a b = true) : validB B = true := by
 refine validB_iff.2 ⟨inB_iff.2 ⟨h0, h1⟩, ls, lc, lb, allTo_yes fun i _ => ?_, allTo_yes fun i _ => ?_, allTo_yes fun i _ => ?_⟩
 ·unfold svcAtB
  cases h : B.svcs[i]? with
  | none => rfl
  | some s =>
   rw [Bool.and_eq_true]
   refine ⟨hs s (List.mem_of_getElem? h), ?_⟩
   rcases adj (r := fun a b : Svc => Op.bytesLess a.name.toList b.name.toList) os h with e | e
   ·subst e; rfl
   ·cases hp : B.svcs[i - 1]? with
    | none => simp
    | some p =>
     have := e p hp
     simp only [this, Bool.or_true]
 ·unfold btAtB
  cases h : B.bts[i]? with
  | none => rfl
  | some s =>
   rw [Bool.and_eq_true]
   refine ⟨hb s (List.mem_of_getElem? h), ?_⟩
   rcases adj (r := fun a b : Bt => Op.bytesLess a.name.toList b.name.toList) ob h with e | e
   ·subst e; rfl
   ·cases hp : B.bts[i - 1]? with
    | none => simp
    | some p =>
     have := e p hp
     simp only [this, Bool.or_true]
 ·unfold cpAtB
  cases h : B.cps[i]? with
  | none => rfl
  | some s =>
   rw [Bool.and_eq_true]
   refine ⟨hc s (List.mem_of_getElem? h), ?_⟩
   rcases adj (r := aheadB) oc h with e | e
   ·subst e; rfl
   ·cases hp : B.cps[i - 1]? with
    | none => simp
    | some p =>
     have := e p hp
     simp only [this, Bool.or_true]
theorem Valid.pwC {B : Bk} (h : Valid B) : B.cps.Pairwise fun a b => aheadB a b = true := List.pairwise_iff_getElem.2 fun i j hi hj hij => cps_ahead (cpAt_of h.cps) j i _ _ hij (List.getElem?_eq_getElem hi) (List.getElem?_eq_getElem hj)
theorem Valid.pwS {B : Bk} (h : Valid B) : B.svcs.Pairwise fun a b => Op.bytesLess a.name.toList b.name.toList = true := List.pairwise_iff_getElem.2 fun i j hi hj hij => svcs_less (allTo_at h.svcs) j i _ _ hij (List.getElem?_eq_getElem hi) (List.getElem?_eq_getElem hj)
theorem Valid.pwB {B : Bk} (h : Valid B) : B.bts.Pairwise fun a b => Op.bytesLess a.name.toList b.name.toList = true := List.pairwise_iff_getElem.2 fun i j hi hj hij => bts_less (allTo_at h.bts) j i _ _ hij (List.getElem?_eq_getElem hi) (List.getElem?_eq_getElem hj)
theorem Valid.btName {B : Bk} (h : Valid B) {t : Bt} (ht : t ∈ B.bts) : nameB t.name = true := by
 obtain ⟨i, hi⟩ := List.getElem?_of_mem ht
 have := allTo_at h.bts i (List.getElem?_eq_some_iff.1 hi).1
 unfold btAtB at this
 rw [hi] at this
 simp only [Bool.and_eq_true] at this
 exact this.1
theorem svcB_mono {a b : Int} {s : Svc} (h : svcB a s = true) (hab : a ≤ b) : svcB b s = true := by
 unfold svcB at h ⊢
 simp only [Bool.and_eq_true] at h ⊢
 obtain ⟨⟨⟨⟨⟨⟨⟨⟨h1, h2⟩, h3⟩, h4⟩, h5⟩, h6⟩, h7⟩, h8⟩, h9⟩ := h
 exact ⟨⟨⟨⟨⟨⟨⟨⟨h1, inB_iff.2 ⟨(inB_iff.1 h2).1, Int.le_trans (inB_iff.1 h2).2 hab⟩⟩, h3⟩, h4⟩, h5⟩, h6⟩, h7⟩, h8⟩, h9⟩
theorem cpB_to {B X : Bk} {c d : Cp} (hsv : X.svcs = B.svcs) (hn : B.now ≤ X.now) (h1 : 1 ≤ X.now) (k1 : d.service = c.service) (k2 : d.number = c.number) (k3 : d.image = c.image) (hv : d.version = c.version ∨ d.version = X.now) (hst : 1 ≤ d.state ∧ d.state ≤ 4) (hb : berthOk X.bts d = true) (h : cpB B c = true) : cpB X d = true := by
 unfold cpB svcOf at h ⊢
 rw [hsv, k1]
 cases hs : B.svcs.find? (fun s => s.name.toList == c.service.toList) with
 | none => rw [hs] at h; cases h
 | some s =>
  rw [hs] at h
  simp only [Bool.and_eq_true] at h ⊢
  refine ⟨?_, hb⟩
  have h := h.1
  unfold cpOk at h ⊢
  simp only [Bool.and_eq_true, inB_iff] at h ⊢
  rw [k2, k3]
  refine ⟨⟨⟨h.1.1.1, ?_⟩, h.1.2⟩, hst⟩
  rcases hv with e | e <;> rw [e] <;> omega
theorem cpB_in {B : Bk} {c : Cp} (h : cpB B c = true) : (1 ≤ c.state ∧ c.state ≤ 4) ∧ berthOk B.bts c = true := by
 unfold cpB at h
 split at h
 ·cases h
 ·simp only [Bool.and_eq_true] at h
  refine ⟨?_, h.2⟩
  have h := h.1
  unfold cpOk at h
  simp only [Bool.and_eq_true, inB_iff] at h
  exact h.2
def cKey (c : Cp) : ByteArray × Int := (c.service, c.number)
theorem pw_key {l m : List Cp} (h : l.map cKey = m.map cKey) (hl : l.Pairwise fun a b => aheadB a b = true) : m.Pairwise fun a b => aheadB a b = true := by
 have hl' : (l.map cKey).Pairwise (fun p q => (Op.bytesLess p.1.toList q.1.toList || (p.1.toList == q.1.toList && decide (p.2 < q.2))) = true) := List.pairwise_map.2 hl
 rw [h] at hl'
 exact List.pairwise_map.1 hl'
theorem set_key {l : List Cp} {i : Nat} {c d : Cp} (h : l[i]? = some c) (hk : cKey d = cKey c) : (l.set i d).map cKey = l.map cKey := by
 rw [List.map_set, hk]
 exact set_same (by rw [List.getElem?_map, h]; rfl)
theorem fail_valid {B : Bk} (hV : Valid B) (hn : B.now < 1000000) (nm : ByteArray) (num : Int) (h : (failB B nm num (B.now + 1)).2 = 0) : validB (failB B nm num (B.now + 1)).1 = true := by
 have hn0 := (inB_iff.1 hV.now).1
 unfold failB at h ⊢
 cases ha : atIdx (isC nm num) B.cps with
 | none => rw [ha] at h; cases h
 | some p =>
  obtain ⟨i, c⟩ := p
  rw [ha] at h
  obtain ⟨_, hi, _⟩ := atIdx_some ha
  simp only at h ⊢
  by_cases hst : c.state = 3 ∨ c.state = 2
  ·rw [if_pos hst]
   refine valid_mk (by show 0 ≤ B.now + 1; omega) (by show B.now + 1 ≤ _; omega) hV.ls (by show (B.cps.set i _).length ≤ _; rw [List.length_set]; exact hV.lc) hV.lb (fun s hs => svcB_mono (svcB_of hV.svcs hs) (by show B.now ≤ B.now + 1; omega)) hV.pwS (fun t ht => hV.btName ht) hV.pwB (fun d hd => ?_) (pw_key (set_key (d := { c with state := 4, version := B.now + 1 }) hi rfl).symm hV.pwC)
   rcases List.mem_or_eq_of_mem_set hd with hd | hd
   ·have hc := cpB_of hV.cps hd
    exact cpB_to (B := B) (c := d) rfl (by show B.now ≤ B.now + 1; omega) (by show 1 ≤ B.now + 1; omega) rfl rfl rfl (.inl rfl) (cpB_in hc).1 (cpB_in hc).2 hc
   ·have hc := cpB_of hV.cps (List.mem_of_getElem? hi)
    rw [hd]
    refine cpB_to (B := B) (c := c) rfl (by show B.now ≤ B.now + 1; omega) (by show 1 ≤ B.now + 1; omega) rfl rfl rfl (.inr rfl) ⟨by show (1 : Int) ≤ 4; omega, by show (4 : Int) ≤ 4; omega⟩ ?_ hc
    have hb := (cpB_in hc).2
    unfold berthOk at hb ⊢
    rw [if_neg (by show ¬ ((4 : Int) = 1); omega)]
    rw [if_neg (by omega)] at hb
    exact hb
  ·rw [if_neg hst] at h; cases h
theorem sink_valid {B : Bk} (hV : Valid B) (hn : B.now < 1000000) (nm : ByteArray) (h : (sinkB B nm (B.now + 1)).2 = 0) : validB (sinkB B nm (B.now + 1)).1 = true := by
 have hn0 := (inB_iff.1 hV.now).1
 unfold sinkB at h ⊢
 cases ha : atIdx (fun t : Bt => t.name.toList == nm.toList) B.bts with
 | none => rw [ha] at h; cases h
 | some p =>
  obtain ⟨i, t⟩ := p
  obtain ⟨_, hi, ht⟩ := atIdx_some ha
  simp only
  have hsub : (B.bts.take i ++ B.bts.drop (i + 1)).Sublist B.bts := by rw [← List.eraseIdx_eq_take_drop_succ]; exact List.eraseIdx_sublist ..
  refine valid_mk (by show 0 ≤ B.now + 1; omega) (by show B.now + 1 ≤ _; omega) hV.ls (Nat.le_trans (List.length_filter_le ..) hV.lc) (Nat.le_trans hsub.length_le hV.lb) (fun s hs => svcB_mono (svcB_of hV.svcs hs) (by show B.now ≤ B.now + 1; omega)) hV.pwS (fun t ht => hV.btName (hsub.subset ht)) (hV.pwB.sublist hsub) (fun d hd => ?_) (hV.pwC.sublist List.filter_sublist)
  obtain ⟨hd, hne⟩ := List.mem_filter.1 hd
  have hc := cpB_of hV.cps hd
  refine cpB_to (B := B) (c := d) rfl (by show B.now ≤ B.now + 1; omega) (by show 1 ≤ B.now + 1; omega) rfl rfl rfl (.inl rfl) (cpB_in hc).1 ?_ hc
  have hb := (cpB_in hc).2
  unfold berthOk at hb ⊢
  by_cases hs1 : d.state = 1
  ·rw [if_pos hs1] at hb ⊢; exact hb
  ·rw [if_neg hs1] at hb ⊢
   obtain ⟨b, hbm, hbe⟩ := List.any_eq_true.1 hb
   refine List.any_eq_true.2 ⟨b, ?_, hbe⟩
   obtain ⟨j, hj⟩ := List.getElem?_of_mem hbm
   rcases Nat.lt_trichotomy j i with hji | hji | hji
   ·exact List.mem_append_left _ (List.mem_of_getElem? (by rw [List.getElem?_take, if_pos hji]; exact hj))
   ·subst hji
    rw [hi] at hj
    cases hj
    rw [beq_iff_eq] at ht hbe
    rw [← hbe, ht] at hne
    simp at hne
   ·exact List.mem_append_right _ (List.mem_of_getElem? (i := j - (i + 1)) (by rw [List.getElem?_drop, show i + 1 + (j - (i + 1)) = j by omega]; exact hj))
theorem leastTo_mem {B : Bk} : ∀ k, (leastTo B k).1 = ⟨#[]⟩ ∨ ∃ t ∈ B.bts, t.name = (leastTo B k).1
 | 0 => .inl rfl
 | k + 1 => by
  cases h : B.bts[k]? with
  | none =>
   have : leastTo B (k + 1) = leastTo B k := by
    unfold leastTo
    rw [List.take_add_one, h]
    simp
   rw [this]
   exact leastTo_mem k
  | some t =>
   rw [leastTo_succ h]
   unfold leastS
   split
   ·exact .inr ⟨t, List.mem_of_getElem? h, rfl⟩
   ·exact leastTo_mem k
theorem tickTo_good {B : Bk} (hV : Valid B) : ∀ k, (∀ c ∈ (tickTo B (B.now + 1) k).cps, cpB (aft B) c = true) ∧ (tickTo B (B.now + 1) k).cps.map cKey = (leftL (B.now + 1) B.cps).map cKey
 | 0 => by
  have hn0 := (inB_iff.1 hV.now).1
  refine ⟨fun c hc => ?_, rfl⟩
  have hc' : c ∈ leftL (B.now + 1) B.cps := hc
  unfold leftL at hc'
  obtain ⟨d, hd, rfl⟩ := List.mem_map.1 hc'
  have hd := cpB_of hV.cps (List.mem_filter.1 hd).1
  have hi := cpB_in hd
  unfold tickC
  split
  ·rename_i h2
   refine cpB_to (B := B) (c := d) rfl (by show B.now ≤ B.now + 1; omega) (by show 1 ≤ B.now + 1; omega) rfl rfl rfl (.inr rfl) ⟨by show (1 : Int) ≤ 3; omega, by show (3 : Int) ≤ 4; omega⟩ ?_ hd
   have hb := hi.2
   unfold berthOk at hb ⊢
   rw [if_neg (by show ¬ ((3 : Int) = 1); omega)]
   rw [if_neg (by omega)] at hb
   exact hb
  ·exact cpB_to (B := B) (c := d) rfl (by show B.now ≤ B.now + 1; omega) (by show 1 ≤ B.now + 1; omega) rfl rfl rfl (.inl rfl) hi.1 hi.2 hd
 | k + 1 => by
  have hn0 := (inB_iff.1 hV.now).1
  obtain ⟨ih1, ih2⟩ := tickTo_good hV k
  rw [tickTo_succ]
  unfold placeAt
  split
  ·rename_i d hd
   split
   ·rename_i hp
    refine ⟨fun c hc => ?_, ?_⟩
    ·rcases List.mem_or_eq_of_mem_set hc with h | h
     ·exact ih1 c h
     ·rw [h]
      refine cpB_to (B := aft B) (c := d) rfl (Int.le_refl _) (by show 1 ≤ B.now + 1; omega) rfl rfl rfl (.inr rfl) ⟨by show (1 : Int) ≤ 2; omega, by show (2 : Int) ≤ 4; omega⟩ ?_ (ih1 d (List.mem_of_getElem? hd))
      unfold berthOk
      rw [if_neg (by show ¬ ((2 : Int) = 1); omega)]
      rcases leastTo_mem (B := tickTo B (B.now + 1) k) (tickTo B (B.now + 1) k).bts.length with e | ⟨t, ht, e⟩
      ·exact absurd e hp.2
      ·rw [(tickTo_same B (B.now + 1) k).2.2.1] at ht
       refine List.any_eq_true.2 ⟨t, ht, ?_⟩
       show (t.name.toList == (leastB (tickTo B (B.now + 1) k)).toList) = true
       rw [show leastB (tickTo B (B.now + 1) k) = t.name from e.symm]
       simp
    ·exact (set_key (d := { d with state := 2, berth := leastB (tickTo B (B.now + 1) k), version := B.now + 1 }) hd rfl).trans ih2
   ·exact ⟨ih1, ih2⟩
  ·exact ⟨ih1, ih2⟩
theorem tick_valid {B : Bk} (hV : Valid B) (hn : B.now < 1000000) : validB { tickB B (B.now + 1) with now := B.now + 1 } = true := by
 have hn0 := (inB_iff.1 hV.now).1
 obtain ⟨g1, g2⟩ := tickTo_good hV (leftL (B.now + 1) B.cps).length
 obtain ⟨s1, s2, s3, s4⟩ := tickTo_same B (B.now + 1) (leftL (B.now + 1) B.cps).length
 have hlen : (leftL (B.now + 1) B.cps).length ≤ B.cps.length := by unfold leftL; rw [List.length_map]; exact List.length_filter_le ..
 have hk : (leftL (B.now + 1) B.cps).map cKey = (B.cps.filter fun c => !c.ending).map cKey := by
  unfold leftL
  rw [List.map_map]
  refine List.map_congr_left fun c _ => ?_
  show cKey (tickC _ c) = cKey c
  unfold tickC
  split <;> rfl
 refine valid_mk (by show 0 ≤ B.now + 1; omega) (by show B.now + 1 ≤ _; omega) ?_ ?_ ?_ ?_ ?_ ?_ ?_ ?_ ?_
 ·show (tickTo _ _ _).svcs.length ≤ _; rw [s2]; exact hV.ls
 ·show (tickTo _ _ _).cps.length ≤ _; rw [s4]; exact Nat.le_trans hlen hV.lc
 ·show (tickTo _ _ _).bts.length ≤ _; rw [s3]; exact hV.lb
 ·intro s hs
  have hs : s ∈ (tickTo B (B.now + 1) (leftL (B.now + 1) B.cps).length).svcs := hs
  rw [s2] at hs
  exact svcB_mono (svcB_of hV.svcs hs) (by show B.now ≤ B.now + 1; omega)
 ·show (tickTo _ _ _).svcs.Pairwise _; rw [s2]; exact hV.pwS
 ·intro s hs
  have hs : s ∈ (tickTo B (B.now + 1) (leftL (B.now + 1) B.cps).length).bts := hs
  rw [s3] at hs
  exact hV.btName hs
 ·show (tickTo _ _ _).bts.Pairwise _; rw [s3]; exact hV.pwB
 ·intro c hc
  have h := g1 c hc
  have hi := cpB_in h
  exact cpB_to (B := aft B) (c := c) (by show (tickTo _ _ _).svcs = _; rw [s2]; rfl) (Int.le_refl _) (by show 1 ≤ B.now + 1; omega) rfl rfl rfl (.inl rfl) hi.1 (by show berthOk (tickTo _ _ _).bts c = true; rw [s3]; exact hi.2) h
 ·exact pw_key (g2.trans hk).symm (hV.pwC.sublist List.filter_sublist)
end Go.Proofs.YtbceafpodamnfabGreat

namespace Go.Proofs.YtbceafpodamnfabGreat
open Go.RowKit Go.Sort
theorem placeAt_now (v n : Int) (X : Bk) (i : Nat) : placeAt v { X with now := n } i = { placeAt v X i with now := n } := by
 unfold placeAt
 cases h : X.cps[i]? with
 | none => simp only [h]
 | some c =>
  simp only [h]
  rw [show leastB { X with now := n } = leastB X from rfl]
  split <;> rfl
theorem tickTo_aft (B : Bk) (v : Int) : ∀ k, tickTo (aft B) v k = { tickTo B v k with now := B.now + 1 }
 | 0 => rfl
 | k + 1 => by rw [tickTo_succ, tickTo_succ, tickTo_aft B v k, placeAt_now]
theorem ans_eq {B : Bk} {E : Ev} (hv : validB B = true) (hn : B.now < 1000000) (hcode : (hapO (aft B) E).2 = if (seaOf B E).2 = 0 then (if validB (seaOf B E).1 = true then 0 else 2) else (seaOf B E).2) (hbk : (seaOf B E).2 = 0 → (hapO (aft B) E).1 = (seaOf B E).1) : progAns B E = seaAns B E := by
 have hh : hapB (aft B) E = hapO (aft B) E := by unfold hapB; rw [if_neg (by show ¬ (1000000 < B.now + 1); omega)]
 unfold progAns seaAns befB
 rw [if_pos hv, if_pos hv, if_neg (by omega : ¬ 1000000 ≤ B.now), hh, hcode]
 by_cases hs : (seaOf B E).2 = 0
 ·rw [if_pos hs, if_pos hs]
  by_cases hw : validB (seaOf B E).1 = true
  ·rw [if_pos hw, if_pos hw, if_pos rfl, hbk hs]
  ·rw [if_neg hw, if_neg hw, if_neg (by decide)]
 ·rw [if_neg hs, if_neg hs, if_neg hs]
theorem prog_sea (B : Bk) (E : Ev) : progAns B E = seaAns B E := by
 cases hv : validB B
 ·unfold progAns seaAns; rw [hv]; rfl
 have hV := validB_iff.1 hv
 obtain ⟨hn0, hn1⟩ := inB_iff.1 hV.now
 by_cases hn : B.now < 1000000
 ·obtain ⟨kd, sv, nm, num, fl⟩ := E
  by_cases h1 : kd = 1
  ·subst h1
   refine ans_eq hv hn ?_ ?_
   ·show (0 : Int) = if (0 : Int) = 0 then (if validB { tickB B (B.now + 1) with now := B.now + 1 } = true then 0 else 2) else 0
    rw [if_pos rfl, if_pos (tick_valid hV hn)]
   ·intro _
    show tickB (aft B) (B.now + 1) = { tickB B (B.now + 1) with now := B.now + 1 }
    exact tickTo_aft B (B.now + 1) _
  by_cases h2 : kd = 2
  ·subst h2; exact ans_eq hv hn rfl fun _ => rfl
  by_cases h3 : kd = 3
  ·subst h3
   have e : hapO (aft B) ⟨3, sv, nm, num, fl⟩ = failB (aft B) nm num (B.now + 1) := rfl
   have e2 : seaOf B ⟨3, sv, nm, num, fl⟩ = failB B nm num (B.now + 1) := rfl
   have ec : (failB (aft B) nm num (B.now + 1)).2 = (failB B nm num (B.now + 1)).2 ∧ ((failB B nm num (B.now + 1)).2 = 0 → (failB (aft B) nm num (B.now + 1)).1 = (failB B nm num (B.now + 1)).1) := by
    unfold failB
    rw [show (aft B).cps = B.cps from rfl]
    cases atIdx (isC nm num) B.cps with
    | none => exact ⟨rfl, fun h => by cases h⟩
    | some p =>
     obtain ⟨i, c⟩ := p
     simp only
     split
     ·exact ⟨rfl, fun _ => rfl⟩
     ·exact ⟨rfl, fun h => by cases h⟩
   refine ans_eq hv hn ?_ ?_
   ·rw [e, e2, ec.1]
    by_cases hz : (failB B nm num (B.now + 1)).2 = 0
    ·rw [if_pos hz, if_pos (fail_valid hV hn nm num hz), hz]
    ·rw [if_neg hz]
   ·rw [e, e2]; exact ec.2
  by_cases h4 : kd = 4
  ·subst h4
   have e : hapO (aft B) ⟨4, sv, nm, num, fl⟩ = sinkB (aft B) nm (B.now + 1) := rfl
   have e2 : seaOf B ⟨4, sv, nm, num, fl⟩ = sinkB B nm (B.now + 1) := rfl
   have ec : (sinkB (aft B) nm (B.now + 1)).2 = (sinkB B nm (B.now + 1)).2 ∧ ((sinkB B nm (B.now + 1)).2 = 0 → (sinkB (aft B) nm (B.now + 1)).1 = (sinkB B nm (B.now + 1)).1) := by
    unfold sinkB
    rw [show (aft B).bts = B.bts from rfl]
    cases atIdx (fun t : Bt => t.name.toList == nm.toList) B.bts with
    | none => exact ⟨rfl, fun h => by cases h⟩
    | some p => exact ⟨rfl, fun _ => rfl⟩
   refine ans_eq hv hn ?_ ?_
   ·rw [e, e2, ec.1]
    by_cases hz : (sinkB B nm (B.now + 1)).2 = 0
    ·rw [if_pos hz, if_pos (sink_valid hV hn nm hz), hz]
    ·rw [if_neg hz]
   ·rw [e, e2]; exact ec.2
  by_cases h5 : kd = 5
  ·subst h5; exact ans_eq hv hn rfl fun _ => rfl
  by_cases h6 : kd = 6
  ·subst h6
   have e : hapO (aft B) ⟨6, sv, nm, num, fl⟩ = ((loadB (aft B) nm num (B.now + 1)).1, codeOf (loadB (aft B) nm num (B.now + 1))) := rfl
   have e2 : seaOf B ⟨6, sv, nm, num, fl⟩ = loadB B nm num (B.now + 1) := rfl
   have ec : (loadB (aft B) nm num (B.now + 1)).2 = (loadB B nm num (B.now + 1)).2 ∧ ((loadB B nm num (B.now + 1)).2 = 0 → (loadB (aft B) nm num (B.now + 1)).1 = (loadB B nm num (B.now + 1)).1) := by
    unfold loadB
    rw [show (aft B).svcs = B.svcs from rfl]
    cases atIdx (fun s : Svc => s.name.toList == nm.toList) B.svcs with
    | none => exact ⟨rfl, fun h => by cases h⟩
    | some p =>
     obtain ⟨i, c⟩ := p
     simp only
     split
     ·exact ⟨rfl, fun h => by cases h⟩
     ·exact ⟨rfl, fun _ => rfl⟩
   refine ans_eq hv hn ?_ ?_
   ·rw [e, e2]
    show codeOf (loadB (aft B) nm num (B.now + 1)) = _
    unfold codeOf
    rw [ec.1]
    by_cases hz : (loadB B nm num (B.now + 1)).2 = 0
    ·rw [if_pos hz, if_pos hz, ec.2 hz]
    ·rw [if_neg hz, if_neg hz]
   ·rw [e, e2]; exact ec.2
  have e : hapO (aft B) ⟨kd, sv, nm, num, fl⟩ = (aft B, 4) := by unfold hapO; simp only [if_neg h1, if_neg h2, if_neg h3, if_neg h4, if_neg h5, if_neg h6]
  have e2 : seaOf B ⟨kd, sv, nm, num, fl⟩ = (B, 4) := by unfold seaOf; simp only [if_neg h1, if_neg h2, if_neg h3, if_neg h4, if_neg h5, if_neg h6]
  refine ans_eq hv hn ?_ ?_
  ·rw [e, e2]; rfl
  ·rw [e2]; intro h; cases h
 ·have hh : hapB (aft B) E = (aft B, if inB E.kind 1 6 = true then 7 else 4) := by unfold hapB; rw [if_pos (by show 1000000 < B.now + 1; omega)]
  unfold progAns seaAns befB
  rw [if_pos hv, if_pos hv, if_pos (by omega : 1000000 ≤ B.now), hh]
  simp only
  rw [if_neg (by split <;> decide)]
theorem Valid.fits {B : Bk} (hV : Valid B) (hZ : B.sized) : 0 ≤ B.now ∧ B.now ≤ 1000000 ∧ Fit (aft B) ∧ Placed (aft B) ∧ wfC (aft B) ∧ uniqC (aft B) := by
 obtain ⟨hn0, hn1⟩ := inB_iff.1 hV.now
 refine ⟨hn0, hn1, ⟨Nat.le_trans hV.ls (by omega), Nat.le_trans hV.lc (by omega), Nat.le_trans hV.lb (by omega), hZ, uniq_of (B := B) hV.svcs, uniqB_of (B := B) hV.bts, fun i j s t hij hs ht => svcs_less (allTo_at hV.svcs) j i s t hij hs ht, fun i j s t hij hs ht => bts_less (allTo_at hV.bts) j i s t hij hs ht⟩, ⟨fun t ht e => ?_, fun c hc hs => ?_, uniqB_of (B := B) hV.bts⟩, fun c hc => ?_, uniqC_of (B := B) hV.cps⟩
 ·have h := hV.btName ht
  rw [e] at h
  exact absurd h (by decide)
 ·have h := (cpB_in (cpB_of hV.cps hc)).2
  unfold berthOk at h
  rw [if_pos hs] at h
  refine same_nm.1 ?_
  rw [List.isEmpty_iff.1 h, ByteArray.toList_eq]
  rfl
 ·obtain ⟨s, hs, hok⟩ := hV.svc hc
  have hi := hV.svcIn (svcOf_mem hs)
  have h0 := hi.next0
  have h1 := hi.next1
  unfold cpOk at hok
  simp only [Bool.and_eq_true, inB_iff] at hok
  have e : wrap64 (s.next - 1) = s.next - 1 := by unfold wrap64; omega
  rw [e] at hok
  exact WalkArith.wf_i64 (by omega)
theorem implSea_any (B : Bk) (E : Ev) (a1 a2 a3 : Option Addr) (c1 c2 c3 : Nat) (w : World) (hS : B.small) (hZ : B.sized) (hwf : (Lit.int .i64 E.number).wf = true) (hE : E.sized) (hB : BkAt w a1 a2 a3 B) :
  Calls Tryz.prog 17 #[.agg #[.int .i64 B.now, .slice a1 B.svcs.length c1, .slice a2 B.cps.length c2, .slice a3 B.bts.length c3], .agg #[.int .i64 E.kind, .string E.service.name, .int .i64 E.service.version, .bool E.service.gone, .int .i64 E.service.image, .int .i64 E.service.want, .int .i64 E.service.down, .int .i64 E.service.over, .int .i64 E.service.next, .int .i64 E.service.per, .int .i64 E.service.least, .int .i64 E.service.most, .int .i64 E.service.load, .int .i64 E.service.cool, .string E.name, .int .i64 E.number, .bool E.flag]] w fun e w' => ∃ (x1 x2 x3 : Option Addr) (p1 p2 p3 : Nat), e = .returned (.tuple #[.agg #[.int .i64 (seaAns B E).1.now, .slice x1 (seaAns B E).1.svcs.length p1, .slice x2 (seaAns B E).1.cps.length p2, .slice x3 (seaAns B E).1.bts.length p3], .int .i64 (seaAns B E).2]) ∧ BkOf w' w.heap.size (seaAns B E).1 x1 x2 x3 p1 p2 p3 ∧ Below w.heap.size w w' := by
 have h := implSea_of B E a1 a2 a3 c1 c2 c3 w hS hZ (fun hv => (validB_iff.1 hv).fits hZ) hwf hE hB
 rw [prog_sea] at h
 exact h
end Go.Proofs.YtbceafpodamnfabGreat

namespace Go.Proofs.YtbceafpodamnfabGreat
open Go.RowKit Go.Sort
theorem Tryz.infosStrJ : (Tryz.prog.info? 9).map (·.size) = some 1 := by kernel_rfl
theorem Tryz.infosBoolJ : (Tryz.prog.info? 4).map (·.size) = some 1 := by kernel_rfl
set_option maxRecDepth 100000 in
set_option maxHeartbeats 4000000 in
theorem szEvent_any (E : Ev) (left : Int) (w : World) (hE : E.sized) (h0 : 0 ≤ left) (h1 : left ≤ 1048576) :
  Calls Tryz.prog 14 #[.agg #[.int .i64 E.kind, .string E.service.name, .int .i64 E.service.version, .bool E.service.gone, .int .i64 E.service.image, .int .i64 E.service.want, .int .i64 E.service.down, .int .i64 E.service.over, .int .i64 E.service.next, .int .i64 E.service.per, .int .i64 E.service.least, .int .i64 E.service.most, .int .i64 E.service.load, .int .i64 E.service.cool, .string E.name, .int .i64 E.number, .bool E.flag], .int .i64 left] w fun e w' => ∃ r, e = .returned (.int .i64 r) ∧ -1 ≤ r ∧ r ≤ left ∧ Below w.heap.size w w' := by
 obtain ⟨hz1, hz2⟩ := hE
 unfold maxLen at hz2
 obtain ⟨W0, hW0⟩ : ∃ W, w.alloc (.cells #[.int .i64 E.kind, .string E.service.name, .int .i64 E.service.version, .bool E.service.gone, .int .i64 E.service.image, .int .i64 E.service.want, .int .i64 E.service.down, .int .i64 E.service.over, .int .i64 E.service.next, .int .i64 E.service.per, .int .i64 E.service.least, .int .i64 E.service.most, .int .i64 E.service.load, .int .i64 E.service.cool, .string E.name, .int .i64 E.number, .bool E.flag] 44) = W := ⟨_, rfl⟩
 have hb0 := below_box w (.cells #[.int .i64 E.kind, .string E.service.name, .int .i64 E.service.version, .bool E.service.gone, .int .i64 E.service.image, .int .i64 E.service.want, .int .i64 E.service.down, .int .i64 E.service.over, .int .i64 E.service.next, .int .i64 E.service.per, .int .i64 E.service.least, .int .i64 E.service.most, .int .i64 E.service.load, .int .i64 E.service.cool, .string E.name, .int .i64 E.number, .bool E.flag] 44)
 have T0 : Hid (W0.heap[w.heap.size]? = some (.cells #[.int .i64 E.kind, .string E.service.name, .int .i64 E.service.version, .bool E.service.gone, .int .i64 E.service.image, .int .i64 E.service.want, .int .i64 E.service.down, .int .i64 E.service.over, .int .i64 E.service.next, .int .i64 E.service.per, .int .i64 E.service.least, .int .i64 E.service.most, .int .i64 E.service.load, .int .i64 E.service.cool, .string E.name, .int .i64 E.number, .bool E.flag] 44 (0, 0))) := by unfold Hid; rw [← hW0]; exact heap_alloc_new w (.cells #[.int .i64 E.kind, .string E.service.name, .int .i64 E.service.version, .bool E.service.gone, .int .i64 E.service.image, .int .i64 E.service.want, .int .i64 E.service.down, .int .i64 E.service.over, .int .i64 E.service.next, .int .i64 E.service.per, .int .i64 E.service.least, .int .i64 E.service.most, .int .i64 E.service.load, .int .i64 E.service.cool, .string E.name, .int .i64 E.number, .bool E.flag] 44)
 rw [hW0] at hb0
 have hl0 := (Array.getElem?_eq_some_iff.1 T0.out).1
 have q0 := blk_cell T0.out 0 rfl
 have q1 := blk_cell T0.out 1 rfl
 have q2 := blk_cell T0.out 2 rfl
 have q3 := blk_cell T0.out 3 rfl
 have q4 := blk_cell T0.out 4 rfl
 have q5 := blk_cell T0.out 5 rfl
 have q6 := blk_cell T0.out 6 rfl
 have q7 := blk_cell T0.out 7 rfl
 have q8 := blk_cell T0.out 8 rfl
 have q9 := blk_cell T0.out 9 rfl
 have q10 := blk_cell T0.out 10 rfl
 have q11 := blk_cell T0.out 11 rfl
 have q12 := blk_cell T0.out 12 rfl
 have q13 := blk_cell T0.out 13 rfl
 go_enter Tryz.func14, Tryz.ntmps14
 go_upto_region 1 with fail
 clear hW0
 go_wp2_with fail
 refine (szService_any E.service left W0 h0 h1 hz1).mono ?_
 rintro e w1 ⟨r, rfl, hr0, hr1, hbq⟩
 have T1 : Hid _ := below_blk hbq T0.out hl0
 have hb1 : Below w.heap.size w w1 := hb0.trans (hbq.mono' hb0.size)
 have p14 := blk_cell T1.out 14 rfl
 clear hbq q1 q2 q3 q4 q5 q6 q7 q8 q9 q10 q11 q12 q13 T0
 by_cases hneg : r < 0
 ·go_wp2
  go_ret
  exact ⟨-1, rfl, by omega, by omega, hb1⟩
 by_cases hneg2 : r - E.name.size < 0
 ·go_wp2
  go_ret
  exact ⟨-1, rfl, by omega, by omega, hb1⟩
 go_wp2
 go_ret
 exact ⟨_, rfl, by omega, by omega, hb1⟩
set_option maxRecDepth 100000 in
set_option maxHeartbeats 16000000 in
theorem toEvent_any (E : Ev) (w : World) :
  Calls Tryz.prog 16 #[.agg #[.int .i64 E.kind, .string E.service.name, .int .i64 E.service.version, .bool E.service.gone, .int .i64 E.service.image, .int .i64 E.service.want, .int .i64 E.service.down, .int .i64 E.service.over, .int .i64 E.service.next, .int .i64 E.service.per, .int .i64 E.service.least, .int .i64 E.service.most, .int .i64 E.service.load, .int .i64 E.service.cool, .string E.name, .int .i64 E.number, .bool E.flag]] w fun e w' => e = .returned (.agg #[.int .i64 E.kind, .string E.service.name, .int .i64 E.service.version, .bool E.service.gone, .int .i64 E.service.image, .int .i64 E.service.want, .int .i64 E.service.down, .int .i64 E.service.over, .int .i64 E.service.next, .int .i64 E.service.per, .int .i64 E.service.least, .int .i64 E.service.most, .int .i64 E.service.load, .int .i64 E.service.cool, .string E.name, .int .i64 E.number, .bool E.flag]) ∧ Below w.heap.size w w' := by
 obtain ⟨W0, hW0, t0, t1, t2, hz0, hz0', hb0⟩ := three_newV w (.cells #[.int .i64 E.kind, .string E.service.name, .int .i64 E.service.version, .bool E.service.gone, .int .i64 E.service.image, .int .i64 E.service.want, .int .i64 E.service.down, .int .i64 E.service.over, .int .i64 E.service.next, .int .i64 E.service.per, .int .i64 E.service.least, .int .i64 E.service.most, .int .i64 E.service.load, .int .i64 E.service.cool, .string E.name, .int .i64 E.number, .bool E.flag] 44) (.cells #[.int .i64 0, .string ⟨#[]⟩, .int .i64 0, .bool false, .int .i64 0, .int .i64 0, .int .i64 0, .int .i64 0, .int .i64 0, .int .i64 0, .int .i64 0, .int .i64 0, .int .i64 0, .int .i64 0, .string ⟨#[]⟩, .int .i64 0, .bool false] 50) (.cells #[.int .i64 0, .string ⟨#[]⟩, .int .i64 0, .bool false, .int .i64 0, .int .i64 0, .int .i64 0, .int .i64 0, .int .i64 0, .int .i64 0, .int .i64 0, .int .i64 0, .int .i64 0, .int .i64 0, .string ⟨#[]⟩, .int .i64 0, .bool false] 50)
 have T0 : Hid _ := t0
 have R0 : Hid _ := t1
 have S0 : Hid _ := t2
 clear t0 t1 t2
 have q0 := blk_cell T0.out 0 rfl
 have q1 := blk_cell T0.out 1 rfl
 have q2 := blk_cell T0.out 2 rfl
 have q3 := blk_cell T0.out 3 rfl
 have q4 := blk_cell T0.out 4 rfl
 have q5 := blk_cell T0.out 5 rfl
 have q6 := blk_cell T0.out 6 rfl
 have q7 := blk_cell T0.out 7 rfl
 have q8 := blk_cell T0.out 8 rfl
 have q9 := blk_cell T0.out 9 rfl
 have q10 := blk_cell T0.out 10 rfl
 have q11 := blk_cell T0.out 11 rfl
 have q12 := blk_cell T0.out 12 rfl
 have q13 := blk_cell T0.out 13 rfl
 go_enter Tryz.func16, Tryz.ntmps16
 go_upto_region 2 with fail
 clear hW0
 go_upto_region 3 with (refine wpList_store_one rfl 3 (.tmp 6) (.tmp 5) rfl (w.heap.size + 1 + 1) 0 (.int .i64 E.kind) rfl rfl Tryz.infosIntX rfl rfl 50 #[.int .i64 0, .string ⟨#[]⟩, .int .i64 0, .bool false, .int .i64 0, .int .i64 0, .int .i64 0, .int .i64 0, .int .i64 0, .int .i64 0, .int .i64 0, .int .i64 0, .int .i64 0, .int .i64 0, .string ⟨#[]⟩, .int .i64 0, .bool false] S0.out (Nat.le_of_ble_eq_true rfl) ?_; intro w1 hz on; have S1 : Hid (w1.heap[(w.heap.size + 1 + 1)]? = some (.cells #[.int .i64 E.kind, .string ⟨#[]⟩, .int .i64 0, .bool false, .int .i64 0, .int .i64 0, .int .i64 0, .int .i64 0, .int .i64 0, .int .i64 0, .int .i64 0, .int .i64 0, .int .i64 0, .int .i64 0, .string ⟨#[]⟩, .int .i64 0, .bool false] 50 (0, 0))) := hz; have hb1 : Below w.heap.size w w1 := hb0.trans (on.below.mono' (by omega)); have T1 : Hid _ := (on.other _ (by omega)).trans T0.out; have R1 : Hid _ := (on.other _ (by omega)).trans R0.out; clear hz on)
 have hz1 : w.heap.size + 1 + 1 < w1.heap.size := (Array.getElem?_eq_some_iff.1 S1.out).1
 clear q1 q2 q3 q4 q5 q6 q7 q8 q9 q10 q11 q12 q13 q0
 have q1 := blk_cell T1.out 1 rfl
 have q2 := blk_cell T1.out 2 rfl
 have q3 := blk_cell T1.out 3 rfl
 have q4 := blk_cell T1.out 4 rfl
 have q5 := blk_cell T1.out 5 rfl
 have q6 := blk_cell T1.out 6 rfl
 have q7 := blk_cell T1.out 7 rfl
 have q8 := blk_cell T1.out 8 rfl
 have q9 := blk_cell T1.out 9 rfl
 have q10 := blk_cell T1.out 10 rfl
 have q11 := blk_cell T1.out 11 rfl
 have q12 := blk_cell T1.out 12 rfl
 have q13 := blk_cell T1.out 13 rfl
 go_wp2_with fail
 refine (toService_any E.service w1).mono ?_
 rintro e w2 ⟨rfl, hbq⟩
 have T2 : Hid _ := below_blk hbq T1.out (by omega)
 have R2 : Hid _ := below_blk hbq R1.out (by omega)
 have S2 : Hid _ := below_blk hbq S1.out hz1
 have hb2 : Below w.heap.size w w2 := hb1.trans (hbq.mono' hb1.size)
 clear hbq q1 q2 q3 q4 q5 q6 q7 q8 q9 q10 q11 q12 q13 T0 T1 R0 R1 S0 S1 hb0 hb1
 have q14 := blk_cell T2.out 14 rfl
 go_upto_region 4 with (refine wpList_store_only rfl 48 (.tmp 10) (.tmp 9) rfl (w.heap.size + 1 + 1) 1 #[.string E.service.name, .int .i64 E.service.version, .bool E.service.gone, .int .i64 E.service.image, .int .i64 E.service.want, .int .i64 E.service.down, .int .i64 E.service.over, .int .i64 E.service.next, .int .i64 E.service.per, .int .i64 E.service.least, .int .i64 E.service.most, .int .i64 E.service.load, .int .i64 E.service.cool] rfl rfl 50 #[.int .i64 E.kind, .string ⟨#[]⟩, .int .i64 0, .bool false, .int .i64 0, .int .i64 0, .int .i64 0, .int .i64 0, .int .i64 0, .int .i64 0, .int .i64 0, .int .i64 0, .int .i64 0, .int .i64 0, .string ⟨#[]⟩, .int .i64 0, .bool false] S2.out Tryz.infosSvcX (Nat.le_of_ble_eq_true rfl) (by simp [Value.oneCell']) ?_; intro w3 hz on; have S3 : Hid (w3.heap[(w.heap.size + 1 + 1)]? = some (.cells #[.int .i64 E.kind, .string E.service.name, .int .i64 E.service.version, .bool E.service.gone, .int .i64 E.service.image, .int .i64 E.service.want, .int .i64 E.service.down, .int .i64 E.service.over, .int .i64 E.service.next, .int .i64 E.service.per, .int .i64 E.service.least, .int .i64 E.service.most, .int .i64 E.service.load, .int .i64 E.service.cool, .string ⟨#[]⟩, .int .i64 0, .bool false] 50 (0, 0))) := hz; have hb3 : Below w.heap.size w w3 := hb2.trans (on.below.mono' (by omega)); have T3 : Hid _ := (on.other _ (by omega)).trans T2.out; have R3 : Hid _ := (on.other _ (by omega)).trans R2.out; clear hz on)
 clear q14
 have q14 := blk_cell T3.out 14 rfl
 go_upto_region 5 with (refine wpList_store_one rfl 9 (.tmp 13) (.tmp 12) rfl (w.heap.size + 1 + 1) 14 (.string E.name) rfl rfl Tryz.infosStrJ rfl rfl 50 #[.int .i64 E.kind, .string E.service.name, .int .i64 E.service.version, .bool E.service.gone, .int .i64 E.service.image, .int .i64 E.service.want, .int .i64 E.service.down, .int .i64 E.service.over, .int .i64 E.service.next, .int .i64 E.service.per, .int .i64 E.service.least, .int .i64 E.service.most, .int .i64 E.service.load, .int .i64 E.service.cool, .string ⟨#[]⟩, .int .i64 0, .bool false] S3.out (Nat.le_of_ble_eq_true rfl) ?_; intro w4 hz on; have S4 : Hid (w4.heap[(w.heap.size + 1 + 1)]? = some (.cells #[.int .i64 E.kind, .string E.service.name, .int .i64 E.service.version, .bool E.service.gone, .int .i64 E.service.image, .int .i64 E.service.want, .int .i64 E.service.down, .int .i64 E.service.over, .int .i64 E.service.next, .int .i64 E.service.per, .int .i64 E.service.least, .int .i64 E.service.most, .int .i64 E.service.load, .int .i64 E.service.cool, .string E.name, .int .i64 0, .bool false] 50 (0, 0))) := hz; have hb4 : Below w.heap.size w w4 := hb3.trans (on.below.mono' (by omega)); have T4 : Hid _ := (on.other _ (by omega)).trans T3.out; have R4 : Hid _ := (on.other _ (by omega)).trans R3.out; clear hz on)
 clear q14
 have q15 := blk_cell T4.out 15 rfl
 go_upto_region 6 with (refine wpList_store_one rfl 3 (.tmp 16) (.tmp 15) rfl (w.heap.size + 1 + 1) 15 (.int .i64 E.number) rfl rfl Tryz.infosIntX rfl rfl 50 #[.int .i64 E.kind, .string E.service.name, .int .i64 E.service.version, .bool E.service.gone, .int .i64 E.service.image, .int .i64 E.service.want, .int .i64 E.service.down, .int .i64 E.service.over, .int .i64 E.service.next, .int .i64 E.service.per, .int .i64 E.service.least, .int .i64 E.service.most, .int .i64 E.service.load, .int .i64 E.service.cool, .string E.name, .int .i64 0, .bool false] S4.out (Nat.le_of_ble_eq_true rfl) ?_; intro w5 hz on; have S5 : Hid (w5.heap[(w.heap.size + 1 + 1)]? = some (.cells #[.int .i64 E.kind, .string E.service.name, .int .i64 E.service.version, .bool E.service.gone, .int .i64 E.service.image, .int .i64 E.service.want, .int .i64 E.service.down, .int .i64 E.service.over, .int .i64 E.service.next, .int .i64 E.service.per, .int .i64 E.service.least, .int .i64 E.service.most, .int .i64 E.service.load, .int .i64 E.service.cool, .string E.name, .int .i64 E.number, .bool false] 50 (0, 0))) := hz; have hb5 : Below w.heap.size w w5 := hb4.trans (on.below.mono' (by omega)); have T5 : Hid _ := (on.other _ (by omega)).trans T4.out; have R5 : Hid _ := (on.other _ (by omega)).trans R4.out; clear hz on)
 clear q15
 have q16 := blk_cell T5.out 16 rfl
 go_upto_region 7 with (refine wpList_store_one rfl 4 (.tmp 19) (.tmp 18) rfl (w.heap.size + 1 + 1) 16 (.bool E.flag) rfl rfl Tryz.infosBoolJ rfl rfl 50 #[.int .i64 E.kind, .string E.service.name, .int .i64 E.service.version, .bool E.service.gone, .int .i64 E.service.image, .int .i64 E.service.want, .int .i64 E.service.down, .int .i64 E.service.over, .int .i64 E.service.next, .int .i64 E.service.per, .int .i64 E.service.least, .int .i64 E.service.most, .int .i64 E.service.load, .int .i64 E.service.cool, .string E.name, .int .i64 E.number, .bool false] S5.out (Nat.le_of_ble_eq_true rfl) ?_; intro w6 hz on; have S6 : Hid (w6.heap[(w.heap.size + 1 + 1)]? = some (.cells #[.int .i64 E.kind, .string E.service.name, .int .i64 E.service.version, .bool E.service.gone, .int .i64 E.service.image, .int .i64 E.service.want, .int .i64 E.service.down, .int .i64 E.service.over, .int .i64 E.service.next, .int .i64 E.service.per, .int .i64 E.service.least, .int .i64 E.service.most, .int .i64 E.service.load, .int .i64 E.service.cool, .string E.name, .int .i64 E.number, .bool E.flag] 50 (0, 0))) := hz; have hb6 : Below w.heap.size w w6 := hb5.trans (on.below.mono' (by omega)); have T6 : Hid _ := (on.other _ (by omega)).trans T5.out; have R6 : Hid _ := (on.other _ (by omega)).trans R5.out; clear hz on)
 clear q16
 go_wp2_with (first
  | (refine wpList_load_row rfl 50 (.tmp 3) rfl (w.heap.size + 1 + 1) rfl 50 #[.int .i64 E.kind, .string E.service.name, .int .i64 E.service.version, .bool E.service.gone, .int .i64 E.service.image, .int .i64 E.service.want, .int .i64 E.service.down, .int .i64 E.service.over, .int .i64 E.service.next, .int .i64 E.service.per, .int .i64 E.service.least, .int .i64 E.service.most, .int .i64 E.service.load, .int .i64 E.service.cool, .string E.name, .int .i64 E.number, .bool E.flag] (0, 0) _ S6.out Tryz.underlying50 rfl Tryz.infosEvI ?_)
  | (refine wpList_store_only rfl 50 (.tmp 2) (.tmp 20) rfl (w.heap.size + 1) 0 #[.int .i64 E.kind, .string E.service.name, .int .i64 E.service.version, .bool E.service.gone, .int .i64 E.service.image, .int .i64 E.service.want, .int .i64 E.service.down, .int .i64 E.service.over, .int .i64 E.service.next, .int .i64 E.service.per, .int .i64 E.service.least, .int .i64 E.service.most, .int .i64 E.service.load, .int .i64 E.service.cool, .string E.name, .int .i64 E.number, .bool E.flag] rfl rfl 50 #[.int .i64 0, .string ⟨#[]⟩, .int .i64 0, .bool false, .int .i64 0, .int .i64 0, .int .i64 0, .int .i64 0, .int .i64 0, .int .i64 0, .int .i64 0, .int .i64 0, .int .i64 0, .int .i64 0, .string ⟨#[]⟩, .int .i64 0, .bool false] R6.out Tryz.infosEvI (Nat.le_of_ble_eq_true rfl) (by simp [Value.oneCell']) ?_; intro w7 hz on; have R7 : Hid (w7.heap[w.heap.size + 1]? = some (.cells #[.int .i64 E.kind, .string E.service.name, .int .i64 E.service.version, .bool E.service.gone, .int .i64 E.service.image, .int .i64 E.service.want, .int .i64 E.service.down, .int .i64 E.service.over, .int .i64 E.service.next, .int .i64 E.service.per, .int .i64 E.service.least, .int .i64 E.service.most, .int .i64 E.service.load, .int .i64 E.service.cool, .string E.name, .int .i64 E.number, .bool E.flag] 50 (0, 0))) := hz; have hb7 : Below w.heap.size w w7 := hb6.trans (on.below.mono' (by omega)); clear hz on))
 exact bodyPost_ret (v := .agg #[.int .i64 E.kind, .string E.service.name, .int .i64 E.service.version, .bool E.service.gone, .int .i64 E.service.image, .int .i64 E.service.want, .int .i64 E.service.down, .int .i64 E.service.over, .int .i64 E.service.next, .int .i64 E.service.per, .int .i64 E.service.least, .int .i64 E.service.most, .int .i64 E.service.load, .int .i64 E.service.cool, .string E.name, .int .i64 E.number, .bool E.flag]) (results_cell_row rfl _ _ (w.heap.size + 1) _ _ _ _ rfl R7.out Tryz.underlying50 rfl Tryz.infosEvI) rfl ⟨rfl, hb7⟩
end Go.Proofs.YtbceafpodamnfabGreat

namespace Go.Proofs.YtbceafpodamnfabGreat
open Go.RowKit Go.Sort
end Go.Proofs.YtbceafpodamnfabGreat
