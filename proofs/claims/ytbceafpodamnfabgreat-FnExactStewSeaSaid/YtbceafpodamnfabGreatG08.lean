/-
  My own: Za, Xg, Xm, Ra.
-/
import Derived.Test.YtbceafpodamnfabGreatG01
import Derived.Test.YtbceafpodamnfabGreatG07
import Derived.Test.YtbceafpodamnfabGreatG04
import Derived.Test.YtbceafpodamnfabGreatG05
namespace Go.Proofs.YtbceafpodamnfabGreat
open Go.RowKit Go.Sort
def isC (sv : ByteArray) (num : Int) (c : Cp) : Bool := c.service.toList == sv.toList && c.number == num
def idxC (l : List Cp) (sv : ByteArray) (num : Int) : Int := idxOf (isC sv num) l
set_option maxHeartbeats 2000000 in
theorem l1Copy_any (B : Bk) (sv : ByteArray) (num : Int) (a1 a2 a3 : Option Addr) (c1 c2 c3 : Nat) (w : World) (hS : B.small) (hB : SlC w a2 B.cps) :
  Calls Tryz.prog 85 #[.agg #[.int .i64 B.now, .slice a1 B.svcs.length c1, .slice a2 B.cps.length c2, .slice a3 B.bts.length c3], .string sv, .int .i64 num] w fun e w' => e = .returned (.int .i64 (idxC B.cps sv num)) ∧ Below w.heap.size w w' := by
 obtain ⟨hl1, hl2, hl3⟩ := hS
 go_enter Tryz.func85, Tryz.ntmps85
 go_wp2
 go_loop [7] (fun i => ∃ k : Nat, k ≤ B.cps.length ∧ i = .int .i64 k ∧ Hid (∀ i, i < k → ∀ s, B.cps[i]? = some s → isC sv num s = false)) (fun i => B.cps.length - (intOf i).toNat)
 case atStart => exact ⟨0, by omega, rfl, fun i hi => absurd hi (by omega)⟩
 case round =>
  obtain ⟨k, hk, rfl, hno⟩ := hrel
  by_cases hlt : k < B.cps.length
  ·have hne : B.cps ≠ [] := by intro h; rw [h] at hlt; simp at hlt
   obtain ⟨b, off, rfl, hbs, hat⟩ := hB hne
   obtain ⟨s, hsk⟩ : ∃ s, B.cps[k]? = some s := ⟨B.cps[k], by simp [hlt]⟩
   have HSK : Hid (B.cps[k]? = some s) := hsk
   have hc := hat k s hsk
   unfold CpAt at hc
   have hc0 := hc.1
   have hc1 := hc.2.1
   clear hat hc hsk hne
   cases hq : (s.service.toList == sv.toList)
   ·have HN : Hid (isC sv num s = false) := by unfold Hid isC; rw [hq]; rfl
    go_wp2
    go_round
    case rel =>
     refine ⟨k + 1, by omega, by go_num, fun i hi t ht => ?_⟩
     rcases Nat.lt_or_ge i k with h' | h'
     ·exact hno.out i h' t ht
     ·have e : i = k := by omega
      subst e
      rw [HSK.out] at ht; cases ht; exact HN.out
    case measure => simp [intOf]; omega
   cases hq2 : (s.number == num)
   ·have HN : Hid (isC sv num s = false) := by unfold Hid isC; rw [hq, hq2]; rfl
    go_wp2
    go_round
    case rel =>
     refine ⟨k + 1, by omega, by go_num, fun i hi t ht => ?_⟩
     rcases Nat.lt_or_ge i k with h' | h'
     ·exact hno.out i h' t ht
     ·have e : i = k := by omega
      subst e
      rw [HSK.out] at ht; cases ht; exact HN.out
    case measure => simp [intOf]; omega
   ·have HN : Hid (isC sv num s = true) := by unfold Hid isC; rw [hq, hq2]; rfl
    go_wp2
    go_ret
    exact ⟨ret_int (idxOf_here HSK.out HN.out hno.out).symm, below_box _ _⟩
  ·go_wp2
   go_ret
   exact ⟨ret_int (idxOf_none fun i s hs => hno.out i (by have := (List.getElem?_eq_some_iff.1 hs).1; omega) s hs).symm, below_box _ _⟩
end Go.Proofs.YtbceafpodamnfabGreat

namespace Go.Proofs.YtbceafpodamnfabGreat
open Go.RowKit Go.Sort
structure Ev where
 kind : Int
 service : Svc
 name : ByteArray
 number : Int
 flag : Bool
def atIdx {α : Type} (p : α → Bool) (l : List α) : Option (Nat × α) := match l.findIdx? p with
 | some i => (l[i]?).map fun x => (i, x)
 | none => none
theorem atIdx_some {α : Type} {p : α → Bool} {l : List α} {i : Nat} {x : α} (h : atIdx p l = some (i, x)) : idxOf p l = (i : Int) ∧ l[i]? = some x ∧ p x = true := by
 unfold atIdx at h
 cases hf : l.findIdx? p with
 | none => rw [hf] at h; cases h
 | some j =>
  rw [hf] at h
  simp only at h
  cases hg : l[j]? with
  | none => rw [hg] at h; cases h
  | some y =>
   rw [hg] at h
   simp only [Option.map_some] at h
   have h' := Option.some.inj h
   injection h' with h1 h2
   subst h1 h2
   refine ⟨by unfold idxOf; rw [hf], hg, ?_⟩
   obtain ⟨hlt, hp, _⟩ := List.findIdx?_eq_some_iff_getElem.1 hf
   have : y = l[j] := by rw [List.getElem?_eq_getElem hlt] at hg; exact (Option.some.inj hg).symm
   rw [this]
   exact hp
theorem atIdx_none {α : Type} {p : α → Bool} {l : List α} (h : atIdx p l = none) : idxOf p l = -1 := by
 unfold atIdx at h
 cases hf : l.findIdx? p with
 | none => unfold idxOf; rw [hf]
 | some j =>
  rw [hf] at h
  simp only at h
  have hlt := (List.findIdx?_eq_some_iff_getElem.1 hf).1
  rw [List.getElem?_eq_getElem hlt] at h
  cases h
def failB (B : Bk) (nm : ByteArray) (num v : Int) : Bk × Int := match atIdx (isC nm num) B.cps with
 | some (i, c) => if c.state = 3 ∨ c.state = 2 then ({ B with now := v, cps := B.cps.set i { c with state := 4, version := v } }, 0) else (B, 3)
 | none => (B, 3)
def sinkB (B : Bk) (nm : ByteArray) (v : Int) : Bk × Int := match atIdx (fun t : Bt => t.name.toList == nm.toList) B.bts with
 | some (i, _) => ({ B with now := v, bts := B.bts.take i ++ B.bts.drop (i + 1), cps := B.cps.filter fun c => !(c.berth.toList == nm.toList) }, 0)
 | none => (B, 3)
def loadB (B : Bk) (nm : ByteArray) (num v : Int) : Bk × Int := match atIdx (fun s : Svc => s.name.toList == nm.toList) B.svcs with
 | some (i, s) => if s.per = 0 then (B, 3) else ({ B with now := v, svcs := B.svcs.set i { s with load := num, version := v } }, 0)
 | none => (B, 3)
def seaOf (B : Bk) (E : Ev) : Bk × Int :=
 if E.kind = 1 then ({ tickB B (B.now + 1) with now := B.now + 1 }, 0)
 else if E.kind = 2 then ({ wishB B E.service (B.now + 1) with now := B.now + 1 }, 0)
 else if E.kind = 3 then failB B E.name E.number (B.now + 1)
 else if E.kind = 4 then sinkB B E.name (B.now + 1)
 else if E.kind = 5 then ({ raiseB B E.name E.flag with now := B.now + 1 }, 0)
 else if E.kind = 6 then loadB B E.name E.number (B.now + 1)
 else (B, 4)
structure KeepBut (g1 g2 : Nat) (w w' : World) : Prop where
 os : w'.os = w.os
 tape : w'.tape = w.tape
 output : w'.output = w.output
 size : w.heap.size ≤ w'.heap.size
 block : ∀ q, q < w.heap.size → q ≠ g1 → q ≠ g2 → w'.heap[q]? = w.heap[q]?
theorem keepBut_of {g1 g2 : Nat} {w w' : World} (h : Below w.heap.size w w') : KeepBut g1 g2 w w' := ⟨h.os, h.tape, h.output, h.size, fun q hq _ _ => h.block q hq⟩
theorem KeepBut.only {g1 g2 g : Nat} {w w1 w2 : World} (h : KeepBut g1 g2 w w1) (on : Only g w1 w2) (hg : g = g1 ∨ g = g2 ∨ w.heap.size ≤ g) : KeepBut g1 g2 w w2 :=
 ⟨on.below.os.trans h.os, on.below.tape.trans h.tape, on.below.output.trans h.output, Nat.le_trans h.size on.below.size, fun q hq h1 h2 => (on.other q (by omega)).trans (h.block q hq h1 h2)⟩
theorem KeepBut.below {g1 g2 N : Nat} {w w' : World} (h : KeepBut g1 g2 w w') (h1 : N ≤ g1) (h2 : N ≤ g2) (hN : N ≤ w.heap.size) : Below N w w' := ⟨h.os, h.tape, h.output, h.size, fun q hq => h.block q (by omega) (by omega) (by omega)⟩
def SeaR (g1 g2 : Nat) (w : World) (B : Bk) (E : Ev) (e : Ending) (w' : World) : Prop := ∃ (q : Int) (b1 b2 b3 : Nat) (m1 d1 m2 d2 m3 d3 : Nat),
 e = .returned (.tuple #[.agg #[.int .i64 q, .slice (some ⟨b1, 0, none⟩) m1 d1, .slice (some ⟨b2, 0, none⟩) m2 d2, .slice (some ⟨b3, 0, none⟩) m3 d3], .int .i64 (seaOf B E).2]) ∧
 ((seaOf B E).2 = 0 → q = (seaOf B E).1.now ∧ m1 = (seaOf B E).1.svcs.length ∧ m2 = (seaOf B E).1.cps.length ∧ m3 = (seaOf B E).1.bts.length ∧ RowIs w' 48 13 b1 m1 d1 (svcsV (seaOf B E).1.svcs) ∧ RowIs w' 88 7 b2 m2 d2 (cpsV (seaOf B E).1.cps) ∧ RowIs w' 86 2 b3 m3 d3 (btsV (seaOf B E).1.bts)) ∧ KeepBut g1 g2 w w'
end Go.Proofs.YtbceafpodamnfabGreat

namespace Go.Proofs.YtbceafpodamnfabGreat
open Go.RowKit Go.Sort
def Ev.sized (E : Ev) : Prop := E.service.name.size ≤ maxLen ∧ E.name.size ≤ maxLen
def noBk : Bk := ⟨0, [], [], []⟩
def seaAns (B : Bk) (E : Ev) : Bk × Int :=
 if validB B = true then
  if 1000000 ≤ B.now then (B, if inB E.kind 1 6 = true then 7 else 4)
  else if (seaOf B E).2 = 0 then (if validB (seaOf B E).1 = true then ((seaOf B E).1, 0) else (B, 2)) else (B, (seaOf B E).2)
 else (noBk, 1)
theorem putIn_len {α : Type} (nm : α → List UInt8) (l : List α) (x : α) : (putIn nm l x).length ≤ l.length + 1 := by
 unfold putIn
 rw [List.length_append, List.length_cons, List.length_take]
 split
 ·split <;> rw [List.length_drop] <;> omega
 ·rw [List.length_drop]; omega
theorem putIn_mem {α : Type} {nm : α → List UInt8} {l : List α} {x y : α} (h : y ∈ putIn nm l x) : y = x ∨ y ∈ l := by
 unfold putIn at h
 rcases List.mem_append.1 h with h | h
 ·exact .inr (List.mem_of_mem_take h)
 ·rcases List.mem_cons.1 h with h | h
  ·exact .inl h
  ·right
   split at h
   ·split at h <;> exact List.mem_of_mem_drop h
   ·exact List.mem_of_mem_drop h
theorem leastTo_size {B : Bk} (hZ : ∀ t ∈ B.bts, t.name.size ≤ maxLen) : ∀ k, (leastTo B k).1.size ≤ maxLen
 | 0 => by show (⟨#[]⟩ : ByteArray).size ≤ maxLen; decide
 | k + 1 => by
  cases h : B.bts[k]? with
  | none =>
   have : leastTo B (k + 1) = leastTo B k := by
    unfold leastTo
    rw [List.take_add_one, h]
    simp
   rw [this]
   exact leastTo_size hZ k
  | some t =>
   rw [leastTo_succ h]
   unfold leastS
   split
   ·exact hZ t (List.mem_of_getElem? h)
   ·exact leastTo_size hZ k
theorem tickC_same (v : Int) (c : Cp) : (tickC v c).service = c.service ∧ (tickC v c).berth = c.berth := by
 unfold tickC
 split <;> exact ⟨rfl, rfl⟩
theorem tickTo_sized {B : Bk} {v : Int} (hZ : B.sized) : ∀ k, ∀ c ∈ (tickTo B v k).cps, c.service.size ≤ maxLen ∧ c.berth.size ≤ maxLen
 | 0 => fun c hc => by
  have hc' : c ∈ leftL v B.cps := hc
  unfold leftL at hc'
  obtain ⟨d, hd, rfl⟩ := List.mem_map.1 hc'
  rw [(tickC_same v d).1, (tickC_same v d).2]
  exact hZ.2.2.2.2.1 d ((List.mem_filter.1 hd).1)
 | k + 1 => fun c hc => by
  rw [tickTo_succ] at hc
  unfold placeAt at hc
  have ih := tickTo_sized (v := v) hZ k
  split at hc
  ·rename_i d hd
   split at hc
   ·rcases List.mem_or_eq_of_mem_set hc with h | h
    ·exact ih c h
    ·rw [h]
     refine ⟨(ih d (List.mem_of_getElem? hd)).1, ?_⟩
     show (leastB (tickTo B v k)).size ≤ maxLen
     unfold leastB
     refine leastTo_size ?_ _
     rw [(tickTo_same B v k).2.2.1]
     exact hZ.2.2.2.2.2
   ·exact ih c hc
  ·exact ih c hc
theorem atIdx_lt {α : Type} {p : α → Bool} {l : List α} {i : Nat} {x : α} (h : atIdx p l = some (i, x)) : i < l.length ∧ x ∈ l := by
 have := (atIdx_some h).2.1
 exact ⟨(List.getElem?_eq_some_iff.1 this).1, List.mem_of_getElem? this⟩
theorem seaOf_len (B : Bk) (E : Ev) : (seaOf B E).1.svcs.length ≤ B.svcs.length + 1 ∧ (seaOf B E).1.cps.length ≤ B.cps.length ∧ (seaOf B E).1.bts.length ≤ B.bts.length + 1 := by
 unfold seaOf
 split
 ·obtain ⟨_, q2, q3, q4⟩ := tickTo_same B (B.now + 1) (leftL (B.now + 1) B.cps).length
  refine ⟨?_, ?_, ?_⟩
  ·show (tickB B (B.now + 1)).svcs.length ≤ _; unfold tickB; rw [q2]; omega
  ·show (tickB B (B.now + 1)).cps.length ≤ _; unfold tickB; rw [q4]; exact leftL_len _ _
  ·show (tickB B (B.now + 1)).bts.length ≤ _; unfold tickB; rw [q3]; omega
 split
 ·exact ⟨putIn_len _ _ _, Nat.le_refl _, Nat.le_succ _⟩
 split
 ·unfold failB
  split
  ·split
   ·exact ⟨Nat.le_succ _, by simp, Nat.le_succ _⟩
   ·exact ⟨Nat.le_succ _, Nat.le_refl _, Nat.le_succ _⟩
  ·exact ⟨Nat.le_succ _, Nat.le_refl _, Nat.le_succ _⟩
 split
 ·unfold sinkB
  split
  ·exact ⟨Nat.le_succ _, List.length_filter_le _ _, by simp only [List.length_append, List.length_take, List.length_drop]; omega⟩
  ·exact ⟨Nat.le_succ _, Nat.le_refl _, Nat.le_succ _⟩
 split
 ·exact ⟨Nat.le_succ _, Nat.le_refl _, putIn_len _ _ _⟩
 split
 ·unfold loadB
  split
  ·split
   ·exact ⟨Nat.le_succ _, Nat.le_refl _, Nat.le_succ _⟩
   ·exact ⟨by simp, Nat.le_refl _, Nat.le_succ _⟩
  ·exact ⟨Nat.le_succ _, Nat.le_refl _, Nat.le_succ _⟩
 ·exact ⟨Nat.le_succ _, Nat.le_refl _, Nat.le_succ _⟩
theorem seaOf_names {B : Bk} {E : Ev} (hZ : B.sized) (hE : E.sized) : (∀ s ∈ (seaOf B E).1.svcs, s.name.size ≤ maxLen) ∧ (∀ c ∈ (seaOf B E).1.cps, c.service.size ≤ maxLen ∧ c.berth.size ≤ maxLen) ∧ (∀ t ∈ (seaOf B E).1.bts, t.name.size ≤ maxLen) := by
 have z1 := hZ.2.2.2.1
 have z2 := hZ.2.2.2.2.1
 have z3 := hZ.2.2.2.2.2
 unfold seaOf
 split
 ·refine ⟨?_, ?_, ?_⟩
  ·show ∀ s ∈ (tickB B (B.now + 1)).svcs, _; unfold tickB; rw [(tickTo_same B _ _).2.1]; exact z1
  ·exact tickTo_sized hZ _
  ·show ∀ s ∈ (tickB B (B.now + 1)).bts, _; unfold tickB; rw [(tickTo_same B _ _).2.2.1]; exact z3
 split
 ·refine ⟨fun s hs => ?_, z2, z3⟩
  rcases putIn_mem hs with h | h
  ·rw [h]; exact hE.1
  ·exact z1 s h
 split
 ·unfold failB
  split
  ·rename_i i c hi
   split
   ·refine ⟨z1, fun d hd => ?_, z3⟩
    rcases List.mem_or_eq_of_mem_set hd with h | h
    ·exact z2 d h
    ·rw [h]; exact z2 c (atIdx_lt hi).2
   ·exact ⟨z1, z2, z3⟩
  ·exact ⟨z1, z2, z3⟩
 split
 ·unfold sinkB
  split
  ·refine ⟨z1, fun d hd => z2 d ((List.mem_filter.1 hd).1), fun t ht => ?_⟩
   rcases List.mem_append.1 ht with h | h
   ·exact z3 t (List.mem_of_mem_take h)
   ·exact z3 t (List.mem_of_mem_drop h)
  ·exact ⟨z1, z2, z3⟩
 split
 ·refine ⟨z1, z2, fun t ht => ?_⟩
  rcases putIn_mem ht with h | h
  ·rw [h]; exact hE.2
  ·exact z3 t h
 split
 ·unfold loadB
  split
  ·rename_i i s hi
   split
   ·exact ⟨z1, z2, z3⟩
   ·refine ⟨fun d hd => ?_, z2, z3⟩
    rcases List.mem_or_eq_of_mem_set hd with h | h
    ·exact z1 d h
    ·rw [h]; exact z1 s (atIdx_lt hi).2
  ·exact ⟨z1, z2, z3⟩
 ·exact ⟨z1, z2, z3⟩
theorem seaOf_small {B : Bk} {E : Ev} (hV : validB B = true) : (seaOf B E).1.small := by
 unfold validB at hV
 simp only [Bool.and_eq_true, decide_eq_true_eq] at hV
 obtain ⟨h1, h2, h3⟩ := seaOf_len B E
 exact ⟨by omega, by omega, by omega⟩
theorem seaOf_sized {B : Bk} {E : Ev} (hV : validB B = true) (hZ : B.sized) (hE : E.sized) : (seaOf B E).1.sized := by
 obtain ⟨h1, h2, h3⟩ := seaOf_small (E := E) hV
 obtain ⟨q1, q2, q3⟩ := seaOf_names hZ hE
 exact ⟨by unfold maxLen; omega, by unfold maxLen; omega, by unfold maxLen; omega, q1, q2, q3⟩
end Go.Proofs.YtbceafpodamnfabGreat

namespace Go.Proofs.YtbceafpodamnfabGreat
open Go.RowKit
structure BkRow (w : World) (N g1 g2 g3 k1 k2 k3 : Nat) (B : Bk) : Prop where
 n1 : N ≤ g1
 n2 : N ≤ g2
 n3 : N ≤ g3
 svcs : RowIs w 48 13 g1 B.svcs.length k1 (svcsV B.svcs)
 cps : RowIs w 88 7 g2 B.cps.length k2 (cpsV B.cps)
 bts : RowIs w 86 2 g3 B.bts.length k3 (btsV B.bts)
theorem RowIs.ne {w : World} {e e' : TypeId} {size size' g g' n n' cap cap' : Nat} {xs xs' : List Value} (h : RowIs w e size g n cap xs) (h' : RowIs w e' size' g' n' cap' xs') (he : e ≠ e') : g ≠ g' := fun hg => by
 obtain ⟨_, _, cur, h1, _⟩ := h
 obtain ⟨_, _, cur', h2, _⟩ := h'
 rw [hg, h2] at h1
 injection h1 with h1
 injection h1 with _ h1
 exact he h1.symm
theorem BkRow.ne12 {w : World} {N g1 g2 g3 k1 k2 k3 : Nat} {B : Bk} (h : BkRow w N g1 g2 g3 k1 k2 k3 B) : g1 ≠ g2 := h.svcs.ne h.cps (by decide)
theorem BkRow.ne13 {w : World} {N g1 g2 g3 k1 k2 k3 : Nat} {B : Bk} (h : BkRow w N g1 g2 g3 k1 k2 k3 B) : g1 ≠ g3 := h.svcs.ne h.bts (by decide)
theorem BkRow.ne23 {w : World} {N g1 g2 g3 k1 k2 k3 : Nat} {B : Bk} (h : BkRow w N g1 g2 g3 k1 k2 k3 B) : g2 ≠ g3 := h.cps.ne h.bts (by decide)
theorem BkRow.at {w : World} {N g1 g2 g3 k1 k2 k3 : Nat} {B : Bk} (h : BkRow w N g1 g2 g3 k1 k2 k3 B) : BkAt w (some ⟨g1, 0, none⟩) (some ⟨g2, 0, none⟩) (some ⟨g3, 0, none⟩) B := ⟨h.svcs.slS, h.cps.slC, h.bts.slB⟩
theorem Tryz.infosBookR : (Tryz.prog.info? 34).map (·.size) = some 4 := by kernel_rfl
set_option maxRecDepth 100000 in
set_option maxHeartbeats 8000000 in
theorem l1Book_own (B : Bk) (a1 a2 a3 : Option Addr) (c1 c2 c3 : Nat) (w : World) (hS : B.small) (hB : BkAt w a1 a2 a3 B) :
  Calls Tryz.prog 42 #[.agg #[.int .i64 B.now, .slice a1 B.svcs.length c1, .slice a2 B.cps.length c2, .slice a3 B.bts.length c3]] w fun e w' => ∃ g1 k1 g2 k2 g3 k3, e = .returned (.agg #[.int .i64 B.now, .slice (some ⟨g1, 0, none⟩) B.svcs.length k1, .slice (some ⟨g2, 0, none⟩) B.cps.length k2, .slice (some ⟨g3, 0, none⟩) B.bts.length k3]) ∧ BkRow w' w.heap.size g1 g2 g3 k1 k2 k3 B ∧ Below w.heap.size w w' := by
 obtain ⟨hl1, hl2, hl3⟩ := hS
 obtain ⟨t0, t1, t2⟩ := two_new w (.cells #[.int .i64 B.now, .slice a1 B.svcs.length c1, .slice a2 B.cps.length c2, .slice a3 B.bts.length c3] 34) (.cells #[.int .i64 0, .slice none 0 0, .slice none 0 0, .slice none 0 0] 34)
 have T0 : Hid _ := t0
 have T1 : Hid _ := t1
 have HS2 : Hid _ := t2
 have hz0 : w.heap.size < ((w.alloc (.cells #[.int .i64 B.now, .slice a1 B.svcs.length c1, .slice a2 B.cps.length c2, .slice a3 B.bts.length c3] 34)).alloc (.cells #[.int .i64 0, .slice none 0 0, .slice none 0 0, .slice none 0 0] 34)).heap.size := by rw [HS2.out]; omega
 have hz1 : w.heap.size + 1 < ((w.alloc (.cells #[.int .i64 B.now, .slice a1 B.svcs.length c1, .slice a2 B.cps.length c2, .slice a3 B.bts.length c3] 34)).alloc (.cells #[.int .i64 0, .slice none 0 0, .slice none 0 0, .slice none 0 0] 34)).heap.size := by rw [HS2.out]; omega
 clear t0 t1 t2
 have hbb : Below w.heap.size w ((w.alloc (.cells #[.int .i64 B.now, .slice a1 B.svcs.length c1, .slice a2 B.cps.length c2, .slice a3 B.bts.length c3] 34)).alloc (.cells #[.int .i64 0, .slice none 0 0, .slice none 0 0, .slice none 0 0] 34)) := ((Below.refl _ _).alloc (Nat.le_refl _) _).alloc (by simp) _
 go_enter Tryz.func42, Tryz.ntmps42
 go_wp2
 refine wp_region_grows 15 (by kernel_rfl) (by kernel_rfl) ?_
 apply grow_eq
 ·intro V W K A hW hd hA hK
  simp only [putAll, List.getElem?_toArray, List.getElem?_cons_succ, List.getElem?_cons_zero, Option.bind_some, Act.put, List.setIfInBounds_toArray, List.set_cons_succ, List.set_cons_zero] at hA
  clear hd
  generalize V 0 = x0 at hA
  generalize V 1 = x1 at hA
  generalize V 2 = x2 at hA
  generalize V 3 = x3 at hA
  generalize V 4 = x4 at hA
  generalize V 5 = x5 at hA
  generalize V 6 = x6 at hA
  generalize V 7 = x7 at hA
  generalize V 8 = x8 at hA
  generalize V 9 = x9 at hA
  generalize V 10 = x10 at hA
  generalize V 11 = x11 at hA
  generalize V 12 = x12 at hA
  generalize V 13 = x13 at hA
  generalize V 14 = x14 at hA
  obtain rfl := hA
  go_wp2
  exact hK.out _ (Below.refl _ _)
 apply grow_eq
 ·intro V W K A hW hd hA hK
  have d0 : V 0 = _ := hd 0 (by kernel_rfl)
  simp only [putAll, List.getElem?_toArray, List.getElem?_cons_succ, List.getElem?_cons_zero, Option.bind_some, Act.put, List.setIfInBounds_toArray, List.set_cons_succ, List.set_cons_zero] at hA
  clear hd
  generalize V 0 = x0 at d0 hA
  generalize V 1 = x1 at hA
  generalize V 2 = x2 at hA
  generalize V 3 = x3 at hA
  generalize V 4 = x4 at hA
  generalize V 5 = x5 at hA
  generalize V 6 = x6 at hA
  generalize V 7 = x7 at hA
  generalize V 8 = x8 at hA
  generalize V 9 = x9 at hA
  generalize V 10 = x10 at hA
  generalize V 11 = x11 at hA
  generalize V 12 = x12 at hA
  generalize V 13 = x13 at hA
  generalize V 14 = x14 at hA
  subst d0
  obtain rfl := hA
  have e0 := blk_cell (below_blk hW T0.out hz0) 0 rfl
  go_wp2
  exact hK.out _ (Below.refl _ _)
 refine grow_op (fun v W => ∃ g, v = .slice (some ⟨g, 0, none⟩) 0 0 ∧ w.heap.size + 1 + 1 ≤ g ∧ W.heap[g]? = some (.cells #[] 48 (0, 0))) (fun v W W2 ⟨g, h1, h2, h3⟩ hb => ⟨g, h1, h2, below_blk hb h3 (Array.getElem?_eq_some_iff.1 h3).1⟩) ?_ ?_
 ·intro V W K A hW hd hA hK
  simp only [putAll, List.getElem?_toArray, List.getElem?_cons_succ, List.getElem?_cons_zero, Option.bind_some, Act.put, List.setIfInBounds_toArray, List.set_cons_succ, List.set_cons_zero] at hA
  clear hd
  generalize V 0 = x0 at hA
  generalize V 1 = x1 at hA
  generalize V 2 = x2 at hA
  generalize V 3 = x3 at hA
  generalize V 4 = x4 at hA
  generalize V 5 = x5 at hA
  generalize V 6 = x6 at hA
  generalize V 7 = x7 at hA
  generalize V 8 = x8 at hA
  generalize V 9 = x9 at hA
  generalize V 10 = x10 at hA
  generalize V 11 = x11 at hA
  generalize V 12 = x12 at hA
  generalize V 13 = x13 at hA
  generalize V 14 = x14 at hA
  obtain rfl := hA
  go_wp2
  exact hK.out _ _ (below_box W _) ⟨_, rfl, by have := hW.size; rw [HS2.out] at this; exact this, heap_alloc_new W _⟩
 apply grow_eq
 ·intro V W K A hW hd hA hK
  simp only [putAll, List.getElem?_toArray, List.getElem?_cons_succ, List.getElem?_cons_zero, Option.bind_some, Act.put, List.setIfInBounds_toArray, List.set_cons_succ, List.set_cons_zero] at hA
  clear hd
  generalize V 0 = x0 at hA
  generalize V 1 = x1 at hA
  generalize V 2 = x2 at hA
  generalize V 3 = x3 at hA
  generalize V 4 = x4 at hA
  generalize V 5 = x5 at hA
  generalize V 6 = x6 at hA
  generalize V 7 = x7 at hA
  generalize V 8 = x8 at hA
  generalize V 9 = x9 at hA
  generalize V 10 = x10 at hA
  generalize V 11 = x11 at hA
  generalize V 12 = x12 at hA
  generalize V 13 = x13 at hA
  generalize V 14 = x14 at hA
  obtain rfl := hA
  go_wp2
  exact hK.out _ (Below.refl _ _)
 apply grow_eq
 ·intro V W K A hW hd hA hK
  have d3 : V 3 = _ := hd 3 (by kernel_rfl)
  simp only [putAll, List.getElem?_toArray, List.getElem?_cons_succ, List.getElem?_cons_zero, Option.bind_some, Act.put, List.setIfInBounds_toArray, List.set_cons_succ, List.set_cons_zero] at hA
  clear hd
  generalize V 0 = x0 at hA
  generalize V 1 = x1 at hA
  generalize V 2 = x2 at hA
  generalize V 3 = x3 at d3 hA
  generalize V 4 = x4 at hA
  generalize V 5 = x5 at hA
  generalize V 6 = x6 at hA
  generalize V 7 = x7 at hA
  generalize V 8 = x8 at hA
  generalize V 9 = x9 at hA
  generalize V 10 = x10 at hA
  generalize V 11 = x11 at hA
  generalize V 12 = x12 at hA
  generalize V 13 = x13 at hA
  generalize V 14 = x14 at hA
  subst d3
  obtain rfl := hA
  have e1 := blk_cell (below_blk hW T0.out hz0) 1 rfl
  go_wp2
  exact hK.out _ (Below.refl _ _)
 refine grow_op (fun v W => ∃ g cap, v = .slice (some ⟨g, 0, none⟩) B.svcs.length cap ∧ w.heap.size + 1 + 1 ≤ g ∧ RowIs W 48 13 g B.svcs.length cap (svcsV B.svcs)) (fun v W W2 ⟨g, cap, h1, h2, h3⟩ hb => ⟨g, cap, h1, h2, h3.below hb h3.lt⟩) ?_ ?_
 ·intro V W K A hW hd hA hK
  have d2 : (fun v W => ∃ g, v = .slice (some ⟨g, 0, none⟩) 0 0 ∧ w.heap.size + 1 + 1 ≤ g ∧ W.heap[g]? = some (.cells #[] 48 (0, 0))) (V 2) W := hd 2 (by kernel_rfl)
  have d4 : V 4 = _ := hd 4 (by kernel_rfl)
  simp only [putAll, List.getElem?_toArray, List.getElem?_cons_succ, List.getElem?_cons_zero, Option.bind_some, Act.put, List.setIfInBounds_toArray, List.set_cons_succ, List.set_cons_zero] at hA
  clear hd
  generalize V 0 = x0 at hA
  generalize V 1 = x1 at hA
  generalize V 2 = x2 at d2 hA
  generalize V 3 = x3 at hA
  generalize V 4 = x4 at d4 hA
  generalize V 5 = x5 at hA
  generalize V 6 = x6 at hA
  generalize V 7 = x7 at hA
  generalize V 8 = x8 at hA
  generalize V 9 = x9 at hA
  generalize V 10 = x10 at hA
  generalize V 11 = x11 at hA
  generalize V 12 = x12 at hA
  generalize V 13 = x13 at hA
  generalize V 14 = x14 at hA
  subst d4
  obtain rfl := hA
  obtain ⟨g, rfl, hg, hgz⟩ := d2
  refine wpList_append_fresh rfl (.tmp 5) (.tmp 7) 30 rfl 48 _ 13 112 Tryz.underlying30 Tryz.infoService rfl g rfl hgz a1 B.svcs.length c1 (svcsV B.svcs) rfl (svcsV_len _) (hB.1.below (hbb.trans (hW.mono hbb.size))).src (svcsV_one _) (by unfold maxLen; omega) (by omega) ?_
  intro g' cap' w2 hg' hrow hb2
  have hgg : w.heap.size + 1 + 1 ≤ g' := by
   have := hW.size
   rw [HS2.out] at this
   rcases hg' with rfl | rfl
   ·exact hg
   ·exact this
  go_wp2
  exact hK.out _ _ hb2 ⟨g', cap', rfl, hgg, hrow.out⟩
 refine grow_op (fun v W => ∃ g, v = .slice (some ⟨g, 0, none⟩) 0 0 ∧ w.heap.size + 1 + 1 ≤ g ∧ W.heap[g]? = some (.cells #[] 88 (0, 0))) (fun v W W2 ⟨g, h1, h2, h3⟩ hb => ⟨g, h1, h2, below_blk hb h3 (Array.getElem?_eq_some_iff.1 h3).1⟩) ?_ ?_
 ·intro V W K A hW hd hA hK
  simp only [putAll, List.getElem?_toArray, List.getElem?_cons_succ, List.getElem?_cons_zero, Option.bind_some, Act.put, List.setIfInBounds_toArray, List.set_cons_succ, List.set_cons_zero] at hA
  clear hd
  generalize V 0 = x0 at hA
  generalize V 1 = x1 at hA
  generalize V 2 = x2 at hA
  generalize V 3 = x3 at hA
  generalize V 4 = x4 at hA
  generalize V 5 = x5 at hA
  generalize V 6 = x6 at hA
  generalize V 7 = x7 at hA
  generalize V 8 = x8 at hA
  generalize V 9 = x9 at hA
  generalize V 10 = x10 at hA
  generalize V 11 = x11 at hA
  generalize V 12 = x12 at hA
  generalize V 13 = x13 at hA
  generalize V 14 = x14 at hA
  obtain rfl := hA
  go_wp2
  exact hK.out _ _ (below_box W _) ⟨_, rfl, by have := hW.size; rw [HS2.out] at this; exact this, heap_alloc_new W _⟩
 apply grow_eq
 ·intro V W K A hW hd hA hK
  simp only [putAll, List.getElem?_toArray, List.getElem?_cons_succ, List.getElem?_cons_zero, Option.bind_some, Act.put, List.setIfInBounds_toArray, List.set_cons_succ, List.set_cons_zero] at hA
  clear hd
  generalize V 0 = x0 at hA
  generalize V 1 = x1 at hA
  generalize V 2 = x2 at hA
  generalize V 3 = x3 at hA
  generalize V 4 = x4 at hA
  generalize V 5 = x5 at hA
  generalize V 6 = x6 at hA
  generalize V 7 = x7 at hA
  generalize V 8 = x8 at hA
  generalize V 9 = x9 at hA
  generalize V 10 = x10 at hA
  generalize V 11 = x11 at hA
  generalize V 12 = x12 at hA
  generalize V 13 = x13 at hA
  generalize V 14 = x14 at hA
  obtain rfl := hA
  go_wp2
  exact hK.out _ (Below.refl _ _)
 apply grow_eq
 ·intro V W K A hW hd hA hK
  have d7 : V 7 = _ := hd 7 (by kernel_rfl)
  simp only [putAll, List.getElem?_toArray, List.getElem?_cons_succ, List.getElem?_cons_zero, Option.bind_some, Act.put, List.setIfInBounds_toArray, List.set_cons_succ, List.set_cons_zero] at hA
  clear hd
  generalize V 0 = x0 at hA
  generalize V 1 = x1 at hA
  generalize V 2 = x2 at hA
  generalize V 3 = x3 at hA
  generalize V 4 = x4 at hA
  generalize V 5 = x5 at hA
  generalize V 6 = x6 at hA
  generalize V 7 = x7 at d7 hA
  generalize V 8 = x8 at hA
  generalize V 9 = x9 at hA
  generalize V 10 = x10 at hA
  generalize V 11 = x11 at hA
  generalize V 12 = x12 at hA
  generalize V 13 = x13 at hA
  generalize V 14 = x14 at hA
  subst d7
  obtain rfl := hA
  have e2 := blk_cell (below_blk hW T0.out hz0) 2 rfl
  go_wp2
  exact hK.out _ (Below.refl _ _)
 refine grow_op (fun v W => ∃ g cap, v = .slice (some ⟨g, 0, none⟩) B.cps.length cap ∧ w.heap.size + 1 + 1 ≤ g ∧ RowIs W 88 7 g B.cps.length cap (cpsV B.cps)) (fun v W W2 ⟨g, cap, h1, h2, h3⟩ hb => ⟨g, cap, h1, h2, h3.below hb h3.lt⟩) ?_ ?_
 ·intro V W K A hW hd hA hK
  have d6 : (fun v W => ∃ g, v = .slice (some ⟨g, 0, none⟩) 0 0 ∧ w.heap.size + 1 + 1 ≤ g ∧ W.heap[g]? = some (.cells #[] 88 (0, 0))) (V 6) W := hd 6 (by kernel_rfl)
  have d8 : V 8 = _ := hd 8 (by kernel_rfl)
  simp only [putAll, List.getElem?_toArray, List.getElem?_cons_succ, List.getElem?_cons_zero, Option.bind_some, Act.put, List.setIfInBounds_toArray, List.set_cons_succ, List.set_cons_zero] at hA
  clear hd
  generalize V 0 = x0 at hA
  generalize V 1 = x1 at hA
  generalize V 2 = x2 at hA
  generalize V 3 = x3 at hA
  generalize V 4 = x4 at hA
  generalize V 5 = x5 at hA
  generalize V 6 = x6 at d6 hA
  generalize V 7 = x7 at hA
  generalize V 8 = x8 at d8 hA
  generalize V 9 = x9 at hA
  generalize V 10 = x10 at hA
  generalize V 11 = x11 at hA
  generalize V 12 = x12 at hA
  generalize V 13 = x13 at hA
  generalize V 14 = x14 at hA
  subst d8
  obtain rfl := hA
  obtain ⟨g, rfl, hg, hgz⟩ := d6
  refine wpList_append_fresh rfl (.tmp 9) (.tmp 11) 31 rfl 88 _ 7 72 Tryz.underlying31 Tryz.infoCopy rfl g rfl hgz a2 B.cps.length c2 (cpsV B.cps) rfl (cpsV_len _) (hB.2.1.below (hbb.trans (hW.mono hbb.size))).src (cpsV_one _) (by unfold maxLen; omega) (by omega) ?_
  intro g' cap' w2 hg' hrow hb2
  have hgg : w.heap.size + 1 + 1 ≤ g' := by
   have := hW.size
   rw [HS2.out] at this
   rcases hg' with rfl | rfl
   ·exact hg
   ·exact this
  go_wp2
  exact hK.out _ _ hb2 ⟨g', cap', rfl, hgg, hrow.out⟩
 refine grow_op (fun v W => ∃ g, v = .slice (some ⟨g, 0, none⟩) 0 0 ∧ w.heap.size + 1 + 1 ≤ g ∧ W.heap[g]? = some (.cells #[] 86 (0, 0))) (fun v W W2 ⟨g, h1, h2, h3⟩ hb => ⟨g, h1, h2, below_blk hb h3 (Array.getElem?_eq_some_iff.1 h3).1⟩) ?_ ?_
 ·intro V W K A hW hd hA hK
  simp only [putAll, List.getElem?_toArray, List.getElem?_cons_succ, List.getElem?_cons_zero, Option.bind_some, Act.put, List.setIfInBounds_toArray, List.set_cons_succ, List.set_cons_zero] at hA
  clear hd
  generalize V 0 = x0 at hA
  generalize V 1 = x1 at hA
  generalize V 2 = x2 at hA
  generalize V 3 = x3 at hA
  generalize V 4 = x4 at hA
  generalize V 5 = x5 at hA
  generalize V 6 = x6 at hA
  generalize V 7 = x7 at hA
  generalize V 8 = x8 at hA
  generalize V 9 = x9 at hA
  generalize V 10 = x10 at hA
  generalize V 11 = x11 at hA
  generalize V 12 = x12 at hA
  generalize V 13 = x13 at hA
  generalize V 14 = x14 at hA
  obtain rfl := hA
  go_wp2
  exact hK.out _ _ (below_box W _) ⟨_, rfl, by have := hW.size; rw [HS2.out] at this; exact this, heap_alloc_new W _⟩
 apply grow_eq
 ·intro V W K A hW hd hA hK
  simp only [putAll, List.getElem?_toArray, List.getElem?_cons_succ, List.getElem?_cons_zero, Option.bind_some, Act.put, List.setIfInBounds_toArray, List.set_cons_succ, List.set_cons_zero] at hA
  clear hd
  generalize V 0 = x0 at hA
  generalize V 1 = x1 at hA
  generalize V 2 = x2 at hA
  generalize V 3 = x3 at hA
  generalize V 4 = x4 at hA
  generalize V 5 = x5 at hA
  generalize V 6 = x6 at hA
  generalize V 7 = x7 at hA
  generalize V 8 = x8 at hA
  generalize V 9 = x9 at hA
  generalize V 10 = x10 at hA
  generalize V 11 = x11 at hA
  generalize V 12 = x12 at hA
  generalize V 13 = x13 at hA
  generalize V 14 = x14 at hA
  obtain rfl := hA
  go_wp2
  exact hK.out _ (Below.refl _ _)
 apply grow_eq
 ·intro V W K A hW hd hA hK
  have d11 : V 11 = _ := hd 11 (by kernel_rfl)
  simp only [putAll, List.getElem?_toArray, List.getElem?_cons_succ, List.getElem?_cons_zero, Option.bind_some, Act.put, List.setIfInBounds_toArray, List.set_cons_succ, List.set_cons_zero] at hA
  clear hd
  generalize V 0 = x0 at hA
  generalize V 1 = x1 at hA
  generalize V 2 = x2 at hA
  generalize V 3 = x3 at hA
  generalize V 4 = x4 at hA
  generalize V 5 = x5 at hA
  generalize V 6 = x6 at hA
  generalize V 7 = x7 at hA
  generalize V 8 = x8 at hA
  generalize V 9 = x9 at hA
  generalize V 10 = x10 at hA
  generalize V 11 = x11 at d11 hA
  generalize V 12 = x12 at hA
  generalize V 13 = x13 at hA
  generalize V 14 = x14 at hA
  subst d11
  obtain rfl := hA
  have e3 := blk_cell (below_blk hW T0.out hz0) 3 rfl
  go_wp2
  exact hK.out _ (Below.refl _ _)
 refine grow_op (fun v W => ∃ g cap, v = .slice (some ⟨g, 0, none⟩) B.bts.length cap ∧ w.heap.size + 1 + 1 ≤ g ∧ RowIs W 86 2 g B.bts.length cap (btsV B.bts)) (fun v W W2 ⟨g, cap, h1, h2, h3⟩ hb => ⟨g, cap, h1, h2, h3.below hb h3.lt⟩) ?_ ?_
 ·intro V W K A hW hd hA hK
  have d10 : (fun v W => ∃ g, v = .slice (some ⟨g, 0, none⟩) 0 0 ∧ w.heap.size + 1 + 1 ≤ g ∧ W.heap[g]? = some (.cells #[] 86 (0, 0))) (V 10) W := hd 10 (by kernel_rfl)
  have d12 : V 12 = _ := hd 12 (by kernel_rfl)
  simp only [putAll, List.getElem?_toArray, List.getElem?_cons_succ, List.getElem?_cons_zero, Option.bind_some, Act.put, List.setIfInBounds_toArray, List.set_cons_succ, List.set_cons_zero] at hA
  clear hd
  generalize V 0 = x0 at hA
  generalize V 1 = x1 at hA
  generalize V 2 = x2 at hA
  generalize V 3 = x3 at hA
  generalize V 4 = x4 at hA
  generalize V 5 = x5 at hA
  generalize V 6 = x6 at hA
  generalize V 7 = x7 at hA
  generalize V 8 = x8 at hA
  generalize V 9 = x9 at hA
  generalize V 10 = x10 at d10 hA
  generalize V 11 = x11 at hA
  generalize V 12 = x12 at d12 hA
  generalize V 13 = x13 at hA
  generalize V 14 = x14 at hA
  subst d12
  obtain rfl := hA
  obtain ⟨g, rfl, hg, hgz⟩ := d10
  refine wpList_append_fresh rfl (.tmp 13) (.tmp 15) 32 rfl 86 _ 2 24 Tryz.underlying32 Tryz.infoBerth rfl g rfl hgz a3 B.bts.length c3 (btsV B.bts) rfl (btsV_len _) (hB.2.2.below (hbb.trans (hW.mono hbb.size))).src (btsV_one _) (by unfold maxLen; omega) (by omega) ?_
  intro g' cap' w2 hg' hrow hb2
  have hgg : w.heap.size + 1 + 1 ≤ g' := by
   have := hW.size
   rw [HS2.out] at this
   rcases hg' with rfl | rfl
   ·exact hg
   ·exact this
  go_wp2
  exact hK.out _ _ hb2 ⟨g', cap', rfl, hgg, hrow.out⟩
 refine grow_op (fun v W => ∃ g1 k1 g2 k2 g3 k3, v = .agg #[.int .i64 B.now, .slice (some ⟨g1, 0, none⟩) B.svcs.length k1, .slice (some ⟨g2, 0, none⟩) B.cps.length k2, .slice (some ⟨g3, 0, none⟩) B.bts.length k3] ∧ (w.heap.size + 1 + 1 ≤ g1 ∧ RowIs W 48 13 g1 B.svcs.length k1 (svcsV B.svcs)) ∧ (w.heap.size + 1 + 1 ≤ g2 ∧ RowIs W 88 7 g2 B.cps.length k2 (cpsV B.cps)) ∧ (w.heap.size + 1 + 1 ≤ g3 ∧ RowIs W 86 2 g3 B.bts.length k3 (btsV B.bts))) (fun v W W2 ⟨g1, k1, g2, k2, g3, k3, h, ⟨p1, r1⟩, ⟨p2, r2⟩, ⟨p3, r3⟩⟩ hb => ⟨g1, k1, g2, k2, g3, k3, h, ⟨p1, r1.below hb r1.lt⟩, ⟨p2, r2.below hb r2.lt⟩, ⟨p3, r3.below hb r3.lt⟩⟩) ?_ ?_
 ·intro V W K A hW hd hA hK
  have d1 : V 1 = _ := hd 1 (by kernel_rfl)
  have d5 : (fun v W => ∃ g cap, v = .slice (some ⟨g, 0, none⟩) B.svcs.length cap ∧ w.heap.size + 1 + 1 ≤ g ∧ RowIs W 48 13 g B.svcs.length cap (svcsV B.svcs)) (V 5) W := hd 5 (by kernel_rfl)
  have d9 : (fun v W => ∃ g cap, v = .slice (some ⟨g, 0, none⟩) B.cps.length cap ∧ w.heap.size + 1 + 1 ≤ g ∧ RowIs W 88 7 g B.cps.length cap (cpsV B.cps)) (V 9) W := hd 9 (by kernel_rfl)
  have d13 : (fun v W => ∃ g cap, v = .slice (some ⟨g, 0, none⟩) B.bts.length cap ∧ w.heap.size + 1 + 1 ≤ g ∧ RowIs W 86 2 g B.bts.length cap (btsV B.bts)) (V 13) W := hd 13 (by kernel_rfl)
  simp only [putAll, List.getElem?_toArray, List.getElem?_cons_succ, List.getElem?_cons_zero, Option.bind_some, Act.put, List.setIfInBounds_toArray, List.set_cons_succ, List.set_cons_zero] at hA
  clear hd
  generalize V 0 = x0 at hA
  generalize V 1 = x1 at d1 hA
  generalize V 2 = x2 at hA
  generalize V 3 = x3 at hA
  generalize V 4 = x4 at hA
  generalize V 5 = x5 at d5 hA
  generalize V 6 = x6 at hA
  generalize V 7 = x7 at hA
  generalize V 8 = x8 at hA
  generalize V 9 = x9 at d9 hA
  generalize V 10 = x10 at hA
  generalize V 11 = x11 at hA
  generalize V 12 = x12 at hA
  generalize V 13 = x13 at d13 hA
  generalize V 14 = x14 at hA
  subst d1
  obtain rfl := hA
  obtain ⟨g1, k1, rfl, p1, r1⟩ := d5
  obtain ⟨g2, k2, rfl, p2, r2⟩ := d9
  obtain ⟨g3, k3, rfl, p3, r3⟩ := d13
  have R1 : Hid (RowIs W 48 13 g1 B.svcs.length k1 (svcsV B.svcs)) := r1
  have R2 : Hid (RowIs W 88 7 g2 B.cps.length k2 (cpsV B.cps)) := r2
  have R3 : Hid (RowIs W 86 2 g3 B.bts.length k3 (btsV B.bts)) := r3
  clear r1 r2 r3
  go_wp2
  exact hK.out _ _ (Below.refl _ _) ⟨g1, k1, g2, k2, g3, k3, rfl, ⟨p1, R1.out⟩, ⟨p2, R2.out⟩, ⟨p3, R3.out⟩⟩
 intro V W A hW hS hA
 have d0 : V 0 = _ := hS 0 (by omega)
 have d1 : V 1 = _ := hS 1 (by omega)
 have d2 : (fun v W => ∃ g, v = .slice (some ⟨g, 0, none⟩) 0 0 ∧ w.heap.size + 1 + 1 ≤ g ∧ W.heap[g]? = some (.cells #[] 48 (0, 0))) (V 2) W := hS 2 (by omega)
 have d3 : V 3 = _ := hS 3 (by omega)
 have d4 : V 4 = _ := hS 4 (by omega)
 have d5 : (fun v W => ∃ g cap, v = .slice (some ⟨g, 0, none⟩) B.svcs.length cap ∧ w.heap.size + 1 + 1 ≤ g ∧ RowIs W 48 13 g B.svcs.length cap (svcsV B.svcs)) (V 5) W := hS 5 (by omega)
 have d6 : (fun v W => ∃ g, v = .slice (some ⟨g, 0, none⟩) 0 0 ∧ w.heap.size + 1 + 1 ≤ g ∧ W.heap[g]? = some (.cells #[] 88 (0, 0))) (V 6) W := hS 6 (by omega)
 have d7 : V 7 = _ := hS 7 (by omega)
 have d8 : V 8 = _ := hS 8 (by omega)
 have d9 : (fun v W => ∃ g cap, v = .slice (some ⟨g, 0, none⟩) B.cps.length cap ∧ w.heap.size + 1 + 1 ≤ g ∧ RowIs W 88 7 g B.cps.length cap (cpsV B.cps)) (V 9) W := hS 9 (by omega)
 have d10 : (fun v W => ∃ g, v = .slice (some ⟨g, 0, none⟩) 0 0 ∧ w.heap.size + 1 + 1 ≤ g ∧ W.heap[g]? = some (.cells #[] 86 (0, 0))) (V 10) W := hS 10 (by omega)
 have d11 : V 11 = _ := hS 11 (by omega)
 have d12 : V 12 = _ := hS 12 (by omega)
 have d13 : (fun v W => ∃ g cap, v = .slice (some ⟨g, 0, none⟩) B.bts.length cap ∧ w.heap.size + 1 + 1 ≤ g ∧ RowIs W 86 2 g B.bts.length cap (btsV B.bts)) (V 13) W := hS 13 (by omega)
 have d14 : (fun v W => ∃ g1 k1 g2 k2 g3 k3, v = .agg #[.int .i64 B.now, .slice (some ⟨g1, 0, none⟩) B.svcs.length k1, .slice (some ⟨g2, 0, none⟩) B.cps.length k2, .slice (some ⟨g3, 0, none⟩) B.bts.length k3] ∧ (w.heap.size + 1 + 1 ≤ g1 ∧ RowIs W 48 13 g1 B.svcs.length k1 (svcsV B.svcs)) ∧ (w.heap.size + 1 + 1 ≤ g2 ∧ RowIs W 88 7 g2 B.cps.length k2 (cpsV B.cps)) ∧ (w.heap.size + 1 + 1 ≤ g3 ∧ RowIs W 86 2 g3 B.bts.length k3 (btsV B.bts))) (V 14) W := hS 14 (by omega)
 simp only [putAll, List.getElem?_toArray, List.getElem?_cons_succ, List.getElem?_cons_zero, Option.bind_some, Act.put, List.setIfInBounds_toArray, List.set_cons_succ, List.set_cons_zero] at hA
 clear hS
 generalize V 0 = x0 at d0 hA
 generalize V 1 = x1 at d1 hA
 generalize V 2 = x2 at d2 hA
 generalize V 3 = x3 at d3 hA
 generalize V 4 = x4 at d4 hA
 generalize V 5 = x5 at d5 hA
 generalize V 6 = x6 at d6 hA
 generalize V 7 = x7 at d7 hA
 generalize V 8 = x8 at d8 hA
 generalize V 9 = x9 at d9 hA
 generalize V 10 = x10 at d10 hA
 generalize V 11 = x11 at d11 hA
 generalize V 12 = x12 at d12 hA
 generalize V 13 = x13 at d13 hA
 generalize V 14 = x14 at d14 hA
 subst d0
 subst d1
 subst d3
 subst d4
 subst d7
 subst d8
 subst d11
 subst d12
 obtain rfl := hA
 simp only [List.drop_succ_cons, List.drop_zero]
 obtain ⟨g1, k1, g2, k2, g3, k3, rfl, ⟨p1, r1⟩, ⟨p2, r2⟩, ⟨p3, r3⟩⟩ := d14
 clear d2 d5 d6 d9 d10 d13
 have hbw := hbb.trans (hW.mono hbb.size)
 refine wpList_store_only rfl 34 (.tmp 2) (.tmp 17) rfl (w.heap.size + 1) 0 #[.int .i64 B.now, .slice (some ⟨g1, 0, none⟩) B.svcs.length k1, .slice (some ⟨g2, 0, none⟩) B.cps.length k2, .slice (some ⟨g3, 0, none⟩) B.bts.length k3] rfl rfl 34 #[.int .i64 0, .slice none 0 0, .slice none 0 0, .slice none 0 0] (below_blk hW T1.out hz1) Tryz.infosBookR (Nat.le_of_ble_eq_true rfl) (by simp [Value.oneCell']) ?_
 intro wf hz on
 have RF : Hid (wf.heap[w.heap.size + 1]? = some (.cells #[.int .i64 B.now, .slice (some ⟨g1, 0, none⟩) B.svcs.length k1, .slice (some ⟨g2, 0, none⟩) B.cps.length k2, .slice (some ⟨g3, 0, none⟩) B.bts.length k3] 34 (0, 0))) := hz
 have HR : Hid (BkRow wf w.heap.size g1 g2 g3 k1 k2 k3 B) := ⟨by omega, by omega, by omega, r1.blk (on.other _ (by omega)), r2.blk (on.other _ (by omega)), r3.blk (on.other _ (by omega))⟩
 have hbf : Below w.heap.size w wf := hbw.trans (on.below.mono (by omega))
 clear hz on r1 r2 r3
 have p0 := blk_cell RF.out 0 rfl
 have q1 := blk_cell RF.out 1 rfl
 have q2 := blk_cell RF.out 2 rfl
 have q3 := blk_cell RF.out 3 rfl
 go_wp2
 refine bodyPost_ret (v := .agg #[.int .i64 B.now, .slice (some ⟨g1, 0, none⟩) B.svcs.length k1, .slice (some ⟨g2, 0, none⟩) B.cps.length k2, .slice (some ⟨g3, 0, none⟩) B.bts.length k3]) (by simp [results, Tryz.results42, go_sem, p0, q1, q2, q3]) rfl ⟨g1, k1, g2, k2, g3, k3, rfl, HR.out, hbf⟩
end Go.Proofs.YtbceafpodamnfabGreat
