/-
  My own: Wx, Uo.
-/
import Derived.Test.YtbceafpodamnfabGreatDoorG03
import Derived.ProofKit
import Derived.Deep.Slices
import Derived.Lib.SmallJoins
import Derived.Test.YtbceafpodamnfabGreatDoorG40
set_option linter.unusedVariables false
set_option linter.unusedSimpArgs false
namespace Go.Proofs.YtbceafpodamnfabGreatDoor
open Go.ChangeShapes Go.WideShapes Go.ChangeAt Go.RowKit Go.Deep
section
variable {H : Type} {enc : TypeId × Value → H} {w : World} {base : Nat} {spare : Nat → Bool} {held : Bool}
set_option maxRecDepth 100000 in
theorem boolCells : Tryz.prog.cellsOf 4 = 1 := by kernel_rfl
set_option maxRecDepth 100000 in
theorem cellsService : Tryz.prog.cellsOf 53 = 13 := by kernel_rfl
set_option maxRecDepth 100000 in
theorem open_Svc {n : Nat} {cs : List Value} {x : DataW H × List MemPlace} (h : DataW.trod enc Tryz.prog w base spare held n 53 cs = some x) : ∃ s : Svc, cs = Svc.cells s ∧ s.name.size ≤ maxLen := by
 obtain ⟨xs, m, rfl, _, hlen, hxs, hf⟩ := DataW.trod_struct Tryz.underlying53 h
 rw [cellsService] at hlen
 have hx : xs.length = 13 := hxs
 match cs, hlen with
 | [c0, c1, c2, c3, c4, c5, c6, c7, c8, c9, c10, c11, c12], _ =>
  have h0 : DataW.trod enc Tryz.prog w base spare held m 9 (List.take (Tryz.prog.cellsOf 9) (List.drop 0 [c0, c1, c2, c3, c4, c5, c6, c7, c8, c9, c10, c11, c12])) = xs[0]? := hf 0 _ rfl
  rw [List.getElem?_eq_getElem (show 0 < xs.length by omega)] at h0
  simp only [List.drop_zero, List.take_succ_cons, List.take_zero, stringCells] at h0
  obtain ⟨v0, e0, _, z0⟩ := DataW.trod_string Tryz.underlying9 h0
  have h1 : DataW.trod enc Tryz.prog w base spare held m 3 (List.take (Tryz.prog.cellsOf 3) (List.drop 1 [c0, c1, c2, c3, c4, c5, c6, c7, c8, c9, c10, c11, c12])) = xs[1]? := hf 1 _ rfl
  rw [List.getElem?_eq_getElem (show 1 < xs.length by omega)] at h1
  simp only [List.drop_zero, List.drop_succ_cons, List.take_succ_cons, List.take_zero, intCells] at h1
  obtain ⟨v1, e1, _, _⟩ := DataW.trod_int Tryz.underlying3 h1
  have h2 : DataW.trod enc Tryz.prog w base spare held m 4 (List.take (Tryz.prog.cellsOf 4) (List.drop 2 [c0, c1, c2, c3, c4, c5, c6, c7, c8, c9, c10, c11, c12])) = xs[2]? := hf 2 _ rfl
  rw [List.getElem?_eq_getElem (show 2 < xs.length by omega)] at h2
  simp only [List.drop_zero, List.drop_succ_cons, List.take_succ_cons, List.take_zero, boolCells] at h2
  obtain ⟨v2, e2, _⟩ := DataW.trod_bool Tryz.underlying4 h2
  have h3 : DataW.trod enc Tryz.prog w base spare held m 3 (List.take (Tryz.prog.cellsOf 3) (List.drop 3 [c0, c1, c2, c3, c4, c5, c6, c7, c8, c9, c10, c11, c12])) = xs[3]? := hf 3 _ rfl
  rw [List.getElem?_eq_getElem (show 3 < xs.length by omega)] at h3
  simp only [List.drop_zero, List.drop_succ_cons, List.take_succ_cons, List.take_zero, intCells] at h3
  obtain ⟨v3, e3, _, _⟩ := DataW.trod_int Tryz.underlying3 h3
  have h4 : DataW.trod enc Tryz.prog w base spare held m 3 (List.take (Tryz.prog.cellsOf 3) (List.drop 4 [c0, c1, c2, c3, c4, c5, c6, c7, c8, c9, c10, c11, c12])) = xs[4]? := hf 4 _ rfl
  rw [List.getElem?_eq_getElem (show 4 < xs.length by omega)] at h4
  simp only [List.drop_zero, List.drop_succ_cons, List.take_succ_cons, List.take_zero, intCells] at h4
  obtain ⟨v4, e4, _, _⟩ := DataW.trod_int Tryz.underlying3 h4
  have h5 : DataW.trod enc Tryz.prog w base spare held m 3 (List.take (Tryz.prog.cellsOf 3) (List.drop 5 [c0, c1, c2, c3, c4, c5, c6, c7, c8, c9, c10, c11, c12])) = xs[5]? := hf 5 _ rfl
  rw [List.getElem?_eq_getElem (show 5 < xs.length by omega)] at h5
  simp only [List.drop_zero, List.drop_succ_cons, List.take_succ_cons, List.take_zero, intCells] at h5
  obtain ⟨v5, e5, _, _⟩ := DataW.trod_int Tryz.underlying3 h5
  have h6 : DataW.trod enc Tryz.prog w base spare held m 3 (List.take (Tryz.prog.cellsOf 3) (List.drop 6 [c0, c1, c2, c3, c4, c5, c6, c7, c8, c9, c10, c11, c12])) = xs[6]? := hf 6 _ rfl
  rw [List.getElem?_eq_getElem (show 6 < xs.length by omega)] at h6
  simp only [List.drop_zero, List.drop_succ_cons, List.take_succ_cons, List.take_zero, intCells] at h6
  obtain ⟨v6, e6, _, _⟩ := DataW.trod_int Tryz.underlying3 h6
  have h7 : DataW.trod enc Tryz.prog w base spare held m 3 (List.take (Tryz.prog.cellsOf 3) (List.drop 7 [c0, c1, c2, c3, c4, c5, c6, c7, c8, c9, c10, c11, c12])) = xs[7]? := hf 7 _ rfl
  rw [List.getElem?_eq_getElem (show 7 < xs.length by omega)] at h7
  simp only [List.drop_zero, List.drop_succ_cons, List.take_succ_cons, List.take_zero, intCells] at h7
  obtain ⟨v7, e7, _, _⟩ := DataW.trod_int Tryz.underlying3 h7
  have h8 : DataW.trod enc Tryz.prog w base spare held m 3 (List.take (Tryz.prog.cellsOf 3) (List.drop 8 [c0, c1, c2, c3, c4, c5, c6, c7, c8, c9, c10, c11, c12])) = xs[8]? := hf 8 _ rfl
  rw [List.getElem?_eq_getElem (show 8 < xs.length by omega)] at h8
  simp only [List.drop_zero, List.drop_succ_cons, List.take_succ_cons, List.take_zero, intCells] at h8
  obtain ⟨v8, e8, _, _⟩ := DataW.trod_int Tryz.underlying3 h8
  have h9 : DataW.trod enc Tryz.prog w base spare held m 3 (List.take (Tryz.prog.cellsOf 3) (List.drop 9 [c0, c1, c2, c3, c4, c5, c6, c7, c8, c9, c10, c11, c12])) = xs[9]? := hf 9 _ rfl
  rw [List.getElem?_eq_getElem (show 9 < xs.length by omega)] at h9
  simp only [List.drop_zero, List.drop_succ_cons, List.take_succ_cons, List.take_zero, intCells] at h9
  obtain ⟨v9, e9, _, _⟩ := DataW.trod_int Tryz.underlying3 h9
  have h10 : DataW.trod enc Tryz.prog w base spare held m 3 (List.take (Tryz.prog.cellsOf 3) (List.drop 10 [c0, c1, c2, c3, c4, c5, c6, c7, c8, c9, c10, c11, c12])) = xs[10]? := hf 10 _ rfl
  rw [List.getElem?_eq_getElem (show 10 < xs.length by omega)] at h10
  simp only [List.drop_zero, List.drop_succ_cons, List.take_succ_cons, List.take_zero, intCells] at h10
  obtain ⟨v10, e10, _, _⟩ := DataW.trod_int Tryz.underlying3 h10
  have h11 : DataW.trod enc Tryz.prog w base spare held m 3 (List.take (Tryz.prog.cellsOf 3) (List.drop 11 [c0, c1, c2, c3, c4, c5, c6, c7, c8, c9, c10, c11, c12])) = xs[11]? := hf 11 _ rfl
  rw [List.getElem?_eq_getElem (show 11 < xs.length by omega)] at h11
  simp only [List.drop_zero, List.drop_succ_cons, List.take_succ_cons, List.take_zero, intCells] at h11
  obtain ⟨v11, e11, _, _⟩ := DataW.trod_int Tryz.underlying3 h11
  have h12 : DataW.trod enc Tryz.prog w base spare held m 3 (List.take (Tryz.prog.cellsOf 3) (List.drop 12 [c0, c1, c2, c3, c4, c5, c6, c7, c8, c9, c10, c11, c12])) = xs[12]? := hf 12 _ rfl
  rw [List.getElem?_eq_getElem (show 12 < xs.length by omega)] at h12
  simp only [List.drop_zero, List.drop_succ_cons, List.take_succ_cons, List.take_zero, intCells] at h12
  obtain ⟨v12, e12, _, _⟩ := DataW.trod_int Tryz.underlying3 h12
  simp only [List.cons.injEq, and_true] at e0 e1 e2 e3 e4 e5 e6 e7 e8 e9 e10 e11 e12
  subst e0 e1 e2 e3 e4 e5 e6 e7 e8 e9 e10 e11 e12
  exact ⟨⟨v0, v1, v2, v3, v4, v5, v6, v7, v8, v9, v10, v11, v12⟩, rfl, z0⟩
set_option maxRecDepth 100000 in
theorem open_Svcs {n : Nat} {v : Value} {x : DataW H × List MemPlace} (h : DataW.trod enc Tryz.prog w 0 spare held n 22 [v] = some x) : ∃ (ao : Option Addr) (l : List Svc) (cap : Nat), v = .slice ao l.length cap ∧ l.length ≤ maxLen ∧ SlS w ao l ∧ ∀ s ∈ l, s.name.size ≤ maxLen := by
 rcases open_slice Tryz.underlying22 h with ⟨hcs, _⟩ | ⟨a, len, cap, m, k, D, Pl, hcs, _, hlc, hcm, hm, _, hx⟩
 ·simp only [List.cons.injEq, and_true] at hcs
  exact ⟨none, [], 0, hcs, Nat.zero_le _, fun h => absurd rfl h, fun s hs => by cases hs⟩
 ·simp only [List.cons.injEq, and_true] at hcs
  subst hcs
  have hle : len ≤ m := by rw [hm]; split <;> omega
  have hel : ∀ i, i < len → ∃ s : Svc, w.cells? 0 (a.add (i * 13)) 13 = some (Svc.cells s) ∧ s.name.size ≤ maxLen := fun i hi => by
   obtain ⟨cs', h1, h2⟩ := hx i (by omega)
   obtain ⟨s, rfl, hs⟩ := open_Svc h2
   rw [cellsService] at h1
   exact ⟨s, h1, hs⟩
  obtain ⟨f, hf⟩ : ∃ f : Nat → Svc, ∀ i, i < len → w.cells? 0 (a.add (i * 13)) 13 = some (Svc.cells (f i)) ∧ (f i).name.size ≤ maxLen := by
   haveI : Inhabited Svc := ⟨⟨⟨#[]⟩, 0, false, 0, 0, 0, 0, 0, 0, 0, 0, 0, 0⟩⟩
   exact choose_lt hel
  have hlen : ((List.range len).map f).length = len := by simp
  refine ⟨some a, (List.range len).map f, cap, by rw [hlen], by rw [hlen]; omega, fun hne => ?_, fun s hs => ?_⟩
  ·have hpos : 0 < len := by
    rcases Nat.eq_zero_or_pos len with h0 | h0
    ·subst h0; exact absurd rfl hne
    ·exact h0
   obtain ⟨b, off, sp⟩ := a
   have hc0 := (World.cells?_some (hf 0 hpos).1).2.2 0 (by omega)
   have hsp : sp = none := by
    have e : ((⟨b, off, sp⟩ : Addr).add (0 * 13)).add 0 = ⟨b, off, sp⟩ := by simp [Addr.add]
    rw [e] at hc0
    exact World.cell?_spot hc0
   subst hsp
   have hcell : ∀ i, i < len → ∀ j, j < 13 → w.cell? ⟨b, off + i * 13 + j, none⟩ = (Svc.cells (f i))[j]? := fun i hi j hj => by
    have := (World.cells?_some (hf i hi).1).2.2 j hj
    rw [← this]
    congr 1
    unfold Addr.add
    by_cases h1 : i * 13 = 0 <;> by_cases h2 : j = 0 <;> simp [h1, h2]
   refine ⟨b, off, rfl, ?_, fun i s hs => ?_⟩
   ·have := hcell 0 hpos 0 (by omega)
    exact World.block_lt_of_cell? _ _ this
   ·have hi : i < len := by
     have := (List.getElem?_eq_some_iff.1 hs).1
     rw [hlen] at this; exact this
    have e : f i = s := by simpa [hi] using hs
    subst e
    unfold SvcAt
    exact ⟨hcell i hi 0 (by omega), hcell i hi 1 (by omega), hcell i hi 2 (by omega), hcell i hi 3 (by omega), hcell i hi 4 (by omega), hcell i hi 5 (by omega), hcell i hi 6 (by omega), hcell i hi 7 (by omega), hcell i hi 8 (by omega), hcell i hi 9 (by omega), hcell i hi 10 (by omega), hcell i hi 11 (by omega), hcell i hi 12 (by omega)⟩
  ·obtain ⟨i, hi, rfl⟩ := List.mem_map.1 hs
   exact (hf i (List.mem_range.1 hi)).2
set_option maxRecDepth 100000 in
theorem cellsCopy : Tryz.prog.cellsOf 141 = 7 := by kernel_rfl
set_option maxRecDepth 100000 in
theorem open_Cp {n : Nat} {cs : List Value} {x : DataW H × List MemPlace} (h : DataW.trod enc Tryz.prog w base spare held n 141 cs = some x) : ∃ s : Cp, cs = Cp.cells s ∧ s.service.size ≤ maxLen ∧ s.berth.size ≤ maxLen := by
 obtain ⟨xs, m, rfl, _, hlen, hxs, hf⟩ := DataW.trod_struct Tryz.underlying141 h
 rw [cellsCopy] at hlen
 have hx : xs.length = 7 := hxs
 match cs, hlen with
 | [c0, c1, c2, c3, c4, c5, c6], _ =>
  have h0 : DataW.trod enc Tryz.prog w base spare held m 9 (List.take (Tryz.prog.cellsOf 9) (List.drop 0 [c0, c1, c2, c3, c4, c5, c6])) = xs[0]? := hf 0 _ rfl
  rw [List.getElem?_eq_getElem (show 0 < xs.length by omega)] at h0
  simp only [List.drop_zero, List.take_succ_cons, List.take_zero, stringCells] at h0
  obtain ⟨v0, e0, _, z0⟩ := DataW.trod_string Tryz.underlying9 h0
  have h1 : DataW.trod enc Tryz.prog w base spare held m 3 (List.take (Tryz.prog.cellsOf 3) (List.drop 1 [c0, c1, c2, c3, c4, c5, c6])) = xs[1]? := hf 1 _ rfl
  rw [List.getElem?_eq_getElem (show 1 < xs.length by omega)] at h1
  simp only [List.drop_zero, List.drop_succ_cons, List.take_succ_cons, List.take_zero, intCells] at h1
  obtain ⟨v1, e1, _, _⟩ := DataW.trod_int Tryz.underlying3 h1
  have h2 : DataW.trod enc Tryz.prog w base spare held m 3 (List.take (Tryz.prog.cellsOf 3) (List.drop 2 [c0, c1, c2, c3, c4, c5, c6])) = xs[2]? := hf 2 _ rfl
  rw [List.getElem?_eq_getElem (show 2 < xs.length by omega)] at h2
  simp only [List.drop_zero, List.drop_succ_cons, List.take_succ_cons, List.take_zero, intCells] at h2
  obtain ⟨v2, e2, _, _⟩ := DataW.trod_int Tryz.underlying3 h2
  have h3 : DataW.trod enc Tryz.prog w base spare held m 3 (List.take (Tryz.prog.cellsOf 3) (List.drop 3 [c0, c1, c2, c3, c4, c5, c6])) = xs[3]? := hf 3 _ rfl
  rw [List.getElem?_eq_getElem (show 3 < xs.length by omega)] at h3
  simp only [List.drop_zero, List.drop_succ_cons, List.take_succ_cons, List.take_zero, intCells] at h3
  obtain ⟨v3, e3, _, _⟩ := DataW.trod_int Tryz.underlying3 h3
  have h4 : DataW.trod enc Tryz.prog w base spare held m 3 (List.take (Tryz.prog.cellsOf 3) (List.drop 4 [c0, c1, c2, c3, c4, c5, c6])) = xs[4]? := hf 4 _ rfl
  rw [List.getElem?_eq_getElem (show 4 < xs.length by omega)] at h4
  simp only [List.drop_zero, List.drop_succ_cons, List.take_succ_cons, List.take_zero, intCells] at h4
  obtain ⟨v4, e4, _, _⟩ := DataW.trod_int Tryz.underlying3 h4
  have h5 : DataW.trod enc Tryz.prog w base spare held m 4 (List.take (Tryz.prog.cellsOf 4) (List.drop 5 [c0, c1, c2, c3, c4, c5, c6])) = xs[5]? := hf 5 _ rfl
  rw [List.getElem?_eq_getElem (show 5 < xs.length by omega)] at h5
  simp only [List.drop_zero, List.drop_succ_cons, List.take_succ_cons, List.take_zero, boolCells] at h5
  obtain ⟨v5, e5, _⟩ := DataW.trod_bool Tryz.underlying4 h5
  have h6 : DataW.trod enc Tryz.prog w base spare held m 9 (List.take (Tryz.prog.cellsOf 9) (List.drop 6 [c0, c1, c2, c3, c4, c5, c6])) = xs[6]? := hf 6 _ rfl
  rw [List.getElem?_eq_getElem (show 6 < xs.length by omega)] at h6
  simp only [List.drop_zero, List.drop_succ_cons, List.take_succ_cons, List.take_zero, stringCells] at h6
  obtain ⟨v6, e6, _, z6⟩ := DataW.trod_string Tryz.underlying9 h6
  simp only [List.cons.injEq, and_true] at e0 e1 e2 e3 e4 e5 e6
  subst e0 e1 e2 e3 e4 e5 e6
  exact ⟨⟨v0, v1, v2, v3, v4, v5, v6⟩, rfl, ⟨z0, z6⟩⟩
set_option maxRecDepth 100000 in
theorem open_Cps {n : Nat} {v : Value} {x : DataW H × List MemPlace} (h : DataW.trod enc Tryz.prog w 0 spare held n 23 [v] = some x) : ∃ (ao : Option Addr) (l : List Cp) (cap : Nat), v = .slice ao l.length cap ∧ l.length ≤ maxLen ∧ SlC w ao l ∧ ∀ s ∈ l, s.service.size ≤ maxLen ∧ s.berth.size ≤ maxLen := by
 rcases open_slice Tryz.underlying23 h with ⟨hcs, _⟩ | ⟨a, len, cap, m, k, D, Pl, hcs, _, hlc, hcm, hm, _, hx⟩
 ·simp only [List.cons.injEq, and_true] at hcs
  exact ⟨none, [], 0, hcs, Nat.zero_le _, fun h => absurd rfl h, fun s hs => by cases hs⟩
 ·simp only [List.cons.injEq, and_true] at hcs
  subst hcs
  have hle : len ≤ m := by rw [hm]; split <;> omega
  have hel : ∀ i, i < len → ∃ s : Cp, w.cells? 0 (a.add (i * 7)) 7 = some (Cp.cells s) ∧ s.service.size ≤ maxLen ∧ s.berth.size ≤ maxLen := fun i hi => by
   obtain ⟨cs', h1, h2⟩ := hx i (by omega)
   obtain ⟨s, rfl, hs⟩ := open_Cp h2
   rw [cellsCopy] at h1
   exact ⟨s, h1, hs⟩
  obtain ⟨f, hf⟩ : ∃ f : Nat → Cp, ∀ i, i < len → w.cells? 0 (a.add (i * 7)) 7 = some (Cp.cells (f i)) ∧ (f i).service.size ≤ maxLen ∧ (f i).berth.size ≤ maxLen := by
   haveI : Inhabited Cp := ⟨⟨⟨#[]⟩, 0, 0, 0, 0, false, ⟨#[]⟩⟩⟩
   exact choose_lt hel
  have hlen : ((List.range len).map f).length = len := by simp
  refine ⟨some a, (List.range len).map f, cap, by rw [hlen], by rw [hlen]; omega, fun hne => ?_, fun s hs => ?_⟩
  ·have hpos : 0 < len := by
    rcases Nat.eq_zero_or_pos len with h0 | h0
    ·subst h0; exact absurd rfl hne
    ·exact h0
   obtain ⟨b, off, sp⟩ := a
   have hc0 := (World.cells?_some (hf 0 hpos).1).2.2 0 (by omega)
   have hsp : sp = none := by
    have e : ((⟨b, off, sp⟩ : Addr).add (0 * 7)).add 0 = ⟨b, off, sp⟩ := by simp [Addr.add]
    rw [e] at hc0
    exact World.cell?_spot hc0
   subst hsp
   have hcell : ∀ i, i < len → ∀ j, j < 7 → w.cell? ⟨b, off + i * 7 + j, none⟩ = (Cp.cells (f i))[j]? := fun i hi j hj => by
    have := (World.cells?_some (hf i hi).1).2.2 j hj
    rw [← this]
    congr 1
    unfold Addr.add
    by_cases h1 : i * 7 = 0 <;> by_cases h2 : j = 0 <;> simp [h1, h2]
   refine ⟨b, off, rfl, ?_, fun i s hs => ?_⟩
   ·have := hcell 0 hpos 0 (by omega)
    exact World.block_lt_of_cell? _ _ this
   ·have hi : i < len := by
     have := (List.getElem?_eq_some_iff.1 hs).1
     rw [hlen] at this; exact this
    have e : f i = s := by simpa [hi] using hs
    subst e
    unfold CpAt
    exact ⟨hcell i hi 0 (by omega), hcell i hi 1 (by omega), hcell i hi 2 (by omega), hcell i hi 3 (by omega), hcell i hi 4 (by omega), hcell i hi 5 (by omega), hcell i hi 6 (by omega)⟩
  ·obtain ⟨i, hi, rfl⟩ := List.mem_map.1 hs
   exact (hf i (List.mem_range.1 hi)).2
set_option maxRecDepth 100000 in
theorem cellsBerth : Tryz.prog.cellsOf 144 = 2 := by kernel_rfl
set_option maxRecDepth 100000 in
theorem open_Bt {n : Nat} {cs : List Value} {x : DataW H × List MemPlace} (h : DataW.trod enc Tryz.prog w base spare held n 144 cs = some x) : ∃ s : Bt, cs = Bt.cells s ∧ s.name.size ≤ maxLen := by
 obtain ⟨xs, m, rfl, _, hlen, hxs, hf⟩ := DataW.trod_struct Tryz.underlying144 h
 rw [cellsBerth] at hlen
 have hx : xs.length = 2 := hxs
 match cs, hlen with
 | [c0, c1], _ =>
  have h0 : DataW.trod enc Tryz.prog w base spare held m 9 (List.take (Tryz.prog.cellsOf 9) (List.drop 0 [c0, c1])) = xs[0]? := hf 0 _ rfl
  rw [List.getElem?_eq_getElem (show 0 < xs.length by omega)] at h0
  simp only [List.drop_zero, List.take_succ_cons, List.take_zero, stringCells] at h0
  obtain ⟨v0, e0, _, z0⟩ := DataW.trod_string Tryz.underlying9 h0
  have h1 : DataW.trod enc Tryz.prog w base spare held m 4 (List.take (Tryz.prog.cellsOf 4) (List.drop 1 [c0, c1])) = xs[1]? := hf 1 _ rfl
  rw [List.getElem?_eq_getElem (show 1 < xs.length by omega)] at h1
  simp only [List.drop_zero, List.drop_succ_cons, List.take_succ_cons, List.take_zero, boolCells] at h1
  obtain ⟨v1, e1, _⟩ := DataW.trod_bool Tryz.underlying4 h1
  simp only [List.cons.injEq, and_true] at e0 e1
  subst e0 e1
  exact ⟨⟨v0, v1⟩, rfl, z0⟩
set_option maxRecDepth 100000 in
theorem open_Bts {n : Nat} {v : Value} {x : DataW H × List MemPlace} (h : DataW.trod enc Tryz.prog w 0 spare held n 24 [v] = some x) : ∃ (ao : Option Addr) (l : List Bt) (cap : Nat), v = .slice ao l.length cap ∧ l.length ≤ maxLen ∧ SlB w ao l ∧ ∀ s ∈ l, s.name.size ≤ maxLen := by
 rcases open_slice Tryz.underlying24 h with ⟨hcs, _⟩ | ⟨a, len, cap, m, k, D, Pl, hcs, _, hlc, hcm, hm, _, hx⟩
 ·simp only [List.cons.injEq, and_true] at hcs
  exact ⟨none, [], 0, hcs, Nat.zero_le _, fun h => absurd rfl h, fun s hs => by cases hs⟩
 ·simp only [List.cons.injEq, and_true] at hcs
  subst hcs
  have hle : len ≤ m := by rw [hm]; split <;> omega
  have hel : ∀ i, i < len → ∃ s : Bt, w.cells? 0 (a.add (i * 2)) 2 = some (Bt.cells s) ∧ s.name.size ≤ maxLen := fun i hi => by
   obtain ⟨cs', h1, h2⟩ := hx i (by omega)
   obtain ⟨s, rfl, hs⟩ := open_Bt h2
   rw [cellsBerth] at h1
   exact ⟨s, h1, hs⟩
  obtain ⟨f, hf⟩ : ∃ f : Nat → Bt, ∀ i, i < len → w.cells? 0 (a.add (i * 2)) 2 = some (Bt.cells (f i)) ∧ (f i).name.size ≤ maxLen := by
   haveI : Inhabited Bt := ⟨⟨⟨#[]⟩, false⟩⟩
   exact choose_lt hel
  have hlen : ((List.range len).map f).length = len := by simp
  refine ⟨some a, (List.range len).map f, cap, by rw [hlen], by rw [hlen]; omega, fun hne => ?_, fun s hs => ?_⟩
  ·have hpos : 0 < len := by
    rcases Nat.eq_zero_or_pos len with h0 | h0
    ·subst h0; exact absurd rfl hne
    ·exact h0
   obtain ⟨b, off, sp⟩ := a
   have hc0 := (World.cells?_some (hf 0 hpos).1).2.2 0 (by omega)
   have hsp : sp = none := by
    have e : ((⟨b, off, sp⟩ : Addr).add (0 * 2)).add 0 = ⟨b, off, sp⟩ := by simp [Addr.add]
    rw [e] at hc0
    exact World.cell?_spot hc0
   subst hsp
   have hcell : ∀ i, i < len → ∀ j, j < 2 → w.cell? ⟨b, off + i * 2 + j, none⟩ = (Bt.cells (f i))[j]? := fun i hi j hj => by
    have := (World.cells?_some (hf i hi).1).2.2 j hj
    rw [← this]
    congr 1
    unfold Addr.add
    by_cases h1 : i * 2 = 0 <;> by_cases h2 : j = 0 <;> simp [h1, h2]
   refine ⟨b, off, rfl, ?_, fun i s hs => ?_⟩
   ·have := hcell 0 hpos 0 (by omega)
    exact World.block_lt_of_cell? _ _ this
   ·have hi : i < len := by
     have := (List.getElem?_eq_some_iff.1 hs).1
     rw [hlen] at this; exact this
    have e : f i = s := by simpa [hi] using hs
    subst e
    unfold BtAt
    exact ⟨hcell i hi 0 (by omega), hcell i hi 1 (by omega)⟩
  ·obtain ⟨i, hi, rfl⟩ := List.mem_map.1 hs
   exact (hf i (List.mem_range.1 hi)).2
set_option maxRecDepth 100000 in
theorem bookCells : Tryz.prog.cellsOf 26 = 4 := by kernel_rfl
set_option maxRecDepth 100000 in
theorem open_Book {r : Reach} {b0 : Nat} {v : Value} {d : DataW H} {p : List MemPlace} (hv : Value.okWide Tryz.prog w r b0 26 v) (h : DataW.Trod enc Tryz.prog w 0 spare held 26 v d p) :
  ∃ (B : Bk) (a1 a2 a3 : Option Addr) (c1 c2 c3 : Nat), v = .agg #[.int .i64 B.now, .slice a1 B.svcs.length c1, .slice a2 B.cps.length c2, .slice a3 B.bts.length c3] ∧ BkAt w a1 a2 a3 B ∧ B.sized := by
 obtain ⟨v0, v1, v2, v3, y0, y1, y2, y3, n, rfl, _, _, h0, h1, h2, h3⟩ := Go.Joins.open_agg4 Tryz.underlying26 (by kernel_rfl) bookCells hv h
 obtain ⟨now, e0, _, _⟩ := DataW.trod_int Tryz.underlying3 h0
 simp only [List.cons.injEq, and_true] at e0
 subst e0
 obtain ⟨a1, l1, c1, rfl, m1, s1, z1⟩ := open_Svcs h1
 obtain ⟨a2, l2, c2, rfl, m2, s2, z2⟩ := open_Cps h2
 obtain ⟨a3, l3, c3, rfl, m3, s3, z3⟩ := open_Bts h3
 exact ⟨⟨now, l1, l2, l3⟩, a1, a2, a3, c1, c2, c3, rfl, ⟨s1, s2, s3⟩, m1, m2, m3, z1, z2, z3⟩
end
end Go.Proofs.YtbceafpodamnfabGreatDoor

namespace Go.Proofs.YtbceafpodamnfabGreatDoor
open Go.ChangeShapes Go.WideShapes Go.ChangeAt Go.RowKit Go.Deep
section
variable {H : Type} {enc : TypeId × Value → H} {w : World} {base : Nat} {spare : Nat → Bool} {held : Bool}
set_option maxRecDepth 100000 in
theorem cellsEnd : Tryz.prog.cellsOf 164 = 2 := by kernel_rfl
set_option maxRecDepth 100000 in
theorem endsCells : Tryz.prog.cellsOf 27 = 1 := by kernel_rfl
set_option maxRecDepth 100000 in
theorem cellsAct : Tryz.prog.cellsOf 29 = 8 := by kernel_rfl
set_option maxRecDepth 100000 in
theorem open_En {n : Nat} {cs : List Value} {x : DataW H × List MemPlace} (h : DataW.trod enc Tryz.prog w 0 spare held n 164 cs = some x) : ∃ s : En, cs = En.cells s ∧ (Lit.int .i64 s.number).wf = true := by
 obtain ⟨xs, m, rfl, _, hlen, hxs, hf⟩ := DataW.trod_struct Tryz.underlying164 h
 rw [cellsEnd] at hlen
 have hx : xs.length = 2 := hxs
 match cs, hlen with
 | [c0, c1], _ =>
  have h0 : DataW.trod enc Tryz.prog w 0 spare held m 3 (List.take (Tryz.prog.cellsOf 3) (List.drop 0 [c0, c1])) = xs[0]? := hf 0 _ rfl
  rw [List.getElem?_eq_getElem (show 0 < xs.length by omega)] at h0
  simp only [List.drop_zero, List.drop_succ_cons, List.take_succ_cons, List.take_zero, intCells] at h0
  obtain ⟨v0, e0, _, w0⟩ := DataW.trod_int Tryz.underlying3 h0
  have h1 : DataW.trod enc Tryz.prog w 0 spare held m 3 (List.take (Tryz.prog.cellsOf 3) (List.drop 1 [c0, c1])) = xs[1]? := hf 1 _ rfl
  rw [List.getElem?_eq_getElem (show 1 < xs.length by omega)] at h1
  simp only [List.drop_zero, List.drop_succ_cons, List.take_succ_cons, List.take_zero, intCells] at h1
  obtain ⟨v1, e1, _, w1⟩ := DataW.trod_int Tryz.underlying3 h1
  simp only [List.cons.injEq, and_true] at e0 e1
  subst e0 e1
  exact ⟨⟨v0, v1⟩, rfl, by assumption⟩
set_option maxRecDepth 100000 in
theorem open_Ens {n : Nat} {v : Value} {x : DataW H × List MemPlace} (h : DataW.trod enc Tryz.prog w 0 spare held n 27 [v] = some x) : ∃ (ao : Option Addr) (l : List En) (cap : Nat), v = .slice ao l.length cap ∧ l.length ≤ maxLen ∧ SlE w ao l ∧ ∀ s ∈ l, (Lit.int .i64 s.number).wf = true := by
 rcases open_slice Tryz.underlying27 h with ⟨hcs, _⟩ | ⟨a, len, cap, m, k, D, Pl, hcs, _, hlc, hcm, hm, _, hx⟩
 ·simp only [List.cons.injEq, and_true] at hcs
  exact ⟨none, [], 0, hcs, Nat.zero_le _, fun h => absurd rfl h, fun s hs => by cases hs⟩
 ·simp only [List.cons.injEq, and_true] at hcs
  subst hcs
  have hle : len ≤ m := by rw [hm]; split <;> omega
  have hel : ∀ i, i < len → ∃ s : En, w.cells? 0 (a.add (i * 2)) 2 = some (En.cells s) ∧ (Lit.int .i64 s.number).wf = true := fun i hi => by
   obtain ⟨cs', h1, h2⟩ := hx i (by omega)
   obtain ⟨s, rfl, hs⟩ := open_En h2
   rw [cellsEnd] at h1
   exact ⟨s, h1, hs⟩
  obtain ⟨f, hf⟩ : ∃ f : Nat → En, ∀ i, i < len → w.cells? 0 (a.add (i * 2)) 2 = some (En.cells (f i)) ∧ (Lit.int .i64 (f i).number).wf = true := by
   haveI : Inhabited En := ⟨⟨0, 0⟩⟩
   exact choose_lt hel
  have hlen : ((List.range len).map f).length = len := by simp
  refine ⟨some a, (List.range len).map f, cap, by rw [hlen], by rw [hlen]; omega, fun hne => ?_, fun s hs => ?_⟩
  ·have hpos : 0 < len := by
    rcases Nat.eq_zero_or_pos len with h0 | h0
    ·subst h0; exact absurd rfl hne
    ·exact h0
   obtain ⟨b, off, sp⟩ := a
   have hc0 := (World.cells?_some (hf 0 hpos).1).2.2 0 (by omega)
   have hsp : sp = none := by
    have e : ((⟨b, off, sp⟩ : Addr).add (0 * 2)).add 0 = ⟨b, off, sp⟩ := by simp [Addr.add]
    rw [e] at hc0
    exact World.cell?_spot hc0
   subst hsp
   have hcell : ∀ i, i < len → ∀ j, j < 2 → w.cell? ⟨b, off + i * 2 + j, none⟩ = (En.cells (f i))[j]? := fun i hi j hj => by
    have := (World.cells?_some (hf i hi).1).2.2 j hj
    rw [← this]
    congr 1
    unfold Addr.add
    by_cases h1 : i * 2 = 0 <;> by_cases h2 : j = 0 <;> simp [h1, h2]
   refine ⟨b, off, rfl, ?_, fun i s hs => ?_⟩
   ·have := hcell 0 hpos 0 (by omega)
    exact World.block_lt_of_cell? _ _ this
   ·have hi : i < len := by
     have := (List.getElem?_eq_some_iff.1 hs).1
     rw [hlen] at this; exact this
    have e : f i = s := by simpa [hi] using hs
    subst e
    unfold EnAt
    exact ⟨hcell i hi 0 (by omega), hcell i hi 1 (by omega)⟩
  ·obtain ⟨i, hi, rfl⟩ := List.mem_map.1 hs
   exact (hf i (List.mem_range.1 hi)).2
set_option maxRecDepth 100000 in
theorem open_AcC {n : Nat} {cs : List Value} {x : DataW H × List MemPlace} (h : DataW.trod enc Tryz.prog w 0 spare held n 29 cs = some x) : ∃ (A : Ac) (ae : Option Addr) (ce : Nat), cs.toArray = #[.string A.service, .int .i64 A.seen, .int .i64 A.create, .int .i64 A.want, .int .i64 A.cool, .bool A.scale, .slice ae A.ends.length ce, .bool A.drop] ∧ A.sized ∧ SlE w ae A.ends ∧ ∀ e ∈ A.ends, (Lit.int .i64 e.number).wf = true := by
 obtain ⟨xs, m, rfl, _, hlen, hxs, hf⟩ := DataW.trod_struct Tryz.underlying29 h
 rw [cellsAct] at hlen
 have hx : xs.length = 8 := hxs
 match cs, hlen with
 | [c0, c1, c2, c3, c4, c5, c6, c7], _ =>
  have h0 : DataW.trod enc Tryz.prog w 0 spare held m 9 (List.take (Tryz.prog.cellsOf 9) (List.drop 0 [c0, c1, c2, c3, c4, c5, c6, c7])) = xs[0]? := hf 0 _ rfl
  rw [List.getElem?_eq_getElem (show 0 < xs.length by omega)] at h0
  simp only [List.drop_zero, List.drop_succ_cons, List.take_succ_cons, List.take_zero, stringCells] at h0
  obtain ⟨v0, e0, _, z0⟩ := DataW.trod_string Tryz.underlying9 h0
  have h1 : DataW.trod enc Tryz.prog w 0 spare held m 3 (List.take (Tryz.prog.cellsOf 3) (List.drop 1 [c0, c1, c2, c3, c4, c5, c6, c7])) = xs[1]? := hf 1 _ rfl
  rw [List.getElem?_eq_getElem (show 1 < xs.length by omega)] at h1
  simp only [List.drop_zero, List.drop_succ_cons, List.take_succ_cons, List.take_zero, intCells] at h1
  obtain ⟨v1, e1, _, w1⟩ := DataW.trod_int Tryz.underlying3 h1
  have h2 : DataW.trod enc Tryz.prog w 0 spare held m 3 (List.take (Tryz.prog.cellsOf 3) (List.drop 2 [c0, c1, c2, c3, c4, c5, c6, c7])) = xs[2]? := hf 2 _ rfl
  rw [List.getElem?_eq_getElem (show 2 < xs.length by omega)] at h2
  simp only [List.drop_zero, List.drop_succ_cons, List.take_succ_cons, List.take_zero, intCells] at h2
  obtain ⟨v2, e2, _, w2⟩ := DataW.trod_int Tryz.underlying3 h2
  have h3 : DataW.trod enc Tryz.prog w 0 spare held m 3 (List.take (Tryz.prog.cellsOf 3) (List.drop 3 [c0, c1, c2, c3, c4, c5, c6, c7])) = xs[3]? := hf 3 _ rfl
  rw [List.getElem?_eq_getElem (show 3 < xs.length by omega)] at h3
  simp only [List.drop_zero, List.drop_succ_cons, List.take_succ_cons, List.take_zero, intCells] at h3
  obtain ⟨v3, e3, _, w3⟩ := DataW.trod_int Tryz.underlying3 h3
  have h4 : DataW.trod enc Tryz.prog w 0 spare held m 3 (List.take (Tryz.prog.cellsOf 3) (List.drop 4 [c0, c1, c2, c3, c4, c5, c6, c7])) = xs[4]? := hf 4 _ rfl
  rw [List.getElem?_eq_getElem (show 4 < xs.length by omega)] at h4
  simp only [List.drop_zero, List.drop_succ_cons, List.take_succ_cons, List.take_zero, intCells] at h4
  obtain ⟨v4, e4, _, w4⟩ := DataW.trod_int Tryz.underlying3 h4
  have h5 : DataW.trod enc Tryz.prog w 0 spare held m 4 (List.take (Tryz.prog.cellsOf 4) (List.drop 5 [c0, c1, c2, c3, c4, c5, c6, c7])) = xs[5]? := hf 5 _ rfl
  rw [List.getElem?_eq_getElem (show 5 < xs.length by omega)] at h5
  simp only [List.drop_zero, List.drop_succ_cons, List.take_succ_cons, List.take_zero, boolCells] at h5
  obtain ⟨v5, e5, _⟩ := DataW.trod_bool Tryz.underlying4 h5
  have h6 : DataW.trod enc Tryz.prog w 0 spare held m 27 (List.take (Tryz.prog.cellsOf 27) (List.drop 6 [c0, c1, c2, c3, c4, c5, c6, c7])) = xs[6]? := hf 6 _ rfl
  rw [List.getElem?_eq_getElem (show 6 < xs.length by omega)] at h6
  simp only [List.drop_zero, List.drop_succ_cons, List.take_succ_cons, List.take_zero, endsCells] at h6
  obtain ⟨ae, l, ce, e6, hlm, hsl, hwf⟩ := open_Ens h6
  have h7 : DataW.trod enc Tryz.prog w 0 spare held m 4 (List.take (Tryz.prog.cellsOf 4) (List.drop 7 [c0, c1, c2, c3, c4, c5, c6, c7])) = xs[7]? := hf 7 _ rfl
  rw [List.getElem?_eq_getElem (show 7 < xs.length by omega)] at h7
  simp only [List.drop_zero, List.drop_succ_cons, List.take_succ_cons, List.take_zero, boolCells] at h7
  obtain ⟨v7, e7, _⟩ := DataW.trod_bool Tryz.underlying4 h7
  simp only [List.cons.injEq, and_true] at e0 e1 e2 e3 e4 e5 e7
  subst e0 e1 e2 e3 e4 e5 e6 e7
  exact ⟨⟨v0, v1, v2, v3, v4, v5, l, v7⟩, ae, ce, rfl, ⟨z0, hlm⟩, hsl, hwf⟩
set_option maxRecDepth 100000 in
theorem open_Act {r : Reach} {b0 : Nat} {v : Value} {d : DataW H} {p : List MemPlace} (hv : Value.okWide Tryz.prog w r b0 29 v) (h : DataW.Trod enc Tryz.prog w 0 spare held 29 v d p) :
  ∃ (A : Ac) (ae : Option Addr) (ce : Nat), v = .agg #[.string A.service, .int .i64 A.seen, .int .i64 A.create, .int .i64 A.want, .int .i64 A.cool, .bool A.scale, .slice ae A.ends.length ce, .bool A.drop] ∧ A.sized ∧ SlE w ae A.ends ∧ ∀ e ∈ A.ends, (Lit.int .i64 e.number).wf = true := by
 obtain ⟨cs, rfl, _⟩ := okWide_struct Tryz.underlying29 hv
 obtain ⟨fuel, hf⟩ := h
 obtain ⟨A, ae, ce, e, h1⟩ := open_AcC hf
 refine ⟨A, ae, ce, ?_, h1⟩
 rw [← e]
 simp [Value.cells]
end
end Go.Proofs.YtbceafpodamnfabGreatDoor
