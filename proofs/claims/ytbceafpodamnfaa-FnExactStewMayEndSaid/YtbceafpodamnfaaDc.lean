/-
  My own. Plain data, more: a copy's checks.
-/
import Derived.Test.YtbceafpodamnfaaDb
import Derived.Test.YtbceafpodamnfaaWe
namespace Go.Proofs.Ytbceafpodamnfaa
open Go.RowKit

theorem idxOf_find {α : Type} {p : α → Bool} {l : List α} {s : α} (h : l.find? p = some s) : ∃ i : Nat, l[i]? = some s ∧ idxOf p l = (i : Int) := by
  rw [List.find?_eq_some_iff_getElem] at h
  obtain ⟨hp, i, hi, hs, hno⟩ := h
  refine ⟨i, by rw [List.getElem?_eq_getElem hi, hs], idxOf_here (by rw [List.getElem?_eq_getElem hi, hs]) hp fun j hj t ht => ?_⟩
  have := hno j hj
  obtain ⟨h1, h2⟩ := List.getElem?_eq_some_iff.1 ht
  rw [h2] at this
  simpa using this
theorem idxOf_find_none {α : Type} {p : α → Bool} {l : List α} (h : l.find? p = none) : idxOf p l = -1 := by
  rw [List.find?_eq_none] at h
  exact idxOf_none fun i s hs => by have := h s (List.mem_of_getElem? hs); simpa using this
theorem idxOf_ge {α : Type} (p : α → Bool) (l : List α) : decide (0 ≤ idxOf p l) = l.any p := by
  cases h : l.find? p with
  | none =>
    rw [idxOf_find_none h]
    rw [List.find?_eq_none] at h
    symm
    rw [show decide ((0 : Int) ≤ -1) = false from by decide, List.any_eq_false]
    exact h
  | some s =>
    obtain ⟨i, hi, e⟩ := idxOf_find h
    rw [e]
    have : decide (0 ≤ (i : Int)) = true := by simp
    rw [this]; symm
    rw [List.any_eq_true]
    exact ⟨s, List.mem_of_getElem? hi, List.find?_some h⟩

def svcOf (B : Bk) (n : ByteArray) : Option Svc := B.svcs.find? fun s => s.name.toList == n.toList
def cpOk (now : Int) (s : Svc) (c : Cp) : Bool := inB c.number 1 (wrap64 (s.next - 1)) && inB c.version 1 now && inB c.image 1 1000000 && inB c.state 1 4
def berthOk (bts : List Bt) (c : Cp) : Bool := if c.state = 1 then c.berth.toList.isEmpty else bts.any fun b => b.name.toList == c.berth.toList
def cpB (B : Bk) (c : Cp) : Bool := match svcOf B c.service with | none => false | some s => cpOk B.now s c && berthOk B.bts c

end Go.Proofs.Ytbceafpodamnfaa
