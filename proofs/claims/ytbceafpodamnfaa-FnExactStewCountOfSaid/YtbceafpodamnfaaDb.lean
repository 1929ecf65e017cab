/-
  My own. Plain data, more: looking for a thing in a list.
-/
import Derived.Test.YtbceafpodamnfaaData
namespace Go.Proofs.Ytbceafpodamnfaa
open Go.RowKit

def idxOf {α : Type} (p : α → Bool) (l : List α) : Int := match l.findIdx? p with | some i => (i : Int) | none => -1
def idxS (l : List Svc) (n : ByteArray) : Int := idxOf (fun s => s.name.toList == n.toList) l
def idxB (l : List Bt) (n : ByteArray) : Int := idxOf (fun s => s.name.toList == n.toList) l
theorem idxOf_here {α : Type} {p : α → Bool} {l : List α} {k : Nat} {s : α} (hk : l[k]? = some s) (hp : p s = true) (hno : ∀ i, i < k → ∀ s, l[i]? = some s → p s = false) : idxOf p l = k := by
  obtain ⟨h1, h2⟩ := List.getElem?_eq_some_iff.1 hk
  have : l.findIdx? p = some k := by
    rw [List.findIdx?_eq_some_iff_getElem]
    refine ⟨h1, by rw [h2]; exact hp, fun j hj => ?_⟩
    rw [hno j hj _ (List.getElem?_eq_getElem (by omega))]; simp
  simp [idxOf, this]
theorem idxOf_none {α : Type} {p : α → Bool} {l : List α} (hno : ∀ (i : Nat) s, l[i]? = some s → p s = false) : idxOf p l = -1 := by
  have : l.findIdx? p = none := by
    rw [List.findIdx?_eq_none_iff]
    intro x hx
    obtain ⟨i, hi, rfl⟩ := List.mem_iff_getElem.1 hx
    exact hno i _ (List.getElem?_eq_getElem hi)
  simp [idxOf, this]


end Go.Proofs.Ytbceafpodamnfaa
