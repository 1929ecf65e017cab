/-
  My own. Plain data: counting.
-/
import Derived.Test.YtbceafpodamnfaaDc
namespace Go.Proofs.Ytbceafpodamnfaa
open Go.RowKit

structure Cnt where
  live : Int
  ready : Int
  old : Int
  failed : Int
  ending : Int

def Cnt.none : Cnt := ⟨0, 0, 0, 0, 0⟩
def addB (b : Bool) (n : Int) : Int := if b then n + 1 else n
def cntAdd (img : Int) (c : Cp) (n : Cnt) : Cnt :=
  if c.ending then { n with ending := n.ending + 1 }
  else ⟨n.live + 1, addB (c.state == 3) n.ready, addB (c.image != img) n.old, addB (c.state == 4) n.failed, n.ending⟩
def cntOne (img : Int) (sv : ByteArray) (c : Cp) (n : Cnt) : Cnt := if c.service.toList == sv.toList then cntAdd img c n else n
/-- The first k copies, counted. -/
def cntTo (img : Int) (sv : ByteArray) (l : List Cp) (k : Nat) : Cnt := (l.take k).foldl (fun n c => cntOne img sv c n) Cnt.none
theorem cntTo_succ (img : Int) (sv : ByteArray) (l : List Cp) (k : Nat) (c : Cp) (h : l[k]? = some c) : cntTo img sv l (k + 1) = cntOne img sv c (cntTo img sv l k) := by
  obtain ⟨hk, e⟩ := List.getElem?_eq_some_iff.1 h
  unfold cntTo
  rw [List.take_succ_eq_append_getElem hk, List.foldl_append, e]
  rfl
def Cnt.upTo (n : Cnt) (k : Nat) : Prop := 0 ≤ n.live ∧ n.live ≤ k ∧ 0 ≤ n.ready ∧ n.ready ≤ k ∧ 0 ≤ n.old ∧ n.old ≤ k ∧ 0 ≤ n.failed ∧ n.failed ≤ k ∧ 0 ≤ n.ending ∧ n.ending ≤ k
theorem cntOne_upTo (img : Int) (sv : ByteArray) (c : Cp) (n : Cnt) (k : Nat) (h : n.upTo k) : (cntOne img sv c n).upTo (k + 1) := by
  unfold Cnt.upTo at *
  unfold cntOne cntAdd addB
  split
  · split
    · dsimp only; omega
    · dsimp only; repeat' split
      all_goals omega
  · omega
theorem fold_upTo (img : Int) (sv : ByteArray) : ∀ (l : List Cp) (n : Cnt) (k : Nat), n.upTo k → (l.foldl (fun n c => cntOne img sv c n) n).upTo (k + l.length)
  | [], n, k, h => h
  | c :: l, n, k, h => by
    have := fold_upTo img sv l (cntOne img sv c n) (k + 1) (cntOne_upTo img sv c n k h)
    rw [List.foldl_cons, List.length_cons, Nat.add_comm l.length 1, ← Nat.add_assoc]
    exact this
theorem cntTo_upTo (img : Int) (sv : ByteArray) (l : List Cp) (k : Nat) (hk : k ≤ l.length) : (cntTo img sv l k).upTo k := by
  have := fold_upTo img sv (l.take k) Cnt.none 0 (by unfold Cnt.upTo Cnt.none; dsimp only; omega)
  rw [List.length_take, Nat.zero_add, Nat.min_eq_left hk] at this
  exact this

/-- What StewCountOf answers for a valid book. -/
def cntB (B : Bk) (sv : ByteArray) : Cnt := match svcOf B sv with | none => Cnt.none | some s => cntTo s.image sv B.cps B.cps.length

end Go.Proofs.Ytbceafpodamnfaa
