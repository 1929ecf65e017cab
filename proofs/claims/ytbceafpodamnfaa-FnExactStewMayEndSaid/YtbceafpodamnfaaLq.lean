/-
  My own. What lies in a world, in every world that has grown out of it: for regions that draw their order.
-/
import Derived.Test.YtbceafpodamnfaaWe
import Derived.Lib.QuietBelow
import Derived.BigQuiet
namespace Go.Proofs.Ytbceafpodamnfaa
open Go.RowKit Go.Sort

theorem SvcAt.grown {w : World} {b o : Nat} {s : Svc} (h : SvcAt w b o s) : (∀ p : Regrown, (grow (redrawn w p.d) p.os).cell? ⟨b, o, none⟩ = some (.string s.name)) ∧ (∀ p : Regrown, (grow (redrawn w p.d) p.os).cell? ⟨b, o + 1, none⟩ = some (.int .i64 s.version)) ∧ (∀ p : Regrown, (grow (redrawn w p.d) p.os).cell? ⟨b, o + 2, none⟩ = some (.bool s.gone)) ∧ (∀ p : Regrown, (grow (redrawn w p.d) p.os).cell? ⟨b, o + 3, none⟩ = some (.int .i64 s.image)) ∧ (∀ p : Regrown, (grow (redrawn w p.d) p.os).cell? ⟨b, o + 4, none⟩ = some (.int .i64 s.want)) ∧ (∀ p : Regrown, (grow (redrawn w p.d) p.os).cell? ⟨b, o + 5, none⟩ = some (.int .i64 s.down)) ∧ (∀ p : Regrown, (grow (redrawn w p.d) p.os).cell? ⟨b, o + 6, none⟩ = some (.int .i64 s.over)) ∧ (∀ p : Regrown, (grow (redrawn w p.d) p.os).cell? ⟨b, o + 7, none⟩ = some (.int .i64 s.next)) ∧ (∀ p : Regrown, (grow (redrawn w p.d) p.os).cell? ⟨b, o + 8, none⟩ = some (.int .i64 s.per)) ∧ (∀ p : Regrown, (grow (redrawn w p.d) p.os).cell? ⟨b, o + 9, none⟩ = some (.int .i64 s.least)) ∧ (∀ p : Regrown, (grow (redrawn w p.d) p.os).cell? ⟨b, o + 10, none⟩ = some (.int .i64 s.most)) ∧ (∀ p : Regrown, (grow (redrawn w p.d) p.os).cell? ⟨b, o + 11, none⟩ = some (.int .i64 s.load)) ∧ (∀ p : Regrown, (grow (redrawn w p.d) p.os).cell? ⟨b, o + 12, none⟩ = some (.int .i64 s.cool)) := by
  unfold SvcAt at h
  obtain ⟨c0, c1, c2, c3, c4, c5, c6, c7, c8, c9, c10, c11, c12⟩ := h
  exact ⟨fun p => cell_regrown c0 p.d p.os, fun p => cell_regrown c1 p.d p.os, fun p => cell_regrown c2 p.d p.os, fun p => cell_regrown c3 p.d p.os, fun p => cell_regrown c4 p.d p.os, fun p => cell_regrown c5 p.d p.os, fun p => cell_regrown c6 p.d p.os, fun p => cell_regrown c7 p.d p.os, fun p => cell_regrown c8 p.d p.os, fun p => cell_regrown c9 p.d p.os, fun p => cell_regrown c10 p.d p.os, fun p => cell_regrown c11 p.d p.os, fun p => cell_regrown c12 p.d p.os⟩

theorem CpAt.grown {w : World} {b o : Nat} {s : Cp} (h : CpAt w b o s) : (∀ p : Regrown, (grow (redrawn w p.d) p.os).cell? ⟨b, o, none⟩ = some (.string s.service)) ∧ (∀ p : Regrown, (grow (redrawn w p.d) p.os).cell? ⟨b, o + 1, none⟩ = some (.int .i64 s.number)) ∧ (∀ p : Regrown, (grow (redrawn w p.d) p.os).cell? ⟨b, o + 2, none⟩ = some (.int .i64 s.version)) ∧ (∀ p : Regrown, (grow (redrawn w p.d) p.os).cell? ⟨b, o + 3, none⟩ = some (.int .i64 s.image)) ∧ (∀ p : Regrown, (grow (redrawn w p.d) p.os).cell? ⟨b, o + 4, none⟩ = some (.int .i64 s.state)) ∧ (∀ p : Regrown, (grow (redrawn w p.d) p.os).cell? ⟨b, o + 5, none⟩ = some (.bool s.ending)) ∧ (∀ p : Regrown, (grow (redrawn w p.d) p.os).cell? ⟨b, o + 6, none⟩ = some (.string s.berth)) := by
  unfold CpAt at h
  obtain ⟨c0, c1, c2, c3, c4, c5, c6⟩ := h
  exact ⟨fun p => cell_regrown c0 p.d p.os, fun p => cell_regrown c1 p.d p.os, fun p => cell_regrown c2 p.d p.os, fun p => cell_regrown c3 p.d p.os, fun p => cell_regrown c4 p.d p.os, fun p => cell_regrown c5 p.d p.os, fun p => cell_regrown c6 p.d p.os⟩

theorem BtAt.grown {w : World} {b o : Nat} {s : Bt} (h : BtAt w b o s) : (∀ p : Regrown, (grow (redrawn w p.d) p.os).cell? ⟨b, o, none⟩ = some (.string s.name)) ∧ (∀ p : Regrown, (grow (redrawn w p.d) p.os).cell? ⟨b, o + 1, none⟩ = some (.bool s.drain)) := by
  unfold BtAt at h
  obtain ⟨c0, c1⟩ := h
  exact ⟨fun p => cell_regrown c0 p.d p.os, fun p => cell_regrown c1 p.d p.os⟩

theorem SlS.grown {w : World} {ao : Option Addr} {l : List Svc} (h : SlS w ao l) (d : Nat) (os : Array Obj) : SlS (grow (redrawn w d) os) ao l := h.below (below_regrown w d os)
theorem SlC.grown {w : World} {ao : Option Addr} {l : List Cp} (h : SlC w ao l) (d : Nat) (os : Array Obj) : SlC (grow (redrawn w d) os) ao l := h.below (below_regrown w d os)
theorem SlB.grown {w : World} {ao : Option Addr} {l : List Bt} (h : SlB w ao l) (d : Nat) (os : Array Obj) : SlB (grow (redrawn w d) os) ao l := h.below (below_regrown w d os)
theorem BkAt.grown {w : World} {a1 a2 a3 : Option Addr} {B : Bk} (h : BkAt w a1 a2 a3 B) (d : Nat) (os : Array Obj) : BkAt (grow (redrawn w d) os) a1 a2 a3 B := h.below (below_regrown w d os)

end Go.Proofs.Ytbceafpodamnfaa
