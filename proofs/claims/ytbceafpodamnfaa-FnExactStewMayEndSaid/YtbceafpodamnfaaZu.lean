/-
  My own. Copies of a valid book: no two of one service and number.
-/
import Derived.Test.YtbceafpodamnfaaZa
import Derived.Test.YtbceafpodamnfaaWv
import Derived.Test.YtbceafpodamnfaaDh
namespace Go.Proofs.Ytbceafpodamnfaa
open Go.RowKit Go.Sort Go.Maps

/-- No two copies of one service and number. -/
def uniqC (B : Bk) : Prop := ∀ (i j : Nat) c d, i < j → B.cps[i]? = some c → B.cps[j]? = some d → ¬ (c.service = d.service ∧ c.number = d.number)
/-- Copies' numbers are of their kind. -/
def wfC (B : Bk) : Prop := ∀ c ∈ B.cps, (Lit.int .i64 c.number).wf = true

theorem aheadB_trans {a b c : Cp} (h1 : aheadB a b = true) (h2 : aheadB b c = true) : aheadB a c = true := by
  unfold aheadB at *
  simp only [Bool.or_eq_true, Bool.and_eq_true, decide_eq_true_eq, beq_iff_eq] at *
  rcases h1 with h1 | ⟨e1, n1⟩
  · rcases h2 with h2 | ⟨e2, n2⟩
    · exact .inl (bytesLess_trans _ _ _ h1 h2)
    · exact .inl (by rw [← e2]; exact h1)
  · rcases h2 with h2 | ⟨e2, n2⟩
    · exact .inl (by rw [e1]; exact h2)
    · exact .inr ⟨e1.trans e2, by omega⟩

theorem cps_ahead {B : Bk} (h : ∀ i, i < B.cps.length → cpAtB B i = true) : ∀ (j i : Nat) s t, i < j → B.cps[i]? = some s → B.cps[j]? = some t → aheadB s t = true
  | 0, i, _, _, hi, _, _ => absurd hi (by omega)
  | j + 1, i, s, t, hi, hs, ht => by
    have hlt : j + 1 < B.cps.length := (List.getElem?_eq_some_iff.1 ht).1
    obtain ⟨p, hp⟩ : ∃ p, B.cps[j]? = some p := ⟨B.cps[j]'(by omega), by rw [List.getElem?_eq_getElem]⟩
    have h1 : aheadB p t = true := by
      have := h (j + 1) hlt
      unfold cpAtB at this
      rw [ht] at this
      simp [hp] at this
      exact this.2
    rcases Nat.lt_or_ge i j with h' | h'
    · exact aheadB_trans (cps_ahead h j i s p h' hs hp) h1
    · have e : i = j := by omega
      subst e
      rw [hp] at hs
      cases hs
      exact h1

theorem uniqC_of {B : Bk} (h : allTo (cpAtB B) B.cps.length = true) : uniqC B := fun i j c d hij hc hd ⟨e1, e2⟩ => by
  have := cps_ahead (cpAt_of h) j i c d hij hc hd
  unfold aheadB at this
  rw [e1, e2, bytesLess_irrefl] at this
  simp at this

end Go.Proofs.Ytbceafpodamnfaa
