/-
  My own: Uq.
-/
import Derived.Test.YtbceafpodamnfabGreatDoorG49
import Derived.Test.YtbceafpodamnfabGreatDoorG50
set_option linter.unusedVariables false
set_option linter.unusedSimpArgs false
namespace Go.Proofs.YtbceafpodamnfabGreatDoor
open Go
set_option maxRecDepth 100000 in
theorem overApply : Rows.FnExactStewApplySaid :=
 OpenClaim.holds_of_wide 3 Tryz.f3 rfl rfl rfl rfl rfl rfl rfl ⟨rfl, rfl, rfl, rfl, rfl⟩ rfl rfl rfl rfl rfl (by kernel_rfl) Tryz.func3 factsApply
  (of_decide_eq_true (by kernel_rfl)) (by unfold Func.isWrapper; first | (rw [if_pos (by decide +kernel)]; kernel_rfl) | (rw [if_neg (by decide +kernel)]; exact ⟨rfl, rfl⟩))
  (fun os started H enc _ => liftedApply os started H enc)
theorem goesApply : true = Rows.fnExactStewApplyRow.goesBy Tryz.pinned.checked.prog := by kernel_rfl
theorem looksApply : true = Tryz.pinned.checked.prog.looks [] := by kernel_rfl
theorem mainApply : Tryz.pinned.checked.prog.mainIs = some (Rows.fnExactStewApplyCard.stood.harness.1, Rows.fnExactStewApplyCard.stood.harness.2.toList) := by kernel_rfl
theorem textApply : Rows.fnExactStewApplyRow.wfByText (OpenSpec.ofChange Rows.fnExactStewApplySpec) = true := by kernel_rfl
theorem apply_holds : Rows.FnExactStewApplyCardSaid := by
 have h6 : Claim7.isSixth { stood := { row := Rows.fnExactStewApplyRow, standIns := [], harness := Rows.fnExactStewApplyCard.stood.harness, looks := true }, kinds := [] } = false := by kernel_rfl
 have hl : ∀ f fn, Tryz.pinned.checked.prog.funcNamed Rows.fnExactStewApplyRow.func = some f → Tryz.pinned.checked.prog.funcs[f]? = some fn → true = Tryz.pinned.checked.prog.looks [] ∧ ∀ (j : Nat) t, fn.params[j]? = some t → Tryz.pinned.checked.prog.wantsStandIn t = false := by
  intro f fn hf hfn
  obtain rfl : f = 3 := Option.some.inj ((show Tryz.pinned.checked.prog.funcNamed Rows.fnExactStewApplyRow.func = some 3 by kernel_rfl).symm.trans hf) |>.symm
  obtain rfl : fn = Tryz.f3 := (Option.some.inj (Tryz.func3.symm.trans hfn)).symm
  refine ⟨looksApply, fun j t ht => ?_⟩
  rw [Tryz.params3] at ht
  rcases j with _ | _ | j
  ·obtain rfl : 26 = t := by simpa using ht
   exact (show Tryz.prog.wantsStandIn 26 = false by kernel_rfl)
  ·obtain rfl : 29 = t := by simpa using ht
   exact (show Tryz.prog.wantsStandIn 29 = false by kernel_rfl)
  ·simp at ht
 exact ⟨Claim7.tied_new_at .later [.handle] true (Claim7.new_of_sixth overApply Rows.fnExactStewApplyCard.stood.harness true rfl ⟨rfl, rfl⟩ mainApply h6 hl) textApply, (fun D hD => by cases hD), fnExactStewApply_row_tie, (fun h => by cases h), goesApply⟩
#print axioms apply_holds
end Go.Proofs.YtbceafpodamnfabGreatDoor
