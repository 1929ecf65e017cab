/-
  DERIVED. GIVEN WITH THE SEED: THE CARDS: each row of YtbceafpodamnfabGreatDoorRows.lean that lists a variable, with what it lists TIED to the program's text (the seventh form; the later family's looks); each row that meets fmt, with fmt's text TOLD by the authors' own Lean function (tested against real Go, not proved from fmt's source: count such statements apart). THE CARD IS WHAT COUNTS. Prove the row's statement (the work); the ties are given (YtbceafpodamnfabGreatDoorTie.lean); close each card by the builder's one call (the guide's Derived/Test/ToyasCard.lean, 'card_holds'). Laid BY PROGRAM, IN A SANDBOX (cutbox-door.mjs). By AI agents, Wed Nov 11 2026. No macro, syntax, notation, axiom, sorry.
-/
import Derived.Test.YtbceafpodamnfabGreatDoorRows
import GoSem.ClaimSeven
namespace Go.Proofs.YtbceafpodamnfabGreatDoor
namespace Rows

/-- THE TIED CARD OF 'laws.FnExactStewApply'. -/
def fnExactStewApplyCard : Claim7 := { stood := { row := fnExactStewApplyRow, standIns := [], harness := (true, "905b78b8f1d0bc93506d412dc117d99177776ff821559ef320103c31ab262fcb"), looks := true }, kinds := [], alts := [], goes := true, laidByText := true, laidKinds := [.handle], laidTests := true, laidLooks := .later }
def FnExactStewApplyCardSaid : Prop := Claim7.holds Tryz.pinned (.plain (OpenSpec.ofChange fnExactStewApplySpec)) fnExactStewApplyCard

/-- THE TIED CARD OF 'laws.FnExactStewDo'. -/
def fnExactStewDoCard : Claim7 := { stood := { row := fnExactStewDoRow, standIns := [], harness := (true, "905b78b8f1d0bc93506d412dc117d99177776ff821559ef320103c31ab262fcb"), looks := true }, kinds := [], alts := [], goes := true, laidByText := true, laidKinds := [.handle], laidTests := true, laidLooks := .later }
def FnExactStewDoCardSaid : Prop := Claim7.holds Tryz.pinned (.plain (OpenSpec.ofChange fnExactStewDoSpec)) fnExactStewDoCard

/-- THE TIED CARD OF 'laws.FnExactStewCalm'. -/
def fnExactStewCalmCard : Claim7 := { stood := { row := fnExactStewCalmRow, standIns := [], harness := (true, "905b78b8f1d0bc93506d412dc117d99177776ff821559ef320103c31ab262fcb"), looks := true }, kinds := [], alts := [], goes := true, laidByText := true, laidKinds := [.handle], laidTests := true, laidLooks := .later }
def FnExactStewCalmCardSaid : Prop := Claim7.holds Tryz.pinned (.plain (OpenSpec.ofChange fnExactStewCalmSpec)) fnExactStewCalmCard

/-- THE TIED CARD OF 'laws.FnExactStewSession'. -/
def fnExactStewSessionCard : Claim7 := { stood := { row := fnExactStewSessionRow, standIns := [], harness := (true, "905b78b8f1d0bc93506d412dc117d99177776ff821559ef320103c31ab262fcb"), looks := true }, kinds := [], alts := [], goes := true, laidByText := true, laidKinds := [.data, .data, .data, .data, .handle, .sentinel, .sentinel, .pinned], laidTests := true, laidLooks := .later }
def FnExactStewSessionCardSaid : Prop := Claim7.holds Tryz.pinned (.plain (OpenSpec.ofChange fnExactStewSessionSpec)) fnExactStewSessionCard

/-- THE SECOND FORM's CARD OF 'laws.FnExactStewApply'. -/
def fnExactStewApplyUptoCard : Claim7 := { stood := { row := fnExactStewApplyUptoRow, standIns := [], harness := (true, "905b78b8f1d0bc93506d412dc117d99177776ff821559ef320103c31ab262fcb"), looks := true }, kinds := [], alts := [], goes := true, laidByText := true, laidKinds := [.handle], laidTests := true, laidLooks := .later }
def FnExactStewApplyUptoCardSaid : Prop := Claim7.holds Tryz.pinned (.plain (OpenSpec.upto fnExactStewApplySpec)) fnExactStewApplyUptoCard

/-- THE SECOND FORM's CARD OF 'laws.FnExactStewDo'. -/
def fnExactStewDoUptoCard : Claim7 := { stood := { row := fnExactStewDoUptoRow, standIns := [], harness := (true, "905b78b8f1d0bc93506d412dc117d99177776ff821559ef320103c31ab262fcb"), looks := true }, kinds := [], alts := [], goes := true, laidByText := true, laidKinds := [.handle], laidTests := true, laidLooks := .later }
def FnExactStewDoUptoCardSaid : Prop := Claim7.holds Tryz.pinned (.plain (OpenSpec.upto fnExactStewDoSpec)) fnExactStewDoUptoCard

/-- THE SECOND FORM's CARD OF 'laws.FnExactStewCalm'. -/
def fnExactStewCalmUptoCard : Claim7 := { stood := { row := fnExactStewCalmUptoRow, standIns := [], harness := (true, "905b78b8f1d0bc93506d412dc117d99177776ff821559ef320103c31ab262fcb"), looks := true }, kinds := [], alts := [], goes := true, laidByText := true, laidKinds := [.handle], laidTests := true, laidLooks := .later }
def FnExactStewCalmUptoCardSaid : Prop := Claim7.holds Tryz.pinned (.plain (OpenSpec.upto fnExactStewCalmSpec)) fnExactStewCalmUptoCard

/-- THE SECOND FORM's CARD OF 'laws.FnExactStewSession'. -/
def fnExactStewSessionUptoCard : Claim7 := { stood := { row := fnExactStewSessionUptoRow, standIns := [], harness := (true, "905b78b8f1d0bc93506d412dc117d99177776ff821559ef320103c31ab262fcb"), looks := true }, kinds := [], alts := [], goes := true, laidByText := true, laidKinds := [.data, .data, .data, .data, .handle, .sentinel, .sentinel, .pinned], laidTests := true, laidLooks := .later }
def FnExactStewSessionUptoCardSaid : Prop := Claim7.holds Tryz.pinned (.plain (OpenSpec.upto fnExactStewSessionSpec)) fnExactStewSessionUptoCard
end Rows
end Go.Proofs.YtbceafpodamnfabGreatDoor
