import Derived.Test.YtbceafpodamnfaaGreatDoorG45
import Derived.Test.YtbceafpodamnfaaGreatDoorG46
import Derived.Test.YtbceafpodamnfaaGreatDoorCards
import Derived.Test.YtbceafpodamnfaaGreatDoorTie
set_option linter.all false
set_option maxRecDepth 100000
namespace Go.Proofs.YtbceafpodamnfaaGreatDoor
open Go
theorem overActs:Rows.FnActsSaid:=
 OpenClaim.holds_of_wide 5 Tryz.f5 rfl rfl rfl rfl rfl rfl rfl ⟨rfl,rfl,rfl,rfl,rfl⟩ rfl rfl rfl rfl rfl (by kernel_rfl) Tryz.func5 factsActs
  (gK (by kernel_rfl)) (by unfold Func.isWrapper;first|(rw[dB (by decide+kernel)];kernel_rfl)|(rw[dC (by decide+kernel)];exact⟨rfl,rfl⟩))
  (λos started H enc _=>liftedActs os started H enc)
theorem goesActs:true=Rows.fnActsRow.goesBy Tryz.pinned.checked.prog:=by kernel_rfl
theorem looksActs:true=Tryz.pinned.checked.prog.looks []:=by kernel_rfl
theorem mainActs:Tryz.pinned.checked.prog.mainIs=some (Rows.fnActsCard.stood.harness.1,Rows.fnActsCard.stood.harness.2.toList):=by kernel_rfl
theorem textActs:Rows.fnActsRow.wfByText (OpenSpec.ofChange Rows.fnActsSpec)=true:=by kernel_rfl
theorem acts_holds:Rows.FnActsCardSaid:=by
 have h6:Claim7.isSixth {stood:={row:=Rows.fnActsRow,standIns:=[],harness:=Rows.fnActsCard.stood.harness,looks:=true},kinds:=[]}=false:=by kernel_rfl
 have hl:∀f fn,Tryz.pinned.checked.prog.funcNamed Rows.fnActsRow.func=some f->Tryz.pinned.checked.prog.funcs[f]?=some fn->true=Tryz.pinned.checked.prog.looks []/\∀(j:Nat) t,fn.params[j]?=some t->Tryz.pinned.checked.prog.wantsStandIn t=false:=by
  intro f fn hf hfn;obtain rfl:f=5:=dg ((show Tryz.pinned.checked.prog.funcNamed Rows.fnActsRow.func=some 5 by kernel_rfl).symm.trans hf) |>.symm;obtain rfl:fn=Tryz.f5:=(dg (Tryz.func5.symm.trans hfn)).symm;refine⟨looksActs,λj t ht=>?_⟩;rw[Tryz.params5]at ht;rcases j with _|j
  ·obtain rfl:22=t:=by simpa using ht
   exact(show Tryz.prog.wantsStandIn 22=false by kernel_rfl)
  ·simp at ht
 exact⟨Claim7.tied_new_at .later [.handle] true (Claim7.new_of_sixth overActs Rows.fnActsCard.stood.harness true rfl ⟨rfl,rfl⟩ mainActs h6 hl) textActs,(λD hD=>by cases hD),fnActs_row_tie,(λh=>by cases h),goesActs⟩
#print axioms acts_holds
end Go.Proofs.YtbceafpodamnfaaGreatDoor
