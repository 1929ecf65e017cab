import Derived.Test.YtbceafpodamnfaaGreatDoorG48
import Derived.Test.YtbceafpodamnfaaGreatDoorG49
import Derived.Test.YtbceafpodamnfaaGreatDoorCards
import Derived.Test.YtbceafpodamnfaaGreatDoorTie
set_option linter.all false
set_option maxRecDepth 100000
namespace Go.Proofs.YtbceafpodamnfaaGreatDoor
open Go
theorem overAsks:Rows.FnAsksSaid:=
 OpenClaim.holds_of_wide 6 Tryz.f6 rfl rfl rfl rfl rfl rfl rfl ⟨rfl,rfl,rfl,rfl,rfl⟩ rfl rfl rfl rfl rfl (by kernel_rfl) Tryz.func6 factsAsks
  (iK (by kernel_rfl)) (by unfold Func.isWrapper;first|(rw[dv (by decide+kernel)];kernel_rfl)|(rw[dk (by decide+kernel)];exact⟨rfl,rfl⟩))
  (λos z H F _=>liftedAsks os z H F)
theorem goesAsks:true=Rows.fnAsksRow.goesBy Tryz.pinned.checked.prog:=by kernel_rfl
theorem looksAsks:true=Tryz.pinned.checked.prog.looks []:=by kernel_rfl
theorem mainAsks:Tryz.pinned.checked.prog.mainIs=some (Rows.fnAsksCard.stood.harness.1,Rows.fnAsksCard.stood.harness.2.toList):=by kernel_rfl
theorem textAsks:Rows.fnAsksRow.wfByText (OpenSpec.ofChange Rows.fnAsksSpec)=true:=by kernel_rfl
theorem asks_holds:Rows.FnAsksCardSaid:=by
 have H:Claim7.isSixth {stood:={row:=Rows.fnAsksRow,standIns:=[],harness:=Rows.fnAsksCard.stood.harness,looks:=true},kinds:=[]}=false:=by kernel_rfl
 have M:∀f fn,Tryz.pinned.checked.prog.funcNamed Rows.fnAsksRow.func=some f->Tryz.pinned.checked.prog.funcs[f]?=some fn->true=Tryz.pinned.checked.prog.looks []/\∀(j:Nat) t,fn.params[j]?=some t->Tryz.pinned.checked.prog.wantsStandIn t=false:=by
  intro f fn hf z;obtain rfl:f=6:=dj ((show Tryz.pinned.checked.prog.funcNamed Rows.fnAsksRow.func=some 6 by kernel_rfl).symm.trans hf) |>.symm;obtain rfl:fn=Tryz.f6:=(dj (Tryz.func6.symm.trans z)).symm;refine⟨looksAsks,λj t F=>?_⟩;rw[Tryz.params6]at F;rcases j with _|j
  ·obtain rfl:22=t:=by simpa using F
   exact(show Tryz.prog.wantsStandIn 22=false by kernel_rfl)
  ·simp at F
 exact⟨Claim7.tied_new_at .later [.handle] true (Claim7.new_of_sixth overAsks Rows.fnAsksCard.stood.harness true rfl ⟨rfl,rfl⟩ mainAsks H M) textAsks,(λD J=>by cases J),fnAsks_row_tie,(λh=>by cases h),goesAsks⟩
#print axioms asks_holds
end Go.Proofs.YtbceafpodamnfaaGreatDoor
