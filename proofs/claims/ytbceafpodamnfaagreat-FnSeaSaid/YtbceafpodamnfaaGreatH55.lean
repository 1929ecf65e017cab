import Derived.Test.YtbceafpodamnfaaGreatH54
import Derived.Test.YtbceafpodamnfaaGreatRows
import Derived.ProofKit
import Derived.OpenShut
set_option linter.all false
set_option maxRecDepth 100000
namespace Go.Proofs.YtbceafpodamnfaaGreat
open Go.ChangeShapes Go.WideShapes Go.ChangeAt Go.RowKit
theorem ownTryG:ownKnob Tryz.prog.godebug=none:=by kernel_rfl
theorem Oe:Tryz.prog.cellsOf 5=1:=by kernel_rfl
theorem OU{H:Type}{enc:TypeId × Value->H}{W:World}{base:Nat}{v:Value}{d:DataW H}{p:List MemPlace}(hval:Value.okWide Tryz.prog W .any base 22 v)(h:DataW.Trod enc Tryz.prog W 0 (λ_=>true) true 22 v d p):
  ∃(ao:Option Addr) (n cap:Nat),v=.slice ao n cap/\n<=cap/\Fg W ao n:=by
 obtain⟨a1,len,cap,rfl⟩:=okWide_slice Tryz.underlying22 hval;obtain⟨fuel,hf⟩:=h;rcases open_ints Tryz.underlying22 Tryz.underlying5 Oe hf with⟨hcs,hx⟩|⟨a,len',cap',zs,hcs,_,hl,hm,hz,hx,hcell,hwz⟩
 ·simp[Value.cells]at hcs
  obtain⟨rfl,rfl,rfl⟩:=hcs;exact⟨none,0,0,rfl,AG _,λh=>absurd h (by omega)⟩
 ·simp[Value.cells]at hcs
  obtain⟨rfl,rfl,rfl⟩:=hcs;simp only[if_true]at hz;refine⟨some a,len,cap,rfl,hl,λhp=>?_⟩;obtain⟨b,off,spot⟩:=a;have hspot:spot=none:=by simpa [Addr.add] using World.cell?_spot (hcell 0 (by omega))
  subst hspot
  have hc:∀i,i<len->∃x:Int,W.cell? ⟨b,off+i,none⟩=some (.int .u8 x)/\0<=x/\x<256:=λi hi=>by
   have h1:=hcell i (by omega);rw[Addr.add_lit]at h1;refine⟨_,h1,?_⟩
   have hw:=hwz (zs.getD i 0) (by
    rw[List.getD_eq_getElem?_getD,List.getElem?_eq_getElem (show i<zs.length by omega)]
    exact List.getElem_mem _)
   have hw':(decide (IntKind.min .u8<=zs.getD i 0)&&decide (zs.getD i 0<=IntKind.max .u8))=true:=hw;have e1:IntKind.min .u8=0:=by decide
   have e2:IntKind.max .u8=255:=by decide
   rw[e1,e2]at hw';simp only[Bool.and_eq_true,decide_eq_true_eq]at hw';omega
  refine⟨b,off,rfl,?_,hc⟩;obtain⟨x,hx,_⟩:=hc 0 hp;rcases Nat.lt_or_ge b W.heap.size with h|h
  ·exact h
  ·have:W.heap[b]?=none:=Array.getElem?_eq_none h
   simp[World.cell?,this]at hx
theorem Mj(os:Os)(started:os.Started)(H:Type)(enc:TypeId × Value->H):
  ReturnsInHanded {} Tryz.checked os 3 .any (Rows.fnSeaSpec.pre6 enc Tryz.prog Tryz.f3 Rows.fnSeaRow.domain false) (Rows.fnSeaSpec.post enc Tryz.prog Tryz.f3 false true false false):=by
 refine returnsInHanded_of_change (C:=Tryz.checked) ownTryG started (by kernel_rfl) Tryz.func3
  (ChangeSpec.witness6 (enc:=enc) (C:=Tryz.checked) false ⟨#[],#[.slice none 0 0],[]⟩ 8 (by kernel_rfl) (by kernel_rfl) (by kernel_rfl) (by kernel_rfl)) ?_
 intro W base args ds gs before hval0 hW hcnd _;have hval:∀(j:Nat) t v,Tryz.f3.params[j]?=some t->args[j]?=some v->Value.okWide Tryz.prog W .any base t v:=hval0;have hW':=hW;obtain⟨p,q,hA0,hV,rfl,hfz,hnd⟩:=hW;have hA:DataW.TrodAll enc Tryz.prog W 0 (λ_=>true) true Tryz.f3.params.toList args.toList ds p:=hA0;rw[Tryz.params3]at hA hval;obtain⟨v0,vs0,d0,ds0,p0,q0,hargs,rfl,rfl,h0,r0⟩:=trodAll_cons hA;obtain⟨rfl,rfl,rfl⟩:=trodAll_nil r0;obtain rfl:args=#[v0]:=by cases args;simp_all
 obtain⟨rfl,rfl⟩:=trodVars_none hV;have k0:=h0;have lt0:∀x∈p0,x.block<W.heap.size:=by obtain⟨m,hm⟩:=k0;exact DataW.trod_lt m _ _ _ hm
 obtain⟨ao,n,cap,rfl,hn,hC⟩:=OU (hval 0 22 v0 rfl rfl) h0;clear hA0 hval0;refine(Ml ao n cap W hn hC).mono λe W' ⟨he,bel⟩=>?_
 subst he;exact⟨_,rfl,_,_,_,[],_,[],hW',trodAll_mk1 (shut_bool Tryz.underlying4 _),trodAll_cons_mk (Below.trod Tryz.laidOutB (by kernel_rfl) (of_decide_eq_true (by kernel_rfl)) k0 bel lt0) trodAll_mk0,rfl,bel.frame _,λh=>by cases h⟩
theorem overSeaL:Rows.fnSeaRow.holds Tryz.pinned (OpenSpec.ofChange Rows.fnSeaSpec):=
 OpenClaim.holds_of_wide 3 Tryz.f3 rfl rfl rfl rfl rfl rfl rfl ⟨rfl,rfl,rfl,rfl,rfl⟩ rfl rfl rfl rfl rfl (by kernel_rfl) Tryz.func3 (by kernel_rfl)
  (of_decide_eq_true (by kernel_rfl)) (by unfold Func.isWrapper;first|(rw[if_pos (by decide+kernel)];kernel_rfl)|(rw[if_neg (by decide+kernel)];exact⟨rfl,rfl⟩))
  (λos started H enc _=>Mj os started H enc)
theorem sea_law:Rows.FnSeaSaid:=overSeaL
#print axioms sea_law
end Go.Proofs.YtbceafpodamnfaaGreat
