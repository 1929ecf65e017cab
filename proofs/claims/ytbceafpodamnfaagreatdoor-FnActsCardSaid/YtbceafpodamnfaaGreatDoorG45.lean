import Derived.Test.YtbceafpodamnfaaGreatDoorG44
import Derived.Test.YtbceafpodamnfaaGreatDoorRows
import Derived.OpenShut
import Derived.ProofKit
import Derived.ChangeSame
import Derived.ChangeVars
import Derived.JoinedOf
import Derived.LaidLaws
import Derived.LaidHandle
import Derived.Stop.Joined
import Derived.SevenTiedAt
set_option linter.all false
set_option maxRecDepth 100000
namespace Go.Proofs.YtbceafpodamnfaaGreatDoor
open Go.ChangeShapes Go.WideShapes Go.ChangeAt Go.RowKit
open Go.Sort
theorem ownTryA:ownKnob Tryz.prog.godebug=none:=by kernel_rfl
theorem Tryz.etA:Tryz.prog.globalNamed "errors.errorType" =some 0:=by kernel_rfl
theorem Tryz.rtA:(Tryz.prog.cutTypes.find? (·.1== "internal/reflectlite.rtype")).map (·.2)=some 298:=by kernel_rfl
theorem Tryz.cD:((List.range 455).filter λt=>Tryz.prog.rowNamed t [101,114,114,111,114])=[127]:=by kernel_rfl
theorem Tryz.sizeA:Tryz.prog.types.size=455:=by kernel_rfl
theorem errT_of_laid{W:World}(h:laidMetH Tryz.prog Rows.fnActsRow.laid W):Ja W:=by
 have h':laidMet Tryz.prog [] W/\handlesMet Tryz.prog Rows.fnActsRow.laid W:=h;obtain⟨name,u,ty,e1,e2,e3,e4,e5⟩:=h'.2 _ (cZ.2 rfl);have en:name=[101,114,114,111,114]:=(dg e1).symm;subst en;obtain rfl:=dg (Tryz.rtA.symm.trans e2);have hm:ty∈(List.range 455).filter λt=>Tryz.prog.rowNamed t [101,114,114,111,114]:=List.mem_filter.2 ⟨dA.2 (by rw[<-Tryz.sizeA];exact e3),e4⟩
 rw[Tryz.cD]at hm;obtain rfl:=cZ.1 hm;have hh:typeHandle Tryz.prog 127=.pointer (some ⟨9,127,none⟩):=by kernel_rfl
 rw[hh]at e5;unfold Ja
 simpa using World.var?_cell Tryz.etA e5 0
def qlw(w0:World):World:=
 {w0 with heap:=w0.heap.modify 0 fun
   | .cells _ t frozen=>.cells #[.iface 298 (.agg #[.pointer (some ⟨9,127,none⟩)])] t frozen
   |o=>o}
theorem qlm(os:Go.Os)(args:Array Value):laidMetH Tryz.prog Rows.fnActsRow.laid ((qlw (World.holding Tryz.prog os ⟨#[],#[],[]⟩)).forCall (λ_ _=>0) ⟨#[],args,[]⟩).memory:=
 laidMetH_of_parts (laidMet_nil _ _) (by kernel_rfl)
theorem byteCells:Tryz.prog.cellsOf 5=1:=by kernel_rfl
theorem open_code{H:Type}{enc:TypeId × Value->H}{W:World}{base:Nat}{v:Value}{d:DataW H}{p:List MemPlace}(hval:Value.okWide Tryz.prog W .any base 22 v)(h:DataW.Trod enc Tryz.prog W 0 (λ_=>true) true 22 v d p):
  ∃(ao:Option Addr) (n cap:Nat),v=.slice ao n cap/\n<=cap/\IC W ao n:=by
 obtain⟨a1,len,cap,rfl⟩:=okWide_slice Tryz.underlying22 hval;obtain⟨fuel,hf⟩:=h;rcases open_ints Tryz.underlying22 Tryz.underlying5 byteCells hf with⟨hcs,hx⟩|⟨a,len',cap',zs,hcs,_,hl,hm,hz,hx,hcell,hwz⟩
 ·simp[Value.cells]at hcs
  obtain⟨rfl,rfl,rfl⟩:=hcs;exact⟨none,0,0,rfl,AG _,λh=>absurd h (by omega)⟩
 ·simp[Value.cells]at hcs
  obtain⟨rfl,rfl,rfl⟩:=hcs;simp only[gM]at hz;refine⟨some a,len,cap,rfl,hl,λhp=>?_⟩;obtain⟨b,off,spot⟩:=a;have hspot:spot=none:=by simpa [Addr.add] using World.cell?_spot (hcell 0 (by omega))
  subst hspot
  have hc:∀i,i<len->∃x:Int,W.cell? ⟨b,off+i,none⟩=some (.int .u8 x)/\0<=x/\x<256:=λi hi=>by
   have h1:=hcell i (by omega);rw[fJ]at h1;refine⟨_,h1,?_⟩
   have hw:=hwz (zs.getD i 0) (by
    rw[List.getD_eq_getElem?_getD,dj (show i<zs.length by omega)]
    exact List.getElem_mem _)
   have hw':(decide (IntKind.min .u8<=zs.getD i 0)&&decide (zs.getD i 0<=IntKind.max .u8))=true:=hw;have e1:IntKind.min .u8=0:=by decide
   have e2:IntKind.max .u8=255:=by decide
   rw[e1,e2]at hw';simp only[cY,dM]at hw';omega
  refine⟨b,off,rfl,?_,hc⟩;obtain⟨x,hx,_⟩:=hc 0 hp;rcases eG b W.heap.size with h|h
  ·exact h
  ·have:W.heap[b]?=none:=iL h
   simp[World.cell?,this]at hx
theorem liftedActs(os:Go.Os)(started:os.Started)(H:Type)(enc:TypeId × Value->H):
  ReturnsInHanded {} Tryz.checked os 5 .any (λw args=>(Rows.fnActsSpec.pre enc Tryz.prog Tryz.f5 [] false w args/\laidMetH Tryz.prog Rows.fnActsRow.laid w)/\sizedMet enc Tryz.prog Tryz.f5 (OpenSpec.ofChange Rows.fnActsSpec) false w args)
   (Rows.fnActsSpec.post enc Tryz.prog Tryz.f5 false true false false):=by
 refine returnsInHanded_of_change_and (C:=Tryz.checked) (X:=λw _=>laidMetH Tryz.prog Rows.fnActsRow.laid w) (λ_ _ _ hh h=>h.of_heap hh) ownTryA started (by kernel_rfl) Tryz.func5
  (ChangeSpec.witness_at (enc:=enc) (C:=Tryz.checked) (os:=os) (X:=λw _=>laidMetH Tryz.prog Rows.fnActsRow.laid w) false (qlw (World.holding Tryz.prog os ⟨#[],#[],[]⟩)) #[.slice none 0 0] 8 rfl (by kernel_rfl) (by kernel_rfl) (by kernel_rfl) (by kernel_rfl) (by kernel_rfl) (qlm os _)) ?_
 intro W base args ds gs before hval0 hW _ _ hL _;have hval:∀(j:Nat) t v,Tryz.f5.params[j]?=some t->args[j]?=some v->Value.okWide Tryz.prog W .any base t v:=hval0;have hW':=hW;obtain⟨p,q,hA0,hV,rfl,hfz,hnd⟩:=hW;have hA:DataW.TrodAll enc Tryz.prog W 0 (λ_=>true) true Tryz.f5.params.toList args.toList ds p:=hA0;rw[Tryz.params5]at hA hval;obtain⟨v0,vs0,d0,ds0,p0,q0,hargs,rfl,rfl,h0,r0⟩:=trodAll_cons hA;obtain⟨rfl,rfl,rfl⟩:=trodAll_nil r0;obtain rfl:args=#[v0]:=by cases args;simp_all
 obtain⟨rfl,rfl⟩:=trodVars_none hV;have k0:=h0;have lt0:∀x∈p0,x.block<W.heap.size:=by obtain⟨m,hm⟩:=k0;exact DataW.trod_lt m _ _ _ hm
 obtain⟨ao,n,cap,rfl,hn,hC⟩:=open_code (hval 0 22 v0 rfl rfl) h0;clear hA0 hval0;refine(lawActs_any ao n cap W (errT_of_laid hL) hn hC).mono λe W' ⟨he,bel⟩=>?_
 subst he;exact⟨_,rfl,_,_,_,[],_,[],hW',trodAll_mk1 (shut_bool Tryz.underlying4 _),trodAll_cons_mk (Below.trod Im (by kernel_rfl) (gK (by kernel_rfl)) k0 bel lt0) trodAll_mk0,rfl,bel.frame _,λh=>by cases h⟩
