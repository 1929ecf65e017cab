import Derived.Test.YtbceafpodamnfaaGreatDoorG47
import Derived.Test.YtbceafpodamnfaaGreatDoorRows
import Derived.OpenShut
import Derived.ProofKit
import Derived.ChangeSame
import Derived.ChangeVars
import Derived.JoinedOf
import Derived.LaidLaws
import Derived.LaidHandle
import Derived.Stop.Joined
import Derived.SevenTiedAt
set_option linter.all false
set_option maxRecDepth 100000
namespace Go.Proofs.YtbceafpodamnfaaGreatDoor
open Go.ChangeShapes Go.WideShapes Go.ChangeAt Go.RowKit
open Go.Sort
open Go.Value renaming int->In,slice->Sl,string->Sg,bool->Bo,pointer->Po
open Go.IntKind renaming i64->i6
theorem ownTryA:ownKnob Tryz.prog.godebug=none:=by kernel_rfl
theorem Tryz.etA:Tryz.prog.globalNamed "errors.errorType" =some 0:=by kernel_rfl
theorem Tryz.rtA:(Tryz.prog.cutTypes.find? (·.1== "internal/reflectlite.rtype")).map (·.2)=some 298:=by kernel_rfl
theorem Tryz.oneRowA:((List.range 455).filter λt=>Tryz.prog.rowNamed t [101,114,114,111,114])=[127]:=by kernel_rfl
theorem Tryz.sizeA:Tryz.prog.types.size=455:=by kernel_rfl
theorem errT_of_laid{W:World}(h:laidMetH Tryz.prog Rows.fnAsksRow.laid W):KW W:=by
 have J:laidMet Tryz.prog [] W/\handlesMet Tryz.prog Rows.fnAsksRow.laid W:=h;obtain⟨name,u,ty,F,H,e3,e4,e5⟩:=J.2 _ (dl.2 rfl);have en:name=[101,114,114,111,114]:=(dj F).symm;subst en;obtain rfl:=dj (Tryz.rtA.symm.trans H);have z:ty∈(List.range 455).filter λt=>Tryz.prog.rowNamed t [101,114,114,111,114]:=eR.2 ⟨dH.2 (by rw[<-Tryz.sizeA];exact e3),e4⟩
 rw[Tryz.oneRowA]at z;obtain rfl:=dl.1 z;have M:typeHandle Tryz.prog 127=Po (some ⟨9,127,none⟩):=by kernel_rfl
 rw[M]at e5;unfold KW
 simpa using World.var?_cell Tryz.etA e5 0
def laidOnto(w0:World):World:=
 {w0 with heap:=w0.heap.modify 0 fun
   | .cells _ t frozen=>.cells #[.iface 298 (.agg #[Po (some ⟨9,127,none⟩)])] t frozen
   |o=>o}
theorem laidOnto_met(os:Os)(args:Array Value):laidMetH Tryz.prog Rows.fnAsksRow.laid ((laidOnto (World.holding Tryz.prog os ⟨#[],#[],[]⟩)).forCall (λ_ _=>0) ⟨#[],args,[]⟩).memory:=
 laidMetH_of_parts (laidMet_nil _ _) (by kernel_rfl)
theorem byteCells:Tryz.prog.cellsOf 5=1:=by kernel_rfl
theorem open_code{H:Type}{enc:TypeId × Value->H}{W:World}{base:Nat}{v:Value}{d:DataW H}{p:List MemPlace}(M:Value.okWide Tryz.prog W .any base 22 v)(h:DataW.Trod enc Tryz.prog W 0 (λ_=>true) true 22 v d p):
  ∃(ao:Option Addr) (n cap:Nat),v=.slice ao n cap/\n<=cap/\JX W ao n:=by
 obtain⟨a1,len,cap,rfl⟩:=okWide_slice Tryz.underlying22 M;obtain⟨af,hf⟩:=h;rcases open_ints Tryz.underlying22 Tryz.underlying5 byteCells hf with⟨F,hx⟩|⟨a,aj,ae,zs,F,_,hl,hm,hz,hx,z,aa⟩
 ·simp[Value.cells]at F
  obtain⟨rfl,rfl,rfl⟩:=F;exact⟨none,0,0,rfl,AG,λh=>absurd h (by omega)⟩
 ·simp[Value.cells]at F
  obtain⟨rfl,rfl,rfl⟩:=F;simp only[gu]at hz;refine⟨some a,len,cap,rfl,hl,λhp=>?_⟩;obtain⟨b,Y,Z⟩:=a;have J:Z=none:=by simpa [Addr.add] using World.cell?_spot (z 0 (by omega))
  subst J
  have hc:∀i,i<len->∃x:Int,W.cell? ⟨b,Y+i,none⟩=some (.int .u8 x)/\0<=x/\x<256:=λi hi=>by
   have h1:=z i (by omega);rw[fP]at h1;refine⟨_,h1,?_⟩
   have hw:=aa (zs.getD i 0) (by
    rw[List.getD_eq_getElem?_getD,dz (show i<zs.length by omega)]
    exact List.getElem_mem _)
   have O:(decide (IntKind.min .u8<=zs.getD i 0)&&decide (zs.getD i 0<=IntKind.max .u8))=true:=hw;have e1:IntKind.min .u8=0:=by decide
   have e2:IntKind.max .u8=255:=by decide
   rw[e1,e2]at O;simp only[di,dS]at O;omega
  refine⟨b,Y,rfl,?_,hc⟩;obtain⟨x,hx,_⟩:=hc 0 hp;rcases eW b W.heap.size with h|h
  ·exact h
  ·have:W.heap[b]?=none:=io h
   simp[World.cell?,this]at hx
theorem liftedAsks(os:Os)(F:os.Started)(H:Type)(enc:TypeId × Value->H):
  ReturnsInHanded {} Tryz.checked os 6 .any (λw args=>(Rows.fnAsksSpec.pre enc Tryz.prog Tryz.f6 [] false w args/\laidMetH Tryz.prog Rows.fnAsksRow.laid w)/\sizedMet enc Tryz.prog Tryz.f6 (OpenSpec.ofChange Rows.fnAsksSpec) false w args)
   (Rows.fnAsksSpec.post enc Tryz.prog Tryz.f6 false true false false):=by
 refine returnsInHanded_of_change_and (C:=Tryz.checked) (X:=λw _=>laidMetH Tryz.prog Rows.fnAsksRow.laid w) (λ_ _ _ hh h=>h.of_heap hh) ownTryA F (by kernel_rfl) Tryz.func6
  (ChangeSpec.witness_at (enc:=enc) (C:=Tryz.checked) (os:=os) (X:=λw _=>laidMetH Tryz.prog Rows.fnAsksRow.laid w) false (laidOnto (World.holding Tryz.prog os ⟨#[],#[],[]⟩)) #[Sl none 0 0] 8 rfl (by kernel_rfl) (by kernel_rfl) (by kernel_rfl) (by kernel_rfl) (by kernel_rfl) (laidOnto_met os _)) ?_
 intro W base args ds gs Y z hW _ _ hL _;have J:∀(j:Nat) t v,Tryz.f6.params[j]?=some t->args[j]?=some v->Value.okWide Tryz.prog W .any base t v:=z;have Z:=hW;obtain⟨p,q,O,hV,rfl,aq,ay⟩:=hW;have hA:DataW.TrodAll enc Tryz.prog W 0 (λ_=>true) true Tryz.f6.params.toList args.toList ds p:=O;rw[Tryz.params6]at hA J;obtain⟨v0,aA,d0,al,p0,q0,aa,rfl,rfl,h0,r0⟩:=trodAll_cons hA;obtain⟨rfl,rfl,rfl⟩:=trodAll_nil r0;obtain rfl:args=#[v0]:=by cases args;simp_all
 obtain⟨rfl,rfl⟩:=trodVars_none hV;have k0:=h0;have ae:∀x∈p0,x.block<W.heap.size:=by obtain⟨m,hm⟩:=k0;exact DataW.trod_lt m _ _ _ hm
 obtain⟨ao,n,cap,rfl,hn,hC⟩:=open_code (J 0 22 v0 rfl rfl) h0;clear O z;refine(lawAsks_any ao n cap W (errT_of_laid hL) hn hC).mono λe W' ⟨he,M⟩=>?_
 subst he;exact⟨_,rfl,_,_,_,[],_,[],Z,trodAll_mk1 (shut_bool Tryz.underlying4 _),trodAll_cons_mk (Below.trod KR (by kernel_rfl) (iK (by kernel_rfl)) k0 M ae) trodAll_mk0,rfl,M.frame _,λh=>by cases h⟩
end Go.Proofs.YtbceafpodamnfaaGreatDoor
