import Derived.Test.YtbceafpodamnfaaGreatDoorG15
set_option linter.all false
set_option maxHeartbeats 4000000
set_option maxRecDepth 100000
namespace Go.Proofs.YtbceafpodamnfaaGreatDoor
section
open Go.RowKit
open Go.Value renaming int->In,slice->Sl,string->Sg,bool->Bo,pointer->Po
open Go.IntKind renaming i64->i6
def NK(N:Cnt):Value:=.agg (qtV N)
def AP.ac(p:AP):Ac:=⟨p.nm,p.se,p.cr,p.wa,p.co,p.sc,p.en,p.dr⟩
theorem Idx.bH{B:Bk}{nm:qB}{k:Int}(h:Idx (λs=>nmB s.name nm) B.ah k):(k= -1/\A5 B nm=none)\/∃(j:Nat) (s:Svc),k=j/\B.ah[j]?=some s/\A5 B nm=some s/\Nr B.ah nm=j:=by
 rcases h with⟨rfl,W⟩|⟨j,x,rfl,H,O,M⟩
 ·exact .inl ⟨rfl,fS.2 λx hx=>by have:=W x hx;unfold nmB at this;simp[this]⟩
 ·have z:∀i,i<j->∀s,B.ah[i]?=some s->nmB s.name nm=false:=λi F s Y=>M s (AE (show(B.ah.take j)[i]?=some s by rw[eH F];exact Y))
  refine .inr ⟨j,x,rfl,H,?_,Eb H O z⟩;obtain⟨J,hx⟩:=AC H;exact gD.2 ⟨O,j,J,hx,λi F=>by have:=z i F _ (dz qo);unfold nmB at this;simp[this]⟩
theorem Pn(sv:qB)(n:Int):cpQ sv n=isC sv n:=by
 funext c
 unfold cpQ isC nmB
 congr 1
theorem Idx.cp{l:List Cp}{nm:qB}{n k:Int}(h:Idx (cpQ nm n) l k):(k= -1/\l.find? (isC nm n)=none)\/∃(j:Nat) (c:Cp),k=j/\l[j]?=some c/\l.find? (isC nm n)=some c/\KB l nm n=j:=by
 rw[Pn]at h;rcases h with⟨rfl,W⟩|⟨j,x,rfl,H,O,M⟩
 ·exact .inl ⟨rfl,fS.2 λx hx=>by rw[W x hx];decide⟩
 ·have z:∀i,i<j->∀s,l[i]?=some s->isC nm n s=false:=λi F s Y=>M s (AE (show(l.take j)[i]?=some s by rw[eH F];exact Y))
  refine .inr ⟨j,x,rfl,H,?_,Eb H O z⟩;obtain⟨J,hx⟩:=AC H;exact gD.2 ⟨O,j,J,hx,λi F=>by rw[z i F _ (dz qo)];decide⟩
section
variable {RD:(Nat->Prop)->World->Nat->Nat->Prop}
abbrev ctInX:Ct:=ctV (λp:Int × Int × Int=>[In i6 p.1,In i6 p.2.1,In i6 p.2.2]) (λ_=>[]) (λ_=>True) λp v es=>es=[]/\v=.bool (inB p.1 p.2.1 p.2.2)
theorem inX_ct(F:CR RD):CH Tryz.prog RD 63 0 ctInX:=by
 refine Da (BB F) Tryz.func63 qk qk (λ_=>rfl) (λp H h _=>?_) ?_
 ·obtain⟨a,b,c⟩:=p
  obtain⟨J,M,O⟩:=H;simp at h;obtain⟨rfl,rfl,rfl⟩:=h;rfl
 rintro⟨a,b,c⟩ _;have key:∀r:Bool,inB a b c=r->Dm (λv es=>es=[]/\v=.bool (inB a b c)) (.bool r) [] 0:=λr h=>⟨_,_,[],⟨rfl,by rw[h]⟩,rfl,trivial,rfl,rfl,trivial⟩
 refine dg (λh=>?_) (λh=>?_)
 ·refine dg (λz=>?_) (λz=>?_)
  ·exact⟨.inl rfl,_,rfl,key true (inB_iff.2 ⟨h,z⟩),rfl⟩
  ·exact⟨.inl rfl,_,rfl,key false (by unfold inB;rw[ek z,iH]),rfl⟩
 ·exact⟨.inl rfl,_,rfl,key false (by unfold inB;rw[ek h];rfl),rfl⟩
abbrev Rj:Ct:=ctV (λp:Cp × Cp=>[cpV p.1,cpV p.2]) (λ_=>[]) (λ_=>True) λp v es=>es=[]/\v=.bool (An p.1 p.2)
theorem Vu(H:CR RD):CH Tryz.prog RD 67 0 Rj:=by
 refine Da (BB H) Tryz.func67 qk qk (λ_=>rfl) (λp J h _=>?_) ?_
 ·obtain⟨a,b⟩:=p
  obtain⟨M,O⟩:=J;simp only[dD,eo]at h;rw[KG h.1,KG h.2]
 rintro⟨a,b⟩ _;have key:∀r:Bool,An a b=r->∀m,Dm (λv es=>es=[]/\v=.bool (An a b)) (.bool r) m 0:=λr h m=>⟨_,_,[],⟨rfl,by rw[h]⟩,rfl,trivial,rfl,rfl,trivial⟩
 refine dg (λh=>?_) (λh=>?_)
 ·exact⟨.inl rfl,_,rfl,key true (by unfold An;rw[show Op.bytesLess a.aa.toList b.aa.toList=true from h];rfl) _,rfl⟩
 refine dg (λz=>?_) (λz=>?_)
 ·refine dg (λF=>?_) (λF=>?_)
  ·exact⟨.inl rfl,_,rfl,key true (by unfold An;rw[show(a.aa.toList==b.aa.toList)=true from z,dX F,gY,ja]) _,rfl⟩
  ·exact⟨.inl rfl,_,rfl,key false (by unfold An;rw[show Op.bytesLess a.aa.toList b.aa.toList=false from h,show(a.aa.toList==b.aa.toList)=true from z,ek F];rfl) _,rfl⟩
 ·exact⟨.inl rfl,_,rfl,key false (by unfold An;rw[show Op.bytesLess a.aa.toList b.aa.toList=false from h,show(a.aa.toList==b.aa.toList)=false from z];rfl) _,rfl⟩
end
section
variable {RD:(Nat->Prop)->World->Nat->Nat->Prop}
abbrev Ri:Ct:=ctV (λp:BP × ByteArray=>[p.1.v,Sg p.2]) (λp=>p.1.m) (λp=>p.1.tn) λp v es=>es=[]/\v=NK (BG p.1.B p.2)
theorem Kt(hR:CR RD):CH Tryz.prog RD 103 0 Ri:=by
 refine Da (Aa (BB hR) (f:=118) qk (Gc hR)) Tryz.func103 qk qk (λ_=>rfl) Lw ?_;rintro⟨⟨B,c1,c2,c3⟩,nm⟩ ⟨hs,hl,ht⟩;have hl:B.ar.length<=1000:=hl;refine⟨(⟨B,c1,c2,c3⟩,nm),rfl,⟨hs,hl,ht⟩,?_⟩;rintro _ _ ⟨rfl,k,rfl,hk⟩;have ay:k<B.ah.length:=hk.lt.2;rcases Idx.bH hk with⟨rfl,ae⟩|⟨j,s,rfl,hj,O,_⟩
 ·refine⟨λn s=>n=0/\s=⟨[(7,In i6 0),(6,In i6 (-1)),(5,.complex .f64 88 0),(4,.complex .f64 72 0),(2,.complex .f64 64 0),(1,.string nm)],(88,AX [In i6 0,In i6 0,In i6 0,In i6 0,In i6 0] 83)::(72,AX [In i6 0,In i6 0,In i6 0,In i6 0,In i6 0] 83)::(64,AX (Fs B c1 c2 c3) 28)::bkM B,100,0⟩,0,⟨_,qe,rfl,rfl⟩,?_⟩
  rintro n _ ⟨rfl,rfl⟩;have key:∀m,Dm (λv es=>es=[]/\v=NK (BG B nm)) (NK Cnt.none) m 0:=λm=>⟨_,_,[],⟨rfl,by unfold BG;rw[ae]⟩,rfl,trivial,rfl,rfl,trivial⟩
  refine dg (λF=>?_) (λF=>?_)
  ·refine dg (λH=>absurd H qd) (λH=>?_)
   exact⟨.inl rfl,_,rfl,key _,rfl⟩
  ·exact⟨.inl rfl,_,rfl,key _,rfl⟩
 ·refine⟨λn st=>∃(i:Nat) (a b c d e:Int),(i<=B.ar.length/\Cnt.mk a b c d e=Ar s.aj nm B.ar i)/\n=B.ar.length - i/\st=⟨[(7,In i6 i),(6,In i6 j),(5,.complex .f64 88 0),(4,.complex .f64 72 0),(2,.complex .f64 64 0),(1,.string nm)],(88,AX [In i6 a,In i6 b,In i6 c,In i6 d,In i6 e] 83)::(72,AX [In i6 0,In i6 0,In i6 0,In i6 0,In i6 0] 83)::(64,AX (Fs B c1 c2 c3) 28)::bkM B,100,0⟩,B.ar.length,⟨_,qe,0,0,0,0,0,0,⟨qo,rfl⟩,qo,rfl⟩,?_⟩
  rintro n _ ⟨i,a,b,c,d,e,⟨hi,Y⟩,rfl,rfl⟩;have W:=Ed s.aj nm B.ar i hi;rw[<-Y]at W;obtain⟨u1,u2,u3,u4,u5,u6,u7,u8,u9,ag⟩:=W;simp only at u1 u2 u3 u4 u5 u6 u7 u8 u9 ag;refine dg (λF=>?_) (λF=>?_)
  ·refine dg (λH=>?_) (λH=>absurd (Int.natCast_nonneg j) H)
   refine dg qo (dg F (dg AG ?_));intro y hy;rw[du]at hy;have J:=TU s.aj nm B.ar i y hy;rw[<-Y]at J;have fin:∀a' b' c' d' e',Cc s.aj nm y ⟨a,b,c,d,e⟩=⟨a',b',c',d',e'⟩->Cnt.mk a' b' c' d' e'=Ar s.aj nm B.ar (i+1):=λ_ _ _ _ _ h=>by rw[J,h]
   clear J Y hk O H;have F:i<B.ar.length:=Int.ofNat_lt.1 F
   repeat' (first
    |refine dg (λ_=>?_) (λ_=>?_)
    |(refine dg qo (dg qo (dg AG (λs' M=>?_)));rw[du,hj]at M;cases M)
    |(intro z hz;have hz:=hz ⟨qo,qo⟩;subst hz)
    |exact⟨B.ar.length - (i+1),qo,_,qe,i+1,_,_,_,_,_,⟨qo,fin _ _ _ _ _ (by clear fin;simp_all [Cc,DF,IC])⟩,rfl,rfl⟩)
  ·have Z:i=B.ar.length:=by have:¬(i:Int)<B.ar.length:=F;omega
   subst Z;have hc:BG B nm=⟨a,b,c,d,e⟩:=by unfold BG;rw[show A5 B nm=some s from O];exact Y.symm
   have key:∀m,Dm (λv es=>es=[]/\v=NK (BG B nm)) (NK ⟨a,b,c,d,e⟩) m 0:=λm=>⟨_,_,[],⟨rfl,rfl⟩,by rw[hc];rfl,trivial,rfl,rfl,trivial⟩
   exact⟨.inl rfl,_,rfl,key _,rfl⟩
def El(B:Bk)(sv:qB)(num:Int):Bool:=match B.ar.find? (isC sv num) with
 |none=>false
 |some c=>match A5 B sv with
  |none=>false
  |some s=>FA B s sv c
abbrev ctMayX:Ct:=ctV (λp:BP × ByteArray × Int=>[p.1.v,Sg p.2.1,In i6 p.2.2]) (λp=>p.1.m) (λp=>p.1.tn/\(∃s∈p.1.B.ah,nmB s.name p.2.1=true)/\∀s∈p.1.B.ah,DR s) λp v es=>es=[]/\v=.bool (El p.1.B p.2.1 p.2.2)
theorem PU(hR:CR RD):CH Tryz.prog RD 123 0 ctMayX:=by
 refine Da (Aa (Aa (Aa (BB hR) (f:=118) qk (Gc hR)) (f:=122) qk (Ps hR)) (f:=103) qk (Kt hR)) Tryz.func123 qk qk (λ_=>rfl) Rv ?_;rintro⟨⟨B,c1,c2,c3⟩,nm,num⟩ ⟨ht,J,H⟩;have J:∃s∈B.ah,nmB s.name nm=true:=J;have hl:B.ar.length<=1000:=ht.2.1;have H:∀s∈B.ah,DR s:=H;refine⟨(⟨B,c1,c2,c3⟩,nm,num),rfl,ht,?_⟩;rintro _ _ ⟨rfl,k,rfl,hk⟩;have key:∀(r:Bool) m,El B nm num=r->Dm (λv es=>es=[]/\v=.bool (El B nm num)) (.bool r) m 0:=λr m h=>⟨_,_,[],⟨rfl,by rw[h]⟩,rfl,trivial,rfl,rfl,trivial⟩
 rcases Idx.cp hk with⟨rfl,au⟩|⟨j,c,rfl,hj,hf,_⟩
 ·refine dg (λh=>?_) (λh=>absurd (show(-1:Int)<0 by decide) h)
  exact⟨.inl rfl,_,rfl,key false _ (by unfold El;rw[au]),rfl⟩
 have Y:=hk.lt.2;clear hk;refine dg (λh=>absurd h (by show ¬(j:Int)<0;omega)) (λh=>?_);refine dg qo (dg Y (dg AG (λx hx=>?_)));rw[du,hj]at hx;cases hx;refine dg (λF=>?_) (λF=>?_)
 ·exact⟨.inl rfl,_,rfl,key false _ (by unfold El FA;rw[hf];simp only[show c.am=true from F];cases A5 B nm<;>rfl),rfl⟩
 refine⟨(⟨B,c1,c2,c3⟩,nm),rfl,ht,?_⟩;rintro _ _ ⟨rfl,k2,rfl,Z⟩;have M:=Z.yes J;rcases Idx.bH Z with⟨rfl,_⟩|⟨j2,s,rfl,W,ae,_⟩
 ·exact absurd M.1 qd
 have hS:=H s (AE W);have z:El B nm num=FA B s nm c:=by unfold El;rw[hf,show A5 B nm=some s from ae]
 refine dg M.1 (dg M.2 (dg AG (λs' aa=>?_)));rw[du,W]at aa;cases aa;refine dg qo (dg Y (dg AG (λx' ag=>?_)));rw[du,hj]at ag;cases ag;have hE:c.am=false:=by simpa using F
 refine dg (λF=>?_) (λF=>?_)
 ·exact⟨.inl rfl,_,rfl,key true _ (by rw[z];unfold FA;rw[hE,show(c.ay !=3)=true from by simpa using F];rfl),rfl⟩
 refine dg (λhg=>?_) (λhg=>?_)
 ·exact⟨.inl rfl,_,rfl,key true _ (by rw[z];unfold FA;rw[hE,show s.aH=true from hg];simp),rfl⟩
 refine⟨(⟨B,c1,c2,c3⟩,nm),rfl,ht,?_⟩;rintro _ _ ⟨rfl,rfl⟩;have O:BG B nm=Ar s.aj nm B.ar B.ar.length:=by unfold BG;rw[show A5 B nm=some s from ae]
 have af:=GX B nm;intro n1 h1 n2 h2;have h1:=h1 ⟨by show _<=(BG B nm).ready - 1;have:=af.2.2.1;omega,by show(BG B nm).ready - 1<=_;have:=af.2.2.2.1;omega⟩;have h2:=h2 ⟨by have:=hS.ba;have:=hS.cu;omega,by have:=hS.bd;have:=hS.cn;omega⟩;subst h1 h2;refine dg (λhx=>?_) (λhx=>?_)
 ·exact⟨.inl rfl,_,rfl,key true _ (by rw[z];unfold FA;rw[hE,<-O,dX (show s.au - s.aK<=(BG B nm).ready - 1 from hx)];simp),rfl⟩
 ·exact⟨.inl rfl,_,rfl,key false _ (by rw[z];unfold FA;rw[hE,<-O,ek (show ¬s.au - s.aK<=(BG B nm).ready - 1 from hx),show(c.ay !=3)=false from by simpa using F,show s.aH=false from by simpa using hg];rfl),rfl⟩
end
section
variable {RD:(Nat->Prop)->World->Nat->Nat->Prop}
abbrev Rk:Ct:=ctV (λp:AP=>[p.v 0]) (λp=>[(0,BY 88 2 enL p.en)]) (λ_=>True) λp v es=>es=[]/\v=.bool (Be p.ac)
theorem Vv(hR:CR RD):CH Tryz.prog RD 121 0 Rk:=by
 refine Da (Aa (BB hR) (f:=63) qk (inX_ct hR)) Tryz.func121 qk qk (λ_=>rfl) (λp p' h hm=>?_) ?_
 ·simp only[dD,dR,fH,eo]at h hm
  exact AP.inj h hm
 rintro⟨nm,se,cr,wa,co,sc,en,ce,dr⟩ _;have hA:Be (AP.ac ⟨nm,se,cr,wa,co,sc,en,ce,dr⟩)=(inB cr 0 20&&decide (en.length<=200)&&IB en&&(if sc then inB wa 0 10&&inB co 0 3 else wa==0&&co==0)&&(!dr||(cr==0&& !sc&&en.length==0))):=rfl;have key:∀(r:Bool) m,(inB cr 0 20&&decide (en.length<=200)&&IB en&&(if sc then inB wa 0 10&&inB co 0 3 else wa==0&&co==0)&&(!dr||(cr==0&& !sc&&en.length==0)))=r->Dm (λv es=>es=[]/\v=.bool (Be (AP.ac ⟨nm,se,cr,wa,co,sc,en,ce,dr⟩))) (.bool r) m 0:=λr m h=>⟨_,_,[],⟨rfl,by rw[hA,h]⟩,rfl,trivial,rfl,rfl,trivial⟩
 clear hA;refine⟨(cr,0,20),rfl,trivial,?_⟩;rintro v _ ⟨rfl,hv⟩;have hv:v=.bool (inB cr 0 20):=hv;obtain⟨r,hr⟩:∃r,inB cr 0 20=r:=⟨_,rfl⟩;rw[hr]at hv;simp only[hr]at key;subst hv
 cases r with
 |false=>exact⟨.inl rfl,_,rfl,key false _ rfl,rfl⟩
 |true=>
  refine dg (λW=>?_) (λW=>?_)
  ·exact⟨.inl rfl,_,rfl,key false _ (by rw[ek (by have:(200:Int)<en.length:=W;omega)];rfl),rfl⟩
  have W:en.length<=200:=by have:¬(200:Int)<en.length:=W;omega
  simp only[dX W,gY]at key;refine⟨λn s=>∃x:Nat,(1<=x/\x<=201/\(∀i a b,i+1<x->en[i]?=some a->en[i+1]?=some b->a.ak<b.ak))/\n=201 - x/\s=⟨[(3,In i6 x),(1,.complex .f64 64 0)],[(64,AX (AP.cs 0 ⟨nm,se,cr,wa,co,sc,en,ce,dr⟩) 45),(0,BY 88 2 enL en)],100,0⟩,200,⟨_,qe,1,⟨qo,qo,λ_ _ _ h=>qo⟩,qo,rfl⟩,?_⟩;rintro n _ ⟨x,⟨h1,h2,O⟩,rfl,rfl⟩;refine dg (λF=>?_) (λF=>?_)
  ·have F:(x:Int)<en.length:=F
   refine λy hy=>?_
   have hy:y=((x - 1:Nat):Int):=by have:=hy ⟨qo,qo⟩;omega
   subst hy;refine dg qo (dg qo (dg AG (λe he=>?_)));refine dg qo (dg F (dg AG (λe' J=>?_)));rw[du]at he J;refine dg (λM=>?_) (λM=>?_)
   ·exact⟨.inl rfl,_,rfl,key false _ (by rw[Un he (show en[x - 1+1]?=some e' by rw[show x - 1+1=x by omega];exact J) (by have:e'.ak<=e.ak:=M;omega)];rfl),rfl⟩
   ·refine λz hz=>?_
    have hz:z=((x+1:Nat):Int):=by have:=hz ⟨qo,qo⟩;omega
    subst hz
    exact⟨201 - (x+1),qo,_,qe,x+1,⟨qo,qo,λi a b hi Y hb=>by
     by_cases ag:i+1<x
     ·exact O i a b ag Y hb
     ·have e1:i=x - 1:=qo
      subst e1;rw[he]at Y;rw[show x - 1+1=x by omega,J]at hb;cases Y;cases hb;have:¬e'.ak<=e.ak:=M
      omega⟩,rfl,rfl⟩
  ·have H:IB en=true:=(IA en).2 λi a b Y hb=>O i a b (by have:=(AC hb).1;have:¬(x:Int)<en.length:=F;omega) Y hb
   simp only[H,gY]at key;clear O F H W hr h1 h2;cases sc<;>cases dr
   all_goals repeat' (first
    |refine dg (λ_=>?_) (λ_=>?_)
    |(refine⟨(wa,0,10),rfl,trivial,?_⟩;rintro v _ ⟨rfl,hv⟩;have hv:v=.bool (inB wa 0 10):=hv;obtain⟨r1,Z⟩:∃r,inB wa 0 10=r:=⟨_,rfl⟩;rw[Z]at hv;simp only[Z]at key;subst hv;cases r1)
    |(refine⟨(co,0,3),rfl,trivial,?_⟩;rintro v _ ⟨rfl,hv⟩;have hv:v=.bool (inB co 0 3):=hv;obtain⟨r2,aa⟩:∃r,inB co 0 3=r:=⟨_,rfl⟩;rw[aa]at hv;simp only[aa]at key;subst hv;cases r2)
    |exact⟨.inl rfl,_,rfl,key _ _ (by clear key;simp_all),rfl⟩)
end
def QZ:Nat->Code->Code
 |n+1,.seq _ b=>QZ n b
 |_,c=>c
abbrev Γ4:List (Nat × Nat × Ct):=[(67,0,Rj),(63,0,ctInX),(103,0,Ri),(123,0,ctMayX),(62,0,TM),(122,0,TL),(118,0,Kr),(121,0,Rk)]
abbrev Ρ4:Sp:=[(35,Rh TT Γ4 (Hq 35 (Tryz.f61.body.getD .skip))),(37,Rh TT Γ4 (Hq 37 (Tryz.f61.body.getD .skip))),(39,Rh TT Γ4 (Hq 39 (Tryz.f61.body.getD .skip))),(41,Rh TT Γ4 (Hq 41 (Tryz.f61.body.getD .skip))),(48,vC TT (Hq 48 (Tryz.f61.body.getD .skip)) 15 25 0 259 [(5,264,263),(8,267,266),(13,272,271)]),(53,cutS (vC TT (Hq 53 (Tryz.f61.body.getD .skip)) 13 24 0 287 [(5,292,291),(11,298,297)]))]
def Pw(B:Bk)(code:Int)(v:Value)(m:AW):Prop:=∃(i1 i2 i3 n1 n2 n3 k1 k2 k3:Nat) (b1 b2 b3:VB),v=.tuple #[.agg #[In i6 B.av,.iface i1 (Sl none n1 k1),.iface i2 (Sl none n2 k2),.iface i3 (Sl none n3 k3)],In i6 code]/\(n1=B.ah.length/\n2=B.ar.length/\n3=B.aw.length)/\(lk m i1=some b1/\Rds b1 13 svL B.ah)/\(lk m i2=some b2/\Rds b2 7 cpL B.ar)/\(lk m i3=some b3/\Rds b3 2 btL B.aw)
def endX(B:Bk)(A:Ac):Exit->St->Prop:=λe s=>(e=.ret\/e=.normal)/\∃v,PD TT Tryz.f61.results.toList s.t s.m=some v/\Pw (Ah B A) (BM B A) v s.m/\clo s.m (Bc v)=true
theorem Fe{B:Bk}{A:Ac}{c:Int}{m:AW}{c1 c2 c3:Nat}(h:BM B A=c)(J:c≠0)(z:lk m 0=some (BY 34 13 svL B.ah))(F:lk m 1=some (BY 76 7 cpL B.ar))(H:lk m 2=some (BY 90 2 btL B.aw)):Pw (Ah B A) (BM B A) (.tuple #[.agg #[In i6 B.av,.iface 0 (Sl none B.ah.length c1),.iface 1 (Sl none B.ar.length c2),.iface 2 (Sl none B.aw.length c3)],In i6 c]) m:=by
 have:Ah B A=B:=by unfold Ah;rw[h,dk J]
 rw[this,h];exact⟨0,1,2,_,_,_,c1,c2,c3,_,_,_,rfl,⟨rfl,rfl,rfl⟩,⟨z,.row⟩,⟨F,.row⟩,⟨H,.row⟩⟩
section
variable {RD:(Nat->Prop)->World->Nat->Nat->Prop}
theorem TA(z:CR RD):Env Tryz.prog RD TT Γ4:=
 Aa (Aa (Aa (Aa (Aa (Aa (Aa (Aa (BB z) qk (Vv z)) qk (Gc z)) qk (Ps z)) qk (Uj z)) qk (PU z)) qk (Kt z)) qk (inX_ct z)) qk (Vu z)
theorem spec4(z:CR RD):SpAll Tryz.prog RD Ρ4 303 (Tryz.f61.body.getD .skip):=by
 intro i C hC p F;have H:=Aw _ _ _ hC;simp only[dJ,dW,fF,dR]at H;rcases H with⟨rfl,rfl⟩|⟨rfl,rfl⟩|⟨rfl,rfl⟩|⟨rfl,rfl⟩|⟨rfl,rfl⟩|⟨rfl,rfl⟩
 ·cases dl.1 (show p∈[(_,_)] from F)
  exact Gs (TA z) qk qk
 ·cases dl.1 (show p∈[(_,_)] from F)
  exact Gs (TA z) qk qk
 ·cases dl.1 (show p∈[(_,_)] from F)
  exact Gs (TA z) qk qk
 ·cases dl.1 (show p∈[(_,_)] from F)
  exact Gs (TA z) qk qk
 ·cases dl.1 (show p∈[(_,_)] from F)
  exact KI (BB z) qk qk qk qk ⟨_,rfl,rfl,rfl⟩ ⟨⟨_,rfl,rfl,rfl⟩,⟨_,rfl,rfl,rfl⟩,⟨_,rfl,rfl,rfl⟩,trivial⟩
 ·cases dl.1 (show p∈[(_,_)] from F)
  exact cutS_ok (TA z) (KI (BB z) qk qk qk qk ⟨_,rfl,rfl,rfl⟩ ⟨⟨_,rfl,rfl,rfl⟩,⟨_,rfl,rfl,rfl⟩,trivial⟩)
end
def mA(A:AP)(av:Int)(L:List Svc)(l:List Cp)(b3:List Bt)(s:Svc)(k1 n2 k2 k3:Nat):AW:=[(500,AX (svL s) 34),(456,AX [In i6 av,.iface 448 (Sl none L.length k1),.iface 449 (Sl none n2 k2),.iface 450 (Sl none b3.length k3)] 28),(448,At 34 13 k1 svL L),(449,At 76 7 k2 cpL l),(450,At 90 2 k3 btL b3),(72,AX (A.cs 3) 45),(80,AX [In i6 0,Sl none 0 0,Sl none 0 0,Sl none 0 0] 28),(3,BY 88 2 enL A.en)]
def tA(k v:Int):Tm:=[(6,In i6 k),(10,In i6 v),(9,.complex .f64 456 0),(13,.complex .f64 500 0),(3,.complex .f64 72 0),(4,.complex .f64 80 0)]
def Js(A:AP)(s:Svc)(v:Int):Cp:=⟨A.nm,s.next,v,s.aj,1,false,⟨#[]⟩⟩
theorem Tf{B:Bk}{A:AP}{k:Nat}{L:List Cp}{s0 sc:Svc}{k1 aA k3:Nat}(aQ:k<B.ah.length)(hL:B.ah.length<=1000)(hl:L.length<=200)(aO:0<=A.cr)(Z:A.cr<=20)(aD:sc.aj=s0.aj)(a6:sc.next=s0.next)(aS:1<=s0.next)(a4:s0.next<=1000000)(M:BM B A.ac=0)(F:Ah B A.ac=⟨B.av+1,if A.dr then B.ah.take k++B.ah.drop (k+1) else B.ah.set k {sc with next:=s0.next+A.cr,ag:=B.av+1},If B A.ac s0 L A.cr.toNat,B.aw⟩)
  {z:St} (hE:Ent z ⟨tA k (B.av+1),mA A B.av B.ah L B.aw sc k1 L.length aA k3,600,0⟩):vwr TT Γ4 Ρ4 (QZ 17 (Tryz.f61.body.getD .skip)) (endX B A.ac) z:=by
 refine⟨_,hE,?_⟩;refine⟨λn z=>∃(t:Nat) (l:List Cp) (u:Int) (n2 k2:Nat),(t<=A.cr.toNat/\l=If B A.ac s0 L t/\u=s0.next+t/\n2=l.length)/\n=20 - t/\z=⟨(15,In i6 t)::tA k (B.av+1),mA A B.av B.ah l B.aw {sc with next:=u} k1 n2 k2 k3,600,0⟩,20,⟨_,qe,0,L,sc.next,L.length,aA,⟨qo,rfl,qo,rfl⟩,qo,rfl⟩,?_⟩;rintro n _ ⟨t,l,u,n2,k2,⟨ht,al,hu,af⟩,rfl,rfl⟩;have cj:l.length=L.length+t:=by rw[al,Hn]
 refine dg (λae=>?_) (λae=>?_)
 ·have ae:(t:Int)<A.cr:=ae
  have ah:Js A {sc with next:=u} (B.av+1)=E9 B A.ac s0 t:=by unfold Js E9;rw[hu];simp only[aD];rfl
  refine⟨λn z=>∃y:Nat,(y<=n2/\∀i c,i<y->l[i]?=some c->An c (E9 B A.ac s0 t)=true)/\n=n2 - y/\z=⟨(17,In i6 y)::(16,.complex .f64 696 0)::(15,In i6 t)::tA k (B.av+1),(696,AX (cpL (Js A {sc with next:=u} (B.av+1))) 76)::mA A B.av B.ah l B.aw {sc with next:=u} k1 n2 k2 k3,720,0⟩,n2,⟨_,qe,0,⟨qo,λ_ _ h=>qo⟩,qo,rfl⟩,?_⟩;rintro n _ ⟨y,⟨a7,aq⟩,rfl,rfl⟩;refine dg (λY=>?caseA) (λY=>?caseB)
  case' caseA=>
   have Y:(y:Int)<n2:=Y;refine dg qo (dg Y (dg (fW af) (dg (show(y:Int).toNat<l.length by omega) (λc' aa=>?_))));rw[du]at aa;refine⟨(c',Js A {sc with next:=u} (B.av+1)),rfl,trivial,?_⟩;rintro v _ ⟨rfl,hv⟩;have hv:v=.bool (An c' (Js A {sc with next:=u} (B.av+1))):=hv;obtain⟨r,hr⟩:∃r,An c' (Js A {sc with next:=u} (B.av+1))=r:=⟨_,rfl⟩;rw[hr]at hv;subst hv;rw[ah]at hr;cases r
   case' true=>
    refine λz hz=>?_
    have hz:z=((y+1:Nat):Int):=by have:=hz ⟨qo,qo⟩;omega
    subst hz
    exact⟨n2 - (y+1),qo,_,qe,y+1,⟨qo,λi c hi Z=>by
     by_cases h:i<y
     ·exact aq i c h Z
     ·obtain rfl:i=y:=qo
      rw[aa]at Z;cases Z;exact hr⟩,rfl,rfl⟩
   have am:∀c,l[y]?=some c->An c (E9 B A.ac s0 t)=false:=λc Z=>by rw[aa]at Z;cases Z;exact hr
   clear hr aa
  case' caseB=>
   have am:∀c,l[y]?=some c->An c (E9 B A.ac s0 t)=false:=λc Z=>by
    have:=(AC Z).1;have:¬(y:Int)<n2:=Y;omega
  all_goals
   have ax:l.take y++Js A {sc with next:=u} (B.av+1)::l.drop y=If B A.ac s0 L (t+1):=by
    rw[ah];show _=Lb (If B A.ac s0 L t) (E9 B A.ac s0 t);rw[<-al];exact(putC_at (QR qo aq am)).symm
   clear am aq Y;refine⟨[449],λJ=>dg qo (dg (by have h:l.length<=k2:=J.1;omega) (dg (by show(y:Int).toNat<=l.length;omega) (dg qo (dg qo (dg (fW af) (dg (by have h:l.length<=k2:=J.1;omega) ?_))))))⟩;rw[du];refine dg AG (dg (by show 0+y<=1000000000;omega) (dg (λ_ _ _ _=>⟨rfl,rfl⟩) (λd1=>?_)));refine dg AG (dg (by show 0+y+1<=1000000000;omega) (λd2=>?_));refine dg AG (dg (by show 0+y+1+(n2 - y)<=1000000000;omega) (dg (λ_ _ _ _=>⟨rfl,rfl⟩) (λH=>?_)));refine λu1 W u2 an=>?_
   have W:inR (u+1)->u1=u+1:=W;have W:u1=s0.next+((t+1:Nat):Int):=by have:=W ⟨qo,qo⟩;omega
   have an:u2=((t+1:Nat):Int):=by have:=an ⟨qo,qo⟩;omega
   subst an;refine⟨20 - (t+1),qo,_,?_,t+1,l.take y++Js A {sc with next:=u} (B.av+1)::l.drop y,u1,0+y+1+(n2 - y),H,⟨qo,ax,W,qp⟩,rfl,rfl⟩;have hp:=Gj (ρ:=[(449,960)]) (ty:=76) (sz:=7) (c1:=d1) (c2:=d2) (c3:=H) (m:=n2 - y) (f:=cpL) (l:=l) (x:=Js A {sc with next:=u} (B.av+1)) (k:=y) (d:=y) (b:=FK (BY 76 7 cpL l) y (n2 - y)) qo qo (λj kk h x hx=>h x hx);refine⟨[(449,960)],?_,?_,rfl,rfl,AG⟩<;>repeat' (first|exact rfl|exact trivial|exact⟨_,rfl,.same _ _ rfl⟩|exact⟨_,rfl,hp⟩|exact⟨_,rfl,EF rfl⟩|apply dg)
 ·have aF:t=A.cr.toNat:=by have:¬(t:Int)<A.cr:=ae;omega
  have aG:u=s0.next+A.cr:=qo
  clear hu;subst aG;subst aF;rw[<-al]at F;obtain⟨x0,aH⟩:∃x0,B.ah[k]?=some x0:=⟨B.ah[k]' qo,qs⟩;have aj:∀{ρ:List (Nat × Nat)} {cs:qL},cs=svL {sc with next:=s0.next+A.cr,ag:=B.av+1}->LeB ρ (Kc (At 34 13 k1 svL B.ah) k 0 cs) (At 34 13 k1 svL (B.ah.set k {sc with next:=s0.next+A.cr,ag:=B.av+1})):=λh=>BZ (.same _ _ rfl) aH (by rw[h];rfl)
  refine dg qo (dg qo (dg AG (dg (show(k:Int).toNat<B.ah.length by omega) (dg (λ_ _ _=>trivial) ?_))));rw[du];refine dg (λhd=>?_) (λhd=>?_)
  ·have hd:A.dr=true:=hd
   rw[hd,dv rfl]at F;refine⟨⟨[(6,In i6 k),(10,In i6 (B.av+1)),(9,.complex .f64 456 0),(4,.complex .f64 80 0)],[(456,AX [In i6 B.av,.iface 448 (Sl none B.ah.length k1),.iface 449 (Sl none n2 k2),.iface 450 (Sl none B.aw.length k3)] 28),(448,At 34 13 k1 svL (B.ah.set k {sc with next:=s0.next+A.cr,ag:=B.av+1})),(449,At 76 7 k2 cpL l),(450,At 90 2 k3 btL B.aw),(80,AX [In i6 0,Sl none 0 0,Sl none 0 0,Sl none 0 0] 28)],1000,0⟩,(by refine⟨[],?_,?_,rfl,rfl,AG⟩<;>repeat' (first|exact rfl|exact trivial|exact⟨_,rfl,.same _ _ rfl⟩|exact⟨_,rfl,aj rfl⟩|apply dg)),[448],λJ=>dg qo (dg (by have h:(B.ah.set k {sc with next:=s0.next+A.cr,ag:=B.av+1}).length<=k1:=J.1;rw[dC]at h;omega) (dg (by show(k:Int).toNat<=(B.ah.set k {sc with next:=s0.next+A.cr,ag:=B.av+1}).length;rw[dC];omega) ?_))⟩;have O:(B.ah.set k {sc with next:=s0.next+A.cr,ag:=B.av+1}).length=B.ah.length:=dC ..;have az:B.ah.take k++B.ah.drop (k+1)=(B.ah.set k {sc with next:=s0.next+A.cr,ag:=B.av+1}).take k++(B.ah.set k {sc with next:=s0.next+A.cr,ag:=B.av+1}).drop (k+1):=by rw[List.take_set_of_le AG,List.drop_set_of_lt qo]
   have aC:B.ah.length<=k1:=O▸J.1;rw[az]at F;clear az;generalize (B.ah.set k {sc with next:=s0.next+A.cr,ag:=B.av+1})=L' at O F ⊢;intro y Y;have Y:y=((k+1:Nat):Int):=by have:=Y ⟨qo,qo⟩;omega
   subst Y;refine dg qo (dg (by show((k+1:Nat):Int)<=(B.ah.length:Int);omega) (dg (by show B.ah.length<=L'.length;omega) (dg aC ?_)));rw[du,du];refine dg AG (dg (by show 0+k<=1000000000;omega) (dg (λ_ _ _ _=>⟨rfl,rfl⟩) (λd1=>?_)));refine dg AG (dg (by show 0+k+(B.ah.length - (k+1))<=1000000000;omega) (dg (λ_ _ _ _=>⟨rfl,rfl⟩) (λH=>?_)))
   have aw:LeB [] (Ft (Ft (Et 34 13 []) (FK (BY 34 13 svL L') 0 k) k d1) (FK (BY 34 13 svL L') (k+1) (B.ah.length - (k+1))) (B.ah.length - (k+1)) H) (At 34 13 H svL (L'.take k++L'.drop (k+1))):=by
    rw[<-O];exact Uc qo
   refine⟨.inl rfl,_,rfl,?_,rfl⟩;rw[F,M];exact⟨1112,449,450,_,n2,B.aw.length,H,k2,k3,_,_,_,rfl,⟨by show 0+k+(B.ah.length - (k+1))=_;simp;omega,af,rfl⟩,⟨rfl,.le aw⟩,⟨rfl,.le (ρ:=[]) (.same _ _ rfl)⟩,⟨rfl,.le (ρ:=[]) (.same _ _ rfl)⟩⟩
  ·have hd:A.dr=false:=by simpa using hd
   rw[hd,dk qd]at F;refine⟨.inl rfl,_,rfl,?_,rfl⟩;rw[F,M];exact⟨448,449,450,B.ah.length,n2,B.aw.length,k1,k2,k3,_,_,_,rfl,⟨by rw[dC],af,rfl⟩,⟨rfl,.le (ρ:=[]) (aj rfl)⟩,⟨rfl,.le (ρ:=[]) (.same _ _ rfl)⟩,⟨rfl,.le (ρ:=[]) (.same _ _ rfl)⟩⟩
end
section
open Go.RowKit
structure Mid(B:Bk)(A:AP)(s0 sc:Svc)(L:List Cp)(k:Nat):Prop where
 code:BM B A.ac=Dj B A.ac s0 L
 done:BL B A.ac=NA B A.ac s0 L k
 hk:B.ah[k]?=some s0
 hL:B.ah.length<=1000
 hC:B.ar.length<=1000
 hb:B.aw.length<=1000
 cj:L.length=B.ar.length
 c0:0<=A.cr
 c20:A.cr<=20
 si:DR s0
 n0:0<=B.av
 n1:B.av<=1000000
 sv:A5 B A.nm=some s0
 dr:Bd A.ac s0 (BG B A.nm)=false
 sce:AR A.ac s0=sc
 w0:0<=sc.au/\sc.au<=10
theorem Mid.eqs{B:Bk}{A:AP}{s0 sc:Svc}{L:List Cp}{k:Nat}(M:Mid B A s0 sc L k):sc.aj=s0.aj/\sc.next=s0.next/\sc.aH=s0.aH/\sc.aG=s0.aG/\sc.aQ=s0.aQ/\sc.az=s0.az/\sc.aI=s0.aI:=by
 rw[<-M.sce];unfold AR;cases A.ac.aJ<;>exact⟨rfl,rfl,rfl,rfl,rfl,rfl,rfl⟩
def stM(B:Bk)(c1 c2 c3:Nat)(A:AP)(k:Nat)(L:List Cp)(sc:Svc)(k1 k2 k3:Nat):St:=⟨(2,.complex .f64 64 0)::tA k (B.av+1),(64,AX (Fs B c1 c2 c3) 28)::(mA A B.av B.ah L B.aw sc k1 L.length k2 k3++bkM B),600,0⟩
theorem NR{B:Bk}{c1 c2 c3:Nat}{A:AP}{k:Nat}{L:List Cp}{s0 sc:Svc}{k1 k2 k3:Nat}(M:Mid B A s0 sc L k)(h1:BA A.ac s0=false)(h2:CO A.ac sc (BG {B with ar:=L} A.nm)=false)
  {z:St} (hE:Ent z (stM B c1 c2 c3 A k L sc k1 k2 k3)):vwr TT Γ4 Ρ4 (QZ 16 (Tryz.f61.body.getD .skip)) (endX B A.ac) z:=by
 have F:BM B A.ac=if Dy B A.ac sc then 7 else 0:=by
  rw[M.code,Kk h1 (by rw[M.sce];exact h2) M.dr,M.sce]
 obtain⟨e1,e2,_⟩:=M.eqs;have b0:=M.hC;have Y:=M.c0;have Z:=M.c20;have b3:=M.si.bB;have b4:=M.si.bK;refine⟨_,hE,?_⟩;refine λn H=>?_
 have H:n=(B.ar.length:Int)+A.cr:=H ⟨qo,qo⟩;subst H;refine dg (λh=>?_) (λh=>?_)
 ·exact⟨.inl rfl,_,rfl,Fe (c:=7) (by rw[F];unfold Dy;rw[dX (show 200<(B.ar.length:Int)+A.ac.ax from h)];rfl) qd rfl rfl rfl,rfl⟩
 refine λn H=>?_
 have H:inR (sc.next+A.cr)->n=sc.next+A.cr:=H;have H:=H ⟨qo,qo⟩;subst H;refine dg (λW=>?_) (λW=>?_)
 ·exact⟨.inl rfl,_,rfl,Fe (c:=7) (by rw[F];unfold Dy;rw[dX (show 1000000<sc.next+A.ac.ax from W)];simp) qd rfl rfl rfl,rfl⟩
 refine dg (λJ=>?_) (λJ=>?_)
 ·exact⟨.inl rfl,_,rfl,Fe (c:=7) (by rw[F];unfold Dy;rw[dX (show 1000000<=B.av from J)];simp) qd rfl rfl rfl,rfl⟩
 have O:BM B A.ac=0:=by rw[F];unfold Dy;rw[ek (show ¬200<(B.ar.length:Int)+A.ac.ax from h),ek (show ¬1000000<sc.next+A.ac.ax from W),ek (show ¬1000000<=B.av from J)];rfl
 have h:¬200<(B.ar.length:Int)+A.cr:=h;exact Tf (s0:=s0) (sc:=sc) (L:=L) (AC M.hk).1 M.hL (by have:=M.cj;omega) Y Z e1 e2 b3 b4 O (by unfold Ah;rw[dv O,M.done];unfold NA Dr Di;rw[M.sce];rfl) qe
theorem LS{B:Bk}{c1 c2 c3:Nat}{A:AP}{k:Nat}{L:List Cp}{s0 sc:Svc}{k1 k2 k3:Nat}(M:Mid B A s0 sc L k)(H:CO A.ac sc (BG {B with ar:=L} A.nm)=false)
  {z:St} (hE:Ent z (stM B c1 c2 c3 A k L sc k1 k2 k3)):vwr TT Γ4 Ρ4 (QZ 15 (Tryz.f61.body.getD .skip)) (endX B A.ac) z:=by
 obtain⟨_,_,_,_,e5,Y,Z⟩:=M.eqs;have W:BA A.ac s0=true->BM B A.ac=6:=λh=>by rw[M.code,JH h]
 refine⟨_,hE,?_⟩;refine dg (λh=>?_) (λh=>?_)
 ·have h:A.sc=true:=h
  refine dg (λF=>?_) (λF=>?_)
  ·exact⟨.inl rfl,_,rfl,Fe (c:=6) (W (by unfold BA;rw[show A.ac.aJ=true from h,<-e5,show(sc.aQ==0)=true from by rw[fN];exact F];rfl)) qd rfl rfl rfl,rfl⟩
  ·refine⟨(A.wa,sc.az,sc.aI),rfl,trivial,?_⟩
   rintro v _ ⟨rfl,hv⟩;have hv:v=.bool (inB A.wa sc.az sc.aI):=hv;obtain⟨r,J⟩:∃r,inB A.wa sc.az sc.aI=r:=⟨_,rfl⟩;rw[J]at hv;subst hv;have O:BA A.ac s0=!r:=by unfold BA;rw[show A.ac.aJ=true from h,<-e5,<-Y,<-Z,show(sc.aQ==0)=false from by simpa using F,show inB A.ac.au sc.az sc.aI=r from J];rfl
   cases r
   ·exact⟨.inl rfl,_,rfl,Fe (c:=6) (W O) qd rfl rfl rfl,rfl⟩
   ·exact NR M O H qe
 ·exact NR M (by unfold BA;rw[show A.ac.aJ=false from h];rfl) H qe
theorem Ia{B:Bk}{c1 c2 c3:Nat}{A:AP}{k:Nat}{L:List Cp}{s0 sc:Svc}{k1 k2 k3:Nat}(M:Mid B A s0 sc L k)
  {z:St} (hE:Ent z (stM B c1 c2 c3 A k L sc k1 k2 k3)):vwr TT Γ4 Ρ4 (QZ 14 (Tryz.f61.body.getD .skip)) (endX B A.ac) z:=by
 obtain⟨_,_,e3,e4,_⟩:=M.eqs;have Z:CO A.ac sc (BG {B with ar:=L} A.nm)=true->BM B A.ac=6:=λh=>by rw[M.code,OW (by rw[M.sce];exact h)]
 have W:=GX {B with ar:=L} A.nm;have hl:L.length<=1000:=by have:=M.hC;have:=M.cj;omega
 refine⟨_,hE,?_⟩;refine dg (λh=>?_) (λh=>?_)
 ·have h:0<A.cr:=h
  refine dg (λY=>?_) (λY=>?_)
  ·exact⟨.inl rfl,_,rfl,Fe (c:=6) (Z (by unfold CO;rw[dX (show 0<A.ac.ax from h),show sc.aH=true from Y];rfl)) qd rfl rfl rfl,rfl⟩
  ·refine⟨(⟨⟨B.av,B.ah,L,B.aw⟩,k1,k2,k3⟩,A.nm),rfl,⟨M.hL,hl,M.hb⟩,?_⟩
   rintro _ _ ⟨rfl,rfl⟩;refine λn1 F n2 H=>?_
   have F:inR ((BG {B with ar:=L} A.nm).aE+A.cr)->n1=(BG {B with ar:=L} A.nm).aE+A.cr:=F;have H:inR (sc.au+sc.aG)->n2=sc.au+sc.aG:=H;have b1:=W.1;have b2:(BG {B with ar:=L} A.nm).aE<=(L.length:Int):=W.2.1;have b3:=M.c20;have b4:=M.w0;have b5:=M.si.bm;have b6:=M.si.bn;have F:=F ⟨qo,qo⟩;have H:=H ⟨qo,qo⟩;subst F H;have O:CO A.ac sc (BG {B with ar:=L} A.nm)=decide (sc.au+sc.aG<(BG {B with ar:=L} A.nm).aE+A.cr):=by unfold CO;rw[dX (show 0<A.ac.ax from h),show sc.aH=false from by simpa using Y];rfl
   refine dg (λJ=>?_) (λJ=>?_)
   ·exact⟨.inl rfl,_,rfl,Fe (c:=6) (Z (by rw[O];exact dX J)) qd rfl rfl rfl,rfl⟩
   ·exact LS M (by rw[O];exact ek J) qe
 ·exact LS M (by unfold CO;rw[ek (show ¬0<A.ac.ax from h)];rfl) qe
end
section
open Go.RowKit
open Go.Value renaming int->In,slice->Sl,string->Sg,bool->Bo,pointer->Po
open Go.IntKind renaming i64->i6
theorem Ms{B:Bk}{s:Svc}{sv:qB}{v:Int}:∀(es:List En) (l z:List Cp) (e:En),BO B s sv v es l=some z->BO B s sv v (es++[e]) l=match z.find? (isC sv e.ak) with
  |some c=>if FA {B with ar:=z} s sv c then some (Cw sv v z e.ak) else none
  |none=>none
 |[],l,z,e,h=>by cases h;rfl
 |x::es,l,z,e,h=>by
  rw[fu];unfold BO at h ⊢
  cases hf:l.find? (isC sv x.ak) with
  |none=>rw[hf]at h;cases h
  |some c=>
   rw[hf]at h;simp only at h ⊢;split at h
   ·rename_i F
    rw[dv F];exact Ms es _ z e h
   ·cases h
theorem Mr{B:Bk}{s:Svc}{sv:qB}{v:Int}:∀(es es':List En) (l:List Cp),BO B s sv v es l=none->BO B s sv v (es++es') l=none
 |[],_,_,h=>nomatch h
 |x::es,es',l,h=>by
  rw[fu];unfold BO at h ⊢
  cases hf:l.find? (isC sv x.ak) with
  |none=>rfl
  |some c=>
   rw[hf]at h;simp only at h ⊢;split at h
   ·rename_i z
    rw[dv z];exact Mr es es' _ h
   ·rename_i z
    rw[dk z]
theorem take_one{es:List En}{i:Nat}{e:En}(h:es[i]?=some e):es.take (i+1)=es.take i++[e]:=by rw[ec,h];rfl
theorem Vt{B:Bk}{c1 c2 c3:Nat}{A:AP}(M:B.ah.length<=1000/\B.ar.length<=1000/\B.aw.length<=1000)(hV:Valid B):vwr TT Γ4 Ρ4 (Tryz.f61.body.getD .skip) (endX B A.ac) ⟨Ew 0 [(⟨B,c1,c2,c3⟩:BP).v,A.v 3],bkM B++[(3,BY 88 2 enL A.en)],64,0⟩:=by
 have aC:=inB_iff.1 hV.av;refine⟨A,rfl,trivial,?_⟩;rintro v _ ⟨rfl,hv⟩;have hv:v=.bool (Be A.ac):=hv;obtain⟨r,hr⟩:∃r,Be A.ac=r:=⟨_,rfl⟩;rw[hr]at hv;subst hv
 cases r with
 |false=>exact⟨.inl rfl,_,rfl,Fe (c:=2) (code_2 hr) qd rfl rfl rfl,rfl⟩
 |true=>
 obtain⟨aK,aM⟩:=Ef hr
 have bv:A.en.length<=200:=by
  have h:=hr;unfold Be at h;simp only[di,dS]at h;exact h.1.1.1.2
 refine⟨(⟨B,c1,c2,c3⟩,A.nm),rfl,M,?_⟩;rintro _ _ ⟨rfl,k,rfl,hk⟩;rcases Idx.bH hk with⟨rfl,bd⟩|⟨k,s0,rfl,ae,Z,aS⟩
 ·refine dg (λh=>?_) (λh=>absurd (show(-1:Int)<0 by decide) h)
  exact⟨.inl rfl,_,rfl,Fe (c:=3) (TR hr (.inl bd)) qd rfl rfl rfl,rfl⟩
 have Z:A5 B A.nm=some s0:=Z;have ae:B.ah[k]?=some s0:=ae;have bw:k<B.ah.length:=(AC ae).1;have bk:∃s∈B.ah,nmB s.name A.nm=true:=hk.pos (by show ¬(k:Int)<0;omega);refine dg (λh=>absurd h (by show ¬(k:Int)<0;omega)) (λh=>?_);clear h hk;refine⟨λn z=>∃x:Nat,(x<=A.en.length/\∀(j:Nat) e,j<x->A.en[j]?=some e->C5 B A.ac e=true)/\n=A.en.length - x/\z=⟨[(7,In i6 x),(6,In i6 k),(3,.complex .f64 72 0),(2,.complex .f64 64 0),(4,.complex .f64 80 0)],(80,AX [In i6 0,Sl none 0 0,Sl none 0 0,Sl none 0 0] 28)::(72,AX (A.cs 3) 45)::(64,AX (Fs B c1 c2 c3) 28)::(bkM B++[(3,BY 88 2 enL A.en)]),150,0⟩,A.en.length,⟨_,qe,0,⟨qo,(λ_ _ h=>qo)⟩,qo,rfl⟩,?_⟩;rintro n _ ⟨x,⟨h1,O⟩,rfl,rfl⟩;refine dg (λF=>?_) (λF=>?_)
 ·have F:(x:Int)<A.en.length:=F
  refine dg qo (dg F (dg AG (λe he=>?_)));rw[du]at he;refine⟨(⟨B,c1,c2,c3⟩,A.nm,e.ak),rfl,M,?_⟩;rintro _ _ ⟨rfl,j,rfl,hj⟩;rcases Idx.cp hj with⟨rfl,hf⟩|⟨j,c,rfl,_,hf,_⟩
  ·refine dg (λh=>?_) (λh=>absurd (show(-1:Int)<0 by decide) h)
   exact⟨.inl rfl,_,rfl,Fe (c:=3) (TR hr (.inr (Tg he (by unfold C5;rw[show B.ar.find? (isC A.ac.aa e.ak)=none from hf];rfl)))) qd rfl rfl rfl,rfl⟩
  ·refine dg (λh=>absurd h (by show ¬(j:Int)<0;omega)) (λh=>?_)
   refine λy hy=>?_
   have hy:y=((x+1:Nat):Int):=by have:=hy ⟨qo,qo⟩;omega
   subst hy
   exact⟨A.en.length - (x+1),qo,_,qe,x+1,⟨qo,λi e' hi H=>by
    by_cases ak:i<x
    ·exact O i e' ak H
    ·obtain rfl:i=x:=qo
     rw[he]at H;cases H;unfold C5;rw[show B.ar.find? (isC A.ac.aa e.ak)=some c from hf]
     rfl⟩,rfl,rfl⟩
 have W:A.ac.aB.all (C5 B A.ac)=true:=Py λi e hi he=>O i e (by have:i<A.en.length:=hi;have:¬(x:Int)<A.en.length:=F;omega) he
 clear O F h1;refine dg qo (dg qo (dg AG (λs' an=>?_)));rw[du,ae]at an;cases an;refine dg (λh=>?_) (λh=>?_)
 ·exact⟨.inl rfl,_,rfl,Fe (c:=4) (TQ hr Z W (by rw[show(s0.ag==A.ac.aN)=false from fg.2 h];rfl)) qd rfl rfl rfl,rfl⟩
 have aD:(s0.ag==A.ac.aN)=true:=fN.2 (Decidable.of_not_not h);clear h;refine⟨λn z=>∃x:Nat,(x<=A.en.length/\∀(j:Nat) e,j<x->A.en[j]?=some e->CM B A.ac e=true)/\n=A.en.length - x/\z=⟨[(8,In i6 x),(6,In i6 k),(3,.complex .f64 72 0),(2,.complex .f64 64 0),(4,.complex .f64 80 0)],(80,AX [In i6 0,Sl none 0 0,Sl none 0 0,Sl none 0 0] 28)::(72,AX (A.cs 3) 45)::(64,AX (Fs B c1 c2 c3) 28)::(bkM B++[(3,BY 88 2 enL A.en)]),400,0⟩,A.en.length,⟨_,qe,0,⟨qo,λ_ _ h=>qo⟩,qo,rfl⟩,?_⟩;rintro n _ ⟨x,⟨h1,O⟩,rfl,rfl⟩;refine dg (λF=>?_) (λF=>?_)
 ·have F:(x:Int)<A.en.length:=F
  refine dg qo (dg F (dg AG (λe he=>?_)));rw[du]at he;refine⟨(⟨B,c1,c2,c3⟩,A.nm,e.ak),rfl,M,?_⟩;rintro _ _ ⟨rfl,j,rfl,hj⟩;rcases Idx.cp hj with⟨rfl,hf⟩|⟨j,c,rfl,a5,hf,_⟩
  ·have:=dt.1 W e (AE he)
   unfold C5 at this;rw[show B.ar.find? (isC A.ac.aa e.ak)=none from hf]at this;cases this
  have bb:j<B.ar.length:=(AC a5).1;refine dg qo (dg (by show(j:Int)<B.ar.length;omega) (dg AG (λc' aJ=>?_)));rw[du,show B.ar[j]?=some c from a5]at aJ;cases aJ;refine dg qo (dg F (dg AG (λe' H=>?_)));rw[du,he]at H;cases H;have aO:CM B A.ac e=(c.ag==e.aN):=by unfold CM;rw[show B.ar.find? (isC A.ac.aa e.ak)=some c from hf]
  refine dg (λh=>?_) (λh=>?_)
  ·exact⟨.inl rfl,_,rfl,Fe (c:=4) (TQ hr Z W (by rw[Tg (l:=A.ac.aB) he (by rw[aO];simpa using h),iH])) qd rfl rfl rfl,rfl⟩
  ·refine λy hy=>?_
   have hy:y=((x+1:Nat):Int):=by have:=hy ⟨qo,qo⟩;omega
   subst hy
   exact⟨A.en.length - (x+1),qo,_,qe,x+1,⟨qo,λi e' hi H=>by
    by_cases ak:i<x
    ·exact O i e' ak H
    ·obtain rfl:i=x:=qo
     rw[he]at H;cases H;rw[aO]
     simpa using h⟩,rfl,rfl⟩
 have aq:(s0.ag==A.ac.aN&&A.ac.aB.all (CM B A.ac))=true:=by rw[aD,Py (l:=A.ac.aB) λi e hi he=>O i e (by have:i<A.en.length:=hi;have:¬(x:Int)<A.en.length:=F;omega) he];rfl
 clear O F h1 aD;refine⟨⟨B,c1,c2,c3⟩,rfl,M,?_⟩;rintro _ _ ⟨k1,k2,k3,rfl,rfl⟩;refine λv hv=>?_
 have hv:v=B.av+1:=hv ⟨qo,qo⟩;subst hv;refine⟨λn z=>∃(x:Nat) (l:List Cp) (n2:Nat),(x<=A.en.length/\n2=l.length/\l.length=B.ar.length/\BO B s0 A.nm (B.av+1) (A.en.take x) B.ar=some l)/\n=A.en.length - x/\z=⟨[(11,In i6 x),(10,In i6 (B.av+1)),(9,.complex .f64 456 0),(6,In i6 k),(3,.complex .f64 72 0),(2,.complex .f64 64 0),(4,.complex .f64 80 0)],(456,AX [In i6 B.av,.iface 448 (Sl none B.ah.length k1),.iface 449 (Sl none n2 k2),.iface 450 (Sl none B.aw.length k3)] 28)::(448,At 34 13 k1 svL B.ah)::(449,At 76 7 k2 cpL l)::(450,At 90 2 k3 btL B.aw)::(80,AX [In i6 0,Sl none 0 0,Sl none 0 0,Sl none 0 0] 28)::(72,AX (A.cs 3) 45)::(64,AX (Fs B c1 c2 c3) 28)::(bkM B++[(3,BY 88 2 enL A.en)]),480,0⟩,A.en.length,⟨_,qe,0,B.ar,_,⟨qo,rfl,rfl,rfl⟩,qo,rfl⟩,?_⟩;rintro n _ ⟨x,l,_,⟨h1,rfl,cj,af⟩,rfl,rfl⟩;refine dg (λF=>?_) (λF=>?_)
 ·have F:(x:Int)<A.en.length:=F
  refine dg qo (dg F (dg AG (λe he=>?_)));rw[du]at he;have J:=Ms _ _ _ e af;rw[<-take_one he]at J;have hl:l.length<=1000:=qo
  refine⟨(⟨⟨B.av,B.ah,l,B.aw⟩,k1,k2,k3⟩,A.nm,e.ak),rfl,⟨⟨M.1,hl,M.2.2⟩,bk,λs hs=>hV.bc hs⟩,?_⟩;rintro v _ ⟨rfl,hv⟩;have hv:v=.bool (El ⟨B.av,B.ah,l,B.aw⟩ A.nm e.ak):=hv
  have a6:El ⟨B.av,B.ah,l,B.aw⟩ A.nm e.ak=match l.find? (isC A.nm e.ak) with|none=>false|some c=>FA ⟨B.av,B.ah,l,B.aw⟩ s0 A.nm c:=by
   unfold El;rw[show A5 ⟨B.av,B.ah,l,B.aw⟩ A.nm=some s0 from Z];try rfl
  obtain⟨r,Y⟩:∃r,El ⟨B.av,B.ah,l,B.aw⟩ A.nm e.ak=r:=⟨_,rfl⟩;rw[Y]at hv;subst hv;rw[a6]at Y;clear a6
  cases r with
  |false=>
   have aF:BO B s0 A.ac.aa (B.av+1) A.ac.aB B.ar=none:=by
    have h0:BO B s0 A.nm (B.av+1) (A.en.take (x+1)) B.ar=none:=by
     rw[J];split at Y
     ·rename_i hf;rw[hf]
     ·rename_i c hf;rw[hf];simp only;rw[dk (by rw[Y];decide)]
    have:=Mr _ (A.en.drop (x+1)) _ h0;rw[fM]at this;exact this
   exact⟨.inl rfl,_,rfl,Fe (c:=5) (code_5 hr Z W aq aF) qd rfl rfl rfl,rfl⟩
  |true=>
  refine dg qo (dg F (dg AG (λe' H=>?_)));rw[du,he]at H;cases H;refine⟨(⟨⟨B.av,B.ah,l,B.aw⟩,k1,k2,k3⟩,A.nm,e.ak),rfl,⟨M.1,hl,M.2.2⟩,?_⟩;rintro _ _ ⟨rfl,j,rfl,hj⟩;rcases Idx.cp hj with⟨rfl,hf⟩|⟨j,c,rfl,hc,hf,ak⟩
  ·rw[show l.find? (isC A.nm e.ak)=none from hf]at Y;cases Y
  have hc:l[j]?=some c:=hc;have hf:l.find? (isC A.nm e.ak)=some c:=hf;have bb:j<l.length:=(AC hc).1;rw[hf]at Y J;simp only at Y J;rw[dv Y,OU (show KB l A.nm e.ak=(j:Int) from ak) hc]at J;refine dg qo (dg (by show(j:Int)<l.length;omega) (dg AG (dg (show(j:Int).toNat<l.length by omega) (dg (λ_ _ _=>trivial) ?_))));refine dg qo (dg (by show(j:Int)<l.length;omega) (dg AG (dg (show(j:Int).toNat<l.length by omega) (dg (λ_ _ _=>trivial) ?_))));rw[du];refine λy hy=>?_
  have hy:y=((x+1:Nat):Int):=by have:=hy ⟨qo,qo⟩;omega
  subst hy;refine⟨A.en.length - (x+1),qo,_,?_,x+1,(l.set j {c with am:=true}).set j (CU (B.av+1) c),l.length,⟨qo,by rw[dC,dC],by rw[dC,dC];exact cj,by rw[gq];exact J⟩,rfl,rfl⟩;have a9:(l.set j {c with am:=true})[j]?=some {c with am:=true}:=by rw[fE,dv rfl,dv qo]
  refine⟨[],?_,?_,rfl,rfl,AG⟩<;>repeat' (first|exact rfl|exact trivial|exact⟨_,rfl,.same _ _ rfl⟩|exact⟨_,rfl,BZ (BZ (.same _ _ rfl) hc rfl) a9 rfl⟩|apply dg)
 have af:BO B s0 A.ac.aa (B.av+1) A.ac.aB B.ar=some l:=by
  rw[eZ (by have:¬(x:Int)<A.en.length:=F;omega)]at af;exact af
 have ah:=Kw hr Z W aq af
 have aj:BL B A.ac=NA B A.ac s0 l k:=by
  unfold BL;rw[show A5 B A.ac.aa=some s0 from Z];simp only[af];rw[show Nr B.ah A.ac.aa=(k:Int) from aS,du]
 have aw:=hV.bc (AE ae);have az:=GX B A.nm
 have aB:∀sc,Bd A.ac s0 (BG B A.nm)=false->AR A.ac s0=sc->Mid B A s0 sc l k:=λsc h1 h2=>⟨ah,aj,ae,M.1,M.2.1,M.2.2,cj,aK,aM,aw,aC.1,aC.2,Z,h1,h2,by
  rw[<-h2];unfold AR;cases be:A.ac.aJ
  ·exact⟨aw.ba,aw.bd⟩
  ·exact(R6 hr).ab be⟩
 clear F af W aq aj;refine dg qo (dg qo (dg AG (dg (show(k:Int).toNat<B.ah.length by omega) (λs' an=>?_))));rw[du,ae]at an;cases an;refine⟨(⟨B,c1,c2,c3⟩,A.nm),rfl,M,?_⟩;rintro _ _ ⟨rfl,rfl⟩;have d6:Bd A.ac s0 (BG B A.nm)=true->BM B A.ac=6:=λh=>by rw[ah,OX h]
 refine dg (λhd=>?_) (λhd=>?_)
 ·have hd:A.ac.drop=true:=hd
  refine dg (λhg=>?_) (λhg=>?_)
  ·refine λn hn=>?_
   have hn:inR ((BG B A.nm).aE+(BG B A.nm).am)->n=(BG B A.nm).aE+(BG B A.nm).am:=hn;have hn:=hn ⟨by have:=az.1;have:=az.2.2.2.2.2.2.2.2.1;omega,by have:=az.2.1;have:=az.2.2.2.2.2.2.2.2.2;omega⟩;subst hn;have aN:Bd A.ac s0 (BG B A.nm)=decide (0<(BG B A.nm).aE+(BG B A.nm).am):=by unfold Bd;rw[hd,show s0.aH=true from hg];rfl
   refine dg (λh=>?_) (λh=>?_)
   ·exact⟨.inl rfl,_,rfl,Fe (c:=6) (d6 (by rw[aN];exact dX h)) qd rfl rfl rfl,rfl⟩
   have hd:Bd A.ac s0 (BG B A.nm)=false:=by rw[aN];exact ek h
   refine dg (λhs=>?_) (λhs=>?_)
   ·exact Ia (aB {s0 with au:=A.wa,aA:=A.co} hd (Gd hs)) (by refine⟨[(500,560)],?_,?_,rfl,rfl,AG⟩<;>repeat' (first|exact rfl|exact trivial|exact⟨_,rfl,.same _ _ rfl⟩|exact⟨_,rfl,EF rfl⟩|apply dg))
   ·exact Ia (aB s0 hd (IQ hs)) (by refine⟨[(500,560)],?_,?_,rfl,rfl,AG⟩<;>repeat' (first|exact rfl|exact trivial|exact⟨_,rfl,.same _ _ rfl⟩|exact⟨_,rfl,EF rfl⟩|apply dg))
  ·exact⟨.inl rfl,_,rfl,Fe (c:=6) (d6 (by unfold Bd;rw[hd,show s0.aH=false from hg];rfl)) qd rfl rfl rfl,rfl⟩
 ·have hd:Bd A.ac s0 (BG B A.nm)=false:=by unfold Bd;rw[show A.ac.drop=false from hd];rfl
  refine dg (λhs=>?_) (λhs=>?_)
  ·exact Ia (aB {s0 with au:=A.wa,aA:=A.co} hd (Gd hs)) (by refine⟨[(500,560)],?_,?_,rfl,rfl,AG⟩<;>repeat' (first|exact rfl|exact trivial|exact⟨_,rfl,.same _ _ rfl⟩|exact⟨_,rfl,EF rfl⟩|apply dg))
  ·exact Ia (aB s0 hd (IQ hs)) (by refine⟨[(500,560)],?_,?_,rfl,rfl,AG⟩<;>repeat' (first|exact rfl|exact trivial|exact⟨_,rfl,.same _ _ rfl⟩|exact⟨_,rfl,EF rfl⟩|apply dg))
end
end Go.Proofs.YtbceafpodamnfaaGreatDoor
