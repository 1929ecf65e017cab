import Derived.Test.YtbceafpodamnfaaGreatDoorG18
set_option linter.all false
set_option maxHeartbeats 4000000
set_option maxRecDepth 100000
namespace Go.Proofs.YtbceafpodamnfaaGreatDoor
section
open Go.RowKit
def IA(N:Cnt):Value:=.agg (qtV N)
def AP.ac(p:AP):Ac:=⟨p.nm,p.se,p.cr,p.wa,p.co,p.sc,p.en,p.dr⟩
theorem Idx.bA{B:Bk}{nm:qB}{k:Int}(h:Idx (λs=>nmB s.name nm) B.af k):(k= -1/\Ah B nm=none)\/∃(j:Nat) (s:Svc),k=j/\B.af[j]?=some s/\Ah B nm=some s/\L6 B.af nm=j:=by
 rcases h with⟨rfl,hn⟩|⟨j,x,rfl,M,Y,W⟩
 ·exact .inl ⟨rfl,fP.2 λx hx=>by have:=hn x hx;unfold nmB at this;simp[this]⟩
 ·have F:∀i,i<j->∀s,B.af[i]?=some s->nmB s.name nm=false:=λi H s Z=>W s (AE (show(B.af.take j)[i]?=some s by rw[eO H];exact Z))
  refine .inr ⟨j,x,rfl,M,?_,Ds M Y F⟩;obtain⟨J,hx⟩:=AC M;exact gT.2 ⟨Y,j,J,hx,λi H=>by have:=F i H _ (dj (by omega));unfold nmB at this;simp[this]⟩
theorem Nl(sv:qB)(n:Int):cpQ sv n=isC sv n:=by
 funext c
 unfold cpQ isC nmB
 congr 1
theorem Idx.cp{l:List Cp}{nm:qB}{n k:Int}(h:Idx (cpQ nm n) l k):(k= -1/\l.find? (isC nm n)=none)\/∃(j:Nat) (c:Cp),k=j/\l[j]?=some c/\l.find? (isC nm n)=some c/\IX l nm n=j:=by
 rw[Nl]at h;rcases h with⟨rfl,hn⟩|⟨j,x,rfl,M,Y,W⟩
 ·exact .inl ⟨rfl,fP.2 λx hx=>by rw[hn x hx];decide⟩
 ·have F:∀i,i<j->∀s,l[i]?=some s->isC nm n s=false:=λi H s Z=>W s (AE (show(l.take j)[i]?=some s by rw[eO H];exact Z))
  refine .inr ⟨j,x,rfl,M,?_,Ds M Y F⟩;obtain⟨J,hx⟩:=AC M;exact gT.2 ⟨Y,j,J,hx,λi H=>by rw[F i H _ (dj (by omega))];decide⟩
section
variable {RD:(Nat->Prop)->World->Nat->Nat->Prop}
abbrev ctInX:Ct:=ctV (λp:Int × Int × Int=>[.int .i64 p.1,.int .i64 p.2.1,.int .i64 p.2.2]) (λ_=>[]) (λ_=>True) λp v es=>es=[]/\v=.bool (inB p.1 p.2.1 p.2.2)
theorem inX_ct(J:B9 RD):B7 Tryz.prog RD 63 0 ctInX:=by
 refine Ci (Aw J) Tryz.func63 (by kernel_rfl) (by kernel_rfl) (λ_=>rfl) (λp H h _=>?_) ?_
 ·obtain⟨a,b,c⟩:=p
  obtain⟨M,W,Y⟩:=H;simp at h;obtain⟨rfl,rfl,rfl⟩:=h;rfl
 rintro⟨a,b,c⟩ _;have key:∀r:Bool,inB a b c=r->Ep (λv es=>es=[]/\v=.bool (inB a b c)) (.bool r) [] 0:=λr h=>⟨_,_,[],⟨rfl,by rw[h]⟩,rfl,trivial,rfl,rfl,trivial⟩
 refine cW (λh=>?_) (λh=>?_)
 ·refine cW (λF=>?_) (λF=>?_)
  ·exact⟨.inl rfl,_,rfl,key true (inB_iff.2 ⟨h,F⟩),rfl⟩
  ·exact⟨.inl rfl,_,rfl,key false (by unfold inB;rw[dQ F,ij]),rfl⟩
 ·exact⟨.inl rfl,_,rfl,key false (by unfold inB;rw[dQ h];rfl),rfl⟩
abbrev PE:Ct:=ctV (λp:Cp × Cp=>[cpV p.1,cpV p.2]) (λ_=>[]) (λ_=>True) λp v es=>es=[]/\v=.bool (Ak p.1 p.2)
theorem SW(M:B9 RD):B7 Tryz.prog RD 67 0 PE:=by
 refine Ci (Aw M) Tryz.func67 (by kernel_rfl) (by kernel_rfl) (λ_=>rfl) (λp J h _=>?_) ?_
 ·obtain⟨a,b⟩:=p
  obtain⟨W,Y⟩:=J;simp only[dv,dV]at h;rw[Id h.1,Id h.2]
 rintro⟨a,b⟩ _;have key:∀r:Bool,Ak a b=r->∀m,Ep (λv es=>es=[]/\v=.bool (Ak a b)) (.bool r) m 0:=λr h m=>⟨_,_,[],⟨rfl,by rw[h]⟩,rfl,trivial,rfl,rfl,trivial⟩
 refine cW (λh=>?_) (λh=>?_)
 ·exact⟨.inl rfl,_,rfl,key true (by unfold Ak;rw[show Op.bytesLess a.aa.toList b.aa.toList=true from h];rfl) _,rfl⟩
 refine cW (λF=>?_) (λF=>?_)
 ·refine cW (λH=>?_) (λH=>?_)
  ·exact⟨.inl rfl,_,rfl,key true (by unfold Ak;rw[show(a.aa.toList==b.aa.toList)=true from F,dO H,gL,iZ]) _,rfl⟩
  ·exact⟨.inl rfl,_,rfl,key false (by unfold Ak;rw[show Op.bytesLess a.aa.toList b.aa.toList=false from h,show(a.aa.toList==b.aa.toList)=true from F,dQ H];rfl) _,rfl⟩
 ·exact⟨.inl rfl,_,rfl,key false (by unfold Ak;rw[show Op.bytesLess a.aa.toList b.aa.toList=false from h,show(a.aa.toList==b.aa.toList)=false from F];rfl) _,rfl⟩
end
section
variable {RD:(Nat->Prop)->World->Nat->Nat->Prop}
abbrev PD:Ct:=ctV (λp:BP × ByteArray=>[p.1.v,.string p.2]) (λp=>p.1.m) (λp=>p.1.tn) λp v es=>es=[]/\v=IA (BD p.1.B p.2)
theorem JP(hR:B9 RD):B7 Tryz.prog RD 103 0 PD:=by
 refine Ci (AZ (Aw hR) (f:=118) (by kernel_rfl) (DN hR)) Tryz.func103 (by kernel_rfl) (by kernel_rfl) (λ_=>rfl) Fw ?_;rintro⟨⟨B,c1,c2,c3⟩,nm⟩ ⟨hs,hl,ht⟩;have hl:B.ah.length<=1000:=hl;refine⟨(⟨B,c1,c2,c3⟩,nm),rfl,⟨hs,hl,ht⟩,?_⟩;rintro _ _ ⟨rfl,k,rfl,hk⟩;have aK:k<B.af.length:=hk.lt.2;rcases Idx.bA hk with⟨rfl,ak⟩|⟨j,s,rfl,hj,Y,_⟩
 ·refine⟨λn s=>n=0/\s=⟨[(7,.int .i64 0),(6,.int .i64 (-1)),(5,.complex .f64 88 0),(4,.complex .f64 72 0),(2,.complex .f64 64 0),(1,.string nm)],(88,AT [.int .i64 0,.int .i64 0,.int .i64 0,.int .i64 0,.int .i64 0] 83)::(72,AT [.int .i64 0,.int .i64 0,.int .i64 0,.int .i64 0,.int .i64 0] 83)::(64,AT (D5 B c1 c2 c3) 28)::bkM B,100,0⟩,0,⟨_,(by refine⟨[],?_,?_,rfl,rfl,AG _⟩<;>repeat' (first|exact rfl|exact trivial|exact⟨_,rfl,.same _ _ rfl⟩|apply cW)),rfl,rfl⟩,?_⟩
  rintro n _ ⟨rfl,rfl⟩;have key:∀m,Ep (λv es=>es=[]/\v=IA (BD B nm)) (IA Cnt.none) m 0:=λm=>⟨_,_,[],⟨rfl,by unfold BD;rw[ak]⟩,rfl,trivial,rfl,rfl,trivial⟩
  refine cW (λF=>?_) (λF=>?_)
  ·refine cW (λH=>absurd H (by decide)) (λH=>?_)
   exact⟨.inl rfl,_,rfl,key _,rfl⟩
  ·exact⟨.inl rfl,_,rfl,key _,rfl⟩
 ·refine⟨λn st=>∃(i:Nat) (a b c d e:Int),(i<=B.ah.length/\Cnt.mk a b c d e=BM s.ar nm B.ah i)/\n=B.ah.length - i/\st=⟨[(7,.int .i64 i),(6,.int .i64 j),(5,.complex .f64 88 0),(4,.complex .f64 72 0),(2,.complex .f64 64 0),(1,.string nm)],(88,AT [.int .i64 a,.int .i64 b,.int .i64 c,.int .i64 d,.int .i64 e] 83)::(72,AT [.int .i64 0,.int .i64 0,.int .i64 0,.int .i64 0,.int .i64 0] 83)::(64,AT (D5 B c1 c2 c3) 28)::bkM B,100,0⟩,B.ah.length,⟨_,(by refine⟨[],?_,?_,rfl,rfl,AG _⟩<;>repeat' (first|exact rfl|exact trivial|exact⟨_,rfl,.same _ _ rfl⟩|apply cW)),0,0,0,0,0,0,⟨by omega,rfl⟩,by omega,rfl⟩,?_⟩
  rintro n _ ⟨i,a,b,c,d,e,⟨hi,hN⟩,rfl,rfl⟩;have W:=E5 s.ar nm B.ah i hi;rw[<-hN]at W;obtain⟨u1,u2,u3,u4,u5,u6,u7,u8,u9,ah⟩:=W;simp only at u1 u2 u3 u4 u5 u6 u7 u8 u9 ah;refine cW (λF=>?_) (λF=>?_)
  ·refine cW (λH=>?_) (λH=>absurd (iA j) H)
   refine cW (by omega) (cW F (cW (AG _) ?_));intro y hy;rw[di]at hy;have J:=Qb s.ar nm B.ah i y hy;rw[<-hN]at J;have M:∀a' b' c' d' e',CM s.ar nm y ⟨a,b,c,d,e⟩=⟨a',b',c',d',e'⟩->Cnt.mk a' b' c' d' e'=BM s.ar nm B.ah (i+1):=λ_ _ _ _ _ h=>by rw[J,h]
   clear J hN hk Y H;have F:i<B.ah.length:=Int.ofNat_lt.1 F
   repeat' (first
    |refine cW (λ_=>?_) (λ_=>?_)
    |(refine cW (by omega) (cW (by omega) (cW (AG _) (λs' Z=>?_)));rw[di,hj]at Z;cases Z)
    |(intro z hz;have hz:=hz ⟨by omega,by omega⟩;subst hz)
    |exact⟨B.ah.length - (i+1),by omega,_,(by refine⟨[],?_,?_,rfl,rfl,AG _⟩<;>repeat' (first|exact rfl|exact trivial|exact⟨_,rfl,.same _ _ rfl⟩|apply cW)),i+1,_,_,_,_,_,⟨by omega,M _ _ _ _ _ (by clear M;simp_all [CM,Cu,G8])⟩,rfl,rfl⟩)
  ·have ai:i=B.ah.length:=by have:¬(i:Int)<B.ah.length:=F;omega
   subst ai;have hc:BD B nm=⟨a,b,c,d,e⟩:=by unfold BD;rw[show Ah B nm=some s from Y];exact hN.symm
   have key:∀m,Ep (λv es=>es=[]/\v=IA (BD B nm)) (IA ⟨a,b,c,d,e⟩) m 0:=λm=>⟨_,_,[],⟨rfl,rfl⟩,by rw[hc];rfl,trivial,rfl,rfl,trivial⟩
   exact⟨.inl rfl,_,rfl,key _,rfl⟩
def LD(B:Bk)(sv:qB)(num:Int):Bool:=match B.ah.find? (isC sv num) with
 |none=>false
 |some c=>match Ah B sv with
  |none=>false
  |some s=>FY B s sv c
abbrev ctMayX:Ct:=ctV (λp:BP × ByteArray × Int=>[p.1.v,.string p.2.1,.int .i64 p.2.2]) (λp=>p.1.m) (λp=>p.1.tn/\(∃s∈p.1.B.af,nmB s.name p.2.1=true)/\∀s∈p.1.B.af,Rl s) λp v es=>es=[]/\v=.bool (LD p.1.B p.2.1 p.2.2)
theorem mayX_ct(hR:B9 RD):B7 Tryz.prog RD 123 0 ctMayX:=by
 refine Ci (AZ (AZ (AZ (Aw hR) (f:=118) (by kernel_rfl) (DN hR)) (f:=122) (by kernel_rfl) (KT hR)) (f:=103) (by kernel_rfl) (JP hR)) Tryz.func123 (by kernel_rfl) (by kernel_rfl) (λ_=>rfl) Ig ?_;rintro⟨⟨B,c1,c2,c3⟩,nm,H⟩ ⟨ht,W,M⟩;have W:∃s∈B.af,nmB s.name nm=true:=W;have hl:B.ah.length<=1000:=ht.2.1;have M:∀s∈B.af,Rl s:=M;refine⟨(⟨B,c1,c2,c3⟩,nm,H),rfl,ht,?_⟩;rintro _ _ ⟨rfl,k,rfl,hk⟩;have key:∀(r:Bool) m,LD B nm H=r->Ep (λv es=>es=[]/\v=.bool (LD B nm H)) (.bool r) m 0:=λr m h=>⟨_,_,[],⟨rfl,by rw[h]⟩,rfl,trivial,rfl,rfl,trivial⟩
 rcases Idx.cp hk with⟨rfl,ax⟩|⟨j,c,rfl,hj,hf,_⟩
 ·refine cW (λh=>?_) (λh=>absurd (show(-1:Int)<0 by decide) h)
  exact⟨.inl rfl,_,rfl,key false _ (by unfold LD;rw[ax]),rfl⟩
 have aa:=hk.lt.2;clear hk;refine cW (λh=>absurd h (by show ¬(j:Int)<0;omega)) (λh=>?_);refine cW (by omega) (cW aa (cW (AG _) (λx hx=>?_)));rw[di,hj]at hx;cases hx;refine cW (λY=>?_) (λY=>?_)
 ·exact⟨.inl rfl,_,rfl,key false _ (by unfold LD FY;rw[hf];simp only[show c.au=true from Y];cases Ah B nm<;>rfl),rfl⟩
 refine⟨(⟨B,c1,c2,c3⟩,nm),rfl,ht,?_⟩;rintro _ _ ⟨rfl,k2,rfl,ah⟩;have J:=ah.yes W;rcases Idx.bA ah with⟨rfl,_⟩|⟨j2,s,rfl,ak,al,_⟩
 ·exact absurd J.1 (by decide)
 have hS:=M s (AE ak);have F:LD B nm H=FY B s nm c:=by unfold LD;rw[hf,show Ah B nm=some s from al]
 refine cW J.1 (cW J.2 (cW (AG _) (λs' ai=>?_)));rw[di,ak]at ai;cases ai;refine cW (by omega) (cW aa (cW (AG _) (λx' Z=>?_)));rw[di,hj]at Z;cases Z;have hE:c.au=false:=by simpa using Y
 refine cW (λY=>?_) (λY=>?_)
 ·exact⟨.inl rfl,_,rfl,key true _ (by rw[F];unfold FY;rw[hE,show(c.ax !=3)=true from by simpa using Y];rfl),rfl⟩
 refine cW (λhg=>?_) (λhg=>?_)
 ·exact⟨.inl rfl,_,rfl,key true _ (by rw[F];unfold FY;rw[hE,show s.aH=true from hg];simp),rfl⟩
 refine⟨(⟨B,c1,c2,c3⟩,nm),rfl,ht,?_⟩;rintro _ _ ⟨rfl,rfl⟩;have af:BD B nm=BM s.ar nm B.ah B.ah.length:=by unfold BD;rw[show Ah B nm=some s from al]
 have ag:=JS B nm;intro n1 h1 n2 h2;have h1:=h1 ⟨by show _<=(BD B nm).ready - 1;have:=ag.2.2.1;omega,by show(BD B nm).ready - 1<=_;have:=ag.2.2.2.1;omega⟩;have h2:=h2 ⟨by have:=hS.bq;have:=hS.bZ;omega,by have:=hS.bH;have:=hS.bY;omega⟩;subst h1 h2;refine cW (λhx=>?_) (λhx=>?_)
 ·exact⟨.inl rfl,_,rfl,key true _ (by rw[F];unfold FY;rw[hE,<-af,dO (show s.av - s.aG<=(BD B nm).ready - 1 from hx)];simp),rfl⟩
 ·exact⟨.inl rfl,_,rfl,key false _ (by rw[F];unfold FY;rw[hE,<-af,dQ (show ¬s.av - s.aG<=(BD B nm).ready - 1 from hx),show(c.ax !=3)=false from by simpa using Y,show s.aH=false from by simpa using hg];rfl),rfl⟩
end
section
variable {RD:(Nat->Prop)->World->Nat->Nat->Prop}
abbrev PF:Ct:=ctV (λp:AP=>[p.v 0]) (λp=>[(0,A9 88 2 enL p.en)]) (λ_=>True) λp v es=>es=[]/\v=.bool (Bg p.ac)
theorem SY(hR:B9 RD):B7 Tryz.prog RD 121 0 PF:=by
 refine Ci (AZ (Aw hR) (f:=63) (by kernel_rfl) (inX_ct hR)) Tryz.func121 (by kernel_rfl) (by kernel_rfl) (λ_=>rfl) (λp p' h hm=>?_) ?_
 ·simp only[dv,dw,fu,dV]at h hm
  exact AP.inj h hm
 rintro⟨nm,se,cr,wa,co,sc,en,ce,dr⟩ _;have hA:Bg (AP.ac ⟨nm,se,cr,wa,co,sc,en,ce,dr⟩)=(inB cr 0 20&&decide (en.length<=200)&&G7 en&&(if sc then inB wa 0 10&&inB co 0 3 else wa==0&&co==0)&&(!dr||(cr==0&& !sc&&en.length==0))):=rfl;have key:∀(r:Bool) m,(inB cr 0 20&&decide (en.length<=200)&&G7 en&&(if sc then inB wa 0 10&&inB co 0 3 else wa==0&&co==0)&&(!dr||(cr==0&& !sc&&en.length==0)))=r->Ep (λv es=>es=[]/\v=.bool (Bg (AP.ac ⟨nm,se,cr,wa,co,sc,en,ce,dr⟩))) (.bool r) m 0:=λr m h=>⟨_,_,[],⟨rfl,by rw[hA,h]⟩,rfl,trivial,rfl,rfl,trivial⟩
 clear hA;refine⟨(cr,0,20),rfl,trivial,?_⟩;rintro v _ ⟨rfl,hv⟩;have hv:v=.bool (inB cr 0 20):=hv;obtain⟨r,hr⟩:∃r,inB cr 0 20=r:=⟨_,rfl⟩;rw[hr]at hv;simp only[hr]at key;subst hv
 cases r with
 |false=>exact⟨.inl rfl,_,rfl,key false _ rfl,rfl⟩
 |true=>
  refine cW (λY=>?_) (λY=>?_)
  ·exact⟨.inl rfl,_,rfl,key false _ (by rw[dQ (by have:(200:Int)<en.length:=Y;omega)];rfl),rfl⟩
  have Y:en.length<=200:=by have:¬(200:Int)<en.length:=Y;omega
  simp only[dO Y,gL]at key;refine⟨λn s=>∃x:Nat,(1<=x/\x<=201/\(∀i a b,i+1<x->en[i]?=some a->en[i+1]?=some b->a.ai<b.ai))/\n=201 - x/\s=⟨[(3,.int .i64 x),(1,.complex .f64 64 0)],[(64,AT (AP.cs 0 ⟨nm,se,cr,wa,co,sc,en,ce,dr⟩) 45),(0,A9 88 2 enL en)],100,0⟩,200,⟨_,(by refine⟨[],?_,?_,rfl,rfl,AG _⟩<;>repeat' (first|exact rfl|exact trivial|exact⟨_,rfl,.same _ _ rfl⟩|apply cW)),1,⟨by omega,by omega,λ_ _ _ h=>by omega⟩,by omega,rfl⟩,?_⟩;rintro n _ ⟨x,⟨h1,h2,J⟩,rfl,rfl⟩;refine cW (λF=>?_) (λF=>?_)
  ·have F:(x:Int)<en.length:=F
   refine λy hy=>?_
   have hy:y=((x - 1:Nat):Int):=by have:=hy ⟨by omega,by omega⟩;omega
   subst hy;refine cW (by omega) (cW (by omega) (cW (AG _) (λe he=>?_)));refine cW (by omega) (cW F (cW (AG _) (λe' W=>?_)));rw[di]at he W;refine cW (λM=>?_) (λM=>?_)
   ·exact⟨.inl rfl,_,rfl,key false _ (by rw[Ri he (show en[x - 1+1]?=some e' by rw[show x - 1+1=x by omega];exact W) (by have:e'.ai<=e.ai:=M;omega)];rfl),rfl⟩
   ·refine λz hz=>?_
    have hz:z=((x+1:Nat):Int):=by have:=hz ⟨by omega,by omega⟩;omega
    subst hz
    exact⟨201 - (x+1),by omega,_,(by refine⟨[],?_,?_,rfl,rfl,AG _⟩<;>repeat' (first|exact rfl|exact trivial|exact⟨_,rfl,.same _ _ rfl⟩|apply cW)),x+1,⟨by omega,by omega,λi a b hi Z hb=>by
     by_cases ai:i+1<x
     ·exact J i a b ai Z hb
     ·have e1:i=x - 1:=by omega
      subst e1;rw[he]at Z;rw[show x - 1+1=x by omega,W]at hb;cases Z;cases hb;have:¬e'.ai<=e.ai:=M
      omega⟩,rfl,rfl⟩
  ·have H:G7 en=true:=(Ii en).2 λi a b Z hb=>J i a b (by have:=(AC hb).1;have:¬(x:Int)<en.length:=F;omega) Z hb
   simp only[H,gL]at key;clear J F H Y hr h1 h2;cases sc<;>cases dr
   all_goals repeat' (first
    |refine cW (λ_=>?_) (λ_=>?_)
    |(refine⟨(wa,0,10),rfl,trivial,?_⟩;rintro v _ ⟨rfl,hv⟩;have hv:v=.bool (inB wa 0 10):=hv;obtain⟨r1,af⟩:∃r,inB wa 0 10=r:=⟨_,rfl⟩;rw[af]at hv;simp only[af]at key;subst hv;cases r1)
    |(refine⟨(co,0,3),rfl,trivial,?_⟩;rintro v _ ⟨rfl,hv⟩;have hv:v=.bool (inB co 0 3):=hv;obtain⟨r2,aa⟩:∃r,inB co 0 3=r:=⟨_,rfl⟩;rw[aa]at hv;simp only[aa]at key;subst hv;cases r2)
    |exact⟨.inl rfl,_,rfl,key _ _ (by clear key;simp_all),rfl⟩)
end
def Ej:Nat->Code->Code
 |n+1,.seq _ b=>Ej n b
 |_,c=>c
abbrev Γ4:List (Nat × Nat × Ct):=[(67,0,PE),(63,0,ctInX),(103,0,PD),(123,0,ctMayX),(62,0,QU),(122,0,QT),(118,0,Gu),(121,0,PF)]
abbrev Ρ4:Sp:=[(35,H9 TT Γ4 (A8 35 (Tryz.f61.body.getD .skip))),(37,H9 TT Γ4 (A8 37 (Tryz.f61.body.getD .skip))),(39,H9 TT Γ4 (A8 39 (Tryz.f61.body.getD .skip))),(41,H9 TT Γ4 (A8 41 (Tryz.f61.body.getD .skip))),(48,vC TT (A8 48 (Tryz.f61.body.getD .skip)) 15 25 0 259 [(5,264,263),(8,267,266),(13,272,271)]),(53,cutS (vC TT (A8 53 (Tryz.f61.body.getD .skip)) 13 24 0 287 [(5,292,291),(11,298,297)]))]
def Nr(B:Bk)(code:Int)(v:Value)(m:AY):Prop:=∃(i1 i2 i3 n1 n2 n3 k1 k2 k3:Nat) (b1 b2 b3:VB),v=.tuple #[.agg #[.int .i64 B.aj,.iface i1 (.slice none n1 k1),.iface i2 (.slice none n2 k2),.iface i3 (.slice none n3 k3)],.int .i64 code]/\(n1=B.af.length/\n2=B.ah.length/\n3=B.ak.length)/\(lk m i1=some b1/\Rds b1 13 svL B.af)/\(lk m i2=some b2/\Rds b2 7 cpL B.ah)/\(lk m i3=some b3/\Rds b3 2 btL B.ak)
def endX(B:Bk)(A:Ac):Exit->St->Prop:=λe s=>(e=.ret\/e=.normal)/\∃v,Lz TT Tryz.f61.results.toList s.t s.m=some v/\Nr (Av B A) (Bc B A) v s.m/\clo s.m (BS v)=true
theorem Es{B:Bk}{A:Ac}{c:Int}{m:AY}{c1 c2 c3:Nat}(h:Bc B A=c)(F:c≠0)(M:lk m 0=some (A9 34 13 svL B.af))(H:lk m 1=some (A9 76 7 cpL B.ah))(J:lk m 2=some (A9 90 2 btL B.ak)):Nr (Av B A) (Bc B A) (.tuple #[.agg #[.int .i64 B.aj,.iface 0 (.slice none B.af.length c1),.iface 1 (.slice none B.ah.length c2),.iface 2 (.slice none B.ak.length c3)],.int .i64 c]) m:=by
 have:Av B A=B:=by unfold Av;rw[h,dC F]
 rw[this,h];exact⟨0,1,2,_,_,_,c1,c2,c3,_,_,_,rfl,⟨rfl,rfl,rfl⟩,⟨M,.row⟩,⟨H,.row⟩,⟨J,.row⟩⟩
section
variable {RD:(Nat->Prop)->World->Nat->Nat->Prop}
theorem QN(F:B9 RD):Env Tryz.prog RD TT Γ4:=
 AZ (AZ (AZ (AZ (AZ (AZ (AZ (AZ (Aw F) (by kernel_rfl) (SY F)) (by kernel_rfl) (DN F)) (by kernel_rfl) (KT F)) (by kernel_rfl) (Rg F)) (by kernel_rfl) (mayX_ct F)) (by kernel_rfl) (JP F)) (by kernel_rfl) (inX_ct F)) (by kernel_rfl) (SW F)
theorem spec4(F:B9 RD):SpAll Tryz.prog RD Ρ4 303 (Tryz.f61.body.getD .skip):=by
 intro i C hC p H;have J:=Aj _ _ _ hC;simp only[dy,dH,eP,dw]at J;rcases J with⟨rfl,rfl⟩|⟨rfl,rfl⟩|⟨rfl,rfl⟩|⟨rfl,rfl⟩|⟨rfl,rfl⟩|⟨rfl,rfl⟩
 ·cases cZ.1 (show p∈[(_,_)] from H)
  exact Cy (QN F) (by kernel_rfl) (by kernel_rfl)
 ·cases cZ.1 (show p∈[(_,_)] from H)
  exact Cy (QN F) (by kernel_rfl) (by kernel_rfl)
 ·cases cZ.1 (show p∈[(_,_)] from H)
  exact Cy (QN F) (by kernel_rfl) (by kernel_rfl)
 ·cases cZ.1 (show p∈[(_,_)] from H)
  exact Cy (QN F) (by kernel_rfl) (by kernel_rfl)
 ·cases cZ.1 (show p∈[(_,_)] from H)
  exact Ie (Aw F) (by kernel_rfl) (by kernel_rfl) (by kernel_rfl) (by kernel_rfl) ⟨_,rfl,rfl,rfl⟩ ⟨⟨_,rfl,rfl,rfl⟩,⟨_,rfl,rfl,rfl⟩,⟨_,rfl,rfl,rfl⟩,trivial⟩
 ·cases cZ.1 (show p∈[(_,_)] from H)
  exact cutS_ok (QN F) (Ie (Aw F) (by kernel_rfl) (by kernel_rfl) (by kernel_rfl) (by kernel_rfl) ⟨_,rfl,rfl,rfl⟩ ⟨⟨_,rfl,rfl,rfl⟩,⟨_,rfl,rfl,rfl⟩,trivial⟩)
end
def mA(A:AP)(aj:Int)(L:List Svc)(l:List Cp)(b3:List Bt)(s:Svc)(k1 n2 k2 k3:Nat):AY:=[(500,AT (svL s) 34),(456,AT [.int .i64 aj,.iface 448 (.slice none L.length k1),.iface 449 (.slice none n2 k2),.iface 450 (.slice none b3.length k3)] 28),(448,An 34 13 k1 svL L),(449,An 76 7 k2 cpL l),(450,An 90 2 k3 btL b3),(72,AT (A.cs 3) 45),(80,AT [.int .i64 0,.slice none 0 0,.slice none 0 0,.slice none 0 0] 28),(3,A9 88 2 enL A.en)]
def tA(k v:Int):Tm:=[(6,.int .i64 k),(10,.int .i64 v),(9,.complex .f64 456 0),(13,.complex .f64 500 0),(3,.complex .f64 72 0),(4,.complex .f64 80 0)]
def IT(A:AP)(s:Svc)(v:Int):Cp:=⟨A.nm,s.next,v,s.ar,1,false,⟨#[]⟩⟩
theorem Qk{B:Bk}{A:AP}{k:Nat}{L:List Cp}{s0 sc:Svc}{k1 ay k3:Nat}(bb:k<B.af.length)(hL:B.af.length<=1000)(hl:L.length<=200)(a6:0<=A.cr)(hc:A.cr<=20)(aG:sc.ar=s0.ar)(aT:sc.next=s0.next)(a9:1<=s0.next)(a5:s0.next<=1000000)(Y:Bc B A.ac=0)(F:Av B A.ac=⟨B.aj+1,if A.dr then B.af.take k++B.af.drop (k+1) else B.af.set k {sc with next:=s0.next+A.cr,ag:=B.aj+1},G5 B A.ac s0 L A.cr.toNat,B.ak⟩)
  {z:St} (hE:Ent z ⟨tA k (B.aj+1),mA A B.aj B.af L B.ak sc k1 L.length ay k3,600,0⟩):vwr TT Γ4 Ρ4 (Ej 17 (Tryz.f61.body.getD .skip)) (endX B A.ac) z:=by
 refine⟨_,hE,?_⟩;refine⟨λn z=>∃(t:Nat) (l:List Cp) (u:Int) (n2 k2:Nat),(t<=A.cr.toNat/\l=G5 B A.ac s0 L t/\u=s0.next+t/\n2=l.length)/\n=20 - t/\z=⟨(15,.int .i64 t)::tA k (B.aj+1),mA A B.aj B.af l B.ak {sc with next:=u} k1 n2 k2 k3,600,0⟩,20,⟨_,(by refine⟨[],?_,?_,rfl,rfl,AG _⟩<;>repeat' (first|exact rfl|exact trivial|exact⟨_,rfl,.same _ _ rfl⟩|apply cW)),0,L,sc.next,L.length,ay,⟨by omega,rfl,by omega,rfl⟩,by omega,rfl⟩,?_⟩;rintro n _ ⟨t,l,u,n2,k2,⟨ht,an,hu,af⟩,rfl,rfl⟩;have bU:l.length=L.length+t:=by rw[an,GK]
 refine cW (λaa=>?_) (λaa=>?_)
 ·have aa:(t:Int)<A.cr:=aa
  have ak:IT A {sc with next:=u} (B.aj+1)=D2 B A.ac s0 t:=by unfold IT D2;rw[hu];simp only[aG];rfl
  refine⟨λn z=>∃y:Nat,(y<=n2/\∀i c,i<y->l[i]?=some c->Ak c (D2 B A.ac s0 t)=true)/\n=n2 - y/\z=⟨(17,.int .i64 y)::(16,.complex .f64 696 0)::(15,.int .i64 t)::tA k (B.aj+1),(696,AT (cpL (IT A {sc with next:=u} (B.aj+1))) 76)::mA A B.aj B.af l B.ak {sc with next:=u} k1 n2 k2 k3,720,0⟩,n2,⟨_,(by refine⟨[],?_,?_,rfl,rfl,AG _⟩<;>repeat' (first|exact rfl|exact trivial|exact⟨_,rfl,.same _ _ rfl⟩|apply cW)),0,⟨by omega,λ_ _ h=>by omega⟩,by omega,rfl⟩,?_⟩;rintro n _ ⟨y,⟨a8,am⟩,rfl,rfl⟩;refine cW (λZ=>?caseA) (λZ=>?caseB)
  case' caseA=>
   have Z:(y:Int)<n2:=Z;refine cW (by omega) (cW Z (cW (fH af) (cW (show(y:Int).toNat<l.length by omega) (λc' ah=>?_))));rw[di]at ah;refine⟨(c',IT A {sc with next:=u} (B.aj+1)),rfl,trivial,?_⟩;rintro v _ ⟨rfl,hv⟩;have hv:v=.bool (Ak c' (IT A {sc with next:=u} (B.aj+1))):=hv;obtain⟨r,hr⟩:∃r,Ak c' (IT A {sc with next:=u} (B.aj+1))=r:=⟨_,rfl⟩;rw[hr]at hv;subst hv;rw[ak]at hr;cases r
   case' true=>
    refine λz hz=>?_
    have hz:z=((y+1:Nat):Int):=by have:=hz ⟨by omega,by omega⟩;omega
    subst hz
    exact⟨n2 - (y+1),by omega,_,(by refine⟨[],?_,?_,rfl,rfl,AG _⟩<;>repeat' (first|exact rfl|exact trivial|exact⟨_,rfl,.same _ _ rfl⟩|apply cW)),y+1,⟨by omega,λi c hi hc=>by
     by_cases h:i<y
     ·exact am i c h hc
     ·obtain rfl:i=y:=by omega
      rw[ah]at hc;cases hc;exact hr⟩,rfl,rfl⟩
   have aq:∀c,l[y]?=some c->Ak c (D2 B A.ac s0 t)=false:=λc hc=>by rw[ah]at hc;cases hc;exact hr
   clear hr ah
  case' caseB=>
   have aq:∀c,l[y]?=some c->Ak c (D2 B A.ac s0 t)=false:=λc hc=>by
    have:=(AC hc).1;have:¬(y:Int)<n2:=Z;omega
  all_goals
   have aw:l.take y++IT A {sc with next:=u} (B.aj+1)::l.drop y=G5 B A.ac s0 L (t+1):=by
    rw[ak];show _=Jz (G5 B A.ac s0 L t) (D2 B A.ac s0 t);rw[<-an];exact(putC_at (OI (by omega) am aq)).symm
   clear aq am Z;refine⟨[449],λJ=>cW (by omega) (cW (by have h:l.length<=k2:=J.1;omega) (cW (by show(y:Int).toNat<=l.length;omega) (cW (by omega) (cW (by omega) (cW (fH af) (cW (by have h:l.length<=k2:=J.1;omega) ?_))))))⟩;rw[di];refine cW (AG _) (cW (by show 0+y<=1000000000;omega) (cW (λ_ _ _ _=>⟨rfl,rfl⟩) (λd1=>?_)));refine cW (AG _) (cW (by show 0+y+1<=1000000000;omega) (λd2=>?_));refine cW (AG _) (cW (by show 0+y+1+(n2 - y)<=1000000000;omega) (cW (λ_ _ _ _=>⟨rfl,rfl⟩) (λH=>?_)));refine λu1 M u2 au=>?_
   have M:inR (u+1)->u1=u+1:=M;have M:u1=s0.next+((t+1:Nat):Int):=by have:=M ⟨by omega,by omega⟩;omega
   have au:u2=((t+1:Nat):Int):=by have:=au ⟨by omega,by omega⟩;omega
   subst au;refine⟨20 - (t+1),by omega,_,?_,t+1,l.take y++IT A {sc with next:=u} (B.aj+1)::l.drop y,u1,0+y+1+(n2 - y),H,⟨by omega,aw,M,by simp;omega⟩,rfl,rfl⟩;have hp:=Fo (ρ:=[(449,960)]) (ty:=76) (sz:=7) (c1:=d1) (c2:=d2) (c3:=H) (m:=n2 - y) (f:=cpL) (l:=l) (x:=IT A {sc with next:=u} (B.aj+1)) (k:=y) (d:=y) (b:=EP (A9 76 7 cpL l) y (n2 - y)) (by omega) (by omega) (λj kk h x hx=>h x hx);refine⟨[(449,960)],?_,?_,rfl,rfl,AG _⟩<;>repeat' (first|exact rfl|exact trivial|exact⟨_,rfl,.same _ _ rfl⟩|exact⟨_,rfl,hp⟩|exact⟨_,rfl,C2 rfl⟩|apply cW)
 ·have aF:t=A.cr.toNat:=by have:¬(t:Int)<A.cr:=aa;omega
  have aH:u=s0.next+A.cr:=by omega
  clear hu;subst aH;subst aF;rw[<-an]at F;obtain⟨x0,aI⟩:∃x0,B.af[k]?=some x0:=⟨B.af[k]'(by omega),by simp⟩;have al:∀{ρ:List (Nat × Nat)} {cs:qL},cs=svL {sc with next:=s0.next+A.cr,ag:=B.aj+1}->LeB ρ (Ix (An 34 13 k1 svL B.af) k 0 cs) (An 34 13 k1 svL (B.af.set k {sc with next:=s0.next+A.cr,ag:=B.aj+1})):=λh=>BK (.same _ _ rfl) aI (by rw[h];rfl)
  refine cW (by omega) (cW (by omega) (cW (AG _) (cW (show(k:Int).toNat<B.af.length by omega) (cW (λ_ _ _=>trivial) ?_))));rw[di];refine cW (λhd=>?_) (λhd=>?_)
  ·have hd:A.dr=true:=hd
   rw[hd,dB rfl]at F;refine⟨⟨[(6,.int .i64 k),(10,.int .i64 (B.aj+1)),(9,.complex .f64 456 0),(4,.complex .f64 80 0)],[(456,AT [.int .i64 B.aj,.iface 448 (.slice none B.af.length k1),.iface 449 (.slice none n2 k2),.iface 450 (.slice none B.ak.length k3)] 28),(448,An 34 13 k1 svL (B.af.set k {sc with next:=s0.next+A.cr,ag:=B.aj+1})),(449,An 76 7 k2 cpL l),(450,An 90 2 k3 btL B.ak),(80,AT [.int .i64 0,.slice none 0 0,.slice none 0 0,.slice none 0 0] 28)],1000,0⟩,(by refine⟨[],?_,?_,rfl,rfl,AG _⟩<;>repeat' (first|exact rfl|exact trivial|exact⟨_,rfl,.same _ _ rfl⟩|exact⟨_,rfl,al rfl⟩|apply cW)),[448],λJ=>cW (by omega) (cW (by have h:(B.af.set k {sc with next:=s0.next+A.cr,ag:=B.aj+1}).length<=k1:=J.1;rw[du]at h;omega) (cW (by show(k:Int).toNat<=(B.af.set k {sc with next:=s0.next+A.cr,ag:=B.aj+1}).length;rw[du];omega) ?_))⟩;have W:(B.af.set k {sc with next:=s0.next+A.cr,ag:=B.aj+1}).length=B.af.length:=du ..;have av:B.af.take k++B.af.drop (k+1)=(B.af.set k {sc with next:=s0.next+A.cr,ag:=B.aj+1}).take k++(B.af.set k {sc with next:=s0.next+A.cr,ag:=B.aj+1}).drop (k+1):=by rw[List.take_set_of_le (AG _),List.drop_set_of_lt (by omega)]
   have aE:B.af.length<=k1:=W▸J.1;rw[av]at F;clear av;generalize (B.af.set k {sc with next:=s0.next+A.cr,ag:=B.aj+1})=L' at W F ⊢;intro y Z;have Z:y=((k+1:Nat):Int):=by have:=Z ⟨by omega,by omega⟩;omega
   subst Z;refine cW (by omega) (cW (by show((k+1:Nat):Int)<=(B.af.length:Int);omega) (cW (by show B.af.length<=L'.length;omega) (cW aE ?_)));rw[di,di];refine cW (AG _) (cW (by show 0+k<=1000000000;omega) (cW (λ_ _ _ _=>⟨rfl,rfl⟩) (λd1=>?_)));refine cW (AG _) (cW (by show 0+k+(B.af.length - (k+1))<=1000000000;omega) (cW (λ_ _ _ _=>⟨rfl,rfl⟩) (λH=>?_)))
   have aA:LeB [] (E9 (E9 (Dd 34 13 []) (EP (A9 34 13 svL L') 0 k) k d1) (EP (A9 34 13 svL L') (k+1) (B.af.length - (k+1))) (B.af.length - (k+1)) H) (An 34 13 H svL (L'.take k++L'.drop (k+1))):=by
    rw[<-W];exact RY (by omega)
   refine⟨.inl rfl,_,rfl,?_,rfl⟩;rw[F,Y];exact⟨1112,449,450,_,n2,B.ak.length,H,k2,k3,_,_,_,rfl,⟨by show 0+k+(B.af.length - (k+1))=_;simp;omega,af,rfl⟩,⟨rfl,.le aA⟩,⟨rfl,.le (ρ:=[]) (.same _ _ rfl)⟩,⟨rfl,.le (ρ:=[]) (.same _ _ rfl)⟩⟩
  ·have hd:A.dr=false:=by simpa using hd
   rw[hd,dC (by decide)]at F;refine⟨.inl rfl,_,rfl,?_,rfl⟩;rw[F,Y];exact⟨448,449,450,B.af.length,n2,B.ak.length,k1,k2,k3,_,_,_,rfl,⟨by rw[du],af,rfl⟩,⟨rfl,.le (ρ:=[]) (al rfl)⟩,⟨rfl,.le (ρ:=[]) (.same _ _ rfl)⟩,⟨rfl,.le (ρ:=[]) (.same _ _ rfl)⟩⟩
structure Mid(B:Bk)(A:AP)(s0 sc:Svc)(L:List Cp)(k:Nat):Prop where
 code:Bc B A.ac=DC B A.ac s0 L
 done:Az B A.ac=LT B A.ac s0 L k
 hk:B.af[k]?=some s0
 hL:B.af.length<=1000
 hC:B.ah.length<=1000
 hb:B.ak.length<=1000
 bU:L.length=B.ah.length
 c0:0<=A.cr
 c20:A.cr<=20
 si:Rl s0
 n0:0<=B.aj
 n1:B.aj<=1000000
 sv:Ah B A.nm=some s0
 dr:BY A.ac s0 (BD B A.nm)=false
 sce:AQ A.ac s0=sc
 w0:0<=sc.av/\sc.av<=10
theorem Mid.eqs{B:Bk}{A:AP}{s0 sc:Svc}{L:List Cp}{k:Nat}(M:Mid B A s0 sc L k):sc.ar=s0.ar/\sc.next=s0.next/\sc.aH=s0.aH/\sc.aE=s0.aE/\sc.aM=s0.aM/\sc.aC=s0.aC/\sc.aK=s0.aK:=by
 rw[<-M.sce];unfold AQ;cases A.ac.az<;>exact⟨rfl,rfl,rfl,rfl,rfl,rfl,rfl⟩
def stM(B:Bk)(c1 c2 c3:Nat)(A:AP)(k:Nat)(L:List Cp)(sc:Svc)(k1 k2 k3:Nat):St:=⟨(2,.complex .f64 64 0)::tA k (B.aj+1),(64,AT (D5 B c1 c2 c3) 28)::(mA A B.aj B.af L B.ak sc k1 L.length k2 k3++bkM B),600,0⟩
theorem Lg{B:Bk}{c1 c2 c3:Nat}{A:AP}{k:Nat}{L:List Cp}{s0 sc:Svc}{k1 k2 k3:Nat}(M:Mid B A s0 sc L k)(h1:BA A.ac s0=false)(h2:CC A.ac sc (BD {B with ah:=L} A.nm)=false)
  {z:St} (hE:Ent z (stM B c1 c2 c3 A k L sc k1 k2 k3)):vwr TT Γ4 Ρ4 (Ej 16 (Tryz.f61.body.getD .skip)) (endX B A.ac) z:=by
 have F:Bc B A.ac=if DO B A.ac sc then 7 else 0:=by
  rw[M.code,Mi h1 (by rw[M.sce];exact h2) M.dr,M.sce]
 obtain⟨e1,e2,_⟩:=M.eqs;have b0:=M.hC;have b1:=M.c0;have b2:=M.c20;have Z:=M.si.br;have b4:=M.si.bI;refine⟨_,hE,?_⟩;refine λn H=>?_
 have H:n=(B.ah.length:Int)+A.cr:=H ⟨by omega,by omega⟩;subst H;refine cW (λh=>?_) (λh=>?_)
 ·exact⟨.inl rfl,_,rfl,Es (c:=7) (by rw[F];unfold DO;rw[dO (show 200<(B.ah.length:Int)+A.ac.am from h)];rfl) (by decide) rfl rfl rfl,rfl⟩
 refine λn H=>?_
 have H:inR (sc.next+A.cr)->n=sc.next+A.cr:=H;have H:=H ⟨by omega,by omega⟩;subst H;refine cW (λY=>?_) (λY=>?_)
 ·exact⟨.inl rfl,_,rfl,Es (c:=7) (by rw[F];unfold DO;rw[dO (show 1000000<sc.next+A.ac.am from Y)];simp) (by decide) rfl rfl rfl,rfl⟩
 refine cW (λJ=>?_) (λJ=>?_)
 ·exact⟨.inl rfl,_,rfl,Es (c:=7) (by rw[F];unfold DO;rw[dO (show 1000000<=B.aj from J)];simp) (by decide) rfl rfl rfl,rfl⟩
 have W:Bc B A.ac=0:=by rw[F];unfold DO;rw[dQ (show ¬200<(B.ah.length:Int)+A.ac.am from h),dQ (show ¬1000000<sc.next+A.ac.am from Y),dQ (show ¬1000000<=B.aj from J)];rfl
 have h:¬200<(B.ah.length:Int)+A.cr:=h;exact Qk (s0:=s0) (sc:=sc) (L:=L) (AC M.hk).1 M.hL (by have:=M.bU;omega) b1 b2 e1 e2 Z b4 W (by unfold Av;rw[dB W,M.done];unfold LT DI By;rw[M.sce];rfl) (by refine⟨[],?_,?_,rfl,rfl,AG _⟩<;>repeat' (first|exact rfl|exact trivial|exact⟨_,rfl,.same _ _ rfl⟩|apply cW))
theorem Jr{B:Bk}{c1 c2 c3:Nat}{A:AP}{k:Nat}{L:List Cp}{s0 sc:Svc}{k1 k2 k3:Nat}(M:Mid B A s0 sc L k)(W:CC A.ac sc (BD {B with ah:=L} A.nm)=false)
  {z:St} (Z:Ent z (stM B c1 c2 c3 A k L sc k1 k2 k3)):vwr TT Γ4 Ρ4 (Ej 15 (Tryz.f61.body.getD .skip)) (endX B A.ac) z:=by
 obtain⟨_,_,_,_,e5,e6,e7⟩:=M.eqs;have Y:BA A.ac s0=true->Bc B A.ac=6:=λh=>by rw[M.code,LL h]
 refine⟨_,Z,?_⟩;refine cW (λh=>?_) (λh=>?_)
 ·have h:A.sc=true:=h
  refine cW (λF=>?_) (λF=>?_)
  ·exact⟨.inl rfl,_,rfl,Es (c:=6) (Y (by unfold BA;rw[show A.ac.az=true from h,<-e5,show(sc.aM==0)=true from by rw[fq];exact F];rfl)) (by decide) rfl rfl rfl,rfl⟩
  ·refine⟨(A.wa,sc.aC,sc.aK),rfl,trivial,?_⟩
   rintro v _ ⟨rfl,hv⟩;have hv:v=.bool (inB A.wa sc.aC sc.aK):=hv;obtain⟨r,J⟩:∃r,inB A.wa sc.aC sc.aK=r:=⟨_,rfl⟩;rw[J]at hv;subst hv;have H:BA A.ac s0=!r:=by unfold BA;rw[show A.ac.az=true from h,<-e5,<-e6,<-e7,show(sc.aM==0)=false from by simpa using F,show inB A.ac.av sc.aC sc.aK=r from J];rfl
   cases r
   ·exact⟨.inl rfl,_,rfl,Es (c:=6) (Y H) (by decide) rfl rfl rfl,rfl⟩
   ·exact Lg M H W (by refine⟨[],?_,?_,rfl,rfl,AG _⟩<;>repeat' (first|exact rfl|exact trivial|exact⟨_,rfl,.same _ _ rfl⟩|apply cW))
 ·exact Lg M (by unfold BA;rw[show A.ac.az=false from h];rfl) W (by refine⟨[],?_,?_,rfl,rfl,AG _⟩<;>repeat' (first|exact rfl|exact trivial|exact⟨_,rfl,.same _ _ rfl⟩|apply cW))
theorem Gx{B:Bk}{c1 c2 c3:Nat}{A:AP}{k:Nat}{L:List Cp}{s0 sc:Svc}{k1 k2 k3:Nat}(M:Mid B A s0 sc L k)
  {z:St} (hE:Ent z (stM B c1 c2 c3 A k L sc k1 k2 k3)):vwr TT Γ4 Ρ4 (Ej 14 (Tryz.f61.body.getD .skip)) (endX B A.ac) z:=by
 obtain⟨_,_,e3,e4,_⟩:=M.eqs;have l6:CC A.ac sc (BD {B with ah:=L} A.nm)=true->Bc B A.ac=6:=λh=>by rw[M.code,Mk (by rw[M.sce];exact h)]
 have Y:=JS {B with ah:=L} A.nm;have hl:L.length<=1000:=by have:=M.hC;have:=M.bU;omega
 refine⟨_,hE,?_⟩;refine cW (λh=>?_) (λh=>?_)
 ·have h:0<A.cr:=h
  refine cW (λZ=>?_) (λZ=>?_)
  ·exact⟨.inl rfl,_,rfl,Es (c:=6) (l6 (by unfold CC;rw[dO (show 0<A.ac.am from h),show sc.aH=true from Z];rfl)) (by decide) rfl rfl rfl,rfl⟩
  ·refine⟨(⟨⟨B.aj,B.af,L,B.ak⟩,k1,k2,k3⟩,A.nm),rfl,⟨M.hL,hl,M.hb⟩,?_⟩
   rintro _ _ ⟨rfl,rfl⟩;refine λn1 F n2 H=>?_
   have F:inR ((BD {B with ah:=L} A.nm).aI+A.cr)->n1=(BD {B with ah:=L} A.nm).aI+A.cr:=F;have H:inR (sc.av+sc.aE)->n2=sc.av+sc.aE:=H;have b1:=Y.1;have b2:(BD {B with ah:=L} A.nm).aI<=(L.length:Int):=Y.2.1;have b3:=M.c20;have b4:=M.w0;have b5:=M.si.cf;have b6:=M.si.cg;have F:=F ⟨by omega,by omega⟩;have H:=H ⟨by omega,by omega⟩;subst F H;have W:CC A.ac sc (BD {B with ah:=L} A.nm)=decide (sc.av+sc.aE<(BD {B with ah:=L} A.nm).aI+A.cr):=by unfold CC;rw[dO (show 0<A.ac.am from h),show sc.aH=false from by simpa using Z];rfl
   refine cW (λJ=>?_) (λJ=>?_)
   ·exact⟨.inl rfl,_,rfl,Es (c:=6) (l6 (by rw[W];exact dO J)) (by decide) rfl rfl rfl,rfl⟩
   ·exact Jr M (by rw[W];exact dQ J) (by refine⟨[],?_,?_,rfl,rfl,AG _⟩<;>repeat' (first|exact rfl|exact trivial|exact⟨_,rfl,.same _ _ rfl⟩|apply cW))
 ·exact Jr M (by unfold CC;rw[dQ (show ¬0<A.ac.am from h)];rfl) (by refine⟨[],?_,?_,rfl,rfl,AG _⟩<;>repeat' (first|exact rfl|exact trivial|exact⟨_,rfl,.same _ _ rfl⟩|apply cW))
theorem LG{B:Bk}{s:Svc}{sv:qB}{v:Int}:∀(es:List En) (l F:List Cp) (e:En),BL B s sv v es l=some F->BL B s sv v (es++[e]) l=match F.find? (isC sv e.ai) with
  |some c=>if FY {B with ah:=F} s sv c then some (Cm sv v F e.ai) else none
  |none=>none
 |[],l,F,e,h=>by cases h;rfl
 |x::es,l,F,e,h=>by
  rw[fb];unfold BL at h ⊢
  cases hf:l.find? (isC sv x.ai) with
  |none=>rw[hf]at h;cases h
  |some c=>
   rw[hf]at h;simp only at h ⊢;split at h
   ·rename_i H
    rw[dB H];exact LG es _ F e h
   ·cases h
theorem LF{B:Bk}{s:Svc}{sv:qB}{v:Int}:∀(es es':List En) (l:List Cp),BL B s sv v es l=none->BL B s sv v (es++es') l=none
 |[],_,_,h=>nomatch h
 |x::es,es',l,h=>by
  rw[fb];unfold BL at h ⊢
  cases hf:l.find? (isC sv x.ai) with
  |none=>rfl
  |some c=>
   rw[hf]at h;simp only at h ⊢;split at h
   ·rename_i F
    rw[dB F];exact LF es es' _ h
   ·rename_i F
    rw[dC F]
theorem take_one{es:List En}{i:Nat}{e:En}(h:es[i]?=some e):es.take (i+1)=es.take i++[e]:=by rw[eW,h];rfl
theorem SV{B:Bk}{c1 c2 c3:Nat}{A:AP}(M:B.af.length<=1000/\B.ah.length<=1000/\B.ak.length<=1000)(hV:Valid B):vwr TT Γ4 Ρ4 (Tryz.f61.body.getD .skip) (endX B A.ac) ⟨EM 0 [(⟨B,c1,c2,c3⟩:BP).v,A.v 3],bkM B++[(3,A9 88 2 enL A.en)],64,0⟩:=by
 have aE:=inB_iff.1 hV.aj;refine⟨A,rfl,trivial,?_⟩;rintro v _ ⟨rfl,hv⟩;have hv:v=.bool (Bg A.ac):=hv;obtain⟨r,hr⟩:∃r,Bg A.ac=r:=⟨_,rfl⟩;rw[hr]at hv;subst hv
 cases r with
 |false=>exact⟨.inl rfl,_,rfl,Es (c:=2) (code_2 hr) (by decide) rfl rfl rfl,rfl⟩
 |true=>
 obtain⟨aK,aT⟩:=Du hr
 have bz:A.en.length<=200:=by
  have h:=hr;unfold Bg at h;simp only[cY,dM]at h;exact h.1.1.1.2
 refine⟨(⟨B,c1,c2,c3⟩,A.nm),rfl,M,?_⟩;rintro _ _ ⟨rfl,k,rfl,hk⟩;rcases Idx.bA hk with⟨rfl,bo⟩|⟨k,s0,rfl,ah,Z,a9⟩
 ·refine cW (λh=>?_) (λh=>absurd (show(-1:Int)<0 by decide) h)
  exact⟨.inl rfl,_,rfl,Es (c:=3) (Qa hr (.inl bo)) (by decide) rfl rfl rfl,rfl⟩
 have Z:Ah B A.nm=some s0:=Z;have ah:B.af[k]?=some s0:=ah;have bB:k<B.af.length:=(AC ah).1;have bj:∃s∈B.af,nmB s.name A.nm=true:=hk.pos (by show ¬(k:Int)<0;omega);refine cW (λh=>absurd h (by show ¬(k:Int)<0;omega)) (λh=>?_);clear h hk;refine⟨λn z=>∃x:Nat,(x<=A.en.length/\∀(j:Nat) e,j<x->A.en[j]?=some e->Cr B A.ac e=true)/\n=A.en.length - x/\z=⟨[(7,.int .i64 x),(6,.int .i64 k),(3,.complex .f64 72 0),(2,.complex .f64 64 0),(4,.complex .f64 80 0)],(80,AT [.int .i64 0,.slice none 0 0,.slice none 0 0,.slice none 0 0] 28)::(72,AT (A.cs 3) 45)::(64,AT (D5 B c1 c2 c3) 28)::(bkM B++[(3,A9 88 2 enL A.en)]),150,0⟩,A.en.length,⟨_,(by refine⟨[],?_,?_,rfl,rfl,AG _⟩<;>repeat' (first|exact rfl|exact trivial|exact⟨_,rfl,.same _ _ rfl⟩|apply cW)),0,⟨by omega,(λ_ _ h=>by omega)⟩,by omega,rfl⟩,?_⟩;rintro n _ ⟨x,⟨h1,W⟩,rfl,rfl⟩;refine cW (λF=>?_) (λF=>?_)
 ·have F:(x:Int)<A.en.length:=F
  refine cW (by omega) (cW F (cW (AG _) (λe he=>?_)));rw[di]at he;refine⟨(⟨B,c1,c2,c3⟩,A.nm,e.ai),rfl,M,?_⟩;rintro _ _ ⟨rfl,j,rfl,hj⟩;rcases Idx.cp hj with⟨rfl,hf⟩|⟨j,c,rfl,_,hf,_⟩
  ·refine cW (λh=>?_) (λh=>absurd (show(-1:Int)<0 by decide) h)
   exact⟨.inl rfl,_,rfl,Es (c:=3) (Qa hr (.inr (Ql he (by unfold Cr;rw[show B.ah.find? (isC A.ac.aa e.ai)=none from hf];rfl)))) (by decide) rfl rfl rfl,rfl⟩
  ·refine cW (λh=>absurd h (by show ¬(j:Int)<0;omega)) (λh=>?_)
   refine λy hy=>?_
   have hy:y=((x+1:Nat):Int):=by have:=hy ⟨by omega,by omega⟩;omega
   subst hy
   exact⟨A.en.length - (x+1),by omega,_,(by refine⟨[],?_,?_,rfl,rfl,AG _⟩<;>repeat' (first|exact rfl|exact trivial|exact⟨_,rfl,.same _ _ rfl⟩|apply cW)),x+1,⟨by omega,λi e' hi H=>by
    by_cases ak:i<x
    ·exact W i e' ak H
    ·obtain rfl:i=x:=by omega
     rw[he]at H;cases H;unfold Cr;rw[show B.ah.find? (isC A.ac.aa e.ai)=some c from hf]
     rfl⟩,rfl,rfl⟩
 have Y:A.ac.aw.all (Cr B A.ac)=true:=Nt λi e hi he=>W i e (by have:i<A.en.length:=hi;have:¬(x:Int)<A.en.length:=F;omega) he
 clear W F h1;refine cW (by omega) (cW (by omega) (cW (AG _) (λs' al=>?_)));rw[di,ah]at al;cases al;refine cW (λh=>?_) (λh=>?_)
 ·exact⟨.inl rfl,_,rfl,Es (c:=4) (QZ hr Z Y (by rw[show(s0.ag==A.ac.aF)=false from eL.2 h];rfl)) (by decide) rfl rfl rfl,rfl⟩
 have aF:(s0.ag==A.ac.aF)=true:=fq.2 (Decidable.of_not_not h);clear h;refine⟨λn z=>∃x:Nat,(x<=A.en.length/\∀(j:Nat) e,j<x->A.en[j]?=some e->CD B A.ac e=true)/\n=A.en.length - x/\z=⟨[(8,.int .i64 x),(6,.int .i64 k),(3,.complex .f64 72 0),(2,.complex .f64 64 0),(4,.complex .f64 80 0)],(80,AT [.int .i64 0,.slice none 0 0,.slice none 0 0,.slice none 0 0] 28)::(72,AT (A.cs 3) 45)::(64,AT (D5 B c1 c2 c3) 28)::(bkM B++[(3,A9 88 2 enL A.en)]),400,0⟩,A.en.length,⟨_,(by refine⟨[],?_,?_,rfl,rfl,AG _⟩<;>repeat' (first|exact rfl|exact trivial|exact⟨_,rfl,.same _ _ rfl⟩|apply cW)),0,⟨by omega,λ_ _ h=>by omega⟩,by omega,rfl⟩,?_⟩;rintro n _ ⟨x,⟨h1,W⟩,rfl,rfl⟩;refine cW (λF=>?_) (λF=>?_)
 ·have F:(x:Int)<A.en.length:=F
  refine cW (by omega) (cW F (cW (AG _) (λe he=>?_)));rw[di]at he;refine⟨(⟨B,c1,c2,c3⟩,A.nm,e.ai),rfl,M,?_⟩;rintro _ _ ⟨rfl,j,rfl,hj⟩;rcases Idx.cp hj with⟨rfl,hf⟩|⟨j,c,rfl,a6,hf,_⟩
  ·have:=dh.1 Y e (AE he)
   unfold Cr at this;rw[show B.ah.find? (isC A.ac.aa e.ai)=none from hf]at this;cases this
  have bf:j<B.ah.length:=(AC a6).1;refine cW (by omega) (cW (by show(j:Int)<B.ah.length;omega) (cW (AG _) (λc' a4=>?_)));rw[di,show B.ah[j]?=some c from a6]at a4;cases a4;refine cW (by omega) (cW F (cW (AG _) (λe' H=>?_)));rw[di,he]at H;cases H;have a5:CD B A.ac e=(c.ag==e.aF):=by unfold CD;rw[show B.ah.find? (isC A.ac.aa e.ai)=some c from hf]
  refine cW (λh=>?_) (λh=>?_)
  ·exact⟨.inl rfl,_,rfl,Es (c:=4) (QZ hr Z Y (by rw[Ql (l:=A.ac.aw) he (by rw[a5];simpa using h),ij])) (by decide) rfl rfl rfl,rfl⟩
  ·refine λy hy=>?_
   have hy:y=((x+1:Nat):Int):=by have:=hy ⟨by omega,by omega⟩;omega
   subst hy
   exact⟨A.en.length - (x+1),by omega,_,(by refine⟨[],?_,?_,rfl,rfl,AG _⟩<;>repeat' (first|exact rfl|exact trivial|exact⟨_,rfl,.same _ _ rfl⟩|apply cW)),x+1,⟨by omega,λi e' hi H=>by
    by_cases ak:i<x
    ·exact W i e' ak H
    ·obtain rfl:i=x:=by omega
     rw[he]at H;cases H;rw[a5]
     simpa using h⟩,rfl,rfl⟩
 have aq:(s0.ag==A.ac.aF&&A.ac.aw.all (CD B A.ac))=true:=by rw[aF,Nt (l:=A.ac.aw) λi e hi he=>W i e (by have:i<A.en.length:=hi;have:¬(x:Int)<A.en.length:=F;omega) he];rfl
 clear W F h1 aF;refine⟨⟨B,c1,c2,c3⟩,rfl,M,?_⟩;rintro _ _ ⟨k1,k2,k3,rfl,rfl⟩;refine λv hv=>?_
 have hv:v=B.aj+1:=hv ⟨by omega,by omega⟩;subst hv;refine⟨λn z=>∃(x:Nat) (l:List Cp) (n2:Nat),(x<=A.en.length/\n2=l.length/\l.length=B.ah.length/\BL B s0 A.nm (B.aj+1) (A.en.take x) B.ah=some l)/\n=A.en.length - x/\z=⟨[(11,.int .i64 x),(10,.int .i64 (B.aj+1)),(9,.complex .f64 456 0),(6,.int .i64 k),(3,.complex .f64 72 0),(2,.complex .f64 64 0),(4,.complex .f64 80 0)],(456,AT [.int .i64 B.aj,.iface 448 (.slice none B.af.length k1),.iface 449 (.slice none n2 k2),.iface 450 (.slice none B.ak.length k3)] 28)::(448,An 34 13 k1 svL B.af)::(449,An 76 7 k2 cpL l)::(450,An 90 2 k3 btL B.ak)::(80,AT [.int .i64 0,.slice none 0 0,.slice none 0 0,.slice none 0 0] 28)::(72,AT (A.cs 3) 45)::(64,AT (D5 B c1 c2 c3) 28)::(bkM B++[(3,A9 88 2 enL A.en)]),480,0⟩,A.en.length,⟨_,(by refine⟨[],?_,?_,rfl,rfl,AG _⟩<;>repeat' (first|exact rfl|exact trivial|exact⟨_,rfl,.same _ _ rfl⟩|apply cW)),0,B.ah,_,⟨by omega,rfl,rfl,rfl⟩,by omega,rfl⟩,?_⟩;rintro n _ ⟨x,l,_,⟨h1,rfl,bU,ag⟩,rfl,rfl⟩;refine cW (λF=>?_) (λF=>?_)
 ·have F:(x:Int)<A.en.length:=F
  refine cW (by omega) (cW F (cW (AG _) (λe he=>?_)));rw[di]at he;have J:=LG _ _ _ e ag;rw[<-take_one he]at J;have hl:l.length<=1000:=by omega
  refine⟨(⟨⟨B.aj,B.af,l,B.ak⟩,k1,k2,k3⟩,A.nm,e.ai),rfl,⟨⟨M.1,hl,M.2.2⟩,bj,λs hs=>hV.bc hs⟩,?_⟩;rintro v _ ⟨rfl,hv⟩;have hv:v=.bool (LD ⟨B.aj,B.af,l,B.ak⟩ A.nm e.ai):=hv
  have aS:LD ⟨B.aj,B.af,l,B.ak⟩ A.nm e.ai=match l.find? (isC A.nm e.ai) with|none=>false|some c=>FY ⟨B.aj,B.af,l,B.ak⟩ s0 A.nm c:=by
   unfold LD;rw[show Ah ⟨B.aj,B.af,l,B.ak⟩ A.nm=some s0 from Z];try rfl
  obtain⟨r,aa⟩:∃r,LD ⟨B.aj,B.af,l,B.ak⟩ A.nm e.ai=r:=⟨_,rfl⟩;rw[aa]at hv;subst hv;rw[aS]at aa;clear aS
  cases r with
  |false=>
   have aG:BL B s0 A.ac.aa (B.aj+1) A.ac.aw B.ah=none:=by
    have h0:BL B s0 A.nm (B.aj+1) (A.en.take (x+1)) B.ah=none:=by
     rw[J];split at aa
     ·rename_i hf;rw[hf]
     ·rename_i c hf;rw[hf];simp only;rw[dC (by rw[aa];decide)]
    have:=LF _ (A.en.drop (x+1)) _ h0;rw[eY]at this;exact this
   exact⟨.inl rfl,_,rfl,Es (c:=5) (code_5 hr Z Y aq aG) (by decide) rfl rfl rfl,rfl⟩
  |true=>
  refine cW (by omega) (cW F (cW (AG _) (λe' H=>?_)));rw[di,he]at H;cases H;refine⟨(⟨⟨B.aj,B.af,l,B.ak⟩,k1,k2,k3⟩,A.nm,e.ai),rfl,⟨M.1,hl,M.2.2⟩,?_⟩;rintro _ _ ⟨rfl,j,rfl,hj⟩;rcases Idx.cp hj with⟨rfl,hf⟩|⟨j,c,rfl,hc,hf,ak⟩
  ·rw[show l.find? (isC A.nm e.ai)=none from hf]at aa;cases aa
  have hc:l[j]?=some c:=hc;have hf:l.find? (isC A.nm e.ai)=some c:=hf;have bf:j<l.length:=(AC hc).1;rw[hf]at aa J;simp only at aa J;rw[dB aa,Gr (show IX l A.nm e.ai=(j:Int) from ak) hc]at J;refine cW (by omega) (cW (by show(j:Int)<l.length;omega) (cW (AG _) (cW (show(j:Int).toNat<l.length by omega) (cW (λ_ _ _=>trivial) ?_))));refine cW (by omega) (cW (by show(j:Int)<l.length;omega) (cW (AG _) (cW (show(j:Int).toNat<l.length by omega) (cW (λ_ _ _=>trivial) ?_))));rw[di];refine λy hy=>?_
  have hy:y=((x+1:Nat):Int):=by have:=hy ⟨by omega,by omega⟩;omega
  subst hy;refine⟨A.en.length - (x+1),by omega,_,?_,x+1,(l.set j {c with au:=true}).set j (Bu (B.aj+1) c),l.length,⟨by omega,by rw[du,du],by rw[du,du];exact bU,by rw[fX];exact J⟩,rfl,rfl⟩;have bl:(l.set j {c with au:=true})[j]?=some {c with au:=true}:=by rw[fc,dB rfl,dB (by omega)]
  refine⟨[],?_,?_,rfl,rfl,AG _⟩<;>repeat' (first|exact rfl|exact trivial|exact⟨_,rfl,.same _ _ rfl⟩|exact⟨_,rfl,BK (BK (.same _ _ rfl) hc rfl) bl rfl⟩|apply cW)
 have ag:BL B s0 A.ac.aa (B.aj+1) A.ac.aw B.ah=some l:=by
  rw[er (by have:¬(x:Int)<A.en.length:=F;omega)]at ag;exact ag
 have ax:=M0 hr Z Y aq ag
 have ar:Az B A.ac=LT B A.ac s0 l k:=by
  unfold Az;rw[show Ah B A.ac.aa=some s0 from Z];simp only[ag];rw[show L6 B.af A.ac.aa=(k:Int) from a9,di]
 have an:=hV.bc (AE ah);have aC:=JS B A.nm
 have aA:∀sc,BY A.ac s0 (BD B A.nm)=false->AQ A.ac s0=sc->Mid B A s0 sc l k:=λsc h1 h2=>⟨ax,ar,ah,M.1,M.2.1,M.2.2,bU,aK,aT,an,aE.1,aE.2,Z,h1,h2,by
  rw[<-h2];unfold AQ;cases bm:A.ac.az
  ·exact⟨an.bq,an.bH⟩
  ·exact(PV hr).O bm⟩
 clear F ag Y aq ar;refine cW (by omega) (cW (by omega) (cW (AG _) (cW (show(k:Int).toNat<B.af.length by omega) (λs' al=>?_))));rw[di,ah]at al;cases al;refine⟨(⟨B,c1,c2,c3⟩,A.nm),rfl,M,?_⟩;rintro _ _ ⟨rfl,rfl⟩;have d6:BY A.ac s0 (BD B A.nm)=true->Bc B A.ac=6:=λh=>by rw[ax,Ml h]
 refine cW (λhd=>?_) (λhd=>?_)
 ·have hd:A.ac.drop=true:=hd
  refine cW (λhg=>?_) (λhg=>?_)
  ·refine λn hn=>?_
   have hn:inR ((BD B A.nm).aI+(BD B A.nm).au)->n=(BD B A.nm).aI+(BD B A.nm).au:=hn;have hn:=hn ⟨by have:=aC.1;have:=aC.2.2.2.2.2.2.2.2.1;omega,by have:=aC.2.1;have:=aC.2.2.2.2.2.2.2.2.2;omega⟩;subst hn;have aM:BY A.ac s0 (BD B A.nm)=decide (0<(BD B A.nm).aI+(BD B A.nm).au):=by unfold BY;rw[hd,show s0.aH=true from hg];rfl
   refine cW (λh=>?_) (λh=>?_)
   ·exact⟨.inl rfl,_,rfl,Es (c:=6) (d6 (by rw[aM];exact dO h)) (by decide) rfl rfl rfl,rfl⟩
   have hd:BY A.ac s0 (BD B A.nm)=false:=by rw[aM];exact dQ h
   refine cW (λhs=>?_) (λhs=>?_)
   ·exact Gx (aA {s0 with av:=A.wa,ay:=A.co} hd (Fh hs)) (by refine⟨[(500,560)],?_,?_,rfl,rfl,AG _⟩<;>repeat' (first|exact rfl|exact trivial|exact⟨_,rfl,.same _ _ rfl⟩|exact⟨_,rfl,C2 rfl⟩|apply cW))
   ·exact Gx (aA s0 hd (Gi hs)) (by refine⟨[(500,560)],?_,?_,rfl,rfl,AG _⟩<;>repeat' (first|exact rfl|exact trivial|exact⟨_,rfl,.same _ _ rfl⟩|exact⟨_,rfl,C2 rfl⟩|apply cW))
  ·exact⟨.inl rfl,_,rfl,Es (c:=6) (d6 (by unfold BY;rw[hd,show s0.aH=false from hg];rfl)) (by decide) rfl rfl rfl,rfl⟩
 ·have hd:BY A.ac s0 (BD B A.nm)=false:=by unfold BY;rw[show A.ac.drop=false from hd];rfl
  refine cW (λhs=>?_) (λhs=>?_)
  ·exact Gx (aA {s0 with av:=A.wa,ay:=A.co} hd (Fh hs)) (by refine⟨[(500,560)],?_,?_,rfl,rfl,AG _⟩<;>repeat' (first|exact rfl|exact trivial|exact⟨_,rfl,.same _ _ rfl⟩|exact⟨_,rfl,C2 rfl⟩|apply cW))
  ·exact Gx (aA s0 hd (Gi hs)) (by refine⟨[(500,560)],?_,?_,rfl,rfl,AG _⟩<;>repeat' (first|exact rfl|exact trivial|exact⟨_,rfl,.same _ _ rfl⟩|exact⟨_,rfl,C2 rfl⟩|apply cW))
end
end Go.Proofs.YtbceafpodamnfaaGreatDoor
