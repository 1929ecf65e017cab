import Derived.Test.YtbceafpodamnfaaGreatDoorG13
import Derived.Test.YtbceafpodamnfaaGreatDoorG17
import Derived.Deep.DeepCutAuto
set_option linter.all false
set_option maxHeartbeats 64000000
set_option maxRecDepth 100000
namespace Go.Proofs.YtbceafpodamnfaaGreatDoor
section
open Go.RowKit
open Go.Value renaming int->In,slice->Sl,string->Sg,bool->Bo,pointer->Po
open Go.IntKind renaming i64->i6
theorem Sv{X:Type}{p:X->Bool}{l:List X}{k:Int}(h:Idx p l k):(k= -1/\Fo p l=none)\/∃(j:Nat) (x:X),k=j/\l[j]?=some x/\Fo p l=some (j,x):=by
 rcases h with⟨rfl,W⟩|⟨j,x,rfl,z,Y,F⟩
 ·refine .inl ⟨rfl,?_⟩
  unfold Fo;rw[List.findIdx?_eq_none_iff.2 λx hx=>W x hx]
 ·refine .inr ⟨j,x,rfl,z,?_⟩
  obtain⟨H,J⟩:=AC z;unfold Fo
  rw[fp.2 ⟨H,by rw[J];exact Y,λi M=>by
   have O:i<l.length:=qo
   rw[F l[i] (List.mem_iff_getElem?.2 ⟨i,by rw[eK,dv M];simp⟩)];decide⟩]
  simp only[z,eO]
theorem Pn(nm:qB)(n:Int):cpQ nm n=isC nm n:=by
 funext c
 unfold cpQ isC nmB
 congr 1
def evL(E:Ev):List Value:=[In i6 E.kind,Sg E.aa.name,In i6 E.aa.ag,Bo E.aa.aH,In i6 E.aa.aj,In i6 E.aa.au,In i6 E.aa.aK,In i6 E.aa.aG,In i6 E.aa.next,In i6 E.aa.aQ,In i6 E.aa.az,In i6 E.aa.aI,In i6 E.aa.load,In i6 E.aa.aA,Sg E.name,In i6 E.ak,Bo E.bq]
def frB(P:World->Prop):VB:=⟨1,0,0,1,0,[],λ_ _=>False,λW _=>P W⟩
def bkG(B:Bk)(k1 k2 k3:Nat)(P:World->Prop):AW:=[(0,At 34 13 k1 svL B.ah),(1,At 76 7 k2 cpL B.ar),(2,At 90 2 k3 btL B.aw),(3,frB P)]
abbrev ΓS:List (Nat × Nat × Ct):=[(279,0,ctTick),(280,0,Ud),(281,0,Ue),(122,0,TL),(124,0,Uf),(118,0,Kr)]
abbrev ΡS:Sp:=[(9,Rh TT ΓS (Hq 9 (Tryz.f208.body.getD .skip))),(15,Rh TT ΓS (Hq 15 (Tryz.f208.body.getD .skip))),(29,Rh TT ΓS (Hq 29 (Tryz.f208.body.getD .skip))),(18,vC TT (Hq 18 (Tryz.f208.body.getD .skip)) 13 26 0 79 [(5,84,83),(11,90,89)])]
def Ty(R:Bk × Int)(P:World->Prop)(v:Value)(m:AW):Prop:=∃(X:Bk) (i1 i2 i3 n1 n2 n3 k1 k2 k3:Nat) (b1 b2 b3:VB),v=.tuple #[.agg #[In i6 X.av,.iface i1 (Sl none n1 k1),.iface i2 (Sl none n2 k2),.iface i3 (Sl none n3 k3)],In i6 R.2]/\(n1=X.ah.length/\n2=X.ar.length/\n3=X.aw.length)/\(lk m i1=some b1/\LeB [] b1 (At 34 13 k1 svL X.ah))/\(lk m i2=some b2/\LeB [] b2 (At 76 7 k2 cpL X.ar))/\(lk m i3=some b3/\LeB [] b3 (At 90 2 k3 btL X.aw))/\(R.2=0->X=R.1)/\lk m 3=some (frB P)
def endS(R:Bk × Int)(P:World->Prop):Exit->St->Prop:=λe s=>(e=.ret\/e=.normal)/\∃v,PD TT Tryz.f208.results.toList s.t s.m=some v/\Ty R P v s.m/\clo s.m (Bc v)=true
section
variable {RD:(Nat->Prop)->World->Nat->Nat->Prop}
theorem envS(z:CR RD):Env Tryz.prog RD TT ΓS:=
 Aa (Aa (Aa (Aa (Aa (Aa (BB z) qk (Gc z)) qk (Rw z)) qk (Ps z)) qk (raise_ct z)) qk (wishB_ct z)) qk (tick_ct z)
theorem specS(z:CR RD):SpAll Tryz.prog RD ΡS Tryz.f208.ntmps (Tryz.f208.body.getD .skip):=by
 intro i C hC p H;have F:=Aw _ _ _ hC;simp only[dJ,dW,fF,dR]at F;rcases F with⟨rfl,rfl⟩|⟨rfl,rfl⟩|⟨rfl,rfl⟩|⟨rfl,rfl⟩<;>cases dl.1 (show p∈[(_,_)] from H)
 ·exact Gs (envS z) qk qk
 ·exact Gs (envS z) qk qk
 ·exact Gs (envS z) qk qk
 ·exact KI (BB z) qk qk qk qk ⟨_,rfl,rfl,rfl⟩ ⟨⟨_,rfl,rfl,rfl⟩,⟨_,rfl,rfl,rfl⟩,trivial⟩
end
def seaSt(B:Bk)(E:Ev)(k1 k2 k3:Nat)(P:World->Prop):St:=⟨[(6,In i6 (B.av+1)),(4,.complex .f64 80 0),(3,.complex .f64 72 0),(2,.complex .f64 64 0)],(80,AX Vq 28)::(72,AX (evL E) 36)::(64,AX (Fs B k1 k2 k3) 28)::bkG B k1 k2 k3 P,88,0⟩
theorem sea_vc{B:Bk}{E:Ev}{k1 k2 k3:Nat}{P:World->Prop}(Y:B.ah.length<=1000/\B.ar.length<=1000/\B.aw.length<=1000)(h0:0<=B.av)(h9:B.av<1000000)(aJ:B.ah.length<=k1)(aq:B.aw.length<=k3):vwr TT ΓS ΡS (Tryz.f208.body.getD .skip) (endS (AS B E) P) ⟨Ew 0 [(⟨B,k1,k2,k3⟩:BP).v,.agg (evL E).toArray],bkG B k1 k2 k3 P,64,0⟩:=by
 obtain⟨kind,sv,nm,num,z⟩:=E;intro v hv;have hv:v=B.av+1:=hv ⟨by show _<=B.av+1;omega,by show B.av+1<=_;omega⟩;subst hv;refine dg (λe1=>?_) (λe1=>?_)
 ·have J:AS B ⟨kind,sv,nm,num,z⟩=({Ei B (B.av+1) with av:=B.av+1},0):=dv e1
  rw[J];refine⟨(⟨B,k1,k2,k3⟩,B.av+1),rfl,Y,?_⟩;rintro _ _ ⟨n,cp,hn,rfl,rfl⟩;have Y:=Dz B (B.av+1) (FE (B.av+1) B.ar).length;exact⟨.inl rfl,_,rfl,⟨{Ei B (B.av+1) with av:=B.av+1},0,176,2,_,_,_,_,_,_,_,_,_,rfl,⟨ei List.length Y.2.1.symm,hn,ei List.length Y.2.2.1.symm⟩,⟨rfl,(by show LeB [] _ (At _ _ _ _ (EC B (B.av+1) (FE (B.av+1) B.ar).length).ah);rw[Y.2.1];exact .same _ _ rfl)⟩,⟨rfl,.same _ _ rfl⟩,⟨rfl,(by show LeB [] _ (At _ _ _ _ (EC B (B.av+1) (FE (B.av+1) B.ar).length).aw);rw[Y.2.2.1];exact .same _ _ rfl)⟩,λ_=>rfl,rfl⟩,rfl⟩
 refine dg (λe2=>?_) (λe2=>?_)
 ·have J:AS B ⟨kind,sv,nm,num,z⟩=({K8 B sv (B.av+1) with av:=B.av+1},0):=(dk e1).trans (dv e2)
  rw[J];refine⟨(⟨B,k1,k2,k3⟩,sv,B.av+1),rfl,⟨Y,aJ⟩,?_⟩;rintro _ _ ⟨n,cp,hn,rfl,rfl⟩;exact⟨.inl rfl,_,rfl,⟨{K8 B sv (B.av+1) with av:=B.av+1},208,1,2,_,_,_,_,_,_,_,_,_,rfl,⟨hn,rfl,rfl⟩,⟨rfl,.same _ _ rfl⟩,⟨rfl,.same _ _ rfl⟩,⟨rfl,.same _ _ rfl⟩,λ_=>rfl,rfl⟩,rfl⟩
 refine dg (λe3=>?_) (λe3=>?_)
 ·have J:AS B ⟨kind,sv,nm,num,z⟩=LL B nm num (B.av+1):=(dk e1).trans ((dk e2).trans (dv e3))
  refine⟨seaSt B ⟨kind,sv,nm,num,z⟩ k1 k2 k3 P,qe,?_⟩;refine⟨(⟨B,k1,k2,k3⟩,nm,num),rfl,Y,?_⟩;rintro _ _ ⟨rfl,k,rfl,hk⟩;have hk:Idx (cpQ nm num) B.ar k:=hk;rw[Pn]at hk;rcases Sv hk with⟨rfl,W⟩|⟨j,c,rfl,Z,W⟩
  ·have H:AS B ⟨kind,sv,nm,num,z⟩=(B,3):=by rw[J];unfold LL;rw[W]
   rw[H];refine dg (λ_=>?_) (λh=>absurd (show(-1:Int)<0 by decide) h);exact⟨.inl rfl,_,rfl,⟨B,0,1,2,_,_,_,_,_,_,_,_,_,rfl,⟨rfl,rfl,rfl⟩,⟨rfl,.same _ _ rfl⟩,⟨rfl,.same _ _ rfl⟩,⟨rfl,.same _ _ rfl⟩,λh=>(nomatch h),rfl⟩,rfl⟩
  ·have ae:=(AC Z).1
   refine dg (λh=>absurd h (by show ¬(j:Int)<0;omega)) (λ_=>?_);refine dg qo (dg (by show(j:Int)<(B.ar.length:Int);omega) (dg AG (dg (by show(j:Int).toNat<B.ar.length;omega) (λc' F=>?_))));have F:B.ar[(j:Int).toNat]?=some c':=F;rw[du,Z]at F;cases F;have aA:c.ay≠3->c.ay≠2->AS B ⟨kind,sv,nm,num,z⟩=(B,3):=λs3 s2=>by rw[J];unfold LL;rw[W];exact dk λh=>h.elim s3 s2
   refine dg (λs3=>?_) (λs3=>?_)
   ·refine dg qo (dg (by show(j:Int)<(B.ar.length:Int);omega) (dg AG (dg (by show(j:Int).toNat<B.ar.length;omega) (λc' F=>?_))))
    have F:B.ar[(j:Int).toNat]?=some c':=F;rw[du,Z]at F;cases F;refine dg (λs2=>?_) (λs2=>?_)
    ·rw[aA s3 s2]
     exact⟨.inl rfl,_,rfl,⟨B,0,1,2,_,_,_,_,_,_,_,_,_,rfl,⟨rfl,rfl,rfl⟩,⟨rfl,.same _ _ rfl⟩,⟨rfl,.same _ _ rfl⟩,⟨rfl,.same _ _ rfl⟩,λh=>(nomatch h),rfl⟩,rfl⟩
    ·have M:LeB [] (Kc (Kc (At 76 7 k2 cpL B.ar) (j:Int).toNat 4 [In i6 4]) (j:Int).toNat 2 [In i6 (B.av+1)]) (At 76 7 k2 cpL (B.ar.set j {c with ay:=4,ag:=B.av+1})):=by
      rw[du];have f1:=BZ (ρ:=[]) (o:=4) (vs:=[In i6 4]) (x':={c with ay:=4}) (.same _ _ rfl:LeB [] (At 76 7 k2 cpL B.ar) _) Z rfl;have f2:=BZ (o:=2) (vs:=[In i6 (B.av+1)]) (a:=j) (x:={c with ay:=4}) (x':={c with ay:=4,ag:=B.av+1}) f1 (by rw[fE,dv rfl,dv ae]) rfl;rw[gq]at f2;exact f2
     have H:AS B ⟨kind,sv,nm,num,z⟩=({B with av:=B.av+1,ar:=B.ar.set j {c with ay:=4,ag:=B.av+1}},0):=by rw[J];unfold LL;rw[W];exact dv (.inr (Classical.not_not.1 s2))
     rw[H];refine dg qo (dg (by show(j:Int)<(B.ar.length:Int);omega) (dg AG (dg (by show(j:Int).toNat<B.ar.length;omega) (dg (λ_ _ _=>trivial) ?_))));refine dg qo (dg (by show(j:Int)<(B.ar.length:Int);omega) (dg AG (dg (by show(j:Int).toNat<B.ar.length;omega) (dg (λ_ _ _=>trivial) ?_))));exact⟨.inl rfl,_,rfl,⟨{B with av:=B.av+1,ar:=B.ar.set j {c with ay:=4,ag:=B.av+1}},0,1,2,_,_,_,_,_,_,_,_,_,rfl,⟨rfl,(dC ..).symm,rfl⟩,⟨rfl,.same _ _ rfl⟩,⟨rfl,M⟩,⟨rfl,.same _ _ rfl⟩,λ_=>rfl,rfl⟩,rfl⟩
   ·have M:LeB [] (Kc (Kc (At 76 7 k2 cpL B.ar) (j:Int).toNat 4 [In i6 4]) (j:Int).toNat 2 [In i6 (B.av+1)]) (At 76 7 k2 cpL (B.ar.set j {c with ay:=4,ag:=B.av+1})):=by
     rw[du];have f1:=BZ (ρ:=[]) (o:=4) (vs:=[In i6 4]) (x':={c with ay:=4}) (.same _ _ rfl:LeB [] (At 76 7 k2 cpL B.ar) _) Z rfl;have f2:=BZ (o:=2) (vs:=[In i6 (B.av+1)]) (a:=j) (x:={c with ay:=4}) (x':={c with ay:=4,ag:=B.av+1}) f1 (by rw[fE,dv rfl,dv ae]) rfl;rw[gq]at f2;exact f2
    have H:AS B ⟨kind,sv,nm,num,z⟩=({B with av:=B.av+1,ar:=B.ar.set j {c with ay:=4,ag:=B.av+1}},0):=by rw[J];unfold LL;rw[W];exact dv (.inl (Classical.not_not.1 s3))
    rw[H];refine dg qo (dg (by show(j:Int)<(B.ar.length:Int);omega) (dg AG (dg (by show(j:Int).toNat<B.ar.length;omega) (dg (λ_ _ _=>trivial) ?_))));refine dg qo (dg (by show(j:Int)<(B.ar.length:Int);omega) (dg AG (dg (by show(j:Int).toNat<B.ar.length;omega) (dg (λ_ _ _=>trivial) ?_))));exact⟨.inl rfl,_,rfl,⟨{B with av:=B.av+1,ar:=B.ar.set j {c with ay:=4,ag:=B.av+1}},0,1,2,_,_,_,_,_,_,_,_,_,rfl,⟨rfl,(dC ..).symm,rfl⟩,⟨rfl,.same _ _ rfl⟩,⟨rfl,M⟩,⟨rfl,.same _ _ rfl⟩,λ_=>rfl,rfl⟩,rfl⟩
 refine dg (λe4=>?_) (λe4=>?_)
 ·have J:AS B ⟨kind,sv,nm,num,z⟩=sinkB B nm (B.av+1):=(dk e1).trans ((dk e2).trans ((dk e3).trans (dv e4)))
  refine⟨seaSt B ⟨kind,sv,nm,num,z⟩ k1 k2 k3 P,qe,?_⟩;refine⟨(⟨B,k1,k2,k3⟩,nm),rfl,Y,?_⟩;rintro _ _ ⟨rfl,k,rfl,hk⟩;have hk:Idx (λs:Bt=>nmB s.name nm) B.aw k:=hk;rcases Sv hk with⟨rfl,W⟩|⟨j,c,rfl,Z,W⟩
  ·have H:AS B ⟨kind,sv,nm,num,z⟩=(B,3):=by rw[J];unfold sinkB;rw[show Fo (λt:Bt=>t.name.toList==nm.toList) B.aw=none from W]
   rw[H];refine dg (λ_=>?_) (λh=>absurd (show(-1:Int)<0 by decide) h);exact⟨.inl rfl,_,rfl,⟨B,0,1,2,_,_,_,_,_,_,_,_,_,rfl,⟨rfl,rfl,rfl⟩,⟨rfl,.same _ _ rfl⟩,⟨rfl,.same _ _ rfl⟩,⟨rfl,.same _ _ rfl⟩,λh=>(nomatch h),rfl⟩,rfl⟩
  ·have ae:=(AC Z).1
   have H:AS B ⟨kind,sv,nm,num,z⟩=({B with av:=B.av+1,aw:=B.aw.take j++B.aw.drop (j+1),ar:=B.ar.filter λc=>!(c.aC.toList==nm.toList)},0):=by rw[J];unfold sinkB;rw[show Fo (λt:Bt=>t.name.toList==nm.toList) B.aw=some (j,c) from W]
   rw[H];obtain⟨_,aN,aO⟩:=Y;refine dg (λh=>absurd h (by show ¬(j:Int)<0;omega)) (λ_=>?_);refine⟨[2],λ_=>dg qo (dg (by show(j:Int)<=(k3:Int);omega) (dg (by show(j:Int).toNat<=B.aw.length;omega) ?_))⟩;intro y hy;have hy:y=((j+1:Nat):Int):=by have:=hy ⟨by show _<=(j:Int)+1;omega,by show(j:Int)+1<=_;omega⟩;omega
   subst hy;refine dg qo (dg (by show((j+1:Nat):Int)<=(B.aw.length:Int);omega) (dg AG (dg aq ?_)));refine dg AG (dg (by show 0+(j:Int).toNat<=1000000000;omega) (dg (λ_ _ _ _=>⟨rfl,rfl⟩) (λd1=>?_)));refine dg AG (dg (by show 0+(j:Int).toNat+(B.aw.length - ((j+1:Nat):Int).toNat)<=1000000000;omega) (dg (λ_ _ _ _=>⟨rfl,rfl⟩) (λd2=>?_)))
   have aB:∀ρ,LeB ρ (Ft (Ft (Et 90 2 []) (FK (BY 90 2 btL B.aw) 0 (j:Int).toNat) (j:Int).toNat d1) (FK (BY 90 2 btL B.aw) ((j+1:Nat):Int).toNat (B.aw.length - ((j+1:Nat):Int).toNat)) (B.aw.length - ((j+1:Nat):Int).toNat) d2) (At 90 2 d2 btL (B.aw.take j++B.aw.drop (j+1))):=fun ρ=>by
    rw[du,du];exact Uc qo
   have aK:0+(j:Int).toNat+(B.aw.length - ((j+1:Nat):Int).toNat)=(B.aw.take j++B.aw.drop (j+1)).length:=by rw[dE,dI,eh];omega
   refine⟨λn s=>∃(i k cp:Nat) (L:List Cp),i<=B.ar.length/\n=B.ar.length - i/\L=((B.ar.take i).filter λc=>!(c.aC.toList==nm.toList))/\k=L.length/\s=⟨[(10,In i6 i),(9,.iface 96 (Sl none k cp)),(6,In i6 (B.av+1)),(4,.complex .f64 80 0),(3,.complex .f64 72 0),(2,.complex .f64 64 0)],(96,At 76 7 cp cpL L)::(104,At 90 2 d2 btL (B.aw.take j++B.aw.drop (j+1)))::(80,AX Vq 28)::(72,AX (evL ⟨kind,sv,nm,num,z⟩) 36)::(64,AX [In i6 B.av,.iface 0 (Sl none B.ah.length k1),.iface 1 (Sl none B.ar.length k2),.iface 104 (.slice none (0+(j:Int).toNat+(B.aw.length - ((j+1:Nat):Int).toNat)) d2)] 28)::(0,At 34 13 k1 svL B.ah)::(1,At 76 7 k2 cpL B.ar)::(3,frB P)::[],200,0⟩,B.ar.length,⟨_,(by refine⟨[(104,256),(96,376)],?_,?_,rfl,rfl,AG⟩<;>repeat' (first|exact rfl|exact trivial|exact⟨Et 76 7 [],rfl,Hr (f:=cpL) []⟩|exact⟨_,rfl,aB _⟩|exact⟨_,rfl,.same _ _ rfl⟩|exact⟨_,rfl,EF rfl⟩|apply dg)),0,0,0,[],qo,qo,rfl,rfl,rfl⟩,?_⟩;rintro n _ ⟨i,k,cp,L,hi,rfl,hL,aa,rfl⟩
   have aM:k<=1000:=by
    rw[aa,hL];exact AH (dV _ _) (by rw[dI];omega)
   refine dg (λO=>?_) (λO=>?_)
   ·have O:(i:Int)<(B.ar.length:Int):=O
    refine dg qo (dg O (dg AG (dg (by show(i:Int).toNat<B.ar.length;omega) (λcc F=>?_))));have F:B.ar[(i:Int).toNat]?=some cc:=F;rw[du]at F;have aC:((B.ar.take (i+1)).filter λc=>!(c.aC.toList==nm.toList))=L++[cc].filter λc=>!(c.aC.toList==nm.toList):=by rw[ec,F,ez,hL];rfl
    have aD:∀y:Int,(inR ((i:Int)+1)->y=i+1)->y=((i+1:Nat):Int):=λy hy=>by have:=hy ⟨qo,qo⟩;omega
    refine dg (λhe=>?_) (λhe=>?_)
    ·refine dg qo (dg O (dg AG (dg (by show(i:Int).toNat<B.ar.length;omega) (λc2 af=>?_))))
     have af:B.ar[(i:Int).toNat]?=some c2:=af;rw[du,F]at af;cases af;refine dg aa (dg rfl (dg AG (dg (by show k+1<=1000000000;omega) (λc'=>?_))));intro y hy;obtain rfl:=aD y hy;refine⟨B.ar.length - (i+1),qo,_,?_,i+1,k+1,c',L++[cc],qo,rfl,by rw[aC];simp only[List.filter,show(!(cc.aC.toList==nm.toList))=true from he],by rw[aa];simp,rfl⟩;refine⟨[(96,368)],?_,?_,rfl,rfl,AG⟩<;>repeat' (first|exact rfl|exact trivial|exact⟨_,rfl,Ee (f:=cpL) L cc⟩|exact⟨_,rfl,.same _ _ rfl⟩|apply dg)
    ·intro y hy
     obtain rfl:=aD y hy;exact⟨B.ar.length - (i+1),qo,_,qe,i+1,k,cp,L,qo,rfl,by rw[aC];simp only[List.filter,show(!(cc.aC.toList==nm.toList))=false from he,fU],aa,rfl⟩
   ·have O:¬(i:Int)<(B.ar.length:Int):=O
    obtain rfl:i=B.ar.length:=qo
    rw[eC]at hL;subst hL;exact⟨.inl rfl,_,rfl,⟨{B with av:=B.av+1,aw:=B.aw.take j++B.aw.drop (j+1),ar:=B.ar.filter λc=>!(c.aC.toList==nm.toList)},0,96,104,_,_,_,_,_,_,_,_,_,rfl,⟨rfl,aa,aK⟩,⟨rfl,.same _ _ rfl⟩,⟨rfl,.same _ _ rfl⟩,⟨rfl,.same _ _ rfl⟩,λ_=>rfl,rfl⟩,rfl⟩
 refine dg (λe5=>?_) (λe5=>?_)
 ·have J:AS B ⟨kind,sv,nm,num,z⟩=({Gi B nm z with av:=B.av+1},0):=(dk e1).trans ((dk e2).trans ((dk e3).trans ((dk e4).trans (dv e5))))
  rw[J];refine dg (λhf=>?_) (λhf=>?_)
  ·obtain rfl:z=true:=hf
   refine⟨(⟨B,k1,k2,k3⟩,nm,true),rfl,⟨Y,aq⟩,?_⟩;rintro _ _ ⟨n,cp,hn,rfl,rfl⟩;exact⟨.inl rfl,_,rfl,⟨{Gi B nm true with av:=B.av+1},0,1,264,_,_,_,_,_,_,_,_,_,rfl,⟨rfl,rfl,hn⟩,⟨rfl,.same _ _ rfl⟩,⟨rfl,.same _ _ rfl⟩,⟨rfl,.same _ _ rfl⟩,λ_=>rfl,rfl⟩,rfl⟩
  ·obtain rfl:z=false:=hf
   refine⟨(⟨B,k1,k2,k3⟩,nm,false),rfl,⟨Y,aq⟩,?_⟩;rintro _ _ ⟨n,cp,hn,rfl,rfl⟩;exact⟨.inl rfl,_,rfl,⟨{Gi B nm false with av:=B.av+1},0,1,264,_,_,_,_,_,_,_,_,_,rfl,⟨rfl,rfl,hn⟩,⟨rfl,.same _ _ rfl⟩,⟨rfl,.same _ _ rfl⟩,⟨rfl,.same _ _ rfl⟩,λ_=>rfl,rfl⟩,rfl⟩
 refine dg (λe6=>?_) (λe6=>?_)
 ·have J:AS B ⟨kind,sv,nm,num,z⟩=Mw B nm num (B.av+1):=(dk e1).trans ((dk e2).trans ((dk e3).trans ((dk e4).trans ((dk e5).trans (dv e6)))))
  refine⟨seaSt B ⟨kind,sv,nm,num,z⟩ k1 k2 k3 P,qe,?_⟩;refine⟨(⟨B,k1,k2,k3⟩,nm),rfl,Y,?_⟩;rintro _ _ ⟨rfl,k,rfl,hk⟩;have hk:Idx (λs:Svc=>nmB s.name nm) B.ah k:=hk;rcases Sv hk with⟨rfl,W⟩|⟨j,c,rfl,Z,W⟩
  ·have H:AS B ⟨kind,sv,nm,num,z⟩=(B,3):=by rw[J];unfold Mw;rw[show Fo (λt:Svc=>t.name.toList==nm.toList) B.ah=none from W]
   rw[H];refine dg (λ_=>?_) (λh=>absurd (show(-1:Int)<0 by decide) h);exact⟨.inl rfl,_,rfl,⟨B,0,1,2,_,_,_,_,_,_,_,_,_,rfl,⟨rfl,rfl,rfl⟩,⟨rfl,.same _ _ rfl⟩,⟨rfl,.same _ _ rfl⟩,⟨rfl,.same _ _ rfl⟩,λh=>(nomatch h),rfl⟩,rfl⟩
  ·have ae:=(AC Z).1
   refine dg (λh=>absurd h (by show ¬(j:Int)<0;omega)) (λ_=>?_);refine dg qo (dg (by show(j:Int)<(B.ah.length:Int);omega) (dg AG (dg (by show(j:Int).toNat<B.ah.length;omega) (λc' F=>?_))));have F:B.ah[(j:Int).toNat]?=some c':=F;rw[du,Z]at F;cases F;refine dg (λs0=>?_) (λs0=>?_)
   ·have H:AS B ⟨kind,sv,nm,num,z⟩=(B,3):=by rw[J];unfold Mw;rw[show Fo (λt:Svc=>t.name.toList==nm.toList) B.ah=some (j,c) from W];exact dv s0
    rw[H];exact⟨.inl rfl,_,rfl,⟨B,0,1,2,_,_,_,_,_,_,_,_,_,rfl,⟨rfl,rfl,rfl⟩,⟨rfl,.same _ _ rfl⟩,⟨rfl,.same _ _ rfl⟩,⟨rfl,.same _ _ rfl⟩,λh=>(nomatch h),rfl⟩,rfl⟩
   ·have M:LeB [] (Kc (Kc (At 34 13 k1 svL B.ah) (j:Int).toNat 11 [In i6 num]) (j:Int).toNat 1 [In i6 (B.av+1)]) (At 34 13 k1 svL (B.ah.set j {c with load:=num,ag:=B.av+1})):=by
     rw[du];have f1:=BZ (ρ:=[]) (o:=11) (vs:=[In i6 num]) (x':={c with load:=num}) (.same _ _ rfl:LeB [] (At 34 13 k1 svL B.ah) _) Z rfl;have f2:=BZ (o:=1) (vs:=[In i6 (B.av+1)]) (a:=j) (x:={c with load:=num}) (x':={c with load:=num,ag:=B.av+1}) f1 (by rw[fE,dv rfl,dv ae]) rfl;rw[gq]at f2;exact f2
    have H:AS B ⟨kind,sv,nm,num,z⟩=({B with av:=B.av+1,ah:=B.ah.set j {c with load:=num,ag:=B.av+1}},0):=by rw[J];unfold Mw;rw[show Fo (λt:Svc=>t.name.toList==nm.toList) B.ah=some (j,c) from W];exact dk s0
    rw[H];refine dg qo (dg (by show(j:Int)<(B.ah.length:Int);omega) (dg AG (dg (by show(j:Int).toNat<B.ah.length;omega) (dg (λ_ _ _=>trivial) ?_))));refine dg qo (dg (by show(j:Int)<(B.ah.length:Int);omega) (dg AG (dg (by show(j:Int).toNat<B.ah.length;omega) (dg (λ_ _ _=>trivial) ?_))));exact⟨.inl rfl,_,rfl,⟨{B with av:=B.av+1,ah:=B.ah.set j {c with load:=num,ag:=B.av+1}},0,1,2,_,_,_,_,_,_,_,_,_,rfl,⟨(dC ..).symm,rfl,rfl⟩,⟨rfl,M⟩,⟨rfl,.same _ _ rfl⟩,⟨rfl,.same _ _ rfl⟩,λ_=>rfl,rfl⟩,rfl⟩
 ·have H:AS B ⟨kind,sv,nm,num,z⟩=(B,4):=(dk e1).trans ((dk e2).trans ((dk e3).trans ((dk e4).trans ((dk e5).trans (dk e6)))))
  rw[H];exact⟨.inl rfl,_,rfl,⟨B,0,1,2,_,_,_,_,_,_,_,_,_,rfl,⟨rfl,rfl,rfl⟩,⟨rfl,.same _ _ rfl⟩,⟨rfl,.same _ _ rfl⟩,⟨rfl,.same _ _ rfl⟩,λh=>(nomatch h),rfl⟩,rfl⟩
end
section
open Go.RowKit
theorem BR:(Tryz.prog.info? 28).map (·.size)=some 4:=qk
theorem SK(w:World)(A B C:Obj):∃z,((w.alloc A).alloc B).alloc C=z/\z.heap[w.heap.size]?=some A/\z.heap[w.heap.size+1]?=some B/\z.heap[w.heap.size+1+1]?=some C/\w.heap.size+1+1+1<=z.heap.size/\z.heap.size<=w.heap.size+1+1+1/\Below w.heap.size w z:=by
 obtain⟨F,H,J,M⟩:=OB w A B C;exact⟨_,rfl,F,H,J,qo,qo,(((dG _ _).alloc AG _).alloc qs _).alloc qp _⟩
section
variable {P:Program}
theorem Bm{fn:Func}{p q:Tmp}{ty:TypeId}(h:fn.results=#[.cell p ty,.tmp q])(tmps:Array Value)(w:World)(g:Nat)(t:TypeId)(cs:Array Value)(fr:Nat × Nat)(d:TypeDesc)
  (O:tmps.getD p undef=.pointer (qad g)) (J:w.heap[g]?=some (.cells cs t fr))
  (W:P.underlying ty=some d) (H:(match d with| .struct _| .array _ _=>true|_=>false)=true) (M:(P.info? ty).map (·.size)=some cs.size) (v:Value) (hv:tmps.getD q undef=v):
  (results fn tmps).run P w=.ok (.tuple #[.agg cs,v]) w:=by
 have z:tmps[p]?.getD undef=.pointer (qad g):=by simpa using O
 have F:tmps[q]?.getD undef=v:=by simpa using hv
 simp[results,h,z,F,asAddr,iZ w g t ty cs fr d J W H M]
end
end
section
open Go.RowKit
open Go.Value renaming int->In,slice->Sl,string->Sg,bool->Bo,pointer->Po
open Go.IntKind renaming i64->i6
structure KeepBut(g1 g2 g3:Nat)(w w':World):Prop where
 os:w'.os=w.os
 tape:w'.tape=w.tape
 output:w'.output=w.output
 size:w.heap.size<=w'.heap.size
 block:∀q,q<w.heap.size->q≠g1->q≠g2->q≠g3->w'.heap[q]?=w.heap[q]?
theorem KeepBut.below{g1 g2 g3 N:Nat}{w w':World}(h:KeepBut g1 g2 g3 w w')(z:N<=g1)(F:N<=g2)(H:N<=g3)(J:N<=w.heap.size):Below N w w':=⟨h.os,h.tape,h.output,h.size,λq M=>h.block q qo qo qo qo⟩
def SeaR(g1 g2 g3:Nat)(w:World)(B:Bk)(E:Ev)(e:Ending)(w':World):Prop:=∃(q:Int) (b1 b2 b3:Nat) (m1 d1 m2 d2 m3 d3:Nat),
 e=.returned (.tuple #[.agg #[In i6 q,.slice (qad b1) m1 d1,.slice (qad b2) m2 d2,.slice (qad b3) m3 d3],In i6 (AS B E).2])/\
 ((AS B E).2=0->q=(AS B E).1.av/\m1=(AS B E).1.ah.length/\m2=(AS B E).1.ar.length/\m3=(AS B E).1.aw.length/\RowIs w' 34 13 b1 m1 d1 (Af (AS B E).1.ah)/\RowIs w' 76 7 b2 m2 d2 (Ay (AS B E).1.ar)/\RowIs w' 90 2 b3 m3 d3 (Cd (AS B E).1.aw))/\KeepBut g1 g2 g3 w w'
theorem valid_tn{B:Bk}(h:Aj B=true):B.ah.length<=1000/\B.ar.length<=1000/\B.aw.length<=1000:=by
 unfold Aj at h;simp only[di,dS]at h;omega
theorem SX{RD:(Nat->Prop)->World->Nat->Nat->Prop}{w0 w:World}{G:Gh}{q i ty sz cp n:Nat}{b:VB}{X:Type}{f:X->List Value}{l:List X}(h:Hold RD w0 G w q i b)(hb:LeB [] b (At ty sz cp f l))(M:n=l.length):∃g,G.α i=some ⟨g,0,none⟩/\RowIs w ty sz g n cp (l.map f).flatten:=by
 obtain⟨g,els,J,_,_,_,r1,F,r3,O⟩:=h.k3 hb.kd;obtain⟨n1,n2⟩:=hb.n3 rfl;refine⟨g,J,?_⟩;have hk:RowK G.Z w g (At ty sz cp f l) els:=⟨r1.trans n1,λel z=>(by rw[<-hb.sz];exact F el z),(by rw[<-hb.ty,<-hb.sz,<-n1,<-n2];exact r3),λj el H=>⟨λk hk=>(O j el H).1 k (hb.Q j (by have:=(AC H).1;rw[r1,n1]at this;exact this) k hk),λ_ _=>trivial⟩⟩;rw[M,<-hk.known];exact hk.2.2.1
theorem PB{RD:(Nat->Prop)->World->Nat->Nat->Prop}{w0 w:World}{G:Gh}{q i ty sz cp g:Nat}{X:Type}{f:X->List Value}{l:List X}(hf:∀x,(f x).length=sz/\∀v∈f x,v.oneCell'=true/\∀β,r0 β v=v)(H:w0.heap.size=0)(hα:G.α i=some ⟨g,0,none⟩)(F:¬G.Z g)(z:¬G.RB g)(h:RowIs w ty sz g l.length cp (l.map f).flatten):Hold RD w0 G w q i (At ty sz cp f l):=
 ⟨λh=>(nomatch h),λh=>(nomatch h),λh=>(nomatch h),λ_=>⟨g,_,hα,qo,F,z,RowK.of hf h⟩,λh=>(nomatch h),.inr (.inr (.inr (.inl rfl)))⟩
theorem VR(B:Bk)(E:Ev)(N g1 g2 g3 k1 k2 k3:Nat)(w:World)(ht:B.ah.length<=1000/\B.ar.length<=1000/\B.aw.length<=1000)(ag:0<=B.av)(ah:B.av<1000000)(aI:0<N)(hN:N<=w.heap.size)(F:BkRow w N g1 g2 g3 k1 k2 k3 B):
  Calls Tryz.prog 208 #[.agg (qbV B (qad g1) k1 (qad g2) k2 (qad g3) k3),.agg (qeV E)] w (SeaR g1 g2 g3 w B E):=by
 have M:∀l:List Svc,Af l=(l.map svL).flatten:=λl=>fL
 have O:∀l:List Cp,Ay l=(l.map cpL).flatten:=λl=>fL
 have Y:∀l:List Bt,Cd l=(l.map btL).flatten:=λl=>fL
 have aA:=F.cZ;have aB:=F.cU;have aD:=F.cY;have l1:=F.n1;have l2:=F.n2;have l3:=F.n3;obtain⟨G,z⟩:∃G:Gh,G=⟨λi=>match i with|0=>some ⟨g1,0,none⟩|1=>some ⟨g2,0,none⟩|2=>some ⟨g3,0,none⟩|3=>some ⟨0,0,none⟩|_=>none,λk=>k<w.heap.size/\k≠g1/\k≠g2/\k≠g3,λ_=>False⟩:=⟨_,rfl⟩
 have hm:∀i b,lk (bkG B k1 k2 k3 λW=>∀k,k<w.heap.size/\k≠g1/\k≠g2/\k≠g3->W.heap[k]?=w.heap[k]?) i=some b->i<64/\Hold Jr {w with heap:=#[]} G w 0 i b/\Clo (bkG B k1 k2 k3 λW=>∀k,k<w.heap.size/\k≠g1/\k≠g2/\k≠g3->W.heap[k]?=w.heap[k]?) (b.cs.flatMap DJ):=λi b hb=>by
  have hi:=Aw _ _ _ hb;simp only[bkG,dJ,dW,fF,dR]at hi;rcases hi with⟨rfl,rfl⟩|⟨rfl,rfl⟩|⟨rfl,rfl⟩|⟨rfl,rfl⟩<;>refine⟨qd,?_,λ_ h=>(nomatch h)⟩
  ·exact PB O1 rfl (ip (ei Gh.α z) _) (by rw[z];exact λh=>h.2.1 rfl) (by rw[z];exact λh=>h) (M _▸F.ah)
  ·exact PB Pp rfl (ip (ei Gh.α z) _) (by rw[z];exact λh=>h.2.2.1 rfl) (by rw[z];exact λh=>h) (O _▸F.ar)
  ·exact PB Pv rfl (ip (ei Gh.α z) _) (by rw[z];exact λh=>h.2.2.2 rfl) (by rw[z];exact λh=>h) (Y _▸F.aw)
  ·refine⟨λh=>(nomatch h),λ_ j _=>⟨0,0,[],ip (ei Gh.α z) _,by rw[z];exact⟨qo,qo,qo,qo⟩,λk hk=>hk.elim,λx v hx=>(nomatch hx),λW hW k hk=>hW k (by rw[z];exact hk)⟩,λh=>(nomatch h),λh=>(nomatch h),λh=>(nomatch h),.inr (.inl rfl)⟩
 have Z:∀i b j c,lk (bkG B k1 k2 k3 λW=>∀k,k<w.heap.size/\k≠g1/\k≠g2/\k≠g3->W.heap[k]?=w.heap[k]?) i=some b->lk (bkG B k1 k2 k3 λW=>∀k,k<w.heap.size/\k≠g1/\k≠g2/\k≠g3->W.heap[k]?=w.heap[k]?) j=some c->EN b->EN c->i≠j->G.α i≠G.α j:=λi b j c hb hc ob oc aj=>by
  have hi:=Aw _ _ _ hb;have hj:=Aw _ _ _ hc;simp only[bkG,dJ,dW,fF,dR]at hi hj;rw[z];rcases hi with⟨rfl,rfl⟩|⟨rfl,rfl⟩|⟨rfl,rfl⟩|⟨rfl,rfl⟩<;>rcases hj with⟨rfl,rfl⟩|⟨rfl,rfl⟩|⟨rfl,rfl⟩|⟨rfl,rfl⟩<;>first|exact absurd rfl aj|(rcases ob with h|h<;>cases h;done)|(rcases oc with h|h<;>cases h;done)|(intro e;cases e;contradiction)
 have H:=Ox (R0:=⟨λ_=>False,λ_=>none,0⟩) (G:=G) (w:=w) (w0:={w with heap:=#[]}) (c0:=64) (q0:=0) (vs:=[(⟨B,k1,k2,k3⟩:BP).v,.agg (evL E).toArray]) (envS EH) Tryz.func208 (c:=Tryz.f208.body.getD .skip) qk (Cb (envS EH) qk _ (specS EH) qk) (show 2<=_ from AD rfl) (Post:=λv m _=>Ty (AS B E) (λW=>∀k,k<w.heap.size/\k≠g1/\k≠g2/\k≠g3->W.heap[k]?=w.heap[k]?) v m) (by rw[<-Hd];exact sea_vc ht ag ah F.ah.2.1 F.aw.2.1) hm Z (Cg rfl) AG (λk hk=>by rw[z]at hk ⊢;exact⟨hk.1,λh=>h⟩) (λk hk=>by rw[z]at hk;exact hk.elim) (λk hk=>by rw[z]at hk;exact hk.elim) ⟨rfl,rfl,rfl,AI _,λk hk=>absurd hk (gN _)⟩;have ha:(List.map (r2 G.α) [(⟨B,k1,k2,k3⟩:BP).v,.agg (evL E).toArray]).toArray=#[.agg (qbV B (qad g1) k1 (qad g2) k2 (qad g3) k3),.agg (evL E).toArray]:=by rw[z];simp[BP.v,evL,r2,r1,r0]
 rw[ha]at H;refine H.mono ?_;rintro e w' ⟨_,m,q,G',⟨X,i1,i2,i3,n1,n2,n3,d1,d2,d3,b1,b2,b3,rfl,⟨m1,m2,m3⟩,⟨q1,al⟩,⟨q2,am⟩,⟨q3,an⟩,hX,af⟩,rfl,hH,_,J,hz,_,_,ak⟩;obtain⟨y1,e1,s1⟩:=SX (hH _ _ q1) al m1;obtain⟨y2,e2,s2⟩:=SX (hH _ _ q2) am m2;obtain⟨y3,e3,s3⟩:=SX (hH _ _ q3) an m3;obtain⟨_,_,_,_,_,_,hE⟩:=(hH _ _ af).k1 rfl 0 Nat.one_pos;refine⟨X.av,y1,y2,y3,n1,d1,n2,d2,n3,d3,by simp[r2,r1,r0,e1,e2,e3],λh=>?_,⟨J.os,J.tape,J.output,ak,λk h1 h2 h3 h4=>hE.2 w' (λ_ _=>rfl) k ⟨h1,h2,h3,h4⟩⟩⟩;rw[<-hX h,M,O,Y];exact⟨rfl,m1,m2,m3,s1,s2,s3⟩
end
end Go.Proofs.YtbceafpodamnfaaGreatDoor
