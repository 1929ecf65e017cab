import Derived.Test.YtbceafpodamnfaaGreatDoorG16
set_option linter.all false
set_option maxHeartbeats 64000000
set_option maxRecDepth 100000
namespace Go.Proofs.YtbceafpodamnfaaGreatDoor
open Go.RowKit
theorem QC{X:Type}{p:X->Bool}{l:List X}{k:Int}(h:Idx p l k):(k= -1/\E8 p l=none)\/∃(j:Nat) (x:X),k=j/\l[j]?=some x/\E8 p l=some (j,x):=by
 rcases h with⟨rfl,W⟩|⟨j,x,rfl,F,Y,H⟩
 ·refine .inl ⟨rfl,?_⟩
  unfold E8;rw[List.findIdx?_eq_none_iff.2 λx hx=>W x hx]
 ·refine .inr ⟨j,x,rfl,F,?_⟩
  obtain⟨J,M⟩:=AC F;unfold E8
  rw[fV.2 ⟨J,by rw[M];exact Y,λi Z=>by
   have aa:i<l.length:=by omega
   rw[H l[i] (List.mem_iff_getElem?.2 ⟨i,by rw[eK,dB Z];simp⟩)];decide⟩]
  simp only[F,eo]
theorem Nl(nm:qB)(n:Int):cpQ nm n=isC nm n:=by
 funext c
 unfold cpQ isC nmB
 congr 1
def evL(E:Ev):List Value:=[.int .i64 E.kind,.string E.aa.name,.int .i64 E.aa.ag,.bool E.aa.aH,.int .i64 E.aa.ar,.int .i64 E.aa.av,.int .i64 E.aa.aG,.int .i64 E.aa.aE,.int .i64 E.aa.next,.int .i64 E.aa.aM,.int .i64 E.aa.aC,.int .i64 E.aa.aK,.int .i64 E.aa.load,.int .i64 E.aa.ay,.string E.name,.int .i64 E.ai,.bool E.bf]
def frB(P:World->Prop):VB:=⟨1,0,0,1,0,[],λ_ _=>False,λW _=>P W⟩
def bkG(B:Bk)(k1 k2 k3:Nat)(P:World->Prop):AY:=[(0,An 34 13 k1 svL B.af),(1,An 76 7 k2 cpL B.ah),(2,An 90 2 k3 btL B.ak),(3,frB P)]
abbrev ΓS:List (Nat × Nat × Ct):=[(279,0,ctTick),(280,0,RZ),(281,0,Rb),(122,0,QT),(124,0,Rc),(118,0,Gu)]
abbrev ΡS:Sp:=[(9,H9 TT ΓS (A8 9 (Tryz.f208.body.getD .skip))),(15,H9 TT ΓS (A8 15 (Tryz.f208.body.getD .skip))),(29,H9 TT ΓS (A8 29 (Tryz.f208.body.getD .skip))),(18,vC TT (A8 18 (Tryz.f208.body.getD .skip)) 13 26 0 79 [(5,84,83),(11,90,89)])]
def Q1(R:Bk × Int)(P:World->Prop)(v:Value)(m:AY):Prop:=∃(X:Bk) (i1 i2 i3 n1 n2 n3 k1 k2 k3:Nat) (b1 b2 b3:VB),v=.tuple #[.agg #[.int .i64 X.aj,.iface i1 (.slice none n1 k1),.iface i2 (.slice none n2 k2),.iface i3 (.slice none n3 k3)],.int .i64 R.2]/\(n1=X.af.length/\n2=X.ah.length/\n3=X.ak.length)/\(lk m i1=some b1/\LeB [] b1 (An 34 13 k1 svL X.af))/\(lk m i2=some b2/\LeB [] b2 (An 76 7 k2 cpL X.ah))/\(lk m i3=some b3/\LeB [] b3 (An 90 2 k3 btL X.ak))/\(R.2=0->X=R.1)/\lk m 3=some (frB P)
def endS(R:Bk × Int)(P:World->Prop):Exit->St->Prop:=λe s=>(e=.ret\/e=.normal)/\∃v,Lz TT Tryz.f208.results.toList s.t s.m=some v/\Q1 R P v s.m/\clo s.m (BS v)=true
section
variable {RD:(Nat->Prop)->World->Nat->Nat->Prop}
theorem envS(F:B9 RD):Env Tryz.prog RD TT ΓS:=
 AZ (AZ (AZ (AZ (AZ (AZ (Aw F) (by kernel_rfl) (DN F)) (by kernel_rfl) (PP F)) (by kernel_rfl) (KT F)) (by kernel_rfl) (raise_ct F)) (by kernel_rfl) (wishB_ct F)) (by kernel_rfl) (tick_ct F)
theorem specS(F:B9 RD):SpAll Tryz.prog RD ΡS Tryz.f208.ntmps (Tryz.f208.body.getD .skip):=by
 intro i C hC p J;have H:=Aj _ _ _ hC;simp only[dy,dH,eP,dw]at H;rcases H with⟨rfl,rfl⟩|⟨rfl,rfl⟩|⟨rfl,rfl⟩|⟨rfl,rfl⟩<;>cases cZ.1 (show p∈[(_,_)] from J)
 ·exact Cy (envS F) (by kernel_rfl) (by kernel_rfl)
 ·exact Cy (envS F) (by kernel_rfl) (by kernel_rfl)
 ·exact Cy (envS F) (by kernel_rfl) (by kernel_rfl)
 ·exact Ie (Aw F) (by kernel_rfl) (by kernel_rfl) (by kernel_rfl) (by kernel_rfl) ⟨_,rfl,rfl,rfl⟩ ⟨⟨_,rfl,rfl,rfl⟩,⟨_,rfl,rfl,rfl⟩,trivial⟩
end
def seaSt(B:Bk)(E:Ev)(k1 k2 k3:Nat)(P:World->Prop):St:=⟨[(6,.int .i64 (B.aj+1)),(4,.complex .f64 80 0),(3,.complex .f64 72 0),(2,.complex .f64 64 0)],(80,AT ST 28)::(72,AT (evL E) 36)::(64,AT (D5 B k1 k2 k3) 28)::bkG B k1 k2 k3 P,88,0⟩
theorem sea_vc{B:Bk}{E:Ev}{k1 k2 k3:Nat}{P:World->Prop}(ht:B.af.length<=1000/\B.ah.length<=1000/\B.ak.length<=1000)(h0:0<=B.aj)(h9:B.aj<1000000)(aT:B.af.length<=k1)(aw:B.ak.length<=k3):vwr TT ΓS ΡS (Tryz.f208.body.getD .skip) (endS (AS B E) P) ⟨EM 0 [(⟨B,k1,k2,k3⟩:BP).v,.agg (evL E).toArray],bkG B k1 k2 k3 P,64,0⟩:=by
 obtain⟨kind,sv,nm,F,H⟩:=E;intro v hv;have hv:v=B.aj+1:=hv ⟨by show _<=B.aj+1;omega,by show B.aj+1<=_;omega⟩;subst hv;refine cW (λe1=>?_) (λe1=>?_)
 ·have Y:AS B ⟨kind,sv,nm,F,H⟩=({D0 B (B.aj+1) with aj:=B.aj+1},0):=dB e1
  rw[Y];refine⟨(⟨B,k1,k2,k3⟩,B.aj+1),rfl,ht,?_⟩;rintro _ _ ⟨n,cp,hn,rfl,rfl⟩;have ht:=DS B (B.aj+1) (EK (B.aj+1) B.ah).length;exact⟨.inl rfl,_,rfl,⟨{D0 B (B.aj+1) with aj:=B.aj+1},0,176,2,_,_,_,_,_,_,_,_,_,rfl,⟨em List.length ht.2.1.symm,hn,em List.length ht.2.2.1.symm⟩,⟨rfl,(by show LeB [] _ (An _ _ _ _ (DX B (B.aj+1) (EK (B.aj+1) B.ah).length).af);rw[ht.2.1];exact .same _ _ rfl)⟩,⟨rfl,.same _ _ rfl⟩,⟨rfl,(by show LeB [] _ (An _ _ _ _ (DX B (B.aj+1) (EK (B.aj+1) B.ah).length).ak);rw[ht.2.2.1];exact .same _ _ rfl)⟩,λ_=>rfl,rfl⟩,rfl⟩
 refine cW (λe2=>?_) (λe2=>?_)
 ·have Y:AS B ⟨kind,sv,nm,F,H⟩=({Jb B sv (B.aj+1) with aj:=B.aj+1},0):=(dC e1).trans (dB e2)
  rw[Y];refine⟨(⟨B,k1,k2,k3⟩,sv,B.aj+1),rfl,⟨ht,aT⟩,?_⟩;rintro _ _ ⟨n,cp,hn,rfl,rfl⟩;exact⟨.inl rfl,_,rfl,⟨{Jb B sv (B.aj+1) with aj:=B.aj+1},208,1,2,_,_,_,_,_,_,_,_,_,rfl,⟨hn,rfl,rfl⟩,⟨rfl,.same _ _ rfl⟩,⟨rfl,.same _ _ rfl⟩,⟨rfl,.same _ _ rfl⟩,λ_=>rfl,rfl⟩,rfl⟩
 refine cW (λe3=>?_) (λe3=>?_)
 ·have Y:AS B ⟨kind,sv,nm,F,H⟩=Jm B nm F (B.aj+1):=(dC e1).trans ((dC e2).trans (dB e3))
  refine⟨seaSt B ⟨kind,sv,nm,F,H⟩ k1 k2 k3 P,(by refine⟨[],?_,?_,rfl,rfl,AG _⟩<;>repeat' (first|exact rfl|exact trivial|exact⟨_,rfl,.same _ _ rfl⟩|apply cW)),?_⟩;refine⟨(⟨B,k1,k2,k3⟩,nm,F),rfl,ht,?_⟩;rintro _ _ ⟨rfl,k,rfl,hk⟩;have hk:Idx (cpQ nm F) B.ah k:=hk;rw[Nl]at hk;rcases QC hk with⟨rfl,ha⟩|⟨j,c,rfl,hj,ha⟩
  ·have M:AS B ⟨kind,sv,nm,F,H⟩=(B,3):=by rw[Y];unfold Jm;rw[ha]
   rw[M];refine cW (λ_=>?_) (λh=>absurd (show(-1:Int)<0 by decide) h);exact⟨.inl rfl,_,rfl,⟨B,0,1,2,_,_,_,_,_,_,_,_,_,rfl,⟨rfl,rfl,rfl⟩,⟨rfl,.same _ _ rfl⟩,⟨rfl,.same _ _ rfl⟩,⟨rfl,.same _ _ rfl⟩,λh=>(nomatch h),rfl⟩,rfl⟩
  ·have al:=(AC hj).1
   refine cW (λh=>absurd h (by show ¬(j:Int)<0;omega)) (λ_=>?_);refine cW (by omega) (cW (by show(j:Int)<(B.ah.length:Int);omega) (cW (AG _) (cW (by show(j:Int).toNat<B.ah.length;omega) (λc' J=>?_))));have J:B.ah[(j:Int).toNat]?=some c':=J;rw[di,hj]at J;cases J;have aC:c.ax≠3->c.ax≠2->AS B ⟨kind,sv,nm,F,H⟩=(B,3):=λs3 s2=>by rw[Y];unfold Jm;rw[ha];exact dC λh=>h.elim s3 s2
   refine cW (λs3=>?_) (λs3=>?_)
   ·refine cW (by omega) (cW (by show(j:Int)<(B.ah.length:Int);omega) (cW (AG _) (cW (by show(j:Int).toNat<B.ah.length;omega) (λc' J=>?_))))
    have J:B.ah[(j:Int).toNat]?=some c':=J;rw[di,hj]at J;cases J;refine cW (λs2=>?_) (λs2=>?_)
    ·rw[aC s3 s2]
     exact⟨.inl rfl,_,rfl,⟨B,0,1,2,_,_,_,_,_,_,_,_,_,rfl,⟨rfl,rfl,rfl⟩,⟨rfl,.same _ _ rfl⟩,⟨rfl,.same _ _ rfl⟩,⟨rfl,.same _ _ rfl⟩,λh=>(nomatch h),rfl⟩,rfl⟩
    ·have W:LeB [] (Ix (Ix (An 76 7 k2 cpL B.ah) (j:Int).toNat 4 [.int .i64 4]) (j:Int).toNat 2 [.int .i64 (B.aj+1)]) (An 76 7 k2 cpL (B.ah.set j {c with ax:=4,ag:=B.aj+1})):=by
      rw[di];have f1:=BK (ρ:=[]) (o:=4) (vs:=[.int .i64 4]) (x':={c with ax:=4}) (.same _ _ rfl:LeB [] (An 76 7 k2 cpL B.ah) _) hj rfl;have f2:=BK (o:=2) (vs:=[.int .i64 (B.aj+1)]) (a:=j) (x:={c with ax:=4}) (x':={c with ax:=4,ag:=B.aj+1}) f1 (by rw[fc,dB rfl,dB al]) rfl;rw[fX]at f2;exact f2
     have M:AS B ⟨kind,sv,nm,F,H⟩=({B with aj:=B.aj+1,ah:=B.ah.set j {c with ax:=4,ag:=B.aj+1}},0):=by rw[Y];unfold Jm;rw[ha];exact dB (.inr (Classical.not_not.1 s2))
     rw[M];refine cW (by omega) (cW (by show(j:Int)<(B.ah.length:Int);omega) (cW (AG _) (cW (by show(j:Int).toNat<B.ah.length;omega) (cW (λ_ _ _=>trivial) ?_))));refine cW (by omega) (cW (by show(j:Int)<(B.ah.length:Int);omega) (cW (AG _) (cW (by show(j:Int).toNat<B.ah.length;omega) (cW (λ_ _ _=>trivial) ?_))));exact⟨.inl rfl,_,rfl,⟨{B with aj:=B.aj+1,ah:=B.ah.set j {c with ax:=4,ag:=B.aj+1}},0,1,2,_,_,_,_,_,_,_,_,_,rfl,⟨rfl,(du ..).symm,rfl⟩,⟨rfl,.same _ _ rfl⟩,⟨rfl,W⟩,⟨rfl,.same _ _ rfl⟩,λ_=>rfl,rfl⟩,rfl⟩
   ·have W:LeB [] (Ix (Ix (An 76 7 k2 cpL B.ah) (j:Int).toNat 4 [.int .i64 4]) (j:Int).toNat 2 [.int .i64 (B.aj+1)]) (An 76 7 k2 cpL (B.ah.set j {c with ax:=4,ag:=B.aj+1})):=by
     rw[di];have f1:=BK (ρ:=[]) (o:=4) (vs:=[.int .i64 4]) (x':={c with ax:=4}) (.same _ _ rfl:LeB [] (An 76 7 k2 cpL B.ah) _) hj rfl;have f2:=BK (o:=2) (vs:=[.int .i64 (B.aj+1)]) (a:=j) (x:={c with ax:=4}) (x':={c with ax:=4,ag:=B.aj+1}) f1 (by rw[fc,dB rfl,dB al]) rfl;rw[fX]at f2;exact f2
    have M:AS B ⟨kind,sv,nm,F,H⟩=({B with aj:=B.aj+1,ah:=B.ah.set j {c with ax:=4,ag:=B.aj+1}},0):=by rw[Y];unfold Jm;rw[ha];exact dB (.inl (Classical.not_not.1 s3))
    rw[M];refine cW (by omega) (cW (by show(j:Int)<(B.ah.length:Int);omega) (cW (AG _) (cW (by show(j:Int).toNat<B.ah.length;omega) (cW (λ_ _ _=>trivial) ?_))));refine cW (by omega) (cW (by show(j:Int)<(B.ah.length:Int);omega) (cW (AG _) (cW (by show(j:Int).toNat<B.ah.length;omega) (cW (λ_ _ _=>trivial) ?_))));exact⟨.inl rfl,_,rfl,⟨{B with aj:=B.aj+1,ah:=B.ah.set j {c with ax:=4,ag:=B.aj+1}},0,1,2,_,_,_,_,_,_,_,_,_,rfl,⟨rfl,(du ..).symm,rfl⟩,⟨rfl,.same _ _ rfl⟩,⟨rfl,W⟩,⟨rfl,.same _ _ rfl⟩,λ_=>rfl,rfl⟩,rfl⟩
 refine cW (λe4=>?_) (λe4=>?_)
 ·have Y:AS B ⟨kind,sv,nm,F,H⟩=sinkB B nm (B.aj+1):=(dC e1).trans ((dC e2).trans ((dC e3).trans (dB e4)))
  refine⟨seaSt B ⟨kind,sv,nm,F,H⟩ k1 k2 k3 P,(by refine⟨[],?_,?_,rfl,rfl,AG _⟩<;>repeat' (first|exact rfl|exact trivial|exact⟨_,rfl,.same _ _ rfl⟩|apply cW)),?_⟩;refine⟨(⟨B,k1,k2,k3⟩,nm),rfl,ht,?_⟩;rintro _ _ ⟨rfl,k,rfl,hk⟩;have hk:Idx (λs:Bt=>nmB s.name nm) B.ak k:=hk;rcases QC hk with⟨rfl,ha⟩|⟨j,c,rfl,hj,ha⟩
  ·have M:AS B ⟨kind,sv,nm,F,H⟩=(B,3):=by rw[Y];unfold sinkB;rw[show E8 (λt:Bt=>t.name.toList==nm.toList) B.ak=none from ha]
   rw[M];refine cW (λ_=>?_) (λh=>absurd (show(-1:Int)<0 by decide) h);exact⟨.inl rfl,_,rfl,⟨B,0,1,2,_,_,_,_,_,_,_,_,_,rfl,⟨rfl,rfl,rfl⟩,⟨rfl,.same _ _ rfl⟩,⟨rfl,.same _ _ rfl⟩,⟨rfl,.same _ _ rfl⟩,λh=>(nomatch h),rfl⟩,rfl⟩
  ·have al:=(AC hj).1
   have M:AS B ⟨kind,sv,nm,F,H⟩=({B with aj:=B.aj+1,ak:=B.ak.take j++B.ak.drop (j+1),ah:=B.ah.filter λc=>!(c.aA.toList==nm.toList)},0):=by rw[Y];unfold sinkB;rw[show E8 (λt:Bt=>t.name.toList==nm.toList) B.ak=some (j,c) from ha]
   rw[M];obtain⟨_,a4,aW⟩:=ht;refine cW (λh=>absurd h (by show ¬(j:Int)<0;omega)) (λ_=>?_);refine⟨[2],λ_=>cW (by omega) (cW (by show(j:Int)<=(k3:Int);omega) (cW (by show(j:Int).toNat<=B.ak.length;omega) ?_))⟩;intro y hy;have hy:y=((j+1:Nat):Int):=by have:=hy ⟨by show _<=(j:Int)+1;omega,by show(j:Int)+1<=_;omega⟩;omega
   subst hy;refine cW (by omega) (cW (by show((j+1:Nat):Int)<=(B.ak.length:Int);omega) (cW (AG _) (cW aw ?_)));refine cW (AG _) (cW (by show 0+(j:Int).toNat<=1000000000;omega) (cW (λ_ _ _ _=>⟨rfl,rfl⟩) (λd1=>?_)));refine cW (AG _) (cW (by show 0+(j:Int).toNat+(B.ak.length - ((j+1:Nat):Int).toNat)<=1000000000;omega) (cW (λ_ _ _ _=>⟨rfl,rfl⟩) (λd2=>?_)))
   have aI:∀ρ,LeB ρ (E9 (E9 (Dd 90 2 []) (EP (A9 90 2 btL B.ak) 0 (j:Int).toNat) (j:Int).toNat d1) (EP (A9 90 2 btL B.ak) ((j+1:Nat):Int).toNat (B.ak.length - ((j+1:Nat):Int).toNat)) (B.ak.length - ((j+1:Nat):Int).toNat) d2) (An 90 2 d2 btL (B.ak.take j++B.ak.drop (j+1))):=fun ρ=>by
    rw[di,di];exact RY (by omega)
   have aS:0+(j:Int).toNat+(B.ak.length - ((j+1:Nat):Int).toNat)=(B.ak.take j++B.ak.drop (j+1)).length:=by rw[dE,dG,dW];omega
   refine⟨λn s=>∃(i k cp:Nat) (L:List Cp),i<=B.ah.length/\n=B.ah.length - i/\L=((B.ah.take i).filter λc=>!(c.aA.toList==nm.toList))/\k=L.length/\s=⟨[(10,.int .i64 i),(9,.iface 96 (.slice none k cp)),(6,.int .i64 (B.aj+1)),(4,.complex .f64 80 0),(3,.complex .f64 72 0),(2,.complex .f64 64 0)],(96,An 76 7 cp cpL L)::(104,An 90 2 d2 btL (B.ak.take j++B.ak.drop (j+1)))::(80,AT ST 28)::(72,AT (evL ⟨kind,sv,nm,F,H⟩) 36)::(64,AT [.int .i64 B.aj,.iface 0 (.slice none B.af.length k1),.iface 1 (.slice none B.ah.length k2),.iface 104 (.slice none (0+(j:Int).toNat+(B.ak.length - ((j+1:Nat):Int).toNat)) d2)] 28)::(0,An 34 13 k1 svL B.af)::(1,An 76 7 k2 cpL B.ah)::(3,frB P)::[],200,0⟩,B.ah.length,⟨_,(by refine⟨[(104,256),(96,376)],?_,?_,rfl,rfl,AG _⟩<;>repeat' (first|exact rfl|exact trivial|exact⟨Dd 76 7 [],rfl,GM (f:=cpL) []⟩|exact⟨_,rfl,aI _⟩|exact⟨_,rfl,.same _ _ rfl⟩|exact⟨_,rfl,C2 rfl⟩|apply cW)),0,0,0,[],by omega,by omega,rfl,rfl,rfl⟩,?_⟩;rintro n _ ⟨i,k,cp,L,hi,rfl,hL,an,rfl⟩
   have a5:k<=1000:=by
    rw[an,hL];exact AH (gD _ _) (by rw[dG];omega)
   refine cW (λZ=>?_) (λZ=>?_)
   ·have Z:(i:Int)<(B.ah.length:Int):=Z
    refine cW (by omega) (cW Z (cW (AG _) (cW (by show(i:Int).toNat<B.ah.length;omega) (λcc J=>?_))));have J:B.ah[(i:Int).toNat]?=some cc:=J;rw[di]at J;have aH:((B.ah.take (i+1)).filter λc=>!(c.aA.toList==nm.toList))=L++[cc].filter λc=>!(c.aA.toList==nm.toList):=by rw[eW,J,gU,hL];rfl
    have aF:∀y:Int,(inR ((i:Int)+1)->y=i+1)->y=((i+1:Nat):Int):=λy hy=>by have:=hy ⟨by omega,by omega⟩;omega
    refine cW (λhe=>?_) (λhe=>?_)
    ·refine cW (by omega) (cW Z (cW (AG _) (cW (by show(i:Int).toNat<B.ah.length;omega) (λc2 ar=>?_))))
     have ar:B.ah[(i:Int).toNat]?=some c2:=ar;rw[di,J]at ar;cases ar;refine cW an (cW rfl (cW (AG _) (cW (by show k+1<=1000000000;omega) (λc'=>?_))));intro y hy;obtain rfl:=aF y hy;refine⟨B.ah.length - (i+1),by omega,_,?_,i+1,k+1,c',L++[cc],by omega,rfl,by rw[aH];simp only[List.filter,show(!(cc.aA.toList==nm.toList))=true from he],by rw[an];simp,rfl⟩;refine⟨[(96,368)],?_,?_,rfl,rfl,AG _⟩<;>repeat' (first|exact rfl|exact trivial|exact⟨_,rfl,DE (f:=cpL) L cc⟩|exact⟨_,rfl,.same _ _ rfl⟩|apply cW)
    ·intro y hy
     obtain rfl:=aF y hy;exact⟨B.ah.length - (i+1),by omega,_,(by refine⟨[],?_,?_,rfl,rfl,AG _⟩<;>repeat' (first|exact rfl|exact trivial|exact⟨_,rfl,.same _ _ rfl⟩|apply cW)),i+1,k,cp,L,by omega,rfl,by rw[aH];simp only[List.filter,show(!(cc.aA.toList==nm.toList))=false from he,gu],an,rfl⟩
   ·have Z:¬(i:Int)<(B.ah.length:Int):=Z
    obtain rfl:i=B.ah.length:=by omega
    rw[gR]at hL;subst hL;exact⟨.inl rfl,_,rfl,⟨{B with aj:=B.aj+1,ak:=B.ak.take j++B.ak.drop (j+1),ah:=B.ah.filter λc=>!(c.aA.toList==nm.toList)},0,96,104,_,_,_,_,_,_,_,_,_,rfl,⟨rfl,an,aS⟩,⟨rfl,.same _ _ rfl⟩,⟨rfl,.same _ _ rfl⟩,⟨rfl,.same _ _ rfl⟩,λ_=>rfl,rfl⟩,rfl⟩
 refine cW (λe5=>?_) (λe5=>?_)
 ·have Y:AS B ⟨kind,sv,nm,F,H⟩=({Fm B nm H with aj:=B.aj+1},0):=(dC e1).trans ((dC e2).trans ((dC e3).trans ((dC e4).trans (dB e5))))
  rw[Y];refine cW (λhf=>?_) (λhf=>?_)
  ·obtain rfl:H=true:=hf
   refine⟨(⟨B,k1,k2,k3⟩,nm,true),rfl,⟨ht,aw⟩,?_⟩;rintro _ _ ⟨n,cp,hn,rfl,rfl⟩;exact⟨.inl rfl,_,rfl,⟨{Fm B nm true with aj:=B.aj+1},0,1,264,_,_,_,_,_,_,_,_,_,rfl,⟨rfl,rfl,hn⟩,⟨rfl,.same _ _ rfl⟩,⟨rfl,.same _ _ rfl⟩,⟨rfl,.same _ _ rfl⟩,λ_=>rfl,rfl⟩,rfl⟩
  ·obtain rfl:H=false:=hf
   refine⟨(⟨B,k1,k2,k3⟩,nm,false),rfl,⟨ht,aw⟩,?_⟩;rintro _ _ ⟨n,cp,hn,rfl,rfl⟩;exact⟨.inl rfl,_,rfl,⟨{Fm B nm false with aj:=B.aj+1},0,1,264,_,_,_,_,_,_,_,_,_,rfl,⟨rfl,rfl,hn⟩,⟨rfl,.same _ _ rfl⟩,⟨rfl,.same _ _ rfl⟩,⟨rfl,.same _ _ rfl⟩,λ_=>rfl,rfl⟩,rfl⟩
 refine cW (λe6=>?_) (λe6=>?_)
 ·have Y:AS B ⟨kind,sv,nm,F,H⟩=LJ B nm F (B.aj+1):=(dC e1).trans ((dC e2).trans ((dC e3).trans ((dC e4).trans ((dC e5).trans (dB e6)))))
  refine⟨seaSt B ⟨kind,sv,nm,F,H⟩ k1 k2 k3 P,(by refine⟨[],?_,?_,rfl,rfl,AG _⟩<;>repeat' (first|exact rfl|exact trivial|exact⟨_,rfl,.same _ _ rfl⟩|apply cW)),?_⟩;refine⟨(⟨B,k1,k2,k3⟩,nm),rfl,ht,?_⟩;rintro _ _ ⟨rfl,k,rfl,hk⟩;have hk:Idx (λs:Svc=>nmB s.name nm) B.af k:=hk;rcases QC hk with⟨rfl,ha⟩|⟨j,c,rfl,hj,ha⟩
  ·have M:AS B ⟨kind,sv,nm,F,H⟩=(B,3):=by rw[Y];unfold LJ;rw[show E8 (λt:Svc=>t.name.toList==nm.toList) B.af=none from ha]
   rw[M];refine cW (λ_=>?_) (λh=>absurd (show(-1:Int)<0 by decide) h);exact⟨.inl rfl,_,rfl,⟨B,0,1,2,_,_,_,_,_,_,_,_,_,rfl,⟨rfl,rfl,rfl⟩,⟨rfl,.same _ _ rfl⟩,⟨rfl,.same _ _ rfl⟩,⟨rfl,.same _ _ rfl⟩,λh=>(nomatch h),rfl⟩,rfl⟩
  ·have al:=(AC hj).1
   refine cW (λh=>absurd h (by show ¬(j:Int)<0;omega)) (λ_=>?_);refine cW (by omega) (cW (by show(j:Int)<(B.af.length:Int);omega) (cW (AG _) (cW (by show(j:Int).toNat<B.af.length;omega) (λc' J=>?_))));have J:B.af[(j:Int).toNat]?=some c':=J;rw[di,hj]at J;cases J;refine cW (λs0=>?_) (λs0=>?_)
   ·have M:AS B ⟨kind,sv,nm,F,H⟩=(B,3):=by rw[Y];unfold LJ;rw[show E8 (λt:Svc=>t.name.toList==nm.toList) B.af=some (j,c) from ha];exact dB s0
    rw[M];exact⟨.inl rfl,_,rfl,⟨B,0,1,2,_,_,_,_,_,_,_,_,_,rfl,⟨rfl,rfl,rfl⟩,⟨rfl,.same _ _ rfl⟩,⟨rfl,.same _ _ rfl⟩,⟨rfl,.same _ _ rfl⟩,λh=>(nomatch h),rfl⟩,rfl⟩
   ·have W:LeB [] (Ix (Ix (An 34 13 k1 svL B.af) (j:Int).toNat 11 [.int .i64 F]) (j:Int).toNat 1 [.int .i64 (B.aj+1)]) (An 34 13 k1 svL (B.af.set j {c with load:=F,ag:=B.aj+1})):=by
     rw[di];have f1:=BK (ρ:=[]) (o:=11) (vs:=[.int .i64 F]) (x':={c with load:=F}) (.same _ _ rfl:LeB [] (An 34 13 k1 svL B.af) _) hj rfl;have f2:=BK (o:=1) (vs:=[.int .i64 (B.aj+1)]) (a:=j) (x:={c with load:=F}) (x':={c with load:=F,ag:=B.aj+1}) f1 (by rw[fc,dB rfl,dB al]) rfl;rw[fX]at f2;exact f2
    have M:AS B ⟨kind,sv,nm,F,H⟩=({B with aj:=B.aj+1,af:=B.af.set j {c with load:=F,ag:=B.aj+1}},0):=by rw[Y];unfold LJ;rw[show E8 (λt:Svc=>t.name.toList==nm.toList) B.af=some (j,c) from ha];exact dC s0
    rw[M];refine cW (by omega) (cW (by show(j:Int)<(B.af.length:Int);omega) (cW (AG _) (cW (by show(j:Int).toNat<B.af.length;omega) (cW (λ_ _ _=>trivial) ?_))));refine cW (by omega) (cW (by show(j:Int)<(B.af.length:Int);omega) (cW (AG _) (cW (by show(j:Int).toNat<B.af.length;omega) (cW (λ_ _ _=>trivial) ?_))));exact⟨.inl rfl,_,rfl,⟨{B with aj:=B.aj+1,af:=B.af.set j {c with load:=F,ag:=B.aj+1}},0,1,2,_,_,_,_,_,_,_,_,_,rfl,⟨(du ..).symm,rfl,rfl⟩,⟨rfl,W⟩,⟨rfl,.same _ _ rfl⟩,⟨rfl,.same _ _ rfl⟩,λ_=>rfl,rfl⟩,rfl⟩
 ·have M:AS B ⟨kind,sv,nm,F,H⟩=(B,4):=(dC e1).trans ((dC e2).trans ((dC e3).trans ((dC e4).trans ((dC e5).trans (dC e6)))))
  rw[M];exact⟨.inl rfl,_,rfl,⟨B,0,1,2,_,_,_,_,_,_,_,_,_,rfl,⟨rfl,rfl,rfl⟩,⟨rfl,.same _ _ rfl⟩,⟨rfl,.same _ _ rfl⟩,⟨rfl,.same _ _ rfl⟩,λh=>(nomatch h),rfl⟩,rfl⟩
end Go.Proofs.YtbceafpodamnfaaGreatDoor
