import Derived.Test.YtbceafpodamnfaaGreatDoorG38
import Derived.Test.YtbceafpodamnfaaGreatDoorG43
set_option linter.all false
namespace Go.Proofs.YtbceafpodamnfaaGreatDoor
section
open Go.RowKit
theorem NU{f:Nat->Bool}{n:Nat}(h:BT f n=true)(i:Nat)(z:i<n):f i=true:=by
 unfold BT at h;exact dt.1 h i (dH.2 z)
theorem adj{α:Type}{r:α->α->Bool}{l:List α}(h:l.Pairwise λa b=>r a b=true){k:Nat}{s:α}(M:l[k]?=some s):k=0\/∀p,l[k - 1]?=some p->r p s=true:=by
 cases k with
 |zero=>exact .inl rfl
 |succ k=>
  obtain⟨hk,H⟩:=AC M;have z:=gB.1 h k (k+1) qo hk qo;rw[H]at z;have J:l[k+1 - 1]?=some (l[k]' qo):=dz qo;refine .inr λp F=>?_
  rw[J]at F;cases F;exact z
theorem valid_mk{B:Bk}(F:0<=B.av)(H:B.av<=1000000)(ls:B.ah.length<=8)(lc:B.ar.length<=200)(lb:B.aw.length<=6)(M:∀s∈B.ah,svcB B.av s=true)(os:B.ah.Pairwise λa b=>Op.bytesLess a.name.toList b.name.toList=true)(hb:∀t∈B.aw,Dh t.name=true)(O:B.aw.Pairwise λa b=>Op.bytesLess a.name.toList b.name.toList=true)(J:∀c∈B.ar,cpB B c=true)(W:B.ar.Pairwise λa b=>An a b=true):Aj B=true:=by
 refine validB_iff.2 ⟨inB_iff.2 ⟨F,H⟩,ls,lc,lb,CY λi _=>?_,CY λi _=>?_,CY λi _=>?_⟩
 ·unfold BJ
  cases h:B.ah[i]? with
  |none=>rfl
  |some s=>
   rw[di];refine⟨M s (AE h),?_⟩;rcases adj (r:=λa b:Svc=>Op.bytesLess a.name.toList b.name.toList) os h with e|e
   ·subst e;rfl
   ·cases z:B.ah[i - 1]? with
    |none=>simp
    |some p=>
     have:=e p z;simp only[this,ja]
 ·unfold CQ
  cases h:B.aw[i]? with
  |none=>rfl
  |some s=>
   rw[di];refine⟨hb s (AE h),?_⟩;rcases adj (r:=λa b:Bt=>Op.bytesLess a.name.toList b.name.toList) O h with e|e
   ·subst e;rfl
   ·cases z:B.aw[i - 1]? with
    |none=>simp
    |some p=>
     have:=e p z;simp only[this,ja]
 ·unfold BI
  cases h:B.ar[i]? with
  |none=>rfl
  |some s=>
   rw[di];refine⟨J s (AE h),?_⟩;rcases adj (r:=An) W h with e|e
   ·subst e;rfl
   ·cases z:B.ar[i - 1]? with
    |none=>simp
    |some p=>
     have:=e p z;simp only[this,ja]
theorem Valid.pwC{B:Bk}(h:Valid B):B.ar.Pairwise λa b=>An a b=true:=gB.2 λi j F H z=>Ks (Lt h.ar) j i _ _ z (dz F) (dz H)
theorem Valid.pwS{B:Bk}(h:Valid B):B.ah.Pairwise λa b=>Op.bytesLess a.name.toList b.name.toList=true:=gB.2 λi j F H z=>Kb (NU h.ah) j i _ _ z (dz F) (dz H)
theorem Valid.pwB{B:Bk}(h:Valid B):B.aw.Pairwise λa b=>Op.bytesLess a.name.toList b.name.toList=true:=gB.2 λi j F H z=>NO (NU h.aw) j i _ _ z (dz F) (dz H)
theorem Valid.cW{B:Bk}(h:Valid B){t:Bt}(F:t∈B.aw):Dh t.name=true:=by
 obtain⟨i,z⟩:=eD F;have:=NU h.aw i (AC z).1;unfold CQ at this;rw[z]at this;simp only[di]at this;exact this.1
theorem U6{a b:Int}{s:Svc}(h:svcB a s=true)(z:a<=b):svcB b s=true:=by
 unfold svcB at h ⊢;simp only[di]at h ⊢;obtain⟨⟨⟨⟨⟨⟨⟨⟨H,F⟩,J⟩,M⟩,O⟩,W⟩,Y⟩,Z⟩,h9⟩:=h;exact⟨⟨⟨⟨⟨⟨⟨⟨H,inB_iff.2 ⟨(inB_iff.1 F).1,Int.le_trans (inB_iff.1 F).2 z⟩⟩,J⟩,M⟩,O⟩,W⟩,Y⟩,Z⟩,h9⟩
def cKey(c:Cp):ByteArray × Int:=(c.aa,c.ak)
theorem pw_key{l m:List Cp}(h:l.map cKey=m.map cKey)(F:l.Pairwise λa b=>An a b=true):m.Pairwise λa b=>An a b=true:=by
 have z:(l.map cKey).Pairwise (λp q=>(Op.bytesLess p.1.toList q.1.toList||(p.1.toList==q.1.toList&&decide (p.2<q.2)))=true):=gL.2 F;rw[h]at z;exact gL.1 z
def Sb(sv:qB)(c:Cp):Bool:=c.aa.toList==sv.toList&&(!c.am&&c.ay==3)
def endP(sv:qB)(c:Cp):Bool:=c.aa.toList==sv.toList&&c.am
theorem RQ(img:Int)(sv:qB):∀(l:List Cp) (N:Cnt),(l.foldl (λn c=>Cc img sv c n) N).aE=N.aE+(l.countP (Do sv):Nat)/\(l.foldl (λn c=>Cc img sv c n) N).ready=N.ready+(l.countP (Sb sv):Nat)/\(l.foldl (λn c=>Cc img sv c n) N).am=N.am+(l.countP (endP sv):Nat)
 |[],N=>qs
 |c::l,N=>by
  rw[gh];obtain⟨z,F,H⟩:=RQ img sv l (Cc img sv c N);rw[z,F,H,fC,fC,fC];unfold Cc DF IC Do Sb endP;cases c.aa.toList==sv.toList<;>cases c.am<;>cases c.ay==3<;>simp<;>omega
theorem cnt_is(img:Int)(sv:qB)(l:List Cp):(Ar img sv l l.length).aE=(l.countP (Do sv):Nat)/\(Ar img sv l l.length).ready=(l.countP (Sb sv):Nat)/\(Ar img sv l l.length).am=(l.countP (endP sv):Nat):=by
 unfold Ar;rw[eC];have:=RQ img sv l Cnt.none;unfold Cnt.none at this
 simpa [Cnt.none] using this
theorem VQ{B:Bk}{A:Ac}{s:Svc}{L:List Cp}(h:Dj B A s L=0):Bd A s (BG B A.aa)=false/\CO A (AR A s) (BG {B with ar:=L} A.aa)=false/\BA A s=false/\Dy B A (AR A s)=false:=by
 unfold Dj at h;rw[(FL A s 0).2.1]at h;cases z:Bd A s (BG B A.aa)
 ·cases F:CO A (AR A s) (BG {B with ar:=L} A.aa)
  ·cases H:BA A s
   ·cases J:Dy B A (AR A s)
    ·exact⟨rfl,rfl,rfl,rfl⟩
    ·simp[z,F,H,J]at h
   ·simp[z,F,H]at h
  ·simp[z,F]at h
 ·simp[z]at h
theorem MI{α:Type}{l:List α}{k:Nat}{x:α}(h:l[k]?=some x):∃P R,l=P++x::R/\l.take k=P/\l.drop (k+1)=R/\∀y,l.set k y=P++y::R:=by
 obtain⟨hk,hx⟩:=AC h;refine⟨l.take k,l.drop (k+1),?_,rfl,rfl,λy=>?_⟩
 ·rw[<-hx,<-fe hk,fM]
 ·rw[iF,dv hk]
theorem PX{a b:qB}(h:Op.bytesLess a.toList b.toList=true):a≠b:=λe=>by rw[e,BE]at h;cases h
theorem Q1{a b:qB}(h:a≠b):(a.toList==b.toList)=false:=by
 cases z:a.toList==b.toList
 ·rfl
 ·exact absurd (same_nm.1 z) h
structure Dn(B:Bk)(A:Ac)(s:Svc)(L:List Cp)(P R:List Svc):Prop where
 ok:Be A=true
 sv:A5 B A.aa=some s
 nm:s.name=A.aa
 aN:s.ag=A.aN
 ein:A.aB.all (C5 B A)=true
 ees:A.aB.all (CM B A)=true
 mks:BO B s A.aa (B.av+1) A.aB B.ar=some L
 dn:Bd A s (BG B A.aa)=false
 mn:CO A (AR A s) (BG {B with ar:=L} A.aa)=false
 sn:BA A s=false
 rn:Dy B A (AR A s)=false
 bs:B.ah=P++s::R
 lp:∀x∈P,Op.bytesLess x.name.toList s.name.toList=true
 lr:∀x∈R,Op.bytesLess s.name.toList x.name.toList=true
 dx:BL B A=⟨B.av+1,if A.drop then P++R else P++Di B A s::R,If B A s L A.ax.toNat,B.aw⟩
theorem dn_of{B:Bk}{A:Ac}(hV:Valid B)(hc:BM B A=0):∃s L P R,Dn B A s L P R:=by
 obtain⟨s,L,Z,M,h2,h3,h4,hm,hl,hd⟩:=Pu hc;obtain⟨g1,g2,g3,Y⟩:=VQ hl;obtain⟨i,hi,F⟩:=DY M;obtain⟨P,R,O,W,e3,e4⟩:=MI hi;have z:=hV.pwS;rw[O]at z;obtain⟨_,H,J⟩:=gF.1 z;refine⟨s,L,P,R,Z,M,MH M,h3,h2,h4,hm,g1,g2,g3,Y,O,λx hx=>J x hx s qs,λx hx=>(iE.1 H).1 x hx,?_⟩;rw[hd,show Nr B.ah A.aa=(i:Int) from F,du];unfold NA Dr;rw[W,e3,e4]
theorem UT{l:List Svc}{nm:qB}(h:∀x∈l,x.name≠nm):l.find? (λs=>s.name.toList==nm.toList)=none:=fS.2 λx hx=>by rw[Q1 (h x hx)];decide
section
variable {B:Bk} {A:Ac} {s:Svc} {L:List Cp} {P R:List Svc}
theorem Dn.svX(D:Dn B A s L P R):A5 (BL B A) A.aa=if A.drop then none else some (Di B A s):=by
 have z:=UT (l:=P) (nm:=A.aa) λx hx=>by rw[<-D.nm];exact PX (D.lp x hx)
 have F:=UT (l:=R) (nm:=A.aa) λx hx=>by rw[<-D.nm];exact(PX (D.lr x hx)).symm
 unfold A5;rw[D.dx];cases A.drop
 ·simp only[fI,gW]
  rw[gr,z,List.find?_cons_of_pos (by rw[Fi,D.nm];exact gl _)];rfl
 ·simp only[gu]
  rw[gr,z,F];rfl
theorem Dn.svO(D:Dn B A s L P R){nm:qB}(h:nm≠A.aa):A5 (BL B A) nm=A5 B nm:=by
 have z:(s.name.toList==nm.toList)=false:=Q1 (by rw[D.nm];exact h.symm);unfold A5;rw[D.dx,D.bs];cases A.drop
 ·simp only[fI,gW]
  rw[gr,gr,gP (by rw[Fi,z];decide),gP (by rw[z];decide)]
 ·simp only[gu]
  rw[gr,gr,gP (by rw[z];decide)]
theorem Dn.aZ(D:Dn B A s L P R):L.map Db=B.ar.map Db:=Gp _ _ _ _ _ _ _ D.mks
theorem Dn.bR(D:Dn B A s L P R)(z:Valid B):(BL B A).ar=L.take (Ba L A.aa)++(List.range A.ax.toNat).map (E9 B A s)++L.drop (Ba L A.aa):=by
 rw[D.dx];exact MW (Kh z D.sv D.aZ) _
theorem Dn.none(D:Dn B A s L P R)(M:A.drop=true):∀c∈B.ar,c.aa≠A.aa:=by
 have h:=D.dn;unfold Bd at h;rw[M]at h;simp only[gY,gG,ii]at h;obtain⟨c1,_,c3⟩:=cnt_is s.aj A.aa B.ar;unfold BG at h;rw[D.sv]at h;simp only[c1,c3]at h;have z1:B.ar.countP (Do A.aa)=0:=qo
 have z2:B.ar.countP (endP A.aa)=0:=qo
 intro c J e;have z:=gv.1 z1 c J;have F:=gv.1 z2 c J;unfold Do at z;unfold endP at F;rw[e,gl]at z F;cases H:c.am<;>rw[H]at z F
 ·exact z rfl
 ·exact F rfl
end
theorem G9{a b:List UInt8}(z:Op.bytesLess b a=false)(F:(b==a)=false):Op.bytesLess a b=true:=by
 have t:=Cm b a;rw[z,F]at t
 simpa using t
section
variable {B:Bk} {A:Ac} {s:Svc} {L:List Cp} {P R:List Svc}
theorem Pj(B:Bk)(A:Ac)(s:Svc):(Di B A s).next=s.next+A.ax/\(Di B A s).ag=B.av+1/\(Di B A s).aj=s.aj/\(Di B A s).aK=s.aK/\(Di B A s).aG=s.aG/\(Di B A s).aQ=s.aQ/\(Di B A s).az=s.az/\(Di B A s).aI=s.aI/\(Di B A s).load=s.load/\(Di B A s).au=(AR A s).au/\(Di B A s).aA=(AR A s).aA:=by
 unfold Di AR;cases A.aJ<;>exact⟨rfl,rfl,rfl,rfl,rfl,rfl,rfl,rfl,rfl,rfl,rfl⟩
theorem Dn.cJ(D:Dn B A s L P R)(z:Valid B):(B.ar.length:Int)+A.ax<=200/\s.next+A.ax<=1000000/\B.av<1000000/\0<=B.av/\0<=A.ax/\1<=s.next:=by
 have h:=D.rn;unfold Dy at h;simp only[gG,ii]at h;have e:(AR A s).next=s.next:=by unfold AR;cases A.aJ<;>rfl
 rw[e]at h;have F:=(inB_iff.1 z.av).1;have H:=(Ef D.ok).1;have J:=(z.bc (Dc D.sv)).bB;omega
theorem Dn.bg(D:Dn B A s L P R)(hV:Valid B):svcB (B.av+1) (Di B A s)=true:=by
 obtain⟨_,r2,r3,r4,r5,r6⟩:=D.cJ hV;obtain⟨f1,f2,f3,Y,Z,f6,f7,f8,f9,O,W⟩:=Pj B A s;have h:=IP hV.ah (Dc D.sv);unfold Go.Proofs.YtbceafpodamnfaaGreatDoor.svcB at h ⊢;simp only[di]at h ⊢;obtain⟨⟨⟨⟨⟨⟨⟨⟨h1,h2⟩,h3⟩,h4⟩,h5⟩,h6⟩,h7⟩,h8⟩,J⟩:=h;have H:=D.ok;unfold Be at H;simp only[di]at H;have z:=H.1.2;have F:=D.sn;unfold BA at F;refine⟨⟨⟨⟨⟨⟨⟨⟨by rw[Fi];exact h1,inB_iff.2 (by rw[f2];omega)⟩,by rw[f3];exact h3⟩,inB_iff.2 (by rw[f1];omega)⟩,?_⟩,by rw[Y];exact h6⟩,by rw[Z];exact h7⟩,by rw[Y,Z];exact h8⟩,?_⟩
 ·rw[O]
  unfold AR;cases M:A.aJ
  ·exact h5
  ·rw[M,dv rfl,di]at z
   exact z.1
 ·unfold Qt at J ⊢
  rw[f6,f7,f8,f9,W];unfold AR;cases M:A.aJ
  ·exact J
  ·rw[M]at F
   rw[M,dv rfl,di]at z;simp only[gY,gG,fg,gu]at F ⊢;rw[dk F.1]at J ⊢;simp only[di]at J ⊢;exact⟨J.1,z.2⟩
theorem newC_cpB(D:Dn B A s L P R)(H:Valid B){j:Nat}(M:j<A.ax.toNat):cpB (BL B A) (E9 B A s j)=true:=by
 obtain⟨_,r2,r3,O,W,Y⟩:=D.cJ H
 have F:A.drop=false:=by
  cases F:A.drop
  ·rfl
  ·have:=(M7 D.ok F).1;omega
 have z:=IP H.ah (Dc D.sv);unfold svcB at z;simp only[di]at z;unfold cpB;rw[show(E9 B A s j).aa=A.aa from rfl,D.svX,F];simp only[fI,gW];have J:wrap64 (s.next+A.ax - 1)=s.next+A.ax - 1:=by unfold wrap64;omega
 unfold GI;rw[(Pj B A s).1,J,D.dx];simp only[di,inB_iff];refine⟨⟨⟨⟨?_,?_⟩,inB_iff.1 z.1.1.1.1.1.1.2⟩,by show(1:Int)<=1/\(1:Int)<=4;omega⟩,by unfold Cu;rw[dv (show(E9 B A s j).ay=1 from rfl)];show(⟨#[]⟩:qB).toList.isEmpty=true;rw[fY];rfl⟩
 ·show 1<=s.next+(j:Int)/\s.next+(j:Int)<=_;omega
 ·show 1<=B.av+1/\B.av+1<=B.av+1;omega
theorem old_cpB(D:Dn B A s L P R)(Z:Valid B){c:Cp}(hc:c∈L):cpB (BL B A) c=true:=by
 obtain⟨_,r2,r3,r4,r5,r6⟩:=D.cJ Z;obtain⟨i,hi⟩:=eD hc;obtain⟨d,hd,e⟩:=Ju _ _ _ D.mks i c hi;have H:=AE hd;have z:=cpB_of Z.ar H;have e1:c.aa=d.aa:=by rcases e with rfl|rfl<;>rfl
 have e2:c.ak=d.ak:=by rcases e with rfl|rfl<;>rfl
 have e3:c.aj=d.aj:=by rcases e with rfl|rfl<;>rfl
 have e4:c.ay=d.ay:=by rcases e with rfl|rfl<;>rfl
 have e5:c.aC=d.aC:=by rcases e with rfl|rfl<;>rfl
 have e6:c.ag=d.ag\/c.ag=B.av+1:=by
  rcases e with rfl|rfl
  ·exact .inl rfl
  ·exact .inr rfl
 have O:Cu (BL B A).aw c=Cu B.aw d:=by unfold Cu;rw[e4,e5,D.dx]
 have key:∀s1 Y:Svc,GI B.av s1 d=true->wrap64 (s1.next - 1)<=wrap64 (Y.next - 1)->GI (BL B A).av Y c=true:=λs1 Y h W=>by
  unfold GI at h ⊢;simp only[di,inB_iff]at h ⊢;rw[e2,e3,e4,D.dx];refine⟨⟨⟨⟨h.1.1.1.1,Int.le_trans h.1.1.1.2 W⟩,?_⟩,h.1.2⟩,h.2⟩;show 1<=c.ag/\c.ag<=B.av+1;rcases e6 with e|e<;>rw[e]<;>omega
 unfold cpB at z ⊢;rw[O,e1]
 by_cases M:d.aa=A.aa
 ·have F:A.drop=false:=by
   cases F:A.drop
   ·rfl
   ·exact absurd M (D.none F d H)
  rw[M,D.svX,F];rw[M,D.sv]at z;simp only[fI,gW,di]at z ⊢;refine⟨key s _ z.1 ?_,z.2⟩;have w1:wrap64 (s.next - 1)=s.next - 1:=by unfold wrap64;omega
  have w2:wrap64 (s.next+A.ax - 1)=s.next+A.ax - 1:=by unfold wrap64;omega
  rw[(Pj B A s).1,w1,w2];omega
 ·rw[D.svO M]
  cases J:A5 B d.aa with
  |none=>rw[J]at z;cases z
  |some s'=>
   rw[J]at z;simp only[di]at z ⊢;exact⟨key s' s' z.1 (ff _),z.2⟩
theorem Dn.pw(D:Dn B A s L P R)(Z:Valid B):(BL B A).ar.Pairwise λa b=>An a b=true:=by
 have hL:L.Pairwise λa b=>An a b=true:=pw_key D.aZ.symm Z.pwC
 have W:=Kh Z D.sv D.aZ;rw[D.bR Z];have F:=fM (Ba L A.aa) L;have M:=hL;rw[<-F]at M;obtain⟨p1,p2,p3⟩:=gF.1 M
 have ah:∀x∈L.take (Ba L A.aa),Br A.aa x=true:=λx hx=>by
  unfold Ba at hx;rw[<-Lj]at hx;exact SJ hx
 have af:∀x∈L.drop (Ba L A.aa),Br A.aa x=false:=λx hx=>by
  cases hd:L.drop (Ba L A.aa) with
  |nil=>rw[hd]at hx;cases hx
  |cons y r=>
   have z:Br A.aa y=false:=by
    have Y:=Oz (Br A.aa) L;rw[show L.drop (L.takeWhile (Br A.aa)).length=y::r from hd]at Y;cases hn:Br A.aa y
    ·rfl
    ·rw[fb hn]at Y;cases Y
   rw[hd]at hx p2;rcases dJ.1 hx with rfl|hx
   ·exact z
   ·have J:=(iE.1 p2).1 x hx
    unfold Br at z ⊢;simp only[gG]at z ⊢;have O:Op.bytesLess A.aa.toList y.aa.toList=true:=G9 z.1 z.2;unfold An at J;simp only[ep,di,fN]at J
    have H:Op.bytesLess A.aa.toList x.aa.toList=true:=by
     rcases J with h|⟨h,_⟩
     ·exact CP _ _ _ O h
     ·rw[<-h];exact O
    refine⟨?_,?_⟩
    ·cases hq:Op.bytesLess x.aa.toList A.aa.toList
     ·rfl
     ·have:=CP _ _ _ H hq;rw[BE]at this;cases this
    ·cases hq:x.aa.toList==A.aa.toList
     ·rfl
     ·rw[eq_of_beq hq,BE]at H;cases H
 refine gF.2 ⟨gF.2 ⟨p1,?_,λx hx y z=>?_⟩,p2,λx hx y z=>?_⟩
 ·rw[gL]
  refine List.Pairwise.imp (R:=λa b=>a<b) (λ{a b} h=>?_) List.pairwise_lt_range;unfold An E9;simp;exact .inr h
 ·obtain⟨j,_,rfl⟩:=fa.1 z
  have h:=ah x hx;unfold Br at h;unfold An;rw[show(E9 B A s j).aa=A.aa from rfl];cases he:x.aa.toList==A.aa.toList
  ·rw[he,Bool.or_false]at h;rw[h];rfl
  ·have:=W x (eP hx) (same_nm.1 he)
   rw[dX (show x.ak<(E9 B A s j).ak by show x.ak<s.next+(j:Int);omega)];simp
 ·rcases dO.1 hx with hx|hx
  ·exact p3 x hx y z
  ·obtain⟨j,_,rfl⟩:=fa.1 hx
   have h:=af y z;unfold Br at h;simp only[gG]at h;unfold An;rw[show(E9 B A s j).aa=A.aa from rfl,G9 h.1 h.2];rfl
theorem Dn.valid(D:Dn B A s L P R)(z:Valid B):Valid (BL B A):=by
 obtain⟨r1,r2,r3,r4,r5,r6⟩:=D.cJ z
 have H:(BL B A).ar.length<=200:=by
  rw[D.dx];show(If B A s L A.ax.toNat).length<=200;rw[Hn,IT _ _ _ _ _ _ _ D.mks];omega
 have J:=z.ls;have F:=z.pwS;rw[D.bs]at J F;rw[dE,dM]at J
 have O:∀x∈(BL B A).ah,x∈B.ah\/x=Di B A s:=λx hx=>by
  rw[D.dx]at hx;rw[D.bs];simp only at hx;split at hx
  ·rcases dO.1 hx with hx|hx
   ·exact .inl (by simp[hx])
   ·exact .inl (by simp[hx])
  ·rcases dO.1 hx with hx|hx
   ·exact .inl (by simp[hx])
   ·rcases dJ.1 hx with hx|hx
    ·exact .inr hx
    ·exact .inl (by simp[hx])
 have M:(BL B A).av=B.av+1:=by rw[D.dx]
 refine validB_iff.1 (valid_mk (by rw[M];omega) (by rw[M];omega) ?_ H (by rw[D.dx];exact z.lb) (λx hx=>?_) ?_ (λt Z=>z.cW (by rw[D.dx]at Z;exact Z)) (by rw[D.dx];exact z.pwB) (λc Y=>?_) (D.pw z))
 ·rw[D.dx]
  simp only;split
  ·rw[dE];omega
  ·rw[dE,dM];omega
 ·rw[M]
  rcases O x hx with h|h
  ·exact U6 (IP z.ah h) qo
  ·rw[h];exact D.bg z
 ·rw[D.dx]
  simp only;split
  ·exact F.sublist (List.Sublist.append_left (List.sublist_cons_self ..) _)
  ·have W:((P++s::R).map (·.name)).Pairwise λa b=>Op.bytesLess a.toList b.toList=true:=gL.2 F
   have h2:(P++s::R).map (·.name)=(P++Di B A s::R).map (·.name):=by simp[Fi]
   rw[h2]at W;exact gL.1 W
 ·rw[D.dx]at Y
  rcases Jl Y with h|⟨j,hj,rfl⟩
  ·exact old_cpB D z h
  ·exact newC_cpB D z hj
end
end
section
open Go.RowKit Go.Sort
theorem EX(B:Bk)(s:Svc):Eo B s (ofS s.name B.ar)=(Aq B s.name).map (CT B s):=by
 unfold Eo Aq ofS;rw[List.filter_filter]
 congr 2
 funext c
 unfold Do;rw[Bool.and_comm]
theorem GV(B:Bk)(s:Svc)(p:Sn->Bool)(l:List Cp):(l.map (CT B s)).filter p=(l.filter λc=>p (CT B s c)).map (CT B s):=by
 rw[List.filter_map];rfl
theorem Vh(B:Bk)(s:Svc)(l:List Cp):FF (l.map (CT B s))=l.map CV:=by
 unfold FF;rw[gE];rfl
theorem SN(B:Bk)(s:Svc)(b x:Cp):stepS (CT B s b) (CT B s x)=CT B s (Fl B s.aj b x):=by
 unfold stepS Fl;rw[show LA (CT B s x) (CT B s b)=Fv B x b s.aj from rfl];cases Fv B x b s.aj<;>rfl
theorem Og(B:Bk)(s:Svc):∀(r:List Cp) (b:Cp),(r.map (CT B s)).foldl stepS (CT B s b)=CT B s (r.foldl (Fl B s.aj) b)
 |[],_=>rfl
 |i::r,b=>by rw[dK,gh,gh,SN,Og B s r]
theorem JO(B:Bk)(s:Svc)(c:Cp)(r:List Cp):(Ec ((c::r).map (CT B s))).c=r.foldl (Fl B s.aj) c:=ei Sn.c (Og B s r c)
theorem TS(B:Bk)(s:Svc):Ar s.aj s.name B.ar B.ar.length=FO s.aj (ofS s.name B.ar):=by
 unfold FO Ar;rw[KH,eC]
structure CntIs(img:Int)(l:List Cp)(n:Cnt):Prop where
 aE:n.aE=((l.filter λc=>!c.am).length:Int)
 aO:n.aO=(((l.filter λc=>!c.am).filter λc=>c.aj !=img).length:Int)
 r:n.ready<=n.aE
 f:n.aD<=n.aE
 o:n.aO<=n.aE
 r0:0<=n.ready
 f0:0<=n.aD
 o0:0<=n.aO
 e0:0<=n.am
theorem cntIs(img:Int)(l:List Cp):CntIs img l (FO img l):=by
 suffices h:∀(k:Nat),k<=l.length->CntIs img (l.take k) (FO img (l.take k)) by
  have:=h l.length AG;rwa [eC]at this
 intro k
 induction k with
 |zero=>intro _;exact⟨rfl,rfl,ff _,ff _,ff _,ff _,ff _,ff _,ff _⟩
 |succ k O=>
  intro hk;have h:=O qo;obtain⟨c,M⟩:∃c,l[k]?=some c:=⟨l[k],by simp[show k<l.length by omega]⟩;rw[ec,M,show(some c).toList=[c] from rfl,D6];have W:=h.aE;have Y:=h.aO;have Z:=h.r;have h4:=h.f;have h5:=h.o;have h6:=h.r0;have h7:=h.f0;have h8:=h.o0;have h9:=h.e0;generalize FO img (l.take k)=n at *;unfold DF;cases F:c.am
  ·rw[dk qs]
   cases H:(c.ay==3)<;>cases J:(c.ay==4)<;>cases z:(c.aj !=img)
   all_goals
    refine⟨?_,?_,?_,?_,?_,?_,?_,?_,?_⟩<;>simp only[IC,ez,dE,List.filter,F,z,Bool.not_false,dM,fc,gu,gW,fI]<;>omega
  ·rw[dv rfl]
   refine⟨?_,?_,?_,?_,?_,?_,?_,?_,?_⟩<;>simp only[ez,dE,List.filter,F,Bool.not_true,fc]<;>omega
theorem Jv(B:Bk)(s:Svc):(Ar s.aj s.name B.ar B.ar.length).aE=((Aq B s.name).length:Int):=by
 have h:=EX B s;unfold Eo at h;have h:=ei List.length h;rw[ef,ef]at h;rw[TS,(cntIs s.aj (ofS s.name B.ar)).aE,h]
theorem Sr(B:Bk)(s:Svc):(ofS s.name B.ar).filter (λc=>!c.am)=Aq B s.name:=by
 unfold Aq ofS;rw[List.filter_filter]
 congr 1
 funext c
 unfold Do;rw[Bool.and_comm]
theorem old_eq(B:Bk)(s:Svc):(Ar s.aj s.name B.ar B.ar.length).aO=((C8 B s 2).length:Int):=by
 rw[TS,(cntIs s.aj (ofS s.name B.ar)).aO,Sr];rfl
theorem TC(B:Bk)(s:Svc):(Cs (Eo B s (ofS s.name B.ar)):Int)=((C8 B s 6).length:Int):=by
 rw[EX];unfold Cs;rw[List.countP_eq_length_filter,GV,ef];rfl
theorem FY{B:Bk}(M:Valid B){s:Svc}(O:s∈B.ah):A5 B s.name=some s:=by
 have J:=IK M.ah;obtain⟨i,F⟩:=eD O
 cases h:A5 B s.name with
 |none=>exact absurd rfl (FZ h i s (AC F).1 F)
 |some t=>
  obtain⟨j,_,H,e⟩:=FX h;rcases jj i j with z|z|z
  ·exact absurd e.symm (J i j s t z F H)
  ·subst z;rw[F]at H;cases H;rfl
  ·exact absurd e (J j i t s z H F)
theorem Oi{B:Bk}(W:Valid B){c:Cp}(M:c∈B.ar):B.ar.find? (isC c.aa c.ak)=some c:=by
 have O:=QK W.ar;obtain⟨i,J⟩:=eD M
 cases h:B.ar.find? (isC c.aa c.ak) with
 |none=>rw[fS]at h;exact absurd (isC_iff.2 ⟨rfl,rfl⟩) (h c M)
 |some d=>
  have H:=isC_iff.1 (gM h);obtain⟨j,F⟩:=eD (iy h);rcases jj i j with z|z|z
  ·exact absurd ⟨H.1.symm,H.2.symm⟩ (O i j c d z J F)
  ·subst z;rw[J]at F;cases F;rfl
  ·exact absurd H (O j i d c z F J)
theorem Mp{B:Bk}(H:Valid B){s:Svc}(M:s∈B.ah){c:Cp}(z:c∈Aq B s.name):El B c.aa c.ak=Em s c (Ar s.aj s.name B.ar B.ar.length).ready/\c.aa=s.name:=by
 obtain⟨z,J⟩:=eR.1 z;unfold Do at J;have F:=same_nm.1 (gJ.1 J).1;unfold El;rw[Oi H z,F,FY H M];exact⟨PV B s s.name c,rfl⟩
theorem S6{B:Bk}(z:Valid B){s:Svc}(J:s∈B.ah)(l:List Cp)(H:∀c∈l,c∈Aq B s.name):
  (l.map (CT B s)).filter (λx=>Em s x.c (Ar s.aj s.name B.ar B.ar.length).ready)=(l.filter (Hs B)).map (CT B s):=by
 rw[GV]
 congr 1
 exact List.filter_congr λc F=>(Mp z J (H c F)).1.symm
theorem Pf{B:Bk}(s:Svc)(r:Int)(l:List Cp)(z:∀c∈l,Em s c r=true):
  Bn s r (l.map (CT B s))=if l=[] then none else some {a0 s with aB:=BK B s.aj l}:=by
 cases l with
 |nil=>rw[dv rfl];exact GH s r _ rfl
 |cons F q=>
  rw[dk qs,GG s r _ _ qs rfl (by rw[JO];exact z _ (GY q F)),JO];rfl
theorem Pe{B:Bk}(M:Valid B){s:Svc}(W:s∈B.ah)(l:List Cp)(O:∀c∈l,c∈Aq B s.name):
  Bn s (Ar s.aj s.name B.ar B.ar.length).ready (l.map (CT B s))=if l≠[]/\El B s.name (Jp (BK B s.aj l))=true then some {a0 s with aB:=BK B s.aj l} else none:=by
 cases l with
 |nil=>rw[dk qs];exact GH _ _ _ rfl
 |cons F q=>
  obtain⟨z,H⟩:=Mp M W (O _ (GY (B:=B) (im:=s.aj) q F));rw[H]at z;rw[show Jp (BK B s.aj (F::q))=(q.foldl (Fl B s.aj) F).ak from rfl,z];have hb:=JO B s F q;cases J:Em s (q.foldl (Fl B s.aj) F) (Ar s.aj s.name B.ar B.ar.length).ready
  ·rw[dk qs]
   exact Iv s _ _ _ rfl (by rw[hb];exact J)
  ·rw[dv ⟨qs,rfl⟩,GG s _ _ _ qs rfl (by rw[hb];exact J),hb]
   rfl
def Hu(A:Ac):Option Ac:=if Cz A=true then some A else none
theorem Ua(B:Bk)(s:Svc)(l:List Cp):M4 s (l.map (CT B s))=Hu {a0 s with aB:=l.map CV}:=by
 unfold M4 Hu Cz;rw[ef,Vh]
 cases l with
 |nil=>rfl
 |cons i q=>simp
theorem MS{B:Bk}(M:Valid B){s:Svc}(W:s∈B.ah)(Z:s.aH=false)(l:List Cp)(O:∀c∈l,c∈Aq B s.name):
  By s (Ar s.aj s.name B.ar B.ar.length) (l.map (CT B s))=Hu (Bh B s l):=by
 unfold By Bh;rw[Jv,ef]
 by_cases z:l.length=0\/((Aq B s.name).length:Int)<s.au
 ·rw[dv z,dv (.inr z)]
  rfl
 ·rw[dk z,dk (by intro h;rcases h with h|h;rw[Z]at h;cases h;exact z h)]
  by_cases F:((Aq B s.name).length:Int)<s.au+s.aG
  ·rw[dv F,dv F];rfl
  ·rw[dk F,dk F,S6 M W l O,Pf (B:=B) s _ _ λc Y=>?_]
   ·cases hm:l.filter (Hs B) with
    |nil=>rfl
    |cons i q=>rw[dk qs];unfold Hu Cz BK;simp
   ·obtain⟨H,J⟩:=eR.1 Y
    rw[<-(Mp M W (O c H)).1];exact J
theorem TP{B:Bk}(W:Valid B){s:Svc}(Z:s∈B.ah)(hg:s.aH=false):
  C6 s (Ar s.aj s.name B.ar B.ar.length) (Cs (Eo B s (ofS s.name B.ar)):Int) (Eo B s (ofS s.name B.ar))=Hu (Bp B s):=by
 have hw:=(W.bc Z).ba;unfold C6 Bp;rw[dk (by rw[hg];simp),Jv,old_eq,TC,EX,Pe W Z _ λi hi=>hi]
 by_cases H:((Aq B s.name).length:Int)<s.au
 ·rw[dv H,dv H]
  unfold Hu Cz;rw[dv];simp only[ep,dS];exact .inl (.inl (.inl qo))
 ·rw[dk H,dk H]
  by_cases O:((Aq B s.name).length:Int)=s.au\/((0<((C8 B s 2).length:Int)\/0<((C8 B s 6).length:Int))/\((Aq B s.name).length:Int)<=s.au+s.aG)
  ·rw[dv O,dk (λh=>by rcases h.1.2 with⟨aa,ae⟩|Y<;>have:=h.1.1<;>omega)]
   rfl
  ·have z:0<(Aq B s.name).length:=qo
   have F:Aq B s.name≠[]:=by intro h;rw[h]at z;cases z
   have Y:s.au<((Aq B s.name).length:Int)/\(Ix B s\/s.au+s.aG<((Aq B s.name).length:Int)):=⟨qo,by
    by_cases M:s.au+s.aG<((Aq B s.name).length:Int)
    ·exact .inr M
    ·exact .inl ⟨qo,qo⟩⟩
   rw[dk O]
   by_cases J:El B s.name (Jp (BK B s.aj (Aq B s.name)))=true
   ·rw[dv ⟨F,J⟩,dv ⟨Y,J⟩]
    unfold Hu;rw[dv];unfold Cz
    cases hl:Aq B s.name with
    |nil=>exact absurd hl F
    |cons i q=>simp[BK]
   ·rw[dk (λh=>J h.2),dk (λh=>J h.2)]
    rfl
theorem ask_eq(kind:Int)(aw:1<=kind)(ay:kind<=6){B:Bk}(Z:Valid B){s:Svc}(hs:s∈B.ah):KL kind B s=Hu (CK kind B s):=by
 unfold KL Ij CK
 by_cases h3:kind=3
 ·subst h3
  simp only[show ¬(3:Int)=1 by omega,show ¬(3:Int)=2 by omega,gW,gu];unfold IS;rw[EX,GV,Ua];rfl
 rw[dk h3,dk h3];cases z:s.aH
 ·rw[dk (show ¬(false=true) by simp)]
  by_cases H:kind=1
  ·rw[dv H,dv H];exact TP Z hs z
  rw[dk H,dk H]
  by_cases J:kind=2
  ·rw[dv J,dv J]
   unfold L9;rw[EX,GV];exact MS Z hs z _ λi hi=>(eR.1 hi).1
  rw[dk J,dk J]
  by_cases W:kind=4
  ·subst W
   simp only[show ¬(4:Int)=6 by omega,gW,gu];unfold DO;rw[z]
   by_cases hp:s.aQ=0
   ·rw[dv (.inr hp),dk qo];rfl
   ·have ak:=(Mb Z hs hp).1
    rw[dk (by simp[hp]),dv ak];unfold Hu Cz
    have al:∀d,(Bf s d).ax=0/\(Bf s d).aB=[]/\(Bf s d).drop=false:=λd=>by
     unfold Bf a0
     (repeat' split)<;>exact⟨rfl,rfl,rfl⟩
    obtain⟨e1,e2,e3⟩:=al (B6 s);rw[e1,e2,e3];simp
  rw[dk W]
  by_cases Y:kind=5
  ·subst Y
   simp only[show ¬(5:Int)=6 by omega,show ¬(5:Int)=4 by omega,gW,gu];unfold DS;rw[z];rfl
  rw[dk Y,dv (show kind=6 by omega)];unfold EI;rw[old_eq]
  by_cases ho:(C8 B s 2).length=0
  ·rw[dk qo,dv ho,EX,GV]
   exact MS Z hs z _ λi hi=>(eR.1 hi).1
  ·rw[dv qo,dk ho];rfl
 ·rw[dv rfl]
  have O:∀(F:List Sn),By s (Ar s.aj s.name B.ar B.ar.length) F=none:=λF=>Jh s _ F z
  by_cases Y:kind=5
  ·subst Y
   simp only[show ¬(5:Int)=1 by omega,show ¬(5:Int)=2 by omega,show ¬(5:Int)=4 by omega,gW,gu];unfold DS;rw[dv z];have af:BG B s.name=Ar s.aj s.name B.ar B.ar.length:=by unfold BG;rw[FY Z hs]
   rw[af];have M:=cntIs s.aj (ofS s.name B.ar);rw[<-TS]at M;have H:=M.r;have J:=M.f;have h3:=M.o;have W:=M.r0;have h6:=M.f0;have h7:=M.o0;have h8:=M.e0;have az:=Jv B s;generalize Ar s.aj s.name B.ar B.ar.length=n at *
   have hn:OP n=(n.aE+n.am==0):=by
    rw[gA];unfold OP;simp only[di,fN];omega
   rw[hn];cases hz:(n.aE+n.am==0)
   ·rw[dk qs,EX,Ua]
    rfl
   ·rw[dv rfl]
    have aF:n.aE+n.am=0:=by simpa using hz
    have ah:Aq B s.name=[]:=eF.1 qo;rw[ah];rfl
  ·have hr:Hu (if kind=5 then {a0 s with aB:=(Aq B s.name).map CV,drop:=((BG B s.name).aE+(BG B s.name).am==0)} else a0 s)=none:=by rw[dk Y];rfl
   rw[hr]
   by_cases H:kind=1
   ·rw[dv H];exact Iw s _ _ _ z
   rw[dk H]
   by_cases J:kind=2
   ·rw[dv J];exact O _
   rw[dk J]
   by_cases W:kind=4
   ·rw[dv W];unfold DO;rw[dv (.inl z)]
   rw[dk W,dk Y];unfold EI;split
   ·rfl
   ·exact O _
theorem Um(kind:Int)(B:Bk):Nw kind B=EJ kind B:=by
 unfold Nw EJ;cases hv:Aj B
 ·simp
 have Y:=validB_iff.1 hv;rw[dv rfl];cases hk:inB kind 1 6
 ·rw[dk qs]
  symm
  rw[il];intro A W;obtain⟨s,_,rfl⟩:=fa.1 W;have h:¬(1<=kind/\kind<=6):=λh=>by rw[inB_iff.2 h]at hk;cases hk
  have e:CK kind B s=a0 s:=by
   unfold CK;rw[dk qo];split
   ·rw[dk qo]
   ·rw[dk qo,dk qo,dk qo,dk qo]
  rw[e];simp[Cz,a0]
 ·obtain⟨H,J⟩:=inB_iff.1 hk
  rw[dv ⟨rfl,rfl⟩]
  have:∀(l:List Svc),(∀s∈l,s∈B.ah)->l.filterMap (KL kind B)=(l.map (CK kind B)).filter Cz:=by
   intro l
   induction l with
   |nil=>intro _;rfl
   |cons s l ih=>
    intro O;have z:=ask_eq kind H J Y (O s qs);have M:=ih λt ht=>O t (dQ _ ht)
    rw[dK,List.filter_cons];unfold Hu at z
    by_cases F:Cz (CK kind B s)=true
    ·rw[dv F]at z
     rw[dv F,List.filterMap_cons,z,M]
    ·rw[dk F]at z
     rw[dk F,List.filterMap_cons,z,M]
  exact this B.ah λs Z=>Z
end
end Go.Proofs.YtbceafpodamnfaaGreatDoor
