import Derived.Test.YtbceafpodamnfaaGreatDoorG37
set_option linter.all false
namespace Go.Proofs.YtbceafpodamnfaaGreatDoor
section
open Go.RowKit
def LK(sv:qB)(c:Cp):Bool:=c.aa.toList==sv.toList&& !c.au
def EG(sv:qB)(c:Cp):Bool:=c.aa.toList==sv.toList&&(!c.au&&c.ax==3)
def endP(sv:qB)(c:Cp):Bool:=c.aa.toList==sv.toList&&c.au
theorem O1(F:Int)(sv:qB):∀(l:List Cp) (N:Cnt),(l.foldl (λn c=>CM F sv c n) N).aI=N.aI+(l.countP (LK sv):Nat)/\(l.foldl (λn c=>CM F sv c n) N).ready=N.ready+(l.countP (EG sv):Nat)/\(l.foldl (λn c=>CM F sv c n) N).au=N.au+(l.countP (endP sv):Nat)
 |[],N=>by simp
 |c::l,N=>by
  rw[gE];obtain⟨H,J,M⟩:=O1 F sv l (CM F sv c N);rw[H,J,M,fa,fa,fa];unfold CM Cu G8 LK EG endP;cases c.aa.toList==sv.toList<;>cases c.au<;>cases c.ax==3<;>simp<;>omega
theorem No(F:Int)(sv:qB)(l:List Cp):(BM F sv l l.length).aI=(l.countP (LK sv):Nat)/\(BM F sv l l.length).ready=(l.countP (EG sv):Nat)/\(BM F sv l l.length).au=(l.countP (endP sv):Nat):=by
 unfold BM;rw[gR];have:=O1 F sv l Cnt.none;unfold Cnt.none at this
 simpa [Cnt.none] using this
theorem R9{B:Bk}{A:Ac}{s:Svc}{L:List Cp}(h:DC B A s L=0):BY A s (BD B A.aa)=false/\CC A (AQ A s) (BD {B with ah:=L} A.aa)=false/\BA A s=false/\DO B A (AQ A s)=false:=by
 unfold DC at h;rw[(Fi A s 0).2.1]at h;cases F:BY A s (BD B A.aa)
 ·cases H:CC A (AQ A s) (BD {B with ah:=L} A.aa)
  ·cases J:BA A s
   ·cases M:DO B A (AQ A s)
    ·exact⟨rfl,rfl,rfl,rfl⟩
    ·simp[F,H,J,M]at h
   ·simp[F,H,J]at h
  ·simp[F,H]at h
 ·simp[F]at h
theorem Kl{α:Type}{l:List α}{k:Nat}{x:α}(h:l[k]?=some x):∃P R,l=P++x::R/\l.take k=P/\l.drop (k+1)=R/\∀y,l.set k y=P++y::R:=by
 obtain⟨hk,hx⟩:=AC h;refine⟨l.take k,l.drop (k+1),?_,rfl,rfl,λy=>?_⟩
 ·rw[<-hx,<-eH hk,eY]
 ·rw[iC,dB hk]
theorem NX{a b:qB}(h:Op.bytesLess a.toList b.toList=true):a≠b:=λe=>by rw[e,A4]at h;cases h
theorem nm_ne{a b:qB}(h:a≠b):(a.toList==b.toList)=false:=by
 cases F:a.toList==b.toList
 ·rfl
 ·exact absurd (same_nm.1 F) h
structure Dn(B:Bk)(A:Ac)(s:Svc)(L:List Cp)(P R:List Svc):Prop where
 ok:Bg A=true
 sv:Ah B A.aa=some s
 nm:s.name=A.aa
 aF:s.ag=A.aF
 ein:A.aw.all (Cr B A)=true
 ees:A.aw.all (CD B A)=true
 mks:BL B s A.aa (B.aj+1) A.aw B.ah=some L
 dn:BY A s (BD B A.aa)=false
 mn:CC A (AQ A s) (BD {B with ah:=L} A.aa)=false
 sn:BA A s=false
 rn:DO B A (AQ A s)=false
 bs:B.af=P++s::R
 lp:∀x∈P,Op.bytesLess x.name.toList s.name.toList=true
 lr:∀x∈R,Op.bytesLess s.name.toList x.name.toList=true
 dx:Az B A=⟨B.aj+1,if A.drop then P++R else P++By B A s::R,G5 B A s L A.am.toNat,B.ak⟩
theorem dn_of{B:Bk}{A:Ac}(hV:Valid B)(hc:Bc B A=0):∃s L P R,Dn B A s L P R:=by
 obtain⟨s,L,h1,H,h2,h3,h4,hm,Z,hd⟩:=Lb hc;obtain⟨g1,g2,g3,g4⟩:=R9 Z;obtain⟨i,hi,M⟩:=Co H;obtain⟨P,R,Y,e2,e3,e4⟩:=Kl hi;have F:=hV.pwS;rw[Y]at F;obtain⟨_,J,W⟩:=fR.1 F;refine⟨s,L,P,R,h1,H,Kk H,h3,h2,h4,hm,g1,g2,g3,g4,Y,λx hx=>W x hx s (by simp),λx hx=>(List.pairwise_cons.1 J).1 x hx,?_⟩;rw[hd,show L6 B.af A.aa=(i:Int) from M,di];unfold LT DI;rw[e2,e3,e4]
theorem Ng{l:List Svc}{nm:qB}(h:∀x∈l,x.name≠nm):l.find? (λs=>s.name.toList==nm.toList)=none:=fP.2 λx hx=>by rw[nm_ne (h x hx)];decide
section
variable {B:Bk} {A:Ac} {s:Svc} {L:List Cp} {P R:List Svc}
theorem Dn.svX(D:Dn B A s L P R):Ah (Az B A) A.aa=if A.drop then none else some (By B A s):=by
 have F:=Ng (l:=P) (nm:=A.aa) λx hx=>by rw[<-D.nm];exact NX (D.lp x hx)
 have H:=Ng (l:=R) (nm:=A.aa) λx hx=>by rw[<-D.nm];exact(NX (D.lr x hx)).symm
 unfold Ah;rw[D.dx];cases A.drop
 ·simp only[fg,iq]
  rw[gq,F,List.find?_cons_of_pos (by rw[Ex,D.nm];exact il _)];rfl
 ·simp only[gM]
  rw[gq,F,H];rfl
theorem Dn.svO(D:Dn B A s L P R){nm:qB}(h:nm≠A.aa):Ah (Az B A) nm=Ah B nm:=by
 have F:(s.name.toList==nm.toList)=false:=nm_ne (by rw[D.nm];exact h.symm);unfold Ah;rw[D.dx,D.bs];cases A.drop
 ·simp only[fg,iq]
  rw[gq,gq,iJ (by rw[Ex,F];decide),iJ (by rw[F];decide)]
 ·simp only[gM]
  rw[gq,gq,iJ (by rw[F];decide)]
theorem Dn.aU(D:Dn B A s L P R):L.map Cv=B.ah.map Cv:=Ft _ _ _ _ _ _ _ D.mks
theorem Dn.bP(D:Dn B A s L P R)(F:Valid B):(Az B A).ah=L.take (BJ L A.aa)++(List.range A.am.toNat).map (D2 B A s)++L.drop (BJ L A.aa):=by
 rw[D.dx];exact Ky (I8 F D.sv D.aU) _
theorem Dn.cI(D:Dn B A s L P R)(F:Valid B)(p:Cp->Bool):(Az B A).ah.countP p=L.countP p+((List.range A.am.toNat).map (D2 B A s)).countP p:=by
 rw[D.bP F,iz,iz];have:=em (List.countP p) (eY (BJ L A.aa) L);rw[iz]at this;omega
theorem Dn.none(D:Dn B A s L P R)(W:A.drop=true):∀c∈B.ah,c.aa≠A.aa:=by
 have h:=D.dn;unfold BY at h;rw[W]at h;simp only[gL,fS,iB]at h;obtain⟨c1,_,c3⟩:=No s.ar A.aa B.ah;unfold BD at h;rw[D.sv]at h;simp only[c1,c3]at h;have z1:B.ah.countP (LK A.aa)=0:=by omega
 have z2:B.ah.countP (endP A.aa)=0:=by omega
 intro c M e;have F:=fZ.1 z1 c M;have H:=fZ.1 z2 c M;unfold LK at F;unfold endP at H;rw[e,il]at F H;cases J:c.au<;>rw[J]at F H
 ·exact F rfl
 ·exact H rfl
end
theorem F6{a b:List UInt8}(F:Op.bytesLess b a=false)(H:(b==a)=false):Op.bytesLess a b=true:=by
 have t:=CW b a;rw[F,H]at t
 simpa using t
section
variable {B:Bk} {A:Ac} {s:Svc} {L:List Cp} {P R:List Svc}
theorem Ic(B:Bk)(A:Ac)(s:Svc):(By B A s).next=s.next+A.am/\(By B A s).ag=B.aj+1/\(By B A s).ar=s.ar/\(By B A s).aG=s.aG/\(By B A s).aE=s.aE/\(By B A s).aM=s.aM/\(By B A s).aC=s.aC/\(By B A s).aK=s.aK/\(By B A s).load=s.load/\(By B A s).av=(AQ A s).av/\(By B A s).ay=(AQ A s).ay:=by
 unfold By AQ;cases A.az<;>exact⟨rfl,rfl,rfl,rfl,rfl,rfl,rfl,rfl,rfl,rfl,rfl⟩
theorem Dn.cH(D:Dn B A s L P R)(F:Valid B):(B.ah.length:Int)+A.am<=200/\s.next+A.am<=1000000/\B.aj<1000000/\0<=B.aj/\0<=A.am/\1<=s.next:=by
 have h:=D.rn;unfold DO at h;simp only[fS,iB]at h;have e:(AQ A s).next=s.next:=by unfold AQ;cases A.az<;>rfl
 rw[e]at h;have M:=(inB_iff.1 F.aj).1;have H:=(Du D.ok).1;have J:=(F.bc (CQ D.sv)).br;omega
theorem Dn.bd(D:Dn B A s L P R)(hV:Valid B):svcB (B.aj+1) (By B A s)=true:=by
 obtain⟨_,r2,r3,r4,r5,r6⟩:=D.cH hV;obtain⟨f1,f2,f3,f4,f5,f6,f7,f8,f9,Y,Z⟩:=Ic B A s;have h:=KH hV.af (CQ D.sv);unfold Go.Proofs.YtbceafpodamnfaaGreatDoor.svcB at h ⊢;simp only[cY]at h ⊢;obtain⟨⟨⟨⟨⟨⟨⟨⟨h1,h2⟩,h3⟩,h4⟩,h5⟩,h6⟩,h7⟩,h8⟩,M⟩:=h;have J:=D.ok;unfold Bg at J;simp only[cY]at J;have H:=J.1.2;have F:=D.sn;unfold BA at F;refine⟨⟨⟨⟨⟨⟨⟨⟨by rw[Ex];exact h1,inB_iff.2 (by rw[f2];omega)⟩,by rw[f3];exact h3⟩,inB_iff.2 (by rw[f1];omega)⟩,?_⟩,by rw[f4];exact h6⟩,by rw[f5];exact h7⟩,by rw[f4,f5];exact h8⟩,?_⟩
 ·rw[Y]
  unfold AQ;cases W:A.az
  ·exact h5
  ·rw[W,dB rfl,cY]at H
   exact H.1
 ·unfold R5 at M ⊢
  rw[f6,f7,f8,f9,Z];unfold AQ;cases W:A.az
  ·exact M
  ·rw[W]at F
   rw[W,dB rfl,cY]at H;simp only[gL,fS,eL,gM]at F ⊢;rw[dC F.1]at M ⊢;simp only[cY]at M ⊢;exact⟨M.1,H.2⟩
theorem newC_cpB(D:Dn B A s L P R)(J:Valid B){j:Nat}(Y:j<A.am.toNat):cpB (Az B A) (D2 B A s j)=true:=by
 obtain⟨_,r2,r3,W,r5,r6⟩:=D.cH J
 have F:A.drop=false:=by
  cases F:A.drop
  ·rfl
  ·have:=(Fv D.ok F).1;omega
 have H:=KH J.af (CQ D.sv);unfold svcB at H;simp only[cY]at H;unfold cpB;rw[show(D2 B A s j).aa=A.aa from rfl,D.svX,F];simp only[fg,iq];have M:wrap64 (s.next+A.am - 1)=s.next+A.am - 1:=by unfold wrap64;omega
 unfold FP;rw[(Ic B A s).1,M,D.dx];simp only[cY,inB_iff];refine⟨⟨⟨⟨?_,?_⟩,inB_iff.1 H.1.1.1.1.1.1.2⟩,by show(1:Int)<=1/\(1:Int)<=4;omega⟩,by unfold Ca;rw[dB (show(D2 B A s j).ax=1 from rfl)];show(⟨#[]⟩:qB).toList.isEmpty=true;rw[fM];rfl⟩
 ·show 1<=s.next+(j:Int)/\s.next+(j:Int)<=_;omega
 ·show 1<=B.aj+1/\B.aj+1<=B.aj+1;omega
theorem old_cpB(D:Dn B A s L P R)(hV:Valid B){c:Cp}(hc:c∈L):cpB (Az B A) c=true:=by
 obtain⟨_,r2,r3,r4,r5,r6⟩:=D.cH hV;obtain⟨i,hi⟩:=ef hc;obtain⟨d,hd,e⟩:=GO _ _ _ D.mks i c hi;have M:=AE hd;have F:=cpB_of hV.ah M;have e1:c.aa=d.aa:=by rcases e with rfl|rfl<;>rfl
 have e2:c.ai=d.ai:=by rcases e with rfl|rfl<;>rfl
 have e3:c.ar=d.ar:=by rcases e with rfl|rfl<;>rfl
 have e4:c.ax=d.ax:=by rcases e with rfl|rfl<;>rfl
 have e5:c.aA=d.aA:=by rcases e with rfl|rfl<;>rfl
 have e6:c.ag=d.ag\/c.ag=B.aj+1:=by
  rcases e with rfl|rfl
  ·exact .inl rfl
  ·exact .inr rfl
 have aa:Ca (Az B A).ak c=Ca B.ak d:=by unfold Ca;rw[e4,e5,D.dx]
 have key:∀Z s2:Svc,FP B.aj Z d=true->wrap64 (Z.next - 1)<=wrap64 (s2.next - 1)->FP (Az B A).aj s2 c=true:=λZ s2 h Y=>by
  unfold FP at h ⊢;simp only[cY,inB_iff]at h ⊢;rw[e2,e3,e4,D.dx];refine⟨⟨⟨⟨h.1.1.1.1,Int.le_trans h.1.1.1.2 Y⟩,?_⟩,h.1.2⟩,h.2⟩;show 1<=c.ag/\c.ag<=B.aj+1;rcases e6 with e|e<;>rw[e]<;>omega
 unfold cpB at F ⊢;rw[aa,e1]
 by_cases W:d.aa=A.aa
 ·have H:A.drop=false:=by
   cases H:A.drop
   ·rfl
   ·exact absurd W (D.none H d M)
  rw[W,D.svX,H];rw[W,D.sv]at F;simp only[fg,iq,cY]at F ⊢;refine⟨key s _ F.1 ?_,F.2⟩;have w1:wrap64 (s.next - 1)=s.next - 1:=by unfold wrap64;omega
  have w2:wrap64 (s.next+A.am - 1)=s.next+A.am - 1:=by unfold wrap64;omega
  rw[(Ic B A s).1,w1,w2];omega
 ·rw[D.svO W]
  cases J:Ah B d.aa with
  |none=>rw[J]at F;cases F
  |some s'=>
   rw[J]at F;simp only[cY]at F ⊢;exact⟨key s' s' F.1 (fB _),F.2⟩
theorem Dn.pw(D:Dn B A s L P R)(hV:Valid B):(Az B A).ah.Pairwise λa b=>Ak a b=true:=by
 have hL:L.Pairwise λa b=>Ak a b=true:=pw_key D.aU.symm hV.pwC
 have Y:=I8 hV D.sv D.aU;rw[D.bP hV];have H:=eY (BJ L A.aa) L;have W:=hL;rw[<-H]at W;obtain⟨p1,p2,p3⟩:=fR.1 W
 have an:∀x∈L.take (BJ L A.aa),Be A.aa x=true:=λx hx=>by
  unfold BJ at hx;rw[<-KG]at hx;exact Pi hx
 have ag:∀x∈L.drop (BJ L A.aa),Be A.aa x=false:=λx hx=>by
  cases hd:L.drop (BJ L A.aa) with
  |nil=>rw[hd]at hx;cases hx
  |cons y r=>
   have F:Be A.aa y=false:=by
    have h0:=M9 (Be A.aa) L;rw[show L.drop (L.takeWhile (Be A.aa)).length=y::r from hd]at h0;cases hn:Be A.aa y
    ·rfl
    ·rw[eQ hn]at h0;cases h0
   rw[hd]at hx p2;rcases dy.1 hx with rfl|hx
   ·exact F
   ·have J:=(List.pairwise_cons.1 p2).1 x hx
    unfold Be at F ⊢;simp only[fS]at F ⊢;have Z:Op.bytesLess A.aa.toList y.aa.toList=true:=F6 F.1 F.2;unfold Ak at J;simp only[dY,cY,fq]at J
    have M:Op.bytesLess A.aa.toList x.aa.toList=true:=by
     rcases J with h|⟨h,_⟩
     ·exact B6 _ _ _ Z h
     ·rw[<-h];exact Z
    refine⟨?_,?_⟩
    ·cases hq:Op.bytesLess x.aa.toList A.aa.toList
     ·rfl
     ·have:=B6 _ _ _ M hq;rw[A4]at this;cases this
    ·cases hq:x.aa.toList==A.aa.toList
     ·rfl
     ·rw[eq_of_beq hq,A4]at M;cases M
 refine fR.2 ⟨fR.2 ⟨p1,?_,λx hx y F=>?_⟩,p2,λx hx y F=>?_⟩
 ·rw[g9]
  refine List.Pairwise.imp (R:=λa b=>a<b) (λ{a b} h=>?_) List.pairwise_lt_range;unfold Ak D2;simp;exact .inr h
 ·obtain⟨j,_,rfl⟩:=fz.1 F
  have h:=an x hx;unfold Be at h;unfold Ak;rw[show(D2 B A s j).aa=A.aa from rfl];cases he:x.aa.toList==A.aa.toList
  ·rw[he,Bool.or_false]at h;rw[h];rfl
  ·have:=Y x (eE hx) (same_nm.1 he)
   rw[dO (show x.ai<(D2 B A s j).ai by show x.ai<s.next+(j:Int);omega)];simp
 ·rcases dt.1 hx with hx|hx
  ·exact p3 x hx y F
  ·obtain⟨j,_,rfl⟩:=fz.1 hx
   have h:=ag y F;unfold Be at h;simp only[fS]at h;unfold Ak;rw[show(D2 B A s j).aa=A.aa from rfl,F6 h.1 h.2];rfl
theorem Dn.valid(D:Dn B A s L P R)(F:Valid B):Valid (Az B A):=by
 obtain⟨r1,r2,r3,r4,r5,r6⟩:=D.cH F
 have M:(Az B A).ah.length<=200:=by
  rw[D.dx];show(G5 B A s L A.am.toNat).length<=200;rw[GK,Gq _ _ _ _ _ _ _ D.mks];omega
 have J:=F.ls;have H:=F.pwS;rw[D.bs]at J H;rw[dE,dL]at J
 have W:∀x∈(Az B A).af,x∈B.af\/x=By B A s:=λx hx=>by
  rw[D.dx]at hx;rw[D.bs];simp only at hx;split at hx
  ·rcases dt.1 hx with hx|hx
   ·exact .inl (by simp[hx])
   ·exact .inl (by simp[hx])
  ·rcases dt.1 hx with hx|hx
   ·exact .inl (by simp[hx])
   ·rcases dy.1 hx with hx|hx
    ·exact .inr hx
    ·exact .inl (by simp[hx])
 have Y:(Az B A).aj=B.aj+1:=by rw[D.dx]
 refine validB_iff.1 (valid_mk (by rw[Y];omega) (by rw[Y];omega) ?_ M (by rw[D.dx];exact F.lb) (λx hx=>?_) ?_ (λt Z=>F.cQ (by rw[D.dx]at Z;exact Z)) (by rw[D.dx];exact F.pwB) (λc hc=>?_) (D.pw F))
 ·rw[D.dx]
  simp only;split
  ·rw[dE];omega
  ·rw[dE,dL];omega
 ·rw[Y]
  rcases W x hx with h|h
  ·exact Rs (KH F.af h) (by omega)
  ·rw[h];exact D.bd F
 ·rw[D.dx]
  simp only;split
  ·exact H.sublist (List.Sublist.append_left (List.sublist_cons_self ..) _)
  ·have h1:((P++s::R).map (·.name)).Pairwise λa b=>Op.bytesLess a.toList b.toList=true:=g9.2 H
   have h2:(P++s::R).map (·.name)=(P++By B A s::R).map (·.name):=by simp[Ex]
   rw[h2]at h1;exact g9.1 h1
 ·rw[D.dx]at hc
  rcases IM hc with h|⟨j,hj,rfl⟩
  ·exact old_cpB D F h
  ·exact newC_cpB D F hj
end
def Uq(l:List Cp):Prop:=∀(i j:Nat) a b,l[i]?=some a->l[j]?=some b->a.aa=b.aa->a.ai=b.ai->i=j
theorem Uq.of{l:List Cp}(h:l.Pairwise λa b=>Ak a b=true):Uq l:=by
 have key:∀(i j:Nat) a b,i<j->l[i]?=some a->l[j]?=some b->¬(a.aa=b.aa/\a.ai=b.ai):=λi j a b J F hb ⟨H,e2⟩=>by
  obtain⟨M,rfl⟩:=AC F;obtain⟨W,rfl⟩:=AC hb;have:=gb.1 h i j M W J;unfold Ak at this;rw[H,e2,A4]at this;simp at this
 intro i j a b F hb H e2;rcases Nat.lt_trichotomy i j with h|h|h
 ·exact absurd ⟨H,e2⟩ (key i j a b h F hb)
 ·exact h
 ·exact absurd ⟨H.symm,e2.symm⟩ (key j i b a h hb F)
theorem Uq.find{l:List Cp}(h:Uq l){i:Nat}{c:Cp}(F:l[i]?=some c){sv:qB}{n:Int}(J:c.aa=sv)(M:c.ai=n):l.find? (isC sv n)=some c:=by
 cases hf:l.find? (isC sv n) with
 |none=>exact absurd (isC_iff.2 ⟨J,M⟩) (by have:=fP.1 hf c (AE F);exact this)
 |some d=>
  obtain⟨j,H⟩:=ef (gc hf);obtain⟨g1,g2⟩:=isC_iff.1 (fN hf);have:=h i j c d F H (J.trans g1.symm) (M.trans g2.symm);subst this;rw[F]at H;exact H.symm
theorem Uq.aU{l l':List Cp}(h:Uq l')(hk:l.map Cv=l'.map Cv):Uq l:=by
 intro i j a b J hb Y e2;obtain⟨M,H,x1,Z⟩:=KW hk J;obtain⟨W,F,y1,y2⟩:=KW hk hb;exact h i j M W H F (x1.trans (Y.trans y1.symm)) (Z.trans (e2.trans y2.symm))
theorem Mf{sv:qB}{v:Int}{l:List Cp}{num:Int}(W:Uq l){i:Nat}{d:Cp}(H:l[i]?=some d):(Cm sv v l num)[i]?=some (if isC sv num d then Bu v d else d):=by
 cases hb:isC sv num d
 ·have Z:(Cm sv v l num)[i]?≠none:=by
   rw[Ne,fL,LH,Nat.not_le];exact(AC H).1
  obtain⟨c,M⟩:=Option.ne_none_iff_exists'.1 Z;obtain⟨d',F,e⟩:=Mg M;rw[H]at F;cases F;rcases e with rfl|⟨_,e⟩
  ·exact M
  ·rw[hb]at e;cases e
 ·obtain⟨g1,g2⟩:=isC_iff.1 hb
  have hf:=W.find H g1 g2;obtain⟨j,Y,J⟩:=Co hf;have:i=j:=W i j d d H Y rfl rfl;subst this;rw[Gr J Y,fc,dB rfl,dB (AC H).1];rfl
theorem GN{B:Bk}{s:Svc}{sv:qB}{v:Int}:∀(es:List En) (l L:List Cp),Uq l->BL B s sv v es l=some L->∀(i:Nat) d,l[i]?=some d->∃c,L[i]?=some c/\((∃e∈es,isC sv e.ai d=true)->c.au=true/\d.au=false)/\((∀e∈es,isC sv e.ai d=false)->c=d)/\(d.au=true->c.au=true)
 |[],l,L,_,h,i,d,W=>by cases h;exact⟨d,W,λ⟨_,h,_⟩=>(nomatch h),λ_=>rfl,λh=>h⟩
 |e::es,l,L,Z,h,i,d,W=>by
  unfold BL at h
  cases hf:l.find? (isC sv e.ai) with
  |none=>rw[hf]at h;cases h
  |some c0=>
   rw[hf]at h;simp only at h;split at h
   ·rename_i hm
    have aa:Uq (Cm sv v l e.ai):=Z.aU (GP ..);obtain⟨c,hc,q1,q2,q3⟩:=GN es _ L aa h i _ (Mf (v:=v) (sv:=sv) (num:=e.ai) Z W);refine⟨c,hc,λ⟨J,H,Y⟩=>?_,λhn=>?_,λM=>q3 (by split<;>first|rfl|exact M)⟩
    ·have al:∀x:Bool,isC sv J.ai (if x then Bu v d else d)=isC sv J.ai d:=λx=>by cases x<;>rfl
     by_cases F:isC sv e.ai d=true
     ·obtain⟨g1,g2⟩:=isC_iff.1 F
      rw[Z.find W g1 g2]at hf;cases hf;rw[F]at q3;unfold FY at hm;simp only[cY,eR]at hm;exact⟨q3 rfl,hm.1⟩
     ·have F:isC sv e.ai d=false:=by simpa using F
      rw[F]at q1;rcases dy.1 H with rfl|H
      ·rw[F]at Y;cases Y
      ·exact q1 ⟨J,H,Y⟩
    ·have h0:=hn e (by simp)
     rw[h0]at q2;exact q2 λJ H=>hn J (by simp[H])
   ·cases h
theorem PH{p:Cp->Bool}{sv:qB}{v:Int}{l:List Cp}{num:Int}{c:Cp}(hf:l.find? (isC sv num)=some c):(Cm sv v l num).countP p+(if p c then 1 else 0)=l.countP p+(if p (Bu v c) then 1 else 0):=by
 obtain⟨j,H,F⟩:=Co hf;obtain⟨P,R,J,_,_,e4⟩:=Kl H;rw[Gr F H,e4];rw[J];simp only[iz,fa];omega
theorem Jj{B:Bk}{s:Svc}{v:Int}(hg:s.aH=false):∀(es:List En) (l L:List Cp),Uq l->BL B s s.name v es l=some L->(s.av - s.aG<=(l.countP (EG s.name):Nat)\/∃e∈es,∃c,l.find? (isC s.name e.ai)=some c/\c.ax=3)->s.av - s.aG<=(L.countP (EG s.name):Nat)
 |[],l,L,_,h,hp=>by
  cases h;rcases hp with h|⟨_,h,_⟩
  ·exact h
  ·cases h
 |e::es,l,L,hU,h,hp=>by
  unfold BL at h
  cases hf:l.find? (isC s.name e.ai) with
  |none=>rw[hf]at h;cases h
  |some c0=>
   rw[hf]at h;simp only at h;split at h
   ·rename_i J
    have M:Uq (Cm s.name v l e.ai):=hU.aU (GP ..);have F:=PH (p:=EG s.name) (v:=v) hf;have ag:EG s.name (Bu v c0)=false:=by unfold EG Bu;simp
    have ah:=isC_iff.1 (fN hf);unfold FY at J;rw[hg]at J;simp only[cY,eR,dY,ir,dM]at J;rw[(No s.ar s.name l).2.1]at J;rw[ag]at F;refine Jj hg es _ L M h ?_
    by_cases h3:c0.ax=3
    ·have hr:EG s.name c0=true:=by unfold EG;rw[ah.1,J.1,h3];simp
     rw[hr]at F;simp only[gM,fg,iq]at F;rcases J.2 with h'|h'
     ·rw[h3]at h';cases h'
     ·exact .inl (by omega)
    ·have hr:EG s.name c0=false:=by unfold EG;rw[show(c0.ax==3)=false from by simpa using h3];simp
     rw[hr]at F;simp only[fg,iq]at F;rcases hp with hp|⟨e',H,c,Z,W⟩
     ·exact .inl (by omega)
     ·rcases dy.1 H with rfl|H
      ·rw[hf]at Z;cases Z;exact absurd W h3
      ·refine .inr ⟨e',H,?_⟩
       obtain⟨i,hi⟩:=ef (gc Z);have Y:=isC_iff.1 (fN Z);have:=Mf (v:=v) (sv:=s.name) (num:=e.ai) hU hi;refine⟨_,M.find this ?_ ?_,?_⟩
       ·split<;>exact Y.1
       ·split<;>exact Y.2
       ·split<;>exact W
   ·cases h
structure NH(B:Bk)(A:Ac)(X:Bk)(s:Svc):Prop where
 sv:Ah B A.aa=some s
 aF:s.ag=A.aF
 aj:X.aj=B.aj+1
 left:Ah X A.aa=if A.drop then none else some (By B A s)
 cr:0<A.am->A.drop=false/\(BD X A.aa).aI<=(By B A s).av+(By B A s).aE
 aw:∀e∈A.aw,∃c,B.ah.find? (isC A.aa e.ai)=some c/\c.ag=e.aF/\c.au=false
 ready:A.az=false->s.aH=false->(∃e∈A.aw,∃c,B.ah.find? (isC A.aa e.ai)=some c/\c.ax=3)->s.av - s.aG<=(BD X A.aa).ready
 cO:∀c∈B.ah,∃d,X.ah.find? (isC c.aa c.ai)=some d/\((∃e∈A.aw,isC A.aa e.ai c=true)->d.au=true)/\((∀e∈A.aw,isC A.aa e.ai c=false)->d=c)
 af:∀o∈B.af,o.name≠A.aa->Ah X o.name=some o
theorem nh_of{B:Bk}{A:Ac}(W:Valid B)(hc:Bc B A=0):Valid (Az B A)/\∃s,NH B A (Az B A) s:=by
 obtain⟨s,L,P,R,D⟩:=dn_of W hc;have hX:=D.valid W;have Z:Uq B.ah:=Uq.of W.pwC;have an:Uq (Az B A).ah:=Uq.of hX.pwC;have H:=D.mks
 have ai:∀c∈L,c∈(Az B A).ah:=λc aa=>by
  rw[D.bP W];rw[<-eY (BJ L A.aa) L]at aa;rcases dt.1 aa with h|h
  ·simp[h]
  ·simp[h]
 refine⟨hX,s,D.sv,D.aF,by rw[D.dx],D.svX,λh0=>?_,λe he=>?_,λh1 h2 h3=>?_,λc ak=>?_,λo ho ar=>?_⟩
 ·have J:A.drop=false:=by
   cases J:A.drop
   ·rfl
   ·have:=(Fv D.ok J).1;omega
  refine⟨J,?_⟩;have M:=D.mn;unfold CC at M;rw[dO h0]at M;simp only[gL,fS,iB]at M;have M:=M.2;obtain⟨_,_,_,_,f5,_,_,_,_,al,_⟩:=Ic B A s;rw[f5,al];have o:(AQ A s).aE=s.aE:=by unfold AQ;cases A.az<;>rfl
  rw[o]at M;unfold BD at M ⊢;rw[D.svX,J];rw[show Ah {B with ah:=L} A.aa=some s from D.sv]at M;simp only[fg,iq]at M ⊢;rw[(No ..).1]at M ⊢;rw[D.cI W]
  have av:((List.range A.am.toNat).map (D2 B A s)).countP (LK A.aa)<=A.am.toNat:=by
   have:=List.countP_le_length (p:=LK A.aa) (l:=(List.range A.am.toNat).map (D2 B A s))
   simpa using this
  omega
 ·have F:=dh.1 D.ees e he
  unfold CD at F
  cases hf:B.ah.find? (isC A.aa e.ai) with
  |none=>rw[hf]at F;cases F
  |some c=>
   rw[hf]at F;simp only[fq]at F;obtain⟨i,Y⟩:=ef (gc hf);obtain⟨_,_,q1,_⟩:=GN _ _ _ Z H i c Y;exact⟨c,rfl,F,(q1 ⟨e,he,fN hf⟩).2⟩
 ·have J:A.drop=false:=by
   cases J:A.drop
   ·rfl
   ·obtain⟨e,he,_⟩:=h3
    rw[(Fv D.ok J).2.2]at he;cases he
  rw[<-D.nm]at H h3;have hr:=Jj h2 _ _ _ Z H (.inr h3);unfold BD;rw[D.svX,J];simp only[fg,iq];rw[(No ..).2.1,D.cI W,<-D.nm];omega
 ·obtain⟨i,Y⟩:=ef ak
  obtain⟨d,J,q1,q2,_⟩:=GN _ _ _ Z H i c Y;obtain⟨j,hj⟩:=ef (ai d (AE J))
  have hk:d.aa=c.aa/\d.ai=c.ai:=by
   obtain⟨c',af,e⟩:=GO _ _ _ H i d J;rw[Y]at af;cases af;rcases e with rfl|rfl<;>exact⟨rfl,rfl⟩
  exact⟨d,an.find hj hk.1 hk.2,λh=>(q1 h).1,q2⟩
 ·rw[D.svO ar]
  have Z:B.af.Pairwise λa b=>Op.bytesLess a.name.toList b.name.toList=true:=W.pwS
  unfold Ah;obtain⟨i,Y⟩:=ef ho;obtain⟨P',R',e1,_⟩:=Kl Y;rw[e1]at Z ⊢;rw[gq,Ng λx hx=>NX ((fR.1 Z).2.2 x hx o (by simp)),List.find?_cons_of_pos (p:=λx:Svc=>x.name.toList==o.name.toList) (il _)];rfl
end
end Go.Proofs.YtbceafpodamnfaaGreatDoor
