import Derived.Test.YtbceafpodamnfaaGreatDoorG05
set_option linter.all false
namespace Go.Proofs.YtbceafpodamnfaaGreatDoor
section
open Go.RowKit
theorem Es{α:Type}{c:α->List Value}{n:Nat}(z:∀s,(c s).length=n)(l:List α):(l.flatMap c).length=l.length*n:=by
 induction l with
 |nil=>simp
 |cons x l F=>rw[eB,dE,F,z,dM,fV];omega
theorem FV{α:Type}{c:α->List Value}{n:Nat}(z:∀s,(c s).length=n):∀(l:List α) (j:Nat) (u:Value),(l.flatMap c)[j]?=some u->∃i k s,l[i]?=some s/\(c s)[k]?=some u/\j=i*n+k
 |[],j,u,h=>by simp at h
 |x::l,j,u,h=>by
  rw[eB]at h
  by_cases J:j<n
  ·rw[dT (by rw[z];exact J)]at h
   exact⟨0,j,x,rfl,h,qo⟩
  ·rw[dU (by rw[z];omega),z]at h
   obtain⟨i,k,s,F,H,M⟩:=FV z l _ u h;exact⟨i+1,k,s,by simpa using F,H,by rw[fV];omega⟩
theorem F8{α:Type}{c:α->List Value}{n:Nat}(F:∀s,(c s).length=n):∀(l:List α) (i:Nat) (s:α) (k:Nat) (u:Value),l[i]?=some s->(c s)[k]?=some u->(l.flatMap c)[i*n+k]?=some u
 |[],i,s,k,u,h,_=>by simp at h
 |x::l,0,s,k,u,h,z=>by
  simp at h;subst h;have hk:k<(c x).length:=(AC z).1;rw[eB,ik,dL,dT hk];exact z
 |x::l,i+1,s,k,u,h,z=>by
  rw[eB,dU (by rw[F,fV];omega),F,show(i+1)*n+k - n=i*n+k by rw[fV];omega];exact F8 F l i s k u (by simpa using h) z
def Af(l:List Svc):List Value:=l.flatMap Svc.cells
def Ay(l:List Cp):List Value:=l.flatMap Cp.cells
def Cd(l:List Bt):List Value:=l.flatMap Bt.cells
theorem GN(l:List Svc):(Af l).length=l.length*13:=Es (c:=Svc.cells) (n:=13) (λ_=>rfl) l
theorem CJ(l:List Cp):(Ay l).length=l.length*7:=Es (c:=Cp.cells) (n:=7) (λ_=>rfl) l
theorem KJ(l:List Bt):(Cd l).length=l.length*2:=Es (c:=Bt.cells) (n:=2) (λ_=>rfl) l
theorem IM(l:List Svc):∀u∈Af l,u.oneCell'=true:=λu z=>by
 obtain⟨s,_,h⟩:=dZ.1 z;simp[Svc.cells]at h;rcases h with rfl|rfl|rfl|rfl|rfl|rfl|rfl|rfl|rfl|rfl|rfl|rfl|rfl<;>rfl
theorem Hy(l:List Cp):∀u∈Ay l,u.oneCell'=true:=λu z=>by
 obtain⟨s,_,h⟩:=dZ.1 z;simp[Cp.cells]at h;rcases h with rfl|rfl|rfl|rfl|rfl|rfl|rfl<;>rfl
theorem NP(l:List Bt):∀u∈Cd l,u.oneCell'=true:=λu z=>by
 obtain⟨s,_,h⟩:=dZ.1 z;simp[Bt.cells]at h;rcases h with rfl|rfl<;>rfl
theorem SvcAt.get{w:World}{b o:Nat}{s:Svc}(h:SvcAt w b o s)(k:Nat)(u:Value)(z:s.cells[k]?=some u):w.cell? ⟨b,o+k,none⟩=some u:=by
 obtain⟨M,O,W,Y,Z,h5,h6,h7,h8,h9,F,H,J⟩:=h
 match k,z with
 |0,z=>obtain rfl:=dj z;exact M
 |1,z=>obtain rfl:=dj z;exact O
 |2,z=>obtain rfl:=dj z;exact W
 |3,z=>obtain rfl:=dj z;exact Y
 |4,z=>obtain rfl:=dj z;exact Z
 |5,z=>obtain rfl:=dj z;exact h5
 |6,z=>obtain rfl:=dj z;exact h6
 |7,z=>obtain rfl:=dj z;exact h7
 |8,z=>obtain rfl:=dj z;exact h8
 |9,z=>obtain rfl:=dj z;exact h9
 |10,z=>obtain rfl:=dj z;exact F
 |11,z=>obtain rfl:=dj z;exact H
 |12,z=>obtain rfl:=dj z;exact J
 |k+13,z=>simp[Svc.cells]at z
theorem CpAt.get{w:World}{b o:Nat}{s:Cp}(h:CpAt w b o s)(k:Nat)(u:Value)(z:s.cells[k]?=some u):w.cell? ⟨b,o+k,none⟩=some u:=by
 obtain⟨F,H,J,M,O,W,Y⟩:=h
 match k,z with
 |0,z=>obtain rfl:=dj z;exact F
 |1,z=>obtain rfl:=dj z;exact H
 |2,z=>obtain rfl:=dj z;exact J
 |3,z=>obtain rfl:=dj z;exact M
 |4,z=>obtain rfl:=dj z;exact O
 |5,z=>obtain rfl:=dj z;exact W
 |6,z=>obtain rfl:=dj z;exact Y
 |k+7,z=>simp[Cp.cells]at z
theorem BtAt.get{w:World}{b o:Nat}{s:Bt}(h:BtAt w b o s)(k:Nat)(u:Value)(z:s.cells[k]?=some u):w.cell? ⟨b,o+k,none⟩=some u:=by
 obtain⟨F,H⟩:=h
 match k,z with
 |0,z=>obtain rfl:=dj z;exact F
 |1,z=>obtain rfl:=dj z;exact H
 |k+2,z=>simp[Bt.cells]at z
theorem SlS.bG{w:World}{ao:qO}{l:List Svc}(h:SlS w ao l):l.length≠0->∃ad,ao=some ad/\∀j u,(Af l)[j]?=some u->w.cell? (ad.add j)=some u:=λF=>by
 obtain⟨b,O,e,_,z⟩:=h (by intro h;rw[h]at F;simp at F);refine⟨_,e,λj u M=>?_⟩;obtain⟨i,k,s,H,J,rfl⟩:=FV (c:=Svc.cells) (n:=13) (λ_=>rfl) l j u M;have:=(z i s H).get k u J;rw[eG,<-fP]at this;exact this
theorem SlC.bG{w:World}{ao:qO}{l:List Cp}(h:SlC w ao l):l.length≠0->∃ad,ao=some ad/\∀j u,(Ay l)[j]?=some u->w.cell? (ad.add j)=some u:=λF=>by
 obtain⟨b,O,e,_,z⟩:=h (by intro h;rw[h]at F;simp at F);refine⟨_,e,λj u M=>?_⟩;obtain⟨i,k,s,H,J,rfl⟩:=FV (c:=Cp.cells) (n:=7) (λ_=>rfl) l j u M;have:=(z i s H).get k u J;rw[eG,<-fP]at this;exact this
theorem SlB.bG{w:World}{ao:qO}{l:List Bt}(h:SlB w ao l):l.length≠0->∃ad,ao=some ad/\∀j u,(Cd l)[j]?=some u->w.cell? (ad.add j)=some u:=λF=>by
 obtain⟨b,O,e,_,z⟩:=h (by intro h;rw[h]at F;simp at F);refine⟨_,e,λj u M=>?_⟩;obtain⟨i,k,s,H,J,rfl⟩:=FV (c:=Bt.cells) (n:=2) (λ_=>rfl) l j u M;have:=(z i s H).get k u J;rw[eG,<-fP]at this;exact this
theorem RowIs.ck{w:World}{e:TypeId}{g n cap:Nat}{l:List Svc}(h:RowIs w e 13 g n cap (Af l)):SlS w (qad g) l:=λ_=>
 ⟨g,0,rfl,h.lt,λi s z=>by
  have:=λk u F=>h.cell (F8 (c:=Svc.cells) (n:=13) (λ_=>rfl) l i s k u z F)
  unfold SvcAt;rw[dL]
  exact⟨this 0 _ rfl,this 1 _ rfl,this 2 _ rfl,this 3 _ rfl,this 4 _ rfl,this 5 _ rfl,this 6 _ rfl,this 7 _ rfl,this 8 _ rfl,this 9 _ rfl,this 10 _ rfl,this 11 _ rfl,this 12 _ rfl⟩⟩
theorem RowIs.bZ{w:World}{e:TypeId}{g n cap:Nat}{l:List Cp}(h:RowIs w e 7 g n cap (Ay l)):SlC w (qad g) l:=λ_=>
 ⟨g,0,rfl,h.lt,λi s z=>by
  have:=λk u F=>h.cell (F8 (c:=Cp.cells) (n:=7) (λ_=>rfl) l i s k u z F)
  unfold CpAt;rw[dL]
  exact⟨this 0 _ rfl,this 1 _ rfl,this 2 _ rfl,this 3 _ rfl,this 4 _ rfl,this 5 _ rfl,this 6 _ rfl⟩⟩
theorem RowIs.cA{w:World}{e:TypeId}{g n cap:Nat}{l:List Bt}(h:RowIs w e 2 g n cap (Cd l)):SlB w (qad g) l:=λ_=>
 ⟨g,0,rfl,h.lt,λi s z=>by
  have:=λk u F=>h.cell (F8 (c:=Bt.cells) (n:=2) (λ_=>rfl) l i s k u z F)
  unfold BtAt;rw[dL]
  exact⟨this 0 _ rfl,this 1 _ rfl⟩⟩
def F5{α:Type}(p:α->Bool)(l:List α):Int:=match l.findIdx? p with|some i=>(i:Int)|none=> -1
def Nr(l:List Svc)(n:qB):Int:=F5 (λs=>s.name.toList==n.toList) l
def idxB(l:List Bt)(n:qB):Int:=F5 (λs=>s.name.toList==n.toList) l
theorem Eb{α:Type}{p:α->Bool}{l:List α}{k:Nat}{s:α}(hk:l[k]?=some s)(M:p s=true)(z:∀i,i<k->∀s,l[i]?=some s->p s=false):F5 p l=k:=by
 obtain⟨F,H⟩:=AC hk
 have:l.findIdx? p=some k:=by
  rw[fp];refine⟨F,by rw[H];exact M,λj J=>?_⟩;rw[z j J _ (dz qo)];simp
 simp[F5,this]
theorem JL{α:Type}{p:α->Bool}{l:List α}(z:∀(i:Nat) s,l[i]?=some s->p s=false):F5 p l= -1:=by
 have:l.findIdx? p=none:=by
  rw[List.findIdx?_eq_none_iff];intro x hx;obtain⟨i,F,rfl⟩:=iY.1 hx;exact z i _ (dz F)
 simp[F5,this]
def isC(sv:qB)(num:Int)(c:Cp):Bool:=c.aa.toList==sv.toList&&c.ak==num
def KB(l:List Cp)(sv:qB)(num:Int):Int:=F5 (isC sv num) l
theorem DY{α:Type}{p:α->Bool}{l:List α}{s:α}(h:l.find? p=some s):∃i:Nat,l[i]?=some s/\F5 p l=(i:Int):=by
 rw[gD]at h;obtain⟨O,i,F,H,z⟩:=h;refine⟨i,by rw[dz F,H],Eb (by rw[dz F,H]) O λj M t W=>?_⟩;have:=z j M;obtain⟨Y,J⟩:=AC W;rw[J]at this
 simpa using this
theorem G6{α:Type}{p:α->Bool}{l:List α}(h:l.find? p=none):F5 p l= -1:=by
 rw[fS]at h;exact JL λi s z=>by have:=h s (AE z);simpa using this
theorem idxOf_ge{α:Type}(p:α->Bool)(l:List α):decide (0<=F5 p l)=l.any p:=by
 cases h:l.find? p with
 |none=>
  rw[G6 h];rw[fS]at h
  symm
  rw[show decide ((0:Int)<= -1)=false from by decide,List.any_eq_false];exact h
 |some s=>
  obtain⟨i,z,e⟩:=DY h;rw[e];have:decide (0<=(i:Int))=true:=by simp
  rw[this];symm;rw[fJ];exact⟨s,AE z,gM h⟩
def A5(B:Bk)(n:qB):Option Svc:=B.ah.find? λs=>s.name.toList==n.toList
def GI(av:Int)(s:Svc)(c:Cp):Bool:=inB c.ak 1 (wrap64 (s.next - 1))&&inB c.ag 1 av&&inB c.aj 1 1000000&&inB c.ay 1 4
def Cu(aw:List Bt)(c:Cp):Bool:=if c.ay=1 then c.aC.toList.isEmpty else aw.any λb=>b.name.toList==c.aC.toList
def cpB(B:Bk)(c:Cp):Bool:=match A5 B c.aa with|none=>false|some s=>GI B.av s c&&Cu B.aw c
end
section
open Go.RowKit
open Go.Value renaming int->In,slice->Sl,string->Sg,bool->Bo,pointer->Po
open Go.IntKind renaming i64->i6
structure Cnt where
 aE:Int
 ready:Int
 aO:Int
 aD:Int
 am:Int
abbrev qtV (N:Cnt):Array Value:=#[In i6 N.aE,In i6 N.ready,In i6 N.aO,In i6 N.aD,In i6 N.am]
abbrev qhV (s:Svc) (N:Cnt) (d:Int) (x:qO) (n c:Nat):Array Value:=#[Sg s.name,In i6 s.ag,Bo s.aH,In i6 s.aj,In i6 s.au,In i6 s.aK,In i6 s.aG,In i6 s.next,In i6 s.aQ,In i6 s.az,In i6 s.aI,In i6 s.load,In i6 s.aA,In i6 N.aE,In i6 N.ready,In i6 N.aO,In i6 N.aD,In i6 N.am,In i6 d,Sl x n c]
def Cnt.none:Cnt:=⟨0,0,0,0,0⟩
def IC(b:Bool)(n:Int):Int:=if b then n+1 else n
def DF(img:Int)(c:Cp)(n:Cnt):Cnt:=
 if c.am then {n with am:=n.am+1}
 else⟨n.aE+1,IC (c.ay==3) n.ready,IC (c.aj !=img) n.aO,IC (c.ay==4) n.aD,n.am⟩
def Cc(img:Int)(sv:qB)(c:Cp)(n:Cnt):Cnt:=if c.aa.toList==sv.toList then DF img c n else n
def Ar(img:Int)(sv:qB)(l:List Cp)(k:Nat):Cnt:=(l.take k).foldl (λn c=>Cc img sv c n) Cnt.none
theorem TU(img:Int)(sv:qB)(l:List Cp)(k:Nat)(c:Cp)(h:l[k]?=some c):Ar img sv l (k+1)=Cc img sv c (Ar img sv l k):=by
 obtain⟨hk,e⟩:=AC h;unfold Ar;rw[List.take_succ_eq_append_getElem hk,iP,e];rfl
def Cnt.bj(n:Cnt)(k:Nat):Prop:=0<=n.aE/\n.aE<=k/\0<=n.ready/\n.ready<=k/\0<=n.aO/\n.aO<=k/\0<=n.aD/\n.aD<=k/\0<=n.am/\n.am<=k
theorem LR(img:Int)(sv:qB)(c:Cp)(n:Cnt)(k:Nat)(h:n.bj k):(Cc img sv c n).bj (k+1):=by
 unfold Cnt.bj at *;unfold Cc DF IC;split
 ·split
  ·dsimp only;omega
  ·dsimp only;repeat' split
   all_goals omega
 ·omega
theorem Of(img:Int)(sv:qB):∀(l:List Cp) (n:Cnt) (k:Nat),n.bj k->(l.foldl (λn c=>Cc img sv c n) n).bj (k+l.length)
 |[],n,k,h=>h
 |c::l,n,k,h=>by
  have:=Of img sv l (Cc img sv c n) (k+1) (LR img sv c n k h);rw[gh,dM,iI l.length 1,<-eG];exact this
theorem Ed(img:Int)(sv:qB)(l:List Cp)(k:Nat)(hk:k<=l.length):(Ar img sv l k).bj k:=by
 have:=Of img sv (l.take k) Cnt.none 0 (by unfold Cnt.bj Cnt.none;dsimp only;omega);rw[dI,dL,gT hk]at this;exact this
def BG(B:Bk)(sv:qB):Cnt:=match A5 B sv with|none=>Cnt.none|some s=>Ar s.aj sv B.ar B.ar.length
def FA(B:Bk)(s:Svc)(sv:qB)(c:Cp):Bool:=!c.am&&(c.ay !=3||(s.aH||decide (s.au - s.aK<=(Ar s.aj sv B.ar B.ar.length).ready - 1)))
end
section
open Go.RowKit
def An(a b:Cp):Bool:=Op.bytesLess a.aa.toList b.aa.toList||(a.aa.toList==b.aa.toList&&decide (a.ak<b.ak))
def BJ(B:Bk)(k:Nat):Bool:=match B.ah[k]? with
 |none=>true
 |some s=>svcB B.av s&&(k==0||match B.ah[k - 1]? with|none=>true|some p=>Op.bytesLess p.name.toList s.name.toList)
def CQ(B:Bk)(k:Nat):Bool:=match B.aw[k]? with
 |none=>true
 |some s=>Dh s.name&&(k==0||match B.aw[k - 1]? with|none=>true|some p=>Op.bytesLess p.name.toList s.name.toList)
def BI(B:Bk)(k:Nat):Bool:=match B.ar[k]? with
 |none=>true
 |some s=>cpB B s&&(k==0||match B.ar[k - 1]? with|none=>true|some p=>An p s)
def BT(f:Nat->Bool)(n:Nat):Bool:=(List.range n).all f
def Aj(B:Bk):Bool:=inB B.av 0 1000000&&decide (B.ah.length<=8)&&decide (B.ar.length<=200)&&decide (B.aw.length<=6)&&BT (BJ B) B.ah.length&&BT (CQ B) B.aw.length&&BT (BI B) B.ar.length
theorem CY{f:Nat->Bool}{n:Nat}(h:∀i,i<n->f i=true):BT f n=true:=by
 unfold BT;rw[dt];intro i z;exact h i (dH.1 z)
theorem Ao{f:Nat->Bool}{n k:Nat}(hk:k<n)(h:f k=false):BT f n=false:=by
 unfold BT;rw[List.all_eq_false];exact⟨k,dH.2 hk,by rw[h];simp⟩
theorem A9{f:Nat->Bool}{k:Nat}(h:∀i,i<k->f i=true)(hk:f k=true):∀i,i<k+1->f i=true:=λi F=>by
 rcases eW i k with z|z
 ·exact h i z
 ·rw[show i=k by omega];exact hk
def Qy(s:Svc):Bool:=inB s.aj 1 1000000&&inB s.next 1 1000000&&inB s.au 0 10
def Hj(s:Svc):Bool:=inB s.aK 0 10&&inB s.aG 0 10&&(s.aK !=0||s.aG !=0)
def F7(s:Svc):Bool:=inB s.aQ 0 1000000&&inB s.load 0 1000000&&inB s.az 0 10&&inB s.aI 0 10&&decide (s.az<=s.aI)&&inB s.aA 0 3
def Hh(s:Svc):Bool:=s.aQ !=0||(s.az==0&&s.aI==0&&s.load==0&&s.aA==0)
theorem EQ(av:Int)(s:Svc):svcB av s=(inB s.ag 1 av&&(Dh s.name&&Qy s&&Hj s&&F7 s&&Hh s)):=by
 unfold svcB;generalize Dh s.name=n;cases n
 ·simp
 ·rw[gA]
  by_cases z:s.aQ=0
  ·simp[Qt,Qy,Hj,F7,Hh,inB,z]
   omega
  ·simp only[Qt,Qy,Hj,F7,Hh,inB,di,ep,dS,fw,fg,bne_iff_ne,fN,ne_eq,fH,dk z]
   omega
theorem BE:∀l:List UInt8,Op.bytesLess l l=false
 |[]=>rfl
 |a::x=>by simp[Op.bytesLess,BE x]
theorem Cm:∀a b:List UInt8,(Op.bytesLess a b||a==b)=!(Op.bytesLess b a)
 |[],[]=>by simp[Op.bytesLess]
 |[],_::_=>by simp[Op.bytesLess]
 |_::_,[]=>by simp[Op.bytesLess]
 |a::x,b::y=>by
  have M:=Cm x y;simp only[Op.bytesLess];rcases jj a.toNat b.toNat with h|h|h
  ·have H:a<b:=gC.2 h
   have F:¬b<a:=λz=>by have:=gC.1 z;omega
   have J:(b==a)=false:=by rw[fg];intro e;rw[e]at h;omega
   simp[H,F,J]
  ·have e:a=b:=UInt8.toNat_inj.1 h
   subst e;have F:¬a<a:=λz=>by have:=gC.1 z;omega
   simp[F]at M ⊢;exact M
  ·have H:b<a:=gC.2 h
   have F:¬a<b:=λz=>by have:=gC.1 z;omega
   have J:(a==b)=false:=by rw[fg];intro e;rw[e]at h;omega
   simp[H,F,J]
theorem CP:∀a b c:List UInt8,Op.bytesLess a b=true->Op.bytesLess b c=true->Op.bytesLess a c=true
 |_,[],_,h,_=>by simp[Op.bytesLess]at h
 |_,_::_,[],_,h=>by simp[Op.bytesLess]at h
 |[],_::_,_::_,_,_=>by simp[Op.bytesLess]
 |a::x,b::y,c::z,h,k=>by
  simp only[Op.bytesLess,ep,di,dS,fN,gC]at *;rcases h with h|⟨rfl,h⟩
  ·rcases k with k|⟨rfl,k⟩
   ·exact Or.inl qo
   ·exact Or.inl h
  ·rcases k with k|⟨rfl,k⟩
   ·exact Or.inl k
   ·exact Or.inr ⟨rfl,CP x y z h k⟩
theorem same_nm{a b:qB}:(a.toList==b.toList)=true↔a=b:=by
 rw[fN,fY,fY];constructor
 ·intro h
  cases a;cases b;simp only[ByteArray.mk.injEq];exact iV.1 h
 ·intro h;rw[h]
theorem Lt{B:Bk}(h:BT (BI B) B.ar.length=true):∀i,i<B.ar.length->BI B i=true:=λi z=>by
 unfold BT at h;exact dt.1 h i (dH.2 z)
theorem cpB_of{B:Bk}(h:BT (BI B) B.ar.length=true){c:Cp}(F:c∈B.ar):cpB B c=true:=by
 obtain⟨i,z⟩:=eD F;have:=Lt h i (AC z).1;unfold BI at this;rw[z]at this;simp only[di]at this;exact this.1
theorem IP{B:Bk}(h:BT (BJ B) B.ah.length=true){s:Svc}(H:s∈B.ah):svcB B.av s=true:=by
 obtain⟨i,F⟩:=eD H;have z:BJ B i=true:=by unfold BT at h;exact dt.1 h i (dH.2 (AC F).1)
 unfold BJ at z;rw[F]at z;simp only[di]at z;exact z.1
structure Valid(B:Bk):Prop where
 av:inB B.av 0 1000000=true
 ls:B.ah.length<=8
 lc:B.ar.length<=200
 lb:B.aw.length<=6
 ah:BT (BJ B) B.ah.length=true
 aw:BT (CQ B) B.aw.length=true
 ar:BT (BI B) B.ar.length=true
theorem validB_iff{B:Bk}:Aj B=true↔Valid B:=by
 unfold Aj;simp only[di,dS];exact⟨λ⟨⟨⟨⟨⟨⟨a,b⟩,c⟩,d⟩,e⟩,f⟩,g⟩=>⟨a,b,c,d,e,f,g⟩,λh=>⟨⟨⟨⟨⟨⟨h.av,h.ls⟩,h.lc⟩,h.lb⟩,h.ah⟩,h.aw⟩,h.ar⟩⟩
theorem inB_iff{n lo z:Int}:inB n lo z=true↔lo<=n/\n<=z:=by
 unfold inB;simp
theorem Valid.bH{B:Bk}(h:Valid B){c:Cp}(F:c∈B.ar):∃s,A5 B c.aa=some s/\GI B.av s c=true:=by
 have:=cpB_of h.ar F;unfold cpB at this
 cases z:A5 B c.aa with
 |none=>rw[z]at this;cases this
 |some s=>rw[z]at this;simp only[di]at this;exact⟨s,rfl,this.1⟩
theorem Dc{B:Bk}{x:qB}{s:Svc}(h:A5 B x=some s):s∈B.ah:=iy h
structure DR(s:Svc):Prop where
 ba:0<=s.au
 bd:s.au<=10
 cn:0<=s.aK
 cu:s.aK<=10
 bm:0<=s.aG
 bn:s.aG<=10
 bB:1<=s.next
 bK:s.next<=1000000
theorem Valid.bc{B:Bk}(h:Valid B){s:Svc}(M:s∈B.ah):DR s:=by
 have:=IP h.ah M;unfold svcB at this;simp only[di,inB_iff]at this;obtain⟨⟨⟨⟨⟨⟨_,z⟩,F⟩,H⟩,J⟩,_⟩,_⟩:=this;exact⟨F.1,F.2,H.1,H.2,J.1,J.2,z.1,z.2⟩
theorem isC_iff{sv:qB}{num:Int}{c:Cp}:isC sv num c=true↔c.aa=sv/\c.ak=num:=by
 unfold isC;rw[di,fN (a:=c.ak)];exact and_congr_left λ_=>same_nm
end
end Go.Proofs.YtbceafpodamnfaaGreatDoor
