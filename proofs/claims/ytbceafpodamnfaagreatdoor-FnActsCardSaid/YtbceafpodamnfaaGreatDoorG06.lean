import Derived.Test.YtbceafpodamnfaaGreatDoorG01
import Derived.Test.YtbceafpodamnfaaGreatDoorG05
import Derived.Lib.QuietBelow
import Derived.BigQuiet
import Derived.Lib.AppendZeros
import Derived.Lib.Overlaps
import Derived.Laws.Externs
set_option linter.all false
namespace Go.Proofs.YtbceafpodamnfaaGreatDoor
section
open Go.RowKit
theorem D4{α:Type}{c:α->List Value}{n:Nat}(F:∀s,(c s).length=n)(l:List α):(l.flatMap c).length=l.length*n:=by
 induction l with
 |nil=>simp
 |cons x l H=>rw[eI,dE,H,F,dL,fG];omega
theorem Ef{α:Type}{c:α->List Value}{n:Nat}(F:∀s,(c s).length=n):∀(l:List α) (j:Nat) (u:Value),(l.flatMap c)[j]?=some u->∃i k s,l[i]?=some s/\(c s)[k]?=some u/\j=i*n+k
 |[],j,u,h=>by simp at h
 |x::l,j,u,h=>by
  rw[eI]at h
  by_cases M:j<n
  ·rw[dU (by rw[F];exact M)]at h
   exact⟨0,j,x,rfl,h,by omega⟩
  ·rw[dX (by rw[F];omega),F]at h
   obtain⟨i,k,s,H,J,W⟩:=Ef F l _ u h;exact⟨i+1,k,s,by simpa using H,J,by rw[fG];omega⟩
theorem FK{α:Type}{c:α->List Value}{n:Nat}(H:∀s,(c s).length=n):∀(l:List α) (i:Nat) (s:α) (k:Nat) (u:Value),l[i]?=some s->(c s)[k]?=some u->(l.flatMap c)[i*n+k]?=some u
 |[],i,s,k,u,h,_=>by simp at h
 |x::l,0,s,k,u,h,F=>by
  simp at h;subst h;have hk:k<(c x).length:=(AC F).1;rw[eI,iD,dJ,dU hk];exact F
 |x::l,i+1,s,k,u,h,F=>by
  rw[eI,dX (by rw[H,fG];omega),H,show(i+1)*n+k - n=i*n+k by rw[fG];omega];exact FK H l i s k u (by simpa using h) F
def Ab(l:List Svc):List Value:=l.flatMap Svc.cells
def Ar(l:List Cp):List Value:=l.flatMap Cp.cells
def CN(l:List Bt):List Value:=l.flatMap Bt.cells
theorem FSa(l:List Svc):(Ab l).length=l.length*13:=D4 (c:=Svc.cells) (n:=13) (λ_=>rfl) l
theorem Bz(l:List Cp):(Ar l).length=l.length*7:=D4 (c:=Cp.cells) (n:=7) (λ_=>rfl) l
theorem If(l:List Bt):(CN l).length=l.length*2:=D4 (c:=Bt.cells) (n:=2) (λ_=>rfl) l
theorem Gg(l:List Svc):∀u∈Ab l,u.oneCell'=true:=λu F=>by
 obtain⟨s,_,h⟩:=dR.1 F;simp[Svc.cells]at h;rcases h with rfl|rfl|rfl|rfl|rfl|rfl|rfl|rfl|rfl|rfl|rfl|rfl|rfl<;>rfl
theorem GU(l:List Cp):∀u∈Ar l,u.oneCell'=true:=λu F=>by
 obtain⟨s,_,h⟩:=dR.1 F;simp[Cp.cells]at h;rcases h with rfl|rfl|rfl|rfl|rfl|rfl|rfl<;>rfl
theorem Lf(l:List Bt):∀u∈CN l,u.oneCell'=true:=λu F=>by
 obtain⟨s,_,h⟩:=dR.1 F;simp[Bt.cells]at h;rcases h with rfl|rfl<;>rfl
theorem SvcAt.get{w:World}{b o:Nat}{s:Svc}(h:SvcAt w b o s)(k:Nat)(u:Value)(F:s.cells[k]?=some u):w.cell? ⟨b,o+k,none⟩=some u:=by
 obtain⟨W,h1,h2,Y,h4,Z,h6,h7,h8,h9,M,H,J⟩:=h
 match k,F with
 |0,F=>obtain rfl:=dg F;exact W
 |1,F=>obtain rfl:=dg F;exact h1
 |2,F=>obtain rfl:=dg F;exact h2
 |3,F=>obtain rfl:=dg F;exact Y
 |4,F=>obtain rfl:=dg F;exact h4
 |5,F=>obtain rfl:=dg F;exact Z
 |6,F=>obtain rfl:=dg F;exact h6
 |7,F=>obtain rfl:=dg F;exact h7
 |8,F=>obtain rfl:=dg F;exact h8
 |9,F=>obtain rfl:=dg F;exact h9
 |10,F=>obtain rfl:=dg F;exact M
 |11,F=>obtain rfl:=dg F;exact H
 |12,F=>obtain rfl:=dg F;exact J
 |k+13,F=>simp[Svc.cells]at F
theorem CpAt.get{w:World}{b o:Nat}{s:Cp}(h:CpAt w b o s)(k:Nat)(u:Value)(F:s.cells[k]?=some u):w.cell? ⟨b,o+k,none⟩=some u:=by
 obtain⟨Y,H,J,Z,W,h5,M⟩:=h
 match k,F with
 |0,F=>obtain rfl:=dg F;exact Y
 |1,F=>obtain rfl:=dg F;exact H
 |2,F=>obtain rfl:=dg F;exact J
 |3,F=>obtain rfl:=dg F;exact Z
 |4,F=>obtain rfl:=dg F;exact W
 |5,F=>obtain rfl:=dg F;exact h5
 |6,F=>obtain rfl:=dg F;exact M
 |k+7,F=>simp[Cp.cells]at F
theorem BtAt.get{w:World}{b o:Nat}{s:Bt}(h:BtAt w b o s)(k:Nat)(u:Value)(F:s.cells[k]?=some u):w.cell? ⟨b,o+k,none⟩=some u:=by
 obtain⟨J,H⟩:=h
 match k,F with
 |0,F=>obtain rfl:=dg F;exact J
 |1,F=>obtain rfl:=dg F;exact H
 |k+2,F=>simp[Bt.cells]at F
theorem SlS.bw{w:World}{ao:qO}{l:List Svc}(h:SlS w ao l):l.length≠0->∃ad,ao=some ad/\∀j u,(Ab l)[j]?=some u->w.cell? (ad.add j)=some u:=λH=>by
 obtain⟨b,off,e,_,F⟩:=h (by intro h;rw[h]at H;simp at H);refine⟨_,e,λj u J=>?_⟩;obtain⟨i,k,s,M,W,rfl⟩:=Ef (c:=Svc.cells) (n:=13) (λ_=>rfl) l j u J;have:=(F i s M).get k u W;rw[eq,<-fJ]at this;exact this
theorem SlC.bw{w:World}{ao:qO}{l:List Cp}(h:SlC w ao l):l.length≠0->∃ad,ao=some ad/\∀j u,(Ar l)[j]?=some u->w.cell? (ad.add j)=some u:=λH=>by
 obtain⟨b,off,e,_,F⟩:=h (by intro h;rw[h]at H;simp at H);refine⟨_,e,λj u J=>?_⟩;obtain⟨i,k,s,M,W,rfl⟩:=Ef (c:=Cp.cells) (n:=7) (λ_=>rfl) l j u J;have:=(F i s M).get k u W;rw[eq,<-fJ]at this;exact this
theorem SlB.bw{w:World}{ao:qO}{l:List Bt}(h:SlB w ao l):l.length≠0->∃ad,ao=some ad/\∀j u,(CN l)[j]?=some u->w.cell? (ad.add j)=some u:=λH=>by
 obtain⟨b,off,e,_,F⟩:=h (by intro h;rw[h]at H;simp at H);refine⟨_,e,λj u J=>?_⟩;obtain⟨i,k,s,M,W,rfl⟩:=Ef (c:=Bt.cells) (n:=2) (λ_=>rfl) l j u J;have:=(F i s M).get k u W;rw[eq,<-fJ]at this;exact this
theorem RowIs.bW{w:World}{e:TypeId}{g n cap:Nat}{l:List Svc}(h:RowIs w e 13 g n cap (Ab l)):SlS w (qad g) l:=λ_=>
 ⟨g,0,rfl,h.lt,λi s H=>by
  have:=λk u F=>h.cell (FK (c:=Svc.cells) (n:=13) (λ_=>rfl) l i s k u H F)
  unfold SvcAt;rw[dJ]
  exact⟨this 0 _ rfl,this 1 _ rfl,this 2 _ rfl,this 3 _ rfl,this 4 _ rfl,this 5 _ rfl,this 6 _ rfl,this 7 _ rfl,this 8 _ rfl,this 9 _ rfl,this 10 _ rfl,this 11 _ rfl,this 12 _ rfl⟩⟩
theorem RowIs.bT{w:World}{e:TypeId}{g n cap:Nat}{l:List Cp}(h:RowIs w e 7 g n cap (Ar l)):SlC w (qad g) l:=λ_=>
 ⟨g,0,rfl,h.lt,λi s H=>by
  have:=λk u F=>h.cell (FK (c:=Cp.cells) (n:=7) (λ_=>rfl) l i s k u H F)
  unfold CpAt;rw[dJ]
  exact⟨this 0 _ rfl,this 1 _ rfl,this 2 _ rfl,this 3 _ rfl,this 4 _ rfl,this 5 _ rfl,this 6 _ rfl⟩⟩
theorem RowIs.cx{w:World}{e:TypeId}{g n cap:Nat}{l:List Bt}(h:RowIs w e 2 g n cap (CN l)):SlB w (qad g) l:=λ_=>
 ⟨g,0,rfl,h.lt,λi s H=>by
  have:=λk u F=>h.cell (FK (c:=Bt.cells) (n:=2) (λ_=>rfl) l i s k u H F)
  unfold BtAt;rw[dJ]
  exact⟨this 0 _ rfl,this 1 _ rfl⟩⟩
def FI{α:Type}(p:α->Bool)(l:List α):Int:=match l.findIdx? p with|some i=>(i:Int)|none=> -1
def L6(l:List Svc)(n:qB):Int:=FI (λs=>s.name.toList==n.toList) l
def idxB(l:List Bt)(n:qB):Int:=FI (λs=>s.name.toList==n.toList) l
theorem Ds{α:Type}{p:α->Bool}{l:List α}{k:Nat}{s:α}(hk:l[k]?=some s)(M:p s=true)(F:∀i,i<k->∀s,l[i]?=some s->p s=false):FI p l=k:=by
 obtain⟨H,J⟩:=AC hk
 have:l.findIdx? p=some k:=by
  rw[fV];refine⟨H,by rw[J];exact M,λj W=>?_⟩;rw[F j W _ (dj (by omega))];simp
 simp[FI,this]
theorem Hy{α:Type}{p:α->Bool}{l:List α}(F:∀(i:Nat) s,l[i]?=some s->p s=false):FI p l= -1:=by
 have:l.findIdx? p=none:=by
  rw[List.findIdx?_eq_none_iff];intro x hx;obtain⟨i,H,rfl⟩:=iR.1 hx;exact F i _ (dj H)
 simp[FI,this]
def isC(sv:qB)(num:Int)(c:Cp):Bool:=c.aa.toList==sv.toList&&c.ai==num
def IX(l:List Cp)(sv:qB)(num:Int):Int:=FI (isC sv num) l
theorem Co{α:Type}{p:α->Bool}{l:List α}{s:α}(h:l.find? p=some s):∃i:Nat,l[i]?=some s/\FI p l=(i:Int):=by
 rw[gT]at h;obtain⟨Y,i,J,H,F⟩:=h;refine⟨i,by rw[dj J,H],Ds (by rw[dj J,H]) Y λj Z t W=>?_⟩;have:=F j Z;obtain⟨h1,M⟩:=AC W;rw[M]at this
 simpa using this
theorem F1{α:Type}{p:α->Bool}{l:List α}(h:l.find? p=none):FI p l= -1:=by
 rw[fP]at h;exact Hy λi s F=>by have:=h s (AE F);simpa using this
theorem idxOf_ge{α:Type}(p:α->Bool)(l:List α):decide (0<=FI p l)=l.any p:=by
 cases h:l.find? p with
 |none=>
  rw[F1 h];rw[fP]at h
  symm
  rw[show decide ((0:Int)<= -1)=false from by decide,List.any_eq_false];exact h
 |some s=>
  obtain⟨i,F,e⟩:=Co h;rw[e];have:decide (0<=(i:Int))=true:=by simp
  rw[this];symm;rw[fm];exact⟨s,AE F,fN h⟩
def Ah(B:Bk)(n:qB):Option Svc:=B.af.find? λs=>s.name.toList==n.toList
def FP(aj:Int)(s:Svc)(c:Cp):Bool:=inB c.ai 1 (wrap64 (s.next - 1))&&inB c.ag 1 aj&&inB c.ar 1 1000000&&inB c.ax 1 4
def Ca(ak:List Bt)(c:Cp):Bool:=if c.ax=1 then c.aA.toList.isEmpty else ak.any λb=>b.name.toList==c.aA.toList
def cpB(B:Bk)(c:Cp):Bool:=match Ah B c.aa with|none=>false|some s=>FP B.aj s c&&Ca B.ak c
structure Cnt where
 aI:Int
 ready:Int
 aW:Int
 aL:Int
 au:Int
@[simp,go_sem,reducible] def qtV (N:Cnt):Array Value:=#[.int .i64 N.aI,.int .i64 N.ready,.int .i64 N.aW,.int .i64 N.aL,.int .i64 N.au]
def Cnt.none:Cnt:=⟨0,0,0,0,0⟩
def G8(b:Bool)(n:Int):Int:=if b then n+1 else n
def Cu(img:Int)(c:Cp)(n:Cnt):Cnt:=
 if c.au then {n with au:=n.au+1}
 else⟨n.aI+1,G8 (c.ax==3) n.ready,G8 (c.ar !=img) n.aW,G8 (c.ax==4) n.aL,n.au⟩
def CM(img:Int)(sv:qB)(c:Cp)(n:Cnt):Cnt:=if c.aa.toList==sv.toList then Cu img c n else n
def BM(img:Int)(sv:qB)(l:List Cp)(k:Nat):Cnt:=(l.take k).foldl (λn c=>CM img sv c n) Cnt.none
theorem Qb(F:Int)(sv:qB)(l:List Cp)(k:Nat)(c:Cp)(h:l[k]?=some c):BM F sv l (k+1)=CM F sv c (BM F sv l k):=by
 obtain⟨hk,e⟩:=AC h;unfold BM;rw[List.take_succ_eq_append_getElem hk,jc,e];rfl
def Cnt.bg(n:Cnt)(k:Nat):Prop:=0<=n.aI/\n.aI<=k/\0<=n.ready/\n.ready<=k/\0<=n.aW/\n.aW<=k/\0<=n.aL/\n.aL<=k/\0<=n.au/\n.au<=k
theorem Jq(F:Int)(sv:qB)(c:Cp)(n:Cnt)(k:Nat)(h:n.bg k):(CM F sv c n).bg (k+1):=by
 unfold Cnt.bg at *;unfold CM Cu G8;split
 ·split
  ·dsimp only;omega
  ·dsimp only;repeat' split
   all_goals omega
 ·omega
theorem Mu(F:Int)(sv:qB):∀(l:List Cp) (n:Cnt) (k:Nat),n.bg k->(l.foldl (λn c=>CM F sv c n) n).bg (k+l.length)
 |[],n,k,h=>h
 |c::l,n,k,h=>by
  have:=Mu F sv l (CM F sv c n) (k+1) (Jq F sv c n k h);rw[gE,dL,iE l.length 1,<-eq];exact this
theorem E5(F:Int)(sv:qB)(l:List Cp)(k:Nat)(hk:k<=l.length):(BM F sv l k).bg k:=by
 have:=Mu F sv (l.take k) Cnt.none 0 (by unfold Cnt.bg Cnt.none;dsimp only;omega);rw[dG,dJ,gX hk]at this;exact this
def BD(B:Bk)(sv:qB):Cnt:=match Ah B sv with|none=>Cnt.none|some s=>BM s.ar sv B.ah B.ah.length
def FY(B:Bk)(s:Svc)(sv:qB)(c:Cp):Bool:=!c.au&&(c.ax !=3||(s.aH||decide (s.av - s.aG<=(BM s.ar sv B.ah B.ah.length).ready - 1)))
def Ak(a b:Cp):Bool:=Op.bytesLess a.aa.toList b.aa.toList||(a.aa.toList==b.aa.toList&&decide (a.ai<b.ai))
def A7(B:Bk)(k:Nat):Bool:=match B.af[k]? with
 |none=>true
 |some s=>svcB B.aj s&&(k==0||match B.af[k - 1]? with|none=>true|some p=>Op.bytesLess p.name.toList s.name.toList)
def B8(B:Bk)(k:Nat):Bool:=match B.ak[k]? with
 |none=>true
 |some s=>DB s.name&&(k==0||match B.ak[k - 1]? with|none=>true|some p=>Op.bytesLess p.name.toList s.name.toList)
def A5(B:Bk)(k:Nat):Bool:=match B.ah[k]? with
 |none=>true
 |some s=>cpB B s&&(k==0||match B.ah[k - 1]? with|none=>true|some p=>Ak p s)
def BI(f:Nat->Bool)(n:Nat):Bool:=(List.range n).all f
def Ag(B:Bk):Bool:=inB B.aj 0 1000000&&decide (B.af.length<=8)&&decide (B.ah.length<=200)&&decide (B.ak.length<=6)&&BI (A7 B) B.af.length&&BI (B8 B) B.ak.length&&BI (A5 B) B.ah.length
theorem CH{f:Nat->Bool}{n:Nat}(h:∀i,i<n->f i=true):BI f n=true:=by
 unfold BI;rw[dh];intro i F;exact h i (dA.1 F)
theorem Am{f:Nat->Bool}{n k:Nat}(hk:k<n)(h:f k=false):BI f n=false:=by
 unfold BI;rw[jd];exact⟨k,dA.2 hk,by rw[h];simp⟩
theorem A2{f:Nat->Bool}{k:Nat}(h:∀i,i<k->f i=true)(hk:f k=true):∀i,i<k+1->f i=true:=λi H=>by
 rcases eG i k with F|F
 ·exact h i F
 ·rw[show i=k by omega];exact hk
def Og(s:Svc):Bool:=inB s.ar 1 1000000&&inB s.next 1 1000000&&inB s.av 0 10
def GG(s:Svc):Bool:=inB s.aG 0 10&&inB s.aE 0 10&&(s.aG !=0||s.aE !=0)
def FJ(s:Svc):Bool:=inB s.aM 0 1000000&&inB s.load 0 1000000&&inB s.aC 0 10&&inB s.aK 0 10&&decide (s.aC<=s.aK)&&inB s.ay 0 3
def GE(s:Svc):Bool:=s.aM !=0||(s.aC==0&&s.aK==0&&s.load==0&&s.ay==0)
theorem Dl(aj:Int)(s:Svc):svcB aj s=(inB s.ag 1 aj&&(DB s.name&&Og s&&GG s&&FJ s&&GE s)):=by
 unfold svcB;generalize DB s.name=n;cases n
 ·simp
 ·rw[gF]
  by_cases F:s.aM=0
  ·simp[R5,Og,GG,FJ,GE,inB,F]
   omega
  ·simp only[R5,Og,GG,FJ,GE,inB,cY,dY,dM,eR,eL,bne_iff_ne,fq,ne_eq,fu,dC F]
   omega
theorem A4:∀l:List UInt8,Op.bytesLess l l=false
 |[]=>rfl
 |a::x=>by simp[Op.bytesLess,A4 x]
theorem CW:∀a b:List UInt8,(Op.bytesLess a b||a==b)=!(Op.bytesLess b a)
 |[],[]=>by simp[Op.bytesLess]
 |[],_::_=>by simp[Op.bytesLess]
 |_::_,[]=>by simp[Op.bytesLess]
 |a::x,b::y=>by
  have W:=CW x y;simp only[Op.bytesLess];rcases Nat.lt_trichotomy a.toNat b.toNat with h|h|h
  ·have J:a<b:=gd.2 h
   have F:¬b<a:=λH=>by have:=gd.1 H;omega
   have M:(b==a)=false:=by rw[eL];intro e;rw[e]at h;omega
   simp[J,F,M]
  ·have e:a=b:=UInt8.toNat_inj.1 h
   subst e;have F:¬a<a:=λH=>by have:=gd.1 H;omega
   simp[F]at W ⊢;exact W
  ·have J:b<a:=gd.2 h
   have F:¬a<b:=λH=>by have:=gd.1 H;omega
   have M:(a==b)=false:=by rw[eL];intro e;rw[e]at h;omega
   simp[J,F,M]
theorem B6:∀a b c:List UInt8,Op.bytesLess a b=true->Op.bytesLess b c=true->Op.bytesLess a c=true
 |_,[],_,h,_=>by simp[Op.bytesLess]at h
 |_,_::_,[],_,h=>by simp[Op.bytesLess]at h
 |[],_::_,_::_,_,_=>by simp[Op.bytesLess]
 |a::x,b::y,c::z,h,k=>by
  simp only[Op.bytesLess,dY,cY,dM,fq,gd]at *;rcases h with h|⟨rfl,h⟩
  ·rcases k with k|⟨rfl,k⟩
   ·exact Or.inl (by omega)
   ·exact Or.inl h
  ·rcases k with k|⟨rfl,k⟩
   ·exact Or.inl k
   ·exact Or.inr ⟨rfl,B6 x y z h k⟩
theorem same_nm{a b:qB}:(a.toList==b.toList)=true↔a=b:=by
 rw[fq,fM,fM];constructor
 ·intro h
  cases a;cases b;simp only[ByteArray.mk.injEq];exact Array.toList_inj.1 h
 ·intro h;rw[h]
theorem KS{B:Bk}(h:BI (A5 B) B.ah.length=true):∀i,i<B.ah.length->A5 B i=true:=λi F=>by
 unfold BI at h;exact dh.1 h i (dA.2 F)
theorem cpB_of{B:Bk}(h:BI (A5 B) B.ah.length=true){c:Cp}(H:c∈B.ah):cpB B c=true:=by
 obtain⟨i,F⟩:=ef H;have:=KS h i (AC F).1;unfold A5 at this;rw[F]at this;simp only[cY]at this;exact this.1
theorem KH{B:Bk}(h:BI (A7 B) B.af.length=true){s:Svc}(J:s∈B.af):svcB B.aj s=true:=by
 obtain⟨i,H⟩:=ef J;have F:A7 B i=true:=by unfold BI at h;exact dh.1 h i (dA.2 (AC H).1)
 unfold A7 at F;rw[H]at F;simp only[cY]at F;exact F.1
structure Valid(B:Bk):Prop where
 aj:inB B.aj 0 1000000=true
 ls:B.af.length<=8
 lc:B.ah.length<=200
 lb:B.ak.length<=6
 af:BI (A7 B) B.af.length=true
 ak:BI (B8 B) B.ak.length=true
 ah:BI (A5 B) B.ah.length=true
theorem validB_iff{B:Bk}:Ag B=true↔Valid B:=by
 unfold Ag;simp only[cY,dM];exact⟨λ⟨⟨⟨⟨⟨⟨a,b⟩,c⟩,d⟩,e⟩,f⟩,g⟩=>⟨a,b,c,d,e,f,g⟩,λh=>⟨⟨⟨⟨⟨⟨h.aj,h.ls⟩,h.lc⟩,h.lb⟩,h.af⟩,h.ak⟩,h.ah⟩⟩
theorem inB_iff{n lo F:Int}:inB n lo F=true↔lo<=n/\n<=F:=by
 unfold inB;simp
theorem Valid.bA{B:Bk}(h:Valid B){c:Cp}(H:c∈B.ah):∃s,Ah B c.aa=some s/\FP B.aj s c=true:=by
 have:=cpB_of h.ah H;unfold cpB at this
 cases F:Ah B c.aa with
 |none=>rw[F]at this;cases this
 |some s=>rw[F]at this;simp only[cY]at this;exact⟨s,rfl,this.1⟩
theorem CQ{B:Bk}{x:qB}{s:Svc}(h:Ah B x=some s):s∈B.af:=gc h
structure Rl(s:Svc):Prop where
 bq:0<=s.av
 bH:s.av<=10
 bY:0<=s.aG
 bZ:s.aG<=10
 cf:0<=s.aE
 cg:s.aE<=10
 br:1<=s.next
 bI:s.next<=1000000
theorem Valid.bc{B:Bk}(h:Valid B){s:Svc}(W:s∈B.af):Rl s:=by
 have:=KH h.af W;unfold svcB at this;simp only[cY,inB_iff]at this;obtain⟨⟨⟨⟨⟨⟨_,F⟩,H⟩,M⟩,J⟩,_⟩,_⟩:=this;exact⟨H.1,H.2,M.1,M.2,J.1,J.2,F.1,F.2⟩
theorem isC_iff{sv:qB}{num:Int}{c:Cp}:isC sv num c=true↔c.aa=sv/\c.ai=num:=by
 unfold isC;rw[cY,fq (a:=c.ai)];exact and_congr_left λ_=>same_nm
theorem BX{α:Type}(l:List α)(o:Nat)(xs:List α)(h:o+xs.length<=l.length)(j:Nat):(splice l o xs)[j]?=if j<o then l[j]? else if j<o+xs.length then xs[j - o]? else l[j]?:=by
 have J:(l.take o).length=o:=by rw[dG];omega
 unfold splice
 by_cases F:j<o
 ·rw[dB F,dU (by omega),eO F]
 ·rw[dC F,dX (by omega),J]
  by_cases H:j<o+xs.length
  ·rw[dB H,dU (by omega)]
  ·rw[dC H,dX (by omega),ej]
   congr 1
   omega
theorem OL{α:Type}(l:List α)(o n:Nat)(xs:List α)(h:o+xs.length<=n)(J:n<=l.length):(splice l o xs).take n=splice (l.take n) o xs:=by
 have H:(l.take n).length=n:=by rw[dG];omega
 refine fp λj=>?_
 rw[BX _ _ _ (by omega)]
 by_cases F:j<n
 ·rw[eO F,BX _ _ _ (by omega),eO F]
 ·rw[dZ (by rw[dG];omega),dC (by omega),dC (by omega),dZ (by omega)]
theorem O4{α:Type}{c:α->List Value}{n:Nat}(F:∀s,(c s).length=n)(l:List α)(i:Nat)(s:α)(Y:i<l.length):splice (l.flatMap c) (i*n) (c s)=(l.set i s).flatMap c:=by
 have H:=D4 F l;have J:i*n+n<=l.length*n:=by rw[<-fG];exact ed n Y
 refine fp λj=>?_
 rw[BX _ _ _ (by rw[F,H];exact J),F]
 by_cases M:j<l.length*n
 ·have hn:0<n:=Nat.pos_of_ne_zero λh=>(by rw[h]at M;simp at M)
  obtain⟨u,Z⟩:∃u,(l.flatMap c)[j]?=some u:=⟨(l.flatMap c)[j]'(by rw[H];exact M),by rw[dj]⟩;obtain⟨p,k,x,h1,h2,rfl⟩:=Ef F l j u Z;have hk:k<n:=by have:=(AC h2).1;rw[F]at this;exact this
  by_cases hp:p=i
  ·subst hp
   obtain⟨v,hv⟩:∃v,(c s)[k]?=some v:=⟨(c s)[k]'(by rw[F];exact hk),by rw[dj]⟩;rw[dC (by omega),dB (by omega),show p*n+k - p*n=k by omega,hv];exact(FK F (l.set p s) p s k v (by simp[Y]) hv).symm
  ·have hg:(l.set i s)[p]?=some x:=by rw[gI (by omega)];exact h1
   rw[FK F (l.set i s) p x k u hg h2,Z]
   by_cases W:p<i
   ·have:p*n+n<=i*n:=by rw[<-fG];exact ed n W
    rw[dB (by omega)]
   ·have:i*n+n<=p*n:=by rw[<-fG];exact ed n (by omega)
    rw[dC (by omega),dC (by omega)]
 ·rw[dC (by omega),dC (by omega),dZ (by omega),dZ (by rw[D4 F];simpa using Nat.le_of_not_lt M)]
theorem Bm{α:Type}{c:α->List Value}{n:Nat}(H:∀s,(c s).length=n)(l:List α)(i k:Nat)(s W:α)(u:Value)(Y:l[i]?=some s)(hk:k<n)(hs:c W=(c s).set k u):splice (l.flatMap c) (i*n+k) [u]=(l.set i W).flatMap c:=by
 have J:i<l.length:=(AC Y).1;have F:=D4 H l;have M:i*n+n<=l.length*n:=by rw[<-fG];exact ed n J
 rw[<-O4 H l i W J];refine fp λj=>?_
 rw[BX _ _ _ (by rw[F,iM];omega),BX _ _ _ (by rw[H,F];exact M),H,iM]
 by_cases Z:j<i*n
 ·rw[dB (by omega),dB Z]
 ·rw[dC Z]
  by_cases h2:j<i*n+n
  ·obtain⟨q,rfl⟩:∃q,j=i*n+q:=⟨j - i*n,by omega⟩
   rw[dB h2,show i*n+q - i*n=q by omega,hs]
   by_cases h3:q=k
   ·subst h3
    rw[dC (by omega),dB (by omega),eC (by rw[H];exact hk),show i*n+q - (i*n+q)=0 by omega];rfl
   ·rw[gI (by omega)]
    obtain⟨v,hv⟩:∃v,(c s)[q]?=some v:=⟨(c s)[q]'(by rw[H];omega),by rw[dj]⟩;rw[hv,FK H l i s q v Y hv]
    by_cases h4:q<k
    ·rw[dB (by omega)]
    ·rw[dC (by omega),dC (by omega)]
  ·rw[dC h2,dC (by omega),dC (by omega)]
theorem RowIs.stored{w w':World}{e:TypeId}{size g n cap:Nat}{xs:qL}(h:RowIs w e size g n cap xs)(F:Array Value)(hg:w.heap[g]?=some (.cells F e (0,0)))(o:Nat)(M:qL)(H:o+M.length<=n*size)
  (h':w'.heap[g]?=some (.cells (splice F.toList o M).toArray e (0,0))):RowIs w' e size g n cap (splice xs o M):=by
 obtain⟨hx,Y,Z,J,h2,h3⟩:=h;rw[hg]at J;injection J with J
 injection J with J
 subst J;have W:n*size<=F.toList.length:=by rw[dT,h2];exact ed size Y
 refine⟨by rw[length_splice _ _ _ (by rw[hx];exact H),hx],Y,_,h',?_,?_⟩
 ·rw[ek,length_splice _ _ _ (by omega),dT,h2]
 ·show(splice F.toList o M).take (n*size)=_
  rw[OL _ _ _ _ H W,h3]
section
variable {P:Program}
theorem Bv{ops:Array Oper}{rest:List Oper}{o:Oper}{a:Act}{w:World}{Q:Exit->Act->World->Prop}(M:o.guard=none)(ty:TypeId)(x y:Operand)(ho:o.op=.store ty x y)
  (g off:Nat) (v:Value) (hx:a.eval x=.pointer (some ⟨g,off,none⟩)) (Y:a.eval y=v) (Z:(P.info? ty).map (·.size)=some 1) (hv:v.cells=#[v]) (h1:v.oneCell'=true)
  (e:TypeId) (size n cap:Nat) (xs:qL) (F:RowIs w e size g n cap xs) (H:off+1<=n*size)
  (h:∀w',Hid (RowIs w' e size g n cap (splice xs off [v]))->A6 g w w'->wpList P ops Q rest (a.put o.dst undef) w'):wpList P ops Q (o::rest) a w:=by
 have hr:=F;obtain⟨ak,hc,J,W,hs,ht⟩:=hr;have ag:n*size<=cap*size:=ed size hc;exact BC M ty x y ho g off v hx Y Z hv h1 e J W (by omega) λw' h' on=>h w' (F.stored J W off [v] H h'.O) on
end
end
section
open Go.RowKit Go.Sort
abbrev jh:=@Go.Calls.regrown_of
abbrev ji:=@Go.wp_region_quiet_below
abbrev jj:=@Go.below_regrown
abbrev jk:=@Go.wpQuiet_nil
abbrev jl:=@Go.cell_regrown
theorem SvcAt.grown{w:World}{b o:Nat}{s:Svc}(h:SvcAt w b o s):(∀p:Regrown,(grow (redrawn w p.d) p.os).cell? ⟨b,o,none⟩=some (.string s.name))/\(∀p:Regrown,(grow (redrawn w p.d) p.os).cell? ⟨b,o+1,none⟩=some (.int .i64 s.ag))/\(∀p:Regrown,(grow (redrawn w p.d) p.os).cell? ⟨b,o+2,none⟩=some (.bool s.aH))/\(∀p:Regrown,(grow (redrawn w p.d) p.os).cell? ⟨b,o+3,none⟩=some (.int .i64 s.ar))/\(∀p:Regrown,(grow (redrawn w p.d) p.os).cell? ⟨b,o+4,none⟩=some (.int .i64 s.av))/\(∀p:Regrown,(grow (redrawn w p.d) p.os).cell? ⟨b,o+5,none⟩=some (.int .i64 s.aG))/\(∀p:Regrown,(grow (redrawn w p.d) p.os).cell? ⟨b,o+6,none⟩=some (.int .i64 s.aE))/\(∀p:Regrown,(grow (redrawn w p.d) p.os).cell? ⟨b,o+7,none⟩=some (.int .i64 s.next))/\(∀p:Regrown,(grow (redrawn w p.d) p.os).cell? ⟨b,o+8,none⟩=some (.int .i64 s.aM))/\(∀p:Regrown,(grow (redrawn w p.d) p.os).cell? ⟨b,o+9,none⟩=some (.int .i64 s.aC))/\(∀p:Regrown,(grow (redrawn w p.d) p.os).cell? ⟨b,o+10,none⟩=some (.int .i64 s.aK))/\(∀p:Regrown,(grow (redrawn w p.d) p.os).cell? ⟨b,o+11,none⟩=some (.int .i64 s.load))/\(∀p:Regrown,(grow (redrawn w p.d) p.os).cell? ⟨b,o+12,none⟩=some (.int .i64 s.ay)):=by
 unfold SvcAt at h;obtain⟨c0,c1,c2,c3,c4,Y,M,c7,W,Z,F,J,H⟩:=h;exact⟨λp=>jl c0 p.d p.os,λp=>jl c1 p.d p.os,λp=>jl c2 p.d p.os,λp=>jl c3 p.d p.os,λp=>jl c4 p.d p.os,λp=>jl Y p.d p.os,λp=>jl M p.d p.os,λp=>jl c7 p.d p.os,λp=>jl W p.d p.os,λp=>jl Z p.d p.os,λp=>jl F p.d p.os,λp=>jl J p.d p.os,λp=>jl H p.d p.os⟩
theorem CpAt.grown{w:World}{b o:Nat}{s:Cp}(h:CpAt w b o s):(∀p:Regrown,(grow (redrawn w p.d) p.os).cell? ⟨b,o,none⟩=some (.string s.aa))/\(∀p:Regrown,(grow (redrawn w p.d) p.os).cell? ⟨b,o+1,none⟩=some (.int .i64 s.ai))/\(∀p:Regrown,(grow (redrawn w p.d) p.os).cell? ⟨b,o+2,none⟩=some (.int .i64 s.ag))/\(∀p:Regrown,(grow (redrawn w p.d) p.os).cell? ⟨b,o+3,none⟩=some (.int .i64 s.ar))/\(∀p:Regrown,(grow (redrawn w p.d) p.os).cell? ⟨b,o+4,none⟩=some (.int .i64 s.ax))/\(∀p:Regrown,(grow (redrawn w p.d) p.os).cell? ⟨b,o+5,none⟩=some (.bool s.au))/\(∀p:Regrown,(grow (redrawn w p.d) p.os).cell? ⟨b,o+6,none⟩=some (.string s.aA)):=by
 unfold CpAt at h;obtain⟨c0,c1,c2,c3,c4,F,H⟩:=h;exact⟨λp=>jl c0 p.d p.os,λp=>jl c1 p.d p.os,λp=>jl c2 p.d p.os,λp=>jl c3 p.d p.os,λp=>jl c4 p.d p.os,λp=>jl F p.d p.os,λp=>jl H p.d p.os⟩
theorem BtAt.grown{w:World}{b o:Nat}{s:Bt}(h:BtAt w b o s):(∀p:Regrown,(grow (redrawn w p.d) p.os).cell? ⟨b,o,none⟩=some (.string s.name))/\(∀p:Regrown,(grow (redrawn w p.d) p.os).cell? ⟨b,o+1,none⟩=some (.bool s.aS)):=by
 unfold BtAt at h;obtain⟨c0,c1⟩:=h;exact⟨λp=>jl c0 p.d p.os,λp=>jl c1 p.d p.os⟩
theorem BkAt.grown{w:World}{a1 a2 a3:qO}{B:Bk}(h:BkAt w a1 a2 a3 B)(d:Nat)(os:Array Obj):BkAt (grow (redrawn w d) os) a1 a2 a3 B:=h.below (jj w d os)
end
section
open Go.RowKit
section
variable {P:Program}
theorem Dw{ops:Array Oper}{rest:List Oper}{o:Oper}{a:Act}{w:World}{Q:Exit->Act->World->Prop}(ai:o.guard=none)(d s:Operand)(t:TypeId)
  (ho:o.op=.call {callee:=.builtin .copy,args:=#[d,s],argTypes:=#[t,t]}) (e:TypeId) (size:Nat) (ht:P.underlying t=some (.slice e)) (af:(P.info? e).map (·.size)=some size)
  (dp sp:qO) (H W F J:Nat) (hd:a.eval d=.slice dp H W) (hs:a.eval s=.slice sp F J) (k:Nat) (hk:Nat.min F H=k)
  (g off:Nat) (M:Array Value) (ty:TypeId) (hg:w.heap[g]?=some (.cells M ty (0,0))) (cs:qL) (hl:cs.length=k*size)
  (aa:k≠0->dp=some ⟨g,off,none⟩/\∃ad,sp=some ad/\∀j v,cs[j]?=some v->w.cell? (ad.add j)=some v) (Y:off+cs.length<=M.size) (h1:∀v∈cs,v.oneCell'=true)
  (h:∀w',Hid (w'.heap[g]?=some (.cells (splice M.toList off cs).toArray ty (0,0)))->A6 g w w'->wpList P ops Q rest (a.put o.dst (goInt k)) w'):wpList P ops Q (o::rest) a w:=by
 refine fA ai λK hK=>?_
 obtain⟨i,hi,am⟩:∃i,P.info? e=some i/\i.size=size:=by
  cases hq:P.info? e with
  |none=>simp[hq]at af
  |some i=>exact⟨i,rfl,by simpa [hq] using af⟩
 by_cases h0:k=0
 ·subst h0
  have an:cs=[]:=gp (by simpa using hl);subst an
  have hr:(Builtin.copy_ #[t,t] o.type #[.slice dp H W,.slice sp F J]).run P w=.ok (goInt 0) w:=by
   cases dp<;>cases sp<;>simp[Builtin.copy_,fC ht,sizeOf,typeInfo,hi,Builtin.lenOf,Builtin.firstCells,storeCells,loadCells,loadCellsFrom,hk]
  unfold Oper.wp execOp;simp only[ho,resolve,invoke,builtin,ew,Sem.run_pure,Result.andThen_ok,fx,dz,dP,hd,hs,hr];exact hK _ _ (h w (show _=_ by simpa [splice] using hg) ⟨λ_ _=>rfl,dI _ _,rfl⟩)
 ·obtain⟨rfl,ad,rfl,ag⟩:=aa h0
  have hf:=run_firstCells_some (P:=P) w i.size k ad F J cs (by rw[am];exact hl) ag;have Z:=ie P g off ty cs 0 M w hg (by simpa using Y) h1
  have hr:(Builtin.copy_ #[t,t] o.type #[.slice (some ⟨g,off,none⟩) H W,.slice (some ad) F J]).run P w=.ok (goInt k) (w.setRow g (splice M.toList off cs).toArray):=by
   simp only[fW,eB]at Z;simp[Builtin.copy_,fC ht,sizeOf,typeInfo,hi,Builtin.lenOf,hk,hf,Z,splice]
  unfold Oper.wp execOp;simp only[ho,resolve,invoke,builtin,ew,Sem.run_pure,Result.andThen_ok,fx,dz,dP,hd,hs,hr];exact hK _ _ (h _ (gl w g M _ ty _ hg) (DU w g _))
theorem Gz{ops:Array Oper}{rest:List Oper}{o:Oper}{a:Act}{w:World}{Q:Exit->Act->World->Prop}(al:o.guard=none)(s x:Operand)(t tn:TypeId)
  (ho:o.op=.call {callee:=.builtin .append,args:=#[s,x],argTypes:=#[t,tn]})
  (e:TypeId) (z:Value) (size bytes:Nat) (kn:IntKind) (ht:P.underlying t=some (.slice e)) (am:P.underlying tn=some (.int kn)) (Z:(P.info? e).map (λi=>(i.zero,i.size,i.bytes))=some (some z,size,bytes)) (aw:z.cells.size=size) (aC:0<size)
  (b:Addr) (n cap:Nat) (F:qL) (hs:a.eval s=.slice (some b) n cap) (W:F.length=n*size) (M:∀j v,F[j]?=some v->w.cell? (b.add j)=some v)
  (m:Nat) (hx:a.eval x=.int .i64 m) (hm:0<m) (hg:cap<n+m) (ai:n+m<=maxLen) (J:(n+m)*bytes<=140737488355328)
  (h:∀g H Y w',w.heap.size<=g->n+m<=H->Hid (w'.heap[g]?=some (.cells Y e (0,0)))->Hid (Y.size=H*size/\Y.toList.take (n*size)=F)->Below w.heap.size w w'->wpList P ops Q rest (a.put o.dst (.slice (qad g) (n+m) H)) w'):wpList P ops Q (o::rest) a w:=by
 obtain⟨i,hi,hz,ar,hb⟩:=gA Z;subst ar hb;have aH:(n+m:Nat)<=9223372036854775807:=by unfold maxLen at ai;omega
 have an:Builtin.nextslicecap (n+m) cap*i.bytes<=281474976710656:=i7 (by omega) J;have hn:¬(n+m<=cap):=by omega
 have ag:¬(9223372036854775807<((n:Int)+(m:Int))):=by omega
 have aa:¬(281474976710656<Builtin.nextslicecap (n+m) cap*i.bytes):=by omega
 have hw:IntKind.i64.wrap (m:Int)=m:=by rw[IntKind.wrap_i64];omega
 have ah:¬((m:Int)<0):=by omega
 have aA:m*i.bytes<=(n+m)*i.bytes:=ed _ (by omega)
 have af:¬(281474976710656<(m:Int)*(i.bytes:Int)):=by
  rw[<-Int.natCast_mul];omega
 have ak:¬(m*i.size=0):=Nat.mul_ne_zero (by omega) (by omega);have av:m≠0:=by omega
 have aq:=run_firstCells_some (P:=P) w.drew i.size n b n cap F W (by simpa using M)
 have hr:(Builtin.append_ #[t,tn] o.type #[.slice (some b) n cap,.int .i64 m]).run P w=
   .ok (.slice (some ⟨w.heap.size,0,none⟩) (n+m) (grownCap w (n+m) cap e)) (w.drew.alloc (.cells (F.toArray++Builtin.zeroCells z.cells m++Builtin.zeroCells z.cells (grownCap w (n+m) cap e - (n+m))) e)):=by
  simp[Builtin.append_,fC ht,fC am,sizeOf,typeInfo,zeroValue,hi,hz,asInt,asIntOf,hw,hn,ah,ak,av,ag,aa,af,Question.forced,aq,newRow,grownCap]
 refine fA al λK hK=>?_
 unfold Oper.wp execOp;simp only[ho,resolve,invoke,builtin,ew,Sem.run_pure,Result.andThen_ok,fx,dz,dP,hs,hx,hr];have au:=grownCap_ge w (n+m) cap e;refine hK _ _ (h w.heap.size _ _ _ (AG _) au (dm w.drew _) ⟨?_,?_⟩ ⟨rfl,rfl,rfl,by simp,λk hk=>by show(w.heap.push _)[k]?=_;rw[dk,dC (by omega)]⟩)
 ·simp only[iG,ek,iF,aw,W]
  rw[<-fi,<-fi]
  congr 1
  omega
 ·simp only[ip,eB]
  rw[<-W];exact ig
end
theorem RO{A X D L:qL}{a s d:Nat}(Y:A.length=a)(hX:X.length=s)(hD:D.length=d)(hL:L.take a=A)(W:a+s+d<=L.length):(splice (splice L a X) (a+s) D).take (a+s+d)=A++X++D/\(splice (splice L (a+s) D) a X).take (a+s+d)=A++X++D:=by
 have h1:∀j,j<a->L[j]?=A[j]?:=λj F=>by rw[<-hL,eO F]
 have key:∀M:List Value,a+s+d<=M.length->(∀j,j<a->M[j]?=L[j]?)->(∀j,a<=j->j<a+s->M[j]?=X[j - a]?)->(∀j,a+s<=j->j<a+s+d->M[j]?=D[j - (a+s)]?)->M.take (a+s+d)=A++X++D:=λM hM q1 q2 Z=>by
  refine fp λj=>?_
  rw[eB]
  by_cases c1:j<a
  ·rw[eO (by omega),q1 j c1,h1 j c1,dU (by omega)]
  ·rw[dX (by omega),Y]
   by_cases c2:j<a+s
   ·rw[eO (by omega),q2 j (by omega) c2,dU (by omega)]
   ·rw[dX (by omega),hX]
    by_cases c3:j<a+s+d
    ·rw[eO c3,Z j (by omega) c3,show j - (a+s)=j - a - s by omega]
    ·rw[dZ (by rw[dG];omega),dZ (by omega)]
 have l1:(splice L a X).length=L.length:=length_splice L a X (by omega);have l2:(splice L (a+s) D).length=L.length:=length_splice L (a+s) D (by omega);constructor
 ·refine key _ (by rw[length_splice _ _ _ (by omega)];omega) (λj F=>?_) (λj J H=>?_) (λj J H=>?_)
  ·rw[BX _ _ _ (by omega),dB (by omega),BX _ _ _ (by omega),dB F]
  ·rw[BX _ _ _ (by omega),dB (by omega),BX _ _ _ (by omega),dC (by omega),dB (by omega)]
  ·rw[BX _ _ _ (by omega),dC (by omega),dB (by omega)]
 ·refine key _ (by rw[length_splice _ _ _ (by omega)];omega) (λj F=>?_) (λj J H=>?_) (λj J H=>?_)
  ·rw[BX _ _ _ (by omega),dB F,BX _ _ _ (by omega),dB (by omega)]
  ·rw[BX _ _ _ (by omega),dC (by omega),dB (by omega)]
  ·rw[BX _ _ _ (by omega),dC (by omega),dC (by omega),BX _ _ _ (by omega),dC (by omega),dB (by omega)]
section
variable {P:Program}
theorem Lw{z:Array Value}(h:∀u∈z,u.oneCell'=true)(n:Nat):∀u∈(Builtin.zeroCells z n).toList,u.oneCell'=true:=λu H=>by
 unfold Builtin.zeroCells at H;rw[iT,Array.mem_map]at H;obtain⟨i,Y,rfl⟩:=H;have F:i<n*z.size:=by simpa using Y
 have W:0<z.size:=by
  rcases gk z.size with J|J
  ·rw[J]at F;simp at F
  ·exact J
 have M:=Nat.mod_lt i W;rw[getElem!_pos z _ M];exact h _ (Array.getElem_mem M)
theorem KZ{ops:Array Oper}{rest:List Oper}{o:Oper}{a:Act}{w:World}{Q:Exit->Act->World->Prop}(aa:o.guard=none)(x:Operand)(t:TypeId)
  (ho:o.op=.call {callee:=.builtin .clear,args:=#[x],argTypes:=#[t]}) (e:TypeId) (z:Value) (size bytes:Nat) (ht:P.underlying t=some (.slice e)) (W:(P.info? e).map (λi=>(i.zero,i.size,i.bytes))=some (some z,size,bytes)) (ak:z.cells.size=size) (af:∀u∈z.cells,u.oneCell'=true)
  (g off m c:Nat) (hx:a.eval x=.slice (some ⟨g,off,none⟩) m c) (F:Array Value) (ty:TypeId) (hg:w.heap[g]?=some (.cells F ty (0,0))) (M:m≠0->off+m*size<=F.size)
  (h:∀H w',Hid (w'.heap[g]?=some (.cells H ty (0,0)))->Hid (H.size=F.size/\∀q,(m≠0->q<=off)->H.toList.take q=F.toList.take q)->A6 g w w'->wpList P ops Q rest (a.put o.dst (.tuple #[])) w'):wpList P ops Q (o::rest) a w:=by
 obtain⟨i,hi,hz,av,hb⟩:=gA W;refine fA aa λK hK=>?_
 by_cases Y:m=0
 ·subst Y
  have hr:(Builtin.clear_ #[t] o.type #[.slice (some ⟨g,off,none⟩) 0 c]).run P w=.ok (.tuple #[]) w:=by simp[Builtin.clear_,fC ht]
  unfold Oper.wp execOp;simp only[ho,resolve,invoke,builtin,ew,Sem.run_pure,Result.andThen_ok,fx,dz,dP,hx,hr];exact hK _ _ (h F w hg ⟨rfl,λ_ _=>rfl⟩ ⟨λ_ _=>rfl,dI _ _,rfl⟩)
 ·have J:(Builtin.zeroCells z.cells m).toList.length=m*size:=by rw[dT,iF,ak]
  have Z:=ie P g off ty (Builtin.zeroCells z.cells m).toList 0 F w hg (by rw[J];simpa using M Y) (Lw af m)
  have hr:(Builtin.clear_ #[t] o.type #[.slice (some ⟨g,off,none⟩) m c]).run P w=.ok (.tuple #[]) (w.setRow g (splice F.toList off (Builtin.zeroCells z.cells m).toList).toArray):=by
   simp only[fW,eB]at Z
   cases m with
   |zero=>exact absurd rfl Y
   |succ m=>simp[Builtin.clear_,fC ht,zeroValue,typeInfo,hi,hz,Z,splice]
  unfold Oper.wp execOp;simp only[ho,resolve,invoke,builtin,ew,Sem.run_pure,Result.andThen_ok,fx,dz,dP,hx,hr];have ai:off+(Builtin.zeroCells z.cells m).toList.length<=F.toList.length:=by rw[J,dT];exact M Y
  refine hK _ _ (h _ _ (gl w g F _ ty _ hg) ⟨?_,λq hq=>?_⟩ (DU w g _))
  ·rw[ek,length_splice _ _ _ ai,dT]
  ·show(splice F.toList off (Builtin.zeroCells z.cells m).toList).take q=_
   unfold splice;rw[List.take_append_of_le_length (by rw[dG];have:=hq Y;omega),List.take_take,gX (hq Y)]
end
theorem RowIs.take{α:Type}{w:World}{e:TypeId}{size g n cap i:Nat}{c:α->List Value}{l:List α}(h:RowIs w e size g n cap (l.flatMap c))(F:∀s,(c s).length=size)(hl:l.length=n)(J:i<=n):RowIs w e size g i cap ((l.take i).flatMap c):=by
 obtain⟨h1,h2,H,M,h4,W⟩:=h;refine⟨by rw[D4 F,dG,gX (by omega)],by omega,H,M,h4,?_⟩
 have Z:∀(l:List α) (i:Nat),(l.take i).flatMap c=(l.flatMap c).take (i*size):=λl=>by
  induction l with
  |nil=>intro i;simp
  |cons x l Y=>
   intro i
   cases i with
   |zero=>simp
   |succ i=>
    have e:(i+1)*size - size=i*size:=by rw[fG];omega
    have e2:(c x).take ((i+1)*size)=c x:=er (by rw[F,fG];omega);rw[gv,eI,eI,Y i,List.take_append,e2,F,e]
 rw[Z,<-W,List.take_take,gX (ed _ J)]
section
variable {P:Program}
theorem Ir{ops:Array Oper}{rest:List Oper}{o:Oper}{a:Act}{w:World}{Q:Exit->Act->World->Prop}(ag:o.guard=none)(s x:Operand)(t:TypeId)
  (ho:o.op=.call {callee:=.builtin .append,args:=#[s,x],argTypes:=#[t,t]})
  (e:TypeId) (z:Value) (size bytes:Nat) (ht:P.underlying t=some (.slice e)) (Z:(P.info? e).map (λi=>(i.zero,i.size,i.bytes))=some (some z,size,bytes))
  (g n cap:Nat) (xs:qL) (hs:a.eval s=.slice (qad g) n cap) (af:RowIs w e size g n cap xs)
  (ad:Addr) (m c:Nat) (F:qL) (hx:a.eval x=.slice (some ad) m c) (hl:F.length=m*size) (W:∀j u,F[j]?=some u->w.cell? (ad.add j)=some u) (h1:∀u∈F,u.oneCell'=true) (H:n+m<=cap)
  (h:∀w',Hid (RowIs w' e size g (n+m) cap (xs++F))->A6 g w w'->wpList P ops Q rest (a.put o.dst (.slice (qad g) (n+m) cap)) w'):wpList P ops Q (o::rest) a w:=by
 obtain⟨i,hi,hz,ai,hb⟩:=gA Z;subst ai hb;obtain⟨al,av,Y,hg,ak,M⟩:=af;have J:(xs++F).length=(n+m)*i.size:=by rw[dE,al,hl,fi]
 have aa:n*i.size+F.length<=Y.size:=by rw[hl,ak,<-fi];exact ed _ H
 have hr:=iV (P:=P) w t o.type e i ht hi g n cap Y hg ad m c F hl W h1 H aa;refine fA ag λK hK=>?_
 unfold Oper.wp execOp;simp only[ho,resolve,invoke,builtin,ew,Sem.run_pure,Result.andThen_ok,fx,dz,dP,hs,hx,hr];refine hK _ _ (h _ ⟨J,H,_,gl w g Y _ e _ hg,?_,?_⟩ (DU w g _))
 ·simp only[ek,dE,dG,dW,dT]
  omega
 ·rw[M,<-J]
  exact ig
end
end
end Go.Proofs.YtbceafpodamnfaaGreatDoor
