import Derived.Test.YtbceafpodamnfaaGreatDoorG10
import Derived.Test.YtbceafpodamnfaaGreatDoorG12
set_option linter.all false
set_option maxHeartbeats 8000000
set_option maxRecDepth 100000
namespace Go.Proofs.YtbceafpodamnfaaGreatDoor
section
open Go.RowKit
open Go.Value renaming int->In,slice->Sl,string->Sg,bool->Bo,pointer->Po
open Go.IntKind renaming i64->i6
structure BP where
 B:Bk
 c1:Nat
 c2:Nat
 c3:Nat
def BP.v(p:BP):Value:=.agg #[In i6 p.B.av,.iface 0 (Sl none p.B.ah.length p.c1),.iface 1 (Sl none p.B.ar.length p.c2),.iface 2 (Sl none p.B.aw.length p.c3)]
def BP.m(p:BP):AW:=bkM p.B
def BP.tn(p:BP):Prop:=p.B.ah.length<=1000/\p.B.ar.length<=1000/\p.B.aw.length<=1000
theorem Ge{ty sz:Nat}{X:Type}{f:X->List Value}{l l':List X}(hf:∀x y,f x=f y->x=y)(h:BY ty sz f l=BY ty sz f l'):l=l':=by
 have Y:l.length=l'.length:=ei VB.n h;have O:(BY ty sz f l).Q=(BY ty sz f l').Q:=ei VB.Q h;refine fZ λi=>?_
 cases F:l[i]? with
 |none=>rw[ix]at F;rw[eq qo]
 |some x=>
  have W:=(AC F).1;obtain⟨y,H⟩:∃y,l'[i]?=some y:=⟨l'[i]' qo,qs⟩
  have M:(BY ty sz f l').Q i (λel=>el=f x):=by
   rw[<-O];intro z J;rw[F]at J;cases J;rfl
  rw[H,hf y x (M y H)]
theorem Ts(x y:Svc)(h:svL x=svL y):x=y:=by
 cases x;cases y;simp only[svL,dD,gQ,fB,iU,fH,eo]at h;simp only[Svc.mk.injEq];exact h
theorem Ug(x y:Cp)(h:cpL x=cpL y):x=y:=by
 cases x;cases y;simp only[cpL,dD,gQ,fB,iU,fH,eo]at h;simp only[Cp.mk.injEq];exact h
theorem btL_inj(x y:Bt)(h:btL x=btL y):x=y:=by
 cases x;cases y;simp only[btL,dD,gQ,iU,eo]at h;simp only[Bt.mk.injEq];exact h
theorem BP.inj{p z:BP}(hv:p.v=z.v)(W:BY 34 13 svL p.B.ah=BY 34 13 svL z.B.ah)(Y:BY 76 7 cpL p.B.ar=BY 76 7 cpL z.B.ar)(Z:BY 90 2 btL p.B.aw=BY 90 2 btL z.B.aw):p=z:=by
 have F:=Ge Ts W;have H:=Ge Ug Y;have e3:=Ge btL_inj Z;obtain⟨⟨n,a,b,c⟩,c1,c2,c3⟩:=p;obtain⟨⟨n',a',b',c'⟩,J,M,O⟩:=z;simp only at F H e3;subst F H e3;have:=ei Array.toList (iD hv);simp at this;obtain⟨i1,i2,i3,i4⟩:=this;subst i1 i2 i3 i4;rfl
section
variable {RD:(Nat->Prop)->World->Nat->Nat->Prop}
theorem BB(h:CR RD):Env Tryz.prog RD TT []:=⟨h,Ur,λ_ _ _ h=>(nomatch h)⟩
theorem Aa{Γ:List (Nat × Nat × Ct)}{f c:Nat}{C:Ct}(E:Env Tryz.prog RD TT Γ)(F:NN Tryz.prog f=true)(h:CH Tryz.prog RD f c C):Env Tryz.prog RD TT ((f,c,C)::Γ):=
 ⟨E.rd,E.tt,λg d D z=>by
  by_cases e:f=g
  ·subst e;rw[Ae]at z;cases z;exact⟨F,h⟩
  ·rw[Au e]at z;exact E.ct g d D z⟩
end
def Idx{X:Type}(p:X->Bool)(l:List X)(k:Int):Prop:=(k= -1/\∀x∈l,p x=false)\/∃(j:Nat) (x:X),k=j/\l[j]?=some x/\p x=true/\∀y∈l.take j,p y=false
theorem Ln{X:Type}{p:X->Bool}{l:List X}{i:Nat}{x:X}(h:∀y∈l.take i,p y=false)(hx:l[i]?=some x)(H:p x=false):∀y∈l.take (i+1),p y=false:=λy F=>by
 rw[ec,hx]at F;rcases dO.1 F with z|z
 ·exact h y z
 ·have:y=x:=by simpa using z
  rw[this];exact H
def nmB(a b:qB):Bool:=a.toList==b.toList
def cpQ(sv:qB)(n:Int)(c:Cp):Bool:=nmB c.aa sv&&decide (c.ak=n)
abbrev Kr:Ct:=ctV (λp:BP × ByteArray=>[p.1.v,Sg p.2]) (λp=>p.1.m) (λp=>p.1.tn) λp v es=>es=[]/\∃k,v=In i6 k/\Idx (λs=>nmB s.name p.2) p.1.B.ah k
abbrev Uf:Ct:=ctV (λp:BP × ByteArray=>[p.1.v,Sg p.2]) (λp=>p.1.m) (λp=>p.1.tn) λp v es=>es=[]/\∃k,v=In i6 k/\Idx (λs=>nmB s.name p.2) p.1.B.aw k
abbrev TL:Ct:=ctV (λp:BP × ByteArray × Int=>[p.1.v,Sg p.2.1,In i6 p.2.2]) (λp=>p.1.m) (λp=>p.1.tn) λp v es=>es=[]/\∃k,v=In i6 k/\Idx (cpQ p.2.1 p.2.2) p.1.B.ar k
theorem Lw(p z:BP × ByteArray)(h:[p.1.v,Sg p.2]=[z.1.v,Sg z.2])(F:p.1.m=z.1.m):p=z:=by
 obtain⟨p,s⟩:=p;obtain⟨z,H⟩:=z;simp only[BP.m,bkM,dD,dR,fH,eo,gQ]at h F;rw[BP.inj h.1 F.1 F.2.1 F.2.2,h.2]
theorem Rv(p z:BP × ByteArray × Int)(h:[p.1.v,Sg p.2.1,In i6 p.2.2]=[z.1.v,Sg z.2.1,In i6 z.2.2])(F:p.1.m=z.1.m):p=z:=by
 obtain⟨p,s,n⟩:=p;obtain⟨z,J,H⟩:=z;simp only[BP.m,bkM,dD,dR,fH,eo,gQ,fB]at h F;rw[BP.inj h.1 F.1 F.2.1 F.2.2,h.2.1,h.2.2]
section
variable {RD:(Nat->Prop)->World->Nat->Nat->Prop}
theorem Gc(O:CR RD):CH Tryz.prog RD 118 0 Kr:=by
 refine Da (BB O) Tryz.func118 qk qk (λ_=>rfl) Lw ?_;rintro⟨⟨B,c1,c2,c3⟩,nm⟩ ⟨M,_,_⟩;have M:B.ah.length<=1000:=M;refine⟨λn s=>∃i:Nat,i<=B.ah.length/\n=B.ah.length - i/\(∀y∈B.ah.take i,nmB y.name nm=false)/\s=⟨[(5,In i6 i),(2,.complex .f64 64 0),(1,.string nm)],(64,AX (Fs B c1 c2 c3) 28)::bkM B,88,0⟩,B.ah.length,⟨_,qe,0,qo,qo,(λ_ h=>(nomatch h)),rfl⟩,?_⟩;rintro n _ ⟨i,Y,rfl,F,rfl⟩;refine dg (λH=>?_) (λH=>?_)
 ·refine dg qo (dg H (dg AG ?_))
  intro b hb;rw[du]at hb;refine dg (λJ=>?_) (λJ=>?_)
  ·exact⟨.inl rfl,_,rfl,⟨_,_,[],⟨rfl,_,rfl,.inr ⟨i,b,rfl,hb,J,F⟩⟩,rfl,trivial,rfl,rfl,trivial⟩,rfl⟩
  ·intro W z
   have z:W=((i+1:Nat):Int):=by have:=z ⟨qo,qo⟩;omega
   subst z;exact⟨B.ah.length - (i+1),qo,_,qe,i+1,qo,rfl,Ln F hb J,rfl⟩
 ·exact⟨.inl rfl,_,rfl,⟨_,_,[],⟨rfl,_,rfl,.inl ⟨rfl,λx hx=>F x (by rw[eZ qo];exact hx)⟩⟩,rfl,trivial,rfl,rfl,trivial⟩,rfl⟩
theorem Rw(O:CR RD):CH Tryz.prog RD 124 0 Uf:=by
 refine Da (BB O) Tryz.func124 qk qk (λ_=>rfl) Lw ?_;rintro⟨⟨B,c1,c2,c3⟩,nm⟩ ⟨_,_,M⟩;have M:B.aw.length<=1000:=M;refine⟨λn s=>∃i:Nat,i<=B.aw.length/\n=B.aw.length - i/\(∀y∈B.aw.take i,nmB y.name nm=false)/\s=⟨[(5,In i6 i),(2,.complex .f64 64 0),(1,.string nm)],(64,AX (Fs B c1 c2 c3) 28)::bkM B,88,0⟩,B.aw.length,⟨_,qe,0,qo,qo,(λ_ h=>(nomatch h)),rfl⟩,?_⟩;rintro n _ ⟨i,Y,rfl,F,rfl⟩;refine dg (λH=>?_) (λH=>?_)
 ·refine dg qo (dg H (dg AG ?_))
  intro b hb;rw[du]at hb;refine dg (λJ=>?_) (λJ=>?_)
  ·exact⟨.inl rfl,_,rfl,⟨_,_,[],⟨rfl,_,rfl,.inr ⟨i,b,rfl,hb,J,F⟩⟩,rfl,trivial,rfl,rfl,trivial⟩,rfl⟩
  ·intro W z
   have z:W=((i+1:Nat):Int):=by have:=z ⟨qo,qo⟩;omega
   subst z;exact⟨B.aw.length - (i+1),qo,_,qe,i+1,qo,rfl,Ln F hb J,rfl⟩
 ·exact⟨.inl rfl,_,rfl,⟨_,_,[],⟨rfl,_,rfl,.inl ⟨rfl,λx hx=>F x (by rw[eZ qo];exact hx)⟩⟩,rfl,trivial,rfl,rfl,trivial⟩,rfl⟩
theorem Ps(Z:CR RD):CH Tryz.prog RD 122 0 TL:=by
 refine Da (BB Z) Tryz.func122 qk qk (λ_=>rfl) Rv ?_;rintro⟨⟨B,c1,c2,c3⟩,nm,k⟩ ⟨_,Y,_⟩;have Y:B.ar.length<=1000:=Y;refine⟨λn s=>∃i:Nat,i<=B.ar.length/\n=B.ar.length - i/\(∀y∈B.ar.take i,cpQ nm k y=false)/\s=⟨[(7,In i6 i),(3,.complex .f64 64 0),(1,.string nm),(2,In i6 k)],(64,AX (Fs B c1 c2 c3) 28)::bkM B,88,0⟩,B.ar.length,⟨_,qe,0,qo,qo,(λ_ h=>(nomatch h)),rfl⟩,?_⟩;rintro n _ ⟨i,hi,rfl,F,rfl⟩;refine dg (λJ=>?_) (λJ=>?_)
 ·refine dg qo (dg J (dg AG ?_))
  intro b hb;rw[du]at hb;refine dg (λO=>?_) (λO=>?_)
  ·refine dg qo (dg J (dg AG ?_))
   intro b' M;rw[du,hb]at M;cases M;refine dg (λH=>?_) (λH=>?_)
   ·exact⟨.inl rfl,_,rfl,⟨_,_,[],⟨rfl,_,rfl,.inr ⟨i,b,rfl,hb,by show(nmB _ _&&_)=true;rw[show nmB b.aa nm=true from O,dX H];rfl,F⟩⟩,rfl,trivial,rfl,rfl,trivial⟩,rfl⟩
   ·intro W z
    have z:W=((i+1:Nat):Int):=by have:=z ⟨qo,qo⟩;omega
    subst z;exact⟨B.ar.length - (i+1),qo,_,qe,i+1,qo,rfl,Ln F hb (by show(nmB _ _&&_)=false;rw[show nmB b.aa nm=true from O,ek H];rfl),rfl⟩
  ·intro W z
   have z:W=((i+1:Nat):Int):=by have:=z ⟨qo,qo⟩;omega
   subst z;exact⟨B.ar.length - (i+1),qo,_,qe,i+1,qo,rfl,Ln F hb (by show(nmB _ _&&_)=false;rw[show nmB b.aa nm=false from O];rfl),rfl⟩
 ·exact⟨.inl rfl,_,rfl,⟨_,_,[],⟨rfl,_,rfl,.inl ⟨rfl,λx hx=>F x (by rw[eZ qo];exact hx)⟩⟩,rfl,trivial,rfl,rfl,trivial⟩,rfl⟩
end
end
section
open Go.RowKit
theorem Idx.lt{X:Type}{p:X->Bool}{l:List X}{k:Int}(h:Idx p l k): -1<=k/\k<l.length:=by
 rcases h with⟨rfl,_⟩|⟨j,x,rfl,z,_⟩
 ·omega
 ·have:=(AC z).1;omega
theorem Idx.yes{X:Type}{p:X->Bool}{l:List X}{k:Int}(h:Idx p l k)(F:∃x∈l,p x=true):0<=k/\k<l.length:=by
 rcases h with⟨rfl,J⟩|⟨j,x,rfl,H,_⟩
 ·obtain⟨x,hx,z⟩:=F;rw[J x hx]at z;cases z
 ·have:=(AC H).1;omega
theorem Idx.pos{X:Type}{p:X->Bool}{l:List X}{k:Int}(h:Idx p l k)(H:¬k<0):∃x∈l,p x=true:=by
 rcases h with⟨rfl,J⟩|⟨j,x,rfl,z,F⟩
 ·omega
 ·exact⟨x,AE z,F.1⟩
section
variable {RD:(Nat->Prop)->World->Nat->Nat->Prop}
end
end
section
open Go.RowKit Go.Sort
open Go.Value renaming int->In,slice->Sl,string->Sg,bool->Bo,pointer->Po
open Go.IntKind renaming i64->i6
structure En where
 ak:Int
 aN:Int
structure Ac where
 aa:ByteArray
 aN:Int
 ax:Int
 au:Int
 aA:Int
 aJ:Bool
 aB:List En
 drop:Bool
abbrev qaV (A:Ac) (x:qO) (c:Nat):Array Value:=#[Sg A.aa,In i6 A.aN,In i6 A.ax,In i6 A.au,In i6 A.aA,Bo A.aJ,Sl x A.aB.length c,Bo A.drop]
def EnAt(w:World)(b o:Nat)(s:En):Prop:=w.cell? ⟨b,o,none⟩=some (In i6 s.ak)/\w.cell? ⟨b,o+1,none⟩=some (In i6 s.aN)
def EnsAt(w:World)(b off:Nat)(l:List En):Prop:=∀i s,l[i]?=some s->EnAt w b (off+i*2) s
theorem EnAt.below{B:Nat}{w w':World}{b o:Nat}{s:En}(h:EnAt w b o s)(hb:Below B w w')(z:b<B):EnAt w' b o s:=by
 unfold EnAt at *;simp only[λo=>hb.cell (p:=⟨b,o,none⟩) z];exact h
def En.cells(s:En):List Value:=(#[In i6 s.ak,In i6 s.aN]:Array Value).toList
theorem one_En(s:En):(#[In i6 s.ak,In i6 s.aN]:Array Value).all (·.oneCell')=true:=by simp[Value.oneCell']
def SlE(w:World)(ao:qO)(l:List En):Prop:=l≠[]->∃b off,ao=some ⟨b,off,none⟩/\b<w.heap.size/\EnsAt w b off l
theorem SlE.below{w w':World}{ao:qO}{l:List En}(h:SlE w ao l)(hb:Below w.heap.size w w'):SlE w' ao l:=λz=>
 let ⟨b,off,e,hlt,hat⟩:=h z
 ⟨b,off,e,AF hlt hb.size,λi s F=>(hat i s F).below hb hlt⟩
theorem R9:(Tryz.prog.info? 88).map (λi=>(i.zero,i.size,i.bytes))=some (some (.agg #[In i6 0,In i6 0]),2,16):=qk
abbrev Co:=Ac × Option Addr × Nat
def Bj(r:Co):List Value:=((qaV r.1 r.2.1 r.2.2):Array Value).toList
def DQ(R:List Co):List Value:=R.flatMap Bj
theorem Ou(R:List Co)(r:Co):DQ (R++[r])=DQ R++Bj r:=by simp[DQ]
def AcAt(w:World)(b o:Nat)(r:Co):Prop:=w.cell? ⟨b,o,none⟩=some (.string r.1.aa)/\w.cell? ⟨b,o+1,none⟩=some (In i6 r.1.aN)/\w.cell? ⟨b,o+2,none⟩=some (In i6 r.1.ax)/\w.cell? ⟨b,o+3,none⟩=some (In i6 r.1.au)/\w.cell? ⟨b,o+4,none⟩=some (In i6 r.1.aA)/\w.cell? ⟨b,o+5,none⟩=some (.bool r.1.aJ)/\w.cell? ⟨b,o+6,none⟩=some (.slice r.2.1 r.1.aB.length r.2.2)/\w.cell? ⟨b,o+7,none⟩=some (.bool r.1.drop)
theorem AcAt.below{N:Nat}{w w':World}{b o:Nat}{r:Co}(h:AcAt w b o r)(hb:Below N w w')(z:b<N):AcAt w' b o r:=by
 unfold AcAt at *;simp only[λo=>hb.cell (p:=⟨b,o,none⟩) z];exact h
def SlA(w:World)(ao:qO)(R:List Co):Prop:=R≠[]->∃b off,ao=some ⟨b,off,none⟩/\b<w.heap.size/\∀i r,R[i]?=some r->AcAt w b (off+i*8) r/\SlE w r.2.1 r.1.aB
theorem SlA.below{w w':World}{ao:qO}{R:List Co}(h:SlA w ao R)(hb:Below w.heap.size w w'):SlA w' ao R:=λF=>
 let ⟨b,off,e,hlt,hat⟩:=h F
 ⟨b,off,e,AF hlt hb.size,λi r z=>⟨(hat i r z).1.below hb hlt,(hat i r z).2.below hb⟩⟩
end
section
open Go.RowKit
def IB:List En->Bool
 |x::y::l=>decide (x.ak<y.ak)&&IB (y::l)
 |_=>true
theorem IA:∀l:List En,IB l=true↔∀i x y,l[i]?=some x->l[i+1]?=some y->x.ak<y.ak
 |[]=>by simp[IB]
 |[x]=>by simp[IB]
 |x::y::l=>by
  unfold IB;rw[di,dS,IA (y::l)];constructor
  ·rintro⟨F,H⟩ i a b z hb
   match i,z,hb with
   |0,z,hb=>obtain rfl:=dj z;obtain rfl:=dj hb;exact F
   |i+1,z,hb=>exact H i a b (by simpa using z) (by simpa using hb)
  ·intro h
   exact⟨h 0 x y rfl rfl,λi a b z hb=>h (i+1) a b (by simpa using z) (by simpa using hb)⟩
theorem Un{l:List En}{i:Nat}{x y:En}(hx:l[i]?=some x)(F:l[i+1]?=some y)(h:¬x.ak<y.ak):IB l=false:=by
 cases z:IB l
 ·rfl
 ·exact absurd ((IA l).1 z i x y hx F) h
def Be(A:Ac):Bool:=inB A.ax 0 20&&decide (A.aB.length<=200)&&IB A.aB&&(if A.aJ then inB A.au 0 10&&inB A.aA 0 3 else A.au==0&&A.aA==0)&&(!A.drop||(A.ax==0&& !A.aJ&&A.aB.length==0))
def C5(B:Bk)(A:Ac)(e:En):Bool:=(B.ar.find? (isC A.aa e.ak)).isSome
def CM(B:Bk)(A:Ac)(e:En):Bool:=match B.ar.find? (isC A.aa e.ak) with
 |some c=>c.ag==e.aN
 |none=>false
def G8(B:Bk)(A:Ac):Option Int:=if Be A then(match A5 B A.aa with
 |none=>some 3
 |some s=>if A.aB.all (C5 B A) then(if s.ag==A.aN then(if A.aB.all (CM B A) then none else some 4) else some 4) else some 3) else some 2
theorem Tg{l:List En}{p:En->Bool}{j:Nat}{x:En}(hx:l[j]?=some x)(h:p x=false):l.all p=false:=by
 rw[List.all_eq_false];exact⟨x,AE hx,by rw[h];decide⟩
theorem Py{l:List En}{p:En->Bool}(h:∀i x,i<l.length->l[i]?=some x->p x=true):l.all p=true:=by
 rw[dt];intro x hx;obtain⟨i,z⟩:=List.mem_iff_getElem?.1 hx;exact h i x (AC z).1 z
def CU(v:Int)(c:Cp):Cp:={c with am:=true,ag:=v}
def Db(c:Cp):ByteArray × Int:=(c.aa,c.ak)
def Cw(sv:qB)(v:Int)(l:List Cp)(num:Int):List Cp:=match l.findIdx? (isC sv num) with
 |some i=>(match l[i]? with
  |some c=>l.set i (CU v c)
  |none=>l)
 |none=>l
def BO(B:Bk)(s:Svc)(sv:qB)(v:Int):List En->List Cp->Option (List Cp)
 |[],l=>some l
 |e::es,l=>match l.find? (isC sv e.ak) with
  |some c=>if FA {B with ar:=l} s sv c then BO B s sv v es (Cw sv v l e.ak) else none
  |none=>none
theorem Ru{l:List Cp}{i:Nat}{c:Cp}(h:l[i]?=some c)(v:Int):(l.set i (CU v c)).map Db=l.map Db:=by
 rw[List.map_set];refine fZ λj=>?_
 by_cases F:i=j
 ·subst F
  have z:i<l.length:=(AC h).1;rw[eJ (by rw[ef];exact z),ej,h];rfl
 ·rw[gV F]
theorem Vf{l l':List Cp}(h:l.map Db=l'.map Db)(sv:qB)(num:Int):(l.find? (isC sv num)).isSome=(l'.find? (isC sv num)).isSome:=by
 have e:isC sv num=(λk:ByteArray × Int=>k.1.toList==sv.toList&&k.2==num) ∘ Db:=rfl;have a:=List.find?_map (f:=Db) (p:=λk:ByteArray × Int=>k.1.toList==sv.toList&&k.2==num) (l:=l);have b:=List.find?_map (f:=Db) (p:=λk:ByteArray × Int=>k.1.toList==sv.toList&&k.2==num) (l:=l');rw[<-e]at a b;rw[<-Option.isSome_map (f:=Db),<-a,h,b,Option.isSome_map]
theorem OU{sv:qB}{v:Int}{l:List Cp}{num:Int}{i:Nat}{c:Cp}(z:KB l sv num=(i:Int))(F:l[i]?=some c):Cw sv v l num=l.set i (CU v c):=by
 unfold KB F5 at z;unfold Cw
 cases hf:l.findIdx? (isC sv num) with
 |none=>rw[hf]at z;simp at z
 |some H=>
  rw[hf]at z;obtain rfl:H=i:=Int.ofNat.inj z;simp only[F]
theorem I1:(Tryz.prog.info? 3).map (·.size)=some 1:=qk
theorem GJ{w w':World}{k:Nat}{o:Obj}(hb:Below w.heap.size w w')(h:w.heap[k]?=some o):w'.heap[k]?=some o:=AK hb h (AB h).1
theorem RowIs.bL{w:World}{e:TypeId}{g n cap:Nat}{l:List Svc}(h:RowIs w e 13 g n cap (Af l)){k:Nat}{s:Svc}(hk:l[k]?=some s):SvcAt w g (k*13) s:=by
 obtain⟨b,J,F,_,z⟩:=h.ck (by intro H;rw[H]at hk;simp at hk);cases F;have:=z k s hk
 rwa [dL]at this
theorem GX(B:Bk)(sv:qB):(BG B sv).bj B.ar.length:=by
 unfold BG;split
 ·unfold Cnt.none Cnt.bj
  simp
 ·exact Ed _ _ _ _ AG
def Bd(A:Ac)(s:Svc)(N:Cnt):Bool:=A.drop&&(!s.aH||decide (0<N.aE+N.am))
def AR(A:Ac)(s:Svc):Svc:=if A.aJ then {s with au:=A.au,aA:=A.aA} else s
def CO(A:Ac)(s:Svc)(N:Cnt):Bool:=decide (0<A.ax)&&(s.aH||decide (s.au+s.aG<N.aE+A.ax))
def BA(A:Ac)(s:Svc):Bool:=A.aJ&&(s.aQ==0|| !inB A.au s.az s.aI)
def Dy(B:Bk)(A:Ac)(s:Svc):Bool:=decide (200<(B.ar.length:Int)+A.ax)||decide (1000000<s.next+A.ax)||decide (1000000<=B.av)
def Dj(B:Bk)(A:Ac)(s:Svc)(L:List Cp):Int:=
 if Bd A s (BG B A.aa) then 6 else if CO A (AR A s) (BG {B with ar:=L} A.aa) then 6 else if BA A (AR A s) then 6 else if Dy B A (AR A s) then 7 else 0
theorem Gd{A:Ac}{s:Svc}(h:A.aJ=true):AR A s={s with au:=A.au,aA:=A.aA}:=by unfold AR;rw[dv h]
theorem IQ{A:Ac}{s:Svc}(h:A.aJ=false):AR A s=s:=by unfold AR;rw[dk (by rw[h];decide)]
def Lb(l:List Cp)(c:Cp):List Cp:=l.takeWhile (λx=>An x c)++c::l.drop (l.takeWhile (λx=>An x c)).length
def E9(B:Bk)(A:Ac)(s:Svc)(t:Nat):Cp:=⟨A.aa,s.next+t,B.av+1,s.aj,1,false,⟨#[]⟩⟩
def If(B:Bk)(A:Ac)(s:Svc)(L:List Cp):Nat->List Cp
 |0=>L
 |t+1=>Lb (If B A s L t) (E9 B A s t)
def Di(B:Bk)(A:Ac)(s:Svc):Svc:={AR A s with next:=s.next+A.ax,ag:=B.av+1}
def Dr(B:Bk)(A:Ac)(s:Svc)(k:Nat):List Svc:=if A.drop then B.ah.take k++B.ah.drop (k+1) else B.ah.set k (Di B A s)
def NA(B:Bk)(A:Ac)(s:Svc)(L:List Cp)(k:Nat):Bk:=⟨B.av+1,Dr B A s k,If B A s L A.ax.toNat,B.aw⟩
theorem putC_len(l:List Cp)(c:Cp):(Lb l c).length=l.length+1:=by
 unfold Lb;have h:=(iN (p:=λx=>An x c) (l:=l)).length_le;rw[dE,dM,eh];omega
theorem Hn(B:Bk)(A:Ac)(s:Svc)(L:List Cp):∀t,(If B A s L t).length=L.length+t
 |0=>rfl
 |t+1=>by
  show(Lb _ _).length=_;rw[putC_len,Hn B A s L t];omega
theorem QR{α:Type}{p:α->Bool}:∀{l:List α} {k:Nat},k<=l.length->(∀(i:Nat) s,i<k->l[i]?=some s->p s=true)->(∀s,l[k]?=some s->p s=false)->(l.takeWhile p).length=k
 |[],k,hk,_,_=>by simp at hk;simp[hk]
 |x::l,0,_,_,h=>by rw[g8,dk (by rw[h x rfl];simp)];rfl
 |x::l,k+1,hk,F,H=>by
  have J:(l.takeWhile p).length=k:=QR (by simpa using hk) (λi s M z=>F (i+1) s qo (by simpa using z)) (λs z=>H s (by simpa using z));rw[g8,dv (F 0 x qo rfl),dM,J]
theorem Hg{α:Type}(p:α->Bool):∀l:List α,l.takeWhile p=l.take (l.takeWhile p).length
 |[]=>rfl
 |x::l=>by
  rw[g8];split
  ·rw[dM,gO,<-Hg p l]
  ·rfl
theorem putC_at{l:List Cp}{c:Cp}{m:Nat}(h:(l.takeWhile (λx=>An x c)).length=m):Lb l c=l.take m++c::l.drop m:=by
 unfold Lb;rw[h,Hg,h]
theorem RowIs.cpAt{w:World}{e:TypeId}{g n cap:Nat}{l:List Cp}(h:RowIs w e 7 g n cap (Ay l)){k:Nat}{s:Cp}(hk:l[k]?=some s):CpAt w g (k*7) s:=by
 obtain⟨b,J,F,_,z⟩:=h.bZ (by intro H;rw[H]at hk;simp at hk);cases F;have:=z k s hk
 rwa [dL]at this
def BM(B:Bk)(A:Ac):Int:=match G8 B A with
 |some c=>c
 |none=>match A5 B A.aa with
  |none=>3
  |some s=>match BO B s A.aa (B.av+1) A.aB B.ar with
   |none=>5
   |some L=>Dj B A s L
def BL(B:Bk)(A:Ac):Bk:=match A5 B A.aa with
 |none=>B
 |some s=>match BO B s A.aa (B.av+1) A.aB B.ar with
  |none=>B
  |some L=>NA B A s L (Nr B.ah A.aa).toNat
theorem M6{B:Bk}{A:Ac}(h:G8 B A=none):Be A=true/\∃s,A5 B A.aa=some s/\A.aB.all (C5 B A)=true/\s.ag=A.aN/\A.aB.all (CM B A)=true:=by
 unfold G8 at h;split at h
 ·rename_i H
  refine⟨H,?_⟩;split at h
  ·cases h
  ·rename_i s J
   split at h
   ·rename_i F
    split at h
    ·rename_i hv
     split at h
     ·rename_i z
      exact⟨s,J,F,eq_of_beq hv,z⟩
     ·cases h
    ·cases h
   ·cases h
 ·cases h
theorem Ef{A:Ac}(h:Be A=true):0<=A.ax/\A.ax<=20:=by
 unfold Be at h;simp only[di]at h;exact inB_iff.1 h.1.1.1.1
theorem R6{A:Ac}(h:Be A=true):Hid (A.aJ=true->0<=A.au/\A.au<=10):=λF=>by
 unfold Be at h;simp only[di]at h;have z:=h.1.2;rw[dv F,di]at z;exact inB_iff.1 z.1
theorem early_ne{B:Bk}{A:Ac}{c:Int}(h:G8 B A=some c):c≠0:=by
 unfold G8 at h;split at h
 ·split at h
  ·cases h;decide
  ·split at h
   ·split at h
    ·split at h
     ·cases h
     ·cases h;decide
    ·cases h;decide
   ·cases h;decide
 ·cases h;decide
def Ah(B:Bk)(A:Ac):Bk:=if BM B A=0 then BL B A else B
theorem Sq(sv:qB)(v:Int)(l:List Cp)(num:Int):(Cw sv v l num).length=l.length:=by
 unfold Cw;split
 ·split
  ·rw[dC]
  ·rfl
 ·rfl
theorem IT(B:Bk)(s:Svc)(sv:qB)(v:Int):∀(es:List En) (l L:List Cp),BO B s sv v es l=some L->L.length=l.length
 |[],l,L,h=>by cases h;rfl
 |e::es,l,L,h=>by
  unfold BO at h;split at h
  ·split at h
   ·rw[IT B s sv v es _ L h,Sq]
   ·cases h
  ·cases h
theorem JM{α:Type}{c:α->List Value}{n:Nat}(z:∀s,(c s).length=n):∀(l:List α) (i:Nat),(l.take i).flatMap c=(l.flatMap c).take (i*n)
 |[],i=>qs
 |x::l,0=>qs
 |x::l,i+1=>by
  have e:(c x).take ((i+1)*n)=c x:=eZ (by rw[z,fV];omega);rw[gO,eB,eB,JM z l i,List.take_append,e,z,show(i+1)*n - n=i*n by rw[fV];omega]
theorem M1{α:Type}{c:α->List Value}{n:Nat}(z:∀s,(c s).length=n):∀(l:List α) (i:Nat),(l.drop i).flatMap c=(l.flatMap c).drop (i*n)
 |[],i=>qs
 |x::l,0=>qs
 |x::l,i+1=>by
  have e:(c x).drop ((i+1)*n)=[]:=ij (by rw[z,fV];omega);rw[dA,M1 z l i,eB,List.drop_append,e,fq,z,show(i+1)*n - n=i*n by rw[fV];omega]
theorem RowIs.bP{α:Type}{w:World}{e:TypeId}{size g n cap:Nat}{c:α->List Value}{l:List α}(h:RowIs w e size g n cap (l.flatMap c))(F:∀s,(c s).length=size)(i:Nat):∀j u,((l.drop i).flatMap c)[j]?=some u->w.cell? ((⟨g,i*size,none⟩:Addr).add j)=some u:=λj u z=>by
 rw[M1 F,ew]at z;rw[fP];exact h.cell z
theorem RowIs.cy{α:Type}{w:World}{e:TypeId}{size g n cap:Nat}{c:α->List Value}{l:List α}(h:RowIs w e size g n cap (l.flatMap c))(F:∀s,(c s).length=size)(i:Nat):∀j u,((l.take i).flatMap c)[j]?=some u->w.cell? ((⟨g,0,none⟩:Addr).add j)=some u:=λj u z=>by
 rw[JM F]at z;rw[fP,dL]
 exact h.cell (by
  rw[eK]at z;split at z
  ·exact z
  ·cases z)
theorem code_2{B:Bk}{A:Ac}(h:Be A=false):BM B A=2:=by unfold BM G8;rw[h];rfl
theorem TR{B:Bk}{A:Ac}(h:Be A=true)(z:A5 B A.aa=none\/A.aB.all (C5 B A)=false):BM B A=3:=by
 unfold BM G8;rw[h];simp only[gu]
 cases F:A5 B A.aa with
 |none=>rfl
 |some s=>
  rcases z with z|z
  ·rw[F]at z;cases z
  ·simp[z]
theorem M5{B:Bk}{A:Ac}{s:Svc}(h:Be A=true)(F:A5 B A.aa=some s)(z:A.aB.all (C5 B A)=true):G8 B A=if(s.ag==A.aN&&A.aB.all (CM B A))=true then none else some 4:=by
 unfold G8;rw[h,F];simp only[gu,z];cases s.ag==A.aN<;>cases A.aB.all (CM B A)<;>rfl
theorem TQ{B:Bk}{A:Ac}{s:Svc}(h:Be A=true)(F:A5 B A.aa=some s)(z:A.aB.all (C5 B A)=true)(hv:(s.ag==A.aN&&A.aB.all (CM B A))=false):BM B A=4:=by
 unfold BM;rw[M5 h F z,hv];rfl
theorem code_5{B:Bk}{A:Ac}{s:Svc}(h:Be A=true)(z:A5 B A.aa=some s)(F:A.aB.all (C5 B A)=true)(hv:(s.ag==A.aN&&A.aB.all (CM B A))=true)(H:BO B s A.aa (B.av+1) A.aB B.ar=none):BM B A=5:=by
 unfold BM;rw[M5 h z F,hv,z];simp only[gu,H]
theorem Kw{B:Bk}{A:Ac}{s:Svc}{L:List Cp}(h:Be A=true)(z:A5 B A.aa=some s)(F:A.aB.all (C5 B A)=true)(hv:(s.ag==A.aN&&A.aB.all (CM B A))=true)(H:BO B s A.aa (B.av+1) A.aB B.ar=some L):BM B A=Dj B A s L:=by
 unfold BM;rw[M5 h z F,hv,z];simp only[gu,H]
theorem Kj{B:Bk}{s:Svc}{sv:qB}{v u:Int}:∀(es:List En) (l:List Cp),BO B {s with ag:=u} sv v es l=BO B s sv v es l
 |[],_=>rfl
 |e::es,l=>by
  show(match l.find? (isC sv e.ak) with|some c=>if FA {B with ar:=l} s sv c then BO B {s with ag:=u} sv v es (Cw sv v l e.ak) else none|none=>none)=_;rw[show BO B s sv v (e::es) l=(match l.find? (isC sv e.ak) with|some c=>if FA {B with ar:=l} s sv c then BO B s sv v es (Cw sv v l e.ak) else none|none=>none) from rfl]
  cases l.find? (isC sv e.ak) with
  |none=>rfl
  |some c=>simp only[Kj es]
theorem FL(A:Ac)(s:Svc)(u:Int):BA A (AR A {s with ag:=u})=BA A s/\BA A (AR A s)=BA A s/\BA A {s with ag:=u}=BA A s:=by
 unfold BA AR;cases A.aJ<;>exact⟨rfl,rfl,rfl⟩
theorem JH{B:Bk}{A:Ac}{s:Svc}{L:List Cp}(h:BA A s=true):Dj B A s L=6:=by
 unfold Dj;rw[(FL A s 0).2.1,h];cases Bd A s (BG B A.aa)<;>cases CO A (AR A s) (BG {B with ar:=L} A.aa)<;>rfl
theorem OW{B:Bk}{A:Ac}{s:Svc}{L:List Cp}(h:CO A (AR A s) (BG {B with ar:=L} A.aa)=true):Dj B A s L=6:=by
 unfold Dj;rw[h];cases Bd A s (BG B A.aa)<;>rfl
theorem OX{B:Bk}{A:Ac}{s:Svc}{L:List Cp}(h:Bd A s (BG B A.aa)=true):Dj B A s L=6:=by
 unfold Dj;rw[h];rfl
theorem Kk{B:Bk}{A:Ac}{s:Svc}{L:List Cp}(z:BA A s=false)(F:CO A (AR A s) (BG {B with ar:=L} A.aa)=false)(H:Bd A s (BG B A.aa)=false):Dj B A s L=if Dy B A (AR A s) then 7 else 0:=by
 unfold Dj;rw[(FL A s 0).2.1,z,F,H];rfl
structure BkRow(w:World)(N g1 g2 g3 k1 k2 k3:Nat)(B:Bk):Prop where
 n1:N<=g1
 n2:N<=g2
 n3:N<=g3
 ah:RowIs w 34 13 g1 B.ah.length k1 (Af B.ah)
 ar:RowIs w 76 7 g2 B.ar.length k2 (Ay B.ar)
 aw:RowIs w 90 2 g3 B.aw.length k3 (Cd B.aw)
theorem RowIs.ne{w:World}{e O:TypeId}{size z g W n n' cap H:Nat}{xs J:qL}(h:RowIs w e size g n cap xs)(Z:RowIs w O z W n' H J)(he:e≠O):g≠W:=λhg=>by
 obtain⟨_,_,Y,F,_⟩:=h;obtain⟨_,_,M,h2,_⟩:=Z;rw[hg,h2]at F;injection F with F
 injection F with _ F
 exact he F.symm
theorem BkRow.cZ{w:World}{N g1 g2 g3 k1 k2 k3:Nat}{B:Bk}(h:BkRow w N g1 g2 g3 k1 k2 k3 B):g1≠g2:=h.ah.ne h.ar qd
theorem BkRow.cU{w:World}{N g1 g2 g3 k1 k2 k3:Nat}{B:Bk}(h:BkRow w N g1 g2 g3 k1 k2 k3 B):g1≠g3:=h.ah.ne h.aw qd
theorem BkRow.cY{w:World}{N g1 g2 g3 k1 k2 k3:Nat}{B:Bk}(h:BkRow w N g1 g2 g3 k1 k2 k3 B):g2≠g3:=h.ar.ne h.aw qd
theorem BkRow.at{w:World}{N g1 g2 g3 k1 k2 k3:Nat}{B:Bk}(h:BkRow w N g1 g2 g3 k1 k2 k3 B):BkAt w (qad g1) (qad g2) (qad g3) B:=⟨h.ah.ck,h.ar.bZ,h.aw.cA⟩
theorem Fp:(Tryz.prog.info? 28).map (·.size)=some 4:=qk
theorem Cj(B:Bk)(a1 a2 a3:qO)(c1 c2 c3:Nat)(w:World)(M:B.aR)(hB:BkAt w a1 a2 a3 B):
  Calls Tryz.prog 62 #[.agg (qbV B a1 c1 a2 c2 a3 c3)] w λe w'=>∃g1 k1 g2 k2 g3 k3,e=.returned (.agg (qbV B (qad g1) k1 (qad g2) k2 (qad g3) k3))/\BkRow w' w.heap.size g1 g2 g3 k1 k2 k3 B/\Below w.heap.size w w':=by
 obtain⟨a9,ba,bb⟩:=M;obtain⟨t0,t1,t2⟩:=CL w (.cells (qbV B a1 c1 a2 c2 a3 c3) 28) (.cells qzV 28);have T0:Hid _:=t0;have T1:Hid _:=t1;have O:Hid _:=t2;have aq:w.heap.size<((w.alloc (.cells (qbV B a1 c1 a2 c2 a3 c3) 28)).alloc (.cells qzV 28)).heap.size:=by rw[O.ab];omega
 have aK:w.heap.size+1<((w.alloc (.cells (qbV B a1 c1 a2 c2 a3 c3) 28)).alloc (.cells qzV 28)).heap.size:=by rw[O.ab];omega
 clear t0 t1 t2;have aa:Below w.heap.size w ((w.alloc (.cells (qbV B a1 c1 a2 c2 a3 c3) 28)).alloc (.cells qzV 28)):=((dG _ _).alloc AG _).alloc qs _;go_enter Tryz.func62,Tryz.ntmps62;go_wp2;refine AU 15 ?_;apply AL
 ·intro V W K A F H z J
  simp only[pA]at z;subst z;go_wp2;exact J.ab _ brf
 apply qA0
 ·intro V W K A F H z J
  simp only[pA,qv (H 0)]at z;subst z;have e0:=AJ (AK F T0.ab aq) 0;go_wp2;exact J
 refine AZ (λv W=>∃g,v=.slice (qad g) 0 0/\w.heap.size+1+1<=g/\qBl W g #[] 34) (λv W W2 ⟨g,h1,h2,Z⟩ hb=>⟨g,h1,h2,AK hb Z (AB Z).1⟩) ?_ ?_
 ·intro V W K A F H z J
  simp only[pA]at z;subst z;go_wp2;exact J.ab _ _ (AN W _) ⟨_,rfl,by have:=F.size;rw[O.ab]at this;exact this,dm W _⟩
 refine qA0 qP ?_
 apply qA0
 ·intro V W K A F H z J
  simp only[pA,qv (H 3)]at z;subst z;have e1:=AJ (AK F T0.ab aq) 1;go_wp2;exact J
 refine AZ (λv W=>∃g cap,v=.slice (qad g) B.ah.length cap/\w.heap.size+1+1<=g/\RowIs W 34 13 g B.ah.length cap (Af B.ah)) (λv W W2 ⟨g,cap,h1,h2,Z⟩ hb=>⟨g,cap,h1,h2,Z.below hb Z.lt⟩) ?_ ?_
 ·intro V W K A F H z J
  have d2:=H 2;simp only[pA,qv (H 4)]at z;generalize V 2=x2 at d2 z;subst z;obtain⟨g,rfl,hg,an⟩:=d2;refine Cq rfl (.tmp 5) (.tmp 7) 24 rfl 34 _ 13 112 Tryz.underlying24 Lf rfl g rfl an a1 B.ah.length c1 (Af B.ah) rfl (GN _) (hB.1.below (aa.trans (F.mono aa.size))).bG (IM _) qm qo ?_;intro g' Y w2 al ae ak
  have am:w.heap.size+1+1<=g':=by
   have:=F.size;rw[O.ab]at this;rcases al with rfl|rfl
   ·exact hg
   ·exact this
  go_wp2;exact J.ab _ _ ak ⟨g',Y,rfl,am,ae.ab⟩
 refine AZ (λv W=>∃g,v=.slice (qad g) 0 0/\w.heap.size+1+1<=g/\qBl W g #[] 76) (λv W W2 ⟨g,h1,h2,Z⟩ hb=>⟨g,h1,h2,AK hb Z (AB Z).1⟩) ?_ ?_
 ·intro V W K A F H z J
  simp only[pA]at z;subst z;go_wp2;exact J.ab _ _ (AN W _) ⟨_,rfl,by have:=F.size;rw[O.ab]at this;exact this,dm W _⟩
 refine qA0 qP ?_
 apply qA0
 ·intro V W K A F H z J
  simp only[pA,qv (H 7)]at z;subst z;have e2:=AJ (AK F T0.ab aq) 2;go_wp2;exact J
 refine AZ (λv W=>∃g cap,v=.slice (qad g) B.ar.length cap/\w.heap.size+1+1<=g/\RowIs W 76 7 g B.ar.length cap (Ay B.ar)) (λv W W2 ⟨g,cap,h1,h2,Z⟩ hb=>⟨g,cap,h1,h2,Z.below hb Z.lt⟩) ?_ ?_
 ·intro V W K A F H z J
  have d6:=H 6;simp only[pA,qv (H 8)]at z;generalize V 6=x6 at d6 z;subst z;obtain⟨g,rfl,hg,an⟩:=d6;refine Cq rfl (.tmp 9) (.tmp 11) 25 rfl 76 _ 7 72 Tryz.underlying25 QD rfl g rfl an a2 B.ar.length c2 (Ay B.ar) rfl (CJ _) (hB.2.1.below (aa.trans (F.mono aa.size))).bG (Hy _) qm qo ?_;intro g' Y w2 al ae ak
  have am:w.heap.size+1+1<=g':=by
   have:=F.size;rw[O.ab]at this;rcases al with rfl|rfl
   ·exact hg
   ·exact this
  go_wp2;exact J.ab _ _ ak ⟨g',Y,rfl,am,ae.ab⟩
 refine AZ (λv W=>∃g,v=.slice (qad g) 0 0/\w.heap.size+1+1<=g/\qBl W g #[] 90) (λv W W2 ⟨g,h1,h2,Z⟩ hb=>⟨g,h1,h2,AK hb Z (AB Z).1⟩) ?_ ?_
 ·intro V W K A F H z J
  simp only[pA]at z;subst z;go_wp2;exact J.ab _ _ (AN W _) ⟨_,rfl,by have:=F.size;rw[O.ab]at this;exact this,dm W _⟩
 refine qA0 qP ?_
 apply qA0
 ·intro V W K A F H z J
  simp only[pA,qv (H 11)]at z;subst z;have e3:=AJ (AK F T0.ab aq) 3;go_wp2;exact J
 refine AZ (λv W=>∃g cap,v=.slice (qad g) B.aw.length cap/\w.heap.size+1+1<=g/\RowIs W 90 2 g B.aw.length cap (Cd B.aw)) (λv W W2 ⟨g,cap,h1,h2,Z⟩ hb=>⟨g,cap,h1,h2,Z.below hb Z.lt⟩) ?_ ?_
 ·intro V W K A F H z J
  have af:=H 10;simp only[pA,qv (H 12)]at z;generalize V 10=aN at af z;subst z;obtain⟨g,rfl,hg,an⟩:=af;refine Cq rfl (.tmp 13) (.tmp 15) 26 rfl 90 _ 2 24 Tryz.underlying26 N6 rfl g rfl an a3 B.aw.length c3 (Cd B.aw) rfl (KJ _) (hB.2.2.below (aa.trans (F.mono aa.size))).bG (NP _) qm qo ?_;intro g' Y w2 al ae ak
  have am:w.heap.size+1+1<=g':=by
   have:=F.size;rw[O.ab]at this;rcases al with rfl|rfl
   ·exact hg
   ·exact this
  go_wp2;exact J.ab _ _ ak ⟨g',Y,rfl,am,ae.ab⟩
 refine AZ (λv W=>∃g1 k1 g2 k2 g3 k3,v=.agg (qbV B (qad g1) k1 (qad g2) k2 (qad g3) k3)/\(w.heap.size+1+1<=g1/\RowIs W 34 13 g1 B.ah.length k1 (Af B.ah))/\(w.heap.size+1+1<=g2/\RowIs W 76 7 g2 B.ar.length k2 (Ay B.ar))/\(w.heap.size+1+1<=g3/\RowIs W 90 2 g3 B.aw.length k3 (Cd B.aw))) (λv W W2 ⟨g1,k1,g2,k2,g3,k3,h,⟨p1,r1⟩,⟨p2,r2⟩,⟨p3,r3⟩⟩ hb=>⟨g1,k1,g2,k2,g3,k3,h,⟨p1,r1.below hb r1.lt⟩,⟨p2,r2.below hb r2.lt⟩,⟨p3,r3.below hb r3.lt⟩⟩) ?_ ?_
 ·intro V W K A F H z J
  have d5:=H 5;have d9:=H 9;have ag:=H 13;simp only[pA,qv (H 1)]at z;generalize V 5=x5 at d5 z;generalize V 9=x9 at d9 z;generalize V 13=aO at ag z;subst z;obtain⟨g1,k1,rfl,p1,r1⟩:=d5;obtain⟨g2,k2,rfl,p2,r2⟩:=d9;obtain⟨g3,k3,rfl,p3,r3⟩:=ag;have R1:Hid (RowIs W 34 13 g1 B.ah.length k1 (Af B.ah)):=r1;have R2:Hid (RowIs W 76 7 g2 B.ar.length k2 (Ay B.ar)):=r2;have R3:Hid (RowIs W 90 2 g3 B.aw.length k3 (Cd B.aw)):=r3;clear r1 r2 r3;go_wp2;exact J.ab _ _ brf ⟨g1,k1,g2,k2,g3,k3,rfl,⟨p1,R1.ab⟩,⟨p2,R2.ab⟩,⟨p3,R3.ab⟩⟩
 intro V W A F M z;have d2:=M 2;have d5:=M 5;have d6:=M 6;have d9:=M 9;have af:=M 10;have ag:=M 13;have ax:=M 14;simp only[pA,qv (M 0),qv (M 1),qv (M 3),qv (M 4),qv (M 7),qv (M 8),qv (M 11),qv (M 12)]at z;clear M;generalize V 2=x2 at d2 z;generalize V 5=x5 at d5 z;generalize V 6=x6 at d6 z;generalize V 9=x9 at d9 z
 generalize V 10=aN at af z;generalize V 13=aO at ag z;generalize V 14=bn at ax z;subst z;simp only[dA,dN];obtain⟨g1,k1,g2,k2,g3,k3,rfl,⟨p1,r1⟩,⟨p2,r2⟩,⟨p3,r3⟩⟩:=ax;clear d2 d5 d6 d9 af ag;have aJ:=aa.trans (F.mono aa.size);refine qAM (AK F T1.ab aK) Fp ?_;intro wf hz on;have RF:Hid (qBl wf (w.heap.size+1) (qbV B (qad g1) k1 (qad g2) k2 (qad g3) k3) 28):=hz;have HR:Hid (BkRow wf w.heap.size g1 g2 g3 k1 k2 k3 B):=⟨qo,qo,qo,r1.aV (on.aL _ qo),r2.aV (on.aL _ qo),r3.aV (on.aL _ qo)⟩;have aI:Below w.heap.size w wf:=aJ.trans (on.below.mono qo);clear hz on r1 r2 r3;have p0:=AJ RF.ab 0;have q1:=AJ RF.ab 1;have q2:=AJ RF.ab 2;have q3:=AJ RF.ab 3;go_wp2;refine dF (v:=.agg (qbV B (qad g1) k1 (qad g2) k2 (qad g3) k3)) (by simp[results,Tryz.results62,go_sem,p0,q1,q2,q3]) rfl ⟨g1,k1,g2,k2,g3,k3,rfl,HR.ab,aI⟩
end
end Go.Proofs.YtbceafpodamnfaaGreatDoor
