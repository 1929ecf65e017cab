import Derived.Test.YtbceafpodamnfaaGreatDoorG20
set_option linter.all false
set_option maxHeartbeats 4000000
set_option maxRecDepth 100000
namespace Go.Proofs.YtbceafpodamnfaaGreatDoor
section
open Go.RowKit
def Do(sv:qB)(c:Cp):Bool:=c.aa.toList==sv.toList&& !c.am
def B5(B:Bk)(c:Cp):Bool:=match B.aw.find? λb=>b.name.toList==c.aC.toList with
 |none=>false
 |some b=>b.aM
def Fv(B:Bk)(x y:Cp)(img:Int):Bool:=
 if((x.ay !=3)!=(y.ay !=3)) then(x.ay !=3) else if((x.aj !=img)!=(y.aj !=img)) then(x.aj !=img) else if(B5 B x !=B5 B y) then B5 B x else decide (y.ak<x.ak)
def CV(c:Cp):En:=⟨c.ak,c.ag⟩
def Aq(B:Bk)(sv:qB):List Cp:=B.ar.filter (Do sv)
def whP(B:Bk)(s:Svc)(wh:Int)(c:Cp):Bool:=if wh=2 then c.aj !=s.aj else if wh=6 then B5 B c else if wh=3 then c.ay==4 else false
def C8(B:Bk)(s:Svc)(wh:Int):List Cp:=(Aq B s.name).filter (whP B s wh)
def Hs(B:Bk)(c:Cp):Bool:=El B c.aa c.ak
def Fl(B:Bk)(img:Int)(b x:Cp):Cp:=if Fv B x b img then x else b
def BK(B:Bk)(img:Int):List Cp->List En
 |[]=>[]
 |c::r=>[CV (r.foldl (Fl B img) c)]
def NL(s:Svc)(d:Int):Int:=if s.aI<(if d<s.az then s.az else d) then s.aI else if d<s.az then s.az else d
def B6(s:Svc):Int:=NL s (Int.tdiv (s.load+s.aQ - 1) s.aQ)
def a0(s:Svc):Ac:=⟨s.name,s.ag,0,0,0,false,[],false⟩
def Bf(s:Svc)(d:Int):Ac:=
 if s.au<s.az then {a0 s with aJ:=true,au:=s.az}
 else if s.aI<s.au then {a0 s with aJ:=true,au:=s.aI}
 else if s.au<d then {a0 s with aJ:=true,au:=d}
 else if d<s.au then(if 3<=s.aA then {a0 s with aJ:=true,au:=s.au - 1} else {a0 s with aJ:=true,au:=s.au,aA:=s.aA+1})
 else if s.aA=0 then a0 s
 else {a0 s with aJ:=true,au:=s.au}
def Jp(l:List En):Int:=match l with|[]=>0|e::_=>e.ak
abbrev Ix (B:Bk) (s:Svc):Prop:=(C8 B s 2).length=0/\(C8 B s 6).length=0
def Bp(B:Bk)(s:Svc):Ac:=
 if((Aq B s.name).length:Int)<s.au then {a0 s with ax:=s.au - (Aq B s.name).length}
 else if(s.au<((Aq B s.name).length:Int)/\(Ix B s\/s.au+s.aG<((Aq B s.name).length:Int)))/\El B s.name (Jp (BK B s.aj (Aq B s.name)))=true then {a0 s with aB:=BK B s.aj (Aq B s.name)}
 else a0 s
def Bh(B:Bk)(s:Svc)(l:List Cp):Ac:=
 if l.length=0\/((Aq B s.name).length:Int)<s.au then a0 s
 else if((Aq B s.name).length:Int)<s.au+s.aG then {a0 s with ax:=1}
 else {a0 s with aB:=BK B s.aj (l.filter (Hs B))}
def CK(kind:Int)(B:Bk)(s:Svc):Ac:=
 if kind=3 then {a0 s with aB:=(C8 B s 3).map CV}
 else if s.aH=true then(if kind=5 then {a0 s with aB:=(Aq B s.name).map CV,drop:=((BG B s.name).aE+(BG B s.name).am==0)} else a0 s)
 else if kind=1 then Bp B s
 else if kind=2 then Bh B s (C8 B s 2)
 else if kind=6 then(if(C8 B s 2).length=0 then Bh B s (C8 B s 6) else a0 s)
 else if kind=4 then(if 0<s.aQ then Bf s (B6 s) else a0 s)
 else a0 s
def Cz(A:Ac):Bool:=decide (0<A.ax)||A.aJ||decide (0<A.aB.length)||A.drop
def EJ(kind:Int)(B:Bk):List Ac:=if Aj B then(B.ah.map (CK kind B)).filter Cz else []
structure KU(s:Svc):Prop where
 per1:s.aQ<=1000000
 cM:0<=s.load
 cN:s.load<=1000000
 cR:0<=s.az
 cT:s.az<=10
 most0:0<=s.aI
 most1:s.aI<=10
 cw:0<=s.aA
 cx:s.aA<=3
theorem Valid.cO{B:Bk}(h:Valid B){s:Svc}(O:s∈B.ah)(W:0<s.aQ):KU s:=by
 have:=IP h.ah O;unfold svcB Qt at this;rw[dk qo]at this;simp only[di,inB_iff]at this;obtain⟨_,⟨⟨⟨J,z⟩,F⟩,M⟩,H⟩:=this;exact⟨J.2,z.1,z.2,F.1,F.2,qo,M.2,H.1,H.2⟩
def AtP(B:Bk)(L:List Int)(l:List Cp):Prop:=L.map (λx:Int=>B.ar[x.toNat]?)=l.map some/\∀x∈L,0<=x/\x<B.ar.length
theorem AtP.nil(B:Bk):AtP B [] []:=⟨rfl,λ_ h=>nomatch h⟩
theorem AtP.len{B:Bk}{L:List Int}{l:List Cp}(h:AtP B L l):L.length=l.length:=by have:=ei List.length h.1;simpa using this
theorem AtP.at{B:Bk}{L:List Int}{l:List Cp}(h:AtP B L l){i:Nat}{x:Int}(hx:L[i]?=some x):(0<=x/\x<B.ar.length)/\∃c,l[i]?=some c/\B.ar[x.toNat]?=some c:=by
 have e:=ei (·[i]?) h.1;simp only[ej,hx,eO]at e;refine⟨h.2 x (AE hx),?_⟩
 cases z:l[i]? with
 |none=>rw[z]at e;cases e
 |some c=>rw[z]at e;exact⟨c,rfl,dj e⟩
theorem AtP.app{B:Bk}{L:List Int}{l:List Cp}(h:AtP B L l){x:Int}{c:Cp}(z:0<=x)(F:x<B.ar.length)(H:B.ar[x.toNat]?=some c):AtP B (L++[x]) (l++[c]):=
 ⟨by rw[fm,fm,h.1];simp[H],λy J=>(dO.1 J).elim (h.2 y) λh=>by rw[dl.1 h];exact⟨z,F⟩⟩
theorem GU(B:Bk)(sv:qB):(Aq B sv).length<=B.ar.length:=dV ..
theorem MK(B:Bk)(s:Svc)(z:Int):(C8 B s z).length<=B.ar.length:=AH (dV ..) (GU B _)
theorem SM{α:Type}{p:α->Bool}{l:List α}{k:Nat}{x:α}(h:l[k]?=some x):(l.take (k+1)).filter p=(l.take k).filter p++if p x then [x] else []:=by
 rw[ec,h,ez];cases z:p x<;>simp[z]
theorem Idx.bt{B:Bk}{nm:qB}{k:Int}(h:Idx (λs:Bt=>nmB s.name nm) B.aw k):(k= -1/\(B.aw.find? λb=>b.name.toList==nm.toList)=none)\/∃(j:Nat) (b:Bt),k=j/\B.aw[j]?=some b/\(B.aw.find? λb=>b.name.toList==nm.toList)=some b:=by
 rcases h with⟨rfl,M⟩|⟨j,x,rfl,H,O,F⟩
 ·exact .inl ⟨rfl,fS.2 λx hx=>by have:=M x hx;unfold nmB at this;simp[this]⟩
 ·obtain⟨z,hx⟩:=AC H
  exact .inr ⟨j,x,rfl,H,gD.2 ⟨O,j,z,hx,λi J=>by
   have:=F B.aw[i] (AE (show(B.aw.take j)[i]?=some B.aw[i] by rw[eH J];exact dz qo))
   unfold nmB at this;simp[this]⟩⟩
end
section
open Go.RowKit
open Go.Value renaming int->In,slice->Sl,string->Sg,bool->Bo,pointer->Po
open Go.IntKind renaming i64->i6
def UM(B:Bk)(l:List Cp)(v:Value)(es:AW):Prop:=∃xs cp,v=.iface 0 (Sl none xs.length cp)/\es=[(0,At 3 1 cp inL xs)]/\AtP B xs l
theorem JK{B:Bk}{i cp:Nat}{xs:List Int}{l:List Cp}{m:AW}{b:VB}(h:AtP B xs l)(z:lk m i=some b)(hb:LeB [(0,i)] b (At 3 1 cp inL xs)):Dm (UM B l) (.iface i (Sl none xs.length cp)) m 0:=
 ⟨.iface 0 (Sl none xs.length cp),[(0,At 3 1 cp inL xs)],[(0,i)],⟨xs,cp,rfl,rfl,h⟩,rfl,⟨⟨b,z,hb⟩,trivial⟩,rfl,rfl,⟨λ_ _=>trivial,trivial⟩⟩
section
variable {RD:(Nat->Prop)->World->Nat->Nat->Prop}
abbrev ctLiveX:Ct:=ctV (λp:BP × ByteArray=>[p.1.v,Sg p.2]) (λp=>p.1.m) (λp=>p.1.tn) λp=>UM p.1.B (Aq p.1.B p.2)
theorem Jw(hR:CR RD):CH Tryz.prog RD 137 0 ctLiveX:=by
 refine Da (BB hR) Tryz.func137 qk qk (λ_=>rfl) Lw ?_;rintro⟨⟨B,c1,c2,c3⟩,nm⟩ ⟨_,hl,_⟩;have hl:B.ar.length<=1000:=hl;refine⟨λn s=>∃(i:Nat) (H:List Int) (k cp:Nat),(i<=B.ar.length/\k=H.length/\AtP B H ((B.ar.take i).filter (Do nm)))/\n=B.ar.length - i/\s=⟨[(6,In i6 i),(5,.iface 80 (Sl none k cp)),(2,.complex .f64 64 0),(1,.string nm)],(80,At 3 1 cp inL H)::(64,AX (Fs B c1 c2 c3) 28)::bkM B,100,0⟩,B.ar.length,⟨_,(by refine⟨[],?_,?_,rfl,rfl,AG⟩<;>repeat' (first|exact rfl|exact trivial|exact⟨Et 3 1 [],rfl,Hr (f:=inL) []⟩|exact⟨_,rfl,.same _ _ rfl⟩|apply dg)),0,[],0,0,⟨AI _,rfl,.nil B⟩,rfl,rfl⟩,?_⟩;rintro n _ ⟨i,H,k,cp,⟨hi,hk,Y⟩,rfl,rfl⟩;refine dg (λF=>?_) (λF=>?_)
 ·have F:i<B.ar.length:=Int.ofNat_lt.1 F
  have ax:k<=B.ar.length:=by rw[hk,Y.len];exact AH (dV ..) (by rw[dI];omega)
  obtain⟨y,hy⟩:∃y,B.ar[i]?=some y:=⟨B.ar[i],dz F⟩;have W:=SM (p:=Do nm) hy
  have step:∀(J:List Int) (k' M:Nat) (s:Int->St),k'=J.length->AtP B J ((B.ar.take (i+1)).filter (Do nm))->(∀z:Int,Ent (s z) ⟨[(6,In i6 z),(5,.iface 80 (Sl none k' M)),(2,.complex .f64 64 0),(1,.string nm)],(80,At 3 1 M inL J)::(64,AX (Fs B c1 c2 c3) 28)::bkM B,100,0⟩)->∀z:Int,(inR ((i:Int)+1)->z=(i:Int)+1)->∃n',n'<B.ar.length - i/\∃s',Ent (s z) s'/\∃(i:Nat) (H:List Int) (k cp:Nat),(i<=B.ar.length/\k=H.length/\AtP B H ((B.ar.take i).filter (Do nm)))/\n'=B.ar.length - i/\s'=⟨[(6,In i6 i),(5,.iface 80 (Sl none k cp)),(2,.complex .f64 64 0),(1,.string nm)],(80,At 3 1 cp inL H)::(64,AX (Fs B c1 c2 c3) 28)::bkM B,100,0⟩:=λJ k' M s e1 e2 hE z hz=>by
   have hz:z=((i+1:Nat):Int):=by have:=hz ⟨qo,qo⟩;omega
   subst hz;exact⟨B.ar.length - (i+1),qo,_,hE _,i+1,J,k',M,⟨qo,e1,e2⟩,rfl,rfl⟩
  refine dg qo (dg qo (dg AG (λb hb=>?_)));rw[du,hy]at hb;cases hb;refine dg (λhe=>?_) (λhe=>?_)
  ·refine dg qo (dg qo (dg AG (λb' Z=>?_)))
   rw[du,hy]at Z;cases Z;refine dg (λO=>?_) (λO=>?_)
   ·refine step H k cp _ hk (by rw[W,show Do nm y=false by unfold Do;rw[show y.am=true from O];simp];simpa using Y) λz=>?_
    refine⟨[],?_,?_,rfl,rfl,AG⟩<;>repeat' (first|exact rfl|exact trivial|exact⟨_,rfl,.same _ _ rfl⟩|apply dg)
   ·refine dg hk (dg rfl (dg AG (dg qo (λc'=>?_))))
    refine step (H++[(i:Int)]) (k+1) c' _ (by rw[hk];simp) (by rw[W,show Do nm y=true by unfold Do;rw[show(y.aa.toList==nm.toList)=true from he,show y.am=false by simpa using O];rfl];exact Y.app qo qo (by rw[du];exact hy)) λz=>?_
    refine⟨[(80,300)],?_,?_,rfl,rfl,AG⟩<;>repeat' (first|exact rfl|exact trivial|exact⟨_,rfl,Ee _ _⟩|exact⟨_,rfl,.same _ _ rfl⟩|apply dg)
  ·refine step H k cp _ hk (by rw[W,show Do nm y=false by unfold Do;rw[show(y.aa.toList==nm.toList)=false by simpa using he];rfl];simpa using Y) λz=>?_
   refine⟨[],?_,?_,rfl,rfl,AG⟩<;>repeat' (first|exact rfl|exact trivial|exact⟨_,rfl,.same _ _ rfl⟩|apply dg)
 ·have ag:i=B.ar.length:=by have:¬(i:Int)<B.ar.length:=F;omega
  subst ag;subst hk;rw[eC]at Y;exact⟨.inl rfl,_,rfl,JK (l:=Aq B nm) Y rfl (.same _ _ rfl),rfl⟩
abbrev Vm:Ct:=ctV (λp:BP × Cp=>[p.1.v,cpV p.2]) (λp=>p.1.m) (λp=>p.1.tn) λp v es=>es=[]/\v=.bool (B5 p.1.B p.2)
theorem M9(J:CR RD):CH Tryz.prog RD 210 0 Vm:=by
 refine Da (Aa (BB J) (f:=124) qk (Rw J)) Tryz.func210 qk qk (λ_=>rfl) (λp O h z=>?_) ?_
 ·obtain⟨p,s⟩:=p
  obtain⟨O,Z⟩:=O;simp only[BP.m,bkM,dD,dR,fH,eo]at h z;rw[BP.inj h.1 z.1 z.2.1 z.2.2,KG h.2]
 rintro⟨⟨B,c1,c2,c3⟩,x⟩ Y;have key:∀(r:Bool) m,B5 B x=r->Dm (λv es=>es=[]/\v=.bool (B5 B x)) (.bool r) m 0:=λr m h=>⟨_,_,[],⟨rfl,by rw[h]⟩,rfl,trivial,rfl,rfl,trivial⟩
 refine⟨(⟨B,c1,c2,c3⟩,x.aC),rfl,Y,?_⟩;rintro _ _ ⟨rfl,k,rfl,hk⟩;have F:=hk.lt;rcases Idx.bt hk with⟨rfl,H⟩|⟨j,b,rfl,W,hf⟩
 ·refine dg (λh=>absurd h qd) (λh=>?_)
  exact⟨.inl rfl,_,rfl,key false _ (by unfold B5;rw[H]),rfl⟩
 ·refine dg (λh=>?_) (λh=>absurd (Int.natCast_nonneg j) h)
  refine dg h (dg F.2 (dg AG (λy M=>?_)));rw[du,W]at M;cases M;refine dg (λh=>?_) (λh=>?_)
  ·exact⟨.inl rfl,_,rfl,key true _ (by unfold B5;rw[hf];exact h),rfl⟩
  ·exact⟨.inl rfl,_,rfl,key false _ (by unfold B5;rw[hf];simpa using h),rfl⟩
abbrev Vj:Ct:=ctV (λp:BP × Cp × Cp × Int=>[p.1.v,cpV p.2.1,cpV p.2.2.1,In i6 p.2.2.2]) (λp=>p.1.m) (λp=>p.1.tn) λp v es=>es=[]/\v=.bool (Fv p.1.B p.2.1 p.2.2.1 p.2.2.2)
theorem SQ(M:CR RD):CH Tryz.prog RD 297 0 Vj:=by
 refine Da (Aa (BB M) (f:=210) qk (M9 M)) Tryz.func297 qk qk (λ_=>rfl) (λp W h z=>?_) ?_
 ·obtain⟨p,s,t,n⟩:=p
  obtain⟨W,Z,t',Y⟩:=W;simp only[BP.m,bkM,dD,dR,fH,eo,fB]at h z;rw[BP.inj h.1 z.1 z.2.1 z.2.2,KG h.2.1,KG h.2.2.1,h.2.2.2]
 rintro⟨⟨B,c1,c2,c3⟩,x,y,F⟩ H;obtain⟨dx,hx⟩:∃d,B5 B x=d:=⟨_,rfl⟩;obtain⟨J,O⟩:∃d,B5 B y=d:=⟨_,rfl⟩;have key:∀(r:Bool) m,(if((x.ay !=3)!=(y.ay !=3)) then(x.ay !=3) else if((x.aj !=F)!=(y.aj !=F)) then(x.aj !=F) else if(dx !=J) then dx else decide (y.ak<x.ak))=r->Dm (λv es=>es=[]/\v=.bool (Fv B x y F)) (.bool r) m 0:=λr m h=>⟨_,_,[],⟨rfl,by unfold Fv;rw[hx,O,h]⟩,rfl,trivial,rfl,rfl,trivial⟩
 have e:∀a b:Int,(a !=b)=decide (¬a=b):=λa b=>by by_cases h:a=b<;>simp[h]
 simp only[e]at key;clear e
 repeat' (first|refine dg (λ_=>?_) (λ_=>?_)|exact⟨.inl rfl,_,rfl,key _ _ (by clear key H;simp_all),rfl⟩|(refine⟨(⟨B,c1,c2,c3⟩,x),rfl,H,?_⟩;rintro v _ ⟨rfl,hv⟩;have hv:v=.bool (B5 B x):=hv;rw[hx]at hv;subst hv;first|cases dx|skip)|(refine⟨(⟨B,c1,c2,c3⟩,y),rfl,H,?_⟩;rintro v _ ⟨rfl,hv⟩;have hv:v=.bool (B5 B y):=hv;rw[O]at hv;subst hv;first|cases J|skip))
end
def CG(B:Bk)(L:List Int):List Cp:=L.filterMap λx:Int=>B.ar[x.toNat]?
theorem AtP.ar{B:Bk}{L:List Int}{l:List Cp}(h:AtP B L l):CG B L=l:=by
 have e:CG B L=(L.map λx:Int=>B.ar[x.toNat]?).filterMap id:=by rw[List.filterMap_map];rfl
 rw[e,h.1,List.filterMap_map];exact List.filterMap_some
def endsX(l:List En)(v:Value)(es:AW):Prop:=∃cp,v=.iface 0 (Sl none l.length cp)/\es=[(0,At 88 2 cp enL l)]
theorem JT{i cp:Nat}{l T:List En}{m:AW}{b:VB}(h:l=T)(z:lk m i=some b)(hb:LeB [(0,i)] b (At 88 2 cp enL l)):Dm (endsX T) (.iface i (Sl none l.length cp)) m 0:=by
 subst h;exact⟨.iface 0 (Sl none l.length cp),[(0,At 88 2 cp enL l)],[(0,i)],⟨cp,rfl,rfl⟩,rfl,⟨⟨b,z,hb⟩,trivial⟩,rfl,rfl,⟨λ_ _=>trivial,trivial⟩⟩
def BP.vd(p:BP):Prop:=p.tn/\Valid p.B
theorem Valid.nm{B:Bk}(F:Valid B){c:Cp}(H:c∈B.ar):∃s∈B.ah,nmB s.name c.aa=true:=by
 obtain⟨d,z,_⟩:=F.bH H;exact⟨d,iy z,gM (p:=λs:Svc=>s.name.toList==c.aa.toList) z⟩
section
variable {RD:(Nat->Prop)->World->Nat->Nat->Prop}
abbrev ctEndsX:Ct:=ctV (λp:BP × List Int × Nat=>[p.1.v,.iface 3 (Sl none p.2.1.length p.2.2)]) (λp=>p.1.m++[(3,BY 3 1 inL p.2.1)]) (λp=>p.1.tn/\p.2.1.length<=1000/\∃l,AtP p.1.B p.2.1 l) λp=>endsX ((CG p.1.B p.2.1).map CV)
theorem endsX_ct(hR:CR RD):CH Tryz.prog RD 135 0 ctEndsX:=by
 refine Da (BB hR) Tryz.func135 qk qk (λ_=>rfl) Uk ?_;rintro⟨⟨B,c1,c2,c3⟩,L,cL⟩ ⟨⟨_,hl,_⟩,M,l,J⟩;have M:L.length<=1000:=M;have hl:B.ar.length<=1000:=hl;have J:AtP B L l:=J;have hL:L.length=l.length:=J.len;refine⟨λn s=>∃(i:Nat) (H:List En) (k cp:Nat),(i<=l.length/\k=H.length/\H=(l.take i).map CV)/\n=l.length - i/\s=⟨[(6,In i6 i),(5,.iface 80 (Sl none k cp)),(2,.complex .f64 64 0),(1,.iface 3 (Sl none L.length cL))],(80,At 88 2 cp enL H)::(64,AX (Fs B c1 c2 c3) 28)::(bkM B++[(3,BY 3 1 inL L)]),100,0⟩,l.length,⟨_,(by refine⟨[],?_,?_,rfl,rfl,AG⟩<;>repeat' (first|exact rfl|exact trivial|exact⟨Et 88 2 [],rfl,Hr (f:=enL) []⟩|exact⟨_,rfl,.same _ _ rfl⟩|apply dg)),0,[],0,0,⟨AI _,rfl,rfl⟩,rfl,rfl⟩,?_⟩;rintro n _ ⟨i,H,k,cp,⟨hi,hk,F⟩,rfl,rfl⟩;have aq:k=i:=by rw[hk,F,ef,dI];omega
 refine dg (λz=>?_) (λz=>?_)
 ·have z:i<l.length:=by have:(i:Int)<L.length:=z;omega
  refine dg qo (dg qo (dg AG (λa ha=>?_)));rw[du]at ha;obtain⟨⟨O,W⟩,c,hc,Z⟩:=J.at ha;refine dg O (dg W (dg AG (λb hb=>?_)));obtain rfl:c=b:=dj (Z.symm.trans hb);refine dg qo (dg qo (dg AG (λa2 Y=>?_)));rw[du]at Y;obtain rfl:a=a2:=dj (ha.symm.trans Y);refine dg O (dg W (dg AG (λb2 ae=>?_)));obtain rfl:c=b2:=dj (Z.symm.trans ae);refine dg hk (dg rfl (dg AG (dg qo (λc'=>?_))));intro y hy;have hy:y=((i+1:Nat):Int):=by have:=hy ⟨qo,qo⟩;omega
  subst hy;refine⟨l.length - (i+1),qo,_,?_,i+1,H++[CV c],k+1,c',⟨qo,by rw[hk];simp,by rw[ec,hc,F];simp⟩,rfl,rfl⟩;refine⟨[(80,300)],?_,?_,rfl,rfl,AG⟩<;>repeat' (first|exact rfl|exact trivial|exact⟨_,rfl,Ee (f:=enL) H (CV c)⟩|exact⟨_,rfl,.same _ _ rfl⟩|apply dg)
 ·have af:i=l.length:=by have:¬(i:Int)<L.length:=z;omega
  subst hk;exact⟨.inl rfl,_,rfl,JT (by rw[F,J.ar,af,eC]) rfl (.same _ _ rfl),rfl⟩
abbrev ctMayLX:Ct:=ctV (λp:BP × List Int × Nat=>[p.1.v,.iface 3 (Sl none p.2.1.length p.2.2)]) (λp=>p.1.m++[(3,BY 3 1 inL p.2.1)]) (λp=>p.1.vd/\p.2.1.length<=1000/\∃l,AtP p.1.B p.2.1 l) λp=>UM p.1.B ((CG p.1.B p.2.1).filter (Hs p.1.B))
theorem mayLX_ct(hR:CR RD):CH Tryz.prog RD 216 0 ctMayLX:=by
 refine Da (Aa (BB hR) (f:=123) qk (PU hR)) Tryz.func216 qk qk (λ_=>rfl) Uk ?_;rintro⟨⟨B,c1,c2,c3⟩,L,cL⟩ ⟨⟨ht,hV⟩,Z,l,Y⟩;have hl:B.ar.length<=1000:=ht.2.1;have hV:Valid B:=hV;have Y:AtP B L l:=Y;have hL:L.length=l.length:=Y.len;have Z:L.length<=1000:=Z;refine⟨λn s=>∃(i:Nat) (W:List Int) (k cp:Nat),(i<=l.length/\k=W.length/\AtP B W ((l.take i).filter (Hs B)))/\n=l.length - i/\s=⟨[(6,In i6 i),(5,.iface 80 (Sl none k cp)),(2,.complex .f64 64 0),(1,.iface 3 (Sl none L.length cL))],(80,At 3 1 cp inL W)::(64,AX (Fs B c1 c2 c3) 28)::(bkM B++[(3,BY 3 1 inL L)]),100,0⟩,l.length,⟨_,(by refine⟨[],?_,?_,rfl,rfl,AG⟩<;>repeat' (first|exact rfl|exact trivial|exact⟨Et 3 1 [],rfl,Hr (f:=inL) []⟩|exact⟨_,rfl,.same _ _ rfl⟩|apply dg)),0,[],0,0,⟨AI _,rfl,.nil B⟩,rfl,rfl⟩,?_⟩;rintro n _ ⟨i,W,k,cp,⟨hi,hk,hX⟩,rfl,rfl⟩;have ay:k<=l.length:=by rw[hk,hX.len];exact AH (dV ..) (by rw[dI];omega)
 refine dg (λz=>?_) (λz=>?_)
 ·have z:i<l.length:=by have:(i:Int)<L.length:=z;omega
  refine dg qo (dg qo (dg AG (λa ha=>?_)));rw[du]at ha;obtain⟨⟨H,J⟩,c,hc,M⟩:=Y.at ha;refine dg H (dg J (dg AG (λb hb=>?_)));obtain rfl:c=b:=dj (M.symm.trans hb);refine dg qo (dg qo (dg AG (λa2 aa=>?_)));rw[du]at aa;obtain rfl:a=a2:=dj (ha.symm.trans aa);refine dg H (dg J (dg AG (λb2 aj=>?_)));obtain rfl:c=b2:=dj (M.symm.trans aj);have F:=SM (p:=Hs B) hc;refine⟨(⟨B,c1,c2,c3⟩,c.aa,c.ak),rfl,⟨ht,hV.nm (AE hb),λs hs=>hV.bc hs⟩,?_⟩;rintro v _ ⟨rfl,hv⟩;have hv:v=.bool (Hs B c):=hv
  cases hm:Hs B c with
  |false=>
   rw[hm]at hv F;subst hv;intro y O;have O:y=((i+1:Nat):Int):=by have:=O ⟨qo,qo⟩;omega
   subst O;refine⟨l.length - (i+1),qo,_,?_,i+1,W,k,cp,⟨qo,hk,by rw[F];simpa using hX⟩,rfl,rfl⟩;refine⟨[],?_,?_,rfl,rfl,AG⟩<;>repeat' (first|exact rfl|exact trivial|exact⟨_,rfl,.same _ _ rfl⟩|apply dg)
  |true=>
   rw[hm]at hv F;subst hv;refine dg qo (dg qo (dg AG (λa3 ae=>?_)));rw[du]at ae;obtain rfl:a=a3:=dj (ha.symm.trans ae);refine dg hk (dg rfl (dg AG (dg qo (λc'=>?_))));intro y O;have O:y=((i+1:Nat):Int):=by have:=O ⟨qo,qo⟩;omega
   subst O;refine⟨l.length - (i+1),qo,_,?_,i+1,W++[a],k+1,c',⟨qo,by rw[hk];simp,by rw[F];exact hX.app H J M⟩,rfl,rfl⟩;refine⟨[(80,340)],?_,?_,rfl,rfl,AG⟩<;>repeat' (first|exact rfl|exact trivial|exact⟨_,rfl,Ee (f:=inL) W a⟩|exact⟨_,rfl,.same _ _ rfl⟩|apply dg)
 ·have ak:i=l.length:=by have:¬(i:Int)<L.length:=z;omega
  subst hk;exact⟨.inl rfl,_,rfl,JK (l:=(CG B L).filter (Hs B)) (by rw[Y.ar];rwa [ak,eC]at hX) rfl (.same _ _ rfl),rfl⟩
abbrev ctFirstX:Ct:=ctV (λp:BP × Svc × List Int × Nat=>[p.1.v,GE p.2.1,.iface 3 (Sl none p.2.2.1.length p.2.2.2)]) (λp=>p.1.m++[(3,BY 3 1 inL p.2.2.1)]) (λp=>p.1.tn/\p.2.2.1.length<=1000/\∃l,AtP p.1.B p.2.2.1 l) λp=>endsX (BK p.1.B p.2.1.aj (CG p.1.B p.2.2.1))
theorem Oh(hR:CR RD):CH Tryz.prog RD 215 0 ctFirstX:=by
 refine Da (Aa (BB hR) (f:=297) qk (SQ hR)) Tryz.func215 qk qk (λ_=>rfl) (λp p' h hm=>?_) ?_
 ·obtain⟨p,sv,s,c⟩:=p
  obtain⟨p',aA,s',c'⟩:=p';simp only[BP.m,bkM,fu,fq,dD,dR,fH,eo,iM,ji]at h hm;rw[BP.inj h.1 hm.1 hm.2.1 hm.2.2.1,Dl h.2.1,Ge Pc hm.2.2.2,h.2.2.2]
 rintro⟨⟨B,c1,c2,c3⟩,s,L,cL⟩ ⟨ht,ae,l,hA⟩;have hl:B.ar.length<=1000:=ht.2.1;have hA:AtP B L l:=hA;have hL:L.length=l.length:=hA.len;have ae:L.length<=1000:=ae;have O:CG B L=l:=hA.ar;refine dg (λZ=>?_) (λZ=>?_)
 ·have Z:(L.length:Int)=0:=Z
  exact⟨.inl rfl,_,rfl,JT (l:=[]) (by show []=BK B s.aj (CG B L);rw[O,eF.1 (show l.length=0 by omega)];rfl) rfl (Hr (f:=enL) []),rfl⟩
 have Z:¬(L.length:Int)=0:=Z;obtain⟨d,r,rfl⟩:∃d r,l=d::r:=by cases l with|nil=>exact absurd (show(L.length:Int)=0 by rw[hL];rfl) Z|cons d r=>exact⟨d,r,rfl⟩
 rw[dM]at hL;refine dg (ff 0) (dg (show(0:Int)<L.length by omega) (dg AG (λa ha=>?_)));obtain⟨⟨H,J⟩,c,hc,al⟩:=hA.at ha;obtain rfl:d=c:=dj hc;refine dg H (dg J (dg AG (λb hb=>?_)));obtain rfl:d=b:=dj (al.symm.trans hb);refine⟨λn z=>∃(i:Nat) (c:Cp),(i<=r.length/\c=(r.take i).foldl (Fl B s.aj) d)/\n=r.length - i/\z=⟨[(8,In i6 ((i+1:Nat):Int)),(7,.complex .f64 168 0),(2,.iface 3 (Sl none L.length cL)),(3,.complex .f64 64 0),(4,.complex .f64 72 0)],(168,AX (cpL c) 76)::(72,AX (svL s) 34)::(64,AX (Fs B c1 c2 c3) 28)::(bkM B++[(3,BY 3 1 inL L)]),200,0⟩,r.length,⟨_,qe,0,d,⟨AI _,rfl⟩,rfl,rfl⟩,?_⟩;rintro n _ ⟨i,c,⟨h2,W⟩,rfl,rfl⟩;refine dg (λM=>?_) (λM=>?_)
 ·have M:i<r.length:=by have:((i+1:Nat):Int)<L.length:=M;omega
  refine dg qo (dg qo (dg AG (λa ha=>?_)));rw[du]at ha;obtain⟨⟨H,J⟩,x,hx,aj⟩:=hA.at ha;have hx:r[i]?=some x:=hx;have F:(r.take (i+1)).foldl (Fl B s.aj) d=Fl B s.aj c x:=by rw[ec,hx,iP,<-W];rfl
  refine dg H (dg J (dg AG (λb hb=>?_)));obtain rfl:x=b:=dj (aj.symm.trans hb);refine⟨(⟨B,c1,c2,c3⟩,x,c,s.aj),rfl,ht,?_⟩;rintro v _ ⟨rfl,hv⟩;have hv:v=.bool (Fv B x c s.aj):=hv;unfold Fl at F
  cases hs:Fv B x c s.aj with
  |true=>
   rw[hs]at hv F;subst hv;refine dg qo (dg qo (dg AG (λa2 ag=>?_)));rw[du]at ag;obtain rfl:a=a2:=dj (ha.symm.trans ag);refine dg H (dg J (dg AG (λb2 ak=>?_)));obtain rfl:x=b2:=dj (aj.symm.trans ak);intro y Y;have Y:y=((i+1+1:Nat):Int):=by have:=Y ⟨qo,qo⟩;omega
   subst Y;refine⟨r.length - (i+1),qo,_,?_,i+1,x,⟨qo,F.symm⟩,rfl,rfl⟩;refine⟨[],?_,?_,rfl,rfl,AG⟩<;>repeat' (first|exact rfl|exact trivial|exact⟨_,rfl,.same _ _ rfl⟩|apply dg)
  |false=>
   rw[hs]at hv F;subst hv;intro y Y;have Y:y=((i+1+1:Nat):Int):=by have:=Y ⟨qo,qo⟩;omega
   subst Y;refine⟨r.length - (i+1),qo,_,?_,i+1,c,⟨qo,F.symm⟩,rfl,rfl⟩;refine⟨[],?_,?_,rfl,rfl,AG⟩<;>repeat' (first|exact rfl|exact trivial|exact⟨_,rfl,.same _ _ rfl⟩|apply dg)
 ·have am:i=r.length:=by have:¬((i+1:Nat):Int)<L.length:=M;omega
  rw[am,eC]at W;exact⟨.inl rfl,_,rfl,JT (l:=[CV c]) (by rw[W];show _=BK B s.aj (CG B L);rw[O];rfl) rfl (Hr (f:=enL) [CV c]),rfl⟩
end
section
variable {RD:(Nat->Prop)->World->Nat->Nat->Prop}
abbrev ctSomeX:Ct:=ctV (λp:BP × Svc × Int=>[p.1.v,GE p.2.1,In i6 p.2.2]) (λp=>p.1.m) (λp=>p.1.tn) λp=>UM p.1.B (C8 p.1.B p.2.1 p.2.2)
theorem QY(hR:CR RD):CH Tryz.prog RD 136 0 ctSomeX:=by
  refine Da (Aa (Aa (BB hR) (f:=137) qk (Jw hR)) (f:=210) qk (M9 hR)) Tryz.func136 qk qk (λ_=>rfl) (λp p' h hm=>?_) ?_
  · obtain⟨p,s,n⟩:=p
    obtain⟨p',s',n'⟩:=p';simp only[BP.m,bkM,dD,dR,fH,eo,fB]at h hm;rw[BP.inj h.1 hm.1 hm.2.1 hm.2.2,Dl h.2.1,h.2.2]
  rintro⟨⟨B,c1,c2,c3⟩,s,M⟩ ht;have hl:B.ar.length<=1000:=ht.2.1;refine⟨(⟨B,c1,c2,c3⟩,s.name),rfl,ht,?_⟩;rintro _ _ ⟨L,cL,rfl,rfl,hA⟩;have hA:AtP B L (Aq B s.name):=hA;have hL:=hA.len;have aA:=GU B s.name;obtain⟨l,am⟩:∃l,Aq B s.name=l:=⟨_,rfl⟩;rw[am]at hA hL aA;refine⟨λn z=>∃(i:Nat) (J:List Int) (k cp:Nat),(i<=l.length/\k=J.length/\AtP B J ((l.take i).filter (whP B s M)))/\n=l.length - i/\z=⟨[(9,In i6 i),(8,.iface 128 (Sl none L.length cL)),(7,.iface 88 (Sl none k cp)),(3,.complex .f64 64 0),(4,.complex .f64 72 0),(2,In i6 M)],(128,At 3 1 cL inL L)::(88,At 3 1 cp inL J)::(72,AX (svL s) 34)::(64,AX (Fs B c1 c2 c3) 28)::bkM B,200,0⟩,l.length,⟨_,(by refine⟨[],?_,?_,rfl,rfl,AG⟩<;>repeat' (first|exact rfl|exact trivial|exact⟨Et 3 1 [],rfl,Hr (f:=inL) []⟩|exact⟨_,rfl,.same _ _ rfl⟩|apply dg)),0,[],0,0,⟨AI _,rfl,.nil B⟩,rfl,rfl⟩,?_⟩;rintro n _ ⟨i,J,k,cp,⟨hi,hk,hX⟩,rfl,rfl⟩;have aG:k<=l.length:=by rw[hk,hX.len];exact AH (dV ..) (by rw[dI];omega)
  refine dg (λaa=>?_) (λaa=>?_)
  · have aa:i<l.length:=by have:(i:Int)<L.length:=aa;omega
    have Z:(i:Int).toNat<L.length:=qo
    refine dg qo (dg qo (dg AG (dg Z (λa ha=>?_))));rw[du]at ha;obtain⟨⟨aj,ak⟩,c,hc,al⟩:=hA.at ha;have ae:=SM (p:=whP B s M) hc;refine dg aj (dg ak (dg AG (λb hb=>?_)));obtain rfl:c=b:=dj (al.symm.trans hb);have no:whP B s M c=false->AtP B J ((l.take (i+1)).filter (whP B s M)):=λh=>by rw[ae,h];simpa using hX
    have yes:whP B s M c=true->AtP B (J++[a]) ((l.take (i+1)).filter (whP B s M)):=λh=>by rw[ae,h];exact hX.app aj ak al
    clear ae;refine dg (λO=>?_) (λO=>?_)
    · have O:M=2:=O
      refine dg (λhi=>?_) (λhi=>?_)
      · (refine dg qo (dg qo (dg AG (dg Z (λa3 H=>?_))));rw[du]at H;obtain rfl:a=a3:=dj (ha.symm.trans H);refine dg hk (dg rfl (dg AG (dg qo (λc'=>?_))));intro y F;have F:y=((i+1:Nat):Int):=by have:=F ⟨qo,qo⟩;omega
         subst F;refine⟨l.length - (i+1),qo,_,?_,i+1,J++[a],k+1,c',⟨qo,by rw[hk];simp,yes (by unfold whP;rw[dv O];simpa using hi)⟩,rfl,rfl⟩;refine⟨[(88,576)],?_,?_,rfl,rfl,AG⟩<;>repeat' (first|exact rfl|exact trivial|exact⟨_,rfl,Ee (f:=inL) J a⟩|exact⟨_,rfl,.same _ _ rfl⟩|apply dg))
      · refine dg (λW=>absurd (O.symm.trans W) qd) (λW=>?_)
        refine dg (λY=>absurd (O.symm.trans Y) qd) (λY=>?_)
        (intro y F;have F:y=((i+1:Nat):Int):=by have:=F ⟨qo,qo⟩;omega
         subst F;refine⟨l.length - (i+1),qo,_,?_,i+1,J,k,cp,⟨qo,hk,no (by unfold whP;rw[dv O];simpa using hi)⟩,rfl,rfl⟩;refine⟨[],?_,?_,rfl,rfl,AG⟩<;>repeat' (first|exact rfl|exact trivial|exact⟨_,rfl,.same _ _ rfl⟩|apply dg))
    · have O:¬M=2:=O
      refine dg (λW=>?_) (λW=>?_)
      · have W:M=6:=W
        refine⟨(⟨B,c1,c2,c3⟩,c),rfl,ht,?_⟩;rintro v _ ⟨rfl,hv⟩;have hv:v=.bool (B5 B c):=hv;have hw:whP B s M c=B5 B c:=by unfold whP;rw[dk O,dv W]
        rw[<-hw]at hv
        cases hd:whP B s M c with
        |true=>
          rw[hd]at hv;subst hv
          (refine dg qo (dg qo (dg AG (dg Z (λa3 H=>?_))));rw[du]at H;obtain rfl:a=a3:=dj (ha.symm.trans H);refine dg hk (dg rfl (dg AG (dg qo (λc'=>?_))));intro y F;have F:y=((i+1:Nat):Int):=by have:=F ⟨qo,qo⟩;omega
           subst F;refine⟨l.length - (i+1),qo,_,?_,i+1,J++[a],k+1,c',⟨qo,by rw[hk];simp,yes hd⟩,rfl,rfl⟩;refine⟨[(88,576)],?_,?_,rfl,rfl,AG⟩<;>repeat' (first|exact rfl|exact trivial|exact⟨_,rfl,Ee (f:=inL) J a⟩|exact⟨_,rfl,.same _ _ rfl⟩|apply dg))
        |false=>
          rw[hd]at hv;subst hv;refine dg (λY=>absurd (W.symm.trans Y) qd) (λY=>?_)
          (intro y F;have F:y=((i+1:Nat):Int):=by have:=F ⟨qo,qo⟩;omega
           subst F;refine⟨l.length - (i+1),qo,_,?_,i+1,J,k,cp,⟨qo,hk,no hd⟩,rfl,rfl⟩;refine⟨[],?_,?_,rfl,rfl,AG⟩<;>repeat' (first|exact rfl|exact trivial|exact⟨_,rfl,.same _ _ rfl⟩|apply dg))
      · have W:¬M=6:=W
        refine dg (λY=>?_) (λY=>?_)
        · have Y:M=3:=Y
          refine dg (λh4=>?_) (λh4=>?_)
          · (refine dg qo (dg qo (dg AG (dg Z (λa3 H=>?_))));rw[du]at H;obtain rfl:a=a3:=dj (ha.symm.trans H);refine dg hk (dg rfl (dg AG (dg qo (λc'=>?_))));intro y F;have F:y=((i+1:Nat):Int):=by have:=F ⟨qo,qo⟩;omega
             subst F;refine⟨l.length - (i+1),qo,_,?_,i+1,J++[a],k+1,c',⟨qo,by rw[hk];simp,yes (by unfold whP;rw[dk O,dk W,dv Y];simpa using h4)⟩,rfl,rfl⟩;refine⟨[(88,576)],?_,?_,rfl,rfl,AG⟩<;>repeat' (first|exact rfl|exact trivial|exact⟨_,rfl,Ee (f:=inL) J a⟩|exact⟨_,rfl,.same _ _ rfl⟩|apply dg))
          · (intro y F;have F:y=((i+1:Nat):Int):=by have:=F ⟨qo,qo⟩;omega
             subst F;refine⟨l.length - (i+1),qo,_,?_,i+1,J,k,cp,⟨qo,hk,no (by unfold whP;rw[dk O,dk W,dv Y];simpa using h4)⟩,rfl,rfl⟩;refine⟨[],?_,?_,rfl,rfl,AG⟩<;>repeat' (first|exact rfl|exact trivial|exact⟨_,rfl,.same _ _ rfl⟩|apply dg))
        · (intro y F;have F:y=((i+1:Nat):Int):=by have:=F ⟨qo,qo⟩;omega
           subst F;refine⟨l.length - (i+1),qo,_,?_,i+1,J,k,cp,⟨qo,hk,no (by unfold whP;rw[dk O,dk W,dk Y])⟩,rfl,rfl⟩;refine⟨[],?_,?_,rfl,rfl,AG⟩<;>repeat' (first|exact rfl|exact trivial|exact⟨_,rfl,.same _ _ rfl⟩|apply dg))
  · have az:i=l.length:=by have:¬(i:Int)<L.length:=aa;omega
    subst hk;exact⟨.inl rfl,_,rfl,JK (l:=C8 B s M) (by unfold C8;rw[am];rwa [az,eC]at hX) rfl (.same _ _ rfl),rfl⟩
end
def acE(A:Ac)(E:Value):Value:=acV A.aa A.aN A.ax A.au A.aA A.aJ E A.drop
def NY(A:Ac)(v:Value)(es:AW):Prop:=(A.aB=[]/\v=acE A (Sl none 0 0)/\es=[])\/∃cp,v=acE A (.iface 0 (Sl none A.aB.length cp))/\es=[(0,At 88 2 cp enL A.aB)]
theorem GB{T:Ac}{n:qB}{a b c d:Int}{x y:Bool}{m:AW}(h:T=⟨n,a,b,c,d,x,[],y⟩):Dm (NY T) (acV n a b c d x (Sl none 0 0) y) m 0:=by
 subst h;exact⟨_,[],[],.inl ⟨rfl,rfl,rfl⟩,rfl,trivial,rfl,rfl,trivial⟩
theorem IE{T:Ac}{n:qB}{a b c d:Int}{x y:Bool}{m:AW}{i cp:Nat}{l:List En}{v:VB}(h:T=⟨n,a,b,c,d,x,l,y⟩)(z:lk m i=some v)(hb:LeB [(0,i)] v (At 88 2 cp enL l)):Dm (NY T) (acV n a b c d x (.iface i (Sl none l.length cp)) y) m 0:=by
 subst h;exact⟨acV n a b c d x (.iface 0 (Sl none l.length cp)) y,[(0,At 88 2 cp enL l)],[(0,i)],.inr ⟨cp,rfl,rfl⟩,rfl,⟨⟨v,z,hb⟩,trivial⟩,rfl,rfl,⟨λ_ _=>trivial,trivial⟩⟩
theorem JP{B:Bk}{im:Int}{l:List Cp}(h:l≠[]):(BK B im l).length=1:=by cases l with|nil=>exact absurd rfl h|cons c r=>rfl
section
variable {RD:(Nat->Prop)->World->Nat->Nat->Prop}
abbrev TJ:Ct:=ctV (λs:Svc=>[GE s]) (λ_=>[]) (λs=>0<s.aQ/\KU s) λs v es=>es=[]/\v=In i6 (B6 s)
theorem Rf(Z:CR RD):CH Tryz.prog RD 114 0 TJ:=by
 refine Da (BB Z) Tryz.func114 qk qk (λ_=>rfl) (λp p' h _=>Dl (gm h).1) ?_;rintro s ⟨Y,M⟩;have p1:=M.per1;have p2:=M.cM;have p3:=M.cN;refine λn1 F n2 H=>dg (Int.ne_of_gt Y) (λn3 J=>?_)
 have F:n1=s.load+s.aQ:=F ⟨qo,qo⟩;subst F;have H:n2=s.load+s.aQ - 1:=H ⟨qo,qo⟩;subst H;have O:0<=(s.load+s.aQ - 1).tdiv s.aQ:=Int.tdiv_nonneg qo qo;have W:(s.load+s.aQ - 1).tdiv s.aQ<=s.load+s.aQ - 1:=by rw[fT qo];exact Int.ediv_le_self _ qo
 have J:n3=(s.load+s.aQ - 1).tdiv s.aQ:=by rw[fT qo]at O W ⊢;exact J (show 0<=s.load+s.aQ - 1 by omega) Y (show s.load+s.aQ - 1<=9223372036854775807 by omega)
 have key:∀(r:Int) m,NL s n3=r->Dm (λv es=>es=[]/\v=In i6 (B6 s)) (In i6 r) m 0:=λr m h=>⟨_,_,[],⟨rfl,by unfold B6;rw[<-J,h]⟩,rfl,trivial,rfl,rfl,trivial⟩
 unfold NL at key;refine dg (λh=>?_) (λh=>?_)<;>refine dg (λz=>?_) (λz=>?_)
 ·exact⟨.inl rfl,_,rfl,key _ _ (by rw[dv (show n3<s.az from h),dv (show s.aI<s.az from z)]),rfl⟩
 ·exact⟨.inl rfl,_,rfl,key _ _ (by rw[dv (show n3<s.az from h),dk (show ¬s.aI<s.az from z)]),rfl⟩
 ·exact⟨.inl rfl,_,rfl,key _ _ (by rw[dk (show ¬n3<s.az from h),dv (show s.aI<n3 from z)]),rfl⟩
 ·exact⟨.inl rfl,_,rfl,key _ _ (by rw[dk (show ¬n3<s.az from h),dk (show ¬s.aI<n3 from z)]),rfl⟩
abbrev Vk:Ct:=ctV (λs:Svc=>[GE s,ac0 s.name s.ag]) (λ_=>[]) (λs=>(0<s.aQ/\KU s)/\DR s) λs=>NY (Bf s (B6 s))
theorem SU(Z:CR RD):CH Tryz.prog RD 140 0 Vk:=by
 refine Da (Aa (BB Z) (f:=114) qk (Rf Z)) Tryz.func140 qk qk (λ_=>rfl) (λp p' h _=>Dl (gm h).1) ?_;rintro s ⟨⟨hp,Y⟩,hS⟩;have p1:=Y.cw;have p2:=Y.cx;have p3:=hS.ba;have p4:=hS.bd;refine⟨s,rfl,⟨hp,Y⟩,?_⟩;rintro v _ ⟨rfl,hv⟩;have hv:v=In i6 (B6 s):=hv;obtain⟨d,hd⟩:∃d,B6 s=d:=⟨_,rfl⟩;rw[hd]at hv;subst hv;have key:∀{a b c e:Int} {x y:Bool} {n:qB} (m:AW),Bf s d=⟨n,a,b,c,e,x,[],y⟩->Dm (NY (Bf s (B6 s))) (acV n a b c e x (Sl none 0 0) y) m 0:=λm h=>GB (by rw[hd,h])
 unfold Bf a0 at key;refine dg (λM=>?_) (λM=>?_)
 ·exact⟨.inl rfl,_,rfl,key _ (by rw[dv (show s.au<s.az from M)]),rfl⟩
 rw[dk (show ¬s.au<s.az from M)]at key;refine dg (λO=>?_) (λO=>?_)
 ·exact⟨.inl rfl,_,rfl,key _ (by rw[dv (show s.aI<s.au from O)]),rfl⟩
 rw[dk (show ¬s.aI<s.au from O)]at key;refine dg (λW=>?_) (λW=>?_)
 ·exact⟨.inl rfl,_,rfl,key _ (by rw[dv (show s.au<d from W)]),rfl⟩
 rw[dk (show ¬s.au<d from W)]at key;refine dg (λH=>?_) (λH=>?_)
 ·rw[dv (show d<s.au from H)]at key
  refine dg (λz=>?_) (λz=>?_)
  ·refine λn F=>?_
   have F:n=s.au - 1:=F ⟨qo,qo⟩;subst F;exact⟨.inl rfl,_,rfl,key _ (by rw[dv (show 3<=s.aA from z)]),rfl⟩
  ·refine dg (λJ=>?_) (λJ=>absurd H J)
   refine λn F=>?_
   have F:n=s.aA+1:=F ⟨qo,qo⟩;subst F;exact⟨.inl rfl,_,rfl,key _ (by rw[dk (show ¬3<=s.aA from z)]),rfl⟩
 ·rw[dk (show ¬d<s.au from H)]at key
  refine dg (λJ=>absurd J H) (λJ=>?_);refine dg (λz=>?_) (λz=>?_)
  ·exact⟨.inl rfl,_,rfl,key _ (by rw[dv (show s.aA=0 from z)]),rfl⟩
  ·exact⟨.inl rfl,_,rfl,key _ (by rw[dk (show ¬s.aA=0 from z)]),rfl⟩
abbrev TI:Ct:=ctV (λp:BP × Svc × List Int × Nat=>[p.1.v,GE p.2.1,ac0 p.2.1.name p.2.1.ag,.iface 3 (Sl none p.2.2.1.length p.2.2.2)]) (λp=>p.1.m++[(3,BY 3 1 inL p.2.2.1)]) (λp=>p.1.vd/\DR p.2.1/\p.2.2.1.length<=1000/\∃l,AtP p.1.B p.2.2.1 l) λp=>NY (Bh p.1.B p.2.1 (CG p.1.B p.2.2.1))
theorem Qm(hR:CR RD):CH Tryz.prog RD 139 0 TI:=by
 refine Da (Aa (Aa (Aa (BB hR) (f:=137) qk (Jw hR)) (f:=216) qk (mayLX_ct hR)) (f:=215) qk (Oh hR)) Tryz.func139 qk qk (λ_=>rfl) (λp p' h Z=>?_) ?_
 ·obtain⟨p,sv,s,c⟩:=p
  obtain⟨p',ay,s',c'⟩:=p';simp only[BP.m,bkM,fu,fq,dD,dR,fH,eo,iM,ji]at h Z;rw[BP.inj h.1 Z.1 Z.2.1 Z.2.2.1,Dl h.2.1,Ge Pc Z.2.2.2,h.2.2.2.2]
 rintro⟨⟨B,c1,c2,c3⟩,s,L,cL⟩ ⟨ht,O,M,l,Y⟩;have Y:AtP B L l:=Y;have hL:=Y.len;have O:DR s:=O;have p1:=O.ba;have p2:=O.bd;have p3:=O.bm;have p4:=O.bn;refine⟨(⟨B,c1,c2,c3⟩,s.name),rfl,ht.1,?_⟩;rintro _ _ ⟨W,an,rfl,rfl,J⟩;have J:AtP B W (Aq B s.name):=J;have aq:=J.len;have H:CG B L=l:=Y.ar;have z:Bh B s (CG B L)=if l.length=0\/((Aq B s.name).length:Int)<s.au then a0 s else if((Aq B s.name).length:Int)<s.au+s.aG then {a0 s with ax:=1} else {a0 s with aB:=BK B s.aj (l.filter (Hs B))}:=by rw[H];rfl
 refine dg (λh=>?_) (λh=>?_)
 ·exact⟨.inl rfl,_,rfl,GB (T:=Bh B s (CG B L)) (by rw[z,dv (.inl (by have:(L.length:Int)=0:=h;omega))];rfl),rfl⟩
 have h:¬(L.length:Int)=0:=h;refine dg (λh'=>?_) (λh'=>?_)
 ·exact⟨.inl rfl,_,rfl,GB (T:=Bh B s (CG B L)) (by rw[z,dv (.inr (by have:(W.length:Int)<s.au:=h';omega))];rfl),rfl⟩
 have h':¬(W.length:Int)<s.au:=h';rw[dk qo]at z;refine λn hn=>?_
 have hn:n=s.au+s.aG:=hn (show inR (s.au+s.aG) from⟨qo,qo⟩);subst hn;refine dg (λh2=>?_) (λh2=>?_)
 ·exact⟨.inl rfl,_,rfl,GB (T:=Bh B s (CG B L)) (by rw[z,dv (by have:(W.length:Int)<s.au+s.aG:=h2;omega)];rfl),rfl⟩
 rw[dk (by have:¬(W.length:Int)<s.au+s.aG:=h2;omega)]at z;refine⟨(⟨B,c1,c2,c3⟩,L,cL),rfl,⟨ht,M,l,Y⟩,?_⟩;rintro _ _ ⟨L2,ag,rfl,rfl,F⟩;have F:AtP B L2 ((CG B L).filter (Hs B)):=F;rw[H]at F;have au:=F.len;have aw:(l.filter (Hs B)).length<=l.length:=dV ..;have M:L.length<=1000:=M;refine⟨(⟨B,c1,c2,c3⟩,s,L2,ag),rfl,⟨ht.1,show L2.length<=1000 by omega,_,F⟩,?_⟩;rintro _ _ ⟨cp,rfl,rfl⟩;exact⟨.inl rfl,_,rfl,IE (T:=Bh B s (CG B L)) (l:=BK B s.aj (CG B L2)) (by rw[z,F.ar];rfl) rfl (.same _ _ rfl),rfl⟩
end
end
end Go.Proofs.YtbceafpodamnfaaGreatDoor
