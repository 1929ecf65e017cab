import Derived.Test.YtbceafpodamnfaaGreatDoorG11
import Derived.Test.YtbceafpodamnfaaGreatDoorG14
set_option linter.all false
set_option maxHeartbeats 4000000
set_option maxRecDepth 100000
namespace Go.Proofs.YtbceafpodamnfaaGreatDoor
section
open Go.RowKit
open Go.Value renaming int->In,slice->Sl,string->Sg,bool->Bo,pointer->Po
open Go.IntKind renaming i64->i6
def inL(x:Int):List Value:=[In i6 x]
def enL(e:En):List Value:=[In i6 e.ak,In i6 e.aN]
def cpV(c:Cp):Value:=.agg (cpL c).toArray
def GE(s:Svc):Value:=.agg (svL s).toArray
theorem Pc(x y:Int)(h:inL x=inL y):x=y:=by simpa [inL] using h
theorem KG{c d:Cp}(h:cpV c=cpV d):c=d:=Ug c d (by have:=ei Array.toList (iD h);simpa using this)
theorem Dl{c d:Svc}(h:GE c=GE d):c=d:=Ts c d (by have:=ei Array.toList (iD h);simpa using this)
def okBk(B:Bk):Prop:=(B.ah.length<=1000/\B.ar.length<=1000/\B.aw.length<=1000)/\(∀s∈B.ah,s.name.size<=maxLen)/\(∀c∈B.ar,c.aa.size<=maxLen/\c.aC.size<=maxLen)/\∀b∈B.aw,b.name.size<=maxLen
theorem Ee{ρ:List (Nat × Nat)}{ty sz cp c:Nat}{X:Type}{f:X->List Value}(l:List X)(x:X):LeB ρ (Ft (At ty sz cp f l) (Et ty sz [f x]) 1 c) (At ty sz c f (l++[x])):=by
 have F:(Ft (At ty sz cp f l) (Et ty sz [f x]) 1 c).n=(l++[x]).length:=by simp[Ft,At]
 refine⟨rfl,rfl,rfl,fW F.symm,λ_=>⟨F,rfl⟩,rfl,λj H k hk=>⟨λh y O=>?_,λh el z=>?_⟩,λ_ _ _=>trivial,λh=>(nomatch h)⟩
 ·exact hk y (by rw[dT (show j<l.length from h)];exact O)
 ·have M:l.length<=j:=h
  have z:[f x][j - l.length]?=some el:=z;have J:j<l.length+1:=by have:j<(l++[x]).length:=H;simpa using this
  have e0:j - l.length=0:=qo
  rw[e0]at z;cases z;exact hk x (by rw[dU M,e0];rfl)
theorem Hr{ρ:List (Nat × Nat)}{ty sz:Nat}{X:Type}{f:X->List Value}(l:List X):LeB ρ (Et ty sz (l.map f)) (At ty sz l.length f l):=by
 have H:(Et ty sz (l.map f)).n=l.length:=by simp[Et]
 refine⟨rfl,rfl,rfl,fW H.symm,λ_=>⟨H,H⟩,rfl,λj _ k hk el z=>?_,λ_ _ _=>trivial,λh=>(nomatch h)⟩;rw[ej]at z
 cases F:l[j]? with
 |none=>rw[F]at z;cases z
 |some x=>rw[F]at z;cases z;exact hk x F
section
variable {RD:(Nat->Prop)->World->Nat->Nat->Prop}
end
theorem Uk(p z:BP × List Int × Nat)(h:[p.1.v,.iface 3 (Sl none p.2.1.length p.2.2)]=[z.1.v,.iface 3 (Sl none z.2.1.length z.2.2)])(F:p.1.m++[(3,BY 3 1 inL p.2.1)]=z.1.m++[(3,BY 3 1 inL z.2.1)]):p=z:=by
 obtain⟨p,s,c⟩:=p;obtain⟨z,J,H⟩:=z;simp only[BP.m,bkM,fu,fq,dD,dR,fH,eo,iM,ji]at h F;rw[BP.inj h.1 F.1 F.2.1 F.2.2.1,Ge Pc F.2.2.2,h.2.2]
section
variable {RD:(Nat->Prop)->World->Nat->Nat->Prop}
end
def acV(n:qB)(a b c d:Int)(x:Bool)(E:Value)(y:Bool):Value:=.agg #[Sg n,In i6 a,In i6 b,In i6 c,In i6 d,Bo x,E,Bo y]
abbrev ac0 (n:qB) (a:Int):Value:=acV n a 0 0 0 false (Sl none 0 0) false
section
variable {RD:(Nat->Prop)->World->Nat->Nat->Prop}
end
structure AP where
 nm:ByteArray
 se:Int
 cr:Int
 wa:Int
 co:Int
 sc:Bool
 en:List En
 ce:Nat
 dr:Bool
def AP.v(i:Nat)(p:AP):Value:=acV p.nm p.se p.cr p.wa p.co p.sc (.iface i (Sl none p.en.length p.ce)) p.dr
def AP.cs(i:Nat)(p:AP):List Value:=[Sg p.nm,In i6 p.se,In i6 p.cr,In i6 p.wa,In i6 p.co,Bo p.sc,.iface i (Sl none p.en.length p.ce),Bo p.dr]
theorem enL_inj(x y:En)(h:enL x=enL y):x=y:=by
 cases x;cases y;simp only[enL,dD,fB,fH,eo]at h;simp only[En.mk.injEq];exact h
theorem AP.inj{p z:AP}{i:Nat}(hv:p.v i=z.v i)(h:BY 88 2 enL p.en=BY 88 2 enL z.en):p=z:=by
 have e:=Ge enL_inj h;obtain⟨a1,a2,a3,F,H,J,M,O,W⟩:=p;obtain⟨Y,Z,b3,b4,b5,b6,b7,b8,b9⟩:=z;have:=ei Array.toList (iD hv);simp at this;simp only at e;obtain⟨rfl,rfl,rfl,rfl,rfl,rfl,⟨_,rfl⟩,rfl⟩:=this;rw[e]
section
variable {RD:(Nat->Prop)->World->Nat->Nat->Prop}
end
def Rds{X:Type}(b:VB)(sz:Nat)(f:X->List Value)(l:List X):Prop:=(b.kd=1\/b.kd=3)/\b.sz=sz/\l.length<=b.n/\∀j,j<l.length->∀k,(∀x,l[j]?=some x->k (f x))->b.Q j k
theorem Rds.row{X:Type}{ty sz:Nat}{f:X->List Value}{l:List X}:Rds (BY ty sz f l) sz f l:=⟨.inl rfl,rfl,AG,λ_ _ _ h=>h⟩
theorem Rds.le{X:Type}{ρ:List (Nat × Nat)}{b:VB}{ty sz cp:Nat}{f:X->List Value}{l:List X}(h:LeB ρ b (At ty sz cp f l)):Rds b sz f l:=⟨.inr h.kd,h.sz,h.n,λj z k hk=>h.Q j z k hk⟩
theorem Hold.bM{RD:(Nat->Prop)->World->Nat->Nat->Prop}{w0 w:World}{G:Gh}{q i sz:Nat}{b:VB}{X:Type}{f:X->List Value}{l:List X}(h:Hold RD w0 G w q i b)(hz:∀k,G.Z k->k<w.heap.size)(hr:Rds b sz f l)(hl:l≠[]):
  ∃g J,G.α i=some ⟨g,J,none⟩/\g<w.heap.size/\∀j x,l[j]?=some x->∀k u,(f x)[k]?=some u->w.cell? ⟨g,J+j*sz+k,none⟩=some u:=by
 obtain⟨hk,rfl,W,hQ⟩:=hr;have h0:0<l.length:=i8.2 hl;have H:∀j x el,l[j]?=some x->(∀k,b.Q j k->k el)->el=f x:=λj x el hx hk=>hk _ (hQ j (AC hx).1 (λe=>e=f x) λy Y=>by rw[hx]at Y;cases Y;rfl)
 rcases hk with hk|hk
 ·obtain⟨g,o,_,M,Z,_,_⟩:=h.k1 hk 0 qo
  refine⟨g,o,M,hz g Z,λj x hx k u z=>?_⟩;obtain⟨g',o',el,F,_,e3,e4⟩:=h.k1 hk j (AF (AC hx).1 W);rw[M]at F;cases F;rw[<-H j x el hx e3]at z;exact(e4.1 k u z).1
 ·obtain⟨g,els,M,_,_,_,r1,r2,r3,r4⟩:=h.k3 hk
  refine⟨g,0,M,r3.lt,λj x hx k u z=>?_⟩;have hj:j<els.length:=by rw[r1];exact AF (AC hx).1 W
  have O:els[j]?=some els[j]:=by simp
  rw[<-H j x _ hx (r4 j _ O).1]at z;rw[dL];refine r3.cell ?_;have hd:=UR (λe he=>(r2 e he).1) j
  have:(els.flatten.drop (j*b.sz))[k]?=some u:=by
   rw[<-hd,fe hj,fx,dT (AC z).1];exact z
  rw[ew]at this;exact this
theorem IY{RD:(Nat->Prop)->World->Nat->Nat->Prop}{w0 w:World}{G:Gh}{q i1 i2 i3:Nat}{b1 O W:VB}{B:Bk}(M:∀k,G.Z k->k<w.heap.size)(Y:Hold RD w0 G w q i1 b1)(Z:Hold RD w0 G w q i2 O)(h3:Hold RD w0 G w q i3 W)(r1:Rds b1 13 svL B.ah)(r2:Rds O 7 cpL B.ar)(r3:Rds W 2 btL B.aw):BkAt w (G.α i1) (G.α i2) (G.α i3) B:=by
 refine⟨λH=>?_,λH=>?_,λH=>?_⟩
 ·obtain⟨g,o,e,F,z⟩:=Y.bM M r1 H
  exact⟨g,o,e,F,λi s J=>by
   have c:=z i s J;unfold SvcAt
   exact⟨c 0 _ rfl,c 1 _ rfl,c 2 _ rfl,c 3 _ rfl,c 4 _ rfl,c 5 _ rfl,c 6 _ rfl,c 7 _ rfl,c 8 _ rfl,c 9 _ rfl,c 10 _ rfl,c 11 _ rfl,c 12 _ rfl⟩⟩
 ·obtain⟨g,o,e,F,z⟩:=Z.bM M r2 H
  exact⟨g,o,e,F,λi s J=>by
   have c:=z i s J;unfold CpAt
   exact⟨c 0 _ rfl,c 1 _ rfl,c 2 _ rfl,c 3 _ rfl,c 4 _ rfl,c 5 _ rfl,c 6 _ rfl⟩⟩
 ·obtain⟨g,o,e,F,z⟩:=h3.bM M r3 H
  exact⟨g,o,e,F,λi s J=>by
   have c:=z i s J;unfold BtAt
   exact⟨c 0 _ rfl,c 1 _ rfl⟩⟩
def bkO(B:Bk)(v:Value)(es:AW):Prop:=∃k1 k2 k3,v=.agg #[In i6 B.av,.iface 0 (Sl none B.ah.length k1),.iface 1 (Sl none B.ar.length k2),.iface 2 (Sl none B.aw.length k3)]/\es=[(0,At 34 13 k1 svL B.ah),(1,At 76 7 k2 cpL B.ar),(2,At 90 2 k3 btL B.aw)]
abbrev TM:Ct:=ctV (λp:BP=>[p.v]) (λp=>p.m) (λp=>p.tn) λp=>bkO p.B
theorem Uj{RD:(Nat->Prop)->World->Nat->Nat->Prop}(hR:CR RD):CH Tryz.prog RD 62 0 TM:=by
 intro w0 G w q id vs es k0 hz O ah af _ _ hC;obtain⟨⟨B,c1,c2,c3⟩,H,⟨t1,t2,t3⟩,_⟩:=hC;obtain⟨M,J,Y,_,_,W⟩:=NM (q':=0) (r:=false) (X:=λ_=>False) hR (λ_ h=>h.elim) (λh=>nomatch h) hz af H (nt:=100) rfl;have t1:B.ah.length<=1000:=t1;have t2:B.ar.length<=1000:=t2;have t3:B.aw.length<=1000:=t3;have hB:BkAt w (M.α 0) (M.α 1) (M.α 2) B:=IY (λk hk=>(Y k hk).1) (W 0 _ rfl).2.1 (W 1 _ rfl).2.1 (W 2 _ rfl).2.1 .row .row .row;have ha:(vs.map (r2 G.α)).toArray=#[.agg #[In i6 B.av,.slice (M.α 0) B.ah.length c1,.slice (M.α 1) B.ar.length c2,.slice (M.α 2) B.aw.length c3]]:=by rw[<-J];simp[BP.v,r2,r1,r0]
 rw[ha];refine(Cj B _ _ _ c1 c2 c3 w ⟨qo,qo,qo⟩ hB).mono ?_;rintro e w' ⟨g1,k1,g2,k2,g3,k3,rfl,z,hb⟩;have Z:∀l:List Svc,Af l=(l.map svL).flatten:=λl=>fL
 have aa:∀l:List Cp,Ay l=(l.map cpL).flatten:=λl=>fL
 have ae:∀l:List Bt,Cd l=(l.map btL).flatten:=λl=>fL
 rw[show(Value.agg (qbV B (qad g1) k1 (qad g2) k2 (qad g3) k3))=r2 (λx=>match x with|0=>some ⟨g1,0,none⟩|1=>some ⟨g2,0,none⟩|_=>some ⟨g3,0,none⟩) (.agg #[In i6 B.av,.iface 0 (Sl none B.ah.length k1),.iface 1 (Sl none B.ar.length k2),.iface 2 (Sl none B.aw.length k3)]) from by simp[r2,r1,r0]];refine ND (C:=TM vs es id) (v:=.agg #[In i6 B.av,.iface 0 (Sl none B.ah.length k1),.iface 1 (Sl none B.ar.length k2),.iface 2 (Sl none B.aw.length k3)]) (es':=[(0,At 34 13 k1 svL B.ah),(1,At 76 7 k2 cpL B.ar),(2,At 90 2 k3 btL B.aw)]) (β:=λx=>match x with|0=>some ⟨g1,0,none⟩|1=>some ⟨g2,0,none⟩|_=>some ⟨g3,0,none⟩) (cost:=0) (X:=λ_=>False) (λ_ h=>h.elim) (λg hg hd=>hR _ _ _ _ _ _ _ hd (λ_ h=>h) (hb.block g (O g hg)) (λk hk=>hb.block k (hz k hk).1) AG) hz O ah ⟨hb.os,hb.tape,hb.output,hb.size,λk hk _=>hb.block k hk⟩ rfl (λx b hx=>?_) (λx b y c hx hy ag=>?_) (f:=(id+ ·)) (λx hx=>?_) λk hk=>?_
 ·simp only[dJ,dW,fF,dR]at hx
  rcases hx with⟨rfl,rfl⟩|⟨rfl,rfl⟩|⟨rfl,rfl⟩
  ·exact⟨g1,_,rfl,z.n1,RowK.of O1 (Z _▸z.ah)⟩
  ·exact⟨g2,_,rfl,z.n2,RowK.of Pp (aa _▸z.ar)⟩
  ·exact⟨g3,_,rfl,z.n3,RowK.of Pv (ae _▸z.aw)⟩
 ·have an:=z.cZ
  have aq:=z.cU;have au:=z.cY;simp only[dJ,dW,fF,dR]at hx hy;rcases hx with⟨rfl,_⟩|⟨rfl,_⟩|⟨rfl,_⟩<;>rcases hy with⟨rfl,_⟩|⟨rfl,_⟩|⟨rfl,_⟩<;>first|exact absurd rfl ag|(intro e;cases e;contradiction)
 ·have hx:x∈[0,1,2]:=hx
  simp only[dJ,dW,fF]at hx;rcases hx with rfl|rfl|rfl<;>exact .inl ⟨_,rfl,rfl⟩
 ·obtain⟨p',F,_,hk⟩:=hk
  rw[H]at F;simp only[dR,dD,eo,BP.m,bkM,fH]at F;have:=BP.inj F.1 F.2.1 F.2.2.1 F.2.2.2;subst this;exact hk _ _ ⟨k1,k2,k3,rfl,rfl⟩
end
end Go.Proofs.YtbceafpodamnfaaGreatDoor
