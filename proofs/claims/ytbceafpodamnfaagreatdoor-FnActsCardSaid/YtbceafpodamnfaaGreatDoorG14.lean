import Derived.Test.YtbceafpodamnfaaGreatDoorG11
set_option linter.all false
set_option maxHeartbeats 4000000
set_option maxRecDepth 100000
namespace Go.Proofs.YtbceafpodamnfaaGreatDoor
section
open Go.RowKit Go.Sort
structure En where
 ai:Int
 aF:Int
structure Ac where
 aa:ByteArray
 aF:Int
 am:Int
 av:Int
 ay:Int
 az:Bool
 aw:List En
 drop:Bool
@[simp,go_sem,reducible] def qaV (A:Ac) (x:qO) (c:Nat):Array Value:=#[.string A.aa,.int .i64 A.aF,.int .i64 A.am,.int .i64 A.av,.int .i64 A.ay,.bool A.az,.slice x A.aw.length c,.bool A.drop]
def EnAt(w:World)(b o:Nat)(s:En):Prop:=w.cell? ⟨b,o,none⟩=some (.int .i64 s.ai)/\w.cell? ⟨b,o+1,none⟩=some (.int .i64 s.aF)
def EnsAt(w:World)(b off:Nat)(l:List En):Prop:=∀i s,l[i]?=some s->EnAt w b (off+i*2) s
theorem EnAt.below{B:Nat}{w w':World}{b o:Nat}{s:En}(h:EnAt w b o s)(hb:Below B w w')(F:b<B):EnAt w' b o s:=by
 unfold EnAt at *;simp only[λo=>hb.cell (p:=⟨b,o,none⟩) F];exact h
def SlE(w:World)(ao:qO)(l:List En):Prop:=l≠[]->∃b off,ao=some ⟨b,off,none⟩/\b<w.heap.size/\EnsAt w b off l
theorem SlE.below{w w':World}{ao:qO}{l:List En}(h:SlE w ao l)(hb:Below w.heap.size w w'):SlE w' ao l:=λH=>
 let ⟨b,off,e,hlt,hat⟩:=h H
 ⟨b,off,e,AF hlt hb.size,λi s F=>(hat i s F).below hb hlt⟩
abbrev D9:=Ac × Option Addr × Nat
def D7(r:D9):List Value:=((qaV r.1 r.2.1 r.2.2):Array Value).toList
def D6(R:List D9):List Value:=R.flatMap D7
theorem SX(R:List D9)(r:D9):D6 (R++[r])=D6 R++D7 r:=by simp[D6]
def AcAt(w:World)(b o:Nat)(r:D9):Prop:=w.cell? ⟨b,o,none⟩=some (.string r.1.aa)/\w.cell? ⟨b,o+1,none⟩=some (.int .i64 r.1.aF)/\w.cell? ⟨b,o+2,none⟩=some (.int .i64 r.1.am)/\w.cell? ⟨b,o+3,none⟩=some (.int .i64 r.1.av)/\w.cell? ⟨b,o+4,none⟩=some (.int .i64 r.1.ay)/\w.cell? ⟨b,o+5,none⟩=some (.bool r.1.az)/\w.cell? ⟨b,o+6,none⟩=some (.slice r.2.1 r.1.aw.length r.2.2)/\w.cell? ⟨b,o+7,none⟩=some (.bool r.1.drop)
theorem AcAt.below{N:Nat}{w w':World}{b o:Nat}{r:D9}(h:AcAt w b o r)(hb:Below N w w')(F:b<N):AcAt w' b o r:=by
 unfold AcAt at *;simp only[λo=>hb.cell (p:=⟨b,o,none⟩) F];exact h
def SlA(w:World)(ao:qO)(R:List D9):Prop:=R≠[]->∃b off,ao=some ⟨b,off,none⟩/\b<w.heap.size/\∀i r,R[i]?=some r->AcAt w b (off+i*8) r/\SlE w r.2.1 r.1.aw
theorem SlA.below{w w':World}{ao:qO}{R:List D9}(h:SlA w ao R)(hb:Below w.heap.size w w'):SlA w' ao R:=λH=>
 let ⟨b,off,e,hlt,hat⟩:=h H
 ⟨b,off,e,AF hlt hb.size,λi r F=>⟨(hat i r F).1.below hb hlt,(hat i r F).2.below hb⟩⟩
end
section
open Go.RowKit
def inL(x:Int):List Value:=[.int .i64 x]
def enL(e:En):List Value:=[.int .i64 e.ai,.int .i64 e.aF]
def cpV(c:Cp):Value:=.agg (cpL c).toArray
def Ei(s:Svc):Value:=.agg (svL s).toArray
theorem Nd(x y:Int)(h:inL x=inL y):x=y:=by simpa [inL] using h
theorem Id{c d:Cp}(h:cpV c=cpV d):c=d:=Re c d (by have:=em Array.toList (ix h);simpa using this)
theorem DY{c d:Svc}(h:Ei c=Ei d):c=d:=Qw c d (by have:=em Array.toList (ix h);simpa using this)
def okBk(B:Bk):Prop:=(B.af.length<=1000/\B.ah.length<=1000/\B.ak.length<=1000)/\(∀s∈B.af,s.name.size<=maxLen)/\(∀c∈B.ah,c.aa.size<=maxLen/\c.aA.size<=maxLen)/\∀b∈B.ak,b.name.size<=maxLen
theorem DE{ρ:List (Nat × Nat)}{ty sz cp c:Nat}{X:Type}{f:X->List Value}(l:List X)(x:X):LeB ρ (E9 (An ty sz cp f l) (Dd ty sz [f x]) 1 c) (An ty sz c f (l++[x])):=by
 have H:(E9 (An ty sz cp f l) (Dd ty sz [f x]) 1 c).n=(l++[x]).length:=by simp[E9,An]
 refine⟨rfl,rfl,rfl,fH H.symm,λ_=>⟨H,rfl⟩,rfl,λj W k hk=>⟨λh y M=>?_,λh el F=>?_⟩,λ_ _ _=>trivial,λh=>(nomatch h)⟩
 ·exact hk y (by rw[dU (show j<l.length from h)];exact M)
 ·have J:l.length<=j:=h
  have F:[f x][j - l.length]?=some el:=F;have Y:j<l.length+1:=by have:j<(l++[x]).length:=W;simpa using this
  have e0:j - l.length=0:=by omega
  rw[e0]at F;cases F;exact hk x (by rw[dX J,e0];rfl)
theorem GM{ρ:List (Nat × Nat)}{ty sz:Nat}{X:Type}{f:X->List Value}(l:List X):LeB ρ (Dd ty sz (l.map f)) (An ty sz l.length f l):=by
 have H:(Dd ty sz (l.map f)).n=l.length:=by simp[Dd]
 refine⟨rfl,rfl,rfl,fH H.symm,λ_=>⟨H,H⟩,rfl,λj _ k hk el F=>?_,λ_ _ _=>trivial,λh=>(nomatch h)⟩;rw[eh]at F
 cases J:l[j]? with
 |none=>rw[J]at F;cases F
 |some x=>rw[J]at F;cases F;exact hk x J
section
variable {RD:(Nat->Prop)->World->Nat->Nat->Prop}
abbrev ctDrains:Ct:=ctV (λp:BP × Cp=>[p.1.v,cpV p.2]) (λp=>p.1.m) (λp=>p.1.tn) λ_ v es=>es=[]/\∃b,v=.bool b
theorem Mx(J:B9 RD):B7 Tryz.prog RD 210 0 ctDrains:=by
 refine Ci (AZ (Aw J) (f:=124) (by kernel_rfl) (PP J)) Tryz.func210 (by kernel_rfl) (by kernel_rfl) (λ_=>rfl) (λp H h F=>?_) ?_
 ·obtain⟨p,s⟩:=p
  obtain⟨H,W⟩:=H;simp only[BP.m,bkM,dv,dw,fu,dV]at h F;rw[BP.inj h.1 F.1 F.2.1 F.2.2,Id h.2]
 rintro⟨⟨B,c1,c2,c3⟩,x⟩ M;refine⟨(⟨B,c1,c2,c3⟩,x.aA),rfl,M,?_⟩;rintro _ _ ⟨rfl,k,rfl,hk⟩;have hk:=hk.lt;refine cW (λh=>?_) (λh=>?_)
 ·refine cW h (cW hk.2 (cW (AG _) (λ_ _=>?_)))
  refine cW (λh=>?_) (λh=>?_)<;>exact⟨.inl rfl,_,rfl,⟨_,_,[],⟨rfl,_,rfl⟩,rfl,trivial,rfl,rfl,trivial⟩,rfl⟩
 ·exact⟨.inl rfl,_,rfl,⟨_,_,[],⟨rfl,_,rfl⟩,rfl,trivial,rfl,rfl,trivial⟩,rfl⟩
abbrev ctSooner:Ct:=ctV (λp:BP × Cp × Cp × Int=>[p.1.v,cpV p.2.1,cpV p.2.2.1,.int .i64 p.2.2.2]) (λp=>p.1.m) (λp=>p.1.tn) λ_ v es=>es=[]/\∃b,v=.bool b
theorem Rt(J:B9 RD):B7 Tryz.prog RD 297 0 ctSooner:=by
 refine Ci (AZ (Aw J) (f:=210) (by kernel_rfl) (Mx J)) Tryz.func297 (by kernel_rfl) (by kernel_rfl) (λ_=>rfl) (λp M h F=>?_) ?_
 ·obtain⟨p,s,t,n⟩:=p
  obtain⟨M,s',Z,Y⟩:=M;simp only[BP.m,bkM,dv,dw,fu,dV,fF]at h F;rw[BP.inj h.1 F.1 F.2.1 F.2.2,Id h.2.1,Id h.2.2.1,h.2.2.2]
 rintro⟨⟨B,c1,c2,c3⟩,x,y,W⟩ H
 repeat' (first|refine cW (λ_=>?_) (λ_=>?_)|exact⟨.inl rfl,_,rfl,⟨_,_,[],⟨rfl,_,rfl⟩,rfl,trivial,rfl,rfl,trivial⟩,rfl⟩|(refine⟨(⟨B,c1,c2,c3⟩,x),rfl,H,?_⟩;rintro _ _ ⟨rfl,b,rfl⟩;cases b)|(refine⟨(⟨B,c1,c2,c3⟩,y),rfl,H,?_⟩;rintro _ _ ⟨rfl,b,rfl⟩;cases b))
end
def Pls(n:Nat)(xs:List Int):Prop:=xs.length<=n/\∀x∈xs,0<=x/\x<n
def KP(n:Nat)(v:Value)(es:AY):Prop:=∃xs cp,v=.iface 0 (.slice none xs.length cp)/\es=[(0,An 3 1 cp inL xs)]/\Pls n xs
theorem JD{n i cp:Nat}{xs:List Int}{m:AY}{b:VB}(h:Pls n xs)(F:lk m i=some b)(hb:LeB [(0,i)] b (An 3 1 cp inL xs)):Ep (KP n) (.iface i (.slice none xs.length cp)) m 0:=
 ⟨.iface 0 (.slice none xs.length cp),[(0,An 3 1 cp inL xs)],[(0,i)],⟨xs,cp,rfl,rfl,h⟩,rfl,⟨⟨b,F,hb⟩,trivial⟩,rfl,rfl,⟨λ_ _=>trivial,trivial⟩⟩
section
variable {RD:(Nat->Prop)->World->Nat->Nat->Prop}
abbrev ctLive:Ct:=ctV (λp:BP × ByteArray=>[p.1.v,.string p.2]) (λp=>p.1.m) (λp=>p.1.tn) λp v es=>KP p.1.B.ah.length v es
theorem KN(hR:B9 RD):B7 Tryz.prog RD 137 0 ctLive:=by
 refine Ci (Aw hR) Tryz.func137 (by kernel_rfl) (by kernel_rfl) (λ_=>rfl) Fw ?_;rintro⟨⟨B,c1,c2,c3⟩,nm⟩ ⟨_,hl,_⟩;have hl:B.ah.length<=1000:=hl;refine⟨λn s=>∃(x:Int) (H:List Int) (k cp:Nat),0<=x/\x<=B.ah.length/\n=B.ah.length - x.toNat/\k=H.length/\(k:Int)<=x/\(∀y∈H,0<=y/\y<B.ah.length)/\s=⟨[(6,.int .i64 x),(5,.iface 80 (.slice none k cp)),(2,.complex .f64 64 0),(1,.string nm)],(80,An 3 1 cp inL H)::(64,AT (D5 B c1 c2 c3) 28)::bkM B,100,0⟩,B.ah.length,⟨_,(by refine⟨[],?_,?_,rfl,rfl,AG _⟩<;>repeat' (first|exact rfl|exact trivial|exact⟨Dd 3 1 [],rfl,GM (f:=inL) []⟩|exact⟨_,rfl,.same _ _ rfl⟩|apply cW)),0,[],0,0,by omega,by omega,by omega,rfl,by omega,(λ_ h=>(nomatch h)),rfl⟩,?_⟩;rintro n _ ⟨x,H,k,cp,h0,h1,rfl,hk,an,M,rfl⟩
 have step:∀(J:List Int) (Y W:Nat) (s:Int->St),Y=J.length->(Y:Int)<=x+1->(∀y∈J,0<=y/\y<B.ah.length)->x<B.ah.length->(∀y:Int,Ent (s y) ⟨[(6,.int .i64 y),(5,.iface 80 (.slice none Y W)),(2,.complex .f64 64 0),(1,.string nm)],(80,An 3 1 W inL J)::(64,AT (D5 B c1 c2 c3) 28)::bkM B,100,0⟩)->∀y:Int,(inR (x+1)->y=x+1)->∃n',n'<B.ah.length - x.toNat/\∃s',Ent (s y) s'/\∃(x:Int) (H:List Int) (k cp:Nat),0<=x/\x<=B.ah.length/\n'=B.ah.length - x.toNat/\k=H.length/\(k:Int)<=x/\(∀y∈H,0<=y/\y<B.ah.length)/\s'=⟨[(6,.int .i64 x),(5,.iface 80 (.slice none k cp)),(2,.complex .f64 64 0),(1,.string nm)],(80,An 3 1 cp inL H)::(64,AT (D5 B c1 c2 c3) 28)::bkM B,100,0⟩:=λJ Y W s e1 e2 e3 F hE y Z=>by
  have Z:=Z ⟨by omega,by omega⟩;exact⟨B.ah.length - y.toNat,by omega,_,hE y,y,J,Y,W,by omega,by omega,rfl,e1,by omega,e3,rfl⟩
 refine cW (λF=>?_) (λF=>?_)
 ·refine cW h0 (cW F (cW (AG _) (λb hb=>?_)))
  refine cW (λhe=>?_) (λhe=>?_)
  ·refine cW h0 (cW F (cW (AG _) (λb' ak=>?_)))
   refine cW (λhe=>?_) (λhe=>?_)
   ·refine step H k cp _ hk (by omega) M F λy=>?_
    refine⟨[],?_,?_,rfl,rfl,AG _⟩<;>repeat' (first|exact rfl|exact trivial|exact⟨_,rfl,.same _ _ rfl⟩|apply cW)
   ·refine cW hk (cW rfl (cW (AG _) (cW (by omega) (λc'=>?_))))
    refine step (H++[x]) (k+1) c' _ (by rw[hk];simp) (by omega) (λy Z=>(dt.1 Z).elim (M y) (λh=>by rw[cZ.1 h];exact⟨h0,F⟩)) F λy=>?_
    refine⟨[(80,300)],?_,?_,rfl,rfl,AG _⟩<;>repeat' (first|exact rfl|exact trivial|exact⟨_,rfl,DE _ _⟩|exact⟨_,rfl,.same _ _ rfl⟩|apply cW)
  ·refine step H k cp _ hk (by omega) M F λy=>?_
   refine⟨[],?_,?_,rfl,rfl,AG _⟩<;>repeat' (first|exact rfl|exact trivial|exact⟨_,rfl,.same _ _ rfl⟩|apply cW)
 ·subst hk
  exact⟨.inl rfl,_,rfl,JD (n:=B.ah.length) ⟨by omega,M⟩ rfl (.same _ _ rfl),rfl⟩
end
def endsP(P:List En->Prop)(v:Value)(es:AY):Prop:=∃(l:List En) (cp:Nat),v=.iface 0 (.slice none l.length cp)/\es=[(0,An 88 2 cp enL l)]/\P l
def NumsIn(B:Bk)(l:List En):Prop:=∀e∈l,∃c∈B.ah,c.ai=e.ai
theorem NumsIn.app{B:Bk}{l:List En}(h:NumsIn B l){c:Cp}(H:c∈B.ah){v:Int}:NumsIn B (l++[⟨c.ai,v⟩]):=λe F=>by
 rcases dt.1 F with F|F
 ·exact h e F
 ·cases cZ.1 F;exact⟨c,H,rfl⟩
theorem JJ{P:List En->Prop}{i cp:Nat}{l:List En}{m:AY}{b:VB}(h:P l)(F:lk m i=some b)(hb:LeB [(0,i)] b (An 88 2 cp enL l)):Ep (endsP P) (.iface i (.slice none l.length cp)) m 0:=
 ⟨.iface 0 (.slice none l.length cp),[(0,An 88 2 cp enL l)],[(0,i)],⟨l,cp,rfl,rfl,h⟩,rfl,⟨⟨b,F,hb⟩,trivial⟩,rfl,rfl,⟨λ_ _=>trivial,trivial⟩⟩
def BP.ok(p:BP):Prop:=p.tn/\∀c∈p.B.ah,∃s∈p.B.af,nmB s.name c.aa=true
theorem Rh(p F:BP × List Int × Nat)(h:[p.1.v,.iface 3 (.slice none p.2.1.length p.2.2)]=[F.1.v,.iface 3 (.slice none F.2.1.length F.2.2)])(H:p.1.m++[(3,A9 3 1 inL p.2.1)]=F.1.m++[(3,A9 3 1 inL F.2.1)]):p=F:=by
 obtain⟨p,s,c⟩:=p;obtain⟨F,J,M⟩:=F;simp only[BP.m,bkM,fb,eZ,dv,dw,fu,dV,iH,jg]at h H;rw[BP.inj h.1 H.1 H.2.1 H.2.2.1,Fj Nd H.2.2.2,h.2.2]
section
variable {RD:(Nat->Prop)->World->Nat->Nat->Prop}
abbrev ctEnds:Ct:=ctV (λp:BP × List Int × Nat=>[p.1.v,.iface 3 (.slice none p.2.1.length p.2.2)]) (λp=>p.1.m++[(3,A9 3 1 inL p.2.1)]) (λp=>p.1.tn/\Pls p.1.B.ah.length p.2.1) λp v es=>endsP (λl=>l.length<=p.2.1.length/\NumsIn p.1.B l) v es
theorem ends_ct(hR:B9 RD):B7 Tryz.prog RD 135 0 ctEnds:=by
 refine Ci (Aw hR) Tryz.func135 (by kernel_rfl) (by kernel_rfl) (λ_=>rfl) Rh ?_;rintro⟨⟨B,c1,c2,c3⟩,L,cL⟩ ⟨⟨_,hl,_⟩,hL,F⟩;have hl:B.ah.length<=1000:=hl;have hL:L.length<=B.ah.length:=hL;have F:∀x∈L,0<=x/\x<B.ah.length:=F;refine⟨λn s=>∃(x:Int) (M:List En) (k cp:Nat),0<=x/\x<=L.length/\n=L.length - x.toNat/\k=M.length/\((k:Int)<=x/\NumsIn B M)/\s=⟨[(6,.int .i64 x),(5,.iface 80 (.slice none k cp)),(2,.complex .f64 64 0),(1,.iface 3 (.slice none L.length cL))],(80,An 88 2 cp enL M)::(64,AT (D5 B c1 c2 c3) 28)::(bkM B++[(3,A9 3 1 inL L)]),100,0⟩,L.length,⟨_,(by refine⟨[],?_,?_,rfl,rfl,AG _⟩<;>repeat' (first|exact rfl|exact trivial|exact⟨Dd 88 2 [],rfl,GM (f:=enL) []⟩|exact⟨_,rfl,.same _ _ rfl⟩|apply cW)),0,[],0,0,by omega,by omega,by omega,rfl,⟨by omega,λ_ h=>(nomatch h)⟩,rfl⟩,?_⟩;rintro n _ ⟨x,M,k,cp,h0,h1,rfl,hk,⟨am,W⟩,rfl⟩;refine cW (λJ=>?_) (λJ=>?_)
 ·refine cW h0 (cW J (cW (AG _) (λa ha=>?_)))
  have Y:=F a (AE ha);refine cW Y.1 (cW Y.2 (cW (AG _) (λb hb=>?_)));refine cW h0 (cW J (cW (AG _) (λa2 Z=>?_)));have H:=F a2 (AE Z);refine cW H.1 (cW H.2 (cW (AG _) (λb2 ai=>?_)));refine cW hk (cW rfl (cW (AG _) (cW (by omega) (λc'=>?_))));intro y hy;have hy:=hy ⟨by omega,by omega⟩;refine⟨L.length - y.toNat,by omega,_,?_,y,M++[⟨b.ai,b2.ag⟩],k+1,c',by omega,by omega,rfl,by rw[hk];simp,⟨by omega,W.app (AE hb)⟩,rfl⟩;refine⟨[(80,300)],?_,?_,rfl,rfl,AG _⟩<;>repeat' (first|exact rfl|exact trivial|exact⟨_,rfl,DE (f:=enL) M ⟨b.ai,b2.ag⟩⟩|exact⟨_,rfl,.same _ _ rfl⟩|apply cW)
 ·subst hk
  exact⟨.inl rfl,_,rfl,JJ (P:=λl=>l.length<=L.length/\NumsIn B l) ⟨by omega,W⟩ rfl (.same _ _ rfl),rfl⟩
abbrev ctMayL:Ct:=ctV (λp:BP × List Int × Nat=>[p.1.v,.iface 3 (.slice none p.2.1.length p.2.2)]) (λp=>p.1.m++[(3,A9 3 1 inL p.2.1)]) (λp=>p.1.ok/\Pls p.1.B.ah.length p.2.1) λp v es=>KP p.1.B.ah.length v es
theorem mayL_ct(hR:B9 RD):B7 Tryz.prog RD 216 0 ctMayL:=by
 refine Ci (AZ (Aw hR) (f:=123) (by kernel_rfl) (may_ct hR)) Tryz.func216 (by kernel_rfl) (by kernel_rfl) (λ_=>rfl) Rh ?_;rintro⟨⟨B,c1,c2,c3⟩,L,cL⟩ ⟨⟨ht,Z⟩,hL,F⟩;have hl:B.ah.length<=1000:=ht.2.1;have hL:L.length<=B.ah.length:=hL;have F:∀x∈L,0<=x/\x<B.ah.length:=F;have Z:∀c∈B.ah,∃s∈B.af,nmB s.name c.aa=true:=Z;refine⟨λn s=>∃(x:Int) (W:List Int) (k cp:Nat),0<=x/\x<=L.length/\n=L.length - x.toNat/\k=W.length/\(k:Int)<=x/\(∀y∈W,0<=y/\y<B.ah.length)/\s=⟨[(6,.int .i64 x),(5,.iface 80 (.slice none k cp)),(2,.complex .f64 64 0),(1,.iface 3 (.slice none L.length cL))],(80,An 3 1 cp inL W)::(64,AT (D5 B c1 c2 c3) 28)::(bkM B++[(3,A9 3 1 inL L)]),100,0⟩,L.length,⟨_,(by refine⟨[],?_,?_,rfl,rfl,AG _⟩<;>repeat' (first|exact rfl|exact trivial|exact⟨Dd 3 1 [],rfl,GM (f:=inL) []⟩|exact⟨_,rfl,.same _ _ rfl⟩|apply cW)),0,[],0,0,by omega,by omega,by omega,rfl,by omega,(λ_ h=>(nomatch h)),rfl⟩,?_⟩;rintro n _ ⟨x,W,k,cp,h0,h1,rfl,hk,ar,M,rfl⟩;refine cW (λH=>?_) (λH=>?_)
 ·refine cW h0 (cW H (cW (AG _) (λa ha=>?_)))
  have aa:=F a (AE ha);refine cW aa.1 (cW aa.2 (cW (AG _) (λb hb=>?_)));refine cW h0 (cW H (cW (AG _) (λa2 af=>?_)));have J:=F a2 (AE af);refine cW J.1 (cW J.2 (cW (AG _) (λb2 al=>?_)));refine⟨(⟨B,c1,c2,c3⟩,b.aa,b2.ai),rfl,⟨ht,Z b (AE hb)⟩,?_⟩;rintro _ _ ⟨rfl,r,rfl,_⟩
  cases r with
  |false=>
   intro y Y;have Y:=Y ⟨by omega,by omega⟩;refine⟨L.length - y.toNat,by omega,_,?_,y,W,k,cp,by omega,by omega,rfl,hk,by omega,M,rfl⟩;refine⟨[],?_,?_,rfl,rfl,AG _⟩<;>repeat' (first|exact rfl|exact trivial|exact⟨_,rfl,.same _ _ rfl⟩|apply cW)
  |true=>
   refine cW h0 (cW H (cW (AG _) (λa3 ag=>?_)));refine cW hk (cW rfl (cW (AG _) (cW (by omega) (λc'=>?_))));intro y Y;have Y:=Y ⟨by omega,by omega⟩;refine⟨L.length - y.toNat,by omega,_,?_,y,W++[a3],k+1,c',by omega,by omega,rfl,by rw[hk];simp,by omega,(λy Y=>(dt.1 Y).elim (M y) (λh=>by rw[cZ.1 h];exact F a3 (AE ag))),rfl⟩;refine⟨[(80,340)],?_,?_,rfl,rfl,AG _⟩<;>repeat' (first|exact rfl|exact trivial|exact⟨_,rfl,DE (f:=inL) W a3⟩|exact⟨_,rfl,.same _ _ rfl⟩|apply cW)
 ·subst hk
  exact⟨.inl rfl,_,rfl,JD (n:=B.ah.length) ⟨by omega,M⟩ rfl (.same _ _ rfl),rfl⟩
end
section
variable {RD:(Nat->Prop)->World->Nat->Nat->Prop}
abbrev ctSome:Ct:=ctV (λp:BP × Svc × Int=>[p.1.v,Ei p.2.1,.int .i64 p.2.2]) (λp=>p.1.m) (λp=>p.1.tn) λp v es=>KP p.1.B.ah.length v es
theorem Q0(hR:B9 RD):B7 Tryz.prog RD 136 0 ctSome:=by
 refine Ci (AZ (AZ (Aw hR) (f:=137) (by kernel_rfl) (KN hR)) (f:=210) (by kernel_rfl) (Mx hR)) Tryz.func136 (by kernel_rfl) (by kernel_rfl) (λ_=>rfl) (λp p' h hm=>?_) ?_
 ·obtain⟨p,s,n⟩:=p
  obtain⟨p',s',n'⟩:=p';simp only[BP.m,bkM,dv,dw,fu,dV,fF]at h hm;rw[BP.inj h.1 hm.1 hm.2.1 hm.2.2,DY h.2.1,h.2.2]
 rintro⟨⟨B,c1,c2,c3⟩,s,wh⟩ ht;have hl:B.ah.length<=1000:=ht.2.1;refine⟨(⟨B,c1,c2,c3⟩,s.name),rfl,ht,?_⟩;rintro _ _ ⟨L,cL,rfl,rfl,hL,M⟩;have hL:L.length<=B.ah.length:=hL;have M:∀x∈L,0<=x/\x<B.ah.length:=M;refine⟨λn z=>∃(x:Int) (J:List Int) (k cp:Nat),0<=x/\x<=L.length/\n=L.length - x.toNat/\k=J.length/\(k:Int)<=x/\(∀y∈J,0<=y/\y<B.ah.length)/\z=⟨[(9,.int .i64 x),(8,.iface 128 (.slice none L.length cL)),(7,.iface 88 (.slice none k cp)),(3,.complex .f64 64 0),(4,.complex .f64 72 0),(2,.int .i64 wh)],(128,An 3 1 cL inL L)::(88,An 3 1 cp inL J)::(72,AT (svL s) 34)::(64,AT (D5 B c1 c2 c3) 28)::bkM B,200,0⟩,L.length,⟨_,(by refine⟨[],?_,?_,rfl,rfl,AG _⟩<;>repeat' (first|exact rfl|exact trivial|exact⟨Dd 3 1 [],rfl,GM (f:=inL) []⟩|exact⟨_,rfl,.same _ _ rfl⟩|apply cW)),0,[],0,0,by omega,by omega,by omega,rfl,by omega,(λ_ h=>(nomatch h)),rfl⟩,?_⟩;rintro n _ ⟨x,J,k,cp,h0,h1,rfl,hk,aw,H,rfl⟩;refine cW (λY=>?_) (λY=>?_)
 ·refine cW h0 (cW Y (cW (AG _) (cW (show x.toNat<L.length by omega) (λa ha=>?_))))
  have ag:=M a (AE ha);refine cW ag.1 (cW ag.2 (cW (AG _) (λb hb=>?_)));refine cW (λh2=>?_) (λh2=>?_)
  ·refine cW (λhi=>?_) (λhi=>?_)
   ·(refine cW h0 (cW Y (cW (AG _) (cW (show x.toNat<L.length by omega) (λa3 W=>?_))));refine cW hk (cW rfl (cW (AG _) (cW (by omega) (λc'=>?_))));intro y F;replace F:=F ⟨by omega,by omega⟩;refine⟨L.length - y.toNat,by omega,_,?_,y,J++[a3],k+1,c',by omega,by omega,rfl,by rw[hk];simp,by omega,(λy F=>(dt.1 F).elim (H y) (λh=>by rw[cZ.1 h];exact M a3 (AE W))),rfl⟩;refine⟨[(88,576)],?_,?_,rfl,rfl,AG _⟩<;>repeat' (first|exact rfl|exact trivial|exact⟨_,rfl,DE (f:=inL) J a3⟩|exact⟨_,rfl,.same _ _ rfl⟩|apply cW))
   ·refine cW (λh6=>absurd (h2.symm.trans h6) (by decide)) (λh6=>?_)
    refine cW (λZ=>absurd (h2.symm.trans Z) (by decide)) (λZ=>?_)
    (intro y F;replace F:=F ⟨by omega,by omega⟩;refine⟨L.length - y.toNat,by omega,_,?_,y,J,k,cp,by omega,by omega,rfl,hk,by omega,H,rfl⟩;refine⟨[],?_,?_,rfl,rfl,AG _⟩<;>repeat' (first|exact rfl|exact trivial|exact⟨_,rfl,.same _ _ rfl⟩|apply cW))
  ·refine cW (λh6=>?_) (λh6=>?_)
   ·refine⟨(⟨B,c1,c2,c3⟩,b),rfl,ht,?_⟩
    rintro _ _ ⟨rfl,r,rfl⟩
    cases r with
    |true=>(refine cW h0 (cW Y (cW (AG _) (cW (show x.toNat<L.length by omega) (λa3 W=>?_))));refine cW hk (cW rfl (cW (AG _) (cW (by omega) (λc'=>?_))));intro y F;replace F:=F ⟨by omega,by omega⟩;refine⟨L.length - y.toNat,by omega,_,?_,y,J++[a3],k+1,c',by omega,by omega,rfl,by rw[hk];simp,by omega,(λy F=>(dt.1 F).elim (H y) (λh=>by rw[cZ.1 h];exact M a3 (AE W))),rfl⟩;refine⟨[(88,576)],?_,?_,rfl,rfl,AG _⟩<;>repeat' (first|exact rfl|exact trivial|exact⟨_,rfl,DE (f:=inL) J a3⟩|exact⟨_,rfl,.same _ _ rfl⟩|apply cW))
    |false=>
     refine cW (λZ=>absurd (h6.symm.trans Z) (by decide)) (λZ=>?_)
     (intro y F;replace F:=F ⟨by omega,by omega⟩;refine⟨L.length - y.toNat,by omega,_,?_,y,J,k,cp,by omega,by omega,rfl,hk,by omega,H,rfl⟩;refine⟨[],?_,?_,rfl,rfl,AG _⟩<;>repeat' (first|exact rfl|exact trivial|exact⟨_,rfl,.same _ _ rfl⟩|apply cW))
   ·refine cW (λZ=>?_) (λZ=>?_)
    ·refine cW (λh4=>?_) (λh4=>?_)
     ·(refine cW h0 (cW Y (cW (AG _) (cW (show x.toNat<L.length by omega) (λa3 W=>?_))));refine cW hk (cW rfl (cW (AG _) (cW (by omega) (λc'=>?_))));intro y F;replace F:=F ⟨by omega,by omega⟩;refine⟨L.length - y.toNat,by omega,_,?_,y,J++[a3],k+1,c',by omega,by omega,rfl,by rw[hk];simp,by omega,(λy F=>(dt.1 F).elim (H y) (λh=>by rw[cZ.1 h];exact M a3 (AE W))),rfl⟩;refine⟨[(88,576)],?_,?_,rfl,rfl,AG _⟩<;>repeat' (first|exact rfl|exact trivial|exact⟨_,rfl,DE (f:=inL) J a3⟩|exact⟨_,rfl,.same _ _ rfl⟩|apply cW))
     ·(intro y F;replace F:=F ⟨by omega,by omega⟩;refine⟨L.length - y.toNat,by omega,_,?_,y,J,k,cp,by omega,by omega,rfl,hk,by omega,H,rfl⟩;refine⟨[],?_,?_,rfl,rfl,AG _⟩<;>repeat' (first|exact rfl|exact trivial|exact⟨_,rfl,.same _ _ rfl⟩|apply cW))
    ·(intro y F;replace F:=F ⟨by omega,by omega⟩;refine⟨L.length - y.toNat,by omega,_,?_,y,J,k,cp,by omega,by omega,rfl,hk,by omega,H,rfl⟩;refine⟨[],?_,?_,rfl,rfl,AG _⟩<;>repeat' (first|exact rfl|exact trivial|exact⟨_,rfl,.same _ _ rfl⟩|apply cW))
 ·subst hk
  exact⟨.inl rfl,_,rfl,JD (n:=B.ah.length) ⟨by omega,H⟩ rfl (.same _ _ rfl),rfl⟩
end
section
variable {RD:(Nat->Prop)->World->Nat->Nat->Prop}
abbrev ctFirst:Ct:=ctV (λp:BP × Svc × List Int × Nat=>[p.1.v,Ei p.2.1,.iface 3 (.slice none p.2.2.1.length p.2.2.2)]) (λp=>p.1.m++[(3,A9 3 1 inL p.2.2.1)]) (λp=>p.1.tn/\Pls p.1.B.ah.length p.2.2.1) λp=>endsP λl=>l.length<=1/\(0<p.2.2.1.length->l.length=1)/\NumsIn p.1.B l
theorem O7(hR:B9 RD):B7 Tryz.prog RD 215 0 ctFirst:=by
 refine Ci (AZ (Aw hR) (f:=297) (by kernel_rfl) (Rt hR)) Tryz.func215 (by kernel_rfl) (by kernel_rfl) (λ_=>rfl) (λp p' h Z=>?_) ?_
 ·obtain⟨p,sv,s,c⟩:=p
  obtain⟨p',am,s',c'⟩:=p';simp only[BP.m,bkM,fb,eZ,dv,dw,fu,dV,iH,jg]at h Z;rw[BP.inj h.1 Z.1 Z.2.1 Z.2.2.1,DY h.2.1,Fj Nd Z.2.2.2,h.2.2.2]
 rintro⟨⟨B,c1,c2,c3⟩,s,L,cL⟩ ⟨ht,hL,F⟩;have hl:B.ah.length<=1000:=ht.2.1;have hL:L.length<=B.ah.length:=hL;have F:∀x∈L,0<=x/\x<B.ah.length:=F;refine cW (λh0=>?_) (λh0=>?_)
 ·have h0:(L.length:Int)=0:=h0
  exact⟨.inl rfl,_,rfl,JJ (P:=λl=>l.length<=1/\(0<L.length->l.length=1)/\NumsIn B l) (l:=[]) ⟨by simp,λh=>by omega,λ_ h=>(nomatch h)⟩ rfl (GM (f:=enL) []),rfl⟩
 have h0:¬(L.length:Int)=0:=h0;refine cW (fB 0) (cW (show(0:Int)<L.length by omega) (cW (AG _) (λa ha=>?_)));have H:=F a (AE ha);refine cW H.1 (cW H.2 (cW (AG _) (λb hb=>?_)));refine⟨λn z=>∃(x:Int) (c:Cp),1<=x/\(x<=L.length/\c∈B.ah)/\n=L.length - x.toNat/\z=⟨[(8,.int .i64 x),(7,.complex .f64 168 0),(2,.iface 3 (.slice none L.length cL)),(3,.complex .f64 64 0),(4,.complex .f64 72 0)],(168,AT (cpL c) 76)::(72,AT (svL s) 34)::(64,AT (D5 B c1 c2 c3) 28)::(bkM B++[(3,A9 3 1 inL L)]),200,0⟩,L.length - 1,⟨_,(by refine⟨[],?_,?_,rfl,rfl,AG _⟩<;>repeat' (first|exact rfl|exact trivial|exact⟨_,rfl,.same _ _ rfl⟩|apply cW)),1,b,by omega,⟨by omega,AE hb⟩,by omega,rfl⟩,?_⟩;rintro n _ ⟨x,c,h1,⟨h2,Y⟩,rfl,rfl⟩;refine cW (λM=>?_) (λM=>?_)
 ·refine cW (by omega) (cW M (cW (AG _) (λa ha=>?_)))
  have H:=F a (AE ha);refine cW H.1 (cW H.2 (cW (AG _) (λb hb=>?_)));refine⟨(⟨B,c1,c2,c3⟩,b,c,s.ar),rfl,ht,?_⟩;rintro _ _ ⟨rfl,r,rfl⟩
  cases r with
  |true=>
   refine cW (by omega) (cW M (cW (AG _) (λa2 ag=>?_)));have J:=F a2 (AE ag);refine cW J.1 (cW J.2 (cW (AG _) (λb2 af=>?_)));intro y W
   replace W:=W ⟨by omega,by omega⟩
   refine⟨L.length - y.toNat,by omega,_,?_,y,b2,by omega,⟨by omega,AE af⟩,rfl,rfl⟩;refine⟨[],?_,?_,rfl,rfl,AG _⟩<;>repeat' (first|exact rfl|exact trivial|exact⟨_,rfl,.same _ _ rfl⟩|apply cW)
  |false=>
   intro y W
   replace W:=W ⟨by omega,by omega⟩
   refine⟨L.length - y.toNat,by omega,_,?_,y,c,by omega,⟨by omega,Y⟩,rfl,rfl⟩;refine⟨[],?_,?_,rfl,rfl,AG _⟩<;>repeat' (first|exact rfl|exact trivial|exact⟨_,rfl,.same _ _ rfl⟩|apply cW)
 ·exact⟨.inl rfl,_,rfl,JJ (P:=λl=>l.length<=1/\(0<L.length->l.length=1)/\NumsIn B l) (l:=[⟨c.ai,c.ag⟩]) ⟨by simp,λ_=>rfl,λe he=>by cases cZ.1 he;exact⟨c,Y,rfl⟩⟩ rfl (GM (f:=enL) [⟨c.ai,c.ag⟩]),rfl⟩
end
def acV(n:qB)(a b c d:Int)(x:Bool)(E:Value)(y:Bool):Value:=.agg #[.string n,.int .i64 a,.int .i64 b,.int .i64 c,.int .i64 d,.bool x,E,.bool y]
abbrev ac0 (n:qB) (a:Int):Value:=acV n a 0 0 0 false (.slice none 0 0) false
def GZ(B:Bk)(n:qB)(v:Value)(es:AY):Prop:=∃a b c d x E y,v=acV n a b c d x E y/\((E=.slice none 0 0/\es=[])\/∃(l:List En) (cp:Nat),E=.iface 0 (.slice none l.length cp)/\es=[(0,An 88 2 cp enL l)]/\l.length<=1000/\NumsIn B l)
theorem Bd{B:Bk}{n:qB}{a b c d:Int}{x y:Bool}{m:AY}:Ep (GZ B n) (acV n a b c d x (.slice none 0 0) y) m 0:=
 ⟨_,[],[],⟨a,b,c,d,x,_,y,rfl,.inl ⟨rfl,rfl⟩⟩,rfl,trivial,rfl,rfl,trivial⟩
theorem C9{B:Bk}{n:qB}{a b c d:Int}{x y:Bool}{m:AY}{i cp:Nat}{l:List En}{v:VB}(h:l.length<=1000)(F:NumsIn B l)(H:lk m i=some v)(hb:LeB [(0,i)] v (An 88 2 cp enL l)):Ep (GZ B n) (acV n a b c d x (.iface i (.slice none l.length cp)) y) m 0:=
 ⟨acV n a b c d x (.iface 0 (.slice none l.length cp)) y,[(0,An 88 2 cp enL l)],[(0,i)],⟨a,b,c,d,x,_,y,rfl,.inr ⟨l,cp,rfl,rfl,h,F⟩⟩,rfl,⟨⟨v,H,hb⟩,trivial⟩,rfl,rfl,⟨λ_ _=>trivial,trivial⟩⟩
theorem Nw{n n':qB}{a F:Int}(h:ac0 n a=ac0 n' F):n=n'/\a=F:=by
 have:=em Array.toList (ix h);simp at this;exact this
section
variable {RD:(Nat->Prop)->World->Nat->Nat->Prop}
abbrev SN:Ct:=ctV (λs:Svc=>[Ei s]) (λ_=>[]) (λs=>s.aM≠0) λ_ v es=>es=[]/\∃d,v=.int .i64 d
theorem QP(H:B9 RD):B7 Tryz.prog RD 114 0 SN:=by
 refine Ci (Aw H) Tryz.func114 (by kernel_rfl) (by kernel_rfl) (λ_=>rfl) (λp J h _=>DY (gz h).1) ?_;intro s F;refine λn1 _ n2 _=>cW F (λn3 _=>?_)
 refine cW (λh=>?_) (λh=>?_)<;>refine cW (λh=>?_) (λh=>?_)<;>exact⟨.inl rfl,_,rfl,⟨_,_,[],⟨rfl,_,rfl⟩,rfl,trivial,rfl,rfl,trivial⟩,rfl⟩
abbrev ctScaler:Ct:=ctV (λp:Svc × ByteArray × Int=>[Ei p.1,ac0 p.2.1 p.2.2]) (λ_=>[]) (λp=>p.1.aM≠0) λp=>GZ ⟨0,[],[],[]⟩ p.2.1
theorem Ru(F:B9 RD):B7 Tryz.prog RD 140 0 ctScaler:=by
 refine Ci (AZ (Aw F) (f:=114) (by kernel_rfl) (QP F)) Tryz.func140 (by kernel_rfl) (by kernel_rfl) (λ_=>rfl) (λp J h _=>?_) ?_
 ·obtain⟨s,n,a⟩:=p
  obtain⟨Y,W,M⟩:=J;simp only[dv,dV]at h;obtain⟨rfl,rfl⟩:=Nw h.2;rw[DY h.1]
 rintro⟨s,n,a⟩ H;refine⟨s,rfl,H,?_⟩;rintro _ _ ⟨rfl,d,rfl⟩
 repeat' (first|refine cW (λ_=>?_) (λ_=>?_)|refine λ_ _=>?_|exact⟨.inl rfl,_,rfl,Bd,rfl⟩)
end
section
variable {RD:(Nat->Prop)->World->Nat->Nat->Prop}
abbrev SO:Ct:=ctV (λp:BP × Svc × ByteArray × Int=>[p.1.v,Ei p.2.1,ac0 p.2.2.1 p.2.2.2]) (λp=>p.1.m) (λp=>p.1.tn/\0<=p.2.1.av/\∃s∈p.1.B.af,nmB s.name p.2.1.name=true) λp=>GZ p.1.B p.2.2.1
theorem QW(W:B9 RD):B7 Tryz.prog RD 138 0 SO:=by
  refine Ci (AZ (AZ (AZ (AZ (Aw W) (f:=137) (by kernel_rfl) (KN W)) (f:=136) (by kernel_rfl) (Q0 W)) (f:=215) (by kernel_rfl) (O7 W)) (f:=123) (by kernel_rfl) (may_ct W)) Tryz.func138 (by kernel_rfl) (by kernel_rfl) (λ_=>rfl) (λp p' h Z=>?_) ?_
  · obtain⟨p,s,n,a⟩:=p
    obtain⟨p',s',n',a'⟩:=p';simp only[BP.m,bkM,dv,dw,fu,dV]at h Z;obtain⟨rfl,rfl⟩:=Nw h.2.2;rw[BP.inj h.1 Z.1 Z.2.1 Z.2.2,DY h.2.1]
  rintro⟨⟨B,c1,c2,c3⟩,s,n,a⟩ ⟨H,hw,hs⟩;have hw:0<=s.av:=hw;refine⟨(⟨B,c1,c2,c3⟩,s.name),rfl,H,?_⟩;rintro _ _ ⟨L,cL,rfl,rfl,hL,Y⟩;refine cW (λh=>?_) (λh=>?_)
  · refine λ_ _=>?_
    exact⟨.inl rfl,_,rfl,Bd,rfl⟩
  refine⟨(⟨B,c1,c2,c3⟩,s,2),rfl,H,?_⟩;rintro _ _ ⟨L2,am,rfl,rfl,_,_⟩;refine cW (λh2=>?_) (λh2=>?_)
  · refine⟨(⟨B,c1,c2,c3⟩,s,6),rfl,H,?_⟩
    rintro _ _ ⟨L3,al,rfl,rfl,_,_⟩;refine cW (λh3=>?_) (λh3=>?_)<;>refine cW (λJ=>?_) (λJ=>?_)
    all_goals try (refine λ_ _=>cW (λ_=>?_) (λ_=>?_))
    all_goals first
      |exact⟨.inl rfl,_,rfl,Bd,rfl⟩
      | (have J : s.av < L.length := J
         refine⟨(⟨B,c1,c2,c3⟩,s,L,cL),rfl,⟨H,hL,Y⟩,?_⟩;rintro _ _ ⟨l,cp,rfl,rfl,aa,F,M⟩;have F:l.length=1:=F (show 0<L.length by omega);refine cW (fB 0) (cW (show(0:Int)<l.length by omega) (cW (AG _) (cW (show 0<l.length by omega) (λe he=>?_))));refine⟨(⟨B,c1,c2,c3⟩,s.name,e.ai),rfl,⟨H,hs⟩,?_⟩;rintro _ _ ⟨rfl,r,rfl,_⟩
         cases r with
         |true=>exact⟨.inl rfl,_,rfl,C9 (l:=l) (by omega) M rfl (.same _ _ rfl),rfl⟩
         |false=>exact⟨.inl rfl,_,rfl,Bd,rfl⟩)
  · refine cW (λJ=>?_) (λJ=>?_)
    all_goals try (refine λ_ _=>cW (λ_=>?_) (λ_=>?_))
    all_goals first
      |exact⟨.inl rfl,_,rfl,Bd,rfl⟩
      | (have J : s.av < L.length := J
         refine⟨(⟨B,c1,c2,c3⟩,s,L,cL),rfl,⟨H,hL,Y⟩,?_⟩;rintro _ _ ⟨l,cp,rfl,rfl,aa,F,M⟩;have F:l.length=1:=F (show 0<L.length by omega);refine cW (fB 0) (cW (show(0:Int)<l.length by omega) (cW (AG _) (cW (show 0<l.length by omega) (λe he=>?_))));refine⟨(⟨B,c1,c2,c3⟩,s.name,e.ai),rfl,⟨H,hs⟩,?_⟩;rintro _ _ ⟨rfl,r,rfl,_⟩
         cases r with
         |true=>exact⟨.inl rfl,_,rfl,C9 (l:=l) (by omega) M rfl (.same _ _ rfl),rfl⟩
         |false=>exact⟨.inl rfl,_,rfl,Bd,rfl⟩)
abbrev SM:Ct:=ctV (λp:BP × Svc × (ByteArray × Int) × List Int × Nat=>[p.1.v,Ei p.2.1,ac0 p.2.2.1.1 p.2.2.1.2,.iface 3 (.slice none p.2.2.2.1.length p.2.2.2.2)]) (λp=>p.1.m++[(3,A9 3 1 inL p.2.2.2.1)]) (λp=>p.1.ok/\Pls p.1.B.ah.length p.2.2.2.1) λp=>GZ p.1.B p.2.2.1.1
theorem Pv(H:B9 RD):B7 Tryz.prog RD 139 0 SM:=by
  refine Ci (AZ (AZ (AZ (Aw H) (f:=137) (by kernel_rfl) (KN H)) (f:=216) (by kernel_rfl) (mayL_ct H)) (f:=215) (by kernel_rfl) (O7 H)) Tryz.func139 (by kernel_rfl) (by kernel_rfl) (λ_=>rfl) (λp p' h F=>?_) ?_
  · obtain⟨p,sv,⟨n,a⟩,s,c⟩:=p
    obtain⟨p',af,⟨n',a'⟩,s',c'⟩:=p';simp only[BP.m,bkM,fb,eZ,dv,dw,fu,dV,iH,jg]at h F;obtain⟨rfl,rfl⟩:=Nw h.2.2.1;rw[BP.inj h.1 F.1 F.2.1 F.2.2.1,DY h.2.1,Fj Nd F.2.2.2,h.2.2.2.2]
  rintro⟨⟨B,c1,c2,c3⟩,s,⟨n,a⟩,L,cL⟩ ⟨J,hL,Y⟩;refine⟨(⟨B,c1,c2,c3⟩,s.name),rfl,J.1,?_⟩;rintro _ _ ⟨L1,ah,rfl,rfl,_,_⟩;refine cW (λh=>?_) (λh=>?_)
  · exact⟨.inl rfl,_,rfl,Bd,rfl⟩
  refine cW (λh=>?_) (λh=>?_)
  · exact⟨.inl rfl,_,rfl,Bd,rfl⟩
  refine λ_ _=>cW (λ_=>?_) (λ_=>?_)
  · exact⟨.inl rfl,_,rfl,Bd,rfl⟩
  refine⟨(⟨B,c1,c2,c3⟩,L,cL),rfl,⟨J,hL,Y⟩,?_⟩;rintro _ _ ⟨L2,Z,rfl,rfl,M⟩;refine⟨(⟨B,c1,c2,c3⟩,s,L2,Z),rfl,⟨J.1,M⟩,?_⟩;rintro _ _ ⟨l,cp,rfl,rfl,ak,al,W⟩;exact⟨.inl rfl,_,rfl,C9 (l:=l) (by omega) W rfl (.same _ _ rfl),rfl⟩
end
section
variable {RD:(Nat->Prop)->World->Nat->Nat->Prop}
abbrev ctAct:Ct:=ctV (λp:Int × BP × Svc=>[.int .i64 p.1,p.2.1.v,Ei p.2.2]) (λp=>p.2.1.m) (λp=>p.2.1.ok/\0<=p.2.2.av/\∃s∈p.2.1.B.af,nmB s.name p.2.2.name=true) λp=>GZ p.2.1.B p.2.2.name
theorem act_ct(M:B9 RD):B7 Tryz.prog RD 75 0 ctAct:=by
 refine Ci (AZ (AZ (AZ (AZ (AZ (AZ (AZ (Aw M) (f:=137) (by kernel_rfl) (KN M)) (f:=136) (by kernel_rfl) (Q0 M)) (f:=135) (by kernel_rfl) (ends_ct M)) (f:=103) (by kernel_rfl) (PG M)) (f:=138) (by kernel_rfl) (QW M)) (f:=139) (by kernel_rfl) (Pv M)) (f:=140) (by kernel_rfl) (Ru M)) Tryz.func75 (by kernel_rfl) (by kernel_rfl) (λ_=>rfl) (λp p' h Y=>?_) ?_
 ·obtain⟨k,p,s⟩:=p
  obtain⟨k',p',s'⟩:=p';simp only[BP.m,bkM,dv,dw,fu,dV,fF]at h Y;rw[h.1,BP.inj h.2.1 Y.1 Y.2.1 Y.2.2,DY h.2.2]
 rintro⟨k,⟨B,c1,c2,c3⟩,s⟩ ⟨J,Z,hs⟩;have Z:0<=s.av:=Z;have hl:B.ah.length<=1000:=J.1.2.1;refine cW (λh3=>?_) (λh3=>?_)
 ·refine⟨(⟨B,c1,c2,c3⟩,s,k),rfl,J.1,?_⟩
  rintro _ _ ⟨L,W,rfl,rfl,hL⟩;have aa:L.length<=B.ah.length:=hL.1;refine⟨(⟨B,c1,c2,c3⟩,L,W),rfl,⟨J.1,hL⟩,?_⟩;rintro _ _ ⟨l,cp,rfl,rfl,F,H⟩;have F:l.length<=L.length:=F;exact⟨.inl rfl,_,rfl,C9 (l:=l) (by omega) H rfl (.same _ _ rfl),rfl⟩
 refine cW (λhg=>?_) (λhg=>?_)
 ·refine cW (λh5=>?_) (λh5=>?_)
  ·refine⟨(⟨B,c1,c2,c3⟩,s.name),rfl,J.1,?_⟩
   rintro _ _ ⟨L,W,rfl,rfl,hL⟩;have aa:L.length<=B.ah.length:=hL.1;refine⟨(⟨B,c1,c2,c3⟩,L,W),rfl,⟨J.1,hL⟩,?_⟩;rintro _ _ ⟨l,cp,rfl,rfl,F,H⟩;have F:l.length<=L.length:=F;refine⟨(⟨B,c1,c2,c3⟩,s.name),rfl,J.1,?_⟩;rintro _ _ ⟨rfl,a,b,c,d,e,rfl⟩;refine λ_ _=>cW (λ_=>?_) (λ_=>?_)<;>exact⟨.inl rfl,_,rfl,C9 (l:=l) (by omega) H rfl (.same _ _ rfl),rfl⟩
  ·exact⟨.inl rfl,_,rfl,Bd,rfl⟩
 refine cW (λh1=>?_) (λh1=>?_)
 ·refine⟨(⟨B,c1,c2,c3⟩,s,s.name,s.ag),rfl,⟨J.1,Z,hs⟩,?_⟩
  rintro _ _ ⟨a,b,c,d,x,E,y,rfl,(⟨rfl,rfl⟩|⟨l,cp,rfl,rfl,F,H⟩)⟩
  ·exact⟨.inl rfl,_,rfl,Bd,rfl⟩
  ·exact⟨.inl rfl,_,rfl,C9 (l:=l) F H rfl (.same _ _ rfl),rfl⟩
 refine cW (λh2=>?_) (λh2=>?_)
 ·refine⟨(⟨B,c1,c2,c3⟩,s,k),rfl,J.1,?_⟩
  rintro _ _ ⟨L,W,rfl,rfl,hL⟩;refine⟨(⟨B,c1,c2,c3⟩,s,(s.name,s.ag),L,W),rfl,⟨J,hL⟩,?_⟩;rintro _ _ ⟨a,b,c,d,x,E,y,rfl,(⟨rfl,rfl⟩|⟨l,cp,rfl,rfl,F,H⟩)⟩
  ·exact⟨.inl rfl,_,rfl,Bd,rfl⟩
  ·exact⟨.inl rfl,_,rfl,C9 (l:=l) F H rfl (.same _ _ rfl),rfl⟩
 refine cW (λh6=>?_) (λh6=>?_)
 ·refine⟨(⟨B,c1,c2,c3⟩,s,2),rfl,J.1,?_⟩
  rintro _ _ ⟨L2,am,rfl,rfl,_⟩;refine cW (λh=>?_) (λh=>?_)
  ·refine⟨(⟨B,c1,c2,c3⟩,s,k),rfl,J.1,?_⟩
   rintro _ _ ⟨L,W,rfl,rfl,hL⟩;refine⟨(⟨B,c1,c2,c3⟩,s,(s.name,s.ag),L,W),rfl,⟨J,hL⟩,?_⟩;rintro _ _ ⟨a,b,c,d,x,E,y,rfl,(⟨rfl,rfl⟩|⟨l,cp,rfl,rfl,F,H⟩)⟩
   ·exact⟨.inl rfl,_,rfl,Bd,rfl⟩
   ·exact⟨.inl rfl,_,rfl,C9 (l:=l) F H rfl (.same _ _ rfl),rfl⟩
  ·exact⟨.inl rfl,_,rfl,Bd,rfl⟩
 refine cW (λh4=>?_) (λh4=>?_)
 ·refine cW (λh=>?_) (λh=>?_)
  ·refine⟨(s,s.name,s.ag),rfl,Int.ne_of_gt h,?_⟩
   rintro _ _ ⟨a,b,c,d,x,E,y,rfl,(⟨rfl,rfl⟩|⟨l,cp,rfl,rfl,F,H⟩)⟩
   ·exact⟨.inl rfl,_,rfl,Bd,rfl⟩
   ·exact⟨.inl rfl,_,rfl,C9 (l:=l) F (λe he=>by obtain⟨c,hc,_⟩:=H e he;cases hc) rfl (.same _ _ rfl),rfl⟩
  ·exact⟨.inl rfl,_,rfl,Bd,rfl⟩
 ·exact⟨.inl rfl,_,rfl,Bd,rfl⟩
end
end
end Go.Proofs.YtbceafpodamnfaaGreatDoor
