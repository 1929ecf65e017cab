import Derived.Test.YtbceafpodamnfaaGreatDoorG41
import Derived.Test.YtbceafpodamnfaaGreatDoorG45
set_option linter.all false
set_option maxHeartbeats 8000000
set_option maxRecDepth 100000
namespace Go.Proofs.YtbceafpodamnfaaGreatDoor
section
open Go.RowKit Go.Sort
open Go.Value renaming int->In,slice->Sl,string->Sg,bool->Bo,pointer->Po
open Go.IntKind renaming i64->i6
theorem UW{a:Act}{i:Nat}{v:Value}(h:a.tmps[i]?=some v):a.eval (.tmp i)=v:=by
 show a.tmps.getD i undef=v;simp[h]
theorem of_eval{a:Act}{i n:Nat}{v:Value}(h:a.eval (.tmp i)=v)(F:a.tmps.size=n)(z:i<n):a.tmps[i]?=some v:=by
 have h:a.tmps.getD i undef=v:=h;have z:i<a.tmps.size:=qo
 rw[fO,gR z]at h;rw[gR z];exact ei some h
section
variable {RD:(Nat->Prop)->World->Nat->Nat->Prop}
abbrev ctAsk:Ct:=ctV (λp:Int × BP=>[In i6 p.1,p.2.v]) (λp=>p.2.m) (λp=>okBk p.2.B) λ_ v es=>∃(R:List Co) (cp:Nat),v=.iface 0 (Sl none R.length cp)/\es=[(0,At 45 8 cp Bj R)]
theorem P3(r:Co):(Bj r).length=8/\∀v∈Bj r,v.oneCell'=true/\∀β,r0 β v=v:=⟨rfl,by simp[Bj,Value.oneCell',r0]⟩
theorem ask_ct(hR:CR RD):CH Tryz.prog RD 27 0 ctAsk:=by
 intro w0 G w q id vs es k0 hz M ag aa _ _ hC;obtain⟨⟨kind,B,c1,c2,c3⟩,J,F,_⟩:=hC;have F:okBk B:=F;obtain⟨H,z,Y,_,_,W⟩:=NM (q':=0) (r:=false) (X:=λ_=>False) hR (λ_ h=>h.elim) (λh=>nomatch h) hz aa J (nt:=100) rfl;have hB:BkAt w (H.α 0) (H.α 1) (H.α 2) B:=IY (λk hk=>(Y k hk).1) (W 0 _ rfl).2.1 (W 1 _ rfl).2.1 (W 2 _ rfl).2.1 .row .row .row;have ha:(vs.map (r2 G.α)).toArray=#[In i6 kind,.agg #[In i6 B.av,.slice (H.α 0) B.ah.length c1,.slice (H.α 1) B.ar.length c2,.slice (H.α 2) B.aw.length c3]]:=by rw[<-z];simp[BP.v,r2,r1,r0]
 rw[ha];refine(MJ kind B _ _ _ c1 c2 c3 w F hB).mono ?_;rintro e w' ⟨g,cap,R,rfl,_,hg,O,_,hb⟩;rw[show(Value.slice (qad g) R.length cap)=r2 (λ_=>some ⟨g,0,none⟩) (.iface 0 (Sl none R.length cap)) from by simp[r2,r1,r0]];refine ND (C:=ctAsk vs es id) (v:=.iface 0 (Sl none R.length cap)) (es':=[(0,At 45 8 cap Bj R)]) (β:=λ_=>some ⟨g,0,none⟩) (cost:=0) (X:=λ_=>False) (λ_ h=>h.elim) (λg hg hd=>hR _ _ _ _ _ _ _ hd (λ_ h=>h) (hb.block g (M g hg)) (λk hk=>hb.block k (hz k hk).1) AG) hz M ag ⟨hb.os,hb.tape,hb.output,hb.size,λk hk _=>hb.block k hk⟩ rfl (λx b hx=>?_) (λx b y c hx hy af=>?_) (f:=(id+ ·)) (λx hx=>?_) λk hk=>?_
 ·cases dl.1 hx
  exact⟨g,_,rfl,hg,RowK.of P3 ((show DQ R=(R.map Bj).flatten from fL)▸O)⟩
 ·cases dl.1 hx
  cases dl.1 hy;exact absurd rfl af
 ·have hx:x∈[0]:=hx
  cases dl.1 hx;exact .inl ⟨_,rfl,rfl⟩
 ·obtain⟨⟨aj,B',al,am,an⟩,Z,_,hk⟩:=hk
  exact hk _ _ ⟨R,cap,rfl,rfl⟩
end
def RDb(r:Nat)(Z:Nat->Prop)(w:World)(g q:Nat):Prop:=g=r/\∃(ao:qO) (n cap:Nat) (p:Int),qBl w r #[Sl ao n cap,In i6 p] 139/\Rd r w (q:Int)/\∀b off,0<n->ao=some ⟨b,off,none⟩->Z b
theorem rd_cells{r:Nat}{w:World}{q:Int}(h:Rd r w q){ao:qO}{n cap:Nat}{p:Int}(Y:qBl w r #[Sl ao n cap,In i6 p] 139):0<=p/\p<=q/\n<=2000/\ByAt r w ao n:=by
 obtain⟨H,Z,z,p',F,J,M,O,W⟩:=h;rw[Y]at F;cases F;exact⟨J,M,O,W⟩
theorem Sd(r:Nat):CR (RDb r):=by
 rintro Z Z' w w' g q q' ⟨rfl,ao,n,cap,p,J,hR,W⟩ hZ O hb hq;obtain⟨Y,h3,h4,h5⟩:=rd_cells hR J;refine⟨rfl,ao,n,cap,p,O.trans J,⟨ao,n,cap,p,O.trans J,Y,qo,h4,λH=>?_⟩,λb z H e=>hZ b (W b z H e)⟩;obtain⟨b,z,e,M,hr,hc⟩:=h5 H;have F:=hb b (W b z H e);refine⟨b,z,e,?_,hr,λi hi=>?_⟩
 ·rw[gR M]at F
  exact(AB F).1
 ·rw[eQ (w:=w) F];exact hc i hi
theorem pickb_ct(r:Nat):CH Tryz.prog (RDb r) 38 1 Pl:=by
 rintro w0 G w q id vs es k0 hz Y au W _ hq ⟨i,n,rfl,hi,O,_⟩;obtain⟨g,e1,e2,e3⟩:=(W i rdB (Aw _ _ _ hi)).k4 rfl;obtain⟨rfl,ao,m,cap,p,hc,hR,hZ⟩:=e3
 have ha:(List.map (r2 G.α) [.complex .f64 i 0,In i6 n]).toArray=#[.pointer (qad g),In i6 n]:=by
  simp[r2,r1,r0,e1,Addr.add]
 rw[ha];refine(Qs g n q w O.1 O.2 hR (by have:=hq.resolve_left qd;unfold QM at this;omega)).mono ?_;rintro e w' ⟨x,rfl,hx,⟨H,hr⟩,hs⟩;have J:∀k,k<w.heap.size->k≠g->w'.heap[k]?=w.heap[k]?:=H.block;refine⟨In i6 x,[],G,λk hk=>?_,rfl,⟨⟨H.os,H.tape,H.output,H.size,λk hk O=>J k hk λe=>O (e▸e2)⟩,λ_ _=>rfl,λ_ h=>h,λ_ h=>.inl h,λk hk=>⟨AF (hz k hk).1 H.size,(hz k hk).2⟩,λ_ h=>h,λ_ h=>.inl h,λk hk=>AF (Y k hk) H.size,λg' _ ⟨e,F,m',z,p',M,h,Z⟩=>⟨e,F,m',z,(hs F m' z p' M).choose,(hs F m' z p' M).choose_spec,hr _ h,Z⟩⟩,⟨λ_ _ h=>(nomatch h),λ_ _ h=>(nomatch h),λ_ _ _ _ h=>(nomatch h)⟩,λ_ h=>(nomatch h),λ_ _ h=>(nomatch h)⟩;obtain⟨i',n',hv,_,_,hk⟩:=hk;simp only[dD,fB,fH,eo]at hv;exact hk x (by rw[<-hv.2];exact hx)
abbrev Γa:List (Nat × Nat × Ct):=[(27,0,ctAsk),(38,1,Pl)]
def TTa:List TE:=⟨39,3,45,1,[],[Sl none 0 0]⟩::TT
theorem TTa_ok:∀e∈TTa,TEok Tryz.prog e:=λe z=>by
 rcases dJ.1 z with rfl|z
 ·exact⟨qk,qk,Ol qd⟩
 ·exact Ur e z
theorem env_a(r:Nat):Env Tryz.prog (RDb r) TTa Γa:=⟨Sd r,TTa_ok,(Aa (Aa (BB (Sd r)) qk (pickb_ct r)) qk (ask_ct (Sd r))).ct⟩
def bkV1(B:Bk)(c1 c2 c3:Nat):List Value:=[In i6 B.av,.iface 1 (Sl none B.ah.length c1),.iface 2 (Sl none B.ar.length c2),.iface 3 (Sl none B.aw.length c3)]
def bkZ:List Value:=[In i6 0,Sl none 0 0,Sl none 0 0,Sl none 0 0]
def mK(B:Bk)(c1 c2 c3:Nat)(z:qL):AW:=(64,AX (bkV1 B c1 c2 c3) 28)::(65,AX z 28)::BP.m1 ⟨B,c1,c2,c3⟩
def daQ(B:Bk)(c1 c2 c3:Nat)(e:Exit)(s:St):Prop:=e=.ret/\lk s.t 3=some (.complex .f64 65 0)/\(∃k:Int,lk s.t 2=some (In i6 k))/\lk s.m 65=some (AX (bkV1 B c1 c2 c3) 28)/\lk s.m 1=some (BY 34 13 svL B.ah)/\lk s.m 2=some (BY 76 7 cpL B.ar)/\lk s.m 3=some (BY 90 2 btL B.aw)
theorem da_vc{B:Bk}{c1 c2 c3 q:Nat}(H:okBk B)(hq:q+20<=QM):vwr TTa Γa [] (QZ 3 (Tryz.f25.body.getD .skip)) (daQ B c1 c2 c3) ⟨[(3,.complex .f64 65 0),(4,.complex .f64 0 0),(5,.complex .f64 64 0)],mK B c1 c2 c3 bkZ,80,q⟩:=by
 refine dg (show q+1<=QM by omega) ?_;refine⟨0,6,rfl,rfl,⟨qd,qd⟩,λk hk=>?_⟩;have O:0<=k:=hk.1;have W:k<6:=hk.2.1 qd;refine⟨λn s=>∃(i q':Nat),(i<=6/\q'<=q+1+i)/\n=6 - i/\s=⟨[(7,In i6 i),(6,In i6 k),(3,.complex .f64 65 0),(4,.complex .f64 0 0),(5,.complex .f64 64 0)],mK B c1 c2 c3 bkZ,200,q'⟩,6,⟨_,qe,0,q+1,⟨qo,qo⟩,rfl,rfl⟩,?_⟩;rintro n _ ⟨i,q',⟨hi,Y⟩,rfl,rfl⟩;refine dg (show q'+1<=QM by omega) ?_;refine dg (λz=>?_) (λz=>?_)
 ·have z:(i:Int)<6:=z
  refine⟨0,8,rfl,rfl,⟨qd,qd⟩,λx hx=>?_⟩;refine dg (λF=>?_) (λF=>?_)
  ·refine λn1 Z=>dg qd (λn2 h2 n3 h3=>?_)
   refine⟨(n3,⟨B,c1,c2,c3⟩),rfl,H,?_⟩;rintro _ _ ⟨R,cp,rfl,rfl⟩;refine dg (λM=>?_) (λM=>?_)
   ·refine λn4 h4=>dg qd (λn5 h5 n6 h6=>?_)
    exact⟨rfl,rfl,⟨_,rfl⟩,rfl,rfl,rfl,rfl⟩
   ·refine λy J=>?_
    have J:y=((i+1:Nat):Int):=by have:=J ⟨qo,qo⟩;omega
    subst J;refine⟨6 - (i+1),qo,_,?_,i+1,q'+1,⟨qo,qo⟩,rfl,rfl⟩;refine⟨[],?_,?_,rfl,rfl,AG⟩<;>repeat' (first|exact rfl|exact trivial|exact⟨_,rfl,.same _ _ rfl⟩|apply dg)
  ·refine dg (show q'+1+1<=QM by omega) ?_
   refine⟨0,8,rfl,rfl,⟨qd,qd⟩,λx hx=>?_⟩;exact⟨rfl,rfl,⟨_,rfl⟩,rfl,rfl,rfl,rfl⟩
 ·refine dg (show q'+1+1<=QM by omega) ?_
  refine⟨0,8,rfl,rfl,⟨qd,qd⟩,λx hx=>?_⟩;exact⟨rfl,rfl,⟨_,rfl⟩,rfl,rfl,rfl,rfl⟩
structure EAa(r f x:Nat)(a:Act):Prop where
 e3:a.eval (.tmp 3)=.pointer (qad f)
 e4:a.eval (.tmp 4)=.pointer (qad r)
 e5:a.eval (.tmp 5)=.pointer (qad x)
 sz:a.tmps.size=41
 df:a.defers=[]
def ghA(r f x:Nat)(w:World)(a1 a2 a3:qO):Gh:=⟨λi=>match i with|0=>some ⟨r,0,none⟩|1=>a1|2=>a2|3=>a3|64=>some ⟨x,0,none⟩|65=>some ⟨f,0,none⟩|_=>none,λk=>k<w.heap.size/\k≠r/\k≠f/\k≠x,λk=>k=r⟩
theorem da_run{r q x:Nat}{B:Bk}{a1 a2 a3:qO}{c1 c2 c3:Nat}{a:Act}{w w2 M:World}(ay:okBk B)(hB:BkAt M a1 a2 a3 B)(Y:BkAt w2 a1 a2 a3 B)(a5:w2.heap.size<=x)(af:∀b o,(a1=some ⟨b,o,none⟩\/a2=some ⟨b,o,none⟩\/a3=some ⟨b,o,none⟩)->r<b)(hq:q+20<=QM)(ea:EAa r w.heap.size x a)(hR:Rd r M (q:Int))(aN:w.heap.size<r)(a4:r<x)(hb:Below w.heap.size w M)(vx:qBl M x (qbV B a1 c1 a2 c2 a3 c3) 28)(vf:qBl M (w.heap.size) qzV 28):
  (QZ 3 (Tryz.f25.body.getD .skip)).wp Tryz.prog (λe a' w'=>e=.ret/\∃(k:Int) (g:Nat),a'.eval (.tmp 2)=In i6 k/\a'.eval (.tmp 3)=.pointer (qad g)/\a'.defers=[]/\qBl w' g (qbV B a1 c1 a2 c2 a3 c3) 28/\BkAt w' a1 a2 a3 B/\Below w.heap.size w w') a M:=by
 have hz:=hb.size;have aS:=hR.lt;have a6:=(AB vx).1;have ht:∀i v,a.eval (.tmp i)=v->i<41->a.tmps[i]?=some v:=λi v h hi=>of_eval h ea.sz hi
 have h3:=Gv (RD:=Jr) (q:=0) hB;refine jf (EA (R0:=⟨λk=>k=r,(ghA r w.heap.size x M a1 a2 a3).α,0⟩) (w0:=w) (nt:=41) (env_a r) (QZ 3 (Tryz.f25.body.getD .skip)) _ _ (ghA r w.heap.size x M a1 a2 a3) a M (Cb (env_a r) qk _ (.nil _) qk) (by rw[<-Hd];exact da_vc (c1:=c1) (c2:=c2) (c3:=c3) (q:=q) ay hq) ?_) ?_
 ·refine⟨ea.df,ea.sz,λi v hi=>?_,λi b hi=>?_,λi b j c hi hj oi oj F=>?_,λk hk=>⟨hk.1,hk.2.1⟩,⟨hb.os,hb.tape,hb.output,hb.size,λk hk hn=>hb.block k hk⟩,λk hk=>.inl hk,λk hk=>by have hk:k=r:=hk;omega,(show 64<=80 by decide),λ_ _=>rfl,AI _⟩
  ·have W:=Aw _ _ _ hi
   simp only[dJ,dW,fF,dR]at W;rcases W with⟨rfl,rfl⟩|⟨rfl,rfl⟩|⟨rfl,rfl⟩
   ·exact⟨ht _ _ ea.e3 qd,Cg rfl⟩
   ·exact⟨ht _ _ ea.e4 qd,Cg rfl⟩
   ·exact⟨ht _ _ ea.e5 qd,Cg rfl⟩
  ·have W:=Aw _ _ _ hi
   simp only[mK,BP.m1,dJ,dW,fF,dR]at W;rcases W with⟨rfl,rfl⟩|⟨rfl,rfl⟩|⟨rfl,rfl⟩|⟨rfl,rfl⟩|⟨rfl,rfl⟩|⟨rfl,rfl⟩
   ·exact⟨show 64<80 by decide,⟨λ_=>⟨x,rfl,qo,λh=>h.2.2.2 rfl,λh=>by have h:x=r:=h;omega,vx⟩,λh=>(nomatch h),λh=>(nomatch h),λh=>(nomatch h),λh=>(nomatch h),.inl rfl⟩,Cg rfl⟩
   ·exact⟨show 65<80 by decide,⟨λ_=>⟨w.heap.size,rfl,AG,λh=>h.2.2.1 rfl,λh=>by have h:w.heap.size=r:=h;omega,vf⟩,λh=>(nomatch h),λh=>(nomatch h),λh=>(nomatch h),λh=>(nomatch h),.inl rfl⟩,Cg rfl⟩
   ·refine⟨show 0<80 by decide,⟨λh=>(nomatch h),λh=>(nomatch h),λh=>(nomatch h),λh=>(nomatch h),λ_=>⟨r,rfl,rfl,rfl,?_⟩,.inr (.inr (.inr (.inr (.inl rfl))))⟩,Cg rfl⟩
    have ax:=hR;obtain⟨ao,n,cap,p,h1,_,_,_,h5⟩:=ax;refine⟨ao,n,cap,p,h1,hR,λb z hn e=>?_⟩;obtain⟨b',J,O,hl,aM,Z⟩:=h5 hn;rw[e]at O;cases O;refine⟨hl,qo,λe=>?_,qo⟩;obtain⟨y,hy,_⟩:=Z 0 hn;rw[e]at hy;simp only[World.cell?,vf]at hy;rcases z with _|_|_|_|z<;>simp at hy
   ·refine⟨show 1<80 by decide,FU (ao:=a1) rfl (λ_=>rfl) λF=>?_,Cg rfl⟩
    obtain⟨b,z,e,hl,Z⟩:=((h3 0 _ rfl).2.1).bM (f:=svL) (l:=B.ah) (λk hk=>hk) .row F;have:=af b z (.inl e);obtain⟨b',J,O,ak,_⟩:=Y.1 F;cases e.symm.trans O;exact⟨b,z,e,⟨hl,qo,qo,qo⟩,Z⟩
   ·refine⟨show 2<80 by decide,FU (ao:=a2) rfl (λ_=>rfl) λF=>?_,Cg rfl⟩
    obtain⟨b,z,e,hl,Z⟩:=((h3 1 _ rfl).2.1).bM (f:=cpL) (l:=B.ar) (λk hk=>hk) .row F;have:=af b z (.inr (.inl e));obtain⟨b',J,O,ak,_⟩:=Y.2.1 F;cases e.symm.trans O;exact⟨b,z,e,⟨hl,qo,qo,qo⟩,Z⟩
   ·refine⟨show 3<80 by decide,FU (ao:=a3) rfl (λ_=>rfl) λF=>?_,Cg rfl⟩
    obtain⟨b,z,e,hl,Z⟩:=((h3 2 _ rfl).2.1).bM (f:=btL) (l:=B.aw) (λk hk=>hk) .row F;have:=af b z (.inr (.inr e));obtain⟨b',J,O,ak,_⟩:=Y.2.2 F;cases e.symm.trans O;exact⟨b,z,e,⟨hl,qo,qo,qo⟩,Z⟩
  ·have W:=Aw _ _ _ hi
   have hn:=Aw _ _ _ hj;simp only[mK,BP.m1,dJ,dW,fF,dR]at W hn;rcases W with⟨rfl,rfl⟩|⟨rfl,rfl⟩|⟨rfl,rfl⟩|⟨rfl,rfl⟩|⟨rfl,rfl⟩|⟨rfl,rfl⟩<;>rcases hn with⟨rfl,rfl⟩|⟨rfl,rfl⟩|⟨rfl,rfl⟩|⟨rfl,rfl⟩|⟨rfl,rfl⟩|⟨rfl,rfl⟩<;>first|exact absurd rfl F|(rcases oi with h|h<;>cases h;done)|(rcases oj with h|h<;>cases h;done)|(intro e;simp[ghA]at e;try omega)
 ·rintro e a' w' ⟨s,G,⟨rfl,aq,⟨k,h2⟩,au,m1,m2,m3⟩,H⟩
  obtain⟨g,eg,lg,_,_,vg⟩:=(H.mem _ _ au).2.1.k0 rfl;have b1:G.α 1=a1:=H.al 1 qd;have b2:G.α 2=a2:=H.al 2 qd;have b3:G.α 3=a3:=H.al 3 qd;have aj:=IY (λk hk=>(H.z3 k hk).1) (H.mem _ _ m1).2.1 (H.mem _ _ m2).2.1 (H.mem _ _ m3).2.1 .row .row .row;rw[b1,b2,b3]at aj;refine⟨rfl,k,g,UW (H.tmp _ _ h2).1,?_,H.ci,?_,aj,H.fr.os,H.fr.tape,H.fr.output,H.fr.size,λk hk=>H.fr.block k hk (λe=>by have e:k=r:=e;omega)⟩
  ·rw[UW (H.tmp _ _ aq).1]
   show Value.pointer ((G.α 65).map _)=_;rw[eg];rfl
  ·rw[qBl,vg]
   simp[AX,bkV1,r0,b1,b2,b3]
end
section
open Go.RowKit Go.Sort
structure View(B X:Bk)(s:Svc):Prop where
 sv:A5 X s.name=some s
 ar:ofS s.name X.ar=ofS s.name B.ar
theorem cnt_of(img:Int)(nm:qB)(l:List Cp):Ar img nm l l.length=FO img (ofS nm l):=by
 unfold FO Ar;rw[KH,eC]
theorem View.cnt{B X:Bk}{s:Svc}(h:View B X s):Ar s.aj s.name X.ar X.ar.length=Ar s.aj s.name B.ar B.ar.length:=by rw[cnt_of,cnt_of,h.ar]
theorem View.aE{B X:Bk}{s:Svc}(h:View B X s):Aq X s.name=Aq B s.name:=by rw[<-Sr,<-Sr,h.ar]
theorem View.may{B X:Bk}{s:Svc}(h:View B X s)(c:Cp):FA X s s.name c=FA B s s.name c:=by unfold FA;rw[h.cnt]
theorem Mx{B:Bk}{nm:qB}{c:Cp}(h:c∈Aq B nm):c∈B.ar/\c.aa=nm/\c.am=false:=by
 obtain⟨F,z⟩:=eR.1 h;unfold Do at z;obtain⟨z,H⟩:=gJ.1 z;exact⟨F,same_nm.1 z,by simpa using H⟩
theorem ofS_set{l:List Cp}{i:Nat}{c d:Cp}{nm:qB}(h:l[i]?=some c)(F:c.aa≠nm)(H:d.aa≠nm):ofS nm (l.set i d)=ofS nm l:=by
 obtain⟨P,R,z,_,_,e4⟩:=MI h;rw[e4 d];subst z;unfold ofS;rw[ez,ez,List.filter_cons_of_neg (by rw[Q1 H];decide),List.filter_cons_of_neg (by rw[Q1 F];decide)]
theorem So{sv nm:qB}(z:sv≠nm)(v:Int)(l:List Cp)(num:Int):ofS nm (Cw sv v l num)=ofS nm l:=by
 unfold Cw;split
 ·rename_i i M
  split
  ·rename_i c H
   obtain⟨O,F,_⟩:=fp.1 M;rw[(AC H).2]at F;have J:=(isC_iff.1 F).1;exact ofS_set H (by rw[J];exact z) (by show c.aa≠nm;rw[J];exact z)
  ·rfl
 ·rfl
theorem OT{B:Bk}{s:Svc}{sv nm:qB}(z:sv≠nm){v:Int}:∀(es:List En) (l L:List Cp),BO B s sv v es l=some L->ofS nm L=ofS nm l
 |[],l,L,h=>by cases h;rfl
 |e::es,l,L,h=>by
  unfold BO at h;split at h
  ·split at h
   ·rw[OT z es _ L h,So z]
   ·cases h
  ·cases h
theorem RE{sv:qB}{v:Int}{l:List Cp}{n m:Int}(F:n≠m):(Cw sv v l n).find? (isC sv m)=l.find? (isC sv m):=by
 unfold Cw;split
 ·rename_i i O
  split
  ·rename_i c J
   obtain⟨Z,H,_⟩:=fp.1 O;rw[(AC J).2]at H;have Y:=(isC_iff.1 H).2;obtain⟨P,R,M,_,_,e4⟩:=MI J;rw[e4];subst M
   have z:isC sv m c=false:=by
    cases W:isC sv m c
    ·rfl
    ·exact absurd (Y.symm.trans (isC_iff.1 W).2) F
   rw[gr,gr,gP (by rw[show isC sv m (CU v c)=isC sv m c from rfl,z];decide),gP (by rw[z];decide)]
  ·rfl
 ·rfl
theorem Mt{B:Bk}{s:Svc}{sv:qB}{v:Int}:∀(es:List En) (l:List Cp),es.Pairwise (λa b=>a.ak≠b.ak)->(∀e∈es,∃c,l.find? (isC sv e.ak)=some c/\c.am=false/\(c.ay≠3\/s.aH=true))->∃L,BO B s sv v es l=some L
 |[],l,_,_=>⟨l,rfl⟩
 |e::es,l,Z,h=>by
  obtain⟨H,J⟩:=iE.1 Z;obtain⟨c,W,O,z⟩:=h e (dP ..)
  obtain⟨L,hL⟩:=Mt (B:=B) (s:=s) (sv:=sv) (v:=v) es (Cw sv v l e.ak) J λM F=>by
   rw[RE (H M F)];exact h M (dQ _ F)
  refine⟨L,?_⟩;unfold BO;rw[W]
  have Y:FA {B with ar:=l} s sv c=true:=by
   unfold FA;rw[O];rcases z with z|z
   ·rw[show(c.ay !=3)=true by simpa using z];rfl
   ·rw[z];simp
  simp only[Y,gu];exact hL
theorem Si{B X:Bk}{A:Ac}{s:Svc}(H:Valid X)(h:View B X s)(z:A.aa≠s.name):View B (Ah X A) s:=by
 unfold Ah
 by_cases F:BM X A=0
 ·rw[dv F]
  obtain⟨t,L,P,R,D⟩:=dn_of H F;refine⟨by rw[D.svO z.symm];exact h.sv,?_⟩;rw[D.bR H,<-h.ar,<-OT z _ _ _ D.mks];have e:=ei (ofS s.name) (fM (Ba L A.aa) L);unfold ofS at e ⊢;rw[ez]at e;rw[ez,ez]
  have J:((List.range A.ax.toNat).map (E9 X A t)).filter (λc=>c.aa.toList==s.name.toList)=[]:=il.2 λc F=>by
   obtain⟨j,_,rfl⟩:=fa.1 F;rw[show(E9 X A t j).aa=A.aa from rfl,Q1 z]
   decide
  rw[J,fU];exact e
 ·rw[dk F]
  exact h
theorem Nx{X:Bk}(A:Ac)(z:Valid X):Valid (Ah X A):=by
 unfold Ah
 by_cases F:BM X A=0
 ·rw[dv F]
  obtain⟨t,L,P,R,D⟩:=dn_of z F;exact D.valid z
 ·rw[dk F]
  exact z
structure Fit(B X:Bk)(s:Svc)(A:Ac):Prop where
 who:Who s A
 ok:Be A=true
 en:∀e∈A.aB,∃c∈Aq B s.name,e=CV c
 mks:∃L,BO X s s.name (X.av+1) A.aB X.ar=some L/\CO A (AR A s) (BG {X with ar:=L} s.name)=false
 dn:Bd A s (BG X s.name)=false
 sn:BA A s=false
theorem View.find{B X:Bk}{s:Svc}(M:Valid X)(h:View B X s){c:Cp}(z:c∈Aq B s.name):X.ar.find? (isC s.name c.ak)=some c/\c.am=false:=by
 rw[<-h.aE]at z;obtain⟨F,H,J⟩:=Mx z;have:=Oi M F;rw[H]at this;exact⟨this,J⟩
theorem Fit.code{B X:Bk}{s:Svc}{A:Ac}(M:Valid X)(h:View B X s)(F:Fit B X s A):BM X A=0\/BM X A=7:=by
 obtain⟨L,hL,J⟩:=F.mks;have W:A5 X A.aa=some s:=by rw[F.who.1];exact h.sv
 have z:∀e∈A.aB,C5 X A e=true/\CM X A e=true:=λe H=>by
  obtain⟨c,O,rfl⟩:=F.en e H;have hf:=(h.find M O).1;unfold C5 CM;rw[F.who.1,show(CV c).ak=c.ak from rfl,hf];exact⟨rfl,gl _⟩
 rw[Kw F.ok W (dt.2 λe H=>(z e H).1) (by rw[F.who.2,gl,gY];exact dt.2 λe H=>(z e H).2) (by rw[F.who.1];exact hL),Kk F.sn (by rw[F.who.1];exact J) (by rw[F.who.1];exact F.dn)];split
 ·exact .inr rfl
 ·exact .inl rfl
theorem asc_map{l:List Cp}(h:l.Pairwise λa b=>a.ak<b.ak):IB (l.map CV)=true:=(IA _).2 λi x y hx z=>by
 rw[ej]at hx z
 cases F:l[i]? with
 |none=>rw[F]at hx;cases hx
 |some a=>
  cases hb:l[i+1]? with
  |none=>rw[hb]at z;cases z
  |some b=>
   rw[F]at hx;rw[hb]at z;cases hx;cases z;obtain⟨M,H⟩:=AC F;obtain⟨O,J⟩:=AC hb;have:=gB.1 h i (i+1) M O qo;rw[H,J]at this;exact this
theorem live_pw{B:Bk}(H:Valid B)(nm:qB):(Aq B nm).Pairwise λa b=>a.ak<b.ak:=by
 have h:=H.pwC.filter (Do nm);refine List.Pairwise.imp_of_mem (λ{a b} F hb z=>?_) h;obtain⟨_,F,_⟩:=Mx (B:=B) F;obtain⟨_,hb,_⟩:=Mx (B:=B) hb;unfold An at z;rw[F,hb,BE,gl]at z
 simpa using z
theorem Lu{X:Bk}{s:Svc}(h:A5 X s.name=some s):BG X s.name=Ar s.aj s.name X.ar X.ar.length:=by unfold BG;rw[h]
section
variable {B X:Bk} {s:Svc}
theorem RV(J:Valid B)(hX:Valid X)(hs:s∈B.ah)(h:View B X s)(p:Cp->Bool)(hp:∀c∈(Aq B s.name).filter p,c.ay≠3\/s.aH=true){d:Bool}(W:d=true->(Aq B s.name).filter p=[]/\s.aH=true/\(BG B s.name).aE+(BG B s.name).am=0):Fit B X s {a0 s with aB:=((Aq B s.name).filter p).map CV,drop:=d}:=by
 have F:=(live_pw J s.name).filter p;have O:((Aq B s.name).filter p).length<=200:=AH (AH (dV ..) (GU B s.name)) J.lc;refine⟨⟨rfl,rfl⟩,?_,λe M=>?_,?_,?_,rfl⟩
 ·unfold Be
  have hl:((((Aq B s.name).filter p).map CV).length<=200):=by rw[ef];exact O
  simp only[a0,asc_map F,dX hl];cases z:d
  ·rfl
  ·rw[(W z).1];rfl
 ·obtain⟨c,H,rfl⟩:=fa.1 M
  exact⟨c,(eR.1 H).1,rfl⟩
 ·obtain⟨L,hL⟩:=Mt (B:=X) (s:=s) (sv:=s.name) (v:=X.av+1) (((Aq B s.name).filter p).map CV) X.ar (gL.2 (F.imp λ{a b} h=>show a.ak≠b.ak by omega)) λe M=>by
   obtain⟨c,H,rfl⟩:=fa.1 M;obtain⟨Z,h2⟩:=h.find hX (eR.1 H).1;exact⟨c,Z,h2,hp c H⟩
  exact⟨L,hL,rfl⟩
 ·unfold Bd
  cases z:d
  ·rfl
  ·obtain⟨_,hg,Y⟩:=W z
   rw[hg,Lu h.sv,h.cnt];rw[Lu (FY J hs)]at Y;simp[Y]
theorem US(J:Valid B)(M:Valid X)(Y:s∈B.ah)(h:View B X s){c:Cp}(F:c∈Aq B s.name)(W:El B s.name c.ak=true):Fit B X s {a0 s with aB:=[CV c]}:=by
 obtain⟨H,Z⟩:=h.find M F;refine⟨⟨rfl,rfl⟩,rfl,λe O=>⟨c,F,dl.1 O⟩,⟨Cw s.name (X.av+1) X.ar c.ak,?_,rfl⟩,rfl,rfl⟩;have z:=(Mp J Y F);rw[z.2]at z;unfold BO;rw[show(CV c).ak=c.ak from rfl,H]
 have:FA {X with ar:=X.ar} s s.name c=true:=by
  show FA X s s.name c=true;rw[h.may,PV,<-z.1,W]
 simp only[this,gu];rfl
theorem RU(h:View B X s){n:Int}(F:s.aH=false)(H:0<n)(J:n<=10)(M:((Aq B s.name).length:Int)+n<=s.au+s.aG):Fit B X s {a0 s with ax:=n}:=by
 refine⟨⟨rfl,rfl⟩,?_,λ_ z=>(nomatch z),⟨X.ar,rfl,?_⟩,rfl,rfl⟩
 ·unfold Be
  simp only[a0,inB_iff.2 (show(0:Int)<=n/\n<=20 by omega)];rfl
 ·unfold CO
  rw[show AR {a0 s with ax:=n} s=s from rfl,F,show BG {X with ar:=X.ar} s.name=BG X s.name from rfl,Lu h.sv,h.cnt,Jv];simp only[iW,Bool.and_eq_false_iff,ii];exact .inr qo
theorem FW{w q:Int}(Y:s.aQ≠0)(z:s.az<=w)(F:w<=s.aI)(H:0<=w)(J:w<=10)(M:0<=q)(O:q<=3):Fit B X s {a0 s with aJ:=true,au:=w,aA:=q}:=by
 refine⟨⟨rfl,rfl⟩,?_,λ_ W=>(nomatch W),⟨X.ar,rfl,rfl⟩,rfl,?_⟩
 ·unfold Be
  simp only[a0,inB_iff.2 (⟨H,J⟩:(0:Int)<=w/\w<=10),inB_iff.2 (⟨M,O⟩:(0:Int)<=q/\q<=3)];rfl
 ·unfold BA
  rw[show inB w s.az s.aI=true from inB_iff.2 ⟨z,F⟩];simp[Y]
end
section
variable {B X:Bk} {s:Svc}
theorem Ml{p:Prop}(h:Cz (a0 s)=true):p:=by cases h
theorem LK(M:Valid B)(Z:Valid X)(Y:s∈B.ah)(h:View B X s)(hg:s.aH=false){l:List Cp}(hl:∀c∈l,c∈Aq B s.name)(hk:Cz (Bh B s l)=true):Fit B X s (Bh B s l):=by
 unfold Bh at hk ⊢
 by_cases H:l.length=0\/((Aq B s.name).length:Int)<s.au
 ·rw[dv H]at hk;exact Ml hk
 rw[dk H]at hk ⊢
 by_cases J:((Aq B s.name).length:Int)<s.au+s.aG
 ·rw[dv J]
  exact RU h hg qo qo qo
 rw[dk J]at hk ⊢
 cases W:l.filter (Hs B) with
 |nil=>rw[W]at hk;cases hk
 |cons c r=>
  have hb:r.foldl (Fl B s.aj) c∈l.filter (Hs B):=by rw[W];exact GY r c
  obtain⟨F,z⟩:=eR.1 hb;have O:=hl _ F;unfold Hs at z;rw[(Mp M Y O).2]at z;exact US M Z Y h O z
theorem fit_act(F:Valid B)(W:Valid X)(H:s∈B.ah)(h:View B X s){kind:Int}(hk:Cz (CK kind B s)=true):Fit B X s (CK kind B s):=by
 have hS:=F.bc H;have p1:=hS.ba;have p2:=hS.bd;have p3:=hS.bm;have p4:=hS.bn;unfold CK at hk ⊢
 by_cases h3:kind=3
 ·rw[dv h3]
  exact RV (d:=false) F W H h (whP B s 3) (λc z=>.inl (by
   have:=(eR.1 z).2;unfold whP at this;simp only[show ¬(3:Int)=2 by omega,show ¬(3:Int)=6 by omega,gW,gu,fN]at this
   omega)) (λh=>by cases h)
 rw[dk h3]at hk ⊢;cases J:s.aH
 ·rw[J]at hk
  rw[dk (show ¬false=true by decide)]at hk ⊢
  by_cases h1:kind=1
  ·rw[dv h1]at hk ⊢
   unfold Bp at hk ⊢
   by_cases Z:((Aq B s.name).length:Int)<s.au
   ·rw[dv Z]
    exact RU h J qo qo qo
   rw[dk Z]at hk ⊢
   by_cases z:(s.au<((Aq B s.name).length:Int)/\(Ix B s\/s.au+s.aG<((Aq B s.name).length:Int)))/\El B s.name (Jp (BK B s.aj (Aq B s.name)))=true
   ·rw[dv z]
    rw[dv z]at hk;obtain⟨_,hm⟩:=z
    cases Y:Aq B s.name with
    |nil=>rw[Y]at hk;cases hk
    |cons c r=>
     rw[Y]at hm;exact US F W H h (by rw[Y];exact GY r c) hm
   ·rw[dk z]at hk;exact Ml hk
  rw[dk h1]at hk ⊢
  by_cases h2:kind=2
  ·rw[dv h2]at hk ⊢
   exact LK F W H h J (λc z=>(eR.1 z).1) hk
  rw[dk h2]at hk ⊢
  by_cases h6:kind=6
  ·rw[dv h6]at hk ⊢
   by_cases ho:(C8 B s 2).length=0
   ·rw[dv ho]at hk ⊢
    exact LK F W H h J (λc z=>(eR.1 z).1) hk
   ·rw[dk ho]at hk;exact Ml hk
  rw[dk h6]at hk ⊢
  by_cases h4:kind=4
  ·rw[dv h4]at hk ⊢
   by_cases hp:0<s.aQ
   ·rw[dv hp]at hk ⊢
    obtain⟨_,M,ay⟩:=Mb F H (by omega:s.aQ≠0);have q1:=M.cR;have q2:=M.cT;have q3:=M.most0;have q4:=M.most1;have q5:=M.cw;have q6:=M.cx
    have hd:s.az<=B6 s/\B6 s<=s.aI:=by
     unfold B6 NL
     repeat' split
     all_goals omega
    generalize B6 s=d at *;unfold Bf at hk ⊢
    by_cases g1:s.au<s.az
    ·rw[dv g1];exact FW (q:=0) qo qo qo qo qo qo qo
    rw[dk g1]at hk ⊢
    by_cases g2:s.aI<s.au
    ·rw[dv g2];exact FW (q:=0) qo qo qo qo qo qo qo
    rw[dk g2]at hk ⊢
    by_cases g3:s.au<d
    ·rw[dv g3];exact FW (q:=0) qo qo qo qo qo qo qo
    rw[dk g3]at hk ⊢
    by_cases g4:d<s.au
    ·rw[dv g4]
     by_cases O:3<=s.aA
     ·rw[dv O];exact FW (q:=0) qo qo qo qo qo qo qo
     ·rw[dk O];exact FW qo qo qo qo qo qo qo
    rw[dk g4]at hk ⊢
    by_cases O:s.aA=0
    ·rw[dv O]at hk;exact Ml hk
    ·rw[dk O];exact FW (q:=0) qo qo qo qo qo qo qo
   ·rw[dk hp]at hk;exact Ml hk
  ·rw[dk h4]at hk;exact Ml hk
 ·rw[J]at hk
  rw[dv rfl]at hk ⊢
  by_cases h5:kind=5
  ·rw[dv h5]
   have e:Aq B s.name=(Aq B s.name).filter λ_=>true:=(i9.2 λ_ _=>rfl).symm
   rw[e];refine RV F W H h (λ_=>true) (λ_ _=>.inr J) λhd=>?_
   have hd:(BG B s.name).aE+(BG B s.name).am=0:=by simpa using hd
   refine⟨?_,J,hd⟩;rw[<-e];have aa:=GX B s.name;have Y:=Jv B s;rw[<-Lu (FY F H)]at Y;exact eF.1 (by have:=aa.1;have:=aa.2.2.2.2.2.2.2.2.1;omega)
  ·rw[dk h5]at hk;exact Ml hk
end
structure Runs(B X:Bk)(l:List Ac):Prop where
 val:Valid X
 fit:∀A∈l,∃s∈B.ah,View B X s/\A.aa=s.name/\∃k,A=CK k B s/\Cz A=true
 apart:l.Pairwise λa b=>a.aa≠b.aa
theorem Runs.code{B X:Bk}(F:Valid B){A:Ac}{l:List Ac}(h:Runs B X l)(z:A∈l):BM X A=0\/BM X A=7:=by
 obtain⟨s,H,hv,_,k,rfl,hk⟩:=h.fit A z;exact(fit_act F h.val H hv hk).code h.val hv
theorem Runs.next{B X:Bk}{A:Ac}{l:List Ac}(h:Runs B X (A::l)):Runs B (Ah X A) l:=by
 obtain⟨H,J⟩:=iE.1 h.apart;refine⟨Nx A h.val,λF z=>?_,J⟩;obtain⟨s,M,hv,e,k⟩:=h.fit F (dQ _ z);exact⟨s,M,Si h.val hv (by rw[<-e];exact H F z),e,k⟩
theorem run_ask{B:Bk}(z:Valid B)(kind:Int):Runs B B (EJ kind B):=by
 unfold EJ;rw[validB_iff.2 z,dv rfl];refine⟨z,λA F=>?_,?_⟩
 ·obtain⟨F,hk⟩:=eR.1 F
  obtain⟨s,J,rfl⟩:=fa.1 F;exact⟨s,J,⟨FY z J,rfl⟩,(KN kind B s).1,kind,rfl,hk⟩
 ·refine List.Pairwise.filter _ (gL.2 (z.pwS.imp λ{a b} H=>?_))
  rw[(KN kind B a).1,(KN kind B b).1];exact PX H
end
section
open Go.RowKit Go.Sort
open Go.Value renaming int->In,slice->Sl,string->Sg,bool->Bo,pointer->Po
open Go.IntKind renaming i64->i6
theorem Kf{P:Program}{fn:Func}{p q:Tmp}{ty:TypeId}(h:fn.results=#[.tmp q,.cell p ty])(tmps:Array Value)(w:World)(g:Nat)(t:TypeId)(cs:Array Value)(fr:Nat × Nat)(d:TypeDesc)
  (O:tmps.getD p undef=.pointer (qad g)) (J:w.heap[g]?=some (.cells cs t fr))
  (W:P.underlying ty=some d) (H:(match d with| .struct _| .array _ _=>true|_=>false)=true) (M:(P.info? ty).map (·.size)=some cs.size) (v:Value) (hv:tmps.getD q undef=v):
  (results fn tmps).run P w=.ok (.tuple #[v,.agg cs]) w:=by
 have z:tmps[p]?.getD undef=.pointer (qad g):=by simpa using O
 have F:tmps[q]?.getD undef=v:=by simpa using hv
 simp[results,h,z,F,asAddr,iZ w g t ty cs fr d J W H M]
theorem Rb(ao:qO)(n cap:Nat)(w:World)(hn:n<=1048576)(hc:n<=cap)(hC:JX w ao n):
  Calls Tryz.prog 25 #[Sl ao n cap] w λe w'=>∃(a1 a2 a3:qO) (c1 c2 c3:Nat) (B:Bk) (kind:Int),e=.returned (.tuple #[In i6 kind,.agg (qbV B a1 c1 a2 c2 a3 c3)])/\BkAt w' a1 a2 a3 B/\(okSp B/\B.ar.length<=c2)/\Below w.heap.size w w':=by
 obtain⟨Z,O⟩:∃W,w.alloc (.cells qzV 28)=W:=⟨_,rfl⟩;have F:Below w.heap.size w Z:=by rw[<-O];exact(dG _ _).alloc AG _
 have T0:Hid (qBl Z (w.heap.size) qzV 28):=by unfold Hid;rw[<-O];exact dm w _
 have HC:Hid (JX Z ao n):=λhp=>by
  obtain⟨b,aq,e,aj,h⟩:=hC hp;exact⟨b,aq,e,AF aj F.size,λi hi=>by rw[F.cell (p:=⟨b,aq+i,none⟩) aj];exact h i hi⟩
 have au:Hid _:=F;clear hC F;go_enter Tryz.func25,Tryz.ntmps25
 go_upto_region 1 with fail
 clear O
 go_upto_region 2 with(go_at_call 36;refine(open_any ao n cap _ hn hc HC.ab).mono ?_;rintro e w1 ⟨rfl,Y,H⟩;have M:Hid (Rd Z.heap.size w1 0):=Y;have aa:Hid _:=H;clear Y H)
 rename_i K hK;have HK:Hid _:=hK;clear hK;obtain⟨r,hr⟩:∃r,Z.heap.size=r:=⟨_,rfl⟩;rw[hr]at M aa ⊢
 go_wp2_with (first
  |(go_at_call 60;refine(any_bk r 0 _ (draw_ct r) M.ab qd).mono ?_;rintro e w2 ⟨⟨a1,a2,a3,c1,c2,c3,B,rfl,hB,am,al,ag⟩,J,an⟩;have ax:Hid _:=al;have aw:Hid (B.ar.length<=c2):=ag;have ae:Hid (BkAt w2 a1 a2 a3 B):=hB;have af:Hid (okSp B):=am;have ay:Hid _:=J;have az:Hid (Rd r w2 ((0+910000001000:Nat):Int)):=an;have VX:Hid ((w2.alloc (.cells qzV 28)).heap[w2.heap.size]?=some (.cells qzV 28 (0,0))):=dm w2 _;clear hB am J an al ag)
  |((with_reducible show wpList _ _ _ _ _ _);refine qAM VX.ab AY ?_;intro w3 aC aD;simp only[Act.put]))
 refine HK.ab _ _ ?_;have z:Below w2.heap.size w2 w3:=(AN w2 _).trans aD.below;have F:=au.ab;have H:=aa.ab;have J:=ay.ab;have z1:=H.size;have z2:=J.size;have z3:=z.size;have Y:=M.ab.lt;have ah:w.heap.size<r:=by rw[<-hr];exact(AB T0.ab).1
 have ch:∀k,k<r->w3.heap[k]?=Z.heap[k]?:=λk hk=>(z.block k qo).trans ((J.block k qo qo).trans (H.block k qo))
 have hb:Below w.heap.size w w3:=⟨z.os.trans (J.os.trans (H.os.trans F.os)),z.tape.trans (J.tape.trans (H.tape.trans F.tape)),z.output.trans (J.output.trans (H.output.trans F.output)),qo,λk hk=>(ch k qo).trans (F.block k hk)⟩;have ak:∀b o,(a1=some ⟨b,o,none⟩\/a2=some ⟨b,o,none⟩\/a3=some ⟨b,o,none⟩)->r<b:=λb o h=>by have:=ax.ab b o h;omega
 refine jf (da_run (r:=r) (q:=0+910000001000) (x:=w2.heap.size) (c1:=c1) (c2:=c2) (c3:=c3) af.ab (ae.ab.below z) ae.ab AG ak qd ⟨rfl,rfl,rfl,rfl,rfl⟩ (az.ab.below z) ah qo hb aC.ab ((ch _ ah).trans T0.ab)) ?_;rintro _ a' w' ⟨rfl,k,g,h2,h3,hd,vg,aA,aB⟩;exact dF (Kf rfl _ _ g _ _ (0,0) _ h3 vg Tryz.underlying28 rfl AY _ h2) hd ⟨a1,a2,a3,c1,c2,c3,B,k,rfl,aA,⟨af.ab,aw.ab⟩,aB⟩
theorem Uz(A:Ac)(ae af:qO)(ce cf:Nat)(w:World)(hl:A.aB.length<=1048576)(hA:SlE w ae A.aB)(hB:SlE w af A.aB):
  Calls Tryz.prog 74 #[.agg (qaV A ae ce),.agg (qaV A af cf)] w λe w'=>e=.returned (.bool true)/\Below w.heap.size w w':=by
 obtain⟨t0,t1,t2⟩:=CL w (.cells (qaV A ae ce) 45) (.cells (qaV A af cf) 45);obtain⟨W0,O⟩:∃W,(w.alloc (.cells (qaV A ae ce) 45)).alloc (.cells (qaV A af cf) 45)=W:=⟨_,rfl⟩;have H:Below w.heap.size w W0:=by rw[<-O];exact((dG _ _).alloc AG _).alloc qs _
 rw[O]at t0 t1 t2;have z:Hid _:=t0;have F:Hid _:=t1;have ag:Hid _:=t2;clear t0 t1 t2;go_enter Tryz.func74,Tryz.ntmps74
 go_upto_region 1 with fail
 clear O;have e0:=AJ z.ab 0;have f0:=AJ F.ab 0;have e1:=AJ z.ab 1;have f1:=AJ F.ab 1;have e2:=AJ z.ab 2;have f2:=AJ F.ab 2;have e3:=AJ z.ab 3;have f3:=AJ F.ab 3;have e4:=AJ z.ab 4;have f4:=AJ F.ab 4;have e5:=AJ z.ab 5;have f5:=AJ F.ab 5;have e6:=AJ z.ab 6;have f6:=AJ F.ab 6;have e7:=AJ z.ab 7;have f7:=AJ F.ab 7;go_wp2;clear e0 e1 e2 e3 e4 e5 e6 e7 f0 f1 f2 f3 f4 f5 f6 f7
 go_loopw [5] (λiv wr=>∃(k:Nat),k<=A.aB.length/\iv=In i6 k/\Below W0.heap.size W0 wr) (λi _=>A.aB.length - (intOf i).toNat)
 case atStart=>exact⟨0,qo,rfl,dG _ _⟩
 case round=>
  obtain⟨k,hk,rfl,hb⟩:=hrel;have U0:Hid _:=AK hb z.ab (by rw[ag.ab];omega);have U1:Hid _:=AK hb F.ab (by rw[ag.ab];omega)
  by_cases Y:k<A.aB.length
  ·have e0:=Az U0.ab 6 rfl
   have f0:=Az U1.ab 6 rfl;have Z:A.aB≠[]:=by intro h;rw[h]at Y;simp at Y
   obtain⟨b,bk,ea,aC,am⟩:=hA Z;obtain⟨b',aH,eb,an,J⟩:=hB Z;obtain⟨s,aa⟩:∃s,A.aB[k]?=some s:=⟨A.aB[k],by simp[Y]⟩;have aq:=H.trans (hb.mono H.size);have c:=(am k s aa).below aq aC;have d:=(J k s aa).below aq an;unfold EnAt at c d;obtain⟨ah,aj⟩:=c;obtain⟨ak,al⟩:=d;have c0:=λp:Regrown=>jo ah p.d p.os
   have c1:=λp:Regrown=>jo aj p.d p.os
   have d0:=λp:Regrown=>jo ak p.d p.os
   have d1:=λp:Regrown=>jo al p.d p.os
   subst ea eb;clear aa am J Z ah aj ak al;have ee:=AJ U0.ab 6
   go_upto_region 6 with fail
   clear ee;refine jl qk qk ?_
   repeat (first|go_big_quiet_step (fail)|quiet_step (fail))
   refine jn ?_;intro w1 aD;obtain⟨⟨dq,bm⟩,M⟩:=aD;have aA:Below wr.heap.size wr w1:=by rw[M];exact jm _ _ _
   clear M c0 d0 c1 d1 e0 f0;have aB:=hb.trans (aA.mono hb.size);go_wp2
   go_roundw
   case rel=>exact⟨k+1,qo,qn,aB⟩
   case measure=>simp[intOf];omega
  ·have ee:=AJ U0.ab 6
   go_wp2;go_ret;exact⟨rfl,H.trans (hb.mono H.size)⟩
theorem SG(R R':List Co)(ao ap:qO)(cap au:Nat)(w:World)(aj:R.map (·.1)=R'.map (·.1))(hl:R.length<=1048576)(he:∀r∈R,r.1.aB.length<=1048576)(h1:SlA w ao R)(h2:SlA w ap R'):
  Calls Tryz.prog 26 #[Sl ao R.length cap,Sl ap R'.length au] w λe w'=>e=.returned (.bool true)/\Below w.heap.size w w':=by
 have H:R'.length=R.length:=by have:=ei List.length aj;simpa using this.symm
 have aF:Hid _:=aj;rw[H];clear aj;have Z:Hid _:=H;clear H;go_enter Tryz.func26,Tryz.ntmps26;go_wp2
 go_loopw [5] (λiv wr=>∃(k:Nat),k<=R.length/\iv=In i6 k/\Below w.heap.size w wr) (λi _=>R.length - (intOf i).toNat)
 case atStart=>exact⟨0,qo,rfl,dG _ _⟩
 case round=>
  obtain⟨k,hk,rfl,hb⟩:=hrel
  by_cases O:k<R.length
  ·obtain⟨r,hr⟩:∃r,R[k]?=some r:=⟨R[k],by simp[O]⟩
   obtain⟨r',Y⟩:∃r',R'[k]?=some r':=⟨R'[k]'(by rw[Z.ab];exact O),by rw[dz]⟩
   have e1:r'.1=r.1:=by
    have h3:(R.map (·.1))[k]?=some r.1:=by rw[ej,hr];rfl
    have h4:(R'.map (·.1))[k]?=some r'.1:=by rw[ej,Y];rfl
    rw[aF.ab,h4]at h3;exact dj h3
   obtain⟨A,ae,ce⟩:=r;obtain⟨M,af,cf⟩:=r';simp only at e1;subst e1;have ay:=he _ (AE hr);simp only at ay;obtain⟨b,aK,ea,aH,ak⟩:=h1 (by intro h;rw[h]at O;simp at O);obtain⟨b2,aB,eb,aw,F⟩:=h2 (by intro h;have:=Z.ab;rw[h]at this;simp at this;omega);subst ea eb;have HX:Hid (AcAt w b (aK+k*8) (M,ae,ce)):=(ak k _ hr).1;have HY:Hid (AcAt w b2 (aB+k*8) (M,af,cf)):=(F k _ Y).1;have aI:SlE w ae M.aB:=(ak k _ hr).2;have aJ:SlE w af M.aB:=(F k _ Y).2;have aD:Hid (∀W:World,SlE W ae M.aB->SlE W af M.aB->Calls Tryz.prog 74 #[.agg (qaV M ae ce),.agg (qaV M af cf)] W λe w'=>e=.returned (.bool true)/\Below W.heap.size W w'):=λW h h'=>Uz M ae af ce cf W ay h h'
   clear hr Y ak F h1 h2 he;go_wp2;refine AU 9 ?_;apply AL
   ·intro V W K AA hW hd z hK
    simp only[pA]at z;subst z;go_wp2;exact hK.ab _ brf
   iterate 2 refine qA0 qP ?_
   apply qA0
   ·intro V W K AA hW hd z hK
    simp only[pA,qv (hd 2)]at z;subst z;have hq:=HX.ab.below (hb.trans (hW.mono hb.size)) aH;unfold AcAt at hq;obtain⟨q0,q1,q2,q3,q4,q5,q6,q7⟩:=hq;go_wp2;exact hK
   iterate 3 refine qA0 qP ?_
   apply qA0
   ·intro V W K AA hW hd z hK
    simp only[pA,qv (hd 6)]at z;subst z;have hq:=HY.ab.below (hb.trans (hW.mono hb.size)) aw;unfold AcAt at hq;obtain⟨q0,q1,q2,q3,q4,q5,q6,q7⟩:=hq;go_wp2;exact hK
   refine AZ (λv _=>v=.bool true) (λ_ _ _ h _=>h) ?_ ?_
   ·intro V W K AA hW hd z hK
    simp only[pA,qv (hd 3),qv (hd 7)]at z;subst z;have ax:=hb.trans (hW.mono hb.size)
    go_wp2_with fail
    refine(aD.ab _ (aI.below ax) (aJ.below ax)).mono ?_;rintro e w2 ⟨rfl,al⟩;go_wp2;exact hK.ab _ _ al rfl
   intro V W AA hW J z;have d8:=J 8;simp only[pA,qv (J 0),qv (J 1),qv (J 2),qv (J 3),qv (J 4),qv (J 5),qv (J 6),qv (J 7)]at z;clear J;generalize V 8=x8 at d8 z;subst z;simp only[dA,dN];obtain rfl:=d8;have al:=hb.trans (hW.mono hb.size);go_wp2
   go_roundw
   case rel=>exact⟨k+1,qo,qn,al⟩
   case measure=>simp[intOf];omega
  ·go_wp2
   go_ret;exact⟨rfl,hb⟩
end
end Go.Proofs.YtbceafpodamnfaaGreatDoor
