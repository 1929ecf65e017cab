import Derived.Test.YtbceafpodamnfaaGreatDoorG39
set_option linter.all false
set_option maxHeartbeats 4000000
set_option maxRecDepth 100000
namespace Go.Proofs.YtbceafpodamnfaaGreatDoor
open Go.RowKit Go.Sort
structure EB(f f' x y:Nat)(a:Act):Prop where
 e2:a.eval (.tmp 2)=.pointer (some ⟨f,0,none⟩)
 e3:a.eval (.tmp 3)=.pointer (some ⟨f',0,none⟩)
 e6:a.eval (.tmp 6)=.pointer (some ⟨x,0,none⟩)
 e7:a.eval (.tmp 7)=.pointer (some ⟨y,0,none⟩)
 sz:a.tmps.size=129
 df:a.defers=[]
def ghT(r y:Nat)(ae a1 a2 a3:qO)(W:World):Gh:=⟨λi=>match i with|0=>some ⟨r,0,none⟩|1=>a1|2=>a2|3=>a3|64=>some ⟨y,0,none⟩|65=>ae|_=>none,λk=>k<W.heap.size/\k≠r/\k≠y/\ae≠some ⟨k,0,none⟩,λk=>k=r⟩
def RowOf(a1 a2 a3:qO)(B:Bk)(b:Nat):Prop:=(∃o,a1=some ⟨b,o,none⟩/\B.af≠[])\/(∃o,a2=some ⟨b,o,none⟩/\B.ah≠[])\/(∃o,a3=some ⟨b,o,none⟩/\B.ak≠[])
theorem cutW(W:World){s:Nat}(F:s<=W.heap.size):∃w0:World,w0.heap.size=s/\W.os=w0.os/\W.tape=w0.tape/\W.output=w0.output/\∀k,k<s->W.heap[k]?=w0.heap[k]?:=
 ⟨{W with heap:=W.heap.extract 0 s},by simp;omega,rfl,rfl,rfl,λk hk=>by
  show _=(W.heap.extract 0 s)[k]?;rw[Array.getElem?_extract_of_lt (by omega)]
  simp⟩
theorem ens_of{w0 w:World}{G:Gh}{q i cp:Nat}{J:VB}{RD:(Nat->Prop)->World->Nat->Nat->Prop}{l:List En}(hH:Hold RD w0 G w q i J)(F:LeB [] J (An 88 2 cp enL l)):∃g,G.α i=some ⟨g,0,none⟩/\w0.heap.size<=g/\RowIs w 88 2 g l.length cp (l.map enL).flatten:=by
 obtain⟨ge,els,e1,e2,_,_,f1,f2,f3,f4⟩:=hH.k3 F.kd;have M:=(F.n3 rfl).1;have Z:=(F.n3 rfl).2
 have W:els=l.map enL:=fp λj=>by
  rw[eh]
  cases Y:els[j]? with
  |none=>rw[fL]at Y;rw[dZ (by have h1:J.n=l.length:=M;omega)];rfl
  |some el=>
   have H:j<l.length:=by have h1:J.n=l.length:=M;have:=(AC Y).1;omega
   rw[dj H];exact em some ((f4 j el Y).1 (λe=>e=enL l[j]) (F.Q j H _ λy hy=>by rw[dj H]at hy;cases hy;rfl))
 subst W;have h1:J.ty=88:=F.ty;have h2:J.sz=2:=F.sz;have h3:J.n=l.length:=M;have h4:J.cp=cp:=Z;rw[h1,h2,h3,h4]at f3;exact⟨ge,e1,e2,f3⟩
theorem asw_run{f f' x y r q s ce:Nat}{A:Ac}{ae:qO}{B:Bk}{a1 a2 a3:qO}{j:Int}{a:Act}{W:World}(hl:A.aw.length<=1000)(hj:0<=j/\(0<A.aw.length->j<A.aw.length))(hq:q+10<=QM)(ea:EB f f' x y a)(e4:a.eval (.tmp 4)=.pointer (some ⟨r,0,none⟩))(e8:a.eval (.tmp 8)=.int .i64 j)(hR:Rd r W (q:Int))(hr:r<s)(hs:s<=W.heap.size)(hy:s<=y)(vy:W.heap[y]?=some (.cells #[.string A.aa,.int .i64 A.aF,.int .i64 A.am,.int .i64 A.av,.int .i64 A.ay,.bool A.az,.slice ae A.aw.length ce,.bool A.drop] 45 (0,0)))(hE:SlEn s W ae ce A.aw)(hB:BkAt W a1 a2 a3 B)(Z:∀b,RowOf a1 a2 a3 B b->b≠y/\ae≠some ⟨b,0,none⟩):
  (qac Tryz.f21).wp Tryz.prog (λe a' w'=>e=.normal/\∃(H:Ac) (ag:qO) (af g:Nat),EB f f' x g a'/\s<=g/\w'.heap[g]?=some (.cells #[.string H.aa,.int .i64 H.aF,.int .i64 H.am,.int .i64 H.av,.int .i64 H.ay,.bool H.az,.slice ag H.aw.length af,.bool H.drop] 45 (0,0))/\SlEn s w' ag af H.aw/\BkAt w' a1 a2 a3 B/\H.aa=A.aa/\H.aw.length<=A.aw.length+1/\(∀e∈H.aw,e.ai=900\/∃e'∈A.aw,e'.ai=e.ai)/\w'.os=W.os/\w'.tape=W.tape/\w'.output=W.output/\s<=w'.heap.size/\∀k,k<s->k≠r->w'.heap[k]?=W.heap[k]?) a W:=by
 obtain⟨w0,bM,aq,ar,au,aA⟩:=cutW W hs;have ht:∀i v,a.eval (.tmp i)=v->i<129->a.tmps[i]?=some v:=λi v h hi=>RE h ea.sz hi
 have bN:=(AB vy).1;have h3:=EV (RD:=G6) (q:=0) hB
 have a7:∀k,ae=some ⟨k,0,none⟩->s<=k:=λk e=>by
  rcases hE with⟨h,_⟩|⟨g,h,hg,_⟩
  ·rw[h]at e;cases e
  ·rw[h]at e;cases e;exact hg
 -- what the ax says,once its rows are known
 have am:∀(E:Value) (mr:AY),(∀c∈Cf E,∃b,lk ((64,AT (acL A.aa A.aF A.am A.av A.ay A.az E A.drop) 45)::(mr++BP.m1 ⟨B,0,0,0⟩)) c=some b)->r0 (ghT r y ae a1 a2 a3 W).α E=.slice ae A.aw.length ce->(∀i b,(i,b)∈mr->i=65/\DQ b/\b.cs=[]/\Hold (RDr r) w0 (ghT r y ae a1 a2 a3 W) W q i b/\ae≠some ⟨y,0,none⟩)->
   vwr TT Γp [] (qac Tryz.f21) (asQ f f' x B A.aw A.aa) ⟨asT f f' x j,(64,AT (acL A.aa A.aF A.am A.av A.ay A.az E A.drop) 45)::(mr++BP.m1 ⟨B,0,0,0⟩),72,q⟩->
   (qac Tryz.f21).wp Tryz.prog (λe a' w'=>e=.normal/\∃(H:Ac) (ag:qO) (af g:Nat),EB f f' x g a'/\s<=g/\w'.heap[g]?=some (.cells #[.string H.aa,.int .i64 H.aF,.int .i64 H.am,.int .i64 H.av,.int .i64 H.ay,.bool H.az,.slice ag H.aw.length af,.bool H.drop] 45 (0,0))/\SlEn s w' ag af H.aw/\BkAt w' a1 a2 a3 B/\H.aa=A.aa/\H.aw.length<=A.aw.length+1/\(∀e∈H.aw,e.ai=900\/∃e'∈A.aw,e'.ai=e.ai)/\w'.os=W.os/\w'.tape=W.tape/\w'.output=W.output/\s<=w'.heap.size/\∀k,k<s->k≠r->w'.heap[k]?=W.heap[k]?) a W:=by
  intro E mr a4 aM aa hv
  have aL:lk ((64,AT (acL A.aa A.aF A.am A.av A.ay A.az E A.drop) 45)::(mr++BP.m1 ⟨B,0,0,0⟩)) 0=some rdB:=by
   show lk (mr++BP.m1 ⟨B,0,0,0⟩) 0=_;rw[Ba]
   cases aI:lk mr 0 with
   |none=>rfl
   |some b=>exact absurd (aa 0 b (Aj _ _ _ aI)).1 (by decide)
  refine iQ (DF (R0:=⟨λk=>k=r,(ghT r y ae a1 a2 a3 W).α,0⟩) (w0:=w0) (nt:=129) (EH r) (qac Tryz.f21) _ _ (ghT r y ae a1 a2 a3 W) a W (CL (EH r) (by kernel_rfl) _ (.nil _) (by kernel_rfl)) (by rw[<-Ff];exact hv) ?_) ?_
  ·refine⟨ea.df,ea.sz,λi v hi=>?_,λi b hi=>?_,λi b j c hi hj oi oj Z=>?_,λk hk=>⟨hk.1,hk.2.1⟩,⟨aq,ar,au,by omega,λk hk _=>aA k (by omega)⟩,λk hk=>.inl hk,λk hk=>by have hk:k=r:=hk;omega,(show 64<=72 by decide),λ_ _=>rfl,AI _⟩
   ·have Y:=Aj _ _ _ hi
    simp only[asT,dy,dH,eP,dw]at Y;rcases Y with⟨rfl,rfl⟩|⟨rfl,rfl⟩|⟨rfl,rfl⟩|⟨rfl,rfl⟩|⟨rfl,rfl⟩|⟨rfl,rfl⟩
    ·exact⟨ht _ _ ea.e2 (by decide),λ_ h=>(nomatch h)⟩
    ·exact⟨ht _ _ ea.e3 (by decide),λ_ h=>(nomatch h)⟩
    ·exact⟨ht _ _ ea.e6 (by decide),λ_ h=>(nomatch h)⟩
    ·exact⟨ht _ _ ea.e7 (by decide),λc M=>⟨_,by cases cZ.1 M;rfl⟩⟩
    ·exact⟨ht _ _ e4 (by decide),λc M=>⟨_,by cases cZ.1 M;exact aL⟩⟩
    ·exact⟨ht _ _ e8 (by decide),λ_ h=>(nomatch h)⟩
   ·have Y:=Aj _ _ _ hi
    simp only[BP.m1,dy,dt,dH,eP,dw]at Y;rcases Y with⟨rfl,rfl⟩|Y|⟨rfl,rfl⟩|⟨rfl,rfl⟩|⟨rfl,rfl⟩|⟨rfl,rfl⟩
    ·refine⟨show 64<72 by decide,⟨λ_=>⟨y,rfl,by omega,λh=>h.2.2.1 rfl,λh=>by have h:y=r:=h;omega,?_⟩,λh=>(nomatch h),λh=>(nomatch h),λh=>(nomatch h),λh=>(nomatch h),.inl rfl⟩,λc M=>a4 c (by simpa [AT,acL,Cf] using M)⟩
     rw[vy,<-aM];rfl
    ·obtain⟨rfl,_,a5,hh,_⟩:=aa i b Y
     exact⟨show 65<72 by decide,hh,by rw[a5];exact λ_ h=>(nomatch h)⟩
    ·exact⟨show 0<72 by decide,⟨λh=>(nomatch h),λh=>(nomatch h),λh=>(nomatch h),λh=>(nomatch h),λ_=>⟨r,rfl,rfl,rfl,hR,λk hk=>⟨by omega,by omega,by omega,λe=>by have:=a7 k e;omega⟩⟩,.inr (.inr (.inr (.inr (.inl rfl))))⟩,λ_ h=>(nomatch h)⟩
    ·refine⟨show 1<72 by decide,Ed (ao:=a1) rfl (λ_=>rfl) λJ=>?_,λ_ h=>(nomatch h)⟩
     obtain⟨b,off,e,hl,M⟩:=((h3 0 _ rfl).2.1).bh (f:=svL) (l:=B.af) (λk hk=>hk) .row J;obtain⟨x,_,hx⟩:=fE J;exact⟨b,off,e,⟨hl,MU hR (M 0 x (by rw[hx];rfl) 0 _ rfl),Z b (.inl ⟨off,e,J⟩)⟩,M⟩
    ·refine⟨show 2<72 by decide,Ed (ao:=a2) rfl (λ_=>rfl) λJ=>?_,λ_ h=>(nomatch h)⟩
     obtain⟨b,off,e,hl,M⟩:=((h3 1 _ rfl).2.1).bh (f:=cpL) (l:=B.ah) (λk hk=>hk) .row J;obtain⟨x,_,hx⟩:=fE J;exact⟨b,off,e,⟨hl,MU hR (M 0 x (by rw[hx];rfl) 0 _ rfl),Z b (.inr (.inl ⟨off,e,J⟩))⟩,M⟩
    ·refine⟨show 3<72 by decide,Ed (ao:=a3) rfl (λ_=>rfl) λJ=>?_,λ_ h=>(nomatch h)⟩
     obtain⟨b,off,e,hl,M⟩:=((h3 2 _ rfl).2.1).bh (f:=btL) (l:=B.ak) (λk hk=>hk) .row J;obtain⟨x,_,hx⟩:=fE J;exact⟨b,off,e,⟨hl,MU hR (M 0 x (by rw[hx];rfl) 0 _ rfl),Z b (.inr (.inr ⟨off,e,J⟩))⟩,M⟩
   ·have Y:=Aj _ _ _ hi
    have J:=Aj _ _ _ hj;simp only[BP.m1,dy,dt,dH,eP,dw]at Y J;rcases Y with⟨rfl,rfl⟩|Y|⟨rfl,rfl⟩|⟨rfl,rfl⟩|⟨rfl,rfl⟩|⟨rfl,rfl⟩
    ·rcases J with⟨rfl,rfl⟩|J|⟨rfl,rfl⟩|⟨rfl,rfl⟩|⟨rfl,rfl⟩|⟨rfl,rfl⟩
     ·exact absurd rfl Z
     ·obtain⟨rfl,_,_,_,h5⟩:=aa j c J
      exact λe=>h5 e.symm
     all_goals (rcases oj with h|h<;>cases h)
    ·obtain⟨rfl,_,_,_,h5⟩:=aa i b Y
     rcases J with⟨rfl,rfl⟩|J|⟨rfl,rfl⟩|⟨rfl,rfl⟩|⟨rfl,rfl⟩|⟨rfl,rfl⟩
     ·exact λe=>h5 e
     ·exact absurd (aa j c J).1.symm Z
     all_goals (rcases oj with h|h<;>cases h)
    all_goals (rcases oi with h|h<;>cases h)
  ·rintro e a' w' ⟨s',G,⟨rfl,⟨h2,bf,h6,h7⟩,⟨m1,m2,m3⟩,y0,b1,c1,d1,x1,E',y1,Y,aH⟩,F⟩
   obtain⟨g,eg,lg,_,_,vg⟩:=(F.mem _ _ Y).2.1.k0 rfl
   have eb:EB f f' x g a':=⟨Ia (F.tmp _ _ h2).1,Ia (F.tmp _ _ bf).1,Ia (F.tmp _ _ h6).1,by
    rw[Ia (F.tmp _ _ h7).1];show Value.pointer ((G.α 64).map _)=_;rw[eg]
    rfl,F.bR,F.bO⟩
   have aC:s<=w'.heap.size:=by have:=F.fr.size;omega
   have ay:∀k,k<s->k≠r->w'.heap[k]?=W.heap[k]?:=λk hk J=>(F.fr.block k (by omega) J).trans (aA k hk).symm
   have aF:BkAt w' a1 a2 a3 B:=by
    have:=Gw (i1:=1) (i2:=2) (i3:=3) (λk hk=>(F.z3 k hk).1) (F.mem _ _ m1).2.1 (F.mem _ _ m2).2.1 (F.mem _ _ m3).2.1 (B:=B) .row .row .row;rw[F.al 1 (by decide),F.al 2 (by decide),F.al 3 (by decide)]at this;exact this
   rcases aH with rfl|⟨i,cp,l',vb,rfl,aS,aW,bU,az⟩
   ·exact⟨rfl,⟨A.aa,y0,b1,c1,d1,x1,[],y1⟩,none,0,g,eb,by omega,vg,.inl ⟨rfl,rfl,rfl⟩,aF,rfl,AI _,λ_ h=>(nomatch h),F.fr.os.trans aq.symm,F.fr.tape.trans ar.symm,F.fr.output.trans au.symm,aC,ay⟩
   ·obtain⟨ge,e1,e2,f3⟩:=ens_of (F.mem _ _ aS).2.1 aW
    exact⟨rfl,⟨A.aa,y0,b1,c1,d1,x1,l',y1⟩,G.α i,cp,g,eb,by omega,vg,.inr ⟨ge,e1,by omega,f3⟩,aF,rfl,bU,az,F.fr.os.trans aq.symm,F.fr.tape.trans ar.symm,F.fr.output.trans au.symm,aC,ay⟩
 rcases hE with⟨rfl,al,rfl⟩|⟨ge,rfl,bR,ak⟩
 ·refine am (.slice none 0 0) [] (λ_ h=>(nomatch h)) (by rw[al];rfl) (λ_ _ h=>(nomatch h)) ?_
  rw[al];exact asw_nil hq
 ·refine am (.iface 65 (.slice none A.aw.length ce)) [(65,An 88 2 ce enL A.aw)] (λc M=>by cases cZ.1 M;exact⟨_,rfl⟩) rfl (λi b hi=>?_) (as_row hl hj hq)
  cases cZ.1 hi
  have a6:ge≠y:=λe=>by
   obtain⟨_,_,bX,M,_⟩:=ak;rw[e,vy]at M;simp at M
  refine⟨rfl,.inr rfl,rfl,⟨λh=>(nomatch h),λh=>(nomatch h),λh=>(nomatch h),λ_=>⟨ge,A.aw.map enL,rfl,by omega,λh=>h.2.2.2 rfl,λh=>by have h:ge=r:=h;omega,fw _,λel bb=>?_,ak,λj el hj=>⟨λk hk=>?_,λ_ _=>trivial⟩⟩,λh=>(nomatch h),.inr (.inr (.inr (.inl rfl)))⟩,λe=>a6 (by cases e;rfl)⟩
  ·obtain⟨e,_,rfl⟩:=fz.1 bb
   refine⟨rfl,λv hv=>?_⟩;simp only[enL,dy,dH,eP]at hv;rcases hv with rfl|rfl<;>exact⟨rfl,λ_=>rfl⟩
  ·rw[eh]at hj
   cases he:A.aw[j]? with
   |none=>rw[he]at hj;cases hj
   |some e=>rw[he]at hj;cases hj;exact hk e he
def qao(f:Func):List Oper:=match qae f with| .seq (.region _ aK _) _=>aK.toList|_=>[]
theorem Sa:(qae Tryz.f21)=.seq (.region 32 (qao Tryz.f21).toArray true) .ret:=by kernel_rfl
theorem Bh:(Tryz.prog.info? 45).map (·.size)=some 8:=by kernel_rfl
theorem IJ{P:Program}{fn:Func}{p p':Tmp}{ty H:TypeId}(h:fn.results=#[.cell p ty,.cell p' H])(tmps:Array Value)(w:World)(g M:Nat)(t t':TypeId)(cs F:Array Value)(fr J:Nat × Nat)(d d':TypeDesc)
  (hp:tmps.getD p undef=.pointer (some ⟨g,0,none⟩)) (hg:w.heap[g]?=some (.cells cs t fr)) (hu:P.underlying ty=some d) (hd:(match d with| .struct _| .array _ _=>true|_=>false)=true) (hi:(P.info? ty).map (·.size)=some cs.size)
  (W:tmps.getD p' undef=.pointer (some ⟨M,0,none⟩)) (ag:w.heap[M]?=some (.cells F t' J)) (Z:P.underlying H=some d') (Y:(match d' with| .struct _| .array _ _=>true|_=>false)=true) (aa:(P.info? H).map (·.size)=some F.size):(results fn tmps).run P w=.ok (.tuple #[.agg cs,.agg F]) w:=by
 have h1:tmps[p]?.getD undef=.pointer (some ⟨g,0,none⟩):=by simpa using hp
 have h2:tmps[p']?.getD undef=.pointer (some ⟨M,0,none⟩):=by simpa using W
 simp[results,h,h1,h2,asAddr,iU w g t ty cs fr d hg hu hd hi,iU w M t' H F J d' ag Z Y aa]
theorem Ee(l:Array Bool)(i j:Nat):(l.setIfInBounds i true).getD j false=true->i=j\/l.getD j false=true:=by
 intro h
 by_cases e:i=j
 ·exact .inl e
 ·refine .inr ?_
  simpa [fO,e] using h
theorem Mr(l:Array Bool)(i j:Nat):(l.setIfInBounds i true).getD j false=false->l.getD j false=false:=by
 intro h
 by_cases e:i=j
 ·subst e
  rcases eG i l.size with F|F
  ·simp[fO,F]at h
  ·simp[Array.getElem?_eq_none_iff.2 F]
 ·simpa [fO,e] using h
def zB:Array Value:=#[.int .i64 0,.slice none 0 0,.slice none 0 0,.slice none 0 0]
def zA:Array Value:=#[.string ⟨#[]⟩,.int .i64 0,.int .i64 0,.int .i64 0,.int .i64 0,.bool false,.slice none 0 0,.bool false]
theorem EB.put{f f' x y:Nat}{a:Act}(h:EB f f' x y a){d:Nat}(v:Value)(F:8<=d):EB f f' x y (a.put (some d) v):=
 ⟨(EQ _ _ (λe=>by cases e;omega)).trans h.e2,(EQ _ _ (λe=>by cases e;omega)).trans h.e3,(EQ _ _ (λe=>by cases e;omega)).trans h.e6,(EQ _ _ (λe=>by cases e;omega)).trans h.e7,put_more.2.trans h.sz,put_more.1.trans h.df⟩
structure EJ(f f' x y:Nat)(bx ev:Array Value)(w:World)(l:Array Bool)(a:Act)(W:World):Prop where
 ea:EB f f' x y a
 d0:l.getD 0 false=true->a.eval (.tmp 127)=.agg bx
 d1:l.getD 1 false=true->a.eval (.tmp 128)=.agg ev
 vx:W.heap[x]?=some (.cells bx 28 (0,0))
 vy:W.heap[y]?=some (.cells ev 45 (0,0))
 vf:l.getD 2 false=false->W.heap[f]?=some (.cells zB 28 (0,0))
 vf2:l.getD 2 false=true->W.heap[f]?=some (.cells bx 28 (0,0))
 vg:W.heap[f']?=some (.cells zA 45 (0,0))
 kp:A6 f w W
theorem SZ{f f' x y:Nat}{n0:Int}{b1 b2 b3:qO}{m1 m2 m3 k1 k2 k3:Nat}{H:Ac}{ae:qO}{ce:Nat}{a:Act}{w:World}{Q:Exit->Act->World->Prop}(J:f≠f'/\f≠x/\f≠y)(ea:EB f f' x y a)(vx:w.heap[x]?=some (.cells #[.int .i64 n0,.slice b1 m1 k1,.slice b2 m2 k2,.slice b3 m3 k3] 28 (0,0)))(vy:w.heap[y]?=some (.cells #[.string H.aa,.int .i64 H.aF,.int .i64 H.am,.int .i64 H.av,.int .i64 H.ay,.bool H.az,.slice ae H.aw.length ce,.bool H.drop] 45 (0,0)))(vf:w.heap[f]?=some (.cells zB 28 (0,0)))(vg:w.heap[f']?=some (.cells zA 45 (0,0)))
  (hQ:∀a' W W',EB f f' x y a'->W'.heap[f]?=some (.cells #[.int .i64 n0,.slice b1 m1 k1,.slice b2 m2 k2,.slice b3 m3 k3] 28 (0,0))->W'.heap[f']?=some (.cells #[.string H.aa,.int .i64 H.aF,.int .i64 H.am,.int .i64 H.av,.int .i64 H.ay,.bool H.az,.slice ae H.aw.length ce,.bool H.drop] 45 (0,0))->A6 f w W->A6 f' W W'->Q .ret a' W'):(qae Tryz.f21).wp Tryz.prog Q a w:=by
 rw[Sa];refine i0 (FC 3 (EJ f f' x y #[.int .i64 n0,.slice b1 m1 k1,.slice b2 m2 k2,.slice b3 m3 k3] #[.string H.aa,.int .i64 H.aF,.int .i64 H.am,.int .i64 H.av,.int .i64 H.ay,.bool H.az,.slice ae H.aw.length ce,.bool H.drop] w) (by kernel_rfl) (by kernel_rfl) ⟨ea,λh=>by(rw[getD_replicate_false]at h;cases h),λh=>by(rw[getD_replicate_false]at h;cases h),vx,vy,λ_=>vf,λh=>by(rw[getD_replicate_false]at h;cases h),vg,λ_ _=>rfl,⟨rfl,rfl,rfl,AG _,λ_ _=>rfl⟩,rfl⟩ ?_ ?_)
 ·intro l A W i o am F hi ho hu al K hK
  rcases i with _|_|_|i
  ·have hk:((qao Tryz.f21)[0]?).map (λo=>(o.dst,o.op,o.guard))=some (some 127,.load 28 (.tmp 6),none):=by kernel_rfl
   rw[show (qao Tryz.f21)[0]?=some o from ho]at hk;simp only[eo,fY,dw]at hk;obtain⟨q0,Z,Y⟩:=hk;refine dD Y 28 (.tmp 6) Z x F.ea.e6 28 _ (0,0) _ F.vx Tryz.underlying28 rfl AU (gi (hK _ _ ?_));rw[q0];exact⟨F.ea.put _ (by decide),λ_=>IL _ _ (by rw[F.ea.sz];decide),λh=>(EQ _ _ (by decide)).trans (F.d1 ((Ee _ _ _ h).resolve_left (by decide))),F.vx,F.vy,λh=>F.vf (Mr _ _ _ h),λh=>F.vf2 ((Ee _ _ _ h).resolve_left (by decide)),F.vg,F.kp⟩
  ·have hk:((qao Tryz.f21)[1]?).map (λo=>(o.dst,o.op,o.guard))=some (some 128,.load 45 (.tmp 7),none):=by kernel_rfl
   rw[show (qao Tryz.f21)[1]?=some o from ho]at hk;simp only[eo,fY,dw]at hk;obtain⟨q0,Z,Y⟩:=hk;refine dD Y 45 (.tmp 7) Z y F.ea.e7 45 _ (0,0) _ F.vy Tryz.underlying45 rfl Bh (gi (hK _ _ ?_));rw[q0];exact⟨F.ea.put _ (by decide),λh=>(EQ _ _ (by decide)).trans (F.d0 ((Ee _ _ _ h).resolve_left (by decide))),λ_=>IL _ _ (by rw[F.ea.sz];decide),F.vx,F.vy,λh=>F.vf (Mr _ _ _ h),λh=>F.vf2 ((Ee _ _ _ h).resolve_left (by decide)),F.vg,F.kp⟩
  ·have hk:((qao Tryz.f21)[2]?).map (λo=>(o.dst,o.op,o.guard))=some (none,.store 28 (.tmp 2) (.tmp 127),none):=by kernel_rfl
   rw[show (qao Tryz.f21)[2]?=some o from ho]at hk;simp only[eo,fY,dw]at hk;obtain⟨q0,Z,Y⟩:=hk;have hf:=F.vf (by simpa [eA] using (show l.getD 2 false=false by revert hu;simp only[eA];cases l[2]?<;>simp));refine AM Y 28 (.tmp 2) (.tmp 127) Z f 0 #[.int .i64 n0,.slice b1 m1 k1,.slice b2 m2 k2,.slice b3 m3 k3] F.ea.e2 (F.d0 (al 0 (by kernel_rfl))) 28 zB hf AU (AD rfl) (by simp[Value.oneCell']) λW' M on=>gi (hK _ _ ?_)
   rw[q0];have M:=M.O;have M:W'.heap[f]?=some (.cells #[.int .i64 n0,.slice b1 m1 k1,.slice b2 m2 k2,.slice b3 m3 k3] 28 (0,0)):=M
   exact⟨F.ea,λh=>F.d0 ((Ee _ _ _ h).resolve_left (by decide)),λh=>F.d1 ((Ee _ _ _ h).resolve_left (by decide)),(on.aB _ J.2.1.symm).trans F.vx,(on.aB _ J.2.2.symm).trans F.vy,λh=>by
    have hl:2<l.size:=by rw[am.size];exact AD (by kernel_rfl)
    simp[fO,hl]at h,λ_=>M,(on.aB _ J.1.symm).trans F.vg,λk hk=>(on.aB k hk).trans (F.kp.aB k hk),F.kp.below.trans on.below,on.size.trans F.kp.size⟩
  ·omega
 ·intro A W F
  have hk:((qao Tryz.f21)[3]?).map (λo=>(o.dst,o.op,o.guard))=some (none,.store 45 (.tmp 3) (.tmp 128),none):=by kernel_rfl
  obtain⟨o,ho⟩:∃o,(qao Tryz.f21).drop 3=[o]:=List.length_eq_one_iff.1 (by kernel_rfl)
  have an:(qao Tryz.f21)[3]?=some o:=by
   have:=em (λl:List Oper=>l[0]?) ho
   simpa [ej] using this
  rw[an]at hk;simp only[eo,fY,dw]at hk;obtain⟨q0,Z,Y⟩:=hk;rw[ho];refine AM Y 45 (.tmp 3) (.tmp 128) Z f' 0 #[.string H.aa,.int .i64 H.aF,.int .i64 H.am,.int .i64 H.av,.int .i64 H.ay,.bool H.az,.slice ae H.aw.length ce,.bool H.drop] F.ea.e3 (F.d1 (by kernel_rfl)) 45 zA F.vg Bh (AD rfl) (by simp[Value.oneCell']) λW' M on=>gi ?_
  rw[q0];have M:W'.heap[f']?=some (.cells #[.string H.aa,.int .i64 H.aF,.int .i64 H.am,.int .i64 H.av,.int .i64 H.ay,.bool H.az,.slice ae H.aw.length ce,.bool H.drop] 45 (0,0)):=M.O;exact wp_ret (hQ A W W' F.ea ((on.aB _ J.1).trans (F.vf2 (by kernel_rfl))) M F.kp on)
