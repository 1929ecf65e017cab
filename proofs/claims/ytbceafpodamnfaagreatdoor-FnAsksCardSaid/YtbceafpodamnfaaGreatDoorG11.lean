import Derived.Test.YtbceafpodamnfaaGreatDoorG10
set_option linter.all false
namespace Go.Proofs.YtbceafpodamnfaaGreatDoor
section
open Go.RowKit
open Go.Value renaming int->In,slice->Sl,string->Sg,bool->Bo,pointer->Po
open Go.IntKind renaming i64->i6
def nop(o:Oper):Oper:={o with dst:=none,op:=.move (.const (.bool true))}
def msk(ps:List Nat):Nat->List Oper->List Oper
 |_,[]=>[]
 |i,o::r=>(bif ps.any (Nat.beq i) then nop o else o)::msk ps (i+1) r
def chn(t:Tm)(m:AW)(ty sz:Nat):List Nat->VB->(VB->Prop)->Prop
 |[],b,k=>k b
 |s::r,b,k=>match lk t s with
  |some (.iface j (Sl _ n' _))=>match lk m j with
   |some b'=>bif (Nat.beq b'.kd 3||Nat.beq b'.kd 1)&&Nat.beq b'.sz sz&&Nat.beq b'.ty ty then n'<=b'.n/\b.n+n'<=1000000000/\srcC b' n' (∀c',chn t m ty sz r (Ft b b' n' c') k) else False
   |none=>False
  |_=>False
def LJ:Nat->List (Nat × Nat × Nat)->Nat
 |d,[]=>d
 |_,(_,d,_)::r=>LJ d r
def setl:List Nat->AW->AW
 |[],m=>m
 |i::r,m=>setl r (match lk m i with
  |some b=>bif Nat.beq b.kd 3 then I9 m i (He (some b)) else m
  |none=>m)
def capP(m:AW):List Nat->Prop
 |[]=>True
 |i::r=>(match lk m i with
  |some b=>bif Nat.beq b.kd 3 then b.n<=b.cp else True
  |none=>True)/\capP m r
abbrev CZ (p0:Nat) (ch:List (Nat × Nat × Nat)):List Nat:=p0::ch.map (·.1)
def vC(tt:List TE)(l:List Oper)(n T p0 d0:Nat)(ch:List (Nat × Nat × Nat))(s:St)(k:St->Prop):Prop:=∃I,capP s.m I->match tyo tt T with
 |some e=>match tyo tt e.el with
  |some e'=>bif ((d0::ch.map (·.2.1)).all λd=>(lk s.t d).isNone)&&Nat.beq e.u 3&&Nat.beq e'.zero.length e'.size&&Nat.ble 1 e'.size then
    S5 (setl I s.m) λm=>vOr tt [] (msk (CZ p0 ch) 0 (l.take n)) s.c (msk (CZ p0 ch) 0 (l.take n)) 0 s.t m λt m=>chn t m e.el e'.size (ch.map (·.2.2)) (Et e.el e'.size []) λb=>
     vOr tt [] l (s.c+8*(l.length+1)) (l.drop n) n ((LJ d0 ch,.iface (s.c+8*l.length) (Sl none b.n b.cp))::t) ((s.c+8*l.length,b)::m) λt m=>k ⟨t,m,s.c+8*(l.length+1)+8*l.length,s.q⟩ else False
  |none=>False
 |none=>False
theorem PT(ps:List Nat):∀(l:List Oper) (i j:Nat),(msk ps i l)[j]?=(l[j]?).map λo=>bif ps.any (Nat.beq (i+j)) then nop o else o
 |[],_,_=>rfl
 |o::r,i,0=>rfl
 |o::r,i,j+1=>by
  show(msk ps (i+1) r)[j]?=_;rw[PT ps r (i+1) j,show i+1+j=i+(j+1) by omega];rfl
theorem UI(ps:List Nat):∀(l:List Oper) (i:Nat),(msk ps i l).length=l.length
 |[],_=>rfl
 |_::r,i=>ei (·+1) (UI ps r (i+1))
theorem any_mem{ps:List Nat}{i:Nat}:ps.any (Nat.beq i)=true↔i∈ps:=by
 rw[fJ];exact⟨λ⟨p,z,h⟩=>by rw[dh h];exact z,λh=>⟨i,h,qs⟩⟩
theorem Uy{ps:List Nat}{l:List Oper}{n i j:Nat}(z:i<n):Region.waitsFor .any (msk ps 0 (l.take n)).toArray i j=Region.waitsFor .any l.toArray i j:=by
 unfold Region.waitsFor;simp only[List.getElem?_toArray,PT,dL,eK,dv z]
 cases l[i]? with
 |none=>rfl
 |some o=>cases h:ps.any (Nat.beq i)<;>simp[h,nop]
theorem OJ{ps:List Nat}{l:List Oper}{n:Nat}:∀f p i,p<n->CE (msk ps 0 (l.take n)).toArray f p i=CE l.toArray f p i
 |0,_,_,_=>rfl
 |f+1,p,i,F=>by
  unfold CE
  congr 1
  rw[gA,fJ,fJ]
  constructor<;>rintro⟨j,z,h⟩<;>refine⟨j,z,?_⟩<;>have H:=OJ (ps:=ps) (l:=l) (n:=n) f j i (by have:=dH.1 z;omega)<;>simpa only[Uy F,H] using h
theorem Fj:∀l:List Oper,BS [] l=0
 |[]=>rfl
 |o::r=>by
  unfold BS;rw[Fj r];unfold Al
  split<;>rfl
theorem pC_nil'{l:List Oper}{X:Nat->Bool}:∀k,pC [] l X k=0
 |0=>rfl
 |k+1=>by
  unfold pC;rw[pC_nil' k]
  cases X k with
  |false=>rfl
  |true=>
   cases l[k]? with
   |none=>rfl
   |some o=>show 0+Al [] o=0;have:=Fj [o];unfold BS at this;omega
theorem UR{sz:Nat}:∀{els:List (List Value)},(∀el∈els,el.length=sz)->∀n,(els.drop n).flatten=els.flatten.drop (n*sz)
 |[],_,_=>qs
 |e::r,_,0=>qs
 |e::r,h,n+1=>by
  have F:=h e dP;rw[dA,fx,UR (λel z=>h el (dQ _ z)) n,show(n+1)*sz=e.length+n*sz by rw[F,fz];omega,List.drop_length_add_append]
theorem RowK.known{Z:Nat->Prop}{w:World}{g ty sz cp:Nat}{X:Type}{f:X->List Value}{l:List X}{els:List (List Value)}(h:RowK Z w g (At ty sz cp f l) els):els=l.map f:=by
 refine fZ λj=>?_
 rw[ej];have J:els.length=l.length:=h.1
 cases z:els[j]? with
 |none=>
  rw[ix]at z;rw[eq qo];rfl
 |some el=>
  have H:=(AC z).1;obtain⟨x,hx⟩:∃x,l[j]?=some x:=⟨l[j]' qo,qs⟩;have:=(h.2.2.2 j el z).1 (λe=>e=f x) λy F=>by rw[hx]at F;cases F;rfl
  rw[hx,this];rfl
theorem RowK.of{Z:Nat->Prop}{w:World}{g ty sz cp:Nat}{X:Type}{f:X->List Value}{l:List X}(hf:∀x,(f x).length=sz/\∀v∈f x,v.oneCell'=true/\∀β,r0 β v=v)(h:RowIs w ty sz g l.length cp (l.map f).flatten):RowK Z w g (At ty sz cp f l) (l.map f):=by
 refine⟨by rw[ef];rfl,λel F=>?_,h,λj el z=>⟨λk hk=>?_,λ_ _=>trivial⟩⟩
 ·obtain⟨x,_,rfl⟩:=fa.1 F
  exact hf x
 ·rw[ej]at z
  cases hx:l[j]? with
  |none=>rw[hx]at z;cases z
  |some x=>rw[hx]at z;cases z;exact hk x hx
theorem Pp(x:Cp):(cpL x).length=7/\∀v∈cpL x,v.oneCell'=true/\∀β,r0 β v=v:=by
 refine⟨rfl,λv hv=>?_⟩;simp only[cpL,dJ,dW,fF]at hv;rcases hv with rfl|rfl|rfl|rfl|rfl|rfl|rfl<;>exact⟨rfl,λ_=>rfl⟩
theorem O1(x:Svc):(svL x).length=13/\∀v∈svL x,v.oneCell'=true/\∀β,r0 β v=v:=by
 refine⟨rfl,λv hv=>?_⟩;simp only[svL,dJ,dW,fF]at hv;rcases hv with rfl|rfl|rfl|rfl|rfl|rfl|rfl|rfl|rfl|rfl|rfl|rfl|rfl<;>exact⟨rfl,λ_=>rfl⟩
theorem Pv(x:Bt):(btL x).length=2/\∀v∈btL x,v.oneCell'=true/\∀β,r0 β v=v:=by
 refine⟨rfl,λv hv=>?_⟩;simp only[btL,dJ,dW,fF]at hv;rcases hv with rfl|rfl<;>exact⟨rfl,λ_=>rfl⟩
theorem KM{ρ:List (Nat × Nat)}{ty sz cp c n':Nat}{X:Type}{f:X->List Value}{b b':VB}{l l':List X}(hb:LeB ρ b (At ty sz cp f l))(J:l'.length=n')(M:∀j,j<n'->∀k,(∀x,l'[j]?=some x->k (f x))->b'.Q j k):LeB ρ (Ft b b' n' c) (At ty sz c f (l++l')):=by
 have z:b.n=l.length:=(hb.n3 rfl).1;have H:(Ft b b' n' c).n=(l++l').length:=by rw[dE,J,<-z];rfl
 refine⟨rfl,hb.ty,hb.sz,fW H.symm,λ_=>⟨H,rfl⟩,rfl,λj F k hk=>⟨λh=>?_,λh=>?_⟩,λ_ _ _=>trivial,λh=>(nomatch h)⟩
 ·refine hb.Q j (by show j<l.length;omega) k λx hx=>hk x ?_
  rw[dT qo];exact hx
 ·have F:j<(l++l').length:=F
  rw[dE]at F;refine M _ qo k λx hx=>hk x ?_
  rw[dU qo,<-z];exact hx
theorem UH{ρ:List (Nat × Nat)}{ty sz:Nat}{X:Type}{f:X->List Value}:LeB ρ (Et ty sz []) (At ty sz 0 f ([]:List X)):=⟨rfl,rfl,rfl,AG,λ_=>⟨rfl,rfl⟩,rfl,λ_ h=>absurd h (gN _),λ_ _ _=>trivial,λh=>(nomatch h)⟩
theorem Gj{ρ:List (Nat × Nat)}{ty sz c1 c2 c3 m:Nat}{X:Type}{f:X->List Value}{l:List X}{x:X}{k d:Nat}{b:VB}(hk:k<=l.length)(M:d+m=l.length)(hb:∀j kk,(∀x,l[d+j]?=some x->kk (f x))->b.Q j kk):
  LeB ρ (Ft (Ft (Ft (Et ty sz []) (FK (BY ty sz f l) 0 k) k c1) (Et ty sz [f x]) 1 c2) b m c3) (At ty sz c3 f (l.take k++x::l.drop d)):=by
 have H:=KM (c:=c1) (n':=k) (b':=FK (BY ty sz f l) 0 k) (l':=l.take k) (UH (ρ:=ρ) (ty:=ty) (sz:=sz) (f:=f)) (by rw[dI];omega) λj F kk h x hx=>h x (by rw[eK,dv F];rw[dL]at hx;exact hx)
 have J:=KM (c:=c2) (n':=1) (b':=Et ty sz [f x]) (l':=[x]) H rfl λj F kk h el z=>by
  obtain rfl:j=0:=qo
  cases z;exact h x rfl
 have e3:=KM (c:=c3) (n':=m) (b':=b) (l':=l.drop d) J (by rw[eh];omega) λj _ kk h=>hb j kk λx hx=>h x (by rw[ew];exact hx)
 rw[fq,eI]at e3;exact e3
theorem Uc{ρ:List (Nat × Nat)}{ty sz c1 c2:Nat}{X:Type}{f:X->List Value}{l:List X}{k:Nat}(hk:k<l.length):
  LeB ρ (Ft (Ft (Et ty sz []) (FK (BY ty sz f l) 0 k) k c1) (FK (BY ty sz f l) (k+1) (l.length - (k+1))) (l.length - (k+1)) c2) (At ty sz c2 f (l.take k++l.drop (k+1))):=by
 have z:=KM (c:=c1) (n':=k) (b':=FK (BY ty sz f l) 0 k) (l':=l.take k) (UH (ρ:=ρ) (ty:=ty) (sz:=sz) (f:=f)) (by rw[dI];omega) λj F kk h x hx=>h x (by rw[eK,dv F];rw[dL]at hx;exact hx)
 exact KM (c:=c2) (l':=l.drop (k+1)) z (by rw[eh]) λj _ kk h x hx=>h x (by rw[ew];exact hx)
theorem EF{ρ:List (Nat × Nat)}{z cs:qL}{ty:Nat}(h:z=cs.map (rn0 ρ)):LeB ρ (AX z ty) (AX cs ty):=⟨rfl,rfl,rfl,AG,λh=>(nomatch h),h,λ_ _ _ h=>h,λ_ _ h=>h,λh=>(nomatch h)⟩
theorem BZ{ρ:List (Nat × Nat)}{ty sz cp:Nat}{X:Type}{f:X->List Value}{l:List X}{b:VB}{a o:Nat}{vs:qL}{x x':X}(hb:LeB ρ b (At ty sz cp f l))(hx:l[a]?=some x)(h:Jm (f x) o vs=f x'):LeB ρ (Kc b a o vs) (At ty sz cp f (l.set a x')):=by
 have H:=(AC hx).1;have M:b.n=l.length:=(hb.n3 rfl).1;have F:(At ty sz cp f (l.set a x')).n=l.length:=by show(l.set a x').length=_;rw[dC]
 refine⟨rfl,hb.ty,hb.sz,by rw[F];exact fW M.symm,λ_=>⟨by rw[F];exact M,(hb.n3 rfl).2⟩,rfl,λj J k hk=>⟨λe=>?_,λe=>?_⟩,λ_ _ _=>trivial,λh=>(nomatch h)⟩
 ·subst e
  refine hb.Q j H _ λy z=>?_
  rw[hx]at z;cases z;show k (Jm (f x) o vs);rw[h];exact hk x' (by rw[fE,dv rfl,dv H])
 ·refine hb.Q j (by rw[F]at J;exact J) _ λy z=>hk y (by rw[fE,dk (λh=>e h.symm)];exact z)
section
variable {P:Program} {RD:(Nat->Prop)->World->Nat->Nat->Prop} {w0:World} {R0:Ro} {nt:Nat} {tt:List TE} {G:Gh} {a a':Act} {w W:World} {t:Tm} {m:AW} {c q:Nat}
theorem Sat.aL{s:St}{g:Nat}(hR:CR RD)(h:Sat RD R0 w0 nt G s a w)(M:w.grownBy W (some g))(h0:w0.heap.size<=g)(af:¬G.Z g)(ae:¬G.RB g)(ho:∀i b,lk s.m i=some b->EN b->G.α i≠some ⟨g,0,none⟩)(hd:a'.defers=a.defers)(hz:a'.tmps.size=a.tmps.size)(ht:∀i v,lk s.t i=some v->a'.tmps[i]?=a.tmps[i]?):Sat RD R0 w0 nt G s a' W:=by
 have hb:∀k,k<w.heap.size->k≠g->W.heap[k]?=w.heap[k]?:=λk hk ag=>M.block k hk λe=>ag (dj e)
 have Z:∀k,G.Z k->W.heap[k]?=w.heap[k]?:=λk hk=>hb k (h.z3 k hk).1 λe=>af (e▸hk)
 refine⟨hd.trans h.ci,hz.trans h.bX,λi v hv=>⟨(ht i v hv).trans (h.tmp i v hv).1,(h.tmp i v hv).2⟩,λi b J=>⟨(h.mem i b J).1,?_,(h.mem i b J).2.2⟩,h.bO,λk hk=>⟨AF (h.z3 k hk).1 M.size,(h.z3 k hk).2⟩,⟨M.os.trans h.fr.os,M.tape.trans h.fr.tape,M.output.trans h.fr.output,AH h.fr.size M.size,λk hk hn=>(hb k (AF hk h.fr.size) qo).trans (h.fr.block k hk hn)⟩,h.rb,λk hk=>AF (h.rl k hk) M.size,h.bD,h.al,AH h.sz M.size⟩;have O:=(h.mem i b J).2.1;have Y:EN b->∀z,G.α i=some ⟨z,0,none⟩->z≠g:=λah z F e=>ho i b J ah (by rw[F,e])
 refine⟨λh0=>?_,λh1 j hj=>?_,λh2=>?_,λh3=>?_,λh4=>?_,O.kk⟩
 ·obtain⟨z,F,H,e3,e4,e5⟩:=O.k0 h0
  exact⟨z,F,H,e3,e4,(hb z (AB e5).1 (Y (.inl h0) z F)).trans e5⟩
 ·obtain⟨z,o,el,F,H,e3,e4⟩:=O.k1 h1 j hj
  exact⟨z,o,el,F,H,e3,e4.step H (λ_ h=>h) Z⟩
 ·obtain⟨z,o,F,H,e4⟩:=O.k2 h2
  exact⟨z,o,F,H,e4.step H (λ_ h=>h) Z⟩
 ·obtain⟨z,els,F,H,e3,e4,e5⟩:=O.k3 h3
  exact⟨z,els,F,H,e3,e4,e5.step (hb z e5.2.2.1.lt (Y (.inr h3) z F)) (λ_ h=>h) Z⟩
 ·obtain⟨z,F,H,e3⟩:=O.k4 h4
  exact⟨z,F,H,hR _ _ _ _ _ _ _ e3 (λ_ h=>h) (hb z (h.rl z H) λe=>ae (e▸H)) Z AG⟩
theorem Sat.know{d:Nat}{v:Value}(h:Sat RD R0 w0 nt G ⟨t,m,c,q⟩ a w)(hx:a.tmps[d]?=some (r2 G.α v))(F:Clo m (Bc v)):Sat RD R0 w0 nt G ⟨(d,v)::t,m,c,q⟩ a w:=
 ⟨h.ci,h.bX,λi u z=>by
  by_cases e:d=i
  ·subst e;rw[Ae]at z;cases z;exact⟨hx,F⟩
  ·rw[Au e]at z;exact h.tmp i u z,h.mem,h.bO,h.z3,h.fr,h.rb,h.rl,h.bD,h.al,h.sz⟩
theorem Sat.settle(hR:CR RD){i:Nat}{b:VB}(h:Sat RD R0 w0 nt G ⟨t,m,c,q⟩ a w)(hb:lk m i=some b)(hk:b.kd=3):∃G',Sat RD R0 w0 nt G' ⟨t,I9 m i (He (some b)),c,q⟩ a w:=by
 obtain⟨g,els,hg,g1,g2,g3,r1,al,r3,r4⟩:=((h.mem i b hb).2.1).k3 hk;have aa:(Nat.beq b.kd 1||Nat.beq b.kd 3)=true:=by rw[hk];rfl
 have hu:∀j H,lk (I9 m i (He (some b))) j=some H->(j=i/\H=He (some b))\/(j≠i/\lk m j=some H):=λj H M=>by
  rw[IV m i j _ b hb]at M;split at M
  ·rename_i e;exact .inl ⟨e,(dj M).symm⟩
  ·rename_i e;exact .inr ⟨e,M⟩
 have ag:∀l,Clo m l->Clo (I9 m i (He (some b))) l:=λl hl=>hl.mono λj H M=>by
  rw[IV m i j _ b hb];split
  ·exact⟨_,rfl⟩
  ·exact⟨H,M⟩
 have ah:¬EN (He (some b)):=by rw[FT aa];exact λh=>by rcases h with h|h<;>cases h
 refine⟨⟨G.α,λk=>G.Z k\/k=g,G.RB⟩,h.ci,h.bX,λj v hv=>⟨(h.tmp j v hv).1,ag _ (h.tmp j v hv).2⟩,λj H M=>?_,λj H j' af M au ho aj Z=>?_,λk hk=>?_,h.fr,h.rb,h.rl,h.bD,h.al,h.sz⟩
 ·rcases hu j H M with⟨rfl,rfl⟩|⟨Z,M⟩
  ·refine⟨(h.mem j b hb).1,?_,by rw[FT aa];exact λ_ h=>(nomatch h)⟩
   rw[FT aa];refine⟨λh=>(nomatch h),λ_ y hy=>?_,λh=>(nomatch h),λh=>(nomatch h),λh=>(nomatch h),.inr (.inl rfl)⟩;have hy:y<b.n:=hy;obtain⟨el,Y⟩:∃el,els[y]?=some el:=⟨els[y]' qo,qs⟩;have hl:=al el (AE Y);refine⟨g,0,el,hg,.inr rfl,(r4 y el Y).1,λx v hv=>⟨?_,(hl.2 v (AE hv)).2⟩,λW hW=>(r4 y el Y).2 W λk hk=>hW k (.inl hk)⟩;rw[dL];refine r3.cell ?_;rw[Pd (λe he=>(al e he).1) y el Y x (by have:=(AC hv).1;rw[hl.1]at this;exact this)];exact hv
  ·obtain⟨h1,h2,h3⟩:=h.mem j H M
   have ak:EN H->∀F,G.α j=some ⟨F,0,none⟩->F≠g:=λho F z e=>h.bO j H i b M hb ho (.inr hk) Z (by rw[z,hg,e])
   refine⟨h1,⟨λO=>?_,λO x hx=>?_,λO=>?_,λO=>?_,λO=>?_,h2.kk⟩,ag _ h3⟩
   ·obtain⟨F,z,J,e3,e4,e5⟩:=h2.k0 O
    exact⟨F,z,J,λh=>h.elim e3 (ak (.inl O) F z),e4,e5⟩
   ·obtain⟨F,o,el,z,J,e3,e4⟩:=h2.k1 O x hx
    exact⟨F,o,el,z,.inl J,e3,e4.step J (λ_ h=>.inl h) (λ_ _=>rfl)⟩
   ·obtain⟨F,o,z,J,e4⟩:=h2.k2 O
    exact⟨F,o,z,.inl J,e4.step J (λ_ h=>.inl h) (λ_ _=>rfl)⟩
   ·obtain⟨F,els,z,J,e3,e4,e5⟩:=h2.k3 O
    exact⟨F,els,z,J,λh=>h.elim e3 (ak (.inr O) F z),e4,e5.step rfl (λ_ h=>.inl h) (λ_ _=>rfl)⟩
   ·obtain⟨F,z,J,e3⟩:=h2.k4 O
    exact⟨F,z,J,hR _ _ _ _ _ _ _ e3 (λ_ h=>.inl h) rfl (λ_ _=>rfl) AG⟩
 ·rcases hu j H M with⟨z,J⟩|⟨_,z⟩<;>rcases hu j' af au with⟨f1,f2⟩|⟨_,f1⟩
  ·exact absurd (z.trans f1.symm) Z
  ·subst J;exact absurd ho ah
  ·subst f2;exact absurd aj ah
  ·exact h.bO j H j' af z f1 ho aj Z
 ·rcases hk with hk|rfl
  ·exact h.z3 k hk
  ·exact⟨r3.lt,g3⟩
theorem Sat.caps(h:Sat RD R0 w0 nt G ⟨t,m,c,q⟩ a w):∀I:List Nat,capP m I
 |[]=>trivial
 |i::r=>by
  refine⟨?_,h.caps r⟩
  cases hb:lk m i with
  |none=>trivial
  |some b=>
   show(bif Nat.beq b.kd 3 then _ else _)
   cases hk:Nat.beq b.kd 3 with
   |false=>trivial
   |true=>
    obtain⟨g,els,_,_,_,_,_,_,r3,_⟩:=((h.mem i b hb).2.1).k3 (dh hk);exact r3.2.1
theorem Sat.cg(z:CR RD):∀(I:List Nat) {m:AW} {G:Gh},Sat RD R0 w0 nt G ⟨t,m,c,q⟩ a w->∃G',Sat RD R0 w0 nt G' ⟨t,setl I m,c,q⟩ a w
 |[],_,G,h=>⟨G,h⟩
 |i::r,m,G,h=>by
  unfold setl;split
  ·rename_i b hb
   cases hk:Nat.beq b.kd 3 with
   |false=>exact Sat.cg z r h
   |true=>
    obtain⟨G',F⟩:=h.settle z hb (dh hk);exact Sat.cg z r F
  ·exact Sat.cg z r h
end
section
variable {P:Program} {RD:(Nat->Prop)->World->Nat->Nat->Prop} {w0:World} {R0:Ro} {nt:Nat} {tt:List TE} {l:List Oper} {n c:Nat} {t:Tm} {m:AW} {U U':Nat->Value × AW} {X X':Nat->Bool}
def Ext(tt:List TE)(l:List Oper)(n c:Nat)(t:Tm)(m:AW)(U:Nat->Value × AW)(X:Nat->Bool)(U':Nat->Value × AW)(X':Nat->Bool):Prop:=Run tt [] l n c t m U' X'/\∀j,X j=true->X' j=true/\U' j=U j
theorem ext_t(F:Fix l n c t m)(h:Ext tt l n c t m U X U' X'){s:Nat}(W:∀i,i<n->Bu l i=some s->X i=true):lk (pT l U' X' t n) s=lk (pT l U X t n) s:=
 UA F.aW AG AG λj z O=>by
  have H:=W j z O;obtain⟨J,M⟩:=h.2 j H;exact⟨⟨λ_=>⟨z,H⟩,λ_=>⟨z,J⟩⟩,λ_ _=>M⟩
theorem ext_m(F:Fix l n c t m)(M:Run tt [] l n c t m U X)(h:Ext tt l n c t m U X U' X'){i:Nat}{b:VB}(hb:lk (pM U X m n) i=some b):lk (pM U' X' m n) i=some b:=
 (EU F.m0 (h.1.aZ F) AG).2 (((EU F.m0 (M.aZ F) AG).1 hb).imp id λ⟨j,H,z,J⟩=>⟨j,H,(h.2 j z).1,by rw[(h.2 j z).2];exact J⟩)
theorem Ext.up{i:Nat}{p:Value × AW}(M:X i=false)(h:Ext tt l n c t m (EB U i p) (DM X i) U' X'):Ext tt l n c t m U X U' X':=⟨h.1,λj F=>by
 have z:j≠i:=λe=>by rw[e,M]at F;cases F
 obtain⟨H,J⟩:=h.2 j (by rw[Bw z];exact F)
 exact⟨H,by rw[J,Cr z]⟩⟩
theorem nop_more(F:Fix l n c t m)(h:Run tt [] l n c t m U X){i:Nat}{o:Oper}(hi:i<n)(Z:l[i]?=some (nop o))(hg:o.guard=none)(Y:X i=false)(hr:∀W,CE l.toArray n i W=true->W≠i->X W=true):
  Run tt [] l n c t m (EB U i (Bo true,[])) (DM X i)/\(∀x,lk (pT l (EB U i (Bo true,[])) (DM X i) t n) x=lk (pT l U X t n) x)/\∀x,lk (pM (EB U i (Bo true,[])) (DM X i) m n) x=lk (pM U X m n) x:=by
 have hd:Bu l i=none:=by unfold Bu;rw[Z];rfl
 have z:=h.more (p:=(Bo true,[])) F hi Z Y hr ⟨.inr ⟨by unfold EO;rw[show(nop o).guard=none from hg],[Bo true],rfl,λk hk=>by rw[CD];exact hk⟩,by rw[CD];exact λ_ h=>(nomatch h),by rw[CD];exact λ_ _ h=>(nomatch h)⟩;refine⟨z,λx=>UA F.aW AG AG λj hj M=>?_,λx=>?_⟩
 ·have O:j≠i:=λe=>by rw[e,hd]at M;cases M
  rw[Bw O,Cr O];exact⟨Iff.rfl,λ_ _=>rfl⟩
 ·apply Option.ext
  intro b;rw[EU F.m0 (z.aZ F) AG,EU F.m0 (h.aZ F) AG];refine or_congr Iff.rfl ⟨?_,?_⟩<;>rintro⟨j,h1,H,J⟩<;>refine⟨j,h1,?_⟩
  ·by_cases e:j=i
   ·subst e;rw[CD]at J;cases J
   ·rw[Bw e]at H;rw[Cr e]at J;exact⟨H,J⟩
  ·have e:j≠i:=λe=>by rw[e,Y]at H;cases H
   rw[Bw e,Cr e];exact⟨H,J⟩
def ChI(tt:List TE)(w0:World)(l:List Oper)(n c:Nat)(t:Tm)(m:AW)(ty sz p0 d0:Nat)(ch:List (Nat × Nat × Nat))(U:Nat->Value × AW)(X:Nat->Bool)(G:Gh)(a:Act)(W:World):Prop:=
 (∀p∈CZ p0 ch,X p=false)\/∃dn rs g els b,ch=dn++rs/\X p0=true/\(∀c∈dn,X c.1=true)/\(∀c∈rs,X c.1=false)/\(b.kd=3/\b.ty=ty/\b.sz=sz/\b.cs=[])/\RowK G.Z W g b els/\Free w0 G (pM U X m n) W g/\a.tmps[LJ d0 dn]?=some (.slice (qad g) b.n b.cp)/\
  ∀U' X',Ext tt l n c t m U X U' X'->∀K,chn (pT l U' X' t n) (pM U' X' m n) ty sz (ch.map (·.2.2)) (Et ty sz []) K->chn (pT l U' X' t n) (pM U' X' m n) ty sz (rs.map (·.2.2)) b K
theorem ChI.step{ty sz p0 d0 i:Nat}{H:List (Nat × Nat × Nat)}{G G':Gh}{a:Act}{W W':World}{p:Value × AW}{d:Option Nat}{v:Value}(h:ChI tt w0 l n c t m ty sz p0 d0 H U X G a W)(hX:X i=false)(hi:i∉CZ p0 H)(hk:Keeps w0 G (pM U X m n) W G' (pM (EB U i p) (DM X i) m n) W')(hd:∀dn Z,H=dn++Z->d≠some (LJ d0 dn)):ChI tt w0 l n c t m ty sz p0 d0 H (EB U i p) (DM X i) G' (a.put d v) W':=by
 have z:∀x∈CZ p0 H,DM X i x=X x:=λx hx=>Bw λe=>hi (e▸hx)
 rcases h with h|⟨dn,Z,g,els,b,Y,e2,e3,e4,e5,e6,e7,e8,e9⟩
 ·exact .inl λx hx=>(z x hx).trans (h x hx)
 ·have O:∀F∈H,F.1∈CZ p0 H:=λF J=>dQ _ (fo J)
  obtain⟨k1,k2⟩:=hk.2 g e7;refine .inr ⟨dn,Z,g,els,b,Y,(z _ dP).trans e2,λF J=>(z _ (O F (by rw[Y];exact List.mem_append_left _ J))).trans (e3 F J),λF J=>(z _ (O F (by rw[Y];exact List.mem_append_right _ J))).trans (e4 F J),e5,e6.step k2 (λk M=>(hk.1 k M).1) (λk M=>(hk.1 k M).2),k1,?_,λU' X' hE K=>e9 U' X' (hE.up hX) K⟩
  cases d with
  |none=>exact e8
  |some d=>rw[Gk,dk λe=>hd dn Z Y (by rw[e])];exact e8
def gdB(l:List Oper):Bool:=l.all λo=>o.guard.isNone
def prB(l:List Oper)(n:Nat):List Nat->Bool
 |[]=>true
 |p::r=>Nat.ble (p+1) n&&r.all (λp'=>CE l.toArray n p' p&& !Nat.beq p p')&&prB l n r
def srB(l:List Oper)(n:Nat)(ch:List (Nat × Nat × Nat)):Bool:=ch.all λc=>(List.range n).all λi=>match Bu l i with
 |some d=>!Nat.beq d c.2.2||CE l.toArray n c.1 i
 |none=>true
def ChOk(l:List Oper)(T:Nat):Nat->List (Nat × Nat × Nat)->Prop
 |_,[]=>True
 |d',(p,d,s)::r=>(∃o,l[p]?=some o/\o.op=.call ⟨.builtin .append,#[.tmp d',.tmp s],#[T,T]⟩/\o.dst=some d)/\ChOk l T d r
theorem ChOk.tail{T:Nat}:∀{dn F:List (Nat × Nat × Nat)} {z:Nat},ChOk l T z (dn++F)->ChOk l T (LJ z dn) F
 |[],_,_,h=>h
 |(_,_,_)::r,_,_,h=>ChOk.tail (dn:=r) h.2
theorem OZ{p d s:Nat}:∀(dn:List (Nat × Nat × Nat)) (F:Nat),LJ F (dn++[(p,d,s)])=d
 |[],_=>rfl
 |(_,z,_)::r,_=>OZ r z
theorem OY{T:Nat}:∀{dn:List (Nat × Nat × Nat)} {F:List (Nat × Nat × Nat)} {p0 z:Nat},Bu l p0=some z->ChOk l T z (dn++F)->∃p∈CZ p0 dn,Bu l p=some (LJ z dn)
 |[],_,p0,z,h,_=>⟨p0,dP,h⟩
 |(p,d,s)::r,F,p0,z,_,h=>by
  obtain⟨⟨o,H,_,J⟩,M⟩:=h;obtain⟨q,W,O⟩:=OY (dn:=r) (p0:=p) (show Bu l p=some d by unfold Bu;rw[H];exact J) M;exact⟨q,dQ _ W,O⟩
theorem prB_ok:∀{ps:List Nat},prB l n ps=true->(∀p∈ps,p<n)/\ps.Pairwise λp F=>CE l.toArray n F p=true/\p≠F
 |[],_=>⟨λ_ h=>(nomatch h),.nil⟩
 |p::r,h=>by
  unfold prB at h;simp only[di]at h;obtain⟨⟨H,J⟩,M⟩:=h;obtain⟨O,W⟩:=prB_ok M;refine⟨λq z=>?_,.cons (λq z=>?_) W⟩
  ·rcases dJ.1 z with rfl|z
   ·exact AD H
   ·exact O q z
  ·have:=dt.1 J q z
   simp only[di,fw]at this;exact⟨this.1,λe=>by rw[e]at this;rw[show Nat.beq q q=true from by simp]at this;cases this.2⟩
theorem QP{a:Act}{d:Nat}{v:Value}(h:a.tmps[d]?=some v):a.eval (.tmp d)=v:=by
 show a.tmps.getD d undef=v;rw[fO,h];rfl
theorem put_more{a:Act}{d:Nat}{v:Value}:(a.put (some d) v).defers=a.defers/\(a.put (some d) v).tmps.size=a.tmps.size:=⟨rfl,by show(a.tmps.setIfInBounds d v).size=_;rw[Array.size_setIfInBounds]⟩
end
theorem KI{P:Program}{RD:(Nat->Prop)->World->Nat->Nat->Prop}{tt:List TE}(E:Env P RD tt [])(cF:P.follows .mixedOrders=true){l:List Oper}{n T p0 d0 nt id:Nat}{O:List (Nat × Nat × Nat)}(hB:Ax l.toArray n=true)(hL:locB (msk (CZ p0 O) 0 (l.take n)) n=true)
  (hb:(Pg nt l&&gdB (l.take n)&&prB l n (CZ p0 O)&&srB l n O&&GA .any (msk (CZ p0 O) 0 (l.take n)).toArray n)=true) (h0:∃o,l[p0]?=some o/\o.op=.buildSlice T 0 #[]/\o.dst=some d0) (cu:ChOk l T d0 O):K1 P RD nt id l.toArray true (vC tt l n T p0 d0 O):=by
 rintro R0 w0 k ⟨t,m,c,q⟩ G a w ⟨I,hC⟩ hs
 replace hC:=hC (hs.caps I)
 simp only[di]at hb;obtain⟨⟨⟨⟨bT,d9⟩,et⟩,eM⟩,cx⟩:=hb;obtain⟨be,aI⟩:=prB_ok et;have cm:=hB;simp only[Ax,di,dS]at cm;obtain⟨⟨⟨⟨⟨hn,_⟩,_⟩,_⟩,cL⟩,_⟩:=cm;have gy:n<l.length:=by simpa using hn
 have aj:=Mi cL;obtain⟨Y,aD⟩:∃Y,msk (CZ p0 O) 0 (l.take n)=Y:=⟨_,rfl⟩;have cz:Y.length=n:=by rw[<-aD,UI,dI];omega
 have aq:∀i,i<n->Y[i]?=(l[i]?).map λo=>bif (CZ p0 O).any (Nat.beq i) then nop o else o:=λi M=>by rw[<-aD,PT,dL,eK,dv M]
 have bk:∀p i,p<n->CE Y.toArray n p i=CE l.toArray n p i:=λp i hp=>by rw[<-aD];exact OJ n p i hp
 have am:∀i x,i<n->Bu Y i=some x->Bu l i=some x/\i∉CZ p0 O:=λi x M hx=>by
  unfold Bu at hx ⊢;rw[aq i M]at hx
  cases ho:l[i]? with
  |none=>rw[ho]at hx;cases hx
  |some o=>
   rw[ho]at hx;have hx:(bif (CZ p0 O).any (Nat.beq i) then nop o else o).dst=some x:=hx
   cases hp:(CZ p0 O).any (Nat.beq i) with
   |true=>rw[hp]at hx;cases hx
   |false=>
    rw[hp]at hx;exact⟨hx,λh=>by rw[any_mem.2 h]at hp;cases hp⟩
 have b3:∀p∈CZ p0 O,∀d,Bu l p=some d->∀i,i<n->Bu Y i≠some d:=λp hp d hd i M e=>by
  obtain⟨h1,h2⟩:=am i d M e;exact aj p i d (be p hp) M (λe=>h2 (e▸hp)) hd h1
 rw[aD]at hL cx
 cases ca:tyo tt T with
 |none=>rw[ca]at hC;exact hC.elim
 |some e=>
 simp only[ca]at hC
 cases aM:tyo tt e.el with
 |none=>rw[aM]at hC;exact hC.elim
 |some e'=>
 simp only[aM]at hC;obtain⟨cn,d1⟩:=E.ty ca;obtain⟨co,cq⟩:=E.ty aM;subst d1
 cases a4:(((d0::O.map (·.2.1)).all λd=>(lk t d).isNone)&&Nat.beq e.u 3&&Nat.beq e'.zero.length e'.size&&Nat.ble 1 e'.size) with
 |false=>rw[a4]at hC;exact hC.elim
 |true=>
 rw[a4,eY,Lr]at hC;simp only[di]at a4;obtain⟨⟨⟨ag,bn⟩,cb⟩,b7⟩:=a4;have bn:=dh bn;have cb:=dh cb;have b7:=AD b7;have ag:∀d∈d0::O.map (·.2.1),lk t d=none:=λd hd=>Option.isNone_iff_eq_none.1 (dt.1 ag d hd)
 obtain⟨G1,hs⟩:=hs.cg E.rd I;generalize setl I m=m1 at hC hs;rw[aD]at hC;rw[Oy]at hC;have F:Fix Y n c t m1:=⟨qo,hL,λi j x M hj aG ea eb=>aj i j x M hj aG (am i x M ea).1 (am j x hj eb).1,cx,hs.bD,λi b hb=>(hs.mem i b hb).1,λx v hx=>(hs.tmp x v hx).2,λi b hb=>(hs.mem i b hb).2.2⟩
 have bw:Pg nt Y=true:=dt.2 λo ho=>by
  obtain⟨i,M⟩:=eD ho;have b5:i<n:=by rw[<-cz];exact(AC M).1
  rw[aq i b5]at M
  cases hl:l[i]? with
  |none=>rw[hl]at M;cases M
  |some o'=>
   rw[hl]at M;cases M
   cases (CZ p0 O).any (Nat.beq i) with
   |true=>rfl
   |false=>exact dt.1 bT o' (AE hl)
 obtain⟨o0,ci,ds,aQ⟩:=h0;have cw:Bu l p0=some d0:=by unfold Bu;rw[ci];exact aQ
 have cS:∀(U:Nat->Value × AW) (X:Nat->Bool) (p d:Nat),p∈CZ p0 O->Bu l p=some d->d∈d0::O.map (·.2.1)->lk (pT Y U X t n) d=none:=λU X p d hp hd hm=>(Ll n λj hj _=>b3 p hp d hd j hj).trans (ag d hm)
 refine Ha n (λlisted a W=>∃U G,Run tt [] Y n c t m1 U (λj=>listed.getD j false)/\Sat RD R0 w0 nt G ⟨pT Y U (λj=>listed.getD j false) t n,pM U (λj=>listed.getD j false) m1 n,c+8*l.length,q⟩ a W/\ChI tt w0 Y n c t m1 e.el e'.size p0 d0 O U (λj=>listed.getD j false) G a W) cF hB ?_ ?_ ?_
 ·have eX:(λj=>(Array.replicate l.toArray.size false).getD j false)=λ_=>false:=funext λj=>getD_replicate_false _ _
  rw[eX];refine⟨λ_=>(.tuple #[],[]),G1,⟨λ_ _ _ _ h=>(by cases h),λ_ _ _ _ h=>(by cases h)⟩,?_,.inl λ_ _=>rfl⟩;rw[Se,Sf];exact(hs.bh (h64:=by have h1:64<=c:=hs.bD;show 64<=c+8*l.length;omega) λi b hb=>by have:i<c:=(hs.mem i b hb).1;show i<c+8*l.length;omega).drew E
 ·intro listed a W i o c6 hI M ho eT bX K hK
  obtain⟨U,G,H,z,aC⟩:=hI;have ah:l[i]?=some o:=by simpa using ho
  have cR:i<listed.size:=by rw[c6.size];simp;omega
  have Z:(λj=>listed.getD j false) i=false:=by show listed.getD i false=false;rw[<-eT];simp[cR]
  have bm:∀i',CE l.toArray n i i'=true->i'≠i->(λj=>listed.getD j false) i'=true:=λi' hr aG=>by
   obtain⟨f,hf⟩:∃f,n=f+1:=⟨n - 1,qo⟩;rw[hf]at hr;rcases fh.1 hr with h|h
   ·exact absurd (dh h).symm aG
   ·obtain⟨j,_,hj⟩:=fJ.1 h
    obtain⟨h1,h2⟩:=gJ.1 hj;exact GF c6 f j i' h2 (bX j h1)
  have hr:∀i',CE Y.toArray n i i'=true->i'≠i->(λj=>listed.getD j false) i'=true:=λi' hr=>bm i' (by rw[<-bk i i' M];exact hr)
  have b2:∀x,o.dst=some x->x<nt:=λx hx=>by
   have:=dt.1 bT o (AE ah);rw[hx]at this;exact AD this
  have a8:o.guard=none:=by
   have:=dt.1 d9 o (AE (i:=i) (by rw[eK,dv M];exact ah));exact Option.isNone_iff_eq_none.1 this
  have eX:(λj=>(listed.setIfInBounds i true).getD j false)=DM (λj=>listed.getD j false) i:=funext λj=>by
   unfold DM
   by_cases e:j=i
   ·subst e;rw[dv rfl];simp[cR]
   ·rw[dk e];exact gw false (Ne.symm e)
  rw[eX]at hK;generalize (λj=>listed.getD j false)=X at *
  by_cases ae:i∈CZ p0 O
  ·have bb:Y[i]?=some (nop o):=by rw[aq i M,ah,eO,any_mem.2 ae];rfl
   obtain⟨aJ,hT,hM⟩:=nop_more F H M bb a8 Z hr
   have ev:∀g,Free w0 G (pM U X m1 n) W g->∀W',W.grownBy W' (some g)->∀d v,Bu l i=some d->d∈d0::O.map (·.2.1)->Sat RD R0 w0 nt G ⟨pT Y (EB U i (Bo true,[])) (DM X i) t n,pM (EB U i (Bo true,[])) (DM X i) m1 n,c+8*l.length,q⟩ (a.put (some d) v) W':=λg hg W' hW d v hd b0=>
    ((z.congr hT hM).aL E.rd hW hg.1 hg.2.2.1 hg.2.2.2.1 (λj b hb=>hg.2.2.2.2 j b ((hM j).symm.trans hb)) put_more.1 put_more.2 λx u hu=>by
     have aN:=(hT x).symm.trans hu
     rw[Gk,dk λe=>by rw[<-e,cS U X i d ae hd b0]at aN;cases aN])
   rcases dJ.1 ae with rfl|a9
   ·
    have b6:o0=o:=dj (ci.symm.trans ah);subst b6
    have cr:∀p∈CZ i O,X p=false:=by
     rcases aC with h|⟨dn,rs,_,_,_,_,h,_⟩
     ·exact h
     ·rw[Z]at h;cases h
    have al:=LF (P:=P) (w:=W) (ρ:=a.eval) cn bn co cq ds rfl rfl b7 qo (λ_ h=>(nomatch h))
    have hf:Free w0 G (pM U X m1 n) (W.alloc (.cells #[] e.el)) W.heap.size:=⟨z.fr.size,by show _<(W.heap.push _).size;simp,λh=>absurd (z.z3 _ h).1 (iB _),λh=>absurd (z.rl _ h) (iB _),λj b hb bd e=>by
     obtain⟨gj,e1,_,_,_,e2⟩:=((z.mem j b hb).2.1).aW bd
     rw[e1]at e;cases e;omega⟩
    have b4:W.grownBy (W.alloc (.cells #[] e.el)) (some W.heap.size):=⟨rfl,rfl,rfl,by show _<=(W.heap.push _).size;simp,λk hk _=>by show(W.heap.push _)[k]?=_;rw[dw,dk qo]⟩;have aa:=hK (Sl (some ⟨W.heap.size,0,none⟩) 0 0) (W.alloc (.cells #[] e.el));rw[aQ]at aa;refine wp_val a8 al ?_;rw[aQ];refine aa ⟨_,G,aJ,?_,.inr ⟨[],O,W.heap.size,[],Et e.el e'.size [],rfl,Ce,(λ_ h=>(nomatch h)),λcc hc=>?_,⟨rfl,rfl,rfl,rfl⟩,⟨rfl,(λ_ h=>(nomatch h)),RowIs.new W e.el e'.size,λj el h=>(nomatch h)⟩,⟨hf.1,hf.2.1,hf.2.2.1,hf.2.2.2.1,λj b hb=>hf.2.2.2.2 j b ((hM j).symm.trans hb)⟩,?_,λ_ _ _ _ h=>h⟩⟩
    ·refine(z.congr hT hM).aL E.rd b4 hf.1 hf.2.2.1 hf.2.2.2.1 (λj b hb=>hf.2.2.2.2 j b ((hM j).symm.trans hb)) put_more.1 put_more.2 λx u hu=>?_
     have aN:=(hT x).symm.trans hu;rw[Gk,dk λe=>by rw[<-e,cS U X i d0 ae cw dP]at aN;cases aN]
    ·have aG:cc.1≠i:=λe=>(fX aI (fo hc)).2 e.symm
     rw[Bw aG];exact cr cc.1 (dQ _ (fo hc))
    ·show(a.put (some d0) _).tmps[d0]?=_
     rw[Gk,dv rfl,dv (by rw[z.bX];exact b2 d0 aQ)];rfl
   ·
    obtain⟨cc,aw,rfl⟩:=fa.1 a9;rcases aC with h|⟨dn,rs,g,els,b,e1,e2,e3,e4,e5,e6,e7,e8,e9⟩
    ·exact absurd (bm p0 (fX aI a9).1 (fX aI a9).2) (by rw[h p0 dP];decide)
    ·cases rs with
     |nil=>exact absurd (e3 cc (by rw[e1,fU]at aw;exact aw)) (by rw[Z];decide)
     |cons c1 rs=>
     have au:(O.map (·.1)).Pairwise λp p'=>CE l.toArray n p' p=true/\p≠p':=aI.tail
     have d5:cc=c1:=by
      have b5:cc∈c1::rs:=by
       rw[e1]at aw;rcases dO.1 aw with h|h
       ·exact absurd (e3 cc h) (by rw[Z];decide)
       ·exact h
      rcases dJ.1 b5 with h|h
      ·exact h
      ·rw[e1,fm,dK,gF]at au
       obtain⟨h1,h2⟩:=fX au.2.1 (fo h);exact absurd (bm c1.1 h1 h2) (by rw[e4 c1 dP];decide)
     subst d5;obtain⟨p,d,s⟩:=cc;have cv:=ChOk.tail (dn:=dn) (e1▸cu);obtain⟨⟨o1,c7,fk,bo⟩,_⟩:=cv;have b6:o1=o:=dj (c7.symm.trans ah);subst b6;have d7:Bu l p=some d:=by unfold Bu;rw[c7];exact bo
     have b0:d∈d0::O.map (·.2.1):=dQ _ (fo (f:=λx:Nat × Nat × Nat=>x.2.1) aw)
     -- what is put behind it,in a whole run in thought
     have aH:∀i,i<n->Bu Y i=some s->X i=true:=λi M hx=>by
      obtain⟨eV,e0⟩:=am i s M hx;have:=dt.1 (dt.1 eM _ aw) i (dH.2 M);rw[eV]at this;simp only[ep,fw]at this;rcases this with h|h
      ·rw[show Nat.beq s s=true from by simp]at h;cases h
      ·exact bm i h λe=>e0 (e▸ae)
     have b9:Sat RD R0 w0 nt G ⟨pT Y U X t n,pM U X m1 n,c+8*l.length,q+pC [] Y X n⟩ a W:=by rw[pC_nil'];exact z
     obtain⟨U2,X2,G2,a2,W2,d4,d2,cN,b8,cT⟩:=think E F H qo (.inl (Fj _)) bw hC b9 n AG;rw[List.drop_of_length_le qo]at cT;have bK:Ext tt Y n c t m1 U X U2 X2:=⟨cN,λj hj=>⟨by rw[d4 j,hj];rfl,d2 j hj⟩⟩;have J:=e9 U2 X2 bK _ cT;rw[dK]at J;unfold chn at J;rw[ext_t F bK aH]at J
     cases aF:lk (pT Y U X t n) s with
     |none=>rw[aF]at J;exact J.elim
     |some vs=>
     have d6:=H.cI F AG aF;rw[aF]at J;split at J
     ·rename_i j x1 n' x2 hv
      cases hv;obtain⟨b1,bS⟩:=d6 j (dl.2 rfl);rw[ext_m F H bK bS]at J;simp only at J
      cases ba:((Nat.beq b1.kd 3||Nat.beq b1.kd 1)&&Nat.beq b1.sz e'.size&&Nat.beq b1.ty e.el) with
      |false=>rw[ba]at J;exact J.elim
      |true=>
      rw[ba,eY]at J;have bz:=ba;simp only[di,ep]at bz;obtain⟨⟨k1,k2⟩,k3⟩:=bz;have k1:b1.kd=3\/b1.kd=1:=k1.imp dh dh;obtain⟨n1,n2,n3⟩:=J;have ex:=(Jd k1 n3).1;have d8:a.eval (.tmp s)=.slice (G.α j) n' x2:=QP (z.tmp s _ aF).1;obtain⟨g',aB,W',ey,a7,b4,cf,bD⟩:=Up (q:=q) (w0:=w0) (a:=a) (G:=G) (w:=W) (j:=j) (b:=b) (b':=b1) (els:=els) (c2:=x2) E fk rfl cn bn co cq cb (by rw[fK,dK,dK,ed,QP e8,d8]) e6 (z.mem j b1 bS).2.1 k1 n1 ex n2 e5.2.2.1 (dh k2) e5.2.1 e7.2.2.1 λk hk=>(z.z3 k hk).1
      have aa:=hK (.slice (qad g') (b.n+n') aB) W';rw[bo]at aa;refine wp_val a8 ey ?_;rw[bo];have f0:g<W.heap.size:=e7.2.1;refine aa ⟨_,G,aJ,ev g e7 W' b4 d _ d7 b0,.inr ⟨dn++[(p,d,s)],rs,g',cf,Ft b b1 n' aB,by rw[e1,eI];rfl,?_,λx hx=>?_,λx hx=>?_,⟨rfl,e5.2.1,e5.2.2.1,rfl⟩,bD,?_,?_,λU3 X3 dx K3 h3=>?_⟩⟩
      ·rw[Bw (fX aI a9).2];exact e2
      ·rcases dO.1 hx with hx|hx
       ·by_cases e:x.1=p
        ·rw[e];exact Ce
        ·rw[Bw e];exact e3 x hx
       ·rw[dl.1 hx];exact Ce
      ·rw[e1,fm,dK,gF]at au
       rw[Bw (fX au.2.1 (fo hx)).2.symm];exact e4 x (dQ _ hx)
      ·refine⟨a7.elim (λe=>e▸e7.1) λe=>by have:=z.fr.size;omega,bD.2.2.1.lt,λh=>a7.elim (λe=>e7.2.2.1 (e▸h)) λe=>absurd (z.z3 g' h).1 qo,λh=>a7.elim (λe=>e7.2.2.2.1 (e▸h)) λe=>absurd (z.rl g' h) qo,λx bx aS bd e=>?_⟩
       have aS:=(hM x).symm.trans aS;rcases a7 with rfl|h
       ·exact e7.2.2.2.2 x bx aS bd e
       ·obtain⟨gj,de,_,_,_,f7⟩:=((z.mem x bx aS).2.1).aW bd
        rw[de]at e;cases e;omega
      ·rw[OZ]
       show(a.put (some d) _).tmps[d]?=_;rw[Gk,dv rfl,dv (by rw[z.bX];exact b2 d bo)];rfl
      ·have bO:=dx.up Z
       have h4:=e9 U3 X3 bO K3 h3;rw[dK]at h4;unfold chn at h4;rw[ext_t F bO aH,aF]at h4;simp only[ext_m F H bO bS,ba,eY]at h4;exact(Jd k1 h4.2.2).2 aB
     ·exact J.elim
  ·have bb:Y[i]?=some o:=by
    rw[aq i M,ah,eO]
    cases hp:(CZ p0 O).any (Nat.beq i) with
    |true=>exact absurd (any_mem.1 hp) ae
    |false=>rfl
   have b9:Sat RD R0 w0 nt G ⟨pT Y U X t n,pM U X m1 n,c+8*l.length,q+pC [] Y X n⟩ a W:=by rw[pC_nil'];exact z
   have ct:Al [] o=0:=by have:=Fj [o];unfold BS at this;omega
   have a6:=exec E F H (cE:=c+8*l.length) qo z M bb Z hr b2 (.inl ct) (Rp E F H qo (.inl (Fj _)) bw hC b9 M bb Z hr) (K:=K) λv es G' W' al b8 ee=>hK _ W' ⟨EB U i (v,es),G',al,by rw[ct]at b8;exact b8,aC.step Z ae ee λdn rs he hd=>by
    obtain⟨p,hp,en⟩:=OY (dn:=dn) cw (he▸cu)
    have cM:p∈CZ p0 O:=by
     rcases dJ.1 hp with h|h
     ·exact h▸dP
     ·rw[he];unfold CZ;rw[fm];exact dQ _ (List.mem_append_left _ h)
    refine aj i p _ M (be p cM) (λe=>ae (e▸cM)) ?_ en
    unfold Bu;rw[ah];exact hd⟩
   unfold wpList at a6 ⊢;unfold Region.wanted at a6 ⊢;rw[a8]at a6 ⊢;exact a6
 ·intro a W hI
  obtain⟨U,G,H,z,aC⟩:=hI
  have hX:∀j,j<n->(λj=>(CF l.toArray n).getD j false) j=true:=λj hj=>by
   show(CF l.toArray n).getD j false=true;unfold CF;rw[fO,Array.getElem?_ofFn,dif_pos qp];simp[hj]
  generalize (λj=>(CF l.toArray n).getD j false)=X at *;have c5:=chain F H hC n AG hX;rw[List.drop_of_length_le qo]at c5;rcases aC with h|⟨dn,rs,g,els,b,e1,e2,e3,e4,e5,e6,e7,e8,e9⟩
  ·exact absurd (h p0 dP) (by rw[hX p0 (be p0 dP)];decide)
  ·cases rs with
   |cons c1 rs=>exact absurd (e4 c1 dP) (by rw[hX c1.1 (be _ (dQ _ (fo (by rw[e1];exact List.mem_append_right _ dP))))];decide)
   |nil=>
   rw[fU]at e1;subst e1;have an:=e9 U X ⟨H,λj hj=>⟨hj,rfl⟩⟩ _ c5;have an:vOr tt [] l (c+8*(l.length+1)) (l.drop n) n _ _ _:=an;rw[Oy]at an;have s1:=z.add (id:=c+8*l.length) (c':=c+8*(l.length+1)+8*n) (ad:=⟨g,0,none⟩) (b1:=b) AG qo e5.2.2.2 ⟨λh=>(nomatch e5.1.symm.trans h),λh=>(nomatch e5.1.symm.trans h),λh=>(nomatch e5.1.symm.trans h),λ_=>⟨g,els,dv rfl,e7.1,e7.2.2.1,e7.2.2.2.1,e6⟩,λh=>(nomatch e5.1.symm.trans h),.inr (.inr (.inr (.inl e5.1)))⟩ e7.2.2.2.2
   have s2:=s1.know (d:=LJ d0 O) (v:=.iface (c+8*l.length) (Sl none b.n b.cp)) (by rw[e8];show _=some (Value.slice (if _=_ then _ else _) _ _);rw[dv rfl]) λy hy=>by
    cases dl.1 (show y∈[c+8*l.length] from hy);exact⟨b,Ae _ _ _⟩
   refine JZ E (ops:=l) (l.drop n) n _ _ _ a W q ?_ an s2 (.inl (Fj _)) λt' m' G' a' w' hk cQ=>⟨rfl,_,G',hk,?_⟩
   ·exact dt.2 λo ho=>dt.1 bT o (eE ho)
   ·rw[show n+(l.drop n).length=l.length by simp;omega,Fj]at cQ
    exact cQ
section
variable {P:Program} {RD:(Nat->Prop)->World->Nat->Nat->Prop} {tt:List TE} {Γ:List (Nat × Nat × Ct)} {nt id:Nat} {ops:Array Oper} {d:Bool}
def Rh(tt:List TE)(Γ:List (Nat × Nat × Ct))(ops:List Oper)(s:St)(k:St->Prop):Prop:=∃s',Ent s s'/\vRr tt Γ ops s' k
def cutS(C:St->(St->Prop)->Prop)(s:St)(k:St->Prop):Prop:=∃s',Ent s s'/\C s' k
theorem cutS_ok(E:Env P RD tt Γ){C:St->(St->Prop)->Prop}(h:K1 P RD nt id ops d C):K1 P RD nt id ops d (cutS C):=by
 rintro R0 w0 k s G a w ⟨J,F,hC⟩ H;obtain⟨G',z⟩:=H.ent E F;exact h R0 w0 k J G' a w hC z
theorem Gs(E:Env P RD tt Γ)(z:P.follows .mixedOrders=true)(W:FG [] nt (.region id ops d)=true):K1 P RD nt id ops d (Rh tt Γ ops.toList):=by
 rintro R0 w0 k s G a w ⟨Z,O,hv⟩ Y;obtain⟨G',F⟩:=Y.ent E O;rw[vRr_eq]at hv;refine jf (EA (R0:=R0) (w0:=w0) E (.region id ops d) (λe s=>match e with| .normal=>k s|_=>False) Z G' a w (Cb E z _ (.nil _) W) (by rw[vw];exact hv) F) ?_;rintro e a' w' ⟨s1,J,H,M⟩;cases e<;>first|exact⟨rfl,s1,J,H,M⟩|exact H.elim
end
def Hq(i:Nat)(c:Code):List Oper:=match PJ i c with
 |(a,_)::_=>a.toList
 |[]=>[]
end
end Go.Proofs.YtbceafpodamnfaaGreatDoor
