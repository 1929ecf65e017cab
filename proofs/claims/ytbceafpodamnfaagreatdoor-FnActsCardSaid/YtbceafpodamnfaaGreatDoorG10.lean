import Derived.Test.YtbceafpodamnfaaGreatDoorG09
set_option linter.all false
set_option maxHeartbeats 4000000
set_option maxRecDepth 100000
namespace Go.Proofs.YtbceafpodamnfaaGreatDoor
section
open Go.RowKit
def nop(o:Oper):Oper:={o with dst:=none,op:=.move (.const (.bool true))}
def msk(ps:List Nat):Nat->List Oper->List Oper
 |_,[]=>[]
 |i,o::r=>(bif ps.any (Nat.beq i) then nop o else o)::msk ps (i+1) r
def chn(t:Tm)(m:AY)(ty sz:Nat):List Nat->VB->(VB->Prop)->Prop
 |[],b,k=>k b
 |s::r,b,k=>match lk t s with
  |some (.iface j (.slice _ n' _))=>match lk m j with
   |some b'=>bif (Nat.beq b'.kd 3||Nat.beq b'.kd 1)&&Nat.beq b'.sz sz&&Nat.beq b'.ty ty then n'<=b'.n/\b.n+n'<=1000000000/\srcC b' n' (∀c',chn t m ty sz r (E9 b b' n' c') k) else False
   |none=>False
  |_=>False
def Jl:Nat->List (Nat × Nat × Nat)->Nat
 |d,[]=>d
 |_,(_,d,_)::r=>Jl d r
def setl:List Nat->AY->AY
 |[],m=>m
 |i::r,m=>setl r (match lk m i with
  |some b=>bif Nat.beq b.kd 3 then Hm m i (GB (some b)) else m
  |none=>m)
def capP(m:AY):List Nat->Prop
 |[]=>True
 |i::r=>(match lk m i with
  |some b=>bif Nat.beq b.kd 3 then b.n<=b.cp else True
  |none=>True)/\capP m r
abbrev CJ (p0:Nat) (ch:List (Nat × Nat × Nat)):List Nat:=p0::ch.map (·.1)
def vC(tt:List TE)(l:List Oper)(n T p0 d0:Nat)(ch:List (Nat × Nat × Nat))(s:St)(k:St->Prop):Prop:=∃I,capP s.m I->match tyo tt T with
 |some e=>match tyo tt e.el with
  |some e'=>bif ((d0::ch.map (·.2.1)).all λd=>(lk s.t d).isNone)&&Nat.beq e.u 3&&Nat.beq e'.zero.length e'.size&&Nat.ble 1 e'.size then
    QI (setl I s.m) λm=>vOr tt [] (msk (CJ p0 ch) 0 (l.take n)) s.c (msk (CJ p0 ch) 0 (l.take n)) 0 s.t m λt m=>chn t m e.el e'.size (ch.map (·.2.2)) (Dd e.el e'.size []) λb=>
     vOr tt [] l (s.c+8*(l.length+1)) (l.drop n) n ((Jl d0 ch,.iface (s.c+8*l.length) (.slice none b.n b.cp))::t) ((s.c+8*l.length,b)::m) λt m=>k ⟨t,m,s.c+8*(l.length+1)+8*l.length,s.q⟩ else False
  |none=>False
 |none=>False
theorem NV(ps:List Nat):∀(l:List Oper) (i j:Nat),(msk ps i l)[j]?=(l[j]?).map λo=>bif ps.any (Nat.beq (i+j)) then nop o else o
 |[],_,_=>rfl
 |o::r,i,0=>rfl
 |o::r,i,j+1=>by
  show(msk ps (i+1) r)[j]?=_;rw[NV ps r (i+1) j,show i+1+j=i+(j+1) by omega];rfl
theorem RJ(ps:List Nat):∀(l:List Oper) (i:Nat),(msk ps i l).length=l.length
 |[],_=>rfl
 |_::r,i=>em (·+1) (RJ ps r (i+1))
theorem any_mem{ps:List Nat}{i:Nat}:ps.any (Nat.beq i)=true↔i∈ps:=by
 rw[fm];exact⟨λ⟨p,F,h⟩=>by rw[cX h];exact F,λh=>⟨i,h,by simp⟩⟩
theorem Rp{ps:List Nat}{l:List Oper}{n i j:Nat}(F:i<n):Region.waitsFor .any (msk ps 0 (l.take n)).toArray i j=Region.waitsFor .any l.toArray i j:=by
 unfold Region.waitsFor;simp only[List.getElem?_toArray,NV,dJ,eK,dB F]
 cases l[i]? with
 |none=>rfl
 |some o=>cases h:ps.any (Nat.beq i)<;>simp[h,nop]
theorem MT{ps:List Nat}{l:List Oper}{n:Nat}:∀f p i,p<n->Bf (msk ps 0 (l.take n)).toArray f p i=Bf l.toArray f p i
 |0,_,_,_=>rfl
 |f+1,p,i,H=>by
  unfold Bf
  congr 1
  rw[gF,fm,fm]
  constructor<;>rintro⟨j,F,h⟩<;>refine⟨j,F,?_⟩<;>have J:=MT (ps:=ps) (l:=l) (n:=n) f j i (by have:=dA.1 F;omega)<;>simpa only[Rp H,J] using h
theorem Ey:∀l:List Oper,Au [] l=0
 |[]=>rfl
 |o::r=>by
  unfold Au;rw[Ey r];unfold Af
  split<;>rfl
theorem pC_nil'{l:List Oper}{X:Nat->Bool}:∀k,pC [] l X k=0
 |0=>rfl
 |k+1=>by
  unfold pC;rw[pC_nil' k]
  cases X k with
  |false=>rfl
  |true=>
   cases l[k]? with
   |none=>rfl
   |some o=>show 0+Af [] o=0;have:=Ey [o];unfold Au at this;omega
theorem RR{sz:Nat}:∀{els:List (List Value)},(∀el∈els,el.length=sz)->∀n,(els.drop n).flatten=els.flatten.drop (n*sz)
 |[],_,_=>by simp
 |e::r,_,0=>by simp
 |e::r,h,n+1=>by
  have H:=h e dK;rw[dl,fe,RR (λel F=>h el (dN _ F)) n,show(n+1)*sz=e.length+n*sz by rw[H,fi];omega,List.drop_length_add_append]
theorem RowK.cJ{Z:Nat->Prop}{w:World}{g ty sz cp:Nat}{X:Type}{f:X->List Value}{l:List X}{els:List (List Value)}(h:RowK Z w g (An ty sz cp f l) els):els=l.map f:=by
 refine fp λj=>?_
 rw[eh];have M:els.length=l.length:=h.1
 cases F:els[j]? with
 |none=>
  rw[fL]at F;rw[dZ (by omega)];rfl
 |some el=>
  have J:=(AC F).1;obtain⟨x,hx⟩:∃x,l[j]?=some x:=⟨l[j]'(by omega),by simp⟩;have:=(h.2.2.2 j el F).1 (λe=>e=f x) λy H=>by rw[hx]at H;cases H;rfl
  rw[hx,this];rfl
theorem RowK.of{Z:Nat->Prop}{w:World}{g ty sz cp:Nat}{X:Type}{f:X->List Value}{l:List X}(hf:∀x,(f x).length=sz/\∀v∈f x,v.oneCell'=true/\∀β,r0 β v=v)(h:RowIs w ty sz g l.length cp (l.map f).flatten):RowK Z w g (An ty sz cp f l) (l.map f):=by
 refine⟨by rw[fw];rfl,λel H=>?_,h,λj el F=>⟨λk hk=>?_,λ_ _=>trivial⟩⟩
 ·obtain⟨x,_,rfl⟩:=fz.1 H
  exact hf x
 ·rw[eh]at F
  cases hx:l[j]? with
  |none=>rw[hx]at F;cases F
  |some x=>rw[hx]at F;cases F;exact hk x hx
theorem Nm(x:Cp):(cpL x).length=7/\∀v∈cpL x,v.oneCell'=true/\∀β,r0 β v=v:=by
 refine⟨rfl,λv hv=>?_⟩;simp only[cpL,dy,dH,eP]at hv;rcases hv with rfl|rfl|rfl|rfl|rfl|rfl|rfl<;>exact⟨rfl,λ_=>rfl⟩
theorem NA(x:Svc):(svL x).length=13/\∀v∈svL x,v.oneCell'=true/\∀β,r0 β v=v:=by
 refine⟨rfl,λv hv=>?_⟩;simp only[svL,dy,dH,eP]at hv;rcases hv with rfl|rfl|rfl|rfl|rfl|rfl|rfl|rfl|rfl|rfl|rfl|rfl|rfl<;>exact⟨rfl,λ_=>rfl⟩
theorem Np(x:Bt):(btL x).length=2/\∀v∈btL x,v.oneCell'=true/\∀β,r0 β v=v:=by
 refine⟨rfl,λv hv=>?_⟩;simp only[btL,dy,dH,eP]at hv;rcases hv with rfl|rfl<;>exact⟨rfl,λ_=>rfl⟩
theorem Gy{ρ:List (Nat × Nat)}{ty sz cp c n':Nat}{X:Type}{f:X->List Value}{b b':VB}{l l':List X}(hb:LeB ρ b (An ty sz cp f l))(Y:l'.length=n')(M:∀j,j<n'->∀k,(∀x,l'[j]?=some x->k (f x))->b'.Q j k):LeB ρ (E9 b b' n' c) (An ty sz c f (l++l')):=by
 have F:b.n=l.length:=(hb.n3 rfl).1;have J:(E9 b b' n' c).n=(l++l').length:=by rw[dE,Y,<-F];rfl
 refine⟨rfl,hb.ty,hb.sz,fH J.symm,λ_=>⟨J,rfl⟩,rfl,λj H k hk=>⟨λh=>?_,λh=>?_⟩,λ_ _ _=>trivial,λh=>(nomatch h)⟩
 ·refine hb.Q j (by show j<l.length;omega) k λx hx=>hk x ?_
  rw[dU (by omega)];exact hx
 ·have H:j<(l++l').length:=H
  rw[dE]at H;refine M _ (by omega) k λx hx=>hk x ?_
  rw[dX (by omega),<-F];exact hx
theorem NU{ρ:List (Nat × Nat)}{ty sz:Nat}{X:Type}{f:X->List Value}:LeB ρ (Dd ty sz []) (An ty sz 0 f ([]:List X)):=⟨rfl,rfl,rfl,AG _,λ_=>⟨rfl,rfl⟩,rfl,λ_ h=>absurd h (gr _),λ_ _ _=>trivial,λh=>(nomatch h)⟩
theorem Fo{ρ:List (Nat × Nat)}{ty sz c1 c2 c3 m:Nat}{X:Type}{f:X->List Value}{l:List X}{x:X}{k d:Nat}{b:VB}(hk:k<=l.length)(M:d+m=l.length)(hb:∀j kk,(∀x,l[d+j]?=some x->kk (f x))->b.Q j kk):
  LeB ρ (E9 (E9 (E9 (Dd ty sz []) (EP (A9 ty sz f l) 0 k) k c1) (Dd ty sz [f x]) 1 c2) b m c3) (An ty sz c3 f (l.take k++x::l.drop d)):=by
 have J:=Gy (c:=c1) (n':=k) (b':=EP (A9 ty sz f l) 0 k) (l':=l.take k) (NU (ρ:=ρ) (ty:=ty) (sz:=sz) (f:=f)) (by rw[dG];omega) λj H kk h x hx=>h x (by rw[eK,dB H];rw[dJ]at hx;exact hx)
 have e2:=Gy (c:=c2) (n':=1) (b':=Dd ty sz [f x]) (l':=[x]) J rfl λj H kk h el F=>by
  obtain rfl:j=0:=by omega
  cases F;exact h x rfl
 have e3:=Gy (c:=c3) (n':=m) (b':=b) (l':=l.drop d) e2 (by rw[dW];omega) λj _ kk h=>hb j kk λx hx=>h x (by rw[ej];exact hx)
 rw[eZ,eB]at e3;exact e3
theorem RY{ρ:List (Nat × Nat)}{ty sz c1 c2:Nat}{X:Type}{f:X->List Value}{l:List X}{k:Nat}(hk:k<l.length):
  LeB ρ (E9 (E9 (Dd ty sz []) (EP (A9 ty sz f l) 0 k) k c1) (EP (A9 ty sz f l) (k+1) (l.length - (k+1))) (l.length - (k+1)) c2) (An ty sz c2 f (l.take k++l.drop (k+1))):=by
 have H:=Gy (c:=c1) (n':=k) (b':=EP (A9 ty sz f l) 0 k) (l':=l.take k) (NU (ρ:=ρ) (ty:=ty) (sz:=sz) (f:=f)) (by rw[dG];omega) λj F kk h x hx=>h x (by rw[eK,dB F];rw[dJ]at hx;exact hx)
 exact Gy (c:=c2) (l':=l.drop (k+1)) H (by rw[dW]) λj _ kk h x hx=>h x (by rw[ej];exact hx)
theorem C2{ρ:List (Nat × Nat)}{F cs:qL}{ty:Nat}(h:F=cs.map (rn0 ρ)):LeB ρ (AT F ty) (AT cs ty):=⟨rfl,rfl,rfl,AG _,λh=>(nomatch h),h,λ_ _ _ h=>h,λ_ _ h=>h,λh=>(nomatch h)⟩
theorem BK{ρ:List (Nat × Nat)}{ty sz cp:Nat}{X:Type}{f:X->List Value}{l:List X}{b:VB}{a o:Nat}{vs:qL}{x x':X}(hb:LeB ρ b (An ty sz cp f l))(hx:l[a]?=some x)(h:IOa (f x) o vs=f x'):LeB ρ (Ix b a o vs) (An ty sz cp f (l.set a x')):=by
 have J:=(AC hx).1;have Y:b.n=l.length:=(hb.n3 rfl).1;have H:(An ty sz cp f (l.set a x')).n=l.length:=by show(l.set a x').length=_;rw[du]
 refine⟨rfl,hb.ty,hb.sz,by rw[H];exact fH Y.symm,λ_=>⟨by rw[H];exact Y,(hb.n3 rfl).2⟩,rfl,λj M k hk=>⟨λe=>?_,λe=>?_⟩,λ_ _ _=>trivial,λh=>(nomatch h)⟩
 ·subst e
  refine hb.Q j J _ λy F=>?_
  rw[hx]at F;cases F;show k (IOa (f x) o vs);rw[h];exact hk x' (by rw[fc,dB rfl,dB J])
 ·refine hb.Q j (by rw[H]at M;exact M) _ λy F=>hk y (by rw[fc,dC (λh=>e h.symm)];exact F)
section
variable {P:Program} {RD:(Nat->Prop)->World->Nat->Nat->Prop} {w0:World} {R0:Ro} {nt:Nat} {tt:List TE} {G:Gh} {a a':Act} {w W:World} {t:Tm} {m:AY} {c q:Nat}
theorem Sat.aB{s:St}{g:Nat}(hR:B9 RD)(h:Sat RD R0 w0 nt G s a w)(M:w.grownBy W (some g))(h0:w0.heap.size<=g)(ag:¬G.Z g)(ai:¬G.RB g)(ho:∀i b,lk s.m i=some b->DQ b->G.α i≠some ⟨g,0,none⟩)(hd:a'.defers=a.defers)(hz:a'.tmps.size=a.tmps.size)(ht:∀i v,lk s.t i=some v->a'.tmps[i]?=a.tmps[i]?):Sat RD R0 w0 nt G s a' W:=by
 have hb:∀k,k<w.heap.size->k≠g->W.heap[k]?=w.heap[k]?:=λk hk ak=>M.block k hk λe=>ak (dg e)
 have hZ:∀k,G.Z k->W.heap[k]?=w.heap[k]?:=λk hk=>hb k (h.z3 k hk).1 λe=>ag (e▸hk)
 refine⟨hd.trans h.bO,hz.trans h.bR,λi v hv=>⟨(ht i v hv).trans (h.tmp i v hv).1,(h.tmp i v hv).2⟩,λi b J=>⟨(h.mem i b J).1,?_,(h.mem i b J).2.2⟩,h.bM,λk hk=>⟨AF (h.z3 k hk).1 M.size,(h.z3 k hk).2⟩,⟨M.os.trans h.fr.os,M.tape.trans h.fr.tape,M.output.trans h.fr.output,AH h.fr.size M.size,λk hk hn=>(hb k (AF hk h.fr.size) (by omega)).trans (h.fr.block k hk hn)⟩,h.rb,λk hk=>AF (h.rl k hk) M.size,h.bi,h.al,AH h.sz M.size⟩;have Y:=(h.mem i b J).2.1;have Z:DQ b->∀F,G.α i=some ⟨F,0,none⟩->F≠g:=λaf F H e=>ho i b J af (by rw[H,e])
 refine⟨λh0=>?_,λh1 j hj=>?_,λh2=>?_,λh3=>?_,λh4=>?_,Y.kk⟩
 ·obtain⟨F,H,e2,e3,e4,e5⟩:=Y.k0 h0
  exact⟨F,H,e2,e3,e4,(hb F (AB e5).1 (Z (.inl h0) F H)).trans e5⟩
 ·obtain⟨F,o,el,H,e2,e3,e4⟩:=Y.k1 h1 j hj
  exact⟨F,o,el,H,e2,e3,e4.step e2 (λ_ h=>h) hZ⟩
 ·obtain⟨F,o,H,e2,e4⟩:=Y.k2 h2
  exact⟨F,o,H,e2,e4.step e2 (λ_ h=>h) hZ⟩
 ·obtain⟨F,els,H,e2,e3,e4,e5⟩:=Y.k3 h3
  exact⟨F,els,H,e2,e3,e4,e5.step (hb F e5.2.2.1.lt (Z (.inr h3) F H)) (λ_ h=>h) hZ⟩
 ·obtain⟨F,H,e2,e3⟩:=Y.k4 h4
  exact⟨F,H,e2,hR _ _ _ _ _ _ _ e3 (λ_ h=>h) (hb F (h.rl F e2) λe=>ai (e▸e2)) hZ (AG _)⟩
theorem Sat.know{d:Nat}{v:Value}(h:Sat RD R0 w0 nt G ⟨t,m,c,q⟩ a w)(hx:a.tmps[d]?=some (r2 G.α v))(H:Clo m (BS v)):Sat RD R0 w0 nt G ⟨(d,v)::t,m,c,q⟩ a w:=
 ⟨h.bO,h.bR,λi u F=>by
  by_cases e:d=i
  ·subst e;rw[Ad]at F;cases F;exact⟨hx,H⟩
  ·rw[At e]at F;exact h.tmp i u F,h.mem,h.bM,h.z3,h.fr,h.rb,h.rl,h.bi,h.al,h.sz⟩
theorem Sat.settle(hR:B9 RD){i:Nat}{b:VB}(h:Sat RD R0 w0 nt G ⟨t,m,c,q⟩ a w)(hb:lk m i=some b)(hk:b.kd=3):∃G',Sat RD R0 w0 nt G' ⟨t,Hm m i (GB (some b)),c,q⟩ a w:=by
 obtain⟨g,els,hg,g1,g2,g3,r1,r2',r3,r4⟩:=((h.mem i b hb).2.1).k3 hk;have af:(Nat.beq b.kd 1||Nat.beq b.kd 3)=true:=by rw[hk];rfl
 have hu:∀j J,lk (Hm m i (GB (some b))) j=some J->(j=i/\J=GB (some b))\/(j≠i/\lk m j=some J):=λj J M=>by
  rw[FF m i j _ b hb]at M;split at M
  ·rename_i e;exact .inl ⟨e,(dg M).symm⟩
  ·rename_i e;exact .inr ⟨e,M⟩
 have ai:∀l,Clo m l->Clo (Hm m i (GB (some b))) l:=λl hl=>hl.mono λj J M=>by
  rw[FF m i j _ b hb];split
  ·exact⟨_,rfl⟩
  ·exact⟨J,M⟩
 have am:¬DQ (GB (some b)):=by rw[Ec af];exact λh=>by rcases h with h|h<;>cases h
 refine⟨⟨G.α,λk=>G.Z k\/k=g,G.RB⟩,h.bO,h.bR,λj v hv=>⟨(h.tmp j v hv).1,ai _ (h.tmp j v hv).2⟩,λj J M=>?_,λj J j' ah M au ho al aa=>?_,λk hk=>?_,h.fr,h.rb,h.rl,h.bi,h.al,h.sz⟩
 ·rcases hu j J M with⟨rfl,rfl⟩|⟨aa,M⟩
  ·refine⟨(h.mem j b hb).1,?_,by rw[Ec af];exact λ_ h=>(nomatch h)⟩
   rw[Ec af];refine⟨λh=>(nomatch h),λ_ y hy=>?_,λh=>(nomatch h),λh=>(nomatch h),λh=>(nomatch h),.inr (.inl rfl)⟩;have hy:y<b.n:=hy;obtain⟨el,Z⟩:∃el,els[y]?=some el:=⟨els[y]'(by omega),by simp⟩;have hl:=r2' el (AE Z);refine⟨g,0,el,hg,.inr rfl,(r4 y el Z).1,λx v hv=>⟨?_,(hl.2 v (AE hv)).2⟩,λW hW=>(r4 y el Z).2 W λk hk=>hW k (.inl hk)⟩;rw[dJ];refine r3.cell ?_;rw[Nf (λe he=>(r2' e he).1) y el Z x (by have:=(AC hv).1;rw[hl.1]at this;exact this)];exact hv
  ·obtain⟨h1,h2,h3⟩:=h.mem j J M
   have ak:DQ J->∀H,G.α j=some ⟨H,0,none⟩->H≠g:=λho H F e=>h.bM j J i b M hb ho (.inr hk) aa (by rw[F,hg,e])
   refine⟨h1,⟨λY=>?_,λY x hx=>?_,λY=>?_,λY=>?_,λY=>?_,h2.kk⟩,ai _ h3⟩
   ·obtain⟨H,F,e2,e3,e4,e5⟩:=h2.k0 Y
    exact⟨H,F,e2,λh=>h.elim e3 (ak (.inl Y) H F),e4,e5⟩
   ·obtain⟨H,o,el,F,e2,e3,e4⟩:=h2.k1 Y x hx
    exact⟨H,o,el,F,.inl e2,e3,e4.step e2 (λ_ h=>.inl h) (λ_ _=>rfl)⟩
   ·obtain⟨H,o,F,e2,e4⟩:=h2.k2 Y
    exact⟨H,o,F,.inl e2,e4.step e2 (λ_ h=>.inl h) (λ_ _=>rfl)⟩
   ·obtain⟨H,els,F,e2,e3,e4,e5⟩:=h2.k3 Y
    exact⟨H,els,F,e2,λh=>h.elim e3 (ak (.inr Y) H F),e4,e5.step rfl (λ_ h=>.inl h) (λ_ _=>rfl)⟩
   ·obtain⟨H,F,e2,e3⟩:=h2.k4 Y
    exact⟨H,F,e2,hR _ _ _ _ _ _ _ e3 (λ_ h=>.inl h) rfl (λ_ _=>rfl) (AG _)⟩
 ·rcases hu j J M with⟨F,e2⟩|⟨_,F⟩<;>rcases hu j' ah au with⟨f1,f2⟩|⟨_,f1⟩
  ·exact absurd (F.trans f1.symm) aa
  ·subst e2;exact absurd ho am
  ·subst f2;exact absurd al am
  ·exact h.bM j J j' ah F f1 ho al aa
 ·rcases hk with hk|rfl
  ·exact h.z3 k hk
  ·exact⟨r3.lt,g3⟩
theorem Sat.caps(h:Sat RD R0 w0 nt G ⟨t,m,c,q⟩ a w):∀I:List Nat,capP m I
 |[]=>trivial
 |i::r=>by
  refine⟨?_,h.caps r⟩
  cases hb:lk m i with
  |none=>trivial
  |some b=>
   show(bif Nat.beq b.kd 3 then _ else _)
   cases hk:Nat.beq b.kd 3 with
   |false=>trivial
   |true=>
    obtain⟨g,els,_,_,_,_,_,_,r3,_⟩:=((h.mem i b hb).2.1).k3 (cX hk);exact r3.2.1
theorem Sat.bV(F:B9 RD):∀(I:List Nat) {m:AY} {G:Gh},Sat RD R0 w0 nt G ⟨t,m,c,q⟩ a w->∃G',Sat RD R0 w0 nt G' ⟨t,setl I m,c,q⟩ a w
 |[],_,G,h=>⟨G,h⟩
 |i::r,m,G,h=>by
  unfold setl;split
  ·rename_i b hb
   cases hk:Nat.beq b.kd 3 with
   |false=>exact Sat.bV F r h
   |true=>
    obtain⟨G',H⟩:=h.settle F hb (cX hk);exact Sat.bV F r H
  ·exact Sat.bV F r h
end
section
variable {P:Program} {RD:(Nat->Prop)->World->Nat->Nat->Prop} {w0:World} {R0:Ro} {nt:Nat} {tt:List TE} {l:List Oper} {n c:Nat} {t:Tm} {m:AY} {U U':Nat->Value × AY} {X X':Nat->Bool}
def Ext(tt:List TE)(l:List Oper)(n c:Nat)(t:Tm)(m:AY)(U:Nat->Value × AY)(X:Nat->Bool)(U':Nat->Value × AY)(X':Nat->Bool):Prop:=Run tt [] l n c t m U' X'/\∀j,X j=true->X' j=true/\U' j=U j
theorem ext_t(F:Fix l n c t m)(h:Ext tt l n c t m U X U' X'){s:Nat}(M:∀i,i<n->BR l i=some s->X i=true):lk (pT l U' X' t n) s=lk (pT l U X t n) s:=
 Ma F.aQ (AG _) (AG _) λj H Y=>by
  have J:=M j H Y;obtain⟨W,Z⟩:=h.2 j J;exact⟨⟨λ_=>⟨H,J⟩,λ_=>⟨H,W⟩⟩,λ_ _=>Z⟩
theorem ext_m(F:Fix l n c t m)(M:Run tt [] l n c t m U X)(h:Ext tt l n c t m U X U' X'){i:Nat}{b:VB}(hb:lk (pM U X m n) i=some b):lk (pM U' X' m n) i=some b:=
 (Do F.m0 (h.1.aU F) (AG _)).2 (((Do F.m0 (M.aU F) (AG _)).1 hb).imp id λ⟨j,J,H,W⟩=>⟨j,J,(h.2 j H).1,by rw[(h.2 j H).2];exact W⟩)
theorem Ext.up{i:Nat}{p:Value × AY}(J:X i=false)(h:Ext tt l n c t m (C0 U i p) (CI X i) U' X'):Ext tt l n c t m U X U' X':=⟨h.1,λj H=>by
 have F:j≠i:=λe=>by rw[e,J]at H;cases H
 obtain⟨M,W⟩:=h.2 j (by rw[BE F];exact H)
 exact⟨M,by rw[W,CB F]⟩⟩
theorem nop_more(F:Fix l n c t m)(h:Run tt [] l n c t m U X){i:Nat}{o:Oper}(hi:i<n)(ho:l[i]?=some (nop o))(hg:o.guard=none)(hX:X i=false)(hr:∀Z,Bf l.toArray n i Z=true->Z≠i->X Z=true):
  Run tt [] l n c t m (C0 U i (.bool true,[])) (CI X i)/\(∀x,lk (pT l (C0 U i (.bool true,[])) (CI X i) t n) x=lk (pT l U X t n) x)/\∀x,lk (pM (C0 U i (.bool true,[])) (CI X i) m n) x=lk (pM U X m n) x:=by
 have hd:BR l i=none:=by unfold BR;rw[ho];rfl
 have H:=h.cR (p:=(.bool true,[])) F hi ho hX hr ⟨.inr ⟨by unfold DR;rw[show(nop o).guard=none from hg],[.bool true],rfl,λk hk=>by rw[BH];exact hk⟩,by rw[BH];exact λ_ h=>(nomatch h),by rw[BH];exact λ_ _ h=>(nomatch h)⟩;refine⟨H,λx=>Ma F.aQ (AG _) (AG _) λj hj J=>?_,λx=>?_⟩
 ·have Y:j≠i:=λe=>by rw[e,hd]at J;cases J
  rw[BE Y,CB Y];exact⟨Iff.rfl,λ_ _=>rfl⟩
 ·apply Option.ext
  intro b;rw[Do F.m0 (H.aU F) (AG _),Do F.m0 (h.aU F) (AG _)];refine or_congr Iff.rfl ⟨?_,?_⟩<;>rintro⟨j,h1,W,M⟩<;>refine⟨j,h1,?_⟩
  ·by_cases e:j=i
   ·subst e;rw[BH]at M;cases M
   ·rw[BE e]at W;rw[CB e]at M;exact⟨W,M⟩
  ·have e:j≠i:=λe=>by rw[e,hX]at W;cases W
   rw[BE e,CB e];exact⟨W,M⟩
def ChI(tt:List TE)(w0:World)(l:List Oper)(n c:Nat)(t:Tm)(m:AY)(ty sz p0 d0:Nat)(ch:List (Nat × Nat × Nat))(U:Nat->Value × AY)(X:Nat->Bool)(G:Gh)(a:Act)(W:World):Prop:=
 (∀p∈CJ p0 ch,X p=false)\/∃dn rs g els b,ch=dn++rs/\X p0=true/\(∀c∈dn,X c.1=true)/\(∀c∈rs,X c.1=false)/\(b.kd=3/\b.ty=ty/\b.sz=sz/\b.cs=[])/\RowK G.Z W g b els/\Free w0 G (pM U X m n) W g/\a.tmps[Jl d0 dn]?=some (.slice (qad g) b.n b.cp)/\
  ∀U' X',Ext tt l n c t m U X U' X'->∀K,chn (pT l U' X' t n) (pM U' X' m n) ty sz (ch.map (·.2.2)) (Dd ty sz []) K->chn (pT l U' X' t n) (pM U' X' m n) ty sz (rs.map (·.2.2)) b K
theorem ChI.step{ty sz p0 d0 i:Nat}{M:List (Nat × Nat × Nat)}{G G':Gh}{a:Act}{W W':World}{p:Value × AY}{d:Option Nat}{v:Value}(h:ChI tt w0 l n c t m ty sz p0 d0 M U X G a W)(hX:X i=false)(hi:i∉CJ p0 M)(hk:Keeps w0 G (pM U X m n) W G' (pM (C0 U i p) (CI X i) m n) W')(hd:∀dn rs,M=dn++rs->d≠some (Jl d0 dn)):ChI tt w0 l n c t m ty sz p0 d0 M (C0 U i p) (CI X i) G' (a.put d v) W':=by
 have F:∀x∈CJ p0 M,CI X i x=X x:=λx hx=>BE λe=>hi (e▸hx)
 rcases h with h|⟨dn,rs,g,els,b,e1,e2,e3,e4,e5,e6,e7,e8,e9⟩
 ·exact .inl λx hx=>(F x hx).trans (h x hx)
 ·have Z:∀H∈M,H.1∈CJ p0 M:=λH J=>dN _ (fy J)
  obtain⟨k1,k2⟩:=hk.2 g e7;refine .inr ⟨dn,rs,g,els,b,e1,(F _ dK).trans e2,λH J=>(F _ (Z H (by rw[e1];exact List.mem_append_left _ J))).trans (e3 H J),λH J=>(F _ (Z H (by rw[e1];exact List.mem_append_right _ J))).trans (e4 H J),e5,e6.step k2 (λk Y=>(hk.1 k Y).1) (λk Y=>(hk.1 k Y).2),k1,?_,λU' X' hE K=>e9 U' X' (hE.up hX) K⟩
  cases d with
  |none=>exact e8
  |some d=>rw[Fp,dC λe=>hd dn rs e1 (by rw[e])];exact e8
def gdB(l:List Oper):Bool:=l.all λo=>o.guard.isNone
def prB(l:List Oper)(n:Nat):List Nat->Bool
 |[]=>true
 |p::r=>Nat.ble (p+1) n&&r.all (λp'=>Bf l.toArray n p' p&& !Nat.beq p p')&&prB l n r
def srB(l:List Oper)(n:Nat)(ch:List (Nat × Nat × Nat)):Bool:=ch.all λc=>(List.range n).all λi=>match BR l i with
 |some d=>!Nat.beq d c.2.2||Bf l.toArray n c.1 i
 |none=>true
def ChOk(l:List Oper)(T:Nat):Nat->List (Nat × Nat × Nat)->Prop
 |_,[]=>True
 |d',(p,d,s)::r=>(∃o,l[p]?=some o/\o.op=.call ⟨.builtin .append,#[.tmp d',.tmp s],#[T,T]⟩/\o.dst=some d)/\ChOk l T d r
theorem ChOk.tail{T:Nat}:∀{dn F:List (Nat × Nat × Nat)} {d0:Nat},ChOk l T d0 (dn++F)->ChOk l T (Jl d0 dn) F
 |[],_,_,h=>h
 |(_,_,_)::r,_,_,h=>ChOk.tail (dn:=r) h.2
theorem Mn{p d s:Nat}:∀(dn:List (Nat × Nat × Nat)) (d0:Nat),Jl d0 (dn++[(p,d,s)])=d
 |[],_=>rfl
 |(_,F,_)::r,_=>Mn r F
theorem Mm{T:Nat}:∀{dn:List (Nat × Nat × Nat)} {F:List (Nat × Nat × Nat)} {p0 d0:Nat},BR l p0=some d0->ChOk l T d0 (dn++F)->∃p∈CJ p0 dn,BR l p=some (Jl d0 dn)
 |[],_,p0,d0,h,_=>⟨p0,dK,h⟩
 |(p,d,s)::r,F,p0,d0,_,h=>by
  obtain⟨⟨o,H,_,J⟩,M⟩:=h;obtain⟨q,Y,W⟩:=Mm (dn:=r) (p0:=p) (show BR l p=some d by unfold BR;rw[H];exact J) M;exact⟨q,dN _ Y,W⟩
theorem prB_ok:∀{ps:List Nat},prB l n ps=true->(∀p∈ps,p<n)/\ps.Pairwise λp H=>Bf l.toArray n H p=true/\p≠H
 |[],_=>⟨λ_ h=>(nomatch h),.nil⟩
 |p::r,h=>by
  unfold prB at h;simp only[cY]at h;obtain⟨⟨J,M⟩,Y⟩:=h;obtain⟨W,Z⟩:=prB_ok Y;refine⟨λq F=>?_,.cons (λq F=>?_) Z⟩
  ·rcases dy.1 F with rfl|F
   ·exact AD J
   ·exact W q F
  ·have:=dh.1 M q F
   simp only[cY,eR]at this;exact⟨this.1,λe=>by rw[e]at this;rw[show Nat.beq q q=true from by simp]at this;cases this.2⟩
theorem OG{a:Act}{d:Nat}{v:Value}(h:a.tmps[d]?=some v):a.eval (.tmp d)=v:=by
 show a.tmps.getD d undef=v;rw[eA,h];rfl
theorem put_more{a:Act}{d:Nat}{v:Value}:(a.put (some d) v).defers=a.defers/\(a.put (some d) v).tmps.size=a.tmps.size:=⟨rfl,by show(a.tmps.setIfInBounds d v).size=_;rw[Array.size_setIfInBounds]⟩
end
theorem Ie{P:Program}{RD:(Nat->Prop)->World->Nat->Nat->Prop}{tt:List TE}(E:Env P RD tt [])(cK:P.follows .mixedOrders=true){l:List Oper}{n T p0 d0 nt id:Nat}{ch:List (Nat × Nat × Nat)}(hB:Ap l.toArray n=true)(hL:Oo (msk (CJ p0 ch) 0 (l.take n)) n=true)
  (hb:(KA nt l&&gdB (l.take n)&&prB l n (CJ p0 ch)&&srB l n ch&&EL .any (msk (CJ p0 ch) 0 (l.take n)).toArray n)=true) (h0:∃o,l[p0]?=some o/\o.op=.buildSlice T 0 #[]/\o.dst=some d0) (c5:ChOk l T d0 ch):JY P RD nt id l.toArray true (vC tt l n T p0 d0 ch):=by
 rintro R0 w0 k ⟨t,m,c,q⟩ G a w ⟨I,hC⟩ hs
 replace hC:=hC (hs.caps I)
 simp only[cY]at hb;obtain⟨⟨⟨⟨b2,ea⟩,eS⟩,d6⟩,cf⟩:=hb;obtain⟨a6,aM⟩:=prB_ok eS;have cr:=hB;simp only[Ap,cY,dM]at cr;obtain⟨⟨⟨⟨⟨hn,_⟩,_⟩,_⟩,cB⟩,_⟩:=cr;have ga:n<l.length:=by simpa using hn
 have an:=Hv cB;obtain⟨l',aH⟩:∃l',msk (CJ p0 ch) 0 (l.take n)=l':=⟨_,rfl⟩;have c6:l'.length=n:=by rw[<-aH,RJ,dG];omega
 have aw:∀i,i<n->l'[i]?=(l[i]?).map λo=>bif (CJ p0 ch).any (Nat.beq i) then nop o else o:=λi Z=>by rw[<-aH,NV,dJ,eK,dB Z]
 have a7:∀p i,p<n->Bf l'.toArray n p i=Bf l.toArray n p i:=λp i hp=>by rw[<-aH];exact MT n p i hp
 have ar:∀i x,i<n->BR l' i=some x->BR l i=some x/\i∉CJ p0 ch:=λi x Z hx=>by
  unfold BR at hx ⊢;rw[aw i Z]at hx
  cases ho:l[i]? with
  |none=>rw[ho]at hx;cases hx
  |some o=>
   rw[ho]at hx;have hx:(bif (CJ p0 ch).any (Nat.beq i) then nop o else o).dst=some x:=hx
   cases hp:(CJ p0 ch).any (Nat.beq i) with
   |true=>rw[hp]at hx;cases hx
   |false=>
    rw[hp]at hx;exact⟨hx,λh=>by rw[any_mem.2 h]at hp;cases hp⟩
 have bN:∀p∈CJ p0 ch,∀d,BR l p=some d->∀i,i<n->BR l' i≠some d:=λp hp d hd i Z e=>by
  obtain⟨h1,h2⟩:=ar i d Z e;exact an p i d (a6 p hp) Z (λe=>h2 (e▸hp)) hd h1
 rw[aH]at hL cf
 cases bS:tyo tt T with
 |none=>rw[bS]at hC;exact hC.elim
 |some e=>
 simp only[bS]at hC
 cases aG:tyo tt e.el with
 |none=>rw[aG]at hC;exact hC.elim
 |some e'=>
 simp only[aG]at hC;obtain⟨cm,ez⟩:=E.ty bS;obtain⟨cM,c9⟩:=E.ty aG;subst ez
 cases a8:(((d0::ch.map (·.2.1)).all λd=>(lk t d).isNone)&&Nat.beq e.u 3&&Nat.beq e'.zero.length e'.size&&Nat.ble 1 e'.size) with
 |false=>rw[a8]at hC;exact hC.elim
 |true=>
 rw[a8,eD,Gt]at hC;simp only[cY]at a8;obtain⟨⟨⟨aq,bm⟩,b3⟩,b5⟩:=a8;have bm:=cX bm;have b3:=cX b3;have b5:=AD b5;have aq:∀d∈d0::ch.map (·.2.1),lk t d=none:=λd hd=>Option.isNone_iff_eq_none.1 (dh.1 aq d hd)
 obtain⟨G1,hs⟩:=hs.bV E.rd I;generalize setl I m=m1 at hC hs;rw[aH]at hC;rw[M8]at hC;have F:Fix l' n c t m1:=⟨by omega,hL,λi j x Z hj aT d5 ev=>an i j x Z hj aT (ar i x Z d5).1 (ar j x hj ev).1,cf,hs.bi,λi b hb=>(hs.mem i b hb).1,λx v hx=>(hs.tmp x v hx).2,λi b hb=>(hs.mem i b hb).2.2⟩
 have bI:KA nt l'=true:=dh.2 λo ho=>by
  obtain⟨i,Z⟩:=ef ho;have bY:i<n:=by rw[<-c6];exact(AC Z).1
  rw[aw i bY]at Z
  cases hl:l[i]? with
  |none=>rw[hl]at Z;cases Z
  |some o'=>
   rw[hl]at Z;cases Z
   cases (CJ p0 ch).any (Nat.beq i) with
   |true=>rfl
   |false=>exact dh.1 b2 o' (AE hl)
 obtain⟨o0,db,eM,br⟩:=h0;have cO:BR l p0=some d0:=by unfold BR;rw[db];exact br
 have cz:∀(U:Nat->Value × AY) (X:Nat->Bool) (p d:Nat),p∈CJ p0 ch->BR l p=some d->d∈d0::ch.map (·.2.1)->lk (pT l' U X t n) d=none:=λU X p d hp hd hm=>(KJ n λj hj _=>bN p hp d hd j hj).trans (aq d hm)
 refine FC n (λH a W=>∃U G,Run tt [] l' n c t m1 U (λj=>H.getD j false)/\Sat RD R0 w0 nt G ⟨pT l' U (λj=>H.getD j false) t n,pM U (λj=>H.getD j false) m1 n,c+8*l.length,q⟩ a W/\ChI tt w0 l' n c t m1 e.el e'.size p0 d0 ch U (λj=>H.getD j false) G a W) cK hB ?_ ?_ ?_
 ·have eX:(λj=>(Array.replicate l.toArray.size false).getD j false)=λ_=>false:=funext λj=>getD_replicate_false _ _
  rw[eX];refine⟨λ_=>(.tuple #[],[]),G1,⟨λ_ _ _ _ h=>(by cases h),λ_ _ _ _ h=>(by cases h)⟩,?_,.inl λ_ _=>rfl⟩;rw[NJ,NM];exact(hs.aY (h64:=by have h1:64<=c:=hs.bi;show 64<=c+8*l.length;omega) λi b hb=>by have:i<c:=(hs.mem i b hb).1;show i<c+8*l.length;omega).drew E
 ·intro H a W i o ci hI Z ho eV bZ K hK
  obtain⟨U,G,M,J,aE⟩:=hI;have am:l[i]?=some o:=by simpa using ho
  have da:i<H.size:=by rw[ci.size];simp;omega
  have ag:(λj=>H.getD j false) i=false:=by show H.getD i false=false;rw[<-eV];simp[da]
  have a4:∀i',Bf l.toArray n i i'=true->i'≠i->(λj=>H.getD j false) i'=true:=λi' hr aT=>by
   obtain⟨f,hf⟩:∃f,n=f+1:=⟨n - 1,by omega⟩;rw[hf]at hr;rcases eN.1 hr with h|h
   ·exact absurd (cX h).symm aT
   ·obtain⟨j,_,hj⟩:=fm.1 h
    obtain⟨h1,h2⟩:=gJ.1 hj;exact Dx ci f j i' h2 (bZ j h1)
  have hr:∀i',Bf l'.toArray n i i'=true->i'≠i->(λj=>H.getD j false) i'=true:=λi' hr=>a4 i' (by rw[<-a7 i i' Z];exact hr)
  have bO:∀x,o.dst=some x->x<nt:=λx hx=>by
   have:=dh.1 b2 o (AE am);rw[hx]at this;exact AD this
  have bl:o.guard=none:=by
   have:=dh.1 ea o (AE (i:=i) (by rw[eK,dB Z];exact am));exact Option.isNone_iff_eq_none.1 this
  have eX:(λj=>(H.setIfInBounds i true).getD j false)=CI (λj=>H.getD j false) i:=funext λj=>by
   unfold CI
   by_cases e:j=i
   ·subst e;rw[dB rfl];simp[da]
   ·rw[dC e];exact fQ false (Ne.symm e)
  rw[eX]at hK;generalize (λj=>H.getD j false)=X at *
  by_cases ai:i∈CJ p0 ch
  ·have bk:l'[i]?=some (nop o):=by rw[aw i Z,am,eo,any_mem.2 ai];rfl
   obtain⟨aF,hT,hM⟩:=nop_more F M Z bk bl ag hr
   have ee:∀g,Free w0 G (pM U X m1 n) W g->∀W',W.grownBy W' (some g)->∀d v,BR l i=some d->d∈d0::ch.map (·.2.1)->Sat RD R0 w0 nt G ⟨pT l' (C0 U i (.bool true,[])) (CI X i) t n,pM (C0 U i (.bool true,[])) (CI X i) m1 n,c+8*l.length,q⟩ (a.put (some d) v) W':=λg hg W' hW d v hd b9=>
    ((J.congr hT hM).aB E.rd hW hg.1 hg.2.2.1 hg.2.2.2.1 (λj b hb=>hg.2.2.2.2 j b ((hM j).symm.trans hb)) put_more.1 put_more.2 λx u hu=>by
     have aI:=(hT x).symm.trans hu
     rw[Fp,dC λe=>by rw[<-e,cz U X i d ai hd b9]at aI;cases aI])
   rcases dy.1 ai with rfl|bo
   ·
    have bX:o0=o:=dg (db.symm.trans am);subst bX
    have cv:∀p∈CJ i ch,X p=false:=by
     rcases aE with h|⟨dn,rs,_,_,_,_,h,_⟩
     ·exact h
     ·rw[ag]at h;cases h
    have al:=Jg (P:=P) (w:=W) (ρ:=a.eval) cm bm cM c9 eM rfl rfl b5 (by omega) (λ_ h=>(nomatch h))
    have hf:Free w0 G (pM U X m1 n) (W.alloc (.cells #[] e.el)) W.heap.size:=⟨J.fr.size,by show _<(W.heap.push _).size;simp,λh=>absurd (J.z3 _ h).1 (gY _),λh=>absurd (J.rl _ h) (gY _),λj b hb bj e=>by
     obtain⟨gj,e1,_,_,_,e2⟩:=((J.mem j b hb).2.1).aQ bj
     rw[e1]at e;cases e;omega⟩
    have b4:W.grownBy (W.alloc (.cells #[] e.el)) (some W.heap.size):=⟨rfl,rfl,rfl,by show _<=(W.heap.push _).size;simp,λk hk _=>by show(W.heap.push _)[k]?=_;rw[dk,dC (by omega)]⟩;have ah:=hK (.slice (some ⟨W.heap.size,0,none⟩) 0 0) (W.alloc (.cells #[] e.el));rw[br]at ah;refine Hk bl al ?_;rw[br];refine ah ⟨_,G,aF,?_,.inr ⟨[],ch,W.heap.size,[],Dd e.el e'.size [],rfl,Bp,(λ_ h=>(nomatch h)),λcc hc=>?_,⟨rfl,rfl,rfl,rfl⟩,⟨rfl,(λ_ h=>(nomatch h)),RowIs.new W e.el e'.size,λj el h=>(nomatch h)⟩,⟨hf.1,hf.2.1,hf.2.2.1,hf.2.2.2.1,λj b hb=>hf.2.2.2.2 j b ((hM j).symm.trans hb)⟩,?_,λ_ _ _ _ h=>h⟩⟩
    ·refine(J.congr hT hM).aB E.rd b4 hf.1 hf.2.2.1 hf.2.2.2.1 (λj b hb=>hf.2.2.2.2 j b ((hM j).symm.trans hb)) put_more.1 put_more.2 λx u hu=>?_
     have aI:=(hT x).symm.trans hu;rw[Fp,dC λe=>by rw[<-e,cz U X i d0 ai cO dK]at aI;cases aI]
    ·have aT:cc.1≠i:=λe=>(fK aM (fy hc)).2 e.symm
     rw[BE aT];exact cv cc.1 (dN _ (fy hc))
    ·show(a.put (some d0) _).tmps[d0]?=_
     rw[Fp,dB rfl,dB (by rw[J.bR];exact bO d0 br)];rfl
   ·
    obtain⟨cc,ay,rfl⟩:=fz.1 bo;rcases aE with h|⟨dn,rs,g,els,b,e1,e2,e3,e4,e5,e6,e7,e8,e9⟩
    ·exact absurd (a4 p0 (fK aM bo).1 (fK aM bo).2) (by rw[h p0 dK];decide)
    ·cases rs with
     |nil=>exact absurd (e3 cc (by rw[e1,gu]at ay;exact ay)) (by rw[ag];decide)
     |cons c1 rs=>
     have au:(ch.map (·.1)).Pairwise λp p'=>Bf l.toArray n p' p=true/\p≠p':=aM.tail
     have fk:cc=c1:=by
      have bY:cc∈c1::rs:=by
       rw[e1]at ay;rcases dt.1 ay with h|h
       ·exact absurd (e3 cc h) (by rw[ag];decide)
       ·exact h
      rcases dy.1 bY with h|h
      ·exact h
      ·rw[e1,gt,dz,fR]at au
       obtain⟨h1,h2⟩:=fK au.2.1 (fy h);exact absurd (a4 c1.1 h1 h2) (by rw[e4 c1 dK];decide)
     subst fk;obtain⟨p,d,s⟩:=cc;have dc:=ChOk.tail (dn:=dn) (e1▸c5);obtain⟨⟨o1,co,d3,bb⟩,_⟩:=dc;have bX:o1=o:=dg (co.symm.trans am);subst bX;have eg:BR l p=some d:=by unfold BR;rw[co];exact bb
     have b9:d∈d0::ch.map (·.2.1):=dN _ (fy (f:=λx:Nat × Nat × Nat=>x.2.1) ay)
     -- what is put behind it,in a whole run in thought
     have aS:∀i,i<n->BR l' i=some s->X i=true:=λi Z hx=>by
      obtain⟨et,d2⟩:=ar i s Z hx;have:=dh.1 (dh.1 d6 _ ay) i (dA.2 Z);rw[et]at this;simp only[dY,eR]at this;rcases this with h|h
      ·rw[show Nat.beq s s=true from by simp]at h;cases h
      ·exact a4 i h λe=>d2 (e▸ai)
     have b6:Sat RD R0 w0 nt G ⟨pT l' U X t n,pM U X m1 n,c+8*l.length,q+pC [] l' X n⟩ a W:=by rw[pC_nil'];exact J
     obtain⟨U2,X2,G2,a2,W2,eb,d9,cg,b7,cN⟩:=think E F M (by omega) (.inl (Ey _)) bI hC b6 n (AG _);rw[List.drop_of_length_le (by omega)]at cN;have b8:Ext tt l' n c t m1 U X U2 X2:=⟨cg,λj hj=>⟨by rw[eb j,hj];rfl,d9 j hj⟩⟩;have Y:=e9 U2 X2 b8 _ cN;rw[dz]at Y;unfold chn at Y;rw[ext_t F b8 aS]at Y
     cases aK:lk (pT l' U X t n) s with
     |none=>rw[aK]at Y;exact Y.elim
     |some vs=>
     have d1:=M.cn F (AG _) aK;rw[aK]at Y;split at Y
     ·rename_i j x1 n' x2 hv
      cases hv;obtain⟨b1,bU⟩:=d1 j (cZ.2 rfl);rw[ext_m F M b8 bU]at Y;simp only at Y
      cases bi:((Nat.beq b1.kd 3||Nat.beq b1.kd 1)&&Nat.beq b1.sz e'.size&&Nat.beq b1.ty e.el) with
      |false=>rw[bi]at Y;exact Y.elim
      |true=>
      rw[bi,eD]at Y;have bE:=bi;simp only[cY,dY]at bE;obtain⟨⟨k1,k2⟩,k3⟩:=bE;have k1:b1.kd=3\/b1.kd=1:=k1.imp cX cX;obtain⟨n1,n2,n3⟩:=Y;have d8:=(IH k1 n3).1;have d4:a.eval (.tmp s)=.slice (G.α j) n' x2:=OG (J.tmp s _ aK).1;obtain⟨g',aL,W',ec,bf,b4,c7,bz⟩:=Rk (q:=q) (w0:=w0) (a:=a) (G:=G) (w:=W) (j:=j) (b:=b) (b':=b1) (els:=els) (c2:=x2) E d3 rfl cm bm cM c9 b3 (by rw[fx,dz,dz,dP,OG e8,d4]) e6 (J.mem j b1 bU).2.1 k1 n1 d8 n2 e5.2.2.1 (cX k2) e5.2.1 e7.2.2.1 λk hk=>(J.z3 k hk).1
      have ah:=hK (.slice (qad g') (b.n+n') aL) W';rw[bb]at ah;refine Hk bl ec ?_;rw[bb];have fn:g<W.heap.size:=e7.2.1;refine ah ⟨_,G,aF,ee g e7 W' b4 d _ eg b9,.inr ⟨dn++[(p,d,s)],rs,g',c7,E9 b b1 n' aL,by rw[e1,eB];rfl,?_,λx hx=>?_,λx hx=>?_,⟨rfl,e5.2.1,e5.2.2.1,rfl⟩,bz,?_,?_,λU3 X3 e0 K3 h3=>?_⟩⟩
      ·rw[BE (fK aM bo).2];exact e2
      ·rcases dt.1 hx with hx|hx
       ·by_cases e:x.1=p
        ·rw[e];exact Bp
        ·rw[BE e];exact e3 x hx
       ·rw[cZ.1 hx];exact Bp
      ·rw[e1,gt,dz,fR]at au
       rw[BE (fK au.2.1 (fy hx)).2.symm];exact e4 x (dN _ hx)
      ·refine⟨bf.elim (λe=>e▸e7.1) λe=>by have:=J.fr.size;omega,bz.2.2.1.lt,λh=>bf.elim (λe=>e7.2.2.1 (e▸h)) λe=>absurd (J.z3 g' h).1 (by omega),λh=>bf.elim (λe=>e7.2.2.2.1 (e▸h)) λe=>absurd (J.rl g' h) (by omega),λx bx a9 bj e=>?_⟩
       have a9:=(hM x).symm.trans a9;rcases bf with rfl|h
       ·exact e7.2.2.2.2 x bx a9 bj e
       ·obtain⟨gj,ey,_,_,_,g3⟩:=((J.mem x bx a9).2.1).aQ bj
        rw[ey]at e;cases e;omega
      ·rw[Mn]
       show(a.put (some d) _).tmps[d]?=_;rw[Fp,dB rfl,dB (by rw[J.bR];exact bO d bb)];rfl
      ·have bR:=e0.up ag
       have h4:=e9 U3 X3 bR K3 h3;rw[dz]at h4;unfold chn at h4;rw[ext_t F bR aS,aK]at h4;simp only[ext_m F M bR bU,bi,eD]at h4;exact(IH k1 h4.2.2).2 aL
     ·exact Y.elim
  ·have bk:l'[i]?=some o:=by
    rw[aw i Z,am,eo]
    cases hp:(CJ p0 ch).any (Nat.beq i) with
    |true=>exact absurd (any_mem.1 hp) ai
    |false=>rfl
   have b6:Sat RD R0 w0 nt G ⟨pT l' U X t n,pM U X m1 n,c+8*l.length,q+pC [] l' X n⟩ a W:=by rw[pC_nil'];exact J
   have cq:Af [] o=0:=by have:=Ey [o];unfold Au at this;omega
   have bt:=exec E F M (cE:=c+8*l.length) (by omega) J Z bk ag hr bO (.inl cq) (La E F M (by omega) (.inl (Ey _)) bI hC b6 Z bk ag hr) (K:=K) λv es G' W' al b7 ds=>hK _ W' ⟨C0 U i (v,es),G',al,by rw[cq]at b7;exact b7,aE.step ag ai ds λdn rs he hd=>by
    obtain⟨p,hp,fd⟩:=Mm (dn:=dn) cO (he▸c5)
    have cl:p∈CJ p0 ch:=by
     rcases dy.1 hp with h|h
     ·exact h▸dK
     ·rw[he];unfold CJ;rw[gt];exact dN _ (List.mem_append_left _ h)
    refine an i p _ Z (a6 p cl) (λe=>ai (e▸cl)) ?_ fd
    unfold BR;rw[am];exact hd⟩
   unfold wpList at bt ⊢;unfold Region.wanted at bt ⊢;rw[bl]at bt ⊢;exact bt
 ·intro a W hI
  obtain⟨U,G,M,J,aE⟩:=hI
  have hX:∀j,j<n->(λj=>(Br l.toArray n).getD j false) j=true:=λj hj=>by
   show(Br l.toArray n).getD j false=true;unfold Br;rw[eA,iY,dif_pos (by simp;omega)];simp[hj]
  generalize (λj=>(Br l.toArray n).getD j false)=X at *;have c8:=M2 F M hC n (AG _) hX;rw[List.drop_of_length_le (by omega)]at c8;rcases aE with h|⟨dn,rs,g,els,b,e1,e2,e3,e4,e5,e6,e7,e8,e9⟩
  ·exact absurd (h p0 dK) (by rw[hX p0 (a6 p0 dK)];decide)
  ·cases rs with
   |cons c1 rs=>exact absurd (e4 c1 dK) (by rw[hX c1.1 (a6 _ (dN _ (fy (by rw[e1];exact List.mem_append_right _ dK))))];decide)
   |nil=>
   rw[gu]at e1;subst e1;have av:=e9 U X ⟨M,λj hj=>⟨hj,rfl⟩⟩ _ c8;have av:vOr tt [] l (c+8*(l.length+1)) (l.drop n) n _ _ _:=av;rw[M8]at av;have s1:=J.add (id:=c+8*l.length) (c':=c+8*(l.length+1)+8*n) (ad:=⟨g,0,none⟩) (b1:=b) (AG _) (by omega) e5.2.2.2 ⟨λh=>(nomatch e5.1.symm.trans h),λh=>(nomatch e5.1.symm.trans h),λh=>(nomatch e5.1.symm.trans h),λ_=>⟨g,els,dB rfl,e7.1,e7.2.2.1,e7.2.2.2.1,e6⟩,λh=>(nomatch e5.1.symm.trans h),.inr (.inr (.inr (.inl e5.1)))⟩ e7.2.2.2.2
   have s2:=s1.know (d:=Jl d0 ch) (v:=.iface (c+8*l.length) (.slice none b.n b.cp)) (by rw[e8];show _=some (Value.slice (if _=_ then _ else _) _ _);rw[dB rfl]) λy hy=>by
    cases cZ.1 (show y∈[c+8*l.length] from hy);exact⟨b,Ad _ _ _⟩
   refine Eg E (ops:=l) (l.drop n) n _ _ _ a W q ?_ av s2 (.inl (Ey _)) λt' m' G' a' w' hk cd=>⟨rfl,_,G',hk,?_⟩
   ·exact dh.2 λo ho=>dh.1 b2 o (ep ho)
   ·rw[show n+(l.drop n).length=l.length by simp;omega,Ey]at cd
    exact cd
section
variable {P:Program} {RD:(Nat->Prop)->World->Nat->Nat->Prop} {tt:List TE} {Γ:List (Nat × Nat × Ct)} {nt id:Nat} {ops:Array Oper} {d:Bool}
def H9(tt:List TE)(Γ:List (Nat × Nat × Ct))(ops:List Oper)(s:St)(k:St->Prop):Prop:=∃s',Ent s s'/\vRr tt Γ ops s' k
def cutS(C:St->(St->Prop)->Prop)(s:St)(k:St->Prop):Prop:=∃s',Ent s s'/\C s' k
theorem cutS_ok(E:Env P RD tt Γ){C:St->(St->Prop)->Prop}(h:JY P RD nt id ops d C):JY P RD nt id ops d (cutS C):=by
 rintro R0 w0 k s G a w ⟨J,M,hC⟩ H;obtain⟨G',F⟩:=H.ent E M;exact h R0 w0 k J G' a w hC F
theorem Cy(E:Env P RD tt Γ)(F:P.follows .mixedOrders=true)(M:E4 [] nt (.region id ops d)=true):JY P RD nt id ops d (H9 tt Γ ops.toList):=by
 rintro R0 w0 k s G a w ⟨s',W,hv⟩ Y;obtain⟨G',H⟩:=Y.ent E W;rw[vRr_eq]at hv;refine iQ (DF (R0:=R0) (w0:=w0) E (.region id ops d) (λe s=>match e with| .normal=>k s|_=>False) s' G' a w (CL E F _ (.nil _) M) (by rw[vw];exact hv) H) ?_;rintro e a' w' ⟨Z,G1,J,h1⟩;cases e<;>first|exact⟨rfl,Z,G1,J,h1⟩|exact J.elim
end
def A8(i:Nat)(c:Code):List Oper:=match L0 i c with
 |(a,_)::_=>a.toList
 |[]=>[]
structure BP where
 B:Bk
 c1:Nat
 c2:Nat
 c3:Nat
def BP.v(p:BP):Value:=.agg #[.int .i64 p.B.aj,.iface 0 (.slice none p.B.af.length p.c1),.iface 1 (.slice none p.B.ah.length p.c2),.iface 2 (.slice none p.B.ak.length p.c3)]
def BP.m(p:BP):AY:=bkM p.B
def BP.tn(p:BP):Prop:=p.B.af.length<=1000/\p.B.ah.length<=1000/\p.B.ak.length<=1000
theorem Fj{ty sz:Nat}{X:Type}{f:X->List Value}{l l':List X}(hf:∀x y,f x=f y->x=y)(h:A9 ty sz f l=A9 ty sz f l'):l=l':=by
 have Z:l.length=l'.length:=em VB.n h;have M:(A9 ty sz f l).Q=(A9 ty sz f l').Q:=em VB.Q h;refine fp λi=>?_
 cases F:l[i]? with
 |none=>rw[fL]at F;rw[dZ (by omega)]
 |some x=>
  have Y:=(AC F).1;obtain⟨y,J⟩:∃y,l'[i]?=some y:=⟨l'[i]'(by omega),by simp⟩
  have W:(A9 ty sz f l').Q i (λel=>el=f x):=by
   rw[<-M];intro z H;rw[F]at H;cases H;rfl
  rw[J,hf y x (W y J)]
theorem Qw(x y:Svc)(h:svL x=svL y):x=y:=by
 cases x;cases y;simp only[svL,dv,gC,fF,iP,fu,dV]at h;simp only[Svc.mk.injEq];exact h
theorem Re(x y:Cp)(h:cpL x=cpL y):x=y:=by
 cases x;cases y;simp only[cpL,dv,gC,fF,iP,fu,dV]at h;simp only[Cp.mk.injEq];exact h
theorem btL_inj(x y:Bt)(h:btL x=btL y):x=y:=by
 cases x;cases y;simp only[btL,dv,gC,iP,dV]at h;simp only[Bt.mk.injEq];exact h
theorem BP.inj{p F:BP}(hv:p.v=F.v)(h0:A9 34 13 svL p.B.af=A9 34 13 svL F.B.af)(h1:A9 76 7 cpL p.B.ah=A9 76 7 cpL F.B.ah)(h2:A9 90 2 btL p.B.ak=A9 90 2 btL F.B.ak):p=F:=by
 have H:=Fj Qw h0;have e2:=Fj Re h1;have e3:=Fj btL_inj h2;obtain⟨⟨n,a,b,c⟩,c1,c2,c3⟩:=p;obtain⟨⟨n',a',b',c'⟩,M,Z,ah⟩:=F;simp only at H e2 e3;subst H e2 e3;have:=em Array.toList (ix hv);simp at this;obtain⟨Y,W,i3,J⟩:=this;subst Y W i3 J;rfl
section
variable {RD:(Nat->Prop)->World->Nat->Nat->Prop}
theorem Aw(h:B9 RD):Env Tryz.prog RD TT []:=⟨h,TT_ok,λ_ _ _ h=>(nomatch h)⟩
theorem AZ{Γ:List (Nat × Nat × Ct)}{f c:Nat}{C:Ct}(E:Env Tryz.prog RD TT Γ)(H:Rf Tryz.prog f=true)(h:B7 Tryz.prog RD f c C):Env Tryz.prog RD TT ((f,c,C)::Γ):=
 ⟨E.rd,E.tt,λg d D F=>by
  by_cases e:f=g
  ·subst e;rw[Ad]at F;cases F;exact⟨H,h⟩
  ·rw[At e]at F;exact E.ct g d D F⟩
end
def Idx{X:Type}(p:X->Bool)(l:List X)(k:Int):Prop:=(k= -1/\∀x∈l,p x=false)\/∃(j:Nat) (x:X),k=j/\l[j]?=some x/\p x=true/\∀y∈l.take j,p y=false
theorem EU{X:Type}{p:X->Bool}{l:List X}{i:Nat}{x:X}(h:∀y∈l.take i,p y=false)(hx:l[i]?=some x)(J:p x=false):∀y∈l.take (i+1),p y=false:=λy H=>by
 rw[eW,hx]at H;rcases dt.1 H with F|F
 ·exact h y F
 ·have:y=x:=by simpa using F
  rw[this];exact J
def nmB(a b:qB):Bool:=a.toList==b.toList
def cpQ(sv:qB)(n:Int)(c:Cp):Bool:=nmB c.aa sv&&decide (c.ai=n)
abbrev Gu:Ct:=ctV (λp:BP × ByteArray=>[p.1.v,.string p.2]) (λp=>p.1.m) (λp=>p.1.tn) λp v es=>es=[]/\∃k,v=.int .i64 k/\Idx (λs=>nmB s.name p.2) p.1.B.af k
abbrev Rc:Ct:=ctV (λp:BP × ByteArray=>[p.1.v,.string p.2]) (λp=>p.1.m) (λp=>p.1.tn) λp v es=>es=[]/\∃k,v=.int .i64 k/\Idx (λs=>nmB s.name p.2) p.1.B.ak k
abbrev QT:Ct:=ctV (λp:BP × ByteArray × Int=>[p.1.v,.string p.2.1,.int .i64 p.2.2]) (λp=>p.1.m) (λp=>p.1.tn) λp v es=>es=[]/\∃k,v=.int .i64 k/\Idx (cpQ p.2.1 p.2.2) p.1.B.ah k
theorem Fw(p F:BP × ByteArray)(h:[p.1.v,.string p.2]=[F.1.v,.string F.2])(H:p.1.m=F.1.m):p=F:=by
 obtain⟨p,s⟩:=p;obtain⟨F,J⟩:=F;simp only[BP.m,bkM,dv,dw,fu,dV,gC]at h H;rw[BP.inj h.1 H.1 H.2.1 H.2.2,h.2]
theorem Ig(p F:BP × ByteArray × Int)(h:[p.1.v,.string p.2.1,.int .i64 p.2.2]=[F.1.v,.string F.2.1,.int .i64 F.2.2])(H:p.1.m=F.1.m):p=F:=by
 obtain⟨p,s,n⟩:=p;obtain⟨F,M,J⟩:=F;simp only[BP.m,bkM,dv,dw,fu,dV,gC,fF]at h H;rw[BP.inj h.1 H.1 H.2.1 H.2.2,h.2.1,h.2.2]
section
variable {RD:(Nat->Prop)->World->Nat->Nat->Prop}
theorem DN(Y:B9 RD):B7 Tryz.prog RD 118 0 Gu:=by
 refine Ci (Aw Y) Tryz.func118 (by kernel_rfl) (by kernel_rfl) (λ_=>rfl) Fw ?_;rintro⟨⟨B,c1,c2,c3⟩,nm⟩ ⟨W,_,_⟩;have W:B.af.length<=1000:=W;refine⟨λn s=>∃i:Nat,i<=B.af.length/\n=B.af.length - i/\(∀y∈B.af.take i,nmB y.name nm=false)/\s=⟨[(5,.int .i64 i),(2,.complex .f64 64 0),(1,.string nm)],(64,AT (D5 B c1 c2 c3) 28)::bkM B,88,0⟩,B.af.length,⟨_,(by refine⟨[],?_,?_,rfl,rfl,AG _⟩<;>repeat' (first|exact rfl|exact trivial|exact⟨_,rfl,.same _ _ rfl⟩|apply cW)),0,by omega,by omega,(λ_ h=>(nomatch h)),rfl⟩,?_⟩;rintro n _ ⟨i,hi,rfl,H,rfl⟩;refine cW (λJ=>?_) (λJ=>?_)
 ·refine cW (by omega) (cW J (cW (AG _) ?_))
  intro b hb;rw[di]at hb;refine cW (λM=>?_) (λM=>?_)
  ·exact⟨.inl rfl,_,rfl,⟨_,_,[],⟨rfl,_,rfl,.inr ⟨i,b,rfl,hb,M,H⟩⟩,rfl,trivial,rfl,rfl,trivial⟩,rfl⟩
  ·intro Z F
   have F:Z=((i+1:Nat):Int):=by have:=F ⟨by omega,by omega⟩;omega
   subst F;exact⟨B.af.length - (i+1),by omega,_,(by refine⟨[],?_,?_,rfl,rfl,AG _⟩<;>repeat' (first|exact rfl|exact trivial|exact⟨_,rfl,.same _ _ rfl⟩|apply cW)),i+1,by omega,rfl,EU H hb M,rfl⟩
 ·exact⟨.inl rfl,_,rfl,⟨_,_,[],⟨rfl,_,rfl,.inl ⟨rfl,λx hx=>H x (by rw[er (by omega)];exact hx)⟩⟩,rfl,trivial,rfl,rfl,trivial⟩,rfl⟩
theorem PP(Y:B9 RD):B7 Tryz.prog RD 124 0 Rc:=by
 refine Ci (Aw Y) Tryz.func124 (by kernel_rfl) (by kernel_rfl) (λ_=>rfl) Fw ?_;rintro⟨⟨B,c1,c2,c3⟩,nm⟩ ⟨_,_,W⟩;have W:B.ak.length<=1000:=W;refine⟨λn s=>∃i:Nat,i<=B.ak.length/\n=B.ak.length - i/\(∀y∈B.ak.take i,nmB y.name nm=false)/\s=⟨[(5,.int .i64 i),(2,.complex .f64 64 0),(1,.string nm)],(64,AT (D5 B c1 c2 c3) 28)::bkM B,88,0⟩,B.ak.length,⟨_,(by refine⟨[],?_,?_,rfl,rfl,AG _⟩<;>repeat' (first|exact rfl|exact trivial|exact⟨_,rfl,.same _ _ rfl⟩|apply cW)),0,by omega,by omega,(λ_ h=>(nomatch h)),rfl⟩,?_⟩;rintro n _ ⟨i,hi,rfl,H,rfl⟩;refine cW (λJ=>?_) (λJ=>?_)
 ·refine cW (by omega) (cW J (cW (AG _) ?_))
  intro b hb;rw[di]at hb;refine cW (λM=>?_) (λM=>?_)
  ·exact⟨.inl rfl,_,rfl,⟨_,_,[],⟨rfl,_,rfl,.inr ⟨i,b,rfl,hb,M,H⟩⟩,rfl,trivial,rfl,rfl,trivial⟩,rfl⟩
  ·intro Z F
   have F:Z=((i+1:Nat):Int):=by have:=F ⟨by omega,by omega⟩;omega
   subst F;exact⟨B.ak.length - (i+1),by omega,_,(by refine⟨[],?_,?_,rfl,rfl,AG _⟩<;>repeat' (first|exact rfl|exact trivial|exact⟨_,rfl,.same _ _ rfl⟩|apply cW)),i+1,by omega,rfl,EU H hb M,rfl⟩
 ·exact⟨.inl rfl,_,rfl,⟨_,_,[],⟨rfl,_,rfl,.inl ⟨rfl,λx hx=>H x (by rw[er (by omega)];exact hx)⟩⟩,rfl,trivial,rfl,rfl,trivial⟩,rfl⟩
theorem KT(hR:B9 RD):B7 Tryz.prog RD 122 0 QT:=by
 refine Ci (Aw hR) Tryz.func122 (by kernel_rfl) (by kernel_rfl) (λ_=>rfl) Ig ?_;rintro⟨⟨B,c1,c2,c3⟩,nm,k⟩ ⟨_,hl,_⟩;have hl:B.ah.length<=1000:=hl;refine⟨λn s=>∃i:Nat,i<=B.ah.length/\n=B.ah.length - i/\(∀y∈B.ah.take i,cpQ nm k y=false)/\s=⟨[(7,.int .i64 i),(3,.complex .f64 64 0),(1,.string nm),(2,.int .i64 k)],(64,AT (D5 B c1 c2 c3) 28)::bkM B,88,0⟩,B.ah.length,⟨_,(by refine⟨[],?_,?_,rfl,rfl,AG _⟩<;>repeat' (first|exact rfl|exact trivial|exact⟨_,rfl,.same _ _ rfl⟩|apply cW)),0,by omega,by omega,(λ_ h=>(nomatch h)),rfl⟩,?_⟩;rintro n _ ⟨i,hi,rfl,H,rfl⟩;refine cW (λJ=>?_) (λJ=>?_)
 ·refine cW (by omega) (cW J (cW (AG _) ?_))
  intro b hb;rw[di]at hb;refine cW (λY=>?_) (λY=>?_)
  ·refine cW (by omega) (cW J (cW (AG _) ?_))
   intro b' W;rw[di,hb]at W;cases W;refine cW (λM=>?_) (λM=>?_)
   ·exact⟨.inl rfl,_,rfl,⟨_,_,[],⟨rfl,_,rfl,.inr ⟨i,b,rfl,hb,by show(nmB _ _&&_)=true;rw[show nmB b.aa nm=true from Y,dO M];rfl,H⟩⟩,rfl,trivial,rfl,rfl,trivial⟩,rfl⟩
   ·intro Z F
    have F:Z=((i+1:Nat):Int):=by have:=F ⟨by omega,by omega⟩;omega
    subst F;exact⟨B.ah.length - (i+1),by omega,_,(by refine⟨[],?_,?_,rfl,rfl,AG _⟩<;>repeat' (first|exact rfl|exact trivial|exact⟨_,rfl,.same _ _ rfl⟩|apply cW)),i+1,by omega,rfl,EU H hb (by show(nmB _ _&&_)=false;rw[show nmB b.aa nm=true from Y,dQ M];rfl),rfl⟩
  ·intro Z F
   have F:Z=((i+1:Nat):Int):=by have:=F ⟨by omega,by omega⟩;omega
   subst F;exact⟨B.ah.length - (i+1),by omega,_,(by refine⟨[],?_,?_,rfl,rfl,AG _⟩<;>repeat' (first|exact rfl|exact trivial|exact⟨_,rfl,.same _ _ rfl⟩|apply cW)),i+1,by omega,rfl,EU H hb (by show(nmB _ _&&_)=false;rw[show nmB b.aa nm=false from Y];rfl),rfl⟩
 ·exact⟨.inl rfl,_,rfl,⟨_,_,[],⟨rfl,_,rfl,.inl ⟨rfl,λx hx=>H x (by rw[er (by omega)];exact hx)⟩⟩,rfl,trivial,rfl,rfl,trivial⟩,rfl⟩
end
end
end Go.Proofs.YtbceafpodamnfaaGreatDoor
