import Derived.Test.YtbceafpodamnfaaGreatH12
set_option linter.all false
namespace Go.Proofs.YtbceafpodamnfaaGreat
open Go Go.RowKit
def nop(o:Oper):Oper:={o with dst:=none,op:=.move (.const (.bool true))}
def msk(ps:List Nat):Nat->List Oper->List Oper
 |_,[]=>[]
 |i,o::r=>(bif ps.any (Nat.beq i) then nop o else o)::msk ps (i+1) r
def chn(t:Tm)(m:AV)(ty sz:Nat):List Nat->VB->(VB->Prop)->Prop
 |[],b,k=>k b
 |s::r,b,k=>match lk t s with
  |some (.iface j (.slice _ n' _))=>match lk m j with
   |some b'=>bif (Nat.beq b'.kd 3||Nat.beq b'.kd 1)&&Nat.beq b'.sz sz&&Nat.beq b'.ty ty then n'<=b'.n/\b.n+n'<=1000000000/\srcC b' n' (∀c',chn t m ty sz r (Eu b b' n' c') k) else False
   |none=>False
  |_=>False
def H7:Nat->List (Nat × Nat × Nat)->Nat
 |d,[]=>d
 |_,(_,d,_)::r=>H7 d r
def setl:List Nat->AV->AV
 |[],m=>m
 |i::r,m=>setl r (match lk m i with
  |some b=>bif Nat.beq b.kd 3 then F6 m i (FL (some b)) else m
  |none=>m)
def capP(m:AV):List Nat->Prop
 |[]=>True
 |i::r=>(match lk m i with
  |some b=>bif Nat.beq b.kd 3 then b.n<=b.cp else True
  |none=>True)/\capP m r
abbrev B8 (p0:Nat) (ch:List (Nat × Nat × Nat)):List Nat:=p0::ch.map (·.1)
def vC(tt:List TE)(l:List Oper)(n T p0 d0:Nat)(ch:List (Nat × Nat × Nat))(s:St)(k:St->Prop):Prop:=∃I,capP s.m I->match tyo tt T with
 |some e=>match tyo tt e.el with
  |some e'=>bif ((d0::ch.map (·.2.1)).all λd=>(lk s.t d).isNone)&&Nat.beq e.u 3&&Nat.beq e'.zero.length e'.size&&Nat.ble 1 e'.size then
    My (setl I s.m) λm=>vOr tt [] (msk (B8 p0 ch) 0 (l.take n)) s.c (msk (B8 p0 ch) 0 (l.take n)) 0 s.t m λt m=>chn t m e.el e'.size (ch.map (·.2.2)) (Dw e.el e'.size []) λb=>
     vOr tt [] l (s.c+8*(l.length+1)) (l.drop n) n ((H7 d0 ch,.iface (s.c+8*l.length) (.slice none b.n b.cp))::t) ((s.c+8*l.length,b)::m) λt m=>k ⟨t,m,s.c+8*(l.length+1)+8*l.length,s.q⟩ else False
  |none=>False
 |none=>False
theorem Km(ps:List Nat):∀(l:List Oper) (i j:Nat),(msk ps i l)[j]?=(l[j]?).map λo=>bif ps.any (Nat.beq (i+j)) then nop o else o
 |[],_,_=>rfl
 |o::r,i,0=>rfl
 |o::r,i,j+1=>by
  show(msk ps (i+1) r)[j]?=_;rw[Km ps r (i+1) j,show i+1+j=i+(j+1) by omega];rfl
theorem Nj(ps:List Nat):∀(l:List Oper) (i:Nat),(msk ps i l).length=l.length
 |[],_=>rfl
 |_::r,i=>congrArg (·+1) (Nj ps r (i+1))
theorem any_mem{ps:List Nat}{i:Nat}:ps.any (Nat.beq i)=true↔i∈ps:=by
 rw[List.any_eq_true];exact⟨λ⟨p,hp,h⟩=>by rw[Nat.eq_of_beq_eq_true h];exact hp,λh=>⟨i,h,by simp⟩⟩
theorem OD{ps:List Nat}{l:List Oper}{n i j:Nat}(hi:i<n):Region.waitsFor .any (msk ps 0 (l.take n)).toArray i j=Region.waitsFor .any l.toArray i j:=by
 unfold Region.waitsFor;simp only[List.getElem?_toArray,Km,Nat.zero_add,List.getElem?_take,if_pos hi]
 cases l[i]? with
 |none=>rfl
 |some o=>cases h:ps.any (Nat.beq i)<;>simp[h,nop]
theorem Jw{ps:List Nat}{l:List Oper}{n:Nat}:∀f p i,p<n->Bi (msk ps 0 (l.take n)).toArray f p i=Bi l.toArray f p i
 |0,_,_,_=>rfl
 |f+1,p,i,hp=>by
  unfold Bi
  congr 1
  rw[Bool.eq_iff_iff,List.any_eq_true,List.any_eq_true]
  constructor<;>rintro⟨j,hj,h⟩<;>refine⟨j,hj,?_⟩<;>have hr:=Jw (ps:=ps) (l:=l) (n:=n) f j i (by have:=List.mem_range.1 hj;omega)<;>simpa only[OD hp,hr] using h
theorem Dy:∀l:List Oper,BG [] l=0
 |[]=>rfl
 |o::r=>by
  unfold BG;rw[Dy r];unfold Am
  split<;>rfl
theorem pC_nil'{l:List Oper}{X:Nat->Bool}:∀k,pC [] l X k=0
 |0=>rfl
 |k+1=>by
  unfold pC;rw[pC_nil' k]
  cases X k with
  |false=>rfl
  |true=>
   cases l[k]? with
   |none=>rfl
   |some o=>show 0+Am [] o=0;have:=Dy [o];unfold BG at this;omega
theorem Np{sz:Nat}:∀{els:List (List Value)},(∀el∈els,el.length=sz)->∀n,(els.drop n).flatten=els.flatten.drop (n*sz)
 |[],_,_=>by simp
 |e::r,_,0=>by simp
 |e::r,h,n+1=>by
  have h0:=h e List.mem_cons_self;rw[List.drop_succ_cons,List.flatten_cons,Np (λel hel=>h el (List.mem_cons_of_mem _ hel)) n,show(n+1)*sz=e.length+n*sz by rw[h0,Nat.add_mul];omega,List.drop_length_add_append]
theorem RowK.known{Z:Nat->Prop}{w:World}{g ty sz cp:Nat}{X:Type}{f:X->List Value}{l:List X}{els:List (List Value)}(h:RowK Z w g (Ap ty sz cp f l) els):els=l.map f:=by
 refine List.ext_getElem? λj=>?_
 rw[List.getElem?_map];have hn:els.length=l.length:=h.1
 cases hj:els[j]? with
 |none=>
  rw[List.getElem?_eq_none_iff]at hj;rw[List.getElem?_eq_none (by omega)];rfl
 |some el=>
  have hlt:=(AC hj).1;obtain⟨x,hx⟩:∃x,l[j]?=some x:=⟨l[j]'(by omega),by simp⟩;have:=(h.2.2.2 j el hj).1 (λe=>e=f x) λy hy=>by rw[hx]at hy;cases hy;rfl
  rw[hx,this];rfl
theorem RowK.of{Z:Nat->Prop}{w:World}{g ty sz cp:Nat}{X:Type}{f:X->List Value}{l:List X}(hf:∀x,(f x).length=sz/\∀v∈f x,v.oneCell'=true/\∀β,r0 β v=v)(h:RowIs w ty sz g l.length cp (l.map f).flatten):RowK Z w g (Ap ty sz cp f l) (l.map f):=by
 refine⟨by rw[List.length_map];rfl,λel hel=>?_,h,λj el hj=>⟨λk hk=>?_,λ_ _=>trivial⟩⟩
 ·obtain⟨x,_,rfl⟩:=List.mem_map.1 hel
  exact hf x
 ·rw[List.getElem?_map]at hj
  cases hx:l[j]? with
  |none=>rw[hx]at hj;cases hj
  |some x=>rw[hx]at hj;cases hj;exact hk x hx
theorem Ky(x:Cp):(cpL x).length=7/\∀v∈cpL x,v.oneCell'=true/\∀β,r0 β v=v:=by
 refine⟨rfl,λv hv=>?_⟩;simp only[cpL,List.mem_cons,List.not_mem_nil,or_false]at hv;rcases hv with rfl|rfl|rfl|rfl|rfl|rfl|rfl<;>exact⟨rfl,λ_=>rfl⟩
theorem KX(x:Svc):(svL x).length=13/\∀v∈svL x,v.oneCell'=true/\∀β,r0 β v=v:=by
 refine⟨rfl,λv hv=>?_⟩;simp only[svL,List.mem_cons,List.not_mem_nil,or_false]at hv;rcases hv with rfl|rfl|rfl|rfl|rfl|rfl|rfl|rfl|rfl|rfl|rfl|rfl|rfl<;>exact⟨rfl,λ_=>rfl⟩
theorem K2(x:Bt):(btL x).length=2/\∀v∈btL x,v.oneCell'=true/\∀β,r0 β v=v:=by
 refine⟨rfl,λv hv=>?_⟩;simp only[btL,List.mem_cons,List.not_mem_nil,or_false]at hv;rcases hv with rfl|rfl<;>exact⟨rfl,λ_=>rfl⟩
theorem Gw{ρ:List (Nat × Nat)}{ty sz cp c n':Nat}{X:Type}{f:X->List Value}{b b':VB}{l l':List X}(hb:LeB ρ b (Ap ty sz cp f l))(hn:l'.length=n')(hq:∀j,j<n'->∀k,(∀x,l'[j]?=some x->k (f x))->b'.Q j k):LeB ρ (Eu b b' n' c) (Ap ty sz c f (l++l')):=by
 have hbn:b.n=l.length:=(hb.n3 rfl).1;have hl:(Eu b b' n' c).n=(l++l').length:=by rw[List.length_append,hn,<-hbn];rfl
 refine⟨rfl,hb.ty,hb.sz,Nat.le_of_eq hl.symm,λ_=>⟨hl,rfl⟩,rfl,λj hj k hk=>⟨λh=>?_,λh=>?_⟩,λ_ _ _=>trivial,λh=>(nomatch h)⟩
 ·refine hb.Q j (by show j<l.length;omega) k λx hx=>hk x ?_
  rw[List.getElem?_append_left (by omega)];exact hx
 ·have hj:j<(l++l').length:=hj
  rw[List.length_append]at hj;refine hq _ (by omega) k λx hx=>hk x ?_
  rw[List.getElem?_append_right (by omega),<-hbn];exact hx
theorem Ni{ρ:List (Nat × Nat)}{ty sz:Nat}{X:Type}{f:X->List Value}:LeB ρ (Dw ty sz []) (Ap ty sz 0 f ([]:List X)):=⟨rfl,rfl,rfl,AG _,λ_=>⟨rfl,rfl⟩,rfl,λ_ h=>absurd h (Nat.not_lt_zero _),λ_ _ _=>trivial,λh=>(nomatch h)⟩
theorem D9{ρ:List (Nat × Nat)}{ty sz c1 c2 c3 m:Nat}{X:Type}{f:X->List Value}{l:List X}{x:X}{k d:Nat}{b:VB}(hk:k<=l.length)(hd:d+m=l.length)(hb:∀j kk,(∀x,l[d+j]?=some x->kk (f x))->b.Q j kk):
  LeB ρ (Eu (Eu (Eu (Dw ty sz []) (DX (BZ ty sz f l) 0 k) k c1) (Dw ty sz [f x]) 1 c2) b m c3) (Ap ty sz c3 f (l.take k++x::l.drop d)):=by
 have e1:=Gw (c:=c1) (n':=k) (b':=DX (BZ ty sz f l) 0 k) (l':=l.take k) (Ni (ρ:=ρ) (ty:=ty) (sz:=sz) (f:=f)) (by rw[List.length_take];omega) λj hj kk h x hx=>h x (by rw[List.getElem?_take,if_pos hj];rw[Nat.zero_add]at hx;exact hx)
 have e2:=Gw (c:=c2) (n':=1) (b':=Dw ty sz [f x]) (l':=[x]) e1 rfl λj hj kk h el hel=>by
  obtain rfl:j=0:=by omega
  cases hel;exact h x rfl
 have e3:=Gw (c:=c3) (n':=m) (b':=b) (l':=l.drop d) e2 (by rw[List.length_drop];omega) λj _ kk h=>hb j kk λx hx=>h x (by rw[List.getElem?_drop];exact hx)
 rw[List.nil_append,List.append_assoc]at e3;exact e3
theorem Nv{ρ:List (Nat × Nat)}{ty sz c1 c2:Nat}{X:Type}{f:X->List Value}{l:List X}{k:Nat}(hk:k<l.length):
  LeB ρ (Eu (Eu (Dw ty sz []) (DX (BZ ty sz f l) 0 k) k c1) (DX (BZ ty sz f l) (k+1) (l.length - (k+1))) (l.length - (k+1)) c2) (Ap ty sz c2 f (l.take k++l.drop (k+1))):=by
 have e1:=Gw (c:=c1) (n':=k) (b':=DX (BZ ty sz f l) 0 k) (l':=l.take k) (Ni (ρ:=ρ) (ty:=ty) (sz:=sz) (f:=f)) (by rw[List.length_take];omega) λj hj kk h x hx=>h x (by rw[List.getElem?_take,if_pos hj];rw[Nat.zero_add]at hx;exact hx)
 exact Gw (c:=c2) (l':=l.drop (k+1)) e1 (by rw[List.length_drop]) λj _ kk h x hx=>h x (by rw[List.getElem?_drop];exact hx)
theorem Cs{ρ:List (Nat × Nat)}{cs0 cs:List Value}{ty:Nat}(h:cs0=cs.map (rn0 ρ)):LeB ρ (AZ cs0 ty) (AZ cs ty):=⟨rfl,rfl,rfl,AG _,λh=>(nomatch h),h,λ_ _ _ h=>h,λ_ _ h=>h,λh=>(nomatch h)⟩
theorem BL{ρ:List (Nat × Nat)}{ty sz cp:Nat}{X:Type}{f:X->List Value}{l:List X}{b:VB}{a o:Nat}{vs:List Value}{x x':X}(hb:LeB ρ b (Ap ty sz cp f l))(hx:l[a]?=some x)(h:GZ (f x) o vs=f x'):LeB ρ (G8 b a o vs) (Ap ty sz cp f (l.set a x')):=by
 have ha:=(AC hx).1;have hn:b.n=l.length:=(hb.n3 rfl).1;have hl:(Ap ty sz cp f (l.set a x')).n=l.length:=by show(l.set a x').length=_;rw[List.length_set]
 refine⟨rfl,hb.ty,hb.sz,by rw[hl];exact Nat.le_of_eq hn.symm,λ_=>⟨by rw[hl];exact hn,(hb.n3 rfl).2⟩,rfl,λj hj k hk=>⟨λe=>?_,λe=>?_⟩,λ_ _ _=>trivial,λh=>(nomatch h)⟩
 ·subst e
  refine hb.Q j ha _ λy hy=>?_
  rw[hx]at hy;cases hy;show k (GZ (f x) o vs);rw[h];exact hk x' (by rw[List.getElem?_set,if_pos rfl,if_pos ha])
 ·refine hb.Q j (by rw[hl]at hj;exact hj) _ λy hy=>hk y (by rw[List.getElem?_set,if_neg (λh=>e h.symm)];exact hy)
section
variable {P:Program} {RD:(Nat->Prop)->World->Nat->Nat->Prop} {w0:World} {R0:Ro} {nt:Nat} {tt:List TE} {G:Gh} {a a':Act} {w W:World} {t:Tm} {m:AV} {c q:Nat}
theorem Sat.other{s:St}{g:Nat}(hR:Cc RD)(h:Sat RD R0 w0 nt G s a w)(hW:w.grownBy W (some g))(h0:w0.heap.size<=g)(hZ0:¬G.Z g)(hR0:¬G.RB g)(ho:∀i b,lk s.m i=some b->DE b->G.α i≠some ⟨g,0,none⟩)(hd:a'.defers=a.defers)(hz:a'.tmps.size=a.tmps.size)(ht:∀i v,lk s.t i=some v->a'.tmps[i]?=a.tmps[i]?):Sat RD R0 w0 nt G s a' W:=by
 have hb:∀k,k<w.heap.size->k≠g->W.heap[k]?=w.heap[k]?:=λk hk hne=>hW.block k hk λe=>hne (Option.some.inj e)
 have hZ:∀k,G.Z k->W.heap[k]?=w.heap[k]?:=λk hk=>hb k (h.z3 k hk).1 λe=>hZ0 (e▸hk)
 refine⟨hd.trans h.dfr,hz.trans h.tsz,λi v hv=>⟨(ht i v hv).trans (h.tmp i v hv).1,(h.tmp i v hv).2⟩,λi b hib=>⟨(h.mem i b hib).1,?_,(h.mem i b hib).2.2⟩,h.dis,λk hk=>⟨AF (h.z3 k hk).1 hW.size,(h.z3 k hk).2⟩,⟨hW.os.trans h.fr.os,hW.tape.trans h.fr.tape,hW.output.trans h.fr.output,AH h.fr.size hW.size,λk hk hn=>(hb k (AF hk h.fr.size) (by omega)).trans (h.fr.block k hk hn)⟩,h.rb,λk hk=>AF (h.rl k hk) hW.size,h.c64,h.al,AH h.sz hW.size⟩;have hh:=(h.mem i b hib).2.1;have hog:DE b->∀gj,G.α i=some ⟨gj,0,none⟩->gj≠g:=λhob gj e1 e=>ho i b hib hob (by rw[e1,e])
 refine⟨λh0=>?_,λh1 j hj=>?_,λh2=>?_,λh3=>?_,λh4=>?_,hh.kk⟩
 ·obtain⟨gj,e1,e2,e3,e4,e5⟩:=hh.k0 h0
  exact⟨gj,e1,e2,e3,e4,(hb gj (AB e5).1 (hog (.inl h0) gj e1)).trans e5⟩
 ·obtain⟨gj,o,el,e1,e2,e3,e4⟩:=hh.k1 h1 j hj
  exact⟨gj,o,el,e1,e2,e3,e4.step e2 (λ_ h=>h) hZ⟩
 ·obtain⟨gj,o,e1,e2,e4⟩:=hh.k2 h2
  exact⟨gj,o,e1,e2,e4.step e2 (λ_ h=>h) hZ⟩
 ·obtain⟨gj,els,e1,e2,e3,e4,e5⟩:=hh.k3 h3
  exact⟨gj,els,e1,e2,e3,e4,e5.step (hb gj e5.2.2.1.lt (hog (.inr h3) gj e1)) (λ_ h=>h) hZ⟩
 ·obtain⟨gj,e1,e2,e3⟩:=hh.k4 h4
  exact⟨gj,e1,e2,hR _ _ _ _ _ _ _ e3 (λ_ h=>h) (hb gj (h.rl gj e2) λe=>hR0 (e▸e2)) hZ (AG _)⟩
theorem Sat.know{d:Nat}{v:Value}(h:Sat RD R0 w0 nt G ⟨t,m,c,q⟩ a w)(hx:a.tmps[d]?=some (r2 G.α v))(hc:Clo m (BN v)):Sat RD R0 w0 nt G ⟨(d,v)::t,m,c,q⟩ a w:=
 ⟨h.dfr,h.tsz,λi u hu=>by
  by_cases e:d=i
  ·subst e;rw[Ag]at hu;cases hu;exact⟨hx,hc⟩
  ·rw[Aw e]at hu;exact h.tmp i u hu,h.mem,h.dis,h.z3,h.fr,h.rb,h.rl,h.c64,h.al,h.sz⟩
theorem Sat.settle(hR:Cc RD){i:Nat}{b:VB}(h:Sat RD R0 w0 nt G ⟨t,m,c,q⟩ a w)(hb:lk m i=some b)(hk:b.kd=3):∃G',Sat RD R0 w0 nt G' ⟨t,F6 m i (FL (some b)),c,q⟩ a w:=by
 obtain⟨g,els,hg,g1,g2,g3,r1,r2',r3,r4⟩:=((h.mem i b hb).2.1).k3 hk;have hk3:(Nat.beq b.kd 1||Nat.beq b.kd 3)=true:=by rw[hk];rfl
 have hu:∀j b',lk (F6 m i (FL (some b))) j=some b'->(j=i/\b'=FL (some b))\/(j≠i/\lk m j=some b'):=λj b' hj=>by
  rw[Fp m i j _ b hb]at hj;split at hj
  ·rename_i e;exact .inl ⟨e,(Option.some.inj hj).symm⟩
  ·rename_i e;exact .inr ⟨e,hj⟩
 have hcl:∀l,Clo m l->Clo (F6 m i (FL (some b))) l:=λl hl=>hl.mono λj b' hj=>by
  rw[Fp m i j _ b hb];split
  ·exact⟨_,rfl⟩
  ·exact⟨b',hj⟩
 have hno:¬DE (FL (some b)):=by rw[Dk hk3];exact λh=>by rcases h with h|h<;>cases h
 refine⟨⟨G.α,λk=>G.Z k\/k=g,G.RB⟩,h.dfr,h.tsz,λj v hv=>⟨(h.tmp j v hv).1,hcl _ (h.tmp j v hv).2⟩,λj b' hj=>?_,λj b' j' b'' hj hj' ho ho' hne=>?_,λk hk=>?_,h.fr,h.rb,h.rl,h.c64,h.al,h.sz⟩
 ·rcases hu j b' hj with⟨rfl,rfl⟩|⟨hne,hj⟩
  ·refine⟨(h.mem j b hb).1,?_,by rw[Dk hk3];exact λ_ h=>(nomatch h)⟩
   rw[Dk hk3];refine⟨λh=>(nomatch h),λ_ y hy=>?_,λh=>(nomatch h),λh=>(nomatch h),λh=>(nomatch h),.inr (.inl rfl)⟩;have hy:y<b.n:=hy;obtain⟨el,hel⟩:∃el,els[y]?=some el:=⟨els[y]'(by omega),by simp⟩;have hl:=r2' el (AE hel);refine⟨g,0,el,hg,.inr rfl,(r4 y el hel).1,λx v hv=>⟨?_,(hl.2 v (AE hv)).2⟩,λW hW=>(r4 y el hel).2 W λk hk=>hW k (.inl hk)⟩;rw[Nat.zero_add];refine r3.cell ?_;rw[Ks (λe he=>(r2' e he).1) y el hel x (by have:=(AC hv).1;rw[hl.1]at this;exact this)];exact hv
  ·obtain⟨h1,h2,h3⟩:=h.mem j b' hj
   have hog:DE b'->∀gj,G.α j=some ⟨gj,0,none⟩->gj≠g:=λho gj e1 e=>h.dis j b' i b hj hb ho (.inr hk) hne (by rw[e1,hg,e])
   refine⟨h1,⟨λh0=>?_,λh0 x hx=>?_,λh0=>?_,λh0=>?_,λh0=>?_,h2.kk⟩,hcl _ h3⟩
   ·obtain⟨gj,e1,e2,e3,e4,e5⟩:=h2.k0 h0
    exact⟨gj,e1,e2,λh=>h.elim e3 (hog (.inl h0) gj e1),e4,e5⟩
   ·obtain⟨gj,o,el,e1,e2,e3,e4⟩:=h2.k1 h0 x hx
    exact⟨gj,o,el,e1,.inl e2,e3,e4.step e2 (λ_ h=>.inl h) (λ_ _=>rfl)⟩
   ·obtain⟨gj,o,e1,e2,e4⟩:=h2.k2 h0
    exact⟨gj,o,e1,.inl e2,e4.step e2 (λ_ h=>.inl h) (λ_ _=>rfl)⟩
   ·obtain⟨gj,els,e1,e2,e3,e4,e5⟩:=h2.k3 h0
    exact⟨gj,els,e1,e2,λh=>h.elim e3 (hog (.inr h0) gj e1),e4,e5.step rfl (λ_ h=>.inl h) (λ_ _=>rfl)⟩
   ·obtain⟨gj,e1,e2,e3⟩:=h2.k4 h0
    exact⟨gj,e1,e2,hR _ _ _ _ _ _ _ e3 (λ_ h=>.inl h) rfl (λ_ _=>rfl) (AG _)⟩
 ·rcases hu j b' hj with⟨e1,e2⟩|⟨_,e1⟩<;>rcases hu j' b'' hj' with⟨f1,f2⟩|⟨_,f1⟩
  ·exact absurd (e1.trans f1.symm) hne
  ·subst e2;exact absurd ho hno
  ·subst f2;exact absurd ho' hno
  ·exact h.dis j b' j' b'' e1 f1 ho ho' hne
 ·rcases hk with hk|rfl
  ·exact h.z3 k hk
  ·exact⟨r3.lt,g3⟩
theorem Sat.caps(h:Sat RD R0 w0 nt G ⟨t,m,c,q⟩ a w):∀I:List Nat,capP m I
 |[]=>trivial
 |i::r=>by
  refine⟨?_,h.caps r⟩
  cases hb:lk m i with
  |none=>trivial
  |some b=>
   show(bif Nat.beq b.kd 3 then _ else _)
   cases hk:Nat.beq b.kd 3 with
   |false=>trivial
   |true=>
    obtain⟨g,els,_,_,_,_,_,_,r3,_⟩:=((h.mem i b hb).2.1).k3 (Nat.eq_of_beq_eq_true hk);exact r3.2.1
theorem Sat.rests(hR:Cc RD):∀(I:List Nat) {m:AV} {G:Gh},Sat RD R0 w0 nt G ⟨t,m,c,q⟩ a w->∃G',Sat RD R0 w0 nt G' ⟨t,setl I m,c,q⟩ a w
 |[],_,G,h=>⟨G,h⟩
 |i::r,m,G,h=>by
  unfold setl;split
  ·rename_i b hb
   cases hk:Nat.beq b.kd 3 with
   |false=>exact Sat.rests hR r h
   |true=>
    obtain⟨G',h'⟩:=h.settle hR hb (Nat.eq_of_beq_eq_true hk);exact Sat.rests hR r h'
  ·exact Sat.rests hR r h
end
end Go.Proofs.YtbceafpodamnfaaGreat
