import Derived.Test.YtbceafpodamnfaaGreatH04
import Derived.Test.YtbceafpodamnfaaGreatH06
set_option linter.all false
namespace Go.Proofs.YtbceafpodamnfaaGreat
open Go Go.RowKit
section
variable {P:Program} {RD:(Nat->Prop)->World->Nat->Nat->Prop} {w0:World} {tt:List TE} {Γ:List (Nat × Nat × Ct)} {R0:Ro} {nt:Nat} {G:Gh} {w:World} {a:Act} {q c:Nat} {t:Tm} {m:AV}
theorem II{ops:List Oper}{o:Oper}{b:Bool}(h:DF ops t o=some b)(ht:∀i v,lk t i=some v->a.tmps[i]?=some (r2 G.α v)):Region.wanted o (yielded ops.toArray a.tmps)=b:=by
 unfold DF at h;unfold Region.wanted;split at h
 ·rename_i hg;rw[hg];cases h;rfl
 ·rename_i j want hg
  rw[hg];split at h
  ·rename_i o' ho
   split at h
   ·rename_i d hd
    have hy:∀u,lk t d=some u->yielded ops.toArray a.tmps j=match r2 G.α u with| .bool b=>some b|_=>none:=λu hu=>by
     unfold yielded;rw[show ops.toArray[j]?=some o' from by simpa using ho,Option.bind_some,hd,Option.bind_some,ht d u hu];cases r2 G.α u<;>rfl
    split at h
    ·rename_i hl;cases h;show(yielded ops.toArray a.tmps j==some _)=_;rw[show yielded ops.toArray a.tmps j=some true from hy _ hl];cases b<;>rfl
    ·rename_i hl;cases h;show(yielded ops.toArray a.tmps j==some _)=_;rw[show yielded ops.toArray a.tmps j=some false from hy _ hl];cases want<;>rfl
    ·rename_i us hl;cases h;show(yielded ops.toArray a.tmps j==some _)=_;rw[show yielded ops.toArray a.tmps j=none from hy _ hl];rfl
    ·cases h
   ·cases h
  ·cases h
theorem cst_ok{v u:Value}(h:cst v=some u)(α:Nat->Option Addr):v=r2 α u/\BN u=[]:=by
 unfold cst at h;split at h<;>first|(cases h;exact⟨rfl,rfl⟩)|cases h
theorem M1{x:Operand}{v:Value}(h:evo t x=some v)(ht:∀i v,lk t i=some v->a.tmps[i]?=some (r2 G.α v)/\Clo m (BN v)):a.eval x=r2 G.α v/\Clo m (BN v):=by
 unfold evo at h;split at h
 ·rename_i i
  obtain⟨h1,h2⟩:=ht i v h;refine⟨?_,h2⟩;show a.tmps.getD i undef=_;rw[Array.getD_eq_getD_getElem?,h1];rfl
 ·obtain⟨h1,h2⟩:=cst_ok h G.α
  exact⟨h1,by rw[h2];intro i hi;cases hi⟩
 ·cases h
theorem M0(ht:∀i v,lk t i=some v->a.tmps[i]?=some (r2 G.α v)/\Clo m (BN v)):∀(xs:List Operand) (vs:List Value),evs t xs=some vs->xs.map a.eval=vs.map (r2 G.α)/\Clo m (vs.flatMap BN)
 |[],vs,h=>by cases h;exact⟨rfl,λi hi=>(nomatch hi)⟩
 |x::xs,vs,h=>by
  unfold evs at h;split at h
  ·rename_i v hv
   split at h
   ·rename_i l hl
    cases h;obtain⟨h1,h2⟩:=M1 hv ht;obtain⟨h3,h4⟩:=M0 ht xs l hl;refine⟨by rw[List.map_cons,List.map_cons,h1,h3],λi hi=>?_⟩;rw[List.flatMap_cons]at hi;rcases List.mem_append.1 hi with hi|hi
    ·exact h2 i hi
    ·exact h4 i hi
   ·cases h
  ·cases h
theorem Fp:∀(m:AV) (i j:Nat) (b b0:VB),lk m i=some b0->lk (F6 m i b) j=if j=i then some b else lk m j
 |[],_,_,_,_,h=>by cases h
 |(k,bk)::r,i,j,b,b0,h=>by
  unfold F6
  cases hb:Nat.beq k i with
  |true=>
   have:=Nat.eq_of_beq_eq_true hb;subst this;show lk ((k,b)::r) j=_
   by_cases hj:j=k
   ·subst hj;rw[Ag,if_pos rfl]
   ·rw[Aw (Ne.symm hj),if_neg hj,Aw (Ne.symm hj)]
  |false=>
   have hki:k≠i:=λh=>by subst h;rw[show Nat.beq k k=true from by simp]at hb;cases hb
   rw[Aw hki]at h;show lk ((k,bk)::F6 r i b) j=_
   by_cases hj:j=k
   ·subst hj;rw[Ag,Ag,if_neg hki]
   ·rw[Aw (Ne.symm hj),Aw (Ne.symm hj),Fp r i j b b0 h]
theorem Sat.turn(E:Env P RD tt Γ){w':World}{i g:Nat}{b b1:VB}(h:Sat RD R0 w0 nt G ⟨t,m,c,q⟩ a w)(hb:lk m i=some b)(hk:DE b)(hg:G.α i=some ⟨g,0,none⟩)
  (hH:Hold RD w0 G w' q i b1) (hcs:Clo m (b1.cs.flatMap Cj)) (hw:w.grownBy w' (some g)):Sat RD R0 w0 nt G ⟨t,F6 m i b1,c,q⟩ a w':=by
 obtain⟨g',hg',hgw,hgZ,hgR,hgl⟩:=((h.mem i b hb).2.1).own hk;have hgg:g'=g:=by rw[hg]at hg';cases hg';rfl
 subst hgg;have hot:∀k,k<w.heap.size->k≠g'->w'.heap[k]?=w.heap[k]?:=λk hk hne=>hw.block k hk (λe=>hne (Option.some.inj e))
 have hu:∀j b',lk (F6 m i b1) j=some b'->(j=i/\b'=b1)\/(j≠i/\lk m j=some b'):=λj b' hj=>by
  rw[Fp m i j _ b hb]at hj;split at hj
  ·rename_i e;exact .inl ⟨e,(Option.some.inj hj).symm⟩
  ·rename_i e;exact .inr ⟨e,hj⟩
 have hcl:∀l,Clo m l->Clo (F6 m i b1) l:=λl hl=>hl.mono λj b' hj=>by
  rw[Fp m i j _ b hb];split
  ·exact⟨_,rfl⟩
  ·exact⟨b',hj⟩
 have hZ:∀k,G.Z k->w'.heap[k]?=w.heap[k]?:=λk hk=>hot k (h.z3 k hk).1 λe=>hgZ (e▸hk)
 refine⟨h.dfr,h.tsz,λj v hv=>⟨(h.tmp j v hv).1,hcl _ (h.tmp j v hv).2⟩,λj b' hj=>?_,λj b' j' b'' hj hj' h0 h0' hne=>?_,λk hk=>⟨AF (h.z3 k hk).1 hw.size,(h.z3 k hk).2⟩,?_,h.rb,λk hk=>AF (h.rl k hk) hw.size,h.c64,h.al,AH h.sz hw.size⟩
 ·rcases hu j b' hj with⟨rfl,rfl⟩|⟨hne,hj⟩
  ·exact⟨(h.mem j b hb).1,hH,hcl _ hcs⟩
  ·obtain⟨h1,h2,h3⟩:=h.mem j b' hj
   have hog:DE b'->∀gj,G.α j=some ⟨gj,0,none⟩->gj≠g':=λho gj e1 e=>h.dis j b' i b hj hb ho hk hne (by rw[e1,hg,e])
   refine⟨h1,⟨λh0=>?_,λh0 x hx=>?_,λh0=>?_,λh0=>?_,λh0=>?_,h2.kk⟩,hcl _ h3⟩
   ·obtain⟨gj,e1,e2,e3,e4,e5⟩:=h2.k0 h0
    exact⟨gj,e1,e2,e3,e4,(hot gj (AB e5).1 (hog (.inl h0) gj e1)).trans e5⟩
   ·obtain⟨gj,o,el,e1,e2,e3,e4⟩:=h2.k1 h0 x hx
    exact⟨gj,o,el,e1,e2,e3,e4.step e2 (λ_ h=>h) hZ⟩
   ·obtain⟨gj,o,e1,e2,e4⟩:=h2.k2 h0
    exact⟨gj,o,e1,e2,e4.step e2 (λ_ h=>h) hZ⟩
   ·obtain⟨gj,els,e1,e2,e3,e4,e5⟩:=h2.k3 h0
    exact⟨gj,els,e1,e2,e3,e4,e5.step (hot gj e5.2.2.1.lt (hog (.inr h0) gj e1)) (λ_ h=>h) hZ⟩
   ·obtain⟨gj,e1,e2,e3⟩:=h2.k4 h0
    exact⟨gj,e1,e2,E.rd _ _ _ _ _ _ _ e3 (λ_ h=>h) (hot gj (h.rl gj e2) λe=>hgR (e▸e2)) hZ (AG _)⟩
 ·rcases hu j b' hj with⟨e1,e2⟩|⟨_,e1⟩<;>rcases hu j' b'' hj' with⟨f1,f2⟩|⟨_,f1⟩
  ·exact absurd (e1.trans f1.symm) hne
  ·subst e1;exact h.dis j b j' b'' hb f1 hk h0' hne
  ·subst f1;exact h.dis j b' j' b e1 hb h0 hk hne
  ·exact h.dis j b' j' b'' e1 f1 h0 h0' hne
 ·exact⟨hw.os.trans h.fr.os,hw.tape.trans h.fr.tape,hw.output.trans h.fr.output,AH h.fr.size hw.size,λk hk hn=>(hot k (AF hk h.fr.size) (by omega)).trans (h.fr.block k hk hn)⟩
theorem Gn(w:World)(g:Nat)(cs:Array Value):w.grownBy (w.setRow g cs) (some g):=⟨rfl,rfl,rfl,by rw[D7];exact AG _,λk _ hk=>C9 w g k cs λe=>hk (by rw[e])⟩
theorem Sat.add{id c':Nat}{ad:Addr}{b1:VB}(h:Sat RD R0 w0 nt G ⟨t,m,c,q⟩ a w)(hid:c<=id)(hc:id<c')(hcs:b1.cs=[])
  (hH:Hold RD w0 ⟨λi=>if i=id then some ad else G.α i,G.Z,G.RB⟩ w q id b1) (hdis:∀j b,lk m j=some b->DE b->G.α j≠some ad):
  Sat RD R0 w0 nt ⟨λi=>if i=id then some ad else G.α i,G.Z,G.RB⟩ ⟨t,(id,b1)::m,c',q⟩ a w:=by
 have hne:∀i b,lk m i=some b->i≠id:=λi b hb e=>by have:i<c:=(h.mem i b hb).1;omega
 have hal:∀i b,lk m i=some b->(if i=id then some ad else G.α i)=G.α i:=λi b hb=>if_neg (hne i b hb)
 have hcl:∀l,Clo m l->Clo ((id,b1)::m) l:=λl hl=>hl.cons _
 have hget:∀i b,lk ((id,b1)::m) i=some b->(i=id/\b=b1)\/(i≠id/\lk m i=some b):=λi b hb=>by
  by_cases e:i=id
  ·subst e;rw[Ag]at hb;exact .inl ⟨rfl,(Option.some.inj hb).symm⟩
  ·rw[Aw (Ne.symm e)]at hb;exact .inr ⟨e,hb⟩
 have hag:∀l,Clo m l->∀i∈l,(if i=id then some ad else G.α i)=G.α i:=λl hl i hi=>let ⟨b,hb⟩:=hl i hi;hal i b hb
 refine⟨h.dfr,h.tsz,λi v hv=>⟨?_,hcl _ (h.tmp i v hv).2⟩,λi b hb=>?_,λi b j b' hb hb' h0 h0' hij=>?_,h.z3,h.fr,h.rb,h.rl,(by have h1:64<=c:=h.c64;show 64<=c';omega),λi hi=>(if_neg (by have h1:64<=c:=h.c64;omega)).trans (h.al i hi),h.sz⟩
 ·rw[(h.tmp i v hv).1,GX (β:=λi=>if i=id then some ad else G.α i) (α:=G.α) v (hag _ (h.tmp i v hv).2)]
 ·rcases hget i b hb with⟨rfl,rfl⟩|⟨_,hb⟩
  ·exact⟨hc,hH,by rw[hcs];exact λ_ h=>(nomatch h)⟩
  ·obtain⟨h1,h2,h3⟩:=h.mem i b hb
   have h1':i<c:=h1;refine⟨show i<c' by omega,⟨λh0=>?_,λh0 x hx=>?_,λh0=>?_,λh0=>?_,λh0=>?_,h2.kk⟩,hcl _ h3⟩
   ·obtain⟨g,e1,e2,e3,e4,e5⟩:=h2.k0 h0
    exact⟨g,(hal i b hb).trans e1,e2,e3,e4,by rw[e5,EX (β:=λi=>if i=id then some ad else G.α i) (α:=G.α) EV b.cs (hag _ h3)]⟩
   ·obtain⟨g,o,el,e1,e2⟩:=h2.k1 h0 x hx
    exact⟨g,o,el,(hal i b hb).trans e1,e2⟩
   ·obtain⟨g,o,e1,e2⟩:=h2.k2 h0
    exact⟨g,o,(hal i b hb).trans e1,e2⟩
   ·obtain⟨g,els,e1,e2⟩:=h2.k3 h0
    exact⟨g,els,(hal i b hb).trans e1,e2⟩
   ·obtain⟨g,e1,e2⟩:=h2.k4 h0
    exact⟨g,(hal i b hb).trans e1,e2⟩
 ·rcases hget i b hb with⟨e1,e2⟩|⟨n1,e1⟩<;>rcases hget j b' hb' with⟨f1,f2⟩|⟨n2,f1⟩
  ·exact absurd (e1.trans f1.symm) hij
  ·subst e1;show(if i=i then some ad else G.α i)≠(if j=i then some ad else G.α j);rw[if_pos rfl,if_neg n2];exact λe=>hdis j b' f1 h0' e.symm
  ·subst f1;show(if i=j then some ad else G.α i)≠(if j=j then some ad else G.α j);rw[if_pos rfl,if_neg n1];exact hdis i b e1 h0
  ·show(if i=id then some ad else G.α i)≠(if j=id then some ad else G.α j);rw[if_neg n1,if_neg n2];exact h.dis i b j b' e1 f1 h0 h0' hij
theorem noRW{α:Nat->Option Addr}:r2 α (.tuple #[])=undef:=by show Value.tuple (Array.map _ #[])=_;simp[undef]
theorem stv_ok{op:Op}{vs:List Value}{m:AV}{cm:List Value × AV}(h:stv tt op vs m=some cm):∃T x y fk i off v b e,op=.store T x y/\vs=[.complex fk i off,v]/\lk m i=some b/\tyo tt T=some e/\b.kd=0/\(Ad v).length=e.size/\off+(Ad v).length<=b.cs.length/\(Ad v).all Eo=true/\
  cm=(b.cs.take off++Ad v++b.cs.drop (off+(Ad v).length),F6 m i (AZ (b.cs.take off++Ad v++b.cs.drop (off+(Ad v).length)) b.ty)):=by
 unfold stv at h;split at h
 ·rename_i T x y fk i off v
  split at h
  ·rename_i b hb
   split at h
   ·rename_i e he
    cases hc:(Nat.beq b.kd 0&&Nat.beq (Ad v).length e.size&&Nat.ble (off+(Ad v).length) b.cs.length&&(Ad v).all Eo) with
    |false=>rw[hc]at h;cases h
    |true=>
     rw[hc]at h;simp only[Bool.and_eq_true]at hc;exact⟨T,x,y,fk,i,off,v,b,e,rfl,rfl,hb,he,Nat.eq_of_beq_eq_true hc.1.1.1,Nat.eq_of_beq_eq_true hc.1.1.2,AD hc.1.2,hc.2,(Option.some.inj h).symm⟩
   ·cases h
  ·cases h
 ·cases h
theorem Lw{sz:Nat}{vs:List Value}{f:Nat}(hf:f+vs.length<=sz):∀(els:List (List Value)) (j:Nat) (el:List Value),(∀e∈els,e.length=sz)->els[j]?=some el->splice els.flatten (j*sz+f) vs=(els.set j (GZ el f vs)).flatten
 |[],_,_,_,h=>by cases h
 |e::r,0,el,hl,h=>by
  have h0:=hl e List.mem_cons_self;cases h;rw[List.set_cons_zero,List.flatten_cons,List.flatten_cons];unfold splice GZ;rw[Nat.zero_mul,Nat.zero_add,List.take_append_of_le_length (by omega),List.drop_append_of_le_length (by omega)];simp only[List.append_assoc]
 |e::r,j+1,el,hl,h=>by
  have h0:=hl e List.mem_cons_self;have ih:=Lw hf r j el (λx hx=>hl x (List.mem_cons_of_mem _ hx)) h;rw[List.set_cons_succ,List.flatten_cons,List.flatten_cons,<-ih];unfold splice;rw[show(j+1)*sz+f=e.length+(j*sz+f) by rw[h0,Nat.add_mul];omega,List.take_length_add_append,Nat.add_assoc,List.drop_length_add_append];simp only[List.append_assoc]
theorem Sat.ids{c':Nat}(h:Sat RD R0 w0 nt G ⟨t,m,c,q⟩ a w)(hc:∀i b,lk m i=some b->i<c')(h64:64<=c'):Sat RD R0 w0 nt G ⟨t,m,c',q⟩ a w:=
 ⟨h.dfr,h.tsz,h.tmp,λi b hb=>⟨hc i b hb,(h.mem i b hb).2⟩,h.dis,h.z3,h.fr,h.rb,h.rl,h64,h.al,h.sz⟩
theorem Sat.put(E:Env P RD tt Γ){c':Nat}{v:Value}{d:Option Nat}(h:Sat RD R0 w0 nt G ⟨t,m,c,q⟩ a w)(hc:c<=c')(hv:Clo m (BN v))(hd:∀x,d=some x->x<nt):Sat RD R0 w0 nt G ⟨D5 d v t,m,c',q⟩ (a.put d (r2 G.α v)) w:=
 (h.step (v:=v) (es:=[]) (d:=d) (c':=c'+8) (GS.refl (P:=P) (tt:=tt) (Γ:=Γ) (id:=c') E h.z3 h.rl) .nil (λi b hb=>.inl (AF (h.mem i b hb).1 hc)) (by omega) (by omega) (AH h.c64 hc) hv (λ_ _ h=>(nomatch h)) hd).ids (λi b hb=>AF (h.mem i b hb).1 hc) (AH h.c64 hc)
theorem Iu(w:World)(t ty e:TypeId)(z:Value)(size bytes:Nat)(ht:P.underlying t=some (.slice e))(hinfo:(P.info? e).map (λi=>(i.zero,i.size,i.bytes))=some (some z,size,bytes))(hzs:z.cells.size=size)
  (g n cap:Nat) (xs:List Value) (hrow:RowIs w e size g n cap xs) (ao:Option Addr) (m c:Nat) (news:List Value) (hl:news.length=m*size) (hsrc:m≠0->∃ad,ao=some ad/\∀j u,news[j]?=some u->w.cell? (ad.add j)=some u) (h1:∀u∈news,u.oneCell'=true)
  (h63:n+m<=maxLen) (hbytes:(n+m)*bytes<=140737488355328):
  ∃g' cap' w',(Builtin.append_ #[t,t] ty #[.slice (some ⟨g,0,none⟩) n cap,.slice ao m c]).run P w=.ok (.slice (some ⟨g',0,none⟩) (n+m) cap') w'/\(g'=g\/g'=w.heap.size)/\RowIs w' e size g' (n+m) cap' (xs++news)/\w.grownBy w' (some g):=by
 by_cases hm:m=0
 ·subst hm
  have hn:news=[]:=List.eq_nil_of_length_eq_zero (by simpa using hl);subst hn;obtain⟨i,hi,hz,hs,hb⟩:=info_parts hinfo;refine⟨g,cap,w,?_,.inl rfl,by simpa using hrow,Mt w _⟩;cases ao<;>simp[Builtin.append_,run_underlying ht,sizeOf,typeInfo,hi,Builtin.lenOf,Builtin.firstCells,storeCells,hrow.2.1,go_sem]
 ·obtain⟨ad,rfl,hnews⟩:=hsrc hm
  exact FQ w t ty e z size bytes ht hinfo hzs g n cap xs hrow ad m c news hl hnews h1 h63 hbytes
theorem src_els{j:Nat}{b':VB}(h:Hold RD w0 G w q j b')(hk:b'.kd=3\/b'.kd=1){n':Nat}(hn:n'<=b'.n)(hq:b'.kd=1->∀y,y<n'->b'.Q y (okEl b'.sz)):
  ∃els:List (List Value),els.length=n'/\(∀e∈els,e.length=b'.sz/\∀v∈e,v.oneCell'=true/\∀β,r0 β v=v)/\(n'≠0->∃ad,G.α j=some ad/\∀y u,els.flatten[y]?=some u->w.cell? (ad.add y)=some u)/\∀y el,els[y]?=some el->(∀k,b'.Q y k->k el)/\∀W:World,(∀k,G.Z k->W.heap[k]?=w.heap[k]?)->b'.E W el:=by
 rcases hk with hk|hk
 ·obtain⟨g2,els2,hg2,f2,f3,f4,s1,s2,s3,s4⟩:=h.k3 hk
  refine⟨els2.take n',by rw[List.length_take];omega,λe he=>s2 e (List.mem_of_mem_take he),λ_=>⟨⟨g2,0,none⟩,hg2,λy u hu=>?_⟩,λy el hy=>s4 y el ?_⟩
  ·rw[No (λe he=>(s2 e he).1) n',List.getElem?_take]at hu
   rw[IG,Nat.zero_add];split at hu
   ·exact s3.cell hu
   ·cases hu
  ·rw[List.getElem?_take]at hy
   split at hy
   ·exact hy
   ·cases hy
 ·induction n' with
  |zero=>exact⟨[],rfl,λ_ h=>(nomatch h),λh=>absurd rfl h,λ_ _ h=>(nomatch h)⟩
  |succ m ih=>
   obtain⟨els,l1,l2,l3,l4⟩:=ih (by omega) λhk y hy=>hq hk y (by omega)
   obtain⟨g,o,el,e1,e2,e3,e4⟩:=h.k1 hk m (by omega);obtain⟨o1,o2⟩:=e3 _ (hq hk m (by omega))
   have hone:∀v∈el,v.oneCell'=true/\∀β,r0 β v=v:=λv hv=>by
    have:=List.all_eq_true.1 o2 v hv;simp only[Bool.and_eq_true]at this;exact⟨by rw[<-FA this.1 G.α];exact(DK this.2 G.α).2.2.2,fun β=>FA this.1 β⟩
   refine⟨els++[el],by rw[List.length_append,l1];rfl,λe he=>?_,λ_=>⟨⟨g,o,none⟩,e1,λy u hu=>?_⟩,λy e' hy=>?_⟩
   ·rcases List.mem_append.1 he with he|he
    ·exact l2 e he
    ·rw[List.mem_singleton.1 he];exact⟨o1,hone⟩
   ·have hfl:els.flatten.length=m*b'.sz:=by rw[Kr λe he=>(l2 e he).1,l1]
    rw[List.flatten_append]at hu
    by_cases hy:y<els.flatten.length
    ·rw[List.getElem?_append_left hy]at hu
     obtain⟨ad,ha,hc⟩:=l3 λh0=>by rw[hfl,h0]at hy;omega
     rw[e1]at ha;cases ha;exact hc y u hu
    ·rw[List.getElem?_append_right (by omega),hfl]at hu
     have hu':el[y - m*b'.sz]?=some u:=by simpa using hu
     have:=(e4.1 _ u hu').1;rw[IG]
     rwa [show o+m*b'.sz+(y - m*b'.sz)=o+y by omega]at this
   ·by_cases hy':y<els.length
    ·rw[List.getElem?_append_left hy']at hy
     exact l4 y e' hy
    ·rw[List.getElem?_append_right (by omega)]at hy
     have hym:y=m:=by
      have:=(AC hy).1;simp at this;omega
     subst hym;rw[l1,Nat.sub_self]at hy;cases hy;exact⟨e3,e4.2⟩
theorem N8(E:Env P RD tt Γ){o:Oper}{args:Array Operand}{ts:Array Nat}{e e':TE}{b b':VB}{els:List (List Value)}{g j n' c2:Nat}(hop:o.op=.call ⟨.builtin .append,args,ts⟩)(hts:ts=#[e.ty,e.ty])(h1:TEok P e)(hu:e.u=3)(h3:TEok P e')(h4:e'.ty=e.el)(h9:e'.zero.length=e'.size)
  (hargs:args.map a.eval=#[.slice (some ⟨g,0,none⟩) b.n b.cp,.slice (G.α j) n' c2]) (hrow:RowK G.Z w g b els) (hsrc:Hold RD w0 G w q j b') (hk:b'.kd=3\/b'.kd=1) (hn:n'<=b'.n) (hq:b'.kd=1->∀y,y<n'->b'.Q y (okEl b'.sz)) (hsm:b.n+n'<=1000000000) (hs:b.sz=e'.size) (hs':b'.sz=e'.size) (ht:b.ty=e.el) (hgZ:¬G.Z g) (hz:∀k,G.Z k->k<w.heap.size):
  ∃g' cap' w',(execOp a.eval o).run P w=.ok (.value (.slice (some ⟨g',0,none⟩) (b.n+n') cap')) w'/\(g'=g\/g'=w.heap.size)/\w.grownBy w' (some g)/\∃els',RowK G.Z w' g' (Eu b b' n' cap') els':=by
 obtain⟨inf,z,hi,hsz,hz0,hzc,hby⟩:=h3.bytes;obtain⟨r1,r2',r3,r4⟩:=hrow;obtain⟨els2,l1,l2,l3,l4⟩:=src_els hsrc hk hn hq
 obtain⟨g',cap',w',hr,hgg,hrw,hgr⟩:=Iu (P:=P) w e.ty o.type e.el z e'.size inf.bytes (h1.slice hu) (by rw[h4]at hi;rw[hi];simp[hz0,hsz]) (by rw[<-Array.length_toList,hzc];exact h9) g b.n b.cp els.flatten (by rw[<-hs,<-ht];exact r3) (G.α j) n' c2 els2.flatten
  (by rw[Kr λe he=>(l2 e he).1,l1,hs']) l3 (λu hu=>by
   obtain⟨e,he,hu⟩:=List.mem_flatten.1 hu
   exact((l2 e he).2 u hu).1) (by unfold maxLen;omega) (by
   have:=Nat.mul_le_mul hsm hby
   omega)
 have hZ:∀W:World,(∀k,G.Z k->W.heap[k]?=w'.heap[k]?)->∀k,G.Z k->W.heap[k]?=w.heap[k]?:=λW hW k hk=>(hW k hk).trans (hgr.block k (hz k hk) λe=>hgZ (Option.some.inj e▸hk))
 refine⟨g',cap',w',?_,hgg,hgr,els++els2,by rw[List.length_append,r1,l1];rfl,λe he=>(List.mem_append.1 he).elim (r2' e) λh=>by show _=b.sz/\_;rw[hs,<-hs'];exact l2 e h,?_,λy e hy=>?_⟩
 ·unfold execOp
  simp only[hop,resolve,invoke,builtin,Sem.run_bind,Sem.run_pure,Result.andThen_ok,hargs,hts,hr]
 ·rw[List.flatten_append]
  show RowIs w' b.ty b.sz g' (b.n+n') cap' _;rw[hs,ht];exact hrw
 ·by_cases hyn:y<b.n
  ·rw[List.getElem?_append_left (by omega)]at hy
   exact⟨λk hk=>(r4 y e hy).1 k (hk.1 hyn),λW hW=>.inl ((r4 y e hy).2 W (hZ W hW))⟩
  ·rw[List.getElem?_append_right (by omega),r1]at hy
   exact⟨λk hk=>(l4 _ e hy).1 k (hk.2 (by omega)),λW hW=>.inr ((l4 _ e hy).2 W (hZ W hW))⟩
theorem Ir{b':VB}{n':Nat}{X:Prop}(hk:b'.kd=3\/b'.kd=1)(h:srcC b' n' X):(b'.kd=1->∀y,y<n'->b'.Q y (okEl b'.sz))/\X:=by
 unfold srcC at h;rcases hk with hk|hk<;>rw[hk]at h
 ·exact⟨λh'=>absurd (hk.symm.trans h') (by decide),h⟩
 ·exact⟨λ_=>h.1,h.2⟩
theorem OL(E:Env P RD tt Γ){o:Oper}{vs:List Value}{id:Nat}{T:(Value->AV->Prop)->Prop}(hs:Sat RD R0 w0 nt G ⟨t,m,c,q⟩ a w)(hid:c<=id)(hev:(Bj o.op).map a.eval=vs.map (r2 G.α))(hT:rwg tt id o.op vs m=some T)
  {k0:Value->AV->Prop} (hk:T k0) (hd:∀x,o.dst=some x->x<nt) {K:Act->World->Prop} {Q:Exit->Act->World->Prop}
  (hK:∀v m' G' w',k0 v m'->Sat RD R0 w0 nt G' ⟨D5 o.dst v t,m',id+8,q⟩ (a.put o.dst (r2 G'.α v)) w'->Am Γ o=0->K (a.put o.dst (r2 G'.α v)) w'):o.wp P a w K Q:=by
 generalize hop':o.op=op at hev hT;unfold rwg at hT;split at hT
 ·rename_i T' x y i n1 sz f v
  simp only[Bj,List.map_cons,List.map_nil,List.cons.injEq,and_true]at hev;split at hT
  ·rename_i b hb
   split at hT
   ·rename_i e he
    cases hc:(Nat.beq b.kd 3&&Nat.beq sz b.sz&&Nat.beq (Ad v).length e.size&&Nat.ble (f+(Ad v).length) sz&&(Ad v).all (λu=>noV u&&Eo u)) with
    |false=>rw[hc]at hT;cases hT
    |true=>
     rw[hc]at hT;cases hT;obtain⟨hlt,hE,hk⟩:=hk;simp only[Bool.and_eq_true]at hc;obtain⟨⟨⟨⟨c1,c2⟩,c3⟩,c4⟩,c5⟩:=hc;have c1:=Nat.eq_of_beq_eq_true c1;have c2:=Nat.eq_of_beq_eq_true c2;have c3:=Nat.eq_of_beq_eq_true c3;have c4:=AD c4;have c5:∀u∈Ad v,noV u=true/\Eo u=true:=λu hu=>by have:=List.all_eq_true.1 c5 u hu;simpa using this
     subst c2;obtain⟨h1,h2⟩:=E.ty he;subst h2;have hH:=(hs.mem i b hb).2.1;obtain⟨g,els,hg,e2,e3,e4,r1,r2',r3,r4⟩:=hH.k3 c1;have hrow:=r3;obtain⟨x1,x2,cur,hcur,hcs,htk⟩:=r3;obtain⟨el,hel⟩:∃el,els[n1]?=some el:=⟨els[n1]'(by rw[r1];exact hlt),by simp⟩
     have hx:a.eval x=.pointer (some ⟨g,n1*b.sz+f,none⟩):=by
      rw[hev.1];show Value.pointer ((G.α i).map _)=_;rw[hg,Option.map_some,IG,Nat.zero_add];rfl
     have hcv:(a.eval y).cells.toList=Ad v:=by
      rw[hev.2];rcases Jf v with⟨cs,rfl⟩|⟨_,_,_,h4⟩
      ·rw[IX rfl];exact IP (List.all_eq_true.2 λu hu=>(c5 u hu).1) _
      ·rw[h4]at c5 ⊢
       obtain⟨h6,h7⟩:=c5 v (by simp);rw[(DK h7 G.α).2.2.1,FA h6]
     have hcl1:(a.eval y).cells.size=(Ad v).length:=by rw[<-Array.length_toList,hcv]
     have hfit0:n1*b.sz+f+(Ad v).length<=b.n*b.sz:=by
      have:=Nat.mul_le_mul_right b.sz (show n1+1<=b.n by omega);rw[Nat.add_mul]at this;omega
     have hnc:b.n*b.sz<=b.cp*b.sz:=Nat.mul_le_mul_right b.sz x2
     have hr:=Js (P:=P) (w:=w) h1 hop' hx hcur (by rw[hcl1,c3]) (by rw[hcl1,hcs];omega) λu hu=>by
      rw[hcv]at hu;obtain⟨h6,h7⟩:=c5 u hu;rw[<-FA h6 G.α];exact(DK h7 G.α).2.2.2
     unfold Oper.wp;rw[hr,Oper.upon_skip];have hl1:=(r2' el (AE hel)).1;have hput:(GZ el f (Ad v)).length=b.sz:=by unfold GZ;simp;omega
     have hs2:=hs.turn E (w':=w.setRow g (cur.toList.take (n1*b.sz+f)++(a.eval y).cells.toList++cur.toList.drop (n1*b.sz+f+(a.eval y).cells.size)).toArray) (b1:=G8 b n1 f (Ad v)) hb (.inr c1) hg ⟨λh=>(nomatch h),λh=>(nomatch h),λh=>(nomatch h),λ_=>⟨g,els.set n1 (GZ el f (Ad v)),hg,e2,e3,e4,by rw[List.length_set];exact r1,λe' he'=>by
       rcases List.mem_or_eq_of_mem_set he' with h5|h5
       ·exact r2' e' h5
       ·rw[h5]
        refine⟨hput,λu hu=>?_⟩;rcases List.mem_append.1 hu with hu|hu
        ·rcases List.mem_append.1 hu with hu|hu
         ·exact(r2' el (AE hel)).2 u (List.mem_of_mem_take hu)
         ·obtain⟨h6,h7⟩:=c5 u hu
          exact⟨by rw[<-FA h6 G.α];exact(DK h7 G.α).2.2.2,fun β=>FA h6 β⟩
        ·exact(r2' el (AE hel)).2 u (List.mem_of_mem_drop hu),by
       rw[<-Lw (by omega) els n1 el (λe he=>(r2' e he).1) hel];refine hrow.stored cur hcur _ _ hfit0 ?_;rw[setRow_heap w g _ _ b.ty _ hcur,hcv,hcl1];unfold splice
       rw[List.append_assoc],λj e' hj=>by
       have hz:∀W:World,(∀k,G.Z k->W.heap[k]?=(w.setRow g (cur.toList.take (n1*b.sz+f)++(a.eval y).cells.toList++cur.toList.drop (n1*b.sz+f+(a.eval y).cells.size)).toArray).heap[k]?)->∀k,G.Z k->W.heap[k]?=w.heap[k]?:=λW hW k hk=>(hW k hk).trans (C9 w g k _ λe=>e3 (e▸hk))
       rw[List.getElem?_set]at hj
       by_cases hn:n1=j
       ·subst hn
        rw[if_pos rfl,if_pos (by rw[r1];exact hlt)]at hj;cases hj;exact⟨λk hk=>(r4 n1 el hel).1 _ (hk.1 rfl),λW hW=>hE W el ((r4 n1 el hel).2 W (hz W hW))⟩
       ·rw[if_neg hn]at hj
        exact⟨λk hk=>(r4 j e' hj).1 _ (hk.2 λe=>hn e.symm),λW hW=>(r4 j e' hj).2 W (hz W hW)⟩⟩,λh=>(nomatch h),.inr (.inr (.inr (.inl rfl)))⟩ (λ_ h=>(nomatch h)) (Gn w g _)
     have:=hs2.put E (v:=.tuple #[]) (d:=o.dst) (c':=id+8) (AH hid (Nat.le_add_right _ _)) (λ_ h=>(nomatch h)) hd;rw[<-noRW (α:=G.α)];exact hK _ _ G _ hk this (by simp[Am,hop'])
   ·cases hT
  ·cases hT
 ·rename_i args ts i sa n c1 j sb n' c2
  split at hT
  ·rename_i b hb
   split at hT
   ·rename_i b' hb'
    split at hT
    ·rename_i T1 T2 hts
     split at hT
     ·rename_i e he
      split at hT
      ·rename_i e' he'
       cases hc:(Nat.beq T1 T2&&Nat.beq e.u 3&&Nat.beq b.kd 3&&(Nat.beq b'.kd 3||Nat.beq b'.kd 1)&& !Nat.beq i j&&Nat.beq b.sz e'.size&&Nat.beq b'.sz e'.size&&Nat.beq b.ty e.el&&Nat.beq b'.ty e.el&&Nat.beq e'.zero.length e'.size) with
       |false=>rw[hc]at hT;cases hT
       |true=>
        rw[hc]at hT;cases hT;obtain⟨rfl,rfl,hn',hsm,hk⟩:=hk;simp only[Bool.and_eq_true,Bool.not_eq_true',Bool.or_eq_true]at hc;obtain⟨⟨⟨⟨⟨⟨⟨⟨⟨q0,q1⟩,q2⟩,q3⟩,q4⟩,q5⟩,q6⟩,q7⟩,q8⟩,q9⟩:=hc;have q0:=Nat.eq_of_beq_eq_true q0;have q2:=Nat.eq_of_beq_eq_true q2;have q3:b'.kd=3\/b'.kd=1:=q3.imp Nat.eq_of_beq_eq_true Nat.eq_of_beq_eq_true;have hk:=Ir q3 hk;subst q0;obtain⟨h1,h2⟩:=E.ty he;obtain⟨h3,h4⟩:=E.ty he';subst h2;obtain⟨g,els,hg,e2,e3,e4,hrw⟩:=((hs.mem i b hb).2.1).k3 q2
        have hargs:args.map a.eval=#[.slice (some ⟨g,0,none⟩) b.n b.cp,.slice (G.α j) n' c2]:=by
         have hev':args.toList.map a.eval=[.slice (some ⟨g,0,none⟩) b.n b.cp,.slice (G.α j) n' c2]:=by
          refine Eq.trans hev ?_;show [Value.slice (G.α i) _ _,Value.slice (G.α j) _ _]=_;rw[hg]
         rw[<-Array.toArray_toList (xs:=args.map a.eval),Array.toList_map,hev']
        obtain⟨g',cap',w',hr,hgg,hgr,els',hrow⟩:=N8 E hop' (by rw[<-Array.toArray_toList (xs:=ts),hts]) h1 (Nat.eq_of_beq_eq_true q1) h3 h4 (Nat.eq_of_beq_eq_true q9) hargs hrw (hs.mem j b' hb').2.1 q3 hn' hk.1 hsm (Nat.eq_of_beq_eq_true q5) (Nat.eq_of_beq_eq_true q6) (Nat.eq_of_beq_eq_true q7) e3 λk hk=>(hs.z3 k hk).1
        have hk:=hk.2;unfold Oper.wp;rw[hr];have hdead:Hold RD w0 G w' q i JV:=⟨λh=>(nomatch h),λh=>(nomatch h),λh=>(nomatch h),λh=>(nomatch h),λh=>(nomatch h),.inr (.inr (.inr (.inr (.inr rfl))))⟩;have hs2:=hs.turn E (b1:=JV) hb (.inr q2) hg hdead (λ_ h=>(nomatch h)) hgr;have hglt:=hrw.2.2.1.lt
        have hs3:=hs2.add (id:=id) (c':=id+8) (ad:=⟨g',0,none⟩) (b1:=Eu b b' n' cap') hid (by omega) rfl ⟨λh=>(nomatch h),λh=>(nomatch h),λh=>(nomatch h),λ_=>⟨g',els',if_pos rfl,by have:=hs.fr.size;rcases hgg with h|h<;>omega,λh=>hgg.elim (λe=>e3 (e▸h)) (λe=>absurd (hs.z3 g' h).1 (by omega)),λh=>hgg.elim (λe=>e4 (e▸h)) (λe=>absurd (hs.rl g' h) (by omega)),hrow⟩,λh=>(nomatch h),.inr (.inr (.inr (.inl rfl)))⟩ (λy by' hy hoy=>by
          rw[Fp m i y _ b hb]at hy;split at hy
          ·cases hy;rcases hoy with h|h<;>cases h
          ·rename_i hyi
           obtain⟨gy,hgy,_,_,_,hgl⟩:=((hs.mem y by' hy).2.1).own hoy;rw[hgy];intro e;cases e;rcases hgg with h|h
           ·exact hs.dis y by' i b hy hb hoy (.inr q2) hyi (by rw[hgy,hg,h])
           ·omega)
        have:=hs3.put E (v:=.iface id (.slice none (b.n+n') cap')) (d:=o.dst) (c':=id+8) (AG _) (λy hy=>by
         cases List.mem_singleton.1 (show y∈[id] from hy)
         exact⟨_,Ag _ _ _⟩) hd
        have:=hK _ _ _ _ (hk cap') this (by simp[Am,hop'])
        rwa [show r2 _ (Value.iface id (.slice none (b.n+n') cap'))=.slice (some ⟨g',0,none⟩) (b.n+n') cap' from by show Value.slice (if id=id then _ else _) _ _=_;rw[if_pos rfl]]at this
      ·cases hT
     ·cases hT
    ·cases hT
   ·cases hT
  ·cases hT
 ·cases hT
def After(RD:(Nat->Prop)->World->Nat->Nat->Prop)(R0:Ro)(w0:World)(nt:Nat)(Q:Exit->St->Prop):Exit->Act->World->Prop:=λe a w=>∃s G,Q e s/\Sat RD R0 w0 nt G s a w
def Ku(nt:Nat)(l:List Oper):Bool:=l.all λo=>match o.dst with
 |some d=>Nat.ble (d+1) nt
 |none=>true
theorem GP(E:Env P RD tt Γ){ops:List Oper}{Q:Exit->Act->World->Prop}{k:Tm->AV->Prop}:∀(l:List Oper) (j:Nat) (t:Tm) (m:AV) (G:Gh) (a:Act) (w:World) (q:Nat),Ku nt l=true->
  vO tt Γ ops c l j t m k->Sat RD R0 w0 nt G ⟨t,m,c+8*j,q⟩ a w->(BG Γ l=0\/q+BG Γ l<=QM)->
  (∀t' m' G' a' w',k t' m'->Sat RD R0 w0 nt G' ⟨t',m',c+8*(j+l.length),q+BG Γ l⟩ a' w'->Q .normal a' w')->wpList P ops.toArray Q l a w
 |[],j,t,m,G,a,w,q,_,h,hs,_,hk=>hk t m G a w h hs
 |o::r,j,t,m,G,a,w,q,hd,h,hs,hq,hk=>by
  have hd':=List.all_eq_true.1 hd;have hdo:∀x,o.dst=some x->x<nt:=λx hx=>by have:=hd' o List.mem_cons_self;rw[hx]at this;exact AD this
  have hdr:Ku nt r=true:=List.all_eq_true.2 λo' ho=>hd' o' (List.mem_cons_of_mem _ ho)
  have hold:∀i b,lk m i=some b->(i<c+8*j\/c+8*j+8<=i):=λi b hb=>.inl (hs.mem i b hb).1
  have hcost:BG Γ (o::r)=Am Γ o+BG Γ r:=rfl;rw[hcost]at hq hk
  have hrest:∀(t':Tm) (m':AV) (G':Gh) (a':Act) (w':World) (q':Nat),q'=q+Am Γ o->vO tt Γ ops c r (j+1) t' m' k->Sat RD R0 w0 nt G' ⟨t',m',c+8*(j+1),q'⟩ a' w'->wpList P ops.toArray Q r a' w':=λt' m' G' a' w' q' hq' hv hs'=>by
   subst hq';refine GP E r (j+1) t' m' G' a' w' _ hdr hv hs' (by omega) λt2 m2 G2 a2 w2 hk2 hs2=>hk t2 m2 G2 a2 w2 hk2 ?_
   rw[show j+1+r.length=j+(o::r).length by simp;omega,Nat.add_assoc]at hs2;exact hs2
  unfold vO at h;refine wpList_step λK hK=>?_
  split at h
  ·rename_i hwv
   rw[II (G:=G) hwv λi v hv=>(hs.tmp i v hv).1];show K (a.put o.dst undef) w;refine hK _ _ (hrest _ _ G _ _ (q+Am Γ o) rfl h ?_);have:=hs.step (v:=.tuple #[]) (es:=[]) (d:=o.dst) (c':=c+8*(j+1)) (GS.refl' (P:=P) (tt:=tt) (Γ:=Γ) (id:=c+8*j) E hs.z3 hs.rl (Nat.le_add_right q (Am Γ o))) .nil hold (by show c+8*j<=_;omega) (by omega) hs.c64 (λi hi=>(nomatch hi)) (λ_ _ h=>(nomatch h)) hdo;rw[noRW]at this;exact this
  ·rename_i hwv
   rw[II (G:=G) hwv λi v hv=>(hs.tmp i v hv).1];show o.wp P a w K Q;split at h
   ·rename_i vs hvs
    obtain⟨hev,hcl⟩:=M0 (a:=a) (G:=G) (m:=m) hs.tmp _ _ hvs;split at h
    ·rename_i cm hst
     rw[IU]at h;have hv:=h;obtain⟨T,x,y,fk,i,off,v,b,e,ho,hvs',hb,he,hkd,hsz,hfit,hone,hcm⟩:=stv_ok hst;subst hvs';rw[ho]at hev;simp only[Bj,List.map_cons,List.map_nil,List.cons.injEq,and_true]at hev;obtain⟨g,hg,_,_,_,hgh⟩:=((hs.mem i b hb).2.1).k0 hkd;obtain⟨h1,h2⟩:=E.ty he;subst h2;have hx:a.eval x=.pointer (some ⟨g,off,none⟩):=by rw[hev.1,FT fk off hg,Nat.zero_add]
     have hcv:(a.eval y).cells.toList=(Ad v).map (r0 G.α):=by
      rw[hev.2];rcases Jf v with⟨cs,rfl⟩|⟨_,_,_,h4⟩
      ·exact IX rfl _
      ·rw[h4]at hone ⊢
       have ho1:Eo v=true:=by simpa using hone
       rw[(DK ho1 G.α).2.2.1];rfl
     have hcl1:(a.eval y).cells.size=(Ad v).length:=by rw[<-Array.length_toList,hcv,List.length_map]
     have hr:=Js (P:=P) (w:=w) (E.ty he).1 (by rw[ho]) hx hgh (by rw[hcl1,hsz]) (by rw[hcl1];simpa using hfit) λu hu=>by
      rw[hcv]at hu;obtain⟨u',hu',rfl⟩:=List.mem_map.1 hu;exact(DK (List.all_eq_true.1 hone u' hu') G.α).2.2.2
     unfold Oper.wp;rw[hr,Oper.upon_skip];refine hK _ _ (hrest _ _ G _ _ (q+Am Γ o) rfl hv ?_);have hc0:Am Γ o=0:=by simp[Am,ho]
     have hgf:=((hs.mem i b hb).2.1).k0 hkd
     have hs2:=hs.turn E (w':=w.setRow g ((b.cs.map (r0 G.α)).toArray.toList.take off++(a.eval y).cells.toList++(b.cs.map (r0 G.α)).toArray.toList.drop (off+(a.eval y).cells.size)).toArray) (b1:=AZ cm.1 b.ty) hb (.inl hkd) hg (by
      obtain⟨g2,e1,e2,e3,e4,_⟩:=hgf;rw[hg]at e1;cases e1;refine⟨λ_=>⟨g,hg,e2,e3,e4,?_⟩,λh=>(nomatch h),λh=>(nomatch h),λh=>(nomatch h),λh=>(nomatch h),.inl rfl⟩;rw[setRow_heap w g _ _ b.ty _ hgh,hcv,hcl1,hcm]
      simp only[AZ,List.map_append,List.map_take,List.map_drop,List.toList_toArray]) (by
      rw[hcm];intro x hx
      replace hx:x∈(b.cs.take off++Ad v++b.cs.drop (off+(Ad v).length)).flatMap Cj:=hx
      simp only[List.flatMap_append,List.mem_append]at hx;have hbc:=(hs.mem i b hb).2.2;rcases hx with(hx|hx)|hx
      ·obtain⟨u,hu,hu'⟩:=List.mem_flatMap.1 hx
       exact hbc x (List.mem_flatMap.2 ⟨u,List.mem_of_mem_take hu,hu'⟩)
      ·refine hcl x (List.mem_flatMap.2 ⟨v,by simp,?_⟩)
       rcases Jf v with⟨cs,rfl⟩|⟨_,h5,_,h4⟩
       ·exact hx
       ·rw[h4]at hx hone
        have ho1:Eo v=true:=by simpa using hone
        rw[(DK ho1 G.α).2.1]
        simpa using hx
      ·obtain⟨u,hu,hu'⟩:=List.mem_flatMap.1 hx
       exact hbc x (List.mem_flatMap.2 ⟨u,List.mem_of_mem_drop hu,hu'⟩)) (Gn w g _)
     have:=hs2.step (v:=.tuple #[]) (es:=[]) (d:=o.dst) (c':=c+8*(j+1)) (GS.refl' (P:=P) (tt:=tt) (Γ:=Γ) (id:=c+8*j) E hs2.z3 hs2.rl (Nat.le_add_right q (Am Γ o))) .nil (λi b hb=>.inl (hs2.mem i b hb).1) (by show c+8*j<=_;omega) (by omega) hs2.c64 (λi hi=>(nomatch hi)) (λ_ _ h=>(nomatch h)) hdo;rw[noRW]at this;rw[hcm]at this ⊢;exact this
    ·split at h
     ·rename_i T hrw
      exact OL (id:=c+8*j) E hs (AG _) hev hrw h hdo λv m' G' w' hv hs' hc0=>hK _ _ (hrest _ _ G' _ _ q (by rw[hc0];rfl) (Eq.mp (IU _ _) hv) hs')
     refine Jz E (w0:=w0) (id:=c+8*j) (q:=q) hs.z3 hs.rl hs.fr.size (λi b hb=>⟨(hs.mem i b hb).2.1,hold i b hb⟩) (λi b hb=>(hs.mem i b hb).2.2) hcl hev (by omega) h λv es' G' w' hkk hgs hn hc1 hc2=>?_
     exact hK _ _ (hrest _ _ G' _ _ (q+Am Γ o) rfl (hkk _ h) (hs.step hgs hn hold (by show c+8*j<=c+8*(j+1);omega) (by omega) hs.c64 hc1 hc2 hdo))
   ·exact h.elim
  ·exact h.elim
end
end Go.Proofs.YtbceafpodamnfaaGreat
