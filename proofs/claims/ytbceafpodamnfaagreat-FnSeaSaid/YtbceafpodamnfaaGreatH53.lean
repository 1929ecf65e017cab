import Derived.Test.YtbceafpodamnfaaGreatH52
set_option linter.all false
set_option maxHeartbeats 4000000
set_option maxRecDepth 100000
namespace Go.Proofs.YtbceafpodamnfaaGreat
section
open Go Go.RowKit Go.Sort
def seaSw(f:Func):Code:=match f.body.getD .skip with| .seq _ (.seq _ (.seq _ (.seq _ (.seq c _))))=>c|_=>.skip
def seaEnd(f:Func):Code:=match f.body.getD .skip with| .seq _ (.seq _ (.seq _ (.seq _ (.seq _ c))))=>c|_=>.skip
def ops14(f:Func):List Oper:=match seaEnd f with| .seq (.region _ ops _) _=>ops.toList|_=>[]
theorem OJ:(seaEnd Tryz.f4)=.seq (.region 14 (ops14 Tryz.f4).toArray true) .ret:=by kernel_rfl
theorem Tryz.infosEvF:(Tryz.prog.info? 31).map (·.size)=some 17:=by kernel_rfl
theorem GV{P:Program}{fn:Func}{p p':Tmp}{ty ty':TypeId}(h:fn.results=#[.cell p ty,.cell p' ty'])(tmps:Array Value)(w:World)(g g':Nat)(t t':TypeId)(cs cs':Array Value)(fr fr':Nat × Nat)(d d':TypeDesc)
  (hp:tmps.getD p undef=.pointer (some ⟨g,0,none⟩)) (hg:w.heap[g]?=some (.cells cs t fr)) (hu:P.underlying ty=some d) (hd:(match d with| .struct _| .array _ _=>true|_=>false)=true) (hi:(P.info? ty).map (·.size)=some cs.size)
  (hp2:tmps.getD p' undef=.pointer (some ⟨g',0,none⟩)) (hg2:w.heap[g']?=some (.cells cs' t' fr')) (hu2:P.underlying ty'=some d') (hd2:(match d' with| .struct _| .array _ _=>true|_=>false)=true) (hi2:(P.info? ty').map (·.size)=some cs'.size):(results fn tmps).run P w=.ok (.tuple #[.agg cs,.agg cs']) w:=by
 have h1:tmps[p]?.getD undef=.pointer (some ⟨g,0,none⟩):=by simpa using hp
 have h2:tmps[p']?.getD undef=.pointer (some ⟨g',0,none⟩):=by simpa using hp2
 simp[results,h,h1,h2,asAddr,run_loadVar_row w g t ty cs fr d hg hu hd hi,run_loadVar_row w g' t' ty' cs' fr' d' hg2 hu2 hd2 hi2]
theorem Dm(l:Array Bool)(i j:Nat):(l.setIfInBounds i true).getD j false=true->i=j\/l.getD j false=true:=by
 intro h
 by_cases e:i=j
 ·exact .inl e
 ·refine .inr ?_
  simpa [Array.getElem?_setIfInBounds,e] using h
theorem KG(l:Array Bool)(i j:Nat):(l.setIfInBounds i true).getD j false=false->l.getD j false=false:=by
 intro h
 by_cases e:i=j
 ·subst e
  rcases Nat.lt_or_ge i l.size with hl|hl
  ·simp[Array.getElem?_setIfInBounds,hl]at h
  ·simp[Array.getElem?_eq_none_iff.2 hl]
 ·simpa [Array.getElem?_setIfInBounds,e] using h
def zB:Array Value:=#[.int .i64 0,.slice none 0 0,.slice none 0 0,.slice none 0 0]
def zE:Array Value:=#[.int .i64 0,.string ⟨#[]⟩,.int .i64 0,.bool false,.int .i64 0,.int .i64 0,.int .i64 0,.int .i64 0,.int .i64 0,.int .i64 0,.int .i64 0,.int .i64 0,.int .i64 0,.int .i64 0,.string ⟨#[]⟩,.int .i64 0,.bool false]
structure EA(f f' x y:Nat)(a:Act):Prop where
 e2:a.eval (.tmp 2)=.pointer (some ⟨f,0,none⟩)
 e3:a.eval (.tmp 3)=.pointer (some ⟨f',0,none⟩)
 e5:a.eval (.tmp 5)=.pointer (some ⟨x,0,none⟩)
 e6:a.eval (.tmp 6)=.pointer (some ⟨y,0,none⟩)
 sz:a.tmps.size=53
 df:a.defers=[]
theorem EA.put{f f' x y:Nat}{a:Act}(h:EA f f' x y a){d:Nat}(v:Value)(hd:7<=d):EA f f' x y (a.put (some d) v):=
 ⟨(Fl _ _ (λe=>by cases e;omega)).trans h.e2,(Fl _ _ (λe=>by cases e;omega)).trans h.e3,(Fl _ _ (λe=>by cases e;omega)).trans h.e5,(Fl _ _ (λe=>by cases e;omega)).trans h.e6,put_more.2.trans h.sz,put_more.1.trans h.df⟩
structure EI(f f' x y:Nat)(bx ev:Array Value)(w:World)(l:Array Bool)(a:Act)(W:World):Prop where
 ea:EA f f' x y a
 d0:l.getD 0 false=true->a.eval (.tmp 51)=.agg bx
 d1:l.getD 1 false=true->a.eval (.tmp 52)=.agg ev
 vx:W.heap[x]?=some (.cells bx 27 (0,0))
 vy:W.heap[y]?=some (.cells ev 31 (0,0))
 vf:l.getD 2 false=false->W.heap[f]?=some (.cells zB 27 (0,0))
 vf2:l.getD 2 false=true->W.heap[f]?=some (.cells bx 27 (0,0))
 vg:W.heap[f']?=some (.cells zE 31 (0,0))
 kp:BA f w W
theorem OI{f f' x y:Nat}{n0:Int}{b1 b2 b3:Option Addr}{m1 m2 m3 k1 k2 k3:Nat}{E:Ev}{a:Act}{w:World}{Q:Exit->Act->World->Prop}(hne:f≠f'/\f≠x/\f≠y)(ea:EA f f' x y a)(vx:w.heap[x]?=some (.cells #[.int .i64 n0,.slice b1 m1 k1,.slice b2 m2 k2,.slice b3 m3 k3] 27 (0,0)))(vy:w.heap[y]?=some (.cells (evL E).toArray 31 (0,0)))(vf:w.heap[f]?=some (.cells zB 27 (0,0)))(vg:w.heap[f']?=some (.cells zE 31 (0,0)))
  (hQ:∀a' W W',EA f f' x y a'->W'.heap[f]?=some (.cells #[.int .i64 n0,.slice b1 m1 k1,.slice b2 m2 k2,.slice b3 m3 k3] 27 (0,0))->W'.heap[f']?=some (.cells (evL E).toArray 31 (0,0))->BA f w W->BA f' W W'->Q .ret a' W'):(seaEnd Tryz.f4).wp Tryz.prog Q a w:=by
 rw[OJ];refine wp_seq (FG 3 (EI f f' x y #[.int .i64 n0,.slice b1 m1 k1,.slice b2 m2 k2,.slice b3 m3 k3] (evL E).toArray w) (by kernel_rfl) (by kernel_rfl) ⟨ea,λh=>by(rw[getD_replicate_false]at h;cases h),λh=>by(rw[getD_replicate_false]at h;cases h),vx,vy,λ_=>vf,λh=>by(rw[getD_replicate_false]at h;cases h),vg,λ_ _=>rfl,⟨rfl,rfl,rfl,AG _,λ_ _=>rfl⟩,rfl⟩ ?_ ?_)
 ·intro l A W i o inv hI hi ho hu hwt K hK
  rcases i with _|_|_|i
  ·have hk:((ops14 Tryz.f4)[0]?).map (λo=>(o.dst,o.op,o.guard))=some (some 51,.load 27 (.tmp 5),none):=by kernel_rfl
   rw[show (ops14 Tryz.f4)[0]?=some o from ho]at hk;simp only[Option.map_some,Option.some.injEq,Prod.mk.injEq]at hk;obtain⟨q0,p0,u0⟩:=hk;refine wpList_load_row u0 27 (.tmp 5) p0 x hI.ea.e5 27 _ (0,0) _ hI.vx Tryz.underlying27 rfl Tryz.infosBookE (wpList_nil (hK _ _ ?_));rw[q0];exact⟨hI.ea.put _ (by decide),λ_=>Lc _ _ (by rw[hI.ea.sz];decide),λh=>(Fl _ _ (by decide)).trans (hI.d1 ((Dm _ _ _ h).resolve_left (by decide))),hI.vx,hI.vy,λh=>hI.vf (KG _ _ _ h),λh=>hI.vf2 ((Dm _ _ _ h).resolve_left (by decide)),hI.vg,hI.kp⟩
  ·have hk:((ops14 Tryz.f4)[1]?).map (λo=>(o.dst,o.op,o.guard))=some (some 52,.load 31 (.tmp 6),none):=by kernel_rfl
   rw[show (ops14 Tryz.f4)[1]?=some o from ho]at hk;simp only[Option.map_some,Option.some.injEq,Prod.mk.injEq]at hk;obtain⟨q0,p0,u0⟩:=hk;refine wpList_load_row u0 31 (.tmp 6) p0 y hI.ea.e6 31 _ (0,0) _ hI.vy Tryz.underlying31 rfl Tryz.infosEvF (wpList_nil (hK _ _ ?_));rw[q0];exact⟨hI.ea.put _ (by decide),λh=>(Fl _ _ (by decide)).trans (hI.d0 ((Dm _ _ _ h).resolve_left (by decide))),λ_=>Lc _ _ (by rw[hI.ea.sz];decide),hI.vx,hI.vy,λh=>hI.vf (KG _ _ _ h),λh=>hI.vf2 ((Dm _ _ _ h).resolve_left (by decide)),hI.vg,hI.kp⟩
  ·have hk:((ops14 Tryz.f4)[2]?).map (λo=>(o.dst,o.op,o.guard))=some (none,.store 27 (.tmp 2) (.tmp 51),none):=by kernel_rfl
   rw[show (ops14 Tryz.f4)[2]?=some o from ho]at hk;simp only[Option.map_some,Option.some.injEq,Prod.mk.injEq]at hk;obtain⟨q0,p0,u0⟩:=hk;have hf:=hI.vf (by simpa [Array.getD_eq_getD_getElem?] using (show l.getD 2 false=false by revert hu;simp only[Array.getD_eq_getD_getElem?];cases l[2]?<;>simp));refine AL u0 27 (.tmp 2) (.tmp 51) p0 f 0 #[.int .i64 n0,.slice b1 m1 k1,.slice b2 m2 k2,.slice b3 m3 k3] hI.ea.e2 (hI.d0 (hwt 0 (by kernel_rfl))) 27 zB hf Tryz.infosBookE (AD rfl) (by simp[Value.oneCell']) λW' hz on=>wpList_nil (hK _ _ ?_)
   rw[q0];have hz:=hz.out;have hz:W'.heap[f]?=some (.cells #[.int .i64 n0,.slice b1 m1 k1,.slice b2 m2 k2,.slice b3 m3 k3] 27 (0,0)):=hz
   exact⟨hI.ea,λh=>hI.d0 ((Dm _ _ _ h).resolve_left (by decide)),λh=>hI.d1 ((Dm _ _ _ h).resolve_left (by decide)),(on.other _ hne.2.1.symm).trans hI.vx,(on.other _ hne.2.2.symm).trans hI.vy,λh=>by
    have hl:2<l.size:=by rw[inv.size];exact AD (by kernel_rfl)
    simp[Array.getElem?_setIfInBounds,hl]at h,λ_=>hz,(on.other _ hne.1.symm).trans hI.vg,λk hk=>(on.other k hk).trans (hI.kp.other k hk),hI.kp.below.trans on.below,on.size.trans hI.kp.size⟩
  ·omega
 ·intro A W hI
  have hk:((ops14 Tryz.f4)[3]?).map (λo=>(o.dst,o.op,o.guard))=some (none,.store 31 (.tmp 3) (.tmp 52),none):=by kernel_rfl
  obtain⟨o,ho⟩:∃o,(ops14 Tryz.f4).drop 3=[o]:=List.length_eq_one_iff.1 (by kernel_rfl)
  have ho3:(ops14 Tryz.f4)[3]?=some o:=by
   have:=congrArg (λl:List Oper=>l[0]?) ho
   simpa [List.getElem?_drop] using this
  rw[ho3]at hk;simp only[Option.map_some,Option.some.injEq,Prod.mk.injEq]at hk;obtain⟨q0,p0,u0⟩:=hk;rw[ho];refine AL u0 31 (.tmp 3) (.tmp 52) p0 f' 0 (evL E).toArray hI.ea.e3 (hI.d1 (by kernel_rfl)) 31 zE hI.vg Tryz.infosEvF (AD rfl) (by simp[evL,Value.oneCell']) λW' hz on=>wpList_nil ?_
  rw[q0];have hz:W'.heap[f']?=some (.cells (evL E).toArray 31 (0,0)):=hz.out;exact wp_ret (hQ A W W' hI.ea ((on.other _ hne.1).trans (hI.vf2 (by kernel_rfl))) hz hI.kp on)
theorem ints3{p:Int->Prop}{x y z:Int}(hx:p x)(hy:p y)(hz:p z):∀e∈[[Value.int .i64 x],[.int .i64 y],[.int .i64 z]],∃k:Int,e=[.int .i64 k]/\p k:=λe he=>by
 simp only[List.mem_cons,List.not_mem_nil,or_false]at he;rcases he with rfl|rfl|rfl
 ·exact⟨_,rfl,hx⟩
 ·exact⟨_,rfl,hy⟩
 ·exact⟨_,rfl,hz⟩
def swS(f f' x:Nat)(E:Ev)(q:Nat):St:=⟨[(2,.pointer (some ⟨f,0,none⟩)),(3,.pointer (some ⟨f',0,none⟩)),(5,.pointer (some ⟨x,0,none⟩)),(6,.complex .f64 64 0),(4,.complex .f64 0 0)],[(64,AZ (evL E) 31),(0,rdB)],72,q⟩
def swQ(f f' x:Nat)(B:Bk)(e:Exit)(s:St):Prop:=e=.normal/\∃E:Ev,(lk s.t 2=some (.pointer (some ⟨f,0,none⟩))/\lk s.t 3=some (.pointer (some ⟨f',0,none⟩))/\lk s.t 5=some (.pointer (some ⟨x,0,none⟩))/\lk s.t 6=some (.complex .f64 64 0))/\lk s.m 64=some (AZ (evL E) 31)/\E.sized/\NumOk B E.number
theorem sw_vc{f f' x q:Nat}{B:Bk}{E:Ev}(hE:E.sized)(hN:NumOk B E.number)(hq:q+10<=QM):vwr TT [(13,1,M6)] [] (seaSw Tryz.f4) (swQ f f' x B) (swS f f' x E q):=by
 refine And.intro (show q+1<=QM by omega) ?_;refine⟨0,12,rfl,rfl,⟨by decide,by decide⟩,λu _=>?_⟩;refine And.intro (λ_=>?_) (λ_=>?_)
 ·refine And.intro (show q+2<=QM by omega) ?_
  refine⟨0,3,rfl,rfl,⟨by decide,by decide⟩,λy hy=>?_⟩;refine And.intro hy.1 (And.intro (hy.2.1 (by decide)) (And.intro (AG _) (And.intro (CU hy 3 rfl (by decide)) (λel hel=>?_))));obtain⟨k,rfl,_⟩:=ints3 (p:=λ_=>True) trivial trivial trivial el (AE hel);exact⟨rfl,{E with kind:=k},⟨rfl,rfl,rfl,rfl⟩,rfl,hE,hN⟩
 refine And.intro (λ_=>?_) (λ_=>?_)
 ·refine And.intro (show q+2<=QM by omega) ?_
  refine⟨0,4,rfl,rfl,⟨by decide,by decide⟩,λy hy=>?_⟩;refine And.intro hy.1 (And.intro (hy.2.1 (by decide)) (And.intro (AG _) (And.intro (CU hy 4 rfl (by decide)) (λel hel=>?_))));obtain⟨nm,hnm,rfl⟩:∃s∈[(⟨#[]⟩:ByteArray),(⟨#[88]⟩:ByteArray),(⟨#[100]⟩:ByteArray),(⟨#[110,111,110,101]⟩:ByteArray)],el=[.string s]:=LL (L:=[⟨#[]⟩,⟨#[88]⟩,⟨#[100]⟩,⟨#[110,111,110,101]⟩]) hel;exact⟨rfl,{E with name:=nm},⟨rfl,rfl,rfl,rfl⟩,rfl,⟨hE.1,Ip hnm (by decide)⟩,hN⟩
 refine And.intro (λ_=>?_) (λ_=>?_)
 ·refine And.intro (show q+2<=QM by omega) ?_
  refine⟨0,3,rfl,rfl,⟨by decide,by decide⟩,λy hy=>?_⟩;refine And.intro hy.1 (And.intro (hy.2.1 (by decide)) (And.intro (AG _) (And.intro (CU hy 3 rfl (by decide)) (λel hel=>?_))));obtain⟨k,rfl,hk⟩:=ints3 (p:=λk=> -1<=k/\k<=1000001) (by decide) (by decide) (by decide) el (AE hel);exact⟨rfl,{E with number:=k},⟨rfl,rfl,rfl,rfl⟩,rfl,hE,.inl hk⟩
 refine And.intro (λ_=>?_) (λ_=>?_)
 ·refine And.intro (show q+2<=QM by omega) ?_
  refine⟨0,3,rfl,rfl,⟨by decide,by decide⟩,λy hy=>?_⟩;refine And.intro hy.1 (And.intro (hy.2.1 (by decide)) (And.intro (AG _) (And.intro (CU hy 3 rfl (by decide)) (λel hel=>?_))));obtain⟨k,rfl,_⟩:=ints3 (p:=λ_=>True) trivial trivial trivial el (AE hel);exact⟨rfl,{E with service:={E.service with want:=k,next:=7}},⟨rfl,rfl,rfl,rfl⟩,rfl,hE,hN⟩
 exact⟨rfl,E,⟨rfl,rfl,rfl,rfl⟩,rfl,hE,hN⟩
theorem BkAt.keep{w w':World}{a1 a2 a3:Option Addr}{B:Bk}(h:BkAt w a1 a2 a3 B)(hz:w.heap.size<=w'.heap.size)(hk:∀b o,(a1=some ⟨b,o,none⟩\/a2=some ⟨b,o,none⟩\/a3=some ⟨b,o,none⟩)->b<w.heap.size->w'.heap[b]?=w.heap[b]?):BkAt w' a1 a2 a3 B:=by
 refine⟨λhl=>?_,λhl=>?_,λhl=>?_⟩
 ·obtain⟨b,off,e,hlt,hat⟩:=h.1 hl
  have hc:∀o,w'.cell? ⟨b,o,none⟩=w.cell? ⟨b,o,none⟩:=λo=>World.cell?_of_block (w:=w) (hk b off (.inl e) hlt)
  refine⟨b,off,e,AF hlt hz,λi s hs=>?_⟩;have h1:=hat i s hs;unfold SvcAt at *;simp only[hc];exact h1
 ·obtain⟨b,off,e,hlt,hat⟩:=h.2.1 hl
  have hc:∀o,w'.cell? ⟨b,o,none⟩=w.cell? ⟨b,o,none⟩:=λo=>World.cell?_of_block (w:=w) (hk b off (.inr (.inl e)) hlt)
  refine⟨b,off,e,AF hlt hz,λi s hs=>?_⟩;have h1:=hat i s hs;unfold CpAt at *;simp only[hc];exact h1
 ·obtain⟨b,off,e,hlt,hat⟩:=h.2.2 hl
  have hc:∀o,w'.cell? ⟨b,o,none⟩=w.cell? ⟨b,o,none⟩:=λo=>World.cell?_of_block (w:=w) (hk b off (.inr (.inr e)) hlt)
  refine⟨b,off,e,AF hlt hz,λi s hs=>?_⟩;have h1:=hat i s hs;unfold BtAt at *;simp only[hc];exact h1
theorem IW{a:Act}{i:Nat}{v:Value}(h:a.tmps[i]?=some v):a.eval (.tmp i)=v:=by
 show a.tmps.getD i undef=v;simp[h]
def ghS(r y:Nat)(w:World):Gh:=⟨λi=>match i with|0=>some ⟨r,0,none⟩|64=>some ⟨y,0,none⟩|_=>none,λk=>k<w.heap.size/\k≠r,λk=>k=r⟩
theorem sw_run{f f' x r q:Nat}{B:Bk}{E:Ev}{a:Act}{w4 w5:World}(hE:E.sized)(hN:NumOk B E.number)(hq:q+10<=QM)(ea:EA f f' x w4.heap.size a)(e4:a.eval (.tmp 4)=.pointer (some ⟨r,0,none⟩))(hR:Rd r w5 (q:Int))(hr:r<w4.heap.size)(hb:Below w4.heap.size w4 w5)(vy:w5.heap[w4.heap.size]?=some (.cells (evL E).toArray 31 (0,0))):
  (seaSw Tryz.f4).wp Tryz.prog (λe a' w'=>e=.normal/\∃(E':Ev) (g:Nat),EA f f' x g a'/\w4.heap.size<=g/\w'.heap[g]?=some (.cells (evL E').toArray 31 (0,0))/\E'.sized/\NumOk B E'.number/\Past r w4.heap.size w4 w') a w5:=by
 have hsz:=hb.size;have hy:=(AB vy).1
 have ht:∀i v,a.eval (.tmp i)=v->i<53->a.tmps[i]?=some v:=λi v h hi=>by
  have h:a.tmps.getD i undef=v:=h;have hi:i<a.tmps.size:=by rw[ea.sz];exact hi
  rw[Array.getD_eq_getD_getElem?,Array.getElem?_eq_getElem hi]at h;rw[Array.getElem?_eq_getElem hi];exact congrArg some h
 refine wp_mono (C6 (R0:=⟨λk=>k=r,(ghS r w4.heap.size w4).α,0⟩) (w0:=w4) (nt:=53) (GJ r) (seaSw Tryz.f4) _ _ (ghS r w4.heap.size w4) a w5 (CR (GJ r) (by kernel_rfl) _ (.nil _) (by kernel_rfl)) (by rw[<-Gz];exact sw_vc (f:=f) (f':=f') (x:=x) hE hN hq) ?_) ?_
 ·refine⟨ea.df,ea.sz,λi v hi=>?_,λi b hi=>?_,λi b j c hi hj oi oj hne=>?_,λk hk=>⟨by have:=hk.1;omega,hk.2⟩,⟨hb.os,hb.tape,hb.output,hb.size,λk hk _=>hb.block k hk⟩,λk hk=>.inl hk,λk hk=>by have hk:k=r:=hk;omega,(show 64<=72 by decide),λ_ _=>rfl,AI _⟩
  ·have hm:=A9 _ _ _ hi
   simp only[swS,List.mem_cons,List.not_mem_nil,or_false,Prod.mk.injEq]at hm;rcases hm with⟨rfl,rfl⟩|⟨rfl,rfl⟩|⟨rfl,rfl⟩|⟨rfl,rfl⟩|⟨rfl,rfl⟩
   ·exact⟨ht _ _ ea.e2 (by decide),λ_ h=>(nomatch h)⟩
   ·exact⟨ht _ _ ea.e3 (by decide),λ_ h=>(nomatch h)⟩
   ·exact⟨ht _ _ ea.e5 (by decide),λ_ h=>(nomatch h)⟩
   ·exact⟨ht _ _ ea.e6 (by decide),DQ rfl⟩
   ·exact⟨ht _ _ e4 (by decide),DQ rfl⟩
  ·have hm:=A9 _ _ _ hi
   simp only[swS,List.mem_cons,List.not_mem_nil,or_false,Prod.mk.injEq]at hm;rcases hm with⟨rfl,rfl⟩|⟨rfl,rfl⟩
   ·exact⟨show 64<72 by decide,⟨λ_=>⟨w4.heap.size,rfl,AG _,λh=>Nat.lt_irrefl _ h.1,λh=>by have h:w4.heap.size=r:=h;omega,vy⟩,λh=>(nomatch h),λh=>(nomatch h),λh=>(nomatch h),λh=>(nomatch h),.inl rfl⟩,DQ rfl⟩
   ·exact⟨show 0<72 by decide,⟨λh=>(nomatch h),λh=>(nomatch h),λh=>(nomatch h),λh=>(nomatch h),λ_=>⟨r,rfl,rfl,rfl,hR,λk hk=>⟨by omega,by omega⟩⟩,.inr (.inr (.inr (.inr (.inl rfl))))⟩,DQ rfl⟩
  ·have hm:=A9 _ _ _ hi
   have hn:=A9 _ _ _ hj;simp only[swS,List.mem_cons,List.not_mem_nil,or_false,Prod.mk.injEq]at hm hn;rcases hm with⟨rfl,rfl⟩|⟨rfl,rfl⟩<;>rcases hn with⟨rfl,rfl⟩|⟨rfl,rfl⟩<;>first|exact absurd rfl hne|(rcases oi with h|h<;>cases h;done)|(rcases oj with h|h<;>cases h;done)
 ·rintro e a' w' ⟨s,G,⟨rfl,E',⟨h2,h3,h5,h6⟩,hm,hE',hN'⟩,hs⟩
  obtain⟨g,eg,lg,_,_,vg⟩:=(hs.mem _ _ hm).2.1.k0 rfl;refine⟨rfl,E',g,⟨IW (hs.tmp _ _ h2).1,IW (hs.tmp _ _ h3).1,IW (hs.tmp _ _ h5).1,?_,hs.tsz,hs.dfr⟩,lg,vg,hE',hN',hs.fr.os,hs.fr.tape,hs.fr.output,hs.fr.size,λk hk hn=>hs.fr.block k hk hn⟩;have h:=IW (hs.tmp _ _ h6).1;rw[h];show Value.pointer _=Value.pointer _;rw[eg];rfl
theorem L4(ao:Option Addr)(n cap:Nat)(w:World)(hn:n<=1048576)(hc:n<=cap)(hC:Fg w ao n):
  Calls Tryz.prog 4 #[.slice ao n cap] w λe w'=>∃(a1 a2 a3:Option Addr) (c1 c2 c3:Nat) (B:Bk) (E:Ev),e=.returned (.tuple #[.agg #[.int .i64 B.now,.slice a1 B.svcs.length c1,.slice a2 B.cps.length c2,.slice a3 B.bts.length c3],.agg (evL E).toArray])/\BkAt w' a1 a2 a3 B/\okSp B/\E.sized/\NumOk B E.number/\Below w.heap.size w w':=by
 obtain⟨t0,t1,t2⟩:=B0 w (.cells #[.int .i64 0,.slice none 0 0,.slice none 0 0,.slice none 0 0] 27) (.cells #[.int .i64 0,.string ⟨#[]⟩,.int .i64 0,.bool false,.int .i64 0,.int .i64 0,.int .i64 0,.int .i64 0,.int .i64 0,.int .i64 0,.int .i64 0,.int .i64 0,.int .i64 0,.int .i64 0,.string ⟨#[]⟩,.int .i64 0,.bool false] 31);obtain⟨W0,hW0⟩:∃W,(w.alloc (.cells #[.int .i64 0,.slice none 0 0,.slice none 0 0,.slice none 0 0] 27)).alloc (.cells #[.int .i64 0,.string ⟨#[]⟩,.int .i64 0,.bool false,.int .i64 0,.int .i64 0,.int .i64 0,.int .i64 0,.int .i64 0,.int .i64 0,.int .i64 0,.int .i64 0,.int .i64 0,.int .i64 0,.string ⟨#[]⟩,.int .i64 0,.bool false] 31)=W:=⟨_,rfl⟩;have hb0:Below w.heap.size w W0:=by rw[<-hW0];exact((Below.refl _ _).alloc (AG _) _).alloc (by simp) _
 rw[hW0]at t0 t1 t2;have T0:Hid _:=t0;have T1:Hid _:=t1;have HS2:Hid _:=t2
 have HC:Hid (Fg W0 ao n):=λhp=>by
  obtain⟨b,off,e,hlt,h⟩:=hC hp;exact⟨b,off,e,AF hlt hb0.size,λi hi=>by rw[hb0.cell (p:=⟨b,off+i,none⟩) hlt];exact h i hi⟩
 have HB0:Hid _:=hb0;clear t0 t1 t2 hC hb0;obtain⟨f,hf⟩:∃f,w.heap.size=f:=⟨_,rfl⟩;go_enter Tryz.func4,Tryz.ntmps4
 go_upto_region 1 with fail
 clear hW0
 go_upto_region 2 with(go_at_call 10;refine(open_any ao n cap _ hn hc HC.out).mono ?_;rintro e w1 ⟨rfl,hr1,hb1⟩;have HR1:Hid (Rd W0.heap.size w1 0):=hr1;have HB1:Hid _:=hb1;clear hr1 hb1)
 obtain⟨r,hr⟩:∃r,W0.heap.size=r:=⟨_,rfl⟩;rw[hr]at HR1 HB1 ⊢
 go_upto_region 3 with(first
  |(go_at_call 11;refine(any_bk r 0 _ (draw_ct r) HR1.out (by decide)).mono ?_;rintro e w2 ⟨⟨a1,a2,a3,c1,c2,c3,B,rfl,hB,hok,hnw⟩,hp2,hr2⟩;have HNW:Hid _:=hnw;have HB2:Hid (BkAt w2 a1 a2 a3 B):=hB;have HOK:Hid (okSp B):=hok;have HP2:Hid _:=hp2;have HR2:Hid (Rd r w2 ((0+910000001000:Nat):Int)):=hr2;have VX:Hid ((w2.alloc (.cells #[.int .i64 0,.slice none 0 0,.slice none 0 0,.slice none 0 0] 27)).heap[w2.heap.size]?=some (.cells #[.int .i64 0,.slice none 0 0,.slice none 0 0,.slice none 0 0] 27 (0,0))):=heap_alloc_new w2 _;clear hB hok hp2 hr2 hnw)
  |((with_reducible show wpList _ _ _ _ _ _);refine AL rfl 27 (.tmp 5) (.tmp 10) rfl w2.heap.size 0 #[.int .i64 B.now,.slice a1 B.svcs.length c1,.slice a2 B.cps.length c2,.slice a3 B.bts.length c3] rfl rfl 27 #[.int .i64 0,.slice none 0 0,.slice none 0 0,.slice none 0 0] VX.out Tryz.infosBookE (AD rfl) (by simp[Value.oneCell']) ?_;intro w3 hz3 on3;simp only[Act.put]))
 rename_i K hK;have HK:Hid _:=hK;obtain⟨x,hx⟩:∃x,w2.heap.size=x:=⟨_,rfl⟩;have X3:Hid (w3.heap[x]?=some (.cells #[.int .i64 B.now,.slice a1 B.svcs.length c1,.slice a2 B.cps.length c2,.slice a3 B.bts.length c3] 27 (0,0))):=by rw[<-hx];exact hz3.out
 have hb23:Below w2.heap.size w2 w3:=(AM w2 _).trans on3.below;have HB3:Hid (BkAt w3 a1 a2 a3 B):=HB2.out.below hb23;have HR3:Hid (Rd r w3 ((0+910000001000:Nat):Int)):=HR2.out.below hb23;have HB23:Hid _:=hb23;rw[hx];clear VX hz3 on3 hK hb23
 go_wp2_with (first
  |((with_reducible show wpList _ _ _ _ _ _);refine wpList_load_row rfl 27 (.tmp 5) rfl x rfl 27 #[.int .i64 B.now,.slice a1 B.svcs.length c1,.slice a2 B.cps.length c2,.slice a3 B.bts.length c3] (0,0) _ X3.out Tryz.underlying27 rfl Tryz.infosBookE ?_)
  |(go_at_call 12;refine(event_bk r _ B a1 a2 a3 c1 c2 c3 _ HOK.out HB3.out HR3.out (by decide)).mono ?_;rintro e w4 ⟨k,sv,nm,nu,fl,he,hs,hm,hnum,hp4,hr4⟩;simp only[evV0]at he;subst he;have HP4:Hid _:=hp4;have HR4:Hid (Rd r w4 ((0+910000001000+2000:Nat):Int)):=hr4;have VY:Hid ((w4.alloc (.cells zE 31)).heap[w4.heap.size]?=some (.cells zE 31 (0,0))):=heap_alloc_new w4 _;clear hp4 hr4)
  |((with_reducible show wpList _ _ _ _ _ _);refine AL rfl 31 (.tmp 6) (.tmp 13) rfl w4.heap.size 0 (evL ⟨k,sv,nm,nu,fl⟩).toArray rfl rfl 31 zE VY.out Tryz.infosEvF (AD rfl) (by simp[evL,Value.oneCell']) ?_;intro w5 hz5 on5;simp only[Act.put]))
 refine HK.out _ _ ?_;have hs2:=HS2.out;have hb1:=HB1.out;have hp2:=HP2.out;have hb3:=HB23.out;have hp4:=HP4.out;have z1:=hb1.size;have z2:=hp2.size;have z3:=hb3.size;have z4:=hp4.size;have hr1:=HR1.out.lt;have hx4:=DT hp4 X3.out (AB X3.out).1 (by omega);have hb45:Below w4.heap.size w4 w5:=(AM w4 _).trans on5.below;have ch:∀k,k<w1.heap.size->k≠r->w4.heap[k]?=w1.heap[k]?:=λk hk hn=>(hp4.block k (by omega) hn).trans ((hb3.block k (by omega)).trans (hp2.block k hk hn))
 refine wp_seq (wp_mono (sw_run (f:=f) (f':=f+1) (x:=x) (r:=r) (q:=0+910000001000+2000) (B:=B) (E:=⟨k,sv,nm,nu,fl⟩) (w4:=w4) ⟨hs,hm⟩ hnum (by decide) ⟨by rw[<-hf];rfl,by rw[<-hf];rfl,rfl,rfl,rfl,rfl⟩ rfl (HR4.out.below hb45) (by omega) hb45 hz5.out) ?_);rintro _ a' w' ⟨rfl,E',g,ea,lg,vg,hE',hN',hp⟩;have z5:=hp.size;have vx:=DT hp hx4 (by have:=(AB hx4).1;omega) (by omega)
 have vf:w'.heap[f]?=some (.cells zB 27 (0,0)):=by
  rw[hp.block f (by omega) (by omega),ch f (by omega) (by omega),hb1.block f (by omega),<-hf];exact T0.out
 have vf':w'.heap[f+1]?=some (.cells zE 31 (0,0)):=by
  rw[hp.block (f+1) (by omega) (by omega),ch (f+1) (by omega) (by omega),hb1.block (f+1) (by omega),<-hf];exact T1.out
 refine OI (Q:=bodyPost _ _ _) ⟨by omega,by omega,by omega⟩ ea vx vg vf vf' λA W W' ha hf1 hf2 on1 on2=>?_
 refine bodyPost_ret (GV rfl _ _ f (f+1) _ _ _ _ (0,0) (0,0) _ _ ha.e2 hf1 Tryz.underlying27 rfl Tryz.infosBookE ha.e3 hf2 Tryz.underlying31 rfl Tryz.infosEvF) ha.df ?_;have ch2:∀k,k≠f->k≠f+1->W'.heap[k]?=w'.heap[k]?:=λk h1 h2=>(on2.other k h2).trans (on1.other k h1)
 have q1:=on1.size;have q2:=on2.size;refine⟨a1,a2,a3,c1,c2,c3,B,E',rfl,HB2.out.keep (by omega) (λb o hbo hlt=>?_),HOK.out,hE',hN',?_⟩
 ·have hnb:=HNW.out b o hbo
  exact(ch2 b (by omega) (by omega)).trans ((hp.block b (by omega) (by omega)).trans ((hp4.block b (by omega) (by omega)).trans (hb3.block b hlt)))
 ·have h0:=HB0.out
  refine⟨?_,?_,?_,by have:=h0.size;omega,λk hk=>(ch2 k (by omega) (by omega)).trans ((hp.block k (by omega) (by omega)).trans ((ch k (by omega) (by omega)).trans ((hb1.block k (by omega)).trans (h0.block k hk))))⟩
  ·exact on2.below.os.trans (on1.below.os.trans (hp.os.trans (hp4.os.trans (hb3.os.trans (hp2.os.trans (hb1.os.trans h0.os))))))
  ·exact on2.below.tape.trans (on1.below.tape.trans (hp.tape.trans (hp4.tape.trans (hb3.tape.trans (hp2.tape.trans (hb1.tape.trans h0.tape))))))
  ·exact on2.below.output.trans (on1.below.output.trans (hp.output.trans (hp4.output.trans (hb3.output.trans (hp2.output.trans (hb1.output.trans h0.output))))))
end
end Go.Proofs.YtbceafpodamnfaaGreat
