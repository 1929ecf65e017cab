import Derived.Test.YtbceafpodamnfaaH35
set_option linter.all false
set_option maxHeartbeats 4000000
set_option maxRecDepth 100000
namespace Go.Proofs.Ytbceafpodamnfaa
attribute [local simp] svV cpV zbV czV aaV ctZ ad bkV ctV acV evV
attribute [local go_sem] svV cpV zbV czV aaV ctZ ad bkV ctV acV evV
open Go.RowKit Go.Sort
def Pk(m:Int)(v:Value)(_:World):Prop:=∃k:Int,v=.int .i64 k/\KG m k
theorem Fi{r c:Nat}{m:Int}:FP r c (Pk m):=λ_ _ _ h _ _=>h
def CG(u:Value):Prop:=∃s:ByteArray,u=.string s/\s.size<=10
def OB(u:Value):Prop:=∃k:Int,u=.int .i64 k/\ -1<=k/\k<=1000000001
def Va(p:Value->Prop)(v:Value)(_:World):Prop:=p v
theorem I9{r c:Nat}{p:Value->Prop}:FP r c (Va p):=λ_ _ _ h _ _=>h
def SlV(r n:Nat)(p:Value->Prop)(v:Value)(W:World):Prop:=∃g,v=.slice (ad g) n n/\g≠r/\g<W.heap.size/\∀i,i<n->∃u,W.cell? ⟨g,i,none⟩=some u/\p u
def PtV(r:Nat)(p:Value->Prop)(v:Value)(W:World):Prop:=∃g i u,v=.pointer (some ⟨g,i,none⟩)/\g≠r/\g<W.heap.size/\W.cell? ⟨g,i,none⟩=some u/\p u
theorem HJ{r c n:Nat}{p:Value->Prop}:FP r c (SlV r n p):=λ_ _ _ ⟨g,e,h1,h2,h3⟩ hs _=>
 ⟨g,e,h1,AF h2 hs.1.size,λi hi=>by rw[hs.1.cell h2 h1];exact h3 i hi⟩
theorem L7{r c:Nat}{p:Value->Prop}:FP r c (PtV r p):=λ_ _ _ ⟨g,i,u,e,h1,h2,h3,h4⟩ hs _=>
 ⟨g,i,u,e,h1,AF h2 hs.1.size,by rw[hs.1.cell h2 h1];exact h3,h4⟩
theorem By{r n:Nat}{p:Value->Prop}{W:World}(cs:Array Value){t:TypeId}(hr:r<W.heap.size)(hp:∀i,i<n->∃u,cs[i]?=some u/\p u):SlV r n p (.slice (some ⟨W.heap.size,0,none⟩) n n) (W.alloc (.cells cs t)):=
 ⟨_,rfl,by omega,by show W.heap.size<(W.heap.push _).size;simp,λi hi=>
  let ⟨u,h1,h2⟩:=hp i hi
  ⟨u,AK (heap_alloc_new W _) i h1,h2⟩⟩
theorem Mt{p:Value->Prop}{a b:Value}(ha:p a)(hb:p b):∀i,i<2->∃u,(#[a,b]:Array Value)[i]?=some u/\p u
 |0,_=>⟨a,rfl,ha⟩
 |1,_=>⟨b,rfl,hb⟩
theorem CT{p:Value->Prop}{a b c:Value}(ha:p a)(hb:p b)(hc:p c):∀i,i<3->∃u,(#[a,b,c]:Array Value)[i]?=some u/\p u
 |0,_=>⟨a,rfl,ha⟩
 |1,_=>⟨b,rfl,hb⟩
 |2,_=>⟨c,rfl,hc⟩
theorem Ci{s:ByteArray}(h:s.size<=10:=by decide):CG (.string s):=⟨_,rfl,h⟩
theorem int_is{k:Int}(h: -1<=k:=by decide)(h':k<=1000000001:=by decide):OB (.int .i64 k):=⟨_,rfl,h,h'⟩
def Svc.drawn(s:Svc):Prop:=s.name.size<=10/\0<=s.down/\s.down<=1000/\0<=s.over/\s.over<=1000/\0<=s.least/\s.least<=1000
def VarS(g:Nat)(W:World):Prop:=∃s:Svc,s.drawn/\Bl W g (svV s) 63
theorem VarS.past{r g n:Nat}{w w':World}(h:VarS g w)(hp:Past r n w w')(hn:g<n)(hr:g≠r):VarS g w':=let ⟨s,h1,h2⟩:=h;⟨s,h1,BD hp h2 hn hr⟩
theorem svc_put(s:Svc)(k:Nat)(x:Int)(hs:s.drawn)(h0:0<=x)(h1:k=5\/k=9->x<=1000)(hk:k=4\/k=5\/k=8\/k=9\/k=10\/k=11):∃s':Svc,s'.drawn/\(splice ((svV s):Array Value).toList k [.int .i64 x]).toArray=(svV s'):=by
 obtain⟨a,b,c,d,e,f,g⟩:=hs;rcases hk with rfl|rfl|rfl|rfl|rfl|rfl
 ·exact⟨{s with want:=x},⟨a,b,c,d,e,f,g⟩,rfl⟩
 ·exact⟨{s with down:=x},⟨a,h0,h1 (.inl rfl),d,e,f,g⟩,rfl⟩
 ·exact⟨{s with per:=x},⟨a,b,c,d,e,f,g⟩,rfl⟩
 ·exact⟨{s with least:=x},⟨a,b,c,d,e,h0,h1 (.inr rfl)⟩,rfl⟩
 ·exact⟨{s with most:=x},⟨a,b,c,d,e,f,g⟩,rfl⟩
 ·exact⟨{s with load:=x},⟨a,b,c,d,e,f,g⟩,rfl⟩
theorem Rd.onlyS{r g:Nat}{w w':World}{q:Int}{s:Svc}{t:TypeId}{fr:Nat × Nat}(hR:Rd r w q)(hb:w.heap[g]?=some (.cells (svV s) t fr))(on:Bj g w w')(hr:r≠g):Rd r w' q:=by
 obtain⟨ao,n,cap,p,c1,c2,c3,c4,c5⟩:=hR;refine⟨ao,n,cap,p,(on.other r hr).trans c1,c2,c3,c4,λhn=>?_⟩;obtain⟨b,off,e1,e2,e3,e4⟩:=c5 hn;refine⟨b,off,e1,by rw[on.size];exact e2,e3,λi hi=>?_⟩
 by_cases hbg:b=g
 ·subst hbg
  obtain⟨x,hx,_⟩:=e4 i hi;rw[cell_of_row w b _ _ _ _ hb]at hx;obtain⟨j,hj⟩:∃j,off+i=j:=⟨_,rfl⟩;rw[hj]at hx;rcases j with _|_|_|_|_|_|_|_|_|_|_|_|_|j<;>first|cases hx|simp at hx
 ·obtain⟨x,hx,hx'⟩:=e4 i hi
  exact⟨x,by rw[World.cell?_of_block (w:=w) (on.other b hbg)];exact hx,hx'⟩
structure Wish(r f g:Nat)(w0:World)(q:Int)(w:World):Prop where
 vg:VarS g w
 vf:VarS f w
 rd:Rd r w q
 past:Past r w0.heap.size w0 w
 rf:r<f
 fg:f<g
 n0:w0.heap.size<=f
theorem VarS.lt{g:Nat}{w:World}(h:VarS g w):g<w.heap.size:=let ⟨_,_,h⟩:=h;(AB h).1
theorem Wish.go{r f g:Nat}{w0 w w':World}{q q':Int}(h:Wish r f g w0 q w)(hp:Past r w.heap.size w w')(hr:Rd r w' q'):Wish r f g w0 q' w':=
 ⟨h.vg.past hp h.vg.lt (by have:=h.rf;have:=h.fg;omega),h.vf.past hp h.vf.lt (by have:=h.rf;omega),hr,h.past.next (AG _) hp,h.rf,h.fg,h.n0⟩
theorem Wish.step{r f g:Nat}{w0 w w':World}{q:Int}(h:Wish r f g w0 q w){c:Nat}(hs:RStep r c w w'):Wish r f g w0 (q+c) w':=
 ⟨h.vg.past hs.1 h.vg.lt (by have:=h.rf;have:=h.fg;omega),h.vf.past hs.1 h.vf.lt (by have:=h.rf;omega),hs.2 _ h.rd,h.past.next (AG _) hs.1,h.rf,h.fg,h.n0⟩
theorem Wish.mono{r f g:Nat}{w0 w:World}{q q':Int}(h:Wish r f g w0 q w)(hq:q<=q'):Wish r f g w0 q' w:=⟨h.vg,h.vf,h.rd.mono hq,h.past,h.rf,h.fg,h.n0⟩
theorem Df{ops:Array Oper}{rest:List Oper}{o:Oper}{a:Act}{w:World}{Q:Exit->Act->World->Prop}(hgd:o.guard=none)(x y:Operand)(ho:o.op=.store 3 x y)
  (r f g k:Nat) (w0:World) (q v:Int) (hx:a.eval x=.pointer (some ⟨g,k,none⟩)) (hy:a.eval y=.int .i64 v) (hV:Wish r f g w0 q w) (h0:0<=v) (h1:k=5\/k=9->v<=1000) (hk:k=4\/k=5\/k=8\/k=9\/k=10\/k=11)
  (h:∀w',Wish r f g w0 q w'->wpList Try.prog ops Q rest (a.put o.dst undef) w'):wpList Try.prog ops Q (o::rest) a w:=by
 obtain⟨⟨s,hs,hb⟩,hf,hR,hp,c1,c2,c3⟩:=hV;refine AP hgd 3 x y ho g k (.int .i64 v) hx hy Bm rfl rfl 63 (svV s) hb (by rcases hk with rfl|rfl|rfl|rfl|rfl|rfl<;>exact AD rfl) ?_;intro w' hb' on;obtain⟨s',hs',e⟩:=svc_put s k v hs h0 h1 hk;have hb2:=hb'.out;rw[e]at hb2;have hlt:=hf.lt;obtain⟨s2,hs2,hf2⟩:=hf;exact h w' ⟨⟨s',hs',hb2⟩,⟨s2,hs2,(on.other f (by omega)).trans hf2⟩,hR.onlyS hb on (by omega),hp.trans (.of (on.below.mono (by omega))),c1,c2,c3⟩
theorem EC:(Try.prog.info? 63).map (·.size)=some 13:=by kernel_rfl
theorem Ho(r:Nat)(q:Int)(w:World)(hR:Rd r w q)(hq:q<=900000000000):
  Calls Try.prog 84 #[.pointer (ad r)] w λe w'=>∃s:Svc,e=.returned (.agg (svV s))/\s.name.size<=10/\Past r w.heap.size w w'/\Rd r w' (q+100):=by
 have hlt:=hR.lt;go_enter Try.func84,Try.ntmps84
 go_upto_region 1 with fail
 obtain⟨w0,hw0⟩:∃x,x=w.alloc (.cells #[.string ⟨#[]⟩,.int .i64 0,.bool false,.int .i64 0,.int .i64 0,.int .i64 0,.int .i64 0,.int .i64 0,.int .i64 0,.int .i64 0,.int .i64 0,.int .i64 0,.int .i64 0] 63):=⟨_,rfl⟩;rw[<-hw0];have hb0:Below w.heap.size w w0:=by rw[hw0];exact AO _ _
 have HB0:Hid (VarS w.heap.size w0):=⟨⟨⟨#[]⟩,0,false,0,0,0,0,0,0,0,0,0,0⟩,⟨by decide,by decide,by decide,by decide,by decide,by decide,by decide⟩,by rw[hw0];exact heap_alloc_new w _⟩;have hR0:Rd r w0 q:=hR.below hb0;obtain⟨N,hN⟩:∃N,N=w.heap.size+1:=⟨_,rfl⟩;have hNw:N<=w0.heap.size:=by rw[hw0,hN];show w.heap.size+1<=(w.heap.push _).size;simp
 clear hw0;refine BN 19 r 1 q (by kernel_rfl) (by kernel_rfl) hR0 ?_;refine Am (SlV r 3 CG) HJ ?_ ?_
 ·intro V W K A hW hR hd hA hK
  simp only[pA]at hA;clear hd;obtain rfl:=hA;have hlt:=hR.lt;go_wp2;exact hK.out _ _ (.of (AO _ _)) (By _ hlt (CT Ci Ci Ci))
 apply Cn
 ·intro V W K A hW hR hd hA hK
  simp only[pA]at hA;clear hd;obtain rfl:=hA;go_wp2;exact hK.out _ (RStep.re _)
 refine Am (Pk 3) Fi ?_ ?_
 ·intro V W K A hW hR hd hA hK
  have d1:V 1=_:=hd 1 (by kernel_rfl);simp only[pA,d1]at hA;clear hd d1;obtain rfl:=hA
  go_wp2_with fail
  refine(Ao r 3 _ W (by omega) (by omega) hR (by omega)).mono ?_;rintro e w2 ⟨k,rfl,hk,hs⟩;go_wp2;exact hK.out _ _ hs ⟨k,rfl,hk⟩
 refine Am (PtV r CG) L7 ?_ ?_
 ·intro V W K A hW hR hd hA hK
  have d0:(SlV r 3 CG) (V 0) W:=hd 0 (by kernel_rfl);have d2:(Pk 3) (V 2) W:=hd 2 (by kernel_rfl);simp only[pA]at hA;clear hd;generalize V 0=x0 at d0 hA;generalize V 2=x2 at d2 hA;obtain rfl:=hA;obtain⟨g,rfl,g1,g2,g3⟩:=d0;obtain⟨k,rfl,hk⟩:=d2;obtain⟨j,rfl⟩:=AI hk.1;have hj:j<3:=by have:=hk.2.1;omega
  clear hk;obtain⟨u,u1,u2⟩:=g3 j hj;go_wp2;exact hK.out _ _ (RStep.re _) ⟨g,j,u,by simp,g1,g2,u1,u2⟩
 refine Am (Va CG) I9 ?_ ?_
 ·intro V W K A hW hR hd hA hK
  have d3:(PtV r CG) (V 3) W:=hd 3 (by kernel_rfl);simp only[pA]at hA;clear hd;generalize V 3=x3 at d3 hA;obtain rfl:=hA;obtain⟨g,i,u,rfl,g1,g2,g3,s,rfl,g4⟩:=d3;go_wp2;exact hK.out _ _ (RStep.re _) ⟨s,rfl,g4⟩
 apply Cn
 ·intro V W K A hW hR hd hA hK
  simp only[pA]at hA;clear hd;obtain rfl:=hA;go_wp2;exact hK.out _ (RStep.re _)
 refine Am (Pk 3) Fi ?_ ?_
 ·intro V W K A hW hR hd hA hK
  have d5:V 5=_:=hd 5 (by kernel_rfl);simp only[pA,d5]at hA;clear hd d5;obtain rfl:=hA
  go_wp2_with fail
  refine(Ao r 3 _ W (by omega) (by omega) hR (by omega)).mono ?_;rintro e w2 ⟨k,rfl,hk,hs⟩;go_wp2;exact hK.out _ _ hs ⟨k,rfl,hk⟩
 refine Am (Va OB) I9 ?_ ?_
 ·intro V W K A hW hR hd hA hK
  have d6:(Pk 3) (V 6) W:=hd 6 (by kernel_rfl);simp only[pA]at hA;clear hd;generalize V 6=x6 at d6 hA;obtain rfl:=hA;obtain⟨k,rfl,hk⟩:=d6;have h0:=hk.1;have h1:=hk.2.1 (by omega);go_wp2;exact hK.out _ _ (RStep.re _) (int_is (by omega) (by omega))
 apply Cn
 ·intro V W K A hW hR hd hA hK
  simp only[pA]at hA;clear hd;obtain rfl:=hA;go_wp2;exact hK.out _ (RStep.re _)
 refine Am (Pk 6) Fi ?_ ?_
 ·intro V W K A hW hR hd hA hK
  have d8:V 8=_:=hd 8 (by kernel_rfl);simp only[pA,d8]at hA;clear hd d8;obtain rfl:=hA
  go_wp2_with fail
  refine(Ao r 6 _ W (by omega) (by omega) hR (by omega)).mono ?_;rintro e w2 ⟨k,rfl,hk,hs⟩;go_wp2;exact hK.out _ _ hs ⟨k,rfl,hk⟩
 apply Cn
 ·intro V W K A hW hR hd hA hK
  simp only[pA]at hA;clear hd;obtain rfl:=hA;go_wp2;exact hK.out _ (RStep.re _)
 refine Am (Pk 3) Fi ?_ ?_
 ·intro V W K A hW hR hd hA hK
  have d10:V 10=_:=hd 10 (by kernel_rfl);simp only[pA,d10]at hA;clear hd d10;obtain rfl:=hA
  go_wp2_with fail
  refine(Ao r 3 _ W (by omega) (by omega) hR (by omega)).mono ?_;rintro e w2 ⟨k,rfl,hk,hs⟩;go_wp2;exact hK.out _ _ hs ⟨k,rfl,hk⟩
 apply Cn
 ·intro V W K A hW hR hd hA hK
  simp only[pA]at hA;clear hd;obtain rfl:=hA;go_wp2;exact hK.out _ (RStep.re _)
 refine Am (Pk 3) Fi ?_ ?_
 ·intro V W K A hW hR hd hA hK
  have d12:V 12=_:=hd 12 (by kernel_rfl);simp only[pA,d12]at hA;clear hd d12;obtain rfl:=hA
  go_wp2_with fail
  refine(Ao r 3 _ W (by omega) (by omega) hR (by omega)).mono ?_;rintro e w2 ⟨k,rfl,hk,hs⟩;go_wp2;exact hK.out _ _ hs ⟨k,rfl,hk⟩
 apply Cn
 ·intro V W K A hW hR hd hA hK
  simp only[pA]at hA;clear hd;obtain rfl:=hA;go_wp2;exact hK.out _ (RStep.re _)
 refine Am (Pk 10) Fi ?_ ?_
 ·intro V W K A hW hR hd hA hK
  have d14:V 14=_:=hd 14 (by kernel_rfl);simp only[pA,d14]at hA;clear hd d14;obtain rfl:=hA
  go_wp2_with fail
  refine(Ao r 10 _ W (by omega) (by omega) hR (by omega)).mono ?_;rintro e w2 ⟨k,rfl,hk,hs⟩;go_wp2;exact hK.out _ _ hs ⟨k,rfl,hk⟩
 refine Am (λv _=>∃b:Bool,v=.bool b) (λ_ _ _ h _ _=>h) ?_ ?_
 ·intro V W K A hW hR hd hA hK
  have d15:(Pk 10) (V 15) W:=hd 15 (by kernel_rfl);simp only[pA]at hA;clear hd;generalize V 15=x15 at d15 hA;obtain rfl:=hA;obtain⟨k,rfl,hk⟩:=d15;go_wp2;exact hK.out _ _ (RStep.re _) ⟨_,rfl⟩
 refine Am (λv _=>∃s:Svc,s.drawn/\v=.agg (svV s)) (λ_ _ _ h _ _=>h) ?_ ?_
 ·intro V W K A hW hR hd hA hK
  have d4:(Va CG) (V 4) W:=hd 4 (by kernel_rfl);have d7:(Va OB) (V 7) W:=hd 7 (by kernel_rfl);have d9:(Pk 6) (V 9) W:=hd 9 (by kernel_rfl);have d11:(Pk 3) (V 11) W:=hd 11 (by kernel_rfl);have d13:(Pk 3) (V 13) W:=hd 13 (by kernel_rfl);have d16:(λv _=>∃b:Bool,v=.bool b) (V 16) W:=hd 16 (by kernel_rfl);simp only[pA]at hA;clear hd;generalize V 4=x4 at d4 hA;generalize V 7=x7 at d7 hA;generalize V 9=x9 at d9 hA;generalize V 11=x11 at d11 hA;generalize V 13=x13 at d13 hA;generalize V 16=x16 at d16 hA;obtain rfl:=hA;obtain⟨s,rfl,hs⟩:=d4;obtain⟨i,rfl,hi⟩:=d7;obtain⟨a,rfl,ha⟩:=d9;obtain⟨b,rfl,hb⟩:=d11;obtain⟨c,rfl,hc⟩:=d13;obtain⟨f,rfl⟩:=d16;have b0:=hb.1;have b1:=hb.2.1 (by omega);have c0:=hc.1;have c1:=hc.2.1 (by omega);clear hb hc;go_wp2;exact hK.out _ _ (RStep.re _) ⟨⟨s,0,f,i,a,b,c,0,0,0,0,0,0⟩,⟨hs,b0,by show b<=1000;omega,c0,by show c<=1000;omega,by show(0:Int)<=0;omega,by show(0:Int)<=1000;omega⟩,rfl⟩
 refine Am (λv W=>∃g,v=.pointer (ad g)/\N<=g/\∃s:Svc,Bl W g (svV s) 63) (λ_ _ _ ⟨g,e,h1,s,h2⟩ hs _=>⟨g,e,h1,s,BD hs.1 h2 (AB h2).1 (by omega)⟩) ?_ ?_
 ·intro V W K A hW hR hd hA hK
  simp only[pA]at hA;clear hd;obtain rfl:=hA;go_wp2;exact hK.out _ _ (.of (AO _ _)) ⟨W.heap.size,rfl,AH hNw hW.size,⟨⟨#[]⟩,0,false,0,0,0,0,0,0,0,0,0,0⟩,heap_alloc_new W _⟩
 intro V W A hW hR hS hA;have d0:(SlV r 3 CG) (V 0) W:=hS 0 (by omega);have d1:V 1=_:=hS 1 (by omega);have d2:(Pk 3) (V 2) W:=hS 2 (by omega);have d3:(PtV r CG) (V 3) W:=hS 3 (by omega);have d4:(Va CG) (V 4) W:=hS 4 (by omega);have d5:V 5=_:=hS 5 (by omega);have d6:(Pk 3) (V 6) W:=hS 6 (by omega);have d7:(Va OB) (V 7) W:=hS 7 (by omega);have d8:V 8=_:=hS 8 (by omega);have d9:(Pk 6) (V 9) W:=hS 9 (by omega);have d10:V 10=_:=hS 10 (by omega);have d11:(Pk 3) (V 11) W:=hS 11 (by omega);have d12:V 12=_:=hS 12 (by omega);have d13:(Pk 3) (V 13) W:=hS 13 (by omega);have d14:V 14=_:=hS 14 (by omega);have d15:(Pk 10) (V 15) W:=hS 15 (by omega);have d16:(λv _=>∃b:Bool,v=.bool b) (V 16) W:=hS 16 (by omega);have d17:(λv _=>∃s:Svc,s.drawn/\v=.agg (svV s)) (V 17) W:=hS 17 (by omega);have d18:(λv W=>∃g,v=.pointer (ad g)/\N<=g/\∃s:Svc,Bl W g (svV s) 63) (V 18) W:=hS 18 (by omega);simp only[pA,d1,d5,d8,d10,d12,d14]at hA;clear hS d1 d5 d8 d10 d12 d14;generalize V 0=x0 at d0 hA;generalize V 2=x2 at d2 hA;generalize V 3=x3 at d3 hA;generalize V 4=x4 at d4 hA;generalize V 6=x6 at d6 hA;generalize V 7=x7 at d7 hA;generalize V 9=x9 at d9 hA;generalize V 11=x11 at d11 hA;generalize V 13=x13 at d13 hA;generalize V 15=x15 at d15 hA;generalize V 16=x16 at d16 hA;generalize V 17=x17 at d17 hA;generalize V 18=x18 at d18 hA;obtain rfl:=hA;simp only[List.drop_succ_cons,List.drop_zero];obtain⟨s,hs,rfl⟩:=d17;obtain⟨g,rfl,hg,s0,hz⟩:=d18;clear d0 d2 d3 d4 d6 d7 d9 d11 d13 d15 d16;refine AM rfl 63 (.tmp 3) (.tmp 21) rfl g 0 (svV s) rfl rfl 63 (svV s0) hz EC (AD rfl) (by simp[Value.oneCell']) ?_
 intro w1 hz1 on1
 have J1:Hid (Wish r w.heap.size g w (q+19) w1):=by
  obtain⟨s2,e2,f2⟩:=HB0.out.past hW HB0.out.lt (by omega);exact⟨⟨s,hs,hz1.out⟩,⟨s2,e2,(on1.other _ (by omega)).trans f2⟩,(hR.onlyS hz on1 (by omega)).mono (by omega),((Past.of hb0).next (AG _) hW).trans (.of (on1.below.mono (by omega))),hlt,by omega,AG _⟩
 have hgs:g<w1.heap.size:=J1.out.vg.lt;clear hz1 on1 hs hz hR hW HB0 hR0;obtain⟨f,hf⟩:∃f,f=w.heap.size:=⟨_,rfl⟩;rw[<-hf]at J1;rw[<-hf];clear hf;simp only[Act.put];obtain⟨s1,hs1,hb1⟩:=J1.out.vg;have e5:w1.cell? ⟨g,5,none⟩=some (.int .i64 s1.down):=AK hb1 5 rfl;have e6:w1.cell? ⟨g,6,none⟩=some (.int .i64 s1.over):=AK hb1 6 rfl;clear hb1;obtain⟨_,h1,h2,h3,h4,_⟩:=hs1
 go_upto_if 27 with fail
 go_cut [] from 22 (λwx=>Wish r f g w (q+19) wx)
 case first=>
  by_cases hz:s1.down+s1.over=0
  ·have hzb:(s1.down+s1.over==0)=true:=by simp[hz]
   go_wp2_with ((with_reducible show wpList _ _ _ _ _ _);refine Df rfl (.tmp 28) (.const (.int .i64 1)) rfl r f g 5 w _ 1 rfl rfl J1.out (by omega) (λ_=>by omega) (by simp) ?_;intro w2 hw;have J2:Hid _:=hw;clear hw;simp only[Act.put])
   go_meet;exact J2.out
  ·have hzb:(s1.down+s1.over==0)=false:=by simp[hz]
   go_wp2;go_meet;exact J1.out
 clear e5 e6 h1 h2 h3 h4 J1 hgs;have J1:Hid (Wish r f g w (q+19) wc):=hcut;clear hcut
 go_upto_if 31 with(go_at_call 21;refine(Ao r 3 _ _ (by omega) (by omega) J1.out.rd (by omega)).mono ?_;rintro e w2 ⟨k2,rfl,hk,hs⟩;have J2:Hid _:=J1.out.step hs;have k20:=hk.1;have k21:=hk.2.1 (by omega);clear hk hs)
 go_cut [] from 29 (λwx=>Wish r f g w (q+60) wx)
 case first=>
  by_cases hk2:k2=0
  rotate_left
  ·have hkb:(k2==0)=false:=by simp[hk2]
   go_wp2;go_meet;exact J2.out.mono (by omega)
  have hkb:(k2==0)=true:=by simp[hk2]
  go_upto_region 6 with(first|(go_at_call 21;refine(Ao r 9 _ _ (by omega) (by omega) J2.out.rd (by omega)).mono ?_;rintro e w3 ⟨k3,rfl,hk,hs⟩;have J3:Hid _:=J2.out.step hs;have k30:=hk.1;have k31:=hk.2.1 (by omega);clear hk hs)|((with_reducible show wpList _ _ _ _ _ _);refine Df rfl (.tmp 35) (.tmp 34) rfl r f g 8 w _ (1+k3) rfl rfl J3.out (by omega) (λ_=>by omega) (by simp) ?_;intro w4 hw;have J4:Hid _:=hw;clear hw;simp only[Act.put]))
  go_upto_region 7 with(first|(go_at_call 21;refine(Ao r 3 _ _ (by omega) (by omega) J4.out.rd (by omega)).mono ?_;rintro e w5 ⟨k5,rfl,hk,hs⟩;have J5:Hid _:=J4.out.step hs;have k50:=hk.1;have k51:=hk.2.1 (by omega);clear hk hs)|((with_reducible show wpList _ _ _ _ _ _);refine Df rfl (.tmp 38) (.tmp 37) rfl r f g 9 w _ k5 rfl rfl J5.out (by omega) (λ_=>by omega) (by simp) ?_;intro w6 hw;have J6:Hid _:=hw;clear hw;simp only[Act.put]))
  obtain⟨s,hs,hb⟩:=J6.out.vg;have HB:Hid _:=hb;obtain⟨_,_,_,_,_,hs1,hs2⟩:=hs;clear hb;have hgs2:g<w6.heap.size:=J6.out.vg.lt;have hgr:g≠r:=by have:=J6.out.rf;have:=J6.out.fg;omega
  have hR6:=J6.out.rd;refine BN 6 r 1 _ (by kernel_rfl) (by kernel_rfl) hR6 ?_;apply Cn
  ·intro V W K A hW hR hd hA hK
   simp only[pA]at hA;clear hd;obtain rfl:=hA;go_wp2;exact hK.out _ (RStep.re _)
  refine Am (λv _=>∃k:Int,v=.int .i64 k/\0<=k/\k<=1000) (λ_ _ _ h _ _=>h) ?_ ?_
  ·intro V W K A hW hR hd hA hK
   have d0:V 0=_:=hd 0 (by kernel_rfl);simp only[pA,d0]at hA;clear hd d0;obtain rfl:=hA;have e9:W.cell? ⟨g,9,none⟩=some (.int .i64 s.least):=AK (BD hW HB.out hgs2 hgr) 9 rfl;go_wp2;exact hK.out _ _ (RStep.re _) ⟨_,rfl,hs1,hs2⟩
  apply Cn
  ·intro V W K A hW hR hd hA hK
   simp only[pA]at hA;clear hd;obtain rfl:=hA;go_wp2;exact hK.out _ (RStep.re _)
  refine Am (Pk 5) Fi ?_ ?_
  ·intro V W K A hW hR hd hA hK
   have d2:V 2=_:=hd 2 (by kernel_rfl);simp only[pA,d2]at hA;clear hd d2;obtain rfl:=hA
   go_wp2_with fail
   refine(Ao r 5 _ W (by omega) (by omega) hR (by omega)).mono ?_;rintro e w2 ⟨k,rfl,hk,hs⟩;go_wp2;exact hK.out _ _ hs ⟨k,rfl,hk⟩
  refine Am (λv _=>∃k:Int,v=.int .i64 k/\0<=k/\k<=2000) (λ_ _ _ h _ _=>h) ?_ ?_
  ·intro V W K A hW hR hd hA hK
   have d1:(λv _=>∃k:Int,v=.int .i64 k/\0<=k/\k<=1000) (V 1) W:=hd 1 (by kernel_rfl);have d3:(Pk 5) (V 3) W:=hd 3 (by kernel_rfl);simp only[pA]at hA;clear hd;generalize V 1=x1 at d1 hA;generalize V 3=x3 at d3 hA;obtain rfl:=hA;obtain⟨a,rfl,a1,a2⟩:=d1;obtain⟨k,rfl,hk⟩:=d3;have k0:=hk.1;have k1:=hk.2.1 (by omega);clear hk;go_wp2;exact hK.out _ _ (RStep.re _) ⟨_,rfl,by omega,by omega⟩
  apply Cn
  ·intro V W K A hW hR hd hA hK
   simp only[pA]at hA;clear hd;obtain rfl:=hA;go_wp2;exact hK.out _ (RStep.re _)
  intro V W A hW hR hS hA;have d0:V 0=_:=hS 0 (by omega);have d1:(λv _=>∃k:Int,v=.int .i64 k/\0<=k/\k<=1000) (V 1) W:=hS 1 (by omega);have d2:V 2=_:=hS 2 (by omega);have d3:(Pk 5) (V 3) W:=hS 3 (by omega);have d4:(λv _=>∃k:Int,v=.int .i64 k/\0<=k/\k<=2000) (V 4) W:=hS 4 (by omega);have d5:V 5=_:=hS 5 (by omega);simp only[pA,d0,d2,d5]at hA;clear hS d0 d2 d5;generalize V 1=x1 at d1 hA;generalize V 3=x3 at d3 hA;generalize V 4=x4 at d4 hA;obtain rfl:=hA;simp only[List.drop_succ_cons,List.drop_zero];obtain⟨m,rfl,m0,m1⟩:=d4;clear d1 d3;have J7:Hid (Wish r f g w _ W):=J6.out.go hW hR;clear hR hW J6 hR6 HB hgs2
  go_upto_region 8 with((with_reducible show wpList _ _ _ _ _ _);refine Df rfl (.tmp 44) (.tmp 43) rfl r f g 10 w _ m rfl rfl J7.out (by omega) (λ_=>by omega) (by simp) ?_;intro w8 hw;have J8:Hid _:=hw;clear hw;simp only[Act.put])
  go_upto_region 9 with(first|(go_at_call 21;refine(Ao r 60 _ _ (by omega) (by omega) J8.out.rd (by omega)).mono ?_;rintro e w9 ⟨k9,rfl,hk,hs⟩;have J9:Hid _:=J8.out.step hs;have k90:=hk.1;have k91:=hk.2.1 (by omega);clear hk hs)|((with_reducible show wpList _ _ _ _ _ _);refine Df rfl (.tmp 47) (.tmp 46) rfl r f g 11 w _ k9 rfl rfl J9.out (by omega) (λ_=>by omega) (by simp) ?_;intro wa hw;have Ja:Hid _:=hw;clear hw;simp only[Act.put]))
  go_upto_if 50 with(go_at_call 21;refine(Ao r 4 _ _ (by omega) (by omega) Ja.out.rd (by omega)).mono ?_;rintro e wb ⟨kb,rfl,hk,hs⟩;have Jb:Hid _:=Ja.out.step hs;have kb0:=hk.1;have kb1:=hk.2.1 (by omega);clear hk hs)
  obtain⟨s,hs,hb⟩:=Jb.out.vg;have e9:wb.cell? ⟨g,9,none⟩=some (.int .i64 s.least):=AK hb 9 rfl;obtain⟨_,_,_,_,_,hs1,hs2⟩:=hs;clear hb
  by_cases hkz:0<kb
  ·have hkzb:decide (0<kb)=true:=by simp[hkz]
   go_wp2_with ((with_reducible show wpList _ _ _ _ _ _);refine Df rfl (.tmp 53) (.tmp 52) rfl r f g 4 w _ s.least rfl rfl Jb.out (by omega) (λ_=>by omega) (by simp) ?_;intro wd hw;have Jd:Hid _:=hw;clear hw;simp only[Act.put])
   go_meet;exact Jd.out.mono (by omega)
  ·have hkzb:decide (0<kb)=false:=by simp[hkz]
   go_wp2;go_meet;exact Jb.out.mono (by omega)
 clear J1 J2;obtain⟨⟨s,hs,hb⟩,⟨s2,_,hb2⟩,hrd,hpa,c1,c2,c3⟩:=hcut;have HB:Hid _:=hb;have HF:Hid _:=hb2;have HR:Hid (Rd r wc (q+60)):=hrd;have HP:Hid _:=hpa;clear hb hb2 hrd hpa
 go_wp2_with (first|((with_reducible show wpList _ _ _ _ _ _);refine wpList_load_row rfl 63 (.tmp 3) rfl g rfl 63 (svV s) (0,0) _ HB.out Try.underlying63 rfl EC ?_)|((with_reducible show wpList _ _ _ _ _ _);refine AM rfl 63 (.tmp 2) (.tmp 54) rfl f 0 (svV s) rfl rfl 63 (svV s2) HF.out EC (AD rfl) (by simp[Value.oneCell']) ?_;intro wz hz on;simp only[Act.put]))
 refine bodyPost_ret (results_cell_row rfl _ wz f 63 (svV s) (0,0) _ rfl hz.out Try.underlying63 rfl EC) rfl ?_;exact⟨s,rfl,hs.1,HP.out.trans (.of (on.below.mono c3)),(HR.out.onlyS HF.out on (by omega)).mono (by omega)⟩
end Go.Proofs.Ytbceafpodamnfaa
