import Derived.Test.YtbceafpodamnfaaH48
set_option linter.all false
set_option maxHeartbeats 16000000
set_option maxRecDepth 100000
namespace Go.Proofs.Ytbceafpodamnfaa
attribute [local simp] svV cpV zbV czV aaV ctZ ad bkV ctV acV evV
attribute [local go_sem] svV cpV zbV czV aaV ctZ ad bkV ctV acV evV
section
open Go.RowKit Go.Sort
theorem Ip{P:Program}{ops:Array Oper}{Q:Exit->Act->World->Prop}{o:Oper}{rest:List Oper}{A:Act}{W W':World}{v:Value}(hg:o.guard=none)(hr:(execOp A.eval o).run P W=.ok (.value v) W')(h:wpList P ops Q rest (A.put o.dst v) W'):wpList P ops Q (o::rest) A W:=by
 refine wpList_plain hg λK' hK'=>?_
 unfold Oper.wp;rw[hr];exact hK' _ _ h
theorem Ks{P:Program}{ops:Array Oper}{Q:Exit->Act->World->Prop}{o:Oper}{rest:List Oper}{A:Act}{W:World}{f:FuncId}{args:Array Value}(hg:o.guard=none)(hr:(execOp A.eval o).run P W=.ok (.enter f args) W)(h:Calls P f args W λe w'=>∃v,e=.returned v/\wpList P ops Q rest (A.put o.dst v) w'):wpList P ops Q (o::rest) A W:=by
 refine wpList_plain hg λK' hK'=>?_
 unfold Oper.wp;rw[hr];refine h.mono ?_;rintro e w' ⟨v,rfl,hk⟩;exact hK' _ _ hk
theorem Ea{P:Program}{c:Code}{Q:Exit->Act->World->Prop}{a:Act}{w:World}(F:Act->Prop)(hF:F a)(h:∀a,F a->c.wp P Q a w):c.wp P Q a w:=h a hF
theorem OS{ρ:Operand->Value}{o:Oper}{W:World}{c0 c1 c2 c3 c4:Int}(hc:∀v,ρ (.const v)=v)(h:o.op=.buildSlice 122 5 #[(0,.const (.int .i64 c0)),(1,.const (.int .i64 c1)),(2,.const (.int .i64 c2)),(3,.const (.int .i64 c3)),(4,.const (.int .i64 c4))]):(execOp ρ o).run Try.prog W=.ok (.value (.slice (some ⟨W.heap.size,0,none⟩) 5 5)) (W.alloc (.cells #[.int .i64 c0,.int .i64 c1,.int .i64 c2,.int .i64 c3,.int .i64 c4] 3)):=by
 simp[execOp,h,hc,go_sem]
theorem five_of{p:Value->Prop}{a b c d e:Value}(ha:p a)(hb:p b)(hc:p c)(hd:p d)(he:p e):∀i,i<5->∃u,(#[a,b,c,d,e]:Array Value)[i]?=some u/\p u
 |0,_=>⟨a,rfl,ha⟩
 |1,_=>⟨b,rfl,hb⟩
 |2,_=>⟨c,rfl,hc⟩
 |3,_=>⟨d,rfl,hd⟩
 |4,_=>⟨e,rfl,he⟩
theorem Ef(A:Act){d:Nat}(v:Value)(h:d<A.tmps.size):(A.put (some d) v).eval (.tmp d)=v:=L5 A v h
theorem JQ(A:Act){d e:Nat}(v:Value)(h:d≠e):(A.put (some d) v).eval (.tmp e)=A.eval (.tmp e):=Is _ _ λh'=>h (Option.some.inj h')
def One(d:Nat)(A A':Act):Prop:=(∀e:Nat,e≠d->A'.eval (.tmp e)=A.eval (.tmp e))/\A'.tmps.size=A.tmps.size/\A'.defers=A.defers
theorem E7(A:Act)(d:Nat)(v:Value):One d A (A.put (some d) v):=⟨λ_ h=>JQ A v h.symm,Ha _ _ _,Eg _ _ _⟩
theorem Kept.one{a A A':Act}{d:Nat}(h:Kept a A)(k:One d A A')(hd:33<=d):Kept a A':=⟨λe he=>(k.1 e (by omega)).trans (h.1 e he),k.2.1.trans h.2.1,k.2.2.trans h.2.2⟩
theorem Aj{P:Program}{ops:Array Oper}{Q:Exit->Act->World->Prop}{o:Oper}{rest:List Oper}{A:Act}{W W':World}{v:Value}{d:Nat}(hg:o.guard=none)(hd:o.dst=some d)(hs:d<A.tmps.size)(hr:(execOp A.eval o).run P W=.ok (.value v) W')(h:∀A',One d A A'->A'.eval (.tmp d)=v->wpList P ops Q rest A' W'):wpList P ops Q (o::rest) A W:=
 Ip hg hr (by rw[hd];exact h _ (E7 A d v) (Ef A v hs))
theorem CH{o0 o1:Oper}(d:Nat)(n:Int)(hsh:[o0,o1].map (λo=>(o.dst,o.op,o.guard))=[(some (d+1),.binOp .eql 3 (.tmp 32) (.const (.int .i64 n)) 3,none),(some d,.assign (.tmp (d+1)),none)])(ht0:33<=d)(hts:d+1<284)
  {r f x s c id:Nat} {k:Int} {a:Act} {w:World} {Q:Exit->Act->World->Prop} (hf:SpF r f x s c k a) (hQ:∀a',SpF r f x s c k a'->a'.eval (.tmp d)=.bool (k==n)->Q .normal a' w):(Code.region id [o0,o1].toArray false).wp Try.prog Q a w:=by
 simp only[List.map_cons,List.map_nil,List.cons.injEq,Prod.mk.injEq,and_true]at hsh;obtain⟨⟨d0,p0,u0⟩,d1,p1,u1⟩:=hsh;have hsz:=hf.sz;refine wp_region_lit (Ip u0 (LR rfl p0 hf.ek) ?_);rw[d0];refine Ip u1 (Da p1 (Ef _ _ (by omega))) ?_;rw[d1];exact hQ _ (hf.kept (((Kept.refl a).put _ (by omega)).put _ ht0)) (Ef _ _ (by rw[Ha];omega))
theorem sp_R9 {o0 o1 o2 o3 o4 o5 o6 : Oper} (t : Nat) (c0 c1 c2 c3 c4 : Int) (hsh : [o0, o1, o2, o3, o4, o5, o6].map (λo => (o.dst, o.op, o.guard)) = [(some t, .buildSlice 122 5 #[(0, .const (.int .i64 c0)), (1, .const (.int .i64 c1)), (2, .const (.int .i64 c2)), (3, .const (.int .i64 c3)), (4, .const (.int .i64 c4))], none), (some (t + 1), .move (.tmp 0), none),
      (some (t+2),.call {callee:=.value (.func 21),args:=#[.tmp (t+1),.const (.int .i64 5)],argTypes:=#[52,3]},none),(some (t+3),.indexAddr 122 (.tmp t) (.tmp (t+2)),none),(some (t+4),.load 3 (.tmp (t+3)),none),(some (t+5),.fieldAddr 27 (.tmp 5) 0,none),(none,.store 3 (.tmp (t+5)) (.tmp (t+4)),none)]) (ht0:33<=t) (hts:t+5<284)
  {r f x s c g1 k1 g2 k2 g3 k3 id:Nat} {B:Bk} {k q:Int} {a:Act} {w0 w:World} {Q:Exit->Act->World->Prop} (hf:SpF r f x s c k a) (hu:SpU r f x g1 k1 g2 k2 g3 k3 B w0 q w) (hq:q<=900000000000) (hQ:∀a' w',SpF r f x s c k a'->SpW r f x w0 (q+20) w'->Q .normal a' w'):
  (Code.region id [o0,o1,o2,o3,o4,o5,o6].toArray false).wp Try.prog Q a w:=by
 simp only[List.map_cons,List.map_nil,List.cons.injEq,Prod.mk.injEq,and_true]at hsh;obtain⟨⟨d0,p0,u0⟩,⟨d1,p1,u1⟩,⟨d2,p2,u2⟩,⟨d3,p3,u3⟩,⟨d4,p4,u4⟩,⟨d5,p5,u5⟩,d6,p6,u6⟩:=hsh;have hsz:=hf.sz;have hrl:=hu.rd.lt;refine wp_region_lit (Aj u0 d0 (by omega) (OS (λ_=>rfl) p0) λA1 q1 s1=>?_);have hU1:=hu.go (.of (AO w (.cells #[.int .i64 c0,.int .i64 c1,.int .i64 c2,.int .i64 c3,.int .i64 c4] 3))) (hu.rd.below (AO _ _));have hsl:SlV r 5 IsN (.slice (some ⟨w.heap.size,0,none⟩) 5 5) (w.alloc (.cells #[.int .i64 c0,.int .i64 c1,.int .i64 c2,.int .i64 c3,.int .i64 c4] 3)):=By _ hrl (five_of isN isN isN isN isN);generalize w.alloc (.cells #[.int .i64 c0,.int .i64 c1,.int .i64 c2,.int .i64 c3,.int .i64 c4] 3)=W1 at hU1 hsl ⊢;have z1:=q1.2.1;refine Aj u1 d1 (by omega) (BG p1 ((q1.1 0 (by omega)).trans hf.e0)) λA2 q2 s2=>?_
 refine Ks u2 (EF rfl rfl p2 s2) ((Ao r 5 _ W1 (by omega) (by omega) hU1.rd (by omega)).mono ?_);rintro e W2 ⟨z,rfl,hz,hs⟩;refine⟨_,rfl,?_⟩;rw[d2];have z2:=q2.2.1;have q3:=E7 A2 (t+2) (.int .i64 z);have s3:(A2.put (some (t+2)) (.int .i64 z)).eval (.tmp (t+2))=_:=Ef _ _ (by omega);generalize A2.put (some (t+2)) (.int .i64 z)=A3 at q3 s3 ⊢;have z3:=q3.2.1;obtain⟨gl,hge,l1,l2,l3⟩:=HJ _ _ _ hsl hs ⟨_,hU1.rd⟩;obtain⟨j,rfl⟩:=AI hz.1;have hj:j<5:=by have:=hz.2.1 (by omega);omega
 obtain⟨u,c1,c2⟩:=l3 j hj;have hU2:=hU1.go hs.1 (hs.2 _ hU1.rd);refine Aj u3 d3 (by omega) (Ji p3 ((q3.1 t (by omega)).trans ((q2.1 t (by omega)).trans (s1.trans hge))) s3 hj) λA4 q4 s4=>?_
 have z4:=q4.2.1;refine Aj u4 d4 (by omega) (Dn p4 s4 c1) λA5 q5 s5=>?_
 have z5:=q5.2.1;have k5:=(((((Kept.refl a).one q1 ht0).one q2 (by omega)).one q3 (by omega)).one q4 (by omega)).one q5 (by omega);refine Aj u5 d5 (by omega) (Ar (by omega) p5 ((k5.1 5 (by omega)).trans hf.e5)) λA6 q6 s6=>?_
 obtain⟨v,rfl⟩:=c2;refine AP u6 3 _ _ p6 x 0 (.int .i64 v) s6 ((q6.1 _ (by omega)).trans s5) Bs rfl rfl 27 _ hU2.vx (AD rfl) ?_;intro w' hb on;rw[d6];have h3:=hU2.nx;have h1:=hU2.rn;have hne:∀e,e≠27->∀{size g n c:Nat} {xs:List Value},RowIs W2 e size g n c xs->g≠x:=λe he _ _ _ _ _ hr=>(hr.notBk hU2.vx he).symm
 refine hQ _ _ (hf.kept (k5.one q6 (by omega))) ⟨g1,k1,g2,k2,g3,k3,{B with now:=v},(on.other f hU2.fx).trans hU2.vf,hb.out,⟨hU2.row.n1,hU2.row.n2,hU2.row.n3,hU2.row.svcs.blk (on.other _ (hne _ (by decide) hU2.row.svcs)),hU2.row.cps.blk (on.other _ (hne _ (by decide) hU2.row.cps)),hU2.row.bts.blk (on.other _ (hne _ (by decide) hU2.row.bts))⟩,hU2.bz,hU2.bs,(hU2.rd.turn (by omega) on.size on.other).mono (by omega),hU2.past.trans (.of (on.below.mono h3)),h1,hU2.nf,h3,hU2.fx⟩
theorem sp_R21{o0 o1 o2 o3 o4 o5:Oper}(t F:Nat)(z:Int)(hF:F=1\/2<F)(hF':F<13)(hsh:[o0,o1,o2,o3,o4,o5].map (λo=>(o.dst,o.op,o.guard))=[(some t,.fieldAddr 27 (.tmp 5) 1,none),(some (t+1),.load 23 (.tmp t),none),(some (t+2),.move (.tmp 6),none),(some (t+3),.indexAddr 23 (.tmp (t+1)) (.tmp (t+2)),none),(some (t+4),.fieldAddr 63 (.tmp (t+3)) F,none),(none,.store 3 (.tmp (t+4)) (.const (.int .i64 z)),none)])(ht0:33<=t)(hts:t+4<284)
  {r f x s c g1 k1 g2 k2 g3 k3 id:Nat} {B:Bk} {k q:Int} {a:Act} {w0 w:World} {Q:Exit->Act->World->Prop} (hf:SpF r f x s c k a) (hu:SpU r f x g1 k1 g2 k2 g3 k3 B w0 q w) (hs:s<B.svcs.length)
  (hQ:∀a' w' s',SpF r f x s c k a'->SpU r f x g1 k1 g2 k2 g3 k3 {B with svcs:=B.svcs.set s s'} w0 q w'->Q .normal a' w'):
  (Code.region id [o0,o1,o2,o3,o4,o5].toArray false).wp Try.prog Q a w:=by
 simp only[List.map_cons,List.map_nil,List.cons.injEq,Prod.mk.injEq,and_true]at hsh;obtain⟨⟨d0,p0,u0⟩,⟨d1,p1,u1⟩,⟨d2,p2,u2⟩,⟨d3,p3,u3⟩,⟨d4,p4,u4⟩,d5,p5,u5⟩:=hsh;have hsz:=hf.sz;refine wp_region_lit (Aj u0 d0 (by omega) (Ar (by omega) p0 hf.e5) λA1 q1 s1=>?_);have z1:=q1.2.1;refine Aj u1 d1 (by omega) (E9 p1 s1 (AK hu.vx 1 rfl)) λA2 q2 s2=>?_
 have z2:=q2.2.1;have k2:=((Kept.refl a).one q1 ht0).one q2 (by omega);refine Aj u2 d2 (by omega) (BG p2 ((k2.1 6 (by omega)).trans hf.e6)) λA3 q3 s3=>?_
 have z3:=q3.2.1;refine Aj u3 d3 (by omega) (EV p3 ((q3.1 _ (by omega)).trans s2) s3 hs) λA4 q4 s4=>?_
 have z4:=q4.2.1;refine Aj u4 d4 (by omega) (Fo hF' p4 s4) λA5 q5 s5=>?_
 have k5:=((k2.one q3 (by omega)).one q4 (by omega)).one q5 (by omega);refine At u5 3 _ _ p5 g1 (s*13+F) (.int .i64 z) s5 rfl Bs rfl rfl 63 13 _ _ _ hu.row.svcs (Ff hs hF') ?_;intro w' hr on;rw[d5];obtain⟨y,hy⟩:∃y,B.svcs[s]?=some y:=⟨B.svcs[s],by simp[hs]⟩;obtain⟨z1,z2,z3,z4,z5,z6⟩:=hu.bz;obtain⟨y',e1,e2⟩:=Cl hF hF' y _ ⟨z,rfl⟩ (z4 y (AE hy));have hr':=hr.out;rw[show splice (AU B.svcs) (s*13+F) [.int .i64 z]=AU (B.svcs.set s y') from Ay (c:=Svc.cells) (n:=13) (λ_=>rfl) _ s F y y' _ hy hF' e1]at hr';have h1:=hu.rn;have h2:=hu.row.n1;refine hQ _ _ y' (hf.kept k5) ⟨(on.other f (hu.row.svcs.notBk hu.vf (by decide))).trans hu.vf,?_,⟨h2,hu.row.n2,hu.row.n3,by rw[List.length_set];exact hr',hu.row.cps.blk (on.other _ hu.row.ne12.symm),hu.row.bts.blk (on.other _ hu.row.ne13.symm)⟩,⟨by rw[List.length_set];exact z1,z2,z3,?_,z5,z6⟩,⟨by rw[List.length_set];exact hu.bs.1,hu.bs.2⟩,hu.rd.turn (by omega) on.size on.other,hu.past.trans (.of (on.below.mono h2)),h1,hu.nf,hu.nx,hu.fx⟩
 ·rw[on.other x (hu.row.svcs.notBk hu.vx (by decide)),hu.vx,List.length_set]
 ·intro t ht
  rcases List.mem_or_eq_of_mem_set ht with ht|rfl
  ·exact z4 t ht
  ·exact e2
def SpIs(r:Nat)(q:Int)(w:World)(e:Ending)(w':World):Prop:=∃(a1 a2 a3:Option Addr) (c1 c2 c3:Nat) (B:Bk),e=.returned (.agg (bkV B a1 c1 a2 c2 a3 c3))/\BkAt w' a1 a2 a3 B/\B.cps.length<=c2/\B.sized/\B.small/\Past r w.heap.size w w'/\Rd r w' q
theorem Ck{o0 o1:Oper}{fn:Func}(hfn:fn.results=#[.cell 4 27])(hsh:[o0,o1].map (λo=>(o.dst,o.op,o.guard))=[(some 283,.load 27 (.tmp 5),none),(none,.store 27 (.tmp 4) (.tmp 283),none)])
  {r f x s c id:Nat} {k q:Int} {a:Act} {w0 w:World} (hf:SpF r f x s c k a) (hw:SpW r f x w0 q w):(Code.seq (Code.region id [o0,o1].toArray false) .ret).wp Try.prog (bodyPost Try.prog fn (SpIs r q w0)) a w:=by
 simp only[List.map_cons,List.map_nil,List.cons.injEq,Prod.mk.injEq,and_true]at hsh;obtain⟨⟨d0,p0,u0⟩,d1,p1,u1⟩:=hsh;obtain⟨g1,k1,g2,k2,g3,k3,B,hu⟩:=hw;have hsz:=hf.sz;have h1:=hu.rn;have h2:=hu.nf;refine wp_seq (wp_region_lit (wpList_load_row u0 27 (.tmp 5) p0 x hf.e5 27 _ (0,0) _ hu.vx Try.underlying27 rfl AT ?_));rw[d0];refine AM u1 27 _ _ p1 f 0 (bkV B (ad g1) k1 (ad g2) k2 (ad g3) k3) ((JQ _ _ (by omega)).trans hf.e4) (Ef _ _ (by omega)) 27 _ hu.vf AT (AD rfl) (by simp[Value.oneCell']) ?_;intro w' hz on;rw[d1];have hne:∀e,e≠27->∀{size g n c:Nat} {xs:List Value},RowIs w e size g n c xs->g≠f:=λe he _ _ _ _ _ hr=>(hr.notBk hu.vf he).symm
 refine wp_ret (bodyPost_ret (results_cell_row hfn _ w' f 27 (bkV B (ad g1) k1 (ad g2) k2 (ad g3) k3) (0,0) _ ((JQ a _ (show 283≠4 by omega)).trans hf.e4) hz.out Try.underlying27 rfl AT) ((Eg _ _ _).trans hf.df) ?_);have hrow:BkRow w' w0.heap.size g1 g2 g3 k1 k2 k3 B:=⟨hu.row.n1,hu.row.n2,hu.row.n3,hu.row.svcs.blk (on.other _ (hne _ (by decide) hu.row.svcs)),hu.row.cps.blk (on.other _ (hne _ (by decide) hu.row.cps)),hu.row.bts.blk (on.other _ (hne _ (by decide) hu.row.bts))⟩;exact⟨_,_,_,k1,k2,k3,B,rfl,hrow.at,hu.row.cps.2.1,hu.bz,hu.bs,hu.past.trans (.of (on.below.mono h2)),hu.rd.turn (by omega) on.size on.other⟩
theorem nil_book:(⟨-1,[],[],[]⟩:Bk).sized/\(⟨-1,[],[],[]⟩:Bk).small:=⟨⟨AJ _,AJ _,AJ _,(λ_ h=>by cases h),(λ_ h=>by cases h),(λ_ h=>by cases h)⟩,AJ _,AJ _,AJ _⟩
theorem Cj{r f x:Nat}{w0 w:World}{q q':Int}(h:SpW r f x w0 q w)(hq:q<=q'):SpW r f x w0 q' w:=let ⟨g1,k1,g2,k2,g3,k3,B,hu⟩:=h;⟨g1,k1,g2,k2,g3,k3,B,hu.mono hq⟩
theorem OL(r:Nat)(q:Int)(B:Bk)(a1 a2 a3:Option Addr)(c1 c2 c3:Nat)(w:World)(ht:B.tiny)(hZ:B.sized)(hB:BkAt w a1 a2 a3 B)(hR:Rd r w q)(hq:q<=800000000000):
  Calls Try.prog 50 #[.pointer (ad r),.agg (bkV B a1 c1 a2 c2 a3 c3)] w λe w'=>SpIs r (q+100) w e w':=by
 have hlt:=hR.lt
 obtain⟨W0,hW0,t0,t1,hz0,hb0⟩:∃W0,(w.alloc (.cells (bkV B a1 c1 a2 c2 a3 c3) 27)).alloc (.cells zbV 27)=W0/\Bl W0 (w.heap.size) (bkV B a1 c1 a2 c2 a3 c3) 27/\Bl W0 (w.heap.size+1) zbV 27/\W0.heap.size=w.heap.size+1+1/\Below w.heap.size w W0:=by
  obtain⟨h1,h2,h3⟩:=Bh w (.cells (bkV B a1 c1 a2 c2 a3 c3) 27) (.cells zbV 27);exact⟨_,rfl,h1,h2,h3,(AO w _).alloc (by show w.heap.size<=(w.heap.push _).size;simp) _⟩
 have T0:Hid _:=t0;have T1:Hid _:=t1;have HB0:Hid (BkAt W0 a1 a2 a3 B):=hB.below hb0;have HR0:Hid (Rd r W0 q):=hR.below hb0;have HP0:Hid (Below w.heap.size w W0):=hb0;have HT:Hid (B.tiny):=ht;have HZ:Hid (B.sized):=hZ;have ts1:=ht.1;have ts2:=ht.2.1;obtain⟨b0,hx0⟩:∃x,w.heap.size=x:=⟨_,rfl⟩;obtain⟨f,hf0⟩:∃f,b0+1=f:=⟨_,rfl⟩;have hfb:b0+1<=f:=by omega
 have hfb':f<=b0+1:=by omega
 have hwb:w.heap.size<=b0:=by omega
 clear t0 t1 hB hR hb0 hZ ht;go_enter Try.func50,Try.ntmps50
 go_upto_region 1 with fail
 rw[hx0]at T0 T1;rw[hf0]at T1;clear hW0;have hsz0:W0.heap.size<=f+1:=by omega
 have hsz1:f<W0.heap.size:=by omega
 clear hz0;obtain⟨y0,y1,y2,y3⟩:=c4 T0.out
 go_upto_region 2 with(first
  |(go_at_call 77;refine(CP B a1 a2 a3 c1 c2 c3 _ HT.out.small HB0.out).mono ?_;rintro e w1 ⟨g1,k1,g2,k2,g3,k3,rfl,hk,hb1⟩;have HK:Hid _:=hk;have HB1:Hid (Below W0.heap.size W0 w1):=hb1;have VX:Hid ((w1.alloc (.cells zbV 27)).heap[w1.heap.size]?=some (.cells zbV 27 (0,0))):=heap_alloc_new w1 _;clear hk hb1)
  |((with_reducible show wpList _ _ _ _ _ _);refine AM rfl 27 (.tmp 5) (.tmp 9) rfl w1.heap.size 0 (bkV B (ad g1) k1 (ad g2) k2 (ad g3) k3) rfl rfl 27 zbV VX.out AT (AD rfl) (by simp[Value.oneCell']) ?_;intro w2 hz on;simp only[Act.put]))
 have J0:Hid (SpU r f w1.heap.size g1 k1 g2 k2 g3 k3 B w q w2):=by
  have hl0:=(AB T1.out).1;have hbb:Below w1.heap.size w1 (w1.alloc (.cells zbV 27)):=AO _ _;have hs1:=HB1.out.size;have hn:∀k,k<w1.heap.size->w2.heap[k]?=w1.heap[k]?:=λk hk=>(on.other k (by omega)).trans (hbb.block k hk)
  have h0:=HP0.out.size;refine⟨(hn f (by omega)).trans (AL HB1.out T1.out hl0),hz.out,⟨AH h0 HK.out.n1,AH h0 HK.out.n2,AH h0 HK.out.n3,HK.out.svcs.blk (hn _ HK.out.svcs.lt),HK.out.cps.blk (hn _ HK.out.cps.lt),HK.out.bts.blk (hn _ HK.out.bts.lt)⟩,HZ.out,HT.out.small,((HR0.out.below HB1.out).below hbb).turn (by have:=(HR0.out.below HB1.out).lt;omega) on.size on.other,.of ⟨?_,?_,?_,?_,?_⟩,hlt,by omega,by omega,by omega⟩
  ·exact on.below.os.trans (hbb.os.trans (HB1.out.os.trans HP0.out.os))
  ·exact on.below.tape.trans (hbb.tape.trans (HB1.out.tape.trans HP0.out.tape))
  ·exact on.below.output.trans (hbb.output.trans (HB1.out.output.trans HP0.out.output))
  ·have:=Nat.le_trans hbb.size (Nat.le_of_eq on.size.symm);omega
  ·exact λk hk=>(hn k (by omega)).trans ((HB1.out.block k (by omega)).trans (HP0.out.block k hk))
 obtain⟨x,hx⟩:∃x,w1.heap.size=x:=⟨_,rfl⟩;rw[hx]at J0 ⊢;clear y0 y1 y2 y3 VX HB1 HK HB0 HR0 T0 T1 hz on hx HP0;have e1:=AK J0.out.vx 1 rfl
 go_upto_region 3 with(go_at_call 21;refine(Ao r (B.svcs.length:Int) _ _ (by omega) (by omega) J0.out.rd (by omega)).mono ?_;rintro e w3 ⟨ks,rfl,hk,hs⟩;have J1:Hid _:=J0.out.go hs.1 (hs.2 _ J0.out.rd);have Hks:Hid _:=hk;clear hk hs)
 clear e1;have e2:=AK J1.out.vx 2 rfl
 go_upto_region 4 with(go_at_call 21;refine(Ao r (B.cps.length:Int) _ _ (by omega) (by omega) J1.out.rd (by omega)).mono ?_;rintro e w4 ⟨kc,rfl,hk,hs⟩;have J2:Hid _:=J1.out.go hs.1 (hs.2 _ J1.out.rd);have Hkc:Hid _:=hk;clear hk hs)
 clear e2;have e1:=AK J2.out.vx 1 rfl;have e2:=AK J2.out.vx 2 rfl
 by_cases h1:B.svcs.length=0
 ·have hlb:((B.svcs.length:Int)==0)=true:=by simp[h1]
  go_wp2_with ((with_reducible show wpList _ _ _ _ _ _);refine AM rfl 27 (.tmp 4) (.tmp 30) rfl f 0 #[.int .i64 (-1),.slice none 0 0,.slice none 0 0,.slice none 0 0] rfl rfl 27 zbV J2.out.vf AT (AD rfl) (by simp[Value.oneCell']) ?_;intro wz hz on;simp only[Act.put])
  refine bodyPost_ret (results_cell_row rfl _ wz f 27 #[.int .i64 (-1),.slice none 0 0,.slice none 0 0,.slice none 0 0] (0,0) _ rfl hz.out Try.underlying27 rfl AT) rfl ?_;exact⟨none,none,none,0,0,0,⟨-1,[],[],[]⟩,rfl,⟨λh=>absurd rfl h,λh=>absurd rfl h,λh=>absurd rfl h⟩,AJ _,nil_book.1,nil_book.2,J2.out.past.trans (.of (on.below.mono J2.out.nf)),(J2.out.rd.turn (by have:=J2.out.rn;have:=J2.out.nf;omega) on.size on.other).mono (by omega)⟩
 by_cases h2:B.cps.length=0
 ·have hlb:((B.svcs.length:Int)==0)=false:=by rw[beq_eq_false_iff_ne];omega
  have hlc:((B.cps.length:Int)==0)=true:=by simp[h2]
  go_wp2_with ((with_reducible show wpList _ _ _ _ _ _);refine AM rfl 27 (.tmp 4) (.tmp 30) rfl f 0 #[.int .i64 (-1),.slice none 0 0,.slice none 0 0,.slice none 0 0] rfl rfl 27 zbV J2.out.vf AT (AD rfl) (by simp[Value.oneCell']) ?_;intro wz hz on;simp only[Act.put])
  refine bodyPost_ret (results_cell_row rfl _ wz f 27 #[.int .i64 (-1),.slice none 0 0,.slice none 0 0,.slice none 0 0] (0,0) _ rfl hz.out Try.underlying27 rfl AT) rfl ?_;exact⟨none,none,none,0,0,0,⟨-1,[],[],[]⟩,rfl,⟨λh=>absurd rfl h,λh=>absurd rfl h,λh=>absurd rfl h⟩,AJ _,nil_book.1,nil_book.2,J2.out.past.trans (.of (on.below.mono J2.out.nf)),(J2.out.rd.turn (by have:=J2.out.rn;have:=J2.out.nf;omega) on.size on.other).mono (by omega)⟩
 have hlb:((B.svcs.length:Int)==0)=false:=by rw[beq_eq_false_iff_ne];omega
 have hlc:((B.cps.length:Int)==0)=false:=by rw[beq_eq_false_iff_ne];omega
 obtain⟨s,rfl⟩:=AI Hks.out.1;obtain⟨c,rfl⟩:=AI Hkc.out.1;have hs:s<B.svcs.length:=by have:=Hks.out.2.1 (by omega);omega
 have hc:c<B.cps.length:=by have:=Hkc.out.2.1 (by omega);omega
 go_upto_block 0 with(go_at_call 21;refine(Ao r 20 _ _ (by omega) (by omega) J2.out.rd (by omega)).mono ?_;rintro e w5 ⟨kk,rfl,hk,hs⟩;have J3:Hid _:=J2.out.go hs.1 (hs.2 _ J2.out.rd);have Hkk:Hid _:=hk;clear hk hs)
 refine Ea (SpF r f x s c kk) ⟨rfl,rfl,rfl,rfl,rfl,rfl,rfl,rfl⟩ λa hf=>?_
 have hu:=J3.out;have ht:=HT.out;have hq:q+((1:Nat):Int)+((1:Nat):Int)+((1:Nat):Int)<=900000000000:=by omega
 clear J0 J1 J2 J3 e1 e2 hlb hlc Hkk Hks Hkc;refine wp_block ?_;rename_i KK hKK;refine wp_seq (CH 45 0 rfl (by decide) (by decide) hf λa hf hb=>wp_cond_split hb (λ_=>?_) λ_=>?_)
 ·exact sp_R9 47 _ _ _ _ _ rfl (by decide) (by decide) hf hu hq (λa' w' h1 h2=>hKK a' w' (Ck rfl rfl h1 (Cj h2 (by omega))))
 clear hb;refine wp_seq (CH 53 1 rfl (by decide) (by decide) hf λa hf hb=>wp_cond_split hb (λ_=>?_) λ_=>?_)
 ·exact FJ (tysSS (by decide)) ON (by decide) 55 3 _ (by decide) (by decide) rfl (by kernel_rfl) (by kernel_rfl) (by decide) (by decide) (λA W K hr hK=>by
          go_wp2
          exact hK.out _ _ (AO _ _) (By _ hr (CT Ci Ci Ci))) hf hu hq hs (λa' w' h1 h2=>hKK a' w' (Ck rfl rfl h1 (Cj h2 (by omega))))
 clear hb;refine wp_seq (CH 65 2 rfl (by decide) (by decide) hf λa hf hb=>wp_cond_split hb (λ_=>?_) λ_=>?_)
 ·exact sp_R13 67 rfl (by kernel_rfl) (by kernel_rfl) (by decide) (by decide) hf hu hq hs (λa' w' h1 h2=>hKK a' w' (Ck rfl rfl h1 (Cj h2 (by omega))))
 clear hb;refine wp_seq (CH 82 3 rfl (by decide) (by decide) hf λa hf hb=>wp_cond_split hb (λ_=>?_) λ_=>?_)
 ·exact FJ (G7 (by decide)) (Cl (by decide) (by decide)) (by decide) 84 3 _ (by decide) (by decide) rfl (by kernel_rfl) (by kernel_rfl) (by decide) (by decide) (λA W K hr hK=>by
          go_wp2
          exact hK.out _ _ (AO _ _) (By _ hr (CT isN isN isN))) hf hu hq hs (λa' w' h1 h2=>hKK a' w' (Ck rfl rfl h1 (Cj h2 (by omega))))
 clear hb;refine wp_seq (CH 94 4 rfl (by decide) (by decide) hf λa hf hb=>wp_cond_split hb (λ_=>?_) λ_=>?_)
 ·exact FJ (G7 (by decide)) (Cl (by decide) (by decide)) (by decide) 96 3 _ (by decide) (by decide) rfl (by kernel_rfl) (by kernel_rfl) (by decide) (by decide) (λA W K hr hK=>by
          go_wp2
          exact hK.out _ _ (AO _ _) (By _ hr (CT isN isN isN))) hf hu hq hs (λa' w' h1 h2=>hKK a' w' (Ck rfl rfl h1 (Cj h2 (by omega))))
 clear hb;refine wp_seq (CH 106 5 rfl (by decide) (by decide) hf λa hf hb=>wp_cond_split hb (λ_=>?_) λ_=>?_)
 ·exact FJ (G7 (by decide)) (Cl (by decide) (by decide)) (by decide) 108 3 _ (by decide) (by decide) rfl (by kernel_rfl) (by kernel_rfl) (by decide) (by decide) (λA W K hr hK=>by
          go_wp2
          exact hK.out _ _ (AO _ _) (By _ hr (CT isN isN isN))) hf hu hq hs (λa' w' h1 h2=>hKK a' w' (Ck rfl rfl h1 (Cj h2 (by omega))))
 clear hb;refine wp_seq (CH 118 6 rfl (by decide) (by decide) hf λa hf hb=>wp_cond_split hb (λ_=>?_) λ_=>?_)
 ·refine wp_seq (sp_R21 120 5 0 (by decide) (by decide) rfl (by decide) (by decide) hf hu hs λa w s' hf hu=>?_)
  have hs:s<({B with svcs:=B.svcs.set s s'}:Bk).svcs.length:=by show s<(B.svcs.set s s').length;rw[List.length_set];exact hs
  exact FJ (G7 (by decide)) (Cl (by decide) (by decide)) (by decide) 125 3 _ (by decide) (by decide) rfl (by kernel_rfl) (by kernel_rfl) (by decide) (by decide) (λA W K hr hK=>by
          go_wp2
          exact hK.out _ _ (AO _ _) (By _ hr (CT isN isN isN))) hf hu hq hs (λa' w' h1 h2=>hKK a' w' (Ck rfl rfl h1 (Cj h2 (by omega))))
 clear hb;refine wp_seq (CH 135 7 rfl (by decide) (by decide) hf λa hf hb=>wp_cond_split hb (λ_=>?_) λ_=>?_)
 ·exact FJ (G7 (by decide)) (Cl (by decide) (by decide)) (by decide) 137 4 _ (by decide) (by decide) rfl (by kernel_rfl) (by kernel_rfl) (by decide) (by decide) (λA W K hr hK=>by
          go_wp2
          exact hK.out _ _ (AO _ _) (By _ hr (It isN isN isN isN))) hf hu hq hs (λa' w' h1 h2=>hKK a' w' (Ck rfl rfl h1 (Cj h2 (by omega))))
 clear hb;refine wp_seq (CH 147 8 rfl (by decide) (by decide) hf λa hf hb=>wp_cond_split hb (λ_=>?_) λ_=>?_)
 ·exact FJ (G7 (by decide)) (Cl (by decide) (by decide)) (by decide) 149 4 _ (by decide) (by decide) rfl (by kernel_rfl) (by kernel_rfl) (by decide) (by decide) (λA W K hr hK=>by
          go_wp2
          exact hK.out _ _ (AO _ _) (By _ hr (It isN isN isN isN))) hf hu hq hs (λa' w' h1 h2=>hKK a' w' (Ck rfl rfl h1 (Cj h2 (by omega))))
 clear hb;refine wp_seq (CH 159 9 rfl (by decide) (by decide) hf λa hf hb=>wp_cond_split hb (λ_=>?_) λ_=>?_)
 ·exact FJ (G7 (by decide)) (Cl (by decide) (by decide)) (by decide) 161 3 _ (by decide) (by decide) rfl (by kernel_rfl) (by kernel_rfl) (by decide) (by decide) (λA W K hr hK=>by
          go_wp2
          exact hK.out _ _ (AO _ _) (By _ hr (CT isN isN isN))) hf hu hq hs (λa' w' h1 h2=>hKK a' w' (Ck rfl rfl h1 (Cj h2 (by omega))))
 clear hb;refine wp_seq (CH 171 10 rfl (by decide) (by decide) hf λa hf hb=>wp_cond_split hb (λ_=>?_) λ_=>?_)
 ·exact FJ (G7 (by decide)) (Cl (by decide) (by decide)) (by decide) 173 4 _ (by decide) (by decide) rfl (by kernel_rfl) (by kernel_rfl) (by decide) (by decide) (λA W K hr hK=>by
          go_wp2
          exact hK.out _ _ (AO _ _) (By _ hr (It isN isN isN isN))) hf hu hq hs (λa' w' h1 h2=>hKK a' w' (Ck rfl rfl h1 (Cj h2 (by omega))))
 clear hb;refine wp_seq (CH 183 11 rfl (by decide) (by decide) hf λa hf hb=>wp_cond_split hb (λ_=>?_) λ_=>?_)
 ·exact FJ (G7 (by decide)) (Cl (by decide) (by decide)) (by decide) 185 3 _ (by decide) (by decide) rfl (by kernel_rfl) (by kernel_rfl) (by decide) (by decide) (λA W K hr hK=>by
          go_wp2
          exact hK.out _ _ (AO _ _) (By _ hr (CT isN isN isN))) hf hu hq hs (λa' w' h1 h2=>hKK a' w' (Ck rfl rfl h1 (Cj h2 (by omega))))
 clear hb;refine wp_seq (CH 195 12 rfl (by decide) (by decide) hf λa hf hb=>wp_cond_split hb (λ_=>?_) λ_=>?_)
 ·exact Nj (tysSC (by decide)) LP (by decide) 197 2 _ (by decide) (by decide) rfl (by kernel_rfl) (by kernel_rfl) (by decide) (by decide) (λA W K hr hK=>by
          go_wp2
          exact hK.out _ _ (AO _ _) (By _ hr (Mt Ci Ci))) hf hu hq hc (λa' w' h1 h2=>hKK a' w' (Ck rfl rfl h1 (Cj h2 (by omega))))
 clear hb;refine wp_seq (CH 207 13 rfl (by decide) (by decide) hf λa hf hb=>wp_cond_split hb (λ_=>?_) λ_=>?_)
 ·exact Nj (tysNC (by decide)) (JG (by decide) (by decide)) (by decide) 209 2 _ (by decide) (by decide) rfl (by kernel_rfl) (by kernel_rfl) (by decide) (by decide) (λA W K hr hK=>by
          go_wp2
          exact hK.out _ _ (AO _ _) (By _ hr (Mt isN isN))) hf hu hq hc (λa' w' h1 h2=>hKK a' w' (Ck rfl rfl h1 (Cj h2 (by omega))))
 clear hb;refine wp_seq (CH 219 14 rfl (by decide) (by decide) hf λa hf hb=>wp_cond_split hb (λ_=>?_) λ_=>?_)
 ·exact Nj (tysNC (by decide)) (JG (by decide) (by decide)) (by decide) 221 4 _ (by decide) (by decide) rfl (by kernel_rfl) (by kernel_rfl) (by decide) (by decide) (λA W K hr hK=>by
          go_wp2
          exact hK.out _ _ (AO _ _) (By _ hr (It isN isN isN isN))) hf hu hq hc (λa' w' h1 h2=>hKK a' w' (Ck rfl rfl h1 (Cj h2 (by omega))))
 clear hb;refine wp_seq (CH 231 15 rfl (by decide) (by decide) hf λa hf hb=>wp_cond_split hb (λ_=>?_) λ_=>?_)
 ·exact Nj (tysSC (by decide)) Mz (by decide) 233 3 _ (by decide) (by decide) rfl (by kernel_rfl) (by kernel_rfl) (by decide) (by decide) (λA W K hr hK=>by
          go_wp2
          exact hK.out _ _ (AO _ _) (By _ hr (CT Ci Ci Ci))) hf hu hq hc (λa' w' h1 h2=>hKK a' w' (Ck rfl rfl h1 (Cj h2 (by omega))))
 clear hb;refine wp_seq (CH 243 16 rfl (by decide) (by decide) hf λa hf hb=>wp_cond_split hb (λ_=>?_) λ_=>?_)
 ·exact sp_R42 245 rfl (by kernel_rfl) (by kernel_rfl) (by decide) (by decide) (by kernel_rfl) (by kernel_rfl) (by kernel_rfl) hf hu hq hc ht.2.1 (λa' w' h1 h2=>hKK a' w' (Ck rfl rfl h1 (Cj h2 (by omega))))
 clear hb;refine wp_seq (CH 255 17 rfl (by decide) (by decide) hf λa hf hb=>wp_cond_split hb (λ_=>?_) λ_=>?_)
 ·exact sp_R44 257 _ _ _ rfl (by kernel_rfl) (by kernel_rfl) (by decide) (by decide) (by kernel_rfl) (by kernel_rfl) (by kernel_rfl) (by decide) (by decide) (by decide) hf hu hq hc ht.2.2 (λa' w' h1 h2=>hKK a' w' (Ck rfl rfl h1 (Cj h2 (by omega))))
 clear hb;refine wp_seq (CH 268 18 rfl (by decide) (by decide) hf λa hf hb=>wp_cond_split hb (λ_=>?_) λ_=>?_)
 ·exact sp_R46 270 rfl (by kernel_rfl) (by kernel_rfl) (by decide) (by decide) hf hu hq hc (λa' w' h1 h2=>hKK a' w' (Ck rfl rfl h1 (Cj h2 (by omega))))
 clear hb;exact sp_R7 33 rfl (by kernel_rfl) (by kernel_rfl) (by decide) (by decide) hf hu hq hc (λa' w' h1 h2=>hKK a' w' (Ck rfl rfl h1 (Cj h2 (by omega))))
end
end Go.Proofs.Ytbceafpodamnfaa
