import Derived.Test.YtbceafpodamnfaaGreatDoorG32
import Derived.Test.YtbceafpodamnfaaGreatDoorG40
set_option linter.all false
set_option maxHeartbeats 4000000
set_option maxRecDepth 100000
namespace Go.Proofs.YtbceafpodamnfaaGreatDoor
section
open Go.RowKit Go.Sort
theorem BkAt.aZ{w w':World}{a1 a2 a3:qO}{B:Bk}(h:BkAt w a1 a2 a3 B)(hz:w.heap.size<=w'.heap.size)(hk:∀b o,(a1=some ⟨b,o,none⟩\/a2=some ⟨b,o,none⟩\/a3=some ⟨b,o,none⟩)->b<w.heap.size->w'.heap[b]?=w.heap[b]?):BkAt w' a1 a2 a3 B:=by
 refine⟨λJ=>?_,λJ=>?_,λJ=>?_⟩
 ·obtain⟨b,off,e,F,H⟩:=h.1 J
  have M:∀o,w'.cell? ⟨b,o,none⟩=w.cell? ⟨b,o,none⟩:=λo=>eF (w:=w) (hk b off (.inl e) F)
  refine⟨b,off,e,AF F hz,λi s Z=>?_⟩;have Y:=H i s Z;unfold SvcAt at *;simp only[M];exact Y
 ·obtain⟨b,off,e,F,H⟩:=h.2.1 J
  have M:∀o,w'.cell? ⟨b,o,none⟩=w.cell? ⟨b,o,none⟩:=λo=>eF (w:=w) (hk b off (.inr (.inl e)) F)
  refine⟨b,off,e,AF F hz,λi s Z=>?_⟩;have Y:=H i s Z;unfold CpAt at *;simp only[M];exact Y
 ·obtain⟨b,off,e,F,H⟩:=h.2.2 J
  have M:∀o,w'.cell? ⟨b,o,none⟩=w.cell? ⟨b,o,none⟩:=λo=>eF (w:=w) (hk b off (.inr (.inr e)) F)
  refine⟨b,off,e,AF F hz,λi s Z=>?_⟩;have Y:=H i s Z;unfold BtAt at *;simp only[M];exact Y
theorem CY{P:Program}{ops:Array Oper}{Q:Exit->Act->World->Prop}{o:Oper}{rest:List Oper}{A:Act}{W W':World}{v:Value}(J:o.guard=none)(H:(execOp A.eval o).run P W=.ok (.value v) W')(h:wpList P ops Q rest (A.put o.dst v) W'):wpList P ops Q (o::rest) A W:=by
 refine fA J λM F=>?_
 unfold Oper.wp;rw[H];exact F _ _ h
theorem Ea{P:Program}{ops:Array Oper}{Q:Exit->Act->World->Prop}{o:Oper}{rest:List Oper}{A:Act}{W:World}{f:FuncId}{args:Array Value}(J:o.guard=none)(H:(execOp A.eval o).run P W=.ok (.enter f args) W)(h:Calls P f args W λe w'=>∃v,e=.returned v/\wpList P ops Q rest (A.put o.dst v) w'):wpList P ops Q (o::rest) A W:=by
 refine fA J λM F=>?_
 unfold Oper.wp;rw[H];refine h.mono ?_;rintro e w' ⟨v,rfl,h⟩;exact F _ _ h
theorem Bq(A:Act){d:Nat}(v:Value)(h:d<A.tmps.size):(A.put (some d) v).eval (.tmp d)=v:=IL A v h
theorem B5(A:Act){d e:Nat}(v:Value)(h:d≠e):(A.put (some d) v).eval (.tmp e)=A.eval (.tmp e):=EQ _ _ λF=>h (dg F)
structure EC(r z f x y:Nat)(a:Act):Prop where
 eb:EB f (f+1) x y a
 e4:a.eval (.tmp 4)=.pointer (some ⟨r,0,none⟩)
 e5:a.eval (.tmp 5)=.pointer (some ⟨z,0,none⟩)
theorem EC.put{r z f x y:Nat}{a:Act}(h:EC r z f x y a){d:Nat}(v:Value)(F:8<=d):EC r z f x y (a.put (some d) v):=⟨h.eb.put v F,(B5 _ _ (by omega)).trans h.e4,(B5 _ _ (by omega)).trans h.e5⟩
structure S5(w:World)(r x y s:Nat)(q:Int)(W:World)(B:Bk)(a1 a2 a3:qO)(c1 c2 c3:Nat)(A:Ac)(ae:qO)(ce:Nat):Prop where
 cB:w.heap.size+1<r/\r<x/\x<s/\s<=y
 rd:Rd r W q
 sz:s<=W.heap.size
 vf:W.heap[w.heap.size]?=some (.cells zB 28 (0,0))
 cN:W.heap[w.heap.size+1]?=some (.cells zA 45 (0,0))
 vx:W.heap[x]?=some (.cells #[.int .i64 B.aj,.slice a1 B.af.length c1,.slice a2 B.ah.length c2,.slice a3 B.ak.length c3] 28 (0,0))
 bk:BkAt W a1 a2 a3 B
 ok:okSp B
 nb:∀b o,(a1=some ⟨b,o,none⟩\/a2=some ⟨b,o,none⟩\/a3=some ⟨b,o,none⟩)->r<b/\b≠x/\b≠y
 vy:W.heap[y]?=some (.cells #[.string A.aa,.int .i64 A.aF,.int .i64 A.am,.int .i64 A.av,.int .i64 A.ay,.bool A.az,.slice ae A.aw.length ce,.bool A.drop] 45 (0,0))
 en:SlEn s W ae ce A.aw
 ne:∀b,RowOf a1 a2 a3 B b->ae≠some ⟨b,0,none⟩
 kp:W.os=w.os/\W.tape=w.tape/\W.output=w.output/\∀k,k<w.heap.size->W.heap[k]?=w.heap[k]?
theorem BkAt.ck{W:World}{a1 a2 a3:qO}{B:Bk}(h:BkAt W a1 a2 a3 B){b:Nat}(hb:RowOf a1 a2 a3 B b):b<W.heap.size:=by
 rcases hb with⟨o,e,J⟩|⟨o,e,J⟩|⟨o,e,J⟩
 ·obtain⟨M,_,H,F,_⟩:=h.1 J
  rw[e]at H;cases H;exact F
 ·obtain⟨M,_,H,F,_⟩:=h.2.1 J
  rw[e]at H;cases H;exact F
 ·obtain⟨M,_,H,F,_⟩:=h.2.2 J
  rw[e]at H;cases H;exact F
theorem SlEn.lo{s ce:Nat}{W:World}{ae:qO}{l:List En}(h:SlEn s W ae ce l){g:Nat}(e:ae=some ⟨g,0,none⟩):s<=g/\g<W.heap.size:=by
 rcases h with⟨h,_⟩|⟨J,h,H,F⟩
 ·rw[h]at e;cases e
 ·rw[h]at e;cases e;exact⟨H,F.lt⟩
theorem RowOf.in{a1 a2 a3:qO}{B:Bk}{b:Nat}(h:RowOf a1 a2 a3 B b):∃o,a1=some ⟨b,o,none⟩\/a2=some ⟨b,o,none⟩\/a3=some ⟨b,o,none⟩:=by
 rcases h with⟨o,e,_⟩|⟨o,e,_⟩|⟨o,e,_⟩
 ·exact⟨o,.inl e⟩
 ·exact⟨o,.inr (.inl e)⟩
 ·exact⟨o,.inr (.inr e)⟩
theorem SlEn.bu{s J ce:Nat}{W W':World}{ae:qO}{l:List En}(h:SlEn s W ae ce l)(Y:J<=s)(hk:∀g,s<=g->g<W.heap.size->(∃F,W.heap[g]?=some (.cells F 88 (0,0)))->W'.heap[g]?=W.heap[g]?):SlEn J W' ae ce l:=h.imp id λ⟨g,h1,M,H⟩=>⟨g,h1,AH Y M,H.aR (hk g M H.lt (by obtain⟨_,_,F,Z,_⟩:=H;exact⟨F,Z⟩))⟩
section
variable {w W W':World} {r x y s c:Nat} {q:Int} {B:Bk} {a1 a2 a3:qO} {c1 c2 c3:Nat} {A:Ac} {ae:qO} {ce:Nat}
theorem S5.aP{q':Int}(h:S5 w r x y s q W B a1 a2 a3 c1 c2 c3 A ae ce)(F:Past r W.heap.size W W')(M:Rd r W' q'):S5 w r x y s q' W' B a1 a2 a3 c1 c2 c3 A ae ce:=by
 obtain⟨Z,o2,o3,o4⟩:=h.cB;have J:=h.sz;have b:∀{k:Nat} {v:Obj},W.heap[k]?=some v->k≠r->W'.heap[k]?=some v:=λhv H=>(F.block _ (AB hv).1 H).trans hv
 exact⟨h.cB,M,AH J F.size,b h.vf (by omega),b h.cN (by omega),b h.vx (by omega),h.bk.aP h.rd F,h.ok,h.nb,b h.vy (by omega),h.en.bu (AG _) λg hg Y _=>F.block g Y (by omega),h.ne,F.os.trans h.kp.1,F.tape.trans h.kp.2.1,F.output.trans h.kp.2.2.1,λk hk=>(F.block k (by omega) (by omega)).trans (h.kp.2.2.2 k hk)⟩
theorem S5.step(h:S5 w r x y s q W B a1 a2 a3 c1 c2 c3 A ae ce)(F:RStep r c W W'):S5 w r x y s (q+c) W' B a1 a2 a3 c1 c2 c3 A ae ce:=h.aP F.1 (F.2 _ h.rd)
theorem S5.setY{F:Ac}{H:qO}{J:Nat}(h:S5 w r x y s q W B a1 a2 a3 c1 c2 c3 A ae ce)(on:A6 y W W')(vy:W'.heap[y]?=some (.cells #[.string F.aa,.int .i64 F.aF,.int .i64 F.am,.int .i64 F.av,.int .i64 F.ay,.bool F.az,.slice H F.aw.length J,.bool F.drop] 45 (0,0)))(en:SlEn s W H J F.aw)(ne:∀b,RowOf a1 a2 a3 B b->H≠some ⟨b,0,none⟩):S5 w r x y s q W' B a1 a2 a3 c1 c2 c3 F H J:=by
 obtain⟨o1,o2,o3,o4⟩:=h.cB;have hz:=h.sz;have b:∀{k:Nat} {v:Obj},W.heap[k]?=some v->k≠y->W'.heap[k]?=some v:=λhv Z=>(on.aB _ Z).trans hv
 refine⟨h.cB,h.rd.bD (by omega) on.size on.aB,by rw[on.size];exact hz,b h.vf (by omega),b h.cN (by omega),b h.vx (by omega),h.bk.aZ (by rw[on.size];exact AG _) λk o hk _=>on.aB k (h.nb k o hk).2.2,h.ok,h.nb,vy,en.bu (AG _) λg hg hl ⟨Y,M⟩=>on.aB g λe=>by rw[e,h.vy]at M;simp at M,ne,on.below.os.trans h.kp.1,on.below.tape.trans h.kp.2.1,on.below.output.trans h.kp.2.2.1,λk hk=>(on.aB k (by omega)).trans (h.kp.2.2.2 k hk)⟩
theorem S5.setX{F:Bk}{b1 J H:qO}{d1 Y M:Nat}(h:S5 w r x y s q W B a1 a2 a3 c1 c2 c3 A ae ce)(on:A6 x W W')(vx:W'.heap[x]?=some (.cells #[.int .i64 F.aj,.slice b1 F.af.length d1,.slice J F.ah.length Y,.slice H F.ak.length M] 28 (0,0)))(bk:BkAt W b1 J H F)(ok:okSp F)(nb:∀b o,(b1=some ⟨b,o,none⟩\/J=some ⟨b,o,none⟩\/H=some ⟨b,o,none⟩)->r<b/\b≠x/\b≠y)(ne:∀b,RowOf b1 J H F b->ae≠some ⟨b,0,none⟩):S5 w r x y s q W' F b1 J H d1 Y M A ae ce:=by
 obtain⟨o1,o2,o3,o4⟩:=h.cB;have hz:=h.sz;have b:∀{k:Nat} {v:Obj},W.heap[k]?=some v->k≠x->W'.heap[k]?=some v:=λhv Z=>(on.aB _ Z).trans hv
 exact⟨h.cB,h.rd.bD (by omega) on.size on.aB,by rw[on.size];exact hz,b h.vf (by omega),b h.cN (by omega),vx,bk.aZ (by rw[on.size];exact AG _) λk o hk _=>on.aB k (nb k o hk).2.1,ok,nb,b h.vy (by omega),h.en.bu (AG _) λg hg hl _=>on.aB g (by omega),ne,on.below.os.trans h.kp.1,on.below.tape.trans h.kp.2.1,on.below.output.trans h.kp.2.2.1,λk hk=>(on.aB k (by omega)).trans (h.kp.2.2.2 k hk)⟩
end
theorem Kw{r:Nat}{w:World}{q:Int}(M:Rd r w q):∃p:Nat,(p:Int)<=q/\Rd r w p/\∀q',Rd r w q'->(p:Int)<=q':=by
 obtain⟨ao,n,cap,p,H,h2,Y,h4,Z⟩:=M;obtain⟨k,rfl⟩:∃k:Nat,p=k:=⟨p.toNat,by omega⟩;refine⟨k,Y,⟨ao,n,cap,k,H,h2,fB _,h4,Z⟩,?_⟩;rintro q' ⟨J,n',F,p',g1,g2,g3,_⟩;rw[H]at g1;injection g1 with g1
 injection g1 with g1
 injection g1 with g1
 injection g1 with _ g1
 injection g1 with g1
 injection g1 with _ e4
 omega
theorem Na(r:Nat)(q:Int)(B:Bk)(a1 a2 a3:qO)(c1 c2 c3:Nat)(w:World)(J:okSp B)(Y:BkAt w a1 a2 a3 B)(Z:Rd r w q)(hq:q+1400<=1000000000000):
  Calls Tryz.prog 58 #[.pointer (qad r),.agg (qbV B a1 c1 a2 c2 a3 c3)] w λe w'=>∃(A:Ac) (ae:qO) (ce:Nat),e=.returned (.agg (qaV A ae ce))/\SlEn w.heap.size w' ae ce A.aw/\MK B A/\RStep r 1400 w w':=by
 obtain⟨p,hp,H,F⟩:=Kw Z;refine(P9 r p B a1 a2 a3 c1 c2 c3 w J Y H (by unfold QM;omega)).mono ?_;rintro e w' ⟨A,ae,ce,rfl,h1,h2,h3,h4⟩;exact⟨A,ae,ce,rfl,h1,h2,h3,λq' M=>h4.mono (by have:=F q' M;omega)⟩
theorem any_step(r:Nat)(q:Int)(w:World)(Z:Rd r w q)(hq:q+910000001000<=1000000000000):
  Calls Tryz.prog 60 #[.pointer (qad r)] w λe w'=>SpBk w.heap.size w' e/\RStep r 910000001000 w w':=by
 obtain⟨p,hp,H,F⟩:=Kw Z;refine(any_bk r p w (draw_ct r) H (by unfold QM;omega)).mono ?_;rintro e w' ⟨M,h3,Y⟩;exact⟨M,h3,λq' J=>Y.mono (by have:=F q' J;omega)⟩
section
variable {o:Oper} {ρ:Operand->Value} {W:World} {x y:Operand}
theorem run_eqG{n m:Int}(h:o.op=.binOp .eql 3 x y 3)(hx:ρ x=.int .i64 n)(F:ρ y=.int .i64 m):(execOp ρ o).run Tryz.prog W=.ok (.value (.bool (n==m))) W:=by
 simp[execOp,h,hx,F,go_sem]
theorem run_any1{v:Value}(hf:ρ (.func 60)=.func (.func 60) #[] #[])(h:o.op=.call {callee:=.value (.func 60),args:=#[x],argTypes:=#[71]})(hx:ρ x=v):(execOp ρ o).run Tryz.prog W=.ok (.enter 60 #[v]) W:=by
 simp[execOp,h,hx,hf,go_sem]
theorem Pr{v u:Value}(hf:ρ (.func 58)=.func (.func 58) #[] #[])(h:o.op=.call {callee:=.value (.func 58),args:=#[x,y],argTypes:=#[71,28]})(hx:ρ x=v)(F:ρ y=u):(execOp ρ o).run Tryz.prog W=.ok (.enter 58 #[v,u]) W:=by
 simp[execOp,h,hx,F,hf,go_sem]
theorem run_view{v u:Value}(hf:ρ (.func 59)=.func (.func 59) #[] #[])(h:o.op=.call {callee:=.value (.func 59),args:=#[x,y],argTypes:=#[30,3]})(hx:ρ x=v)(F:ρ y=u):(execOp ρ o).run Tryz.prog W=.ok (.enter 59 #[v,u]) W:=by
 simp[execOp,h,hx,F,hf,go_sem]
theorem run_lenE{a:qO}{n c:Nat}(h:o.op=.call {callee:=.builtin .len,args:=#[x],argTypes:=#[43]})(hx:ρ x=.slice a n c):(execOp ρ o).run Tryz.prog W=.ok (.value (.int .i64 n)) W:=by
 simp[execOp,h,hx,go_sem]
end
section
variable {w W:World} {a:Act} {r z x y s id:Nat} {q:Int} {B:Bk} {a1 a2 a3:qO} {c1 c2 c3:Nat} {A:Ac} {ae:qO} {ce:Nat} {Q:Exit->Act->World->Prop}
theorem ap_if{M Y Z:Oper}{d:Nat}{m:Int}(F:[M,Y,Z].map (λo=>(o.dst,o.op,o.guard))=[(some d,.move (.tmp 4),none),(some (d+1),.call {callee:=.value (.func 38),args:=#[.tmp d,.const (.int .i64 m)],argTypes:=#[71,3]},none),(some (d+2),.binOp .eql 3 (.tmp (d+1)) (.const (.int .i64 0)) 3,none)])
  (hd:8<=d) (am:d+2<129) (hm:0<m/\m<1000) {f:Nat} (ea:EC r z f x y a) (hR:Rd r W q) (hq:q<=1000000000000) (hQ:∀H W' b,EC r z f x y H->H.eval (.tmp (d+2))=.bool b->RStep r 1 W W'->Q .normal H W'):(Code.region id [M,Y,Z].toArray false).wp Tryz.prog Q a W:=by
 simp only[dz,dP,dv,dw,dV]at F;obtain⟨⟨d0,p0,u0⟩,⟨d1,p1,u1⟩,d2,p2,u2⟩:=F;have hz:=ea.eb.sz;refine gZ ?_;refine CY u0 (DG p0) ?_;rw[d0,ea.e4];refine Ea u1 (Gj rfl p1 (Bq _ _ (by omega)) rfl) ((CS r m q W (by omega) (by omega) hR hq).mono ?_);rintro e w2 ⟨k,rfl,hk,hs⟩;refine⟨_,rfl,?_⟩;rw[d1];have J:EC r z f x y ((a.put (some d) (.pointer (qad r))).put (some (d+1)) (.int .i64 k)):=(ea.put _ (by omega)).put _ (by omega);refine CY u2 (run_eqG p2 (Bq _ _ (by rw[(ea.put (d:=d) _ (by omega)).eb.sz];omega)) rfl) ?_;rw[d2];exact gi (hQ _ _ _ (J.put _ (by omega)) (Bq _ _ (by rw[J.eb.sz];omega)) hs)
theorem ap_R8{o0 o1 o2:Oper}(Z:[o0,o1,o2].map (λo=>(o.dst,o.op,o.guard))=[(some 31,.move (.tmp 4),none),(some 32,.call {callee:=.value (.func 60),args:=#[.tmp 31],argTypes:=#[71]},none),(none,.store 28 (.tmp 6) (.tmp 32),none)])
  (ea:EC r z w.heap.size x y a) (h:S5 w r x y s q W B a1 a2 a3 c1 c2 c3 A ae ce) (hq:q+910000001000<=1000000000000) (hQ:∀a' W' B' b1 b2 Y d1 d2 d3,EC r z w.heap.size x y a'->S5 w r x y s (q+910000001000) W' B' b1 b2 Y d1 d2 d3 A ae ce->Q .normal a' W'):(Code.region id [o0,o1,o2].toArray false).wp Tryz.prog Q a W:=by
 simp only[dz,dP,dv,dw,dV]at Z;obtain⟨⟨d0,p0,u0⟩,⟨d1,p1,u1⟩,d2,p2,u2⟩:=Z;have hz:=ea.eb.sz;refine gZ ?_;refine CY u0 (DG p0) ?_;rw[d0,ea.e4];refine Ea u1 (run_any1 rfl p1 (Bq _ _ (by omega))) ((any_step r q W h.rd hq).mono ?_);rintro e w2 ⟨⟨b1,b2,Y,F,J,H,B',rfl,hB,ah,M⟩,hs⟩;refine⟨_,rfl,?_⟩;rw[d1];have h2:=h.step hs;have e0:=ea.put (.pointer (qad r)) (d:=31) (by omega);have e1:=e0.put (.agg (qbV B' b1 F b2 J Y H)) (d:=32) (by omega);obtain⟨o1,aA,o3,o4⟩:=h.cB;have aF:=h.sz;have aI:=(AB h.vy).1;refine AM u2 28 (.tmp 6) (.tmp 32) p2 x 0 (qbV B' b1 F b2 J Y H) e1.eb.e6 (Bq _ _ (by rw[e0.eb.sz];omega)) 28 _ h2.vx AU (AD rfl) (by simp[Value.oneCell']) λW' hz on=>gi ?_
 rw[d2];exact hQ _ _ B' b1 b2 Y F J H e1 (h2.setX on hz.O hB ah (λb o hb=>by have:=M b o hb;omega) λb hb e=>by obtain⟨o,ho⟩:=hb.in;have:=M b o ho;have:=(h.en.lo e).2;omega)
theorem ap_R9{o0 o1 o2 o3:Oper}(M:[o0,o1,o2,o3].map (λo=>(o.dst,o.op,o.guard))=[(some 33,.move (.tmp 4),none),(some 34,.load 28 (.tmp 6),none),(some 35,.call {callee:=.value (.func 58),args:=#[.tmp 33,.tmp 34],argTypes:=#[71,28]},none),(none,.store 45 (.tmp 7) (.tmp 35),none)])
  (ea:EC r z w.heap.size x y a) (h:S5 w r x y s q W B a1 a2 a3 c1 c2 c3 A ae ce) (hq:q+1400<=1000000000000) (hQ:∀a' W' J H F,EC r z w.heap.size x y a'->S5 w r x y s (q+1400) W' B a1 a2 a3 c1 c2 c3 J H F->MK B J->Q .normal a' W'):(Code.region id [o0,o1,o2,o3].toArray false).wp Tryz.prog Q a W:=by
 simp only[dz,dP,dv,dw,dV]at M;obtain⟨⟨d0,p0,u0⟩,⟨d1,p1,u1⟩,⟨d2,p2,u2⟩,d3,p3,u3⟩:=M;have Z:=ea.eb.sz;have e0:=ea.put (.pointer (qad r)) (d:=33) (by omega);have e1:=e0.put (.agg (qbV B a1 c1 a2 c2 a3 c3)) (d:=34) (by omega);refine gZ ?_;refine CY u0 (DG p0) ?_;rw[d0,ea.e4];refine dD u1 28 (.tmp 6) p1 x e0.eb.e6 28 _ (0,0) _ h.vx Tryz.underlying28 rfl AU ?_;rw[d1];refine Ea u2 (Pr rfl p2 ((B5 _ _ (by decide)).trans (Bq _ _ (by omega))) (Bq _ _ (by rw[e0.eb.sz];omega))) ((Na r q B a1 a2 a3 c1 c2 c3 W h.ok h.bk h.rd hq).mono ?_);rintro e w2 ⟨J,H,F,rfl,hE,hA,hs⟩;refine⟨_,rfl,?_⟩;rw[d2];have h2:=h.step hs;have e2:=e1.put (.agg (qaV J H F)) (d:=35) (by omega);have Y:=h.sz;refine AM u3 45 (.tmp 7) (.tmp 35) p3 y 0 (qaV J H F) e2.eb.e7 (Bq _ _ (by rw[e1.eb.sz];omega)) 45 _ h2.vy Bh (AD rfl) (by simp[Value.oneCell']) λW' Z on=>gi ?_
 rw[d3];exact hQ _ _ J H F e2 (h2.setY on Z.O (hE.bu Y λg hg hl _=>rfl) λb hb e=>by have:=h.bk.ck hb;have:=(hE.lo e).1;omega) hA
theorem ap_R10{o0 o1 o2 o3 o4 o5:Oper}(F:[o0,o1,o2,o3,o4,o5].map (λo=>(o.dst,o.op,o.guard))=[(some 36,.move (.tmp 4),none),(some 37,.fieldAddr 45 (.tmp 7) 6,none),(some 38,.load 43 (.tmp 37),none),(some 39,.call {callee:=.builtin .len,args:=#[.tmp 38],argTypes:=#[43]},none),(some 40,.call {callee:=.value (.func 38),args:=#[.tmp 36,.tmp 39],argTypes:=#[71,3]},none),(some 8,.assign (.tmp 40),none)])
  (ea:EC r z w.heap.size x y a) (h:S5 w r x y s q W B a1 a2 a3 c1 c2 c3 A ae ce) (hl:A.aw.length<=1000) (hq:q<=1000000000000) (hQ:∀Y W' k,EC r z w.heap.size x y Y->Y.eval (.tmp 8)=.int .i64 k->FR A.aw.length k->S5 w r x y s (q+1) W' B a1 a2 a3 c1 c2 c3 A ae ce->Q .normal Y W'):(Code.region id [o0,o1,o2,o3,o4,o5].toArray false).wp Tryz.prog Q a W:=by
 simp only[dz,dP,dv,dw,dV]at F;obtain⟨⟨d0,p0,u0⟩,⟨d1,p1,u1⟩,⟨d2,p2,u2⟩,⟨d3,p3,u3⟩,⟨d4,p4,u4⟩,d5,p5,u5⟩:=F;have hz:=ea.eb.sz;obtain⟨t1,M,J,H,aa⟩:∃e,tyo TT 45=some e/\e.u=4/\e.bm[6]?=some (6,1)/\e.ty=45:=⟨_,rfl,rfl,rfl,rfl⟩;obtain⟨t2,af,ag,Z⟩:∃e,tyo TT 43=some e/\e.u=3/\e.ty=43:=⟨_,rfl,rfl,rfl⟩;have k1:=((EH 0).ty M).1;have k2:=((EH 0).ty af).1;have e0:=ea.put (.pointer (qad r)) (d:=36) (by omega);have e1:=e0.put (.pointer (some ((⟨y,0,none⟩:Addr).add 6))) (d:=37) (by omega);have e2:=e1.put (.slice ae A.aw.length ce) (d:=38) (by omega);have e3:=e2.put (.int .i64 A.aw.length) (d:=39) (by omega);have hc:W.cell? ((⟨y,0,none⟩:Addr).add 6)=some (.slice ae A.aw.length ce):=by simp[World.cell?,Addr.add,h.vy]
 refine gZ ?_;refine CY u0 (DG p0) ?_;rw[d0,ea.e4];refine CY u1 (FN k1 J H (by rw[aa];exact p1) e0.eb.e7) ?_;rw[d1];refine CY u2 (Iz k2 (by rw[ag];decide) (by rw[Z];exact p2) (Bq _ _ (by rw[e0.eb.sz];omega)) hc) ?_;rw[d2];refine CY u3 (run_lenE p3 (Bq _ _ (by rw[e1.eb.sz];omega))) ?_;rw[d3];refine Ea u4 (Gj rfl p4 ((B5 _ _ (by decide)).trans ((B5 _ _ (by decide)).trans ((B5 _ _ (by decide)).trans (Bq _ _ (by omega))))) (Bq _ _ (by rw[e2.eb.sz];omega))) ((CS r A.aw.length q W (by omega) (by omega) h.rd hq).mono ?_);rintro e w2 ⟨k,rfl,hk,hs⟩;refine⟨_,rfl,?_⟩;rw[d4];have e4:=e3.put (.int .i64 k) (d:=40) (by omega);refine CY u5 (Kq p5) (gi ?_);rw[d5,Bq _ _ (by rw[e3.eb.sz];omega)];exact hQ _ _ k (e4.put _ (by omega)) (Bq _ _ (by rw[e4.eb.sz];omega)) hk (h.step hs)
theorem ap_R6{o0 o1 o2 o3 o4 o5 o6 o7:Oper}(aK:[o0,o1,o2,o3,o4,o5,o6,o7].map (λo=>(o.dst,o.op,o.guard))=[(some 21,.move (.tmp 4),none),(some 22,.load 30 (.tmp 5),none),(some 23,.move (.tmp 4),none),(some 24,.call {callee:=.value (.func 38),args:=#[.tmp 23,.const (.int .i64 3)],argTypes:=#[71,3]},none),(some 25,.binOp .add 3 (.const (.int .i64 1)) (.tmp 24) 3,none),(some 26,.call {callee:=.value (.func 59),args:=#[.tmp 22,.tmp 25],argTypes:=#[30,3]},none),(some 27,.call {callee:=.value (.func 58),args:=#[.tmp 21,.tmp 26],argTypes:=#[71,28]},none),(none,.store 45 (.tmp 7) (.tmp 27),none)])
  (hB:Ap [o0,o1,o2,o3,o4,o5,o6,o7].toArray 7=true) (aS:[(3,2),(4,3),(5,1),(5,4),(6,0),(6,5)].all (λx=>Region.waitsFor .any [o0,o1,o2,o3,o4,o5,o6,o7].toArray x.1 x.2)=true)
  (ea:EC r z w.heap.size x y a) (h:S5 w r x y s q W B a1 a2 a3 c1 c2 c3 A ae ce) {M:List Bx} {aq:qO} {cq:Nat} {V0:Bk} {v1 v2 v3:qO} {k1 k2 k3:Nat} (bm:r≠z) (vz:qBl W z (qwV aq M.length cq V0 v1 k1 v2 k2 v3 k3) 30) (a7:WA W aq M v1 v2 v3 V0) (hq:q+20000<=1000000000000)
  (hQ:∀a' W' A' H J,EC r z w.heap.size x y a'->S5 w r x y s (q+9800) W' B a1 a2 a3 c1 c2 c3 A' H J->MK B A'->Q .normal a' W'):(Code.region id [o0,o1,o2,o3,o4,o5,o6,o7].toArray true).wp Tryz.prog Q a W:=by
 simp only[dz,dP,dv,dw,dV]at aK;obtain⟨⟨d0,p0,u0⟩,⟨d1,p1,u1⟩,⟨d2,p2,u2⟩,⟨d3,p3,u3⟩,⟨d4,p4,u4⟩,⟨d5,p5,u5⟩,⟨d6,p6,u6⟩,d7,p7,u7⟩:=aK;simp only[List.all_cons,List.all_nil,cY,iu]at aS;obtain⟨w3_2,w4_3,w5_1,w5_4,w6_0,w6_5⟩:=aS;have ct:=ea.eb.sz
 have a6:Cs [o0,o1,o2,o3,o4,o5,o6,o7].toArray 7=true:=by
  simp only[Ap,cY]at hB;exact hB.1.2
 have aT:∀(V:Nat->Value) (e:Nat),e<21->(Ae [o0,o1,o2,o3,o4,o5,o6,o7].toArray V 7 a).eval (.tmp e)=a.eval (.tmp e):=λV e hs=>Hr 7 λj hj=>by
  rcases j with _|_|_|_|_|_|_|j
  ·exact λF=>by have F:o0.dst=some e:=F;rw[d0]at F;cases F;omega
  ·exact λF=>by have F:o1.dst=some e:=F;rw[d1]at F;cases F;omega
  ·exact λF=>by have F:o2.dst=some e:=F;rw[d2]at F;cases F;omega
  ·exact λF=>by have F:o3.dst=some e:=F;rw[d3]at F;cases F;omega
  ·exact λF=>by have F:o4.dst=some e:=F;rw[d4]at F;cases F;omega
  ·exact λF=>by have F:o5.dst=some e:=F;rw[d5]at F;cases F;omega
  ·exact λF=>by have F:o6.dst=some e:=F;rw[d6]at F;cases F;omega
  ·omega
 have G:∀(V:Nat->Value) (i d:Nat),i<7->(([o0,o1,o2,o3,o4,o5,o6,o7].toArray)[i]?).bind (·.dst)=some d->d<a.tmps.size->(Ae [o0,o1,o2,o3,o4,o5,o6,o7].toArray V 7 a).eval (.tmp d)=V i:=λV i d hi hd hs=>Hs hd hs 7 a6 hi
 obtain⟨g1,g2,g3,g4⟩:=h.cB;have b6:=h.sz;have hR:=h.rd;refine EE 7 r 1400 q (by kernel_rfl) hB hR ?_;refine Dh (λv _=>v=.pointer (qad r)) (λ_ _ _ h _ _=>h) ?_ ?_
 ·intro V W1 K A hW Y hd Z hK
  obtain rfl:=Z;exact Hk u0 (DG p0) (hK.O _ _ (RStep.re _) ((aT V 4 (by omega)).trans ea.e4))
 refine Dh (λv _=>v=.agg (qwV aq M.length cq V0 v1 k1 v2 k2 v3 k3)) (λ_ _ _ h _ _=>h) ?_ ?_
 ·intro V W1 K A hW Y hd Z hK
  obtain rfl:=Z;exact dD u1 30 (.tmp 5) p1 z ((aT V 5 (by omega)).trans ea.e5) 30 _ (0,0) _ (Bn hW vz (AB vz).1 bm.symm) Tryz.underlying30 rfl (by kernel_rfl) (gi (hK.O _ _ (RStep.re _) rfl))
 refine Dh (λv _=>v=.pointer (qad r)) (λ_ _ _ h _ _=>h) ?_ ?_
 ·intro V W1 K A hW Y hd Z hK
  obtain rfl:=Z;exact Hk u2 (DG p2) (hK.O _ _ (RStep.re _) ((aT V 4 (by omega)).trans ea.e4))
 refine Dh (λv _=>∃k:Int,v=.int .i64 k/\0<=k/\k<=3) (λ_ _ _ h _ _=>h) ?_ ?_
 ·intro V W1 K A hW Y hd Z hK
  obtain rfl:=Z;have h2:V 2=.pointer (qad r):=hd 2 w3_2;refine ID u3 (Gj rfl p3 ((G V 2 _ (by omega) d2 (by omega)).trans h2) rfl) ((CS r 3 _ W1 (by omega) (by omega) Y (by omega)).mono ?_);rintro e w2 ⟨k,rfl,hk,hs⟩;exact⟨_,rfl,hK.O _ _ ⟨hs.1,λq' bj=>(hs.2 q' bj).mono (by omega)⟩ ⟨k,rfl,hk.1,by have:=hk.2.1 (by decide);omega⟩⟩
 refine Dh (λv _=>∃k:Int,v=.int .i64 k/\0<=k/\k<=1000) (λ_ _ _ h _ _=>h) ?_ ?_
 ·intro V W1 K A hW Y hd Z hK
  obtain rfl:=Z;obtain⟨k,h3,a8,aL⟩:∃k:Int,V 3=.int .i64 k/\0<=k/\k<=3:=hd 3 w4_3;refine Hk u4 (OT p4 rfl ((G V 3 _ (by omega) d3 (by omega)).trans h3)) (hK.O _ _ (RStep.re _) ⟨1+k,?_,by omega,by omega⟩);exact em (Value.int .i64) (IntWalk.i64_in (1+k) (by omega))
 refine Dh (λv W'=>∃(x1 x2 x3:qO) (y1 y2 y3:Nat) (C:Bk),v=.agg (qbV C x1 y1 x2 y2 x3 y3)/\BkAt W' x1 x2 x3 C/\C.aD/\C.aO) (λ_ _ _ ⟨x1,x2,x3,y1,y2,y3,C,h1,h2,h3⟩ hs ⟨_,hr⟩=>⟨x1,x2,x3,y1,y2,y3,C,h1,h2.aP hr hs.1,h3⟩) ?_ ?_
 ·intro V W1 K A hW Y hd Z hK
  obtain rfl:=Z;have h1:V 1=.agg (qwV aq M.length cq V0 v1 k1 v2 k2 v3 k3):=hd 1 w5_1;obtain⟨k,h4,a8,aL⟩:∃k:Int,V 4=.int .i64 k/\0<=k/\k<=1000:=hd 4 w5_4;refine ID u5 (run_view rfl p5 ((G V 1 _ (by omega) d1 (by omega)).trans h1) ((G V 4 _ (by omega) d4 (by omega)).trans h4)) ((OA M aq cq V0 v1 v2 v3 k1 k2 k3 k W1 a8 aL a7.ok (a7.aP hR hW).bN).mono ?_);rintro e w2 ⟨v,rfl,x1,x2,x3,y1,y2,y3,C,rfl,hC,aI,aE,hb⟩;exact⟨_,rfl,hK.O _ _ (RStep.of hb) ⟨x1,x2,x3,y1,y2,y3,C,rfl,hC,aI,aE⟩⟩
 refine Dh (λv W'=>∃(A':Ac) (H:qO) (J:Nat),v=.agg (qaV A' H J)/\SlEn s W' H J A'.aw/\MK B A'/\∀b,RowOf a1 a2 a3 B b->H≠some ⟨b,0,none⟩) (λ_ _ _ ⟨A',H,J,h1,h2,h3⟩ hs _=>⟨A',H,J,h1,h2.bu (AG _) λg hg hl _=>hs.1.block g hl (by omega),h3⟩) ?_ ?_
 ·intro V W1 K A hW Y hd Z hK
  obtain rfl:=Z;have h0:V 0=.pointer (qad r):=hd 0 w6_0;obtain⟨x1,x2,x3,y1,y2,y3,C,h5,hC,aI,aE⟩:∃(x1 x2 x3:qO) (y1 y2 y3:Nat) (C:Bk),V 5=.agg (qbV C x1 y1 x2 y2 x3 y3)/\BkAt W1 x1 x2 x3 C/\C.aD/\C.aO:=hd 5 w6_5;refine ID u6 (Pr rfl p6 ((G V 0 _ (by omega) d0 (by omega)).trans h0) ((G V 5 _ (by omega) d5 (by omega)).trans h5)) ((Na r _ C x1 x2 x3 y1 y2 y3 W1 ⟨aE.tn,aI.2.2.2⟩ hC Y (by omega)).mono ?_);rintro e w2 ⟨A',H,J,rfl,hE,Z,hs⟩
  exact⟨_,rfl,hK.O _ _ hs ⟨A',H,J,rfl,hE.bu (by have:=hW.size;omega) λg hg hl _=>rfl,⟨Z.1,Z.2.1,λe he=>.inl (by
   rcases Z.2.2 e he with h|⟨c,hc,he⟩
   ·exact h
   ·rw[<-he];exact aE.2.2.2 c hc)⟩,λb hb e=>by have:=h.bk.ck hb;have:=(hE.lo e).1;have:=hW.size;omega⟩⟩
 intro V W1 A1 hW Y hS Z;obtain rfl:=Z;obtain⟨A',H,J,h6,hE,hD,bk⟩:∃(A':Ac) (H:qO) (J:Nat),V 6=.agg (qaV A' H J)/\SlEn s W1 H J A'.aw/\MK B A'/\∀b,RowOf a1 a2 a3 B b->H≠some ⟨b,0,none⟩:=hS 6 (by omega);have ec:EC r z w.heap.size x y (Ae [o0,o1,o2,o3,o4,o5,o6,o7].toArray V 7 a):=⟨⟨(aT V 2 (by omega)).trans ea.eb.e2,(aT V 3 (by omega)).trans ea.eb.e3,(aT V 6 (by omega)).trans ea.eb.e6,(aT V 7 (by omega)).trans ea.eb.e7,(GL 7).trans ea.eb.sz,(Hd 7).trans ea.eb.df⟩,(aT V 4 (by omega)).trans ea.e4,(aT V 5 (by omega)).trans ea.e5⟩;have h2:=h.aP (q':=q+9800) hW Y;show wpList Tryz.prog _ Q [o7] _ W1;refine AM u7 45 (.tmp 7) (.tmp 27) p7 y 0 (qaV A' H J) ec.eb.e7 ((G V 6 _ (by omega) d6 (by omega)).trans h6) 45 _ h2.vy Bh (AD rfl) (by simp[Value.oneCell']) λW' hz on=>gi ?_
 rw[d7];exact hQ _ _ A' H J ec (h2.setY on hz.O hE bk) hD
end
abbrev qab(f:Func):Code:=f.body.getD .skip
theorem tail_eq:Ej 5 (qab Tryz.f21)=.seq (.seq (.region 5 (A8 5 (qab Tryz.f21)).toArray false) (.cond (.tmp 20) (.region 6 (A8 6 (qab Tryz.f21)).toArray true) .skip)) (.seq (.seq (.region 7 (A8 7 (qab Tryz.f21)).toArray false) (.cond (.tmp 30) (.seq (.region 8 (A8 8 (qab Tryz.f21)).toArray false) (.region 9 (A8 9 (qab Tryz.f21)).toArray false)) .skip)) (.seq (.region 10 (A8 10 (qab Tryz.f21)).toArray false) (.seq (qac Tryz.f21) (qae Tryz.f21)))):=by kernel_rfl
abbrev shp (l:List Oper):=l.map (λo=>(o.dst,o.op,o.guard))
theorem r5:∃J F H,A8 5 (qab Tryz.f21)=[J,F,H]:=⟨_,_,_,rfl⟩
theorem r6:∃H Y W M F J Z o7,A8 6 (qab Tryz.f21)=[H,Y,W,M,F,J,Z,o7]:=⟨_,_,_,_,_,_,_,_,rfl⟩
theorem r7:∃J F H,A8 7 (qab Tryz.f21)=[J,F,H]:=⟨_,_,_,rfl⟩
theorem r8:∃J F H,A8 8 (qab Tryz.f21)=[J,F,H]:=⟨_,_,_,rfl⟩
theorem r9:∃M F J H,A8 9 (qab Tryz.f21)=[M,F,J,H]:=⟨_,_,_,_,rfl⟩
theorem r10:∃H Y W M F J,A8 10 (qab Tryz.f21)=[H,Y,W,M,F,J]:=⟨_,_,_,_,_,_,rfl⟩
theorem act_tail{w W:World}{a:Act}{r z x y s q:Nat}{B:Bk}{a1 a2 a3:qO}{c1 c2 c3:Nat}{A:Ac}{ae:qO}{ce:Nat}{Q:Exit->Act->World->Prop}{M:List Bx}{aq:qO}{cq:Nat}{V0:Bk}{v1 v2 v3:qO}{k1 k2 k3:Nat}
  (ea:EC r z w.heap.size x y a) (h:S5 w r x y s q W B a1 a2 a3 c1 c2 c3 A ae ce) (hD:MK B A) (aC:r≠z) (vz:qBl W z (qwV aq M.length cq V0 v1 k1 v2 k2 v3 k3) 30) (bf:WA W aq M v1 v2 v3 V0) (hq:q<=10000000000)
  (hQ:∀(a':Act) (W':World) (B:Bk) (a1 a2 a3:qO) (c1 c2 c3:Nat) (A:Ac) (ae:qO) (ce x y:Nat),EB w.heap.size (w.heap.size+1) x y a'->qBl W' (w.heap.size) (qbV B a1 c1 a2 c2 a3 c3) 28->qBl W' (w.heap.size+1) (qaV A ae ce) 45->BkAt W' a1 a2 a3 B->okSp B->SlE W' ae A.aw->A.aw.length<=1001->A.aa.size<=maxLen->(∀e∈A.aw,(-9223372036854775808<=e.ai/\e.ai<=9223372036854775807)\/∃c∈B.ah,c.ai=e.ai)->Below w.heap.size w W'->Q .ret a' W'):(Ej 5 (qab Tryz.f21)).wp Tryz.prog Q a W:=by
 rw[tail_eq]
 -- from the last ai on
 have au:∀(a:Act) (W:World) (B:Bk) (a1 a2 a3:qO) (c1 c2 c3:Nat) (A:Ac) (ae:qO) (ce:Nat) (q:Int),q<=999999000000->EC r z w.heap.size x y a->S5 w r x y s q W B a1 a2 a3 c1 c2 c3 A ae ce->MK B A->(Code.seq (.region 10 (A8 10 (qab Tryz.f21)).toArray false) (.seq (qac Tryz.f21) (qae Tryz.f21))).wp Tryz.prog Q a W:=by
  intro a W B a1 a2 a3 c1 c2 c3 A ae ce q hq ea h hD;have H:shp (A8 10 (qab Tryz.f21))=[(some 36,.move (.tmp 4),none),(some 37,.fieldAddr 45 (.tmp 7) 6,none),(some 38,.load 43 (.tmp 37),none),(some 39,.call {callee:=.builtin .len,args:=#[.tmp 38],argTypes:=#[43]},none),(some 40,.call {callee:=.value (.func 38),args:=#[.tmp 36,.tmp 39],argTypes:=#[71,3]},none),(some 8,.assign (.tmp 40),none)]:=by kernel_rfl
  obtain⟨o0,o1,o2,o3,o4,o5,e⟩:=r10;rw[e]at H ⊢;refine i0 (ap_R10 H ea h hD.1 (by omega) λa' W' k ec e8 hk F=>?_);obtain⟨p,hp,aW,_⟩:=Kw F.rd;obtain⟨g1,g2,g3,g4⟩:=F.cB;refine i0 (iQ (asw_run (f:=w.heap.size) (f':=w.heap.size+1) (x:=x) (y:=y) (r:=r) (q:=p) (s:=s) hD.1 ⟨hk.1,λhl=>hk.2.1 (by omega)⟩ (by unfold QM;omega) ec.eb ec.e4 e8 aW (by omega) F.sz g4 F.vy F.en F.bk λb hb=>⟨by obtain⟨o,ho⟩:=hb.in;exact(F.nb b o ho).2.2,F.ne b hb⟩) ?_);rintro _ a2 W2 ⟨rfl,A',Z,J,g,eb,hg,vg,hE,bb,aK,b4,a4,aT,a7,a6,ca,ag⟩;refine SZ ⟨by omega,by omega,by omega⟩ eb ((ag x (by omega) (by omega)).trans F.vx) vg ((ag _ (by omega) (by omega)).trans F.vf) ((ag _ (by omega) (by omega)).trans F.cN) λa3 W3 W4 a5 vb va Y aa=>?_
  have q1:=Y.size;have q2:=aa.size;have ch:∀k,k≠w.heap.size->k≠w.heap.size+1->W4.heap[k]?=W2.heap[k]?:=λk h1 h2=>(aa.aB k h2).trans (Y.aB k h1)
  refine hQ a3 W4 B _ _ _ _ _ _ A' Z J x g a5 vb va ?_ F.ok ?_ (by have:=hD.1;omega) (by rw[aK];exact hD.2.1) (λe he=>?_) ?_
  ·exact bb.aZ (by omega) λb o hb _=>by have:=(F.nb b o hb).1;exact ch b (by omega) (by omega)
  ·exact(hE.bu (W':=W4) (AG _) λk hk _ _=>ch k (by omega) (by omega)).sl
  ·rcases a4 e he with h1|⟨e',aM,h1⟩
   ·exact .inl (by omega)
   ·rw[<-h1];exact hD.2.2 e' aM
  ·have kp:=F.kp
   exact⟨aa.below.os.trans (Y.below.os.trans (aT.trans kp.1)),aa.below.tape.trans (Y.below.tape.trans (a7.trans kp.2.1)),aa.below.output.trans (Y.below.output.trans (a6.trans kp.2.2.1)),by omega,λk hk=>(ch k (by omega) (by omega)).trans ((ag k (by omega) (by omega)).trans (kp.2.2.2 k hk))⟩
 -- from the second ai on
 have aw:∀(a:Act) (W:World) (A:Ac) (ae:qO) (ce:Nat) (q:Int),q<=20000000000->EC r z w.heap.size x y a->S5 w r x y s q W B a1 a2 a3 c1 c2 c3 A ae ce->MK B A->(Code.seq (.seq (.region 7 (A8 7 (qab Tryz.f21)).toArray false) (.cond (.tmp 30) (.seq (.region 8 (A8 8 (qab Tryz.f21)).toArray false) (.region 9 (A8 9 (qab Tryz.f21)).toArray false)) .skip)) (.seq (.region 10 (A8 10 (qab Tryz.f21)).toArray false) (.seq (qac Tryz.f21) (qae Tryz.f21)))).wp Tryz.prog Q a W:=by
  intro a W A ae ce q hq ea h hD;have H:shp (A8 7 (qab Tryz.f21))=[(some 28,.move (.tmp 4),none),(some (28+1),.call {callee:=.value (.func 38),args:=#[.tmp 28,.const (.int .i64 10)],argTypes:=#[71,3]},none),(some (28+2),.binOp .eql 3 (.tmp (28+1)) (.const (.int .i64 0)) 3,none)]:=by kernel_rfl
  have ah:shp (A8 8 (qab Tryz.f21))=[(some 31,.move (.tmp 4),none),(some 32,.call {callee:=.value (.func 60),args:=#[.tmp 31],argTypes:=#[71]},none),(none,.store 28 (.tmp 6) (.tmp 32),none)]:=by kernel_rfl
  have al:shp (A8 9 (qab Tryz.f21))=[(some 33,.move (.tmp 4),none),(some 34,.load 28 (.tmp 6),none),(some 35,.call {callee:=.value (.func 58),args:=#[.tmp 33,.tmp 34],argTypes:=#[71,28]},none),(none,.store 45 (.tmp 7) (.tmp 35),none)]:=by kernel_rfl
  obtain⟨o0,o1,o2,e⟩:=r7;obtain⟨p0,p1,p2,e'⟩:=r8;obtain⟨s0,s1,s2,s3,a8⟩:=r9;rw[e]at H ⊢;rw[e']at ah ⊢;rw[a8]at al ⊢;refine i0 (i0 (ap_if H (by decide) (by decide) ⟨by decide,by decide⟩ ea h.rd (by omega) λa' W' b ec a9 hs=>?_));have F:=h.step hs;refine wp_cond_split a9 (λ_=>?_) (λ_=>?_)
  ·refine i0 (ap_R8 ah ec F (by omega) λa2 W2 B' b1 b2 b3 d1 d2 d3 ar h2=>?_)
   exact ap_R9 al ar h2 (by omega) λa3 W3 A' Z J bj h3 aI=>au a3 W3 B' b1 b2 b3 d1 d2 d3 A' Z J _ (by omega) bj h3 aI
  ·exact wp_skip (au a' W' B a1 a2 a3 c1 c2 c3 A ae ce _ (by omega) ec F hD)
 have H:shp (A8 5 (qab Tryz.f21))=[(some 18,.move (.tmp 4),none),(some (18+1),.call {callee:=.value (.func 38),args:=#[.tmp 18,.const (.int .i64 4)],argTypes:=#[71,3]},none),(some (18+2),.binOp .eql 3 (.tmp (18+1)) (.const (.int .i64 0)) 3,none)]:=by kernel_rfl
 have ak:shp (A8 6 (qab Tryz.f21))=[(some 21,.move (.tmp 4),none),(some 22,.load 30 (.tmp 5),none),(some 23,.move (.tmp 4),none),(some 24,.call {callee:=.value (.func 38),args:=#[.tmp 23,.const (.int .i64 3)],argTypes:=#[71,3]},none),(some 25,.binOp .add 3 (.const (.int .i64 1)) (.tmp 24) 3,none),(some 26,.call {callee:=.value (.func 59),args:=#[.tmp 22,.tmp 25],argTypes:=#[30,3]},none),(some 27,.call {callee:=.value (.func 58),args:=#[.tmp 21,.tmp 26],argTypes:=#[71,28]},none),(none,.store 45 (.tmp 7) (.tmp 27),none)]:=by kernel_rfl
 have ay:Ap (A8 6 (qab Tryz.f21)).toArray 7=true:=by kernel_rfl
 have ax:[(3,2),(4,3),(5,1),(5,4),(6,0),(6,5)].all (λx=>Region.waitsFor .any (A8 6 (qab Tryz.f21)).toArray x.1 x.2)=true:=by kernel_rfl
 obtain⟨o0,o1,o2,e⟩:=r5;obtain⟨p0,p1,p2,p3,p4,p5,p6,p7,e'⟩:=r6;rw[e]at H ⊢;rw[e']at ak ay ax ⊢;refine i0 (i0 (ap_if H (by decide) (by decide) ⟨by decide,by decide⟩ ea h.rd (by omega) λa' W' b ec aH hs=>?_));have F:=h.step hs;refine wp_cond_split aH (λ_=>?_) (λ_=>?_)
 ·exact ap_R6 ak ay ax ec F aC (Bn hs.1 vz (AB vz).1 aC.symm) (bf.aP h.rd hs.1) (by omega) λa2 W2 A' Z J ar h2 aL=>aw a2 W2 A' Z J _ (by omega) ar h2 aL
 ·exact wp_skip (aw a' W' A ae ce _ (by omega) ec F hD)
section
variable {o:Oper} {ρ:Operand->Value} {W:World} {x y:Operand}
theorem OQ{v:Value}(hf:ρ (.func 57)=.func (.func 57) #[] #[])(h:o.op=.call {callee:=.value (.func 57),args:=#[x],argTypes:=#[71]})(hx:ρ x=v):(execOp ρ o).run Tryz.prog W=.ok (.enter 57 #[v]) W:=by
 simp[execOp,h,hx,hf,go_sem]
theorem run_aW(h:o.op=.alloc 30):(execOp ρ o).run Tryz.prog W=.ok (.value (.pointer (some ⟨W.heap.size,0,none⟩))) (W.alloc (.cells #[.slice none 0 0,.int .i64 0,.slice none 0 0,.slice none 0 0,.slice none 0 0] 30)):=by
 simp[execOp,h,go_sem]
theorem run_aB(h:o.op=.alloc 28):(execOp ρ o).run Tryz.prog W=.ok (.value (.pointer (some ⟨W.heap.size,0,none⟩))) (W.alloc (.cells zB 28)):=by
 simp[execOp,h,go_sem,zB]
theorem run_aA(h:o.op=.alloc 45):(execOp ρ o).run Tryz.prog W=.ok (.value (.pointer (some ⟨W.heap.size,0,none⟩))) (W.alloc (.cells zA 45)):=by
 simp[execOp,h,go_sem,zA]
theorem run_fW{b:Nat}(h:o.op=.fieldAddr 30 x 1)(hx:ρ x=.pointer (qad b)):(execOp ρ o).run Tryz.prog W=.ok (.value (.pointer (some ⟨b,1,none⟩))) W:=by
 simp[execOp,h,hx,go_sem]
end
structure ED(r f:Nat)(a:Act):Prop where
 e2:a.eval (.tmp 2)=.pointer (qad f)
 e3:a.eval (.tmp 3)=.pointer (some ⟨f+1,0,none⟩)
 e4:a.eval (.tmp 4)=.pointer (qad r)
 sz:a.tmps.size=129
 df:a.defers=[]
theorem ED.put{r f:Nat}{a:Act}(h:ED r f a){d:Nat}(v:Value)(F:5<=d):ED r f (a.put (some d) v):=⟨(B5 _ _ (by omega)).trans h.e2,(B5 _ _ (by omega)).trans h.e3,(B5 _ _ (by omega)).trans h.e4,put_more.2.trans h.sz,put_more.1.trans h.df⟩
theorem head_eq:Ej 2 (qab Tryz.f21)=.seq (.region 2 (A8 2 (qab Tryz.f21)).toArray false) (.seq (.region 3 (A8 3 (qab Tryz.f21)).toArray false) (.seq (.region 4 (A8 4 (qab Tryz.f21)).toArray false) (Ej 5 (qab Tryz.f21)))):=by kernel_rfl
theorem r2':∃M F J H,A8 2 (qab Tryz.f21)=[M,F,J,H]:=⟨_,_,_,_,rfl⟩
theorem r3':∃M F J H,A8 3 (qab Tryz.f21)=[M,F,J,H]:=⟨_,_,_,_,rfl⟩
theorem r4':∃H Y M J F,A8 4 (qab Tryz.f21)=[H,Y,M,J,F]:=⟨_,_,_,_,_,rfl⟩
theorem act_mid{w W:World}{a:Act}{r:Nat}{Q:Exit->Act->World->Prop}(ea:ED r w.heap.size a)(bz:w.heap.size+1<r)(hR:Rd r W 0)(vf:qBl W (w.heap.size) zB 28)(cN:qBl W (w.heap.size+1) zA 45)(kp:W.os=w.os/\W.tape=w.tape/\W.output=w.output/\∀k,k<w.heap.size->W.heap[k]?=w.heap[k]?)
  (hQ:∀(a':Act) (W':World) (B:Bk) (a1 a2 a3:qO) (c1 c2 c3:Nat) (A:Ac) (ae:qO) (ce x y:Nat),EB w.heap.size (w.heap.size+1) x y a'->qBl W' (w.heap.size) (qbV B a1 c1 a2 c2 a3 c3) 28->qBl W' (w.heap.size+1) (qaV A ae ce) 45->BkAt W' a1 a2 a3 B->okSp B->SlE W' ae A.aw->A.aw.length<=1001->A.aa.size<=maxLen->(∀e∈A.aw,(-9223372036854775808<=e.ai/\e.ai<=9223372036854775807)\/∃c∈B.ah,c.ai=e.ai)->Below w.heap.size w W'->Q .ret a' W'):(Ej 2 (qab Tryz.f21)).wp Tryz.prog Q a W:=by
 rw[head_eq];have Z:shp (A8 2 (qab Tryz.f21))=[(some 11,.move (.tmp 4),none),(some 12,.call {callee:=.value (.func 57),args:=#[.tmp 11],argTypes:=#[71]},none),(some 5,.alloc 30,none),(none,.store 30 (.tmp 5) (.tmp 12),none)]:=by kernel_rfl
 have aa:shp (A8 3 (qab Tryz.f21))=[(some 13,.fieldAddr 30 (.tmp 5) 1,none),(some 14,.load 28 (.tmp 13),none),(some 6,.alloc 28,none),(none,.store 28 (.tmp 6) (.tmp 14),none)]:=by kernel_rfl
 have J:shp (A8 4 (qab Tryz.f21))=[(some 15,.move (.tmp 4),none),(some 16,.load 28 (.tmp 6),none),(some 17,.call {callee:=.value (.func 58),args:=#[.tmp 15,.tmp 16],argTypes:=#[71,28]},none),(some 7,.alloc 45,none),(none,.store 45 (.tmp 7) (.tmp 17),none)]:=by kernel_rfl
 obtain⟨o0,o1,o2,o3,e⟩:=r2';obtain⟨p0,p1,p2,p3,e'⟩:=r3';obtain⟨s0,s1,s2,s3,s4,bl⟩:=r4';rw[e]at Z ⊢;rw[e']at aa ⊢;rw[bl]at J ⊢;simp only[shp,dz,dP,dv,dw,dV]at Z aa J;obtain⟨⟨d0,q0,u0⟩,⟨d1,q1,u1⟩,⟨d2,q2,u2⟩,d3,q3,u3⟩:=Z;obtain⟨⟨d4,q4,u4⟩,⟨d5,q5,u5⟩,⟨d6,q6,u6⟩,d7,q7,u7⟩:=aa;obtain⟨⟨d8,q8,u8⟩,⟨d9,q9,u9⟩,⟨da,qa,ua⟩,⟨db,qb,ub⟩,dc,qc,uc⟩:=J;have hz:=ea.sz;refine i0 (gZ ?_);refine CY u0 (DG q0) ?_;rw[d0,ea.e4];have e0:=ea.put (.pointer (qad r)) (d:=11) (by omega);refine Ea u1 (OQ rfl q1 (Bq _ _ (by omega))) ((Jh r 0 W hR (by decide)).mono ?_);rintro _ w1 ⟨aq,M,cq,g1,k1,g2,k2,g3,k3,B,rfl,hA,hk,aS,aH⟩;refine⟨_,rfl,?_⟩;rw[d1];have e1:=e0.put (.agg (qwV aq M.length cq B (qad g1) k1 (qad g2) k2 (qad g3) k3)) (d:=12) (by omega);refine CY u2 (run_aW q2) ?_;rw[d2];obtain⟨z,ar⟩:∃z,w1.heap.size=z:=⟨_,rfl⟩;rw[ar];have e2:=e1.put (.pointer (qad z)) (d:=5) (by omega);refine AM u3 30 (.tmp 5) (.tmp 12) q3 z 0 (qwV aq M.length cq B (qad g1) k1 (qad g2) k2 (qad g3) k3) (Bq _ _ (by rw[e1.sz];omega)) ((B5 _ _ (by decide)).trans (Bq _ _ (by rw[e0.sz];omega))) 30 #[.slice none 0 0,.int .i64 0,.slice none 0 0,.slice none 0 0,.slice none 0 0] (by rw[<-ar];exact dm w1 _) AO (AD rfl) (by simp[Value.oneCell']) λW3 vz aA=>gi ?_
 rw[d3];have vz:qBl W3 z (qwV aq M.length cq B (qad g1) k1 (qad g2) k2 (qad g3) k3) 30:=vz.O;have ag:Below w1.heap.size w1 W3:=(AN w1 _).trans (by rw[ar];exact aA.below);have e5:(((a.put (some 11) (.pointer (qad r))).put (some 12) (.agg (qwV aq M.length cq B (qad g1) k1 (qad g2) k2 (qad g3) k3))).put (some 5) (.pointer (qad z))).eval (.tmp 5)=.pointer (qad z):=Bq _ _ (by rw[e1.sz];omega);show(Code.seq _ _).wp Tryz.prog Q (((a.put (some 11) (.pointer (qad r))).put (some 12) (.agg (qwV aq M.length cq B (qad g1) k1 (qad g2) k2 (qad g3) k3))).put (some 5) (.pointer (qad z))) W3
 revert e2 e5
 generalize (((a.put (some 11) (.pointer (qad r))).put (some 12) (.agg (qwV aq M.length cq B (qad g1) k1 (qad g2) k2 (qad g3) k3))).put (some 5) (.pointer (qad z)))=a3;intro e2 e5;clear e0 e1 aA;have c5:=e2.sz;have bt:z<W3.heap.size:=(AB vz).1;have c7:r<z:=by have:=aH.lt;omega
 -- the bj
 refine i0 (gZ ?_);refine CY u4 (run_fW q4 e5) ?_;rw[d4];have f0:=e2.put (.pointer (some ⟨z,1,none⟩)) (d:=13) (by omega);obtain⟨t1,bb,a6,bq,bo⟩:∃e,tyo TT 28=some e/\e.u=4/\e.size=4/\e.ty=28:=⟨_,rfl,rfl,rfl,rfl⟩;refine CY u5 (MQ (cs:=[.int .i64 B.aj,.slice (qad g1) B.af.length k1,.slice (qad g2) B.ah.length k2,.slice (qad g3) B.ak.length k3]) ((EH 0).ty bb).1 a6 (by rw[bo];exact q5) (Bq _ _ (by omega)) (by rw[bq];rfl) λj v hj=>?_) ?_
 ·rcases j with _|_|_|_|j
  ·cases hj;simp[World.cell?,Addr.add,vz]
  ·cases hj;simp[World.cell?,Addr.add,vz]
  ·cases hj;simp[World.cell?,Addr.add,vz]
  ·cases hj;simp[World.cell?,Addr.add,vz]
  ·cases hj
 rw[d5];have f1:=f0.put (.agg (qbV B (qad g1) k1 (qad g2) k2 (qad g3) k3)) (d:=14) (by omega);refine CY u6 (run_aB q6) ?_;rw[d6];obtain⟨x,av⟩:∃x,W3.heap.size=x:=⟨_,rfl⟩;rw[av];have f2:=f1.put (.pointer (qad x)) (d:=6) (by omega);refine AM u7 28 (.tmp 6) (.tmp 14) q7 x 0 (qbV B (qad g1) k1 (qad g2) k2 (qad g3) k3) (Bq _ _ (by rw[f1.sz];omega)) ((B5 _ _ (by decide)).trans (Bq _ _ (by rw[f0.sz];omega))) 28 zB (by rw[<-av];exact dm W3 _) AU (AD rfl) (by simp[Value.oneCell']) λY vx aG=>gi ?_
 rw[d7];have vx:qBl Y x (qbV B (qad g1) k1 (qad g2) k2 (qad g3) k3) 28:=vx.O;have H:Below W3.heap.size W3 Y:=(AN W3 _).trans (by rw[av];exact aG.below);have f6:(((a3.put (some 13) (.pointer (some ⟨z,1,none⟩))).put (some 14) (.agg (qbV B (qad g1) k1 (qad g2) k2 (qad g3) k3))).put (some 6) (.pointer (qad x))).eval (.tmp 6)=.pointer (qad x):=Bq _ _ (by rw[f1.sz];omega);have f5:(((a3.put (some 13) (.pointer (some ⟨z,1,none⟩))).put (some 14) (.agg (qbV B (qad g1) k1 (qad g2) k2 (qad g3) k3))).put (some 6) (.pointer (qad x))).eval (.tmp 5)=.pointer (qad z):=(B5 _ _ (by decide)).trans ((B5 _ _ (by decide)).trans ((B5 _ _ (by decide)).trans e5));show(Code.seq _ _).wp Tryz.prog Q (((a3.put (some 13) (.pointer (some ⟨z,1,none⟩))).put (some 14) (.agg (qbV B (qad g1) k1 (qad g2) k2 (qad g3) k3))).put (some 6) (.pointer (qad x))) Y
 revert f2 f5 f6
 generalize (((a3.put (some 13) (.pointer (some ⟨z,1,none⟩))).put (some 14) (.agg (qbV B (qad g1) k1 (qad g2) k2 (qad g3) k3))).put (some 6) (.pointer (qad x)))=a5;intro f2 f6 f5;clear f0 f1 aG
 -- the act
 have aK:WA Y aq M (qad g1) (qad g2) (qad g3) B:=(hA.below ag).below H;have au:BkAt Y (qad g1) (qad g2) (qad g3) B:=aK.bN.bj;have ah:Rd r Y 200000000:=(aH.below ag).below H;have al:okSp B:=⟨hA.ok.bs.tn,hA.ok.bz.2.2.2⟩;have a9:x<Y.heap.size:=(AB vx).1;have b5:=f2.sz;refine i0 (gZ ?_);refine CY u8 (DG q8) ?_;rw[d8,f2.e4];have l0:=f2.put (.pointer (qad r)) (d:=15) (by omega);refine dD u9 28 (.tmp 6) q9 x ((B5 _ _ (by decide)).trans f6) 28 _ (0,0) _ vx Tryz.underlying28 rfl AU ?_;rw[d9];have l1:=l0.put (.agg (qbV B (qad g1) k1 (qad g2) k2 (qad g3) k3)) (d:=16) (by omega);refine Ea ua (Pr rfl qa ((B5 _ _ (by decide)).trans (Bq _ _ (by omega))) (Bq _ _ (by rw[l0.sz];omega))) ((Na r 200000000 B _ _ _ k1 k2 k3 Y al au ah (by decide)).mono ?_);rintro _ w6 ⟨A,ae,ce,rfl,hE,hD,aE⟩;refine⟨_,rfl,?_⟩;rw[da];have l2:=l1.put (.agg (qaV A ae ce)) (d:=17) (by omega);refine CY ub (run_aA qb) ?_;rw[db];obtain⟨y,ax⟩:∃y,w6.heap.size=y:=⟨_,rfl⟩;rw[ax];have l3:=l2.put (.pointer (qad y)) (d:=7) (by omega);refine AM uc 45 (.tmp 7) (.tmp 17) qc y 0 (qaV A ae ce) (Bq _ _ (by rw[l2.sz];omega)) ((B5 _ _ (by decide)).trans (Bq _ _ (by rw[l1.sz];omega))) 45 zA (by rw[<-ax];exact dm w6 _) Bh (AD rfl) (by simp[Value.oneCell']) λW8 vy bi=>gi ?_
 rw[dc];have af:Below w6.heap.size w6 W8:=(AN w6 _).trans (by rw[ax];exact bi.below);have aw:=aE.1;have z1:=aS.size;have z3:=ag.size;have z5:=H.size;have z6:=aw.size;have z8:=af.size;have bO:=hR.lt;have ai:Past r Y.heap.size Y W8:=aw.next (AG _) (.of af);have F:Past r W.heap.size W W8:=((aS.next (AG _) (.of ag)).next (AG _) (.of H)).next (AG _) ai;have bf:WA W8 aq M (qad g1) (qad g2) (qad g3) B:=(aK.aP ah aw).below af;have bB:Rd r W8 ((200001400:Nat):Int):=((aE.2 _ ah).below af).mono (by decide);have c1:=hk.af.lt;have c2:=hk.ah.lt;have c3:=hk.ak.lt;have n1:=hk.n1;have n2:=hk.n2;have n3:=hk.n3;have a8:=(AB vf).1;have bk:=(AB cN).1
 refine act_tail (z:=z) (x:=x) (y:=y) (s:=Y.heap.size) (q:=200001400) (B:=B) (A:=A) (ae:=ae) (ce:=ce) (V0:=B) ⟨⟨l3.e2,l3.e3,(B5 _ _ (by decide)).trans ((B5 _ _ (by decide)).trans ((B5 _ _ (by decide)).trans ((B5 _ _ (by decide)).trans f6))),Bq _ _ (by rw[l2.sz];omega),l3.sz,l3.df⟩,l3.e4,(B5 _ _ (by decide)).trans ((B5 _ _ (by decide)).trans ((B5 _ _ (by decide)).trans ((B5 _ _ (by decide)).trans f5)))⟩
  ⟨⟨bz,by omega,by omega,by omega⟩,bB,by omega,Bn F vf a8 (by omega),Bn F cN bk (by omega),Bn ai vx a9 (by omega),au.aP ah ai,al,λb o hb=>?_,vy.O,hE.bu (AG _) λg _ hl _=>af.block g hl,λb hb e=>?_,F.os.trans kp.1,F.tape.trans kp.2.1,F.output.trans kp.2.2.1,λk hk=>(F.block k (by omega) (by omega)).trans (kp.2.2.2 k hk)⟩ hD (by omega) (Bn ai ((H.block z bt).trans vz) (by omega) (by omega)) bf (by decide) hQ
 ·rcases hb with hb|hb|hb<;>(cases hb;omega)
 ·have:=au.ck hb
  have:=(hE.lo e).1;omega
theorem L7(ao:qO)(n cap:Nat)(w:World)(hn:n<=1048576)(hc:n<=cap)(hC:IC w ao n):
  Calls Tryz.prog 21 #[.slice ao n cap] w λe w'=>∃(a1 a2 a3:qO) (c1 c2 c3:Nat) (B:Bk) (A:Ac) (ae:qO) (ce:Nat),e=.returned (.tuple #[.agg (qbV B a1 c1 a2 c2 a3 c3),.agg (qaV A ae ce)])/\BkAt w' a1 a2 a3 B/\okSp B/\SlE w' ae A.aw/\A.aw.length<=1001/\A.aa.size<=maxLen/\(∀e∈A.aw,(-9223372036854775808<=e.ai/\e.ai<=9223372036854775807)\/∃c∈B.ah,c.ai=e.ai)/\Below w.heap.size w w':=by
 obtain⟨t0,t1,t2⟩:=B1 w (.cells zB 28) (.cells zA 45);obtain⟨W0,J⟩:∃W,(w.alloc (.cells zB 28)).alloc (.cells zA 45)=W:=⟨_,rfl⟩;have H:Below w.heap.size w W0:=by rw[<-J];exact((dI _ _).alloc (AG _) _).alloc (by simp) _
 rw[J]at t0 t1 t2;have T0:Hid _:=t0;have T1:Hid _:=t1;have ak:Hid _:=t2
 have HC:Hid (IC W0 ao n):=λhp=>by
  obtain⟨b,off,e,Y,h⟩:=hC hp;exact⟨b,off,e,AF Y H.size,λi hi=>by rw[H.cell (p:=⟨b,off+i,none⟩) Y];exact h i hi⟩
 have ai:Hid _:=H;clear t0 t1 t2 hC H;unfold zB zA at J;go_enter Tryz.func21,Tryz.ntmps21
 go_upto_region 1 with fail
 rename_i K hK;have HK:Hid _:=hK;clear J hK
 go_wp2_with (go_at_call 36;refine(open_any ao n cap _ hn hc HC.O).mono ?_;rintro e w1 ⟨rfl,Z,F⟩;have am:Hid (Rd W0.heap.size w1 0):=Z;have ag:Hid _:=F;clear Z F)
 refine HK.O _ _ ?_;have aL:=ak.O;have F:=ag.O;have h0:=ai.O;refine act_mid (w:=w) (r:=W0.heap.size) ⟨rfl,rfl,rfl,rfl,rfl⟩ (by omega) am.O ((F.block _ (by omega)).trans T0.O) ((F.block _ (by omega)).trans T1.O) ⟨F.os.trans h0.os,F.tape.trans h0.tape,F.output.trans h0.output,λk hk=>(F.block k (by omega)).trans (h0.block k hk)⟩ ?_;intro a' W' B a1 a2 a3 c1 c2 c3 A ae ce x y eb vb va hB al hE hl hs aq M;exact dS (IJ rfl _ _ w.heap.size (w.heap.size+1) _ _ _ _ (0,0) (0,0) _ _ eb.e2 vb Tryz.underlying28 rfl AU eb.e3 va Tryz.underlying45 rfl Bh) eb.df ⟨a1,a2,a3,c1,c2,c3,B,A,ae,ce,rfl,hB,al,hE,hl,hs,aq,M⟩
end
