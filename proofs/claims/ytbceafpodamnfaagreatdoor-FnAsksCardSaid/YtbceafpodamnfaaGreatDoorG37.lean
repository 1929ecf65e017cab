import Derived.Test.YtbceafpodamnfaaGreatDoorG28
import Derived.Test.YtbceafpodamnfaaGreatDoorG36
import Derived.RangeFuncOwn
set_option linter.all false
set_option maxHeartbeats 16000000
set_option maxRecDepth 100000
namespace Go.Proofs.YtbceafpodamnfaaGreatDoor
section
open Go.RowKit Go.Sort Go.Shelf
open Go.Value renaming int->In,slice->Sl,string->Sg,bool->Bo,pointer->Po
open Go.IntKind renaming i64->i6
attribute [local go_sem] i7
def CT(B:Bk)(s:Svc)(c:Cp):Sn:=⟨c,c.aj !=s.aj,B5 B c⟩
def Eo(B:Bk)(s:Svc)(l:List Cp):List Sn:=(l.filter λc=>!c.am).map (CT B s)
def sArr(s:Svc)(N:Cnt)(d:Int)(v:Value):Array Value:=#[Sg s.name,In i6 s.ag,Bo s.aH,In i6 s.aj,In i6 s.au,In i6 s.aK,In i6 s.aG,In i6 s.next,In i6 s.aQ,In i6 s.az,In i6 s.aI,In i6 s.load,In i6 s.aA,In i6 N.aE,In i6 N.ready,In i6 N.aO,In i6 N.aD,In i6 N.am,In i6 d,v]
def D5(B:Bk)(s:Svc)(l:List {c // c∈B.ar}):List Sn:=Eo B s (l.map (·.1))
def Cs(l:List Sn):Nat:=l.countP (·.aM)
theorem VN(B:Bk)(s:Svc)(l:List Cp)(x:Cp):Eo B s (l++[x])=Eo B s l++(if x.am then [] else [CT B s x]):=by
 unfold Eo;rw[ez,fm];cases h:x.am<;>simp[List.filter,h]
theorem Vc(w:World)(A B C D:Obj):∃z,(((w.alloc A).alloc B).alloc C).alloc D=z/\z.heap[w.heap.size]?=some A/\z.heap[w.heap.size+1]?=some B/\z.heap[w.heap.size+1+1]?=some C/\z.heap[w.heap.size+1+1+1]?=some D/\w.heap.size+1+1+1+1<=z.heap.size/\Below w.heap.size w z:=by
 obtain⟨F,t1,t2,H,J⟩:=Vd w A B C D;exact⟨_,rfl,F,t1,t2,H,by rw[J];exact AG,(((((dG _ _).alloc AG _).alloc qs _).alloc qp _).alloc qp _)⟩
section
variable {P:Program}
theorem FC{ops:Array Oper}{rest:List Oper}{o:Oper}{a:Act}{w:World}{Q:Exit->Act->World->Prop}(aj:o.guard=none)(s x:Operand)(t:TypeId)
  (ho:o.op=.call {callee:=.builtin .append,args:=#[s,x],argTypes:=#[t,t]})
  (base:Nat) (e:TypeId) (z:Value) (size bytes:Nat) (ht:P.underlying t=some (.slice e)) (W:(P.info? e).map (λi=>(i.zero,i.size,i.bytes))=some (some z,size,bytes)) (am:z.cells.size=size) (al:0<size)
  (v:Value) (n:Nat) (xs:qL) (hs:a.eval s=v) (J:w.ownsRow base e size v n xs)
  (ad:Addr) (c:Nat) (F:qL) (hx:a.eval x=.slice (some ad) 1 c) (hl:F.length=1*size) (Y:∀j u,F[j]?=some u->w.cell? (ad.add j)=some u) (h1:∀u∈F,u.oneCell'=true)
  (ae:n+1<=maxLen) (M:(n+1)*bytes<=140737488355328) (O:base<=w.heap.size)
  (h:∀g cap w',base<=g->Hid (w'.ownsRow base e size (.slice (qad g) (n+1) cap) (n+1) (xs++F))->Below base w w'->(∀(k:Nat) (o:Obj),w.heap[k]?=some o->(∀cs fr,o≠.cells cs e fr)->w'.heap[k]?=some o)->wpList P ops Q rest (a.put o.dst (.slice (qad g) (n+1) cap)) w'):wpList P ops Q (o::rest) a w:=by
 obtain⟨i,hi,hz,ak,hb⟩:=gk W;refine gX w aj s x t ho base e i z size bytes ht hi hz ak hb am al v n xs hs J ad 1 c F hx hl Y h1 ae M O λv' w' Z H _=>?_
 have af:Below base w w':=⟨H.os,H.tape,H.output,H.size,λk hk=>H.block k qo (λe'=>by have:=(J.lt k e'.symm).1;omega)⟩;rcases Z.2 with⟨_,h0⟩|⟨g,cap,au,rfl,ag,_⟩
 ·omega
 ·refine h g cap w' ag Z af λk o hk hc=>?_
  refine(H.block k (AB hk).1 λe'=>?_).trans hk;rcases J.2 with⟨rfl,_⟩|⟨g0,an,aq,rfl,_,ah,_⟩
  ·simp[Value.ownBlock]at e'
  ·obtain rfl:k=g0:=by simpa [Value.ownBlock] using e'
   rw[ah]at hk;cases hk;exact hc _ _ rfl
theorem KX{ops:Array Oper}{rest:List Oper}{o:Oper}{a:Act}{w:World}{Q:Exit->Act->World->Prop}(M:o.guard=none)(l c:Operand)(t:TypeId)(O:o.op=Op.makeSlice t l c)
  (base:Nat) (e:TypeId) (z:Value) (size bytes:Nat) (ht:P.underlying t=some (.slice e)) (H:(P.info? e).map (λi=>(i.zero,i.size,i.bytes))=some (some z,size,bytes))
  (n:Nat) (hl:a.eval l=In i6 0) (hc:a.eval c=In i6 (n:Int)) (W:bytes*n<=281474976710656) (Y:n<=maxLen) (F:base<=w.heap.size)
  (h:∀w',w'.ownsRow base e size (Sl (some ⟨w.heap.size,0,none⟩) 0 n) 0 []->Below w.heap.size w w'->wpList P ops Q rest (a.put o.dst (Sl (some ⟨w.heap.size,0,none⟩) 0 n)) w'):
  wpList P ops Q (o::rest) a w:=by
 obtain⟨i,hi,hz,hs,hb⟩:=gk H;obtain⟨w',hr,ho,J⟩:=run_make_own (P:=P) w base t e i z size ht hi hz hs .i64 .i64 n (by rw[hb];exact W) Y F;refine gd M λK Z=>?_
 unfold Oper.wp;simp[execOp,O,hl,hc,hr,Result.andThen];exact Z _ _ (h w' ho ⟨J.os,J.tape,J.output,J.size,λk hk=>J.block k hk qs⟩)
theorem JY{n:Nat}{ops:Array Oper}{rest:List Oper}{o:Oper}{a:Act}{w:World}{Q:Exit->Act->World->Prop}(z:o.guard=none)(ty:TypeId)(x:Operand)(F:o.op=.load ty x)
  (g:Nat) (hx:a.eval x=.pointer (qad g)) (t:TypeId) (cs:Array Value) (fr:Nat × Nat) (d:TypeDesc) (O:w.heap[g]?=some (.cells cs t fr))
  (Y:P.underlying ty=some d) (M:(match d with| .struct _| .array _ _=>true|_=>false)=true) (W:(P.info? ty).map (·.size)=some cs.size)
  (h:wpListIn Fence.wide n P ops Q rest (a.put o.dst (.agg cs)) w):wpListIn Fence.wide n P ops Q (o::rest) a w:=by
 refine wpListIn_plain z λK H=>?_
 unfold Oper.wpIn;refine⟨λ_ _=>trivial,?_⟩;rw[Oper.semAt_plain Fence.wide _ _ (by rw[F];intro c J;cases J)];unfold execOp;simp only[F,hx,Instr.loadAt,Instr.sureAddr,eA,Sem.run_pure,Result.andThen_ok,iZ w g t ty cs fr d O Y M W];exact H _ _ h
theorem Id{n:Nat}{ops:Array Oper}{rest:List Oper}{o:Oper}{a:Act}{w:World}{Q:Exit->Act->World->Prop}(J:o.guard=none)(ty:TypeId)(x y:Operand)(O:o.op=.store ty x y)
  (g F:Nat) (cells:Array Value) (hx:a.eval x=Po (some ⟨g,F,none⟩)) (hy:a.eval y=.agg cells) (t:TypeId) (z:Array Value) (M:w.heap[g]?=some (.cells z t (0,0)))
  (hi:(P.info? ty).map (·.size)=some cells.size) (H:F+cells.size<=z.size) (W:cells.all (·.oneCell')=true)
  (h:∀w',Hid (w'.heap[g]?=some (.cells (splice z.toList F cells.toList).toArray t (0,0)))->BH g w w'->wpListIn Fence.wide n P ops Q rest (a.put o.dst undef) w'):wpListIn Fence.wide n P ops Q (o::rest) a w:=by
 refine wpListIn_plain J λK Y=>?_
 unfold Oper.wpIn;refine⟨λ_ _=>trivial,?_⟩;rw[Oper.semAt_plain Fence.wide _ _ (by rw[O];intro c Z;cases Z)];unfold execOp;simp only[O,hx,hy,Instr.storeAt,Instr.sureAddr,eA,Sem.run_pure,Result.andThen_ok,Gy w g F t ty z cells M hi H W];exact Y _ _ (h _ (gz w g z _ t _ M) (DU w g _))
end
theorem own_put{w:World}{lo D:Nat}{e:TypeId}{size:Nat}{v:Value}{n:Nat}{xs:qL}{q:Option (List Deferred)}{o':Obj}(h:w.ownsRow lo e size v n xs)(H:w.heap[D]?=some (.deferred q)):(w.putObj D o').ownsRow lo e size v n xs:=by
 obtain⟨J,F⟩:=h;refine⟨J,?_⟩;rcases F with F|⟨g,cap,z,r1,r2,r3,M⟩
 ·exact .inl F
 ·exact .inr ⟨g,cap,z,r1,r2,((grownBy_putObj' w D o').block g (AB r3).1 (λe=>by have:=dj e;subst this;rw[r3]at H;cases H)).trans r3,M⟩
theorem Ho{w w':World}{lo p:Nat}{e ty:TypeId}{size:Nat}{v:Value}{n:Nat}{xs:qL}{cs:Array Value}{fr:Nat × Nat}(h:w.ownsRow lo e size v n xs)(W:BH p w w')(J:w.heap[p]?=some (.cells cs ty fr))(H:ty≠e):w'.ownsRow lo e size v n xs:=by
 obtain⟨O,F⟩:=h;refine⟨O,?_⟩;rcases F with F|⟨g,cap,z,r1,r2,r3,Y⟩
 ·exact .inl F
 ·exact .inr ⟨g,cap,z,r1,r2,(W.aL g (λM=>by subst M;rw[r3]at J;cases J;exact H rfl)).trans r3,Y⟩
theorem G5{w w':World}{e:TypeId}(h:∀(k:Nat) (o:Obj),w.heap[k]?=some o->(∀cs fr,o≠.cells cs e fr)->w'.heap[k]?=some o){k:Nat}{cs:Array Value}{ty:TypeId}{fr:Nat × Nat}(hk:w.heap[k]?=some (.cells cs ty fr))(z:ty≠e):w'.heap[k]?=some (.cells cs ty fr):=
 h k _ hk (λF J H=>z (by cases H;rfl))
theorem UL{w w':World}{e:TypeId}(H:w.heap.size<=w'.heap.size)(h:∀(k:Nat) (o:Obj),w.heap[k]?=some o->(∀cs fr,o≠.cells cs e fr)->w'.heap[k]?=some o):KeepsOthers w w':=
 ⟨H,λk o hk F=>h k o hk (λcs fr z=>by subst z;cases F)⟩
theorem Ht{W W':World}(h:Below W.heap.size W W'):KeepsOthers W W':=⟨h.size,λk _o hk _=>(h.block k (AB hk).1).trans hk⟩
theorem JJ{W W':World}{g:Nat}{cs:Array Value}{ty:TypeId}{fr:Nat × Nat}(z:BH g W W')(H:W.heap[g]?=some (.cells cs ty fr)):KeepsOthers W W':=
 ⟨by rw[z.size];exact AG,λk o hk F=>by
  by_cases e:k=g
  ·subst e;rw[H]at hk;cases hk;cases F
  ·exact(z.aL k e).trans hk⟩
theorem U7{β:Type}(p lo:Nat)(ty e:TypeId)(size:Nat)(f:β->Option Addr->Nat->Array Value)(k:β->Nat)(xs:β->List Value):
  Go.Own (λs W=>∃al cl,W.heap[p]?=some (.cells (f s al cl) ty (0,0))/\W.ownsRow lo e size (Sl al (k s) cl) (k s) (xs s)):=by
 rintro s X Y row ⟨al,cl,M,h2⟩ hg z;refine⟨al,cl,(hg.block p (AB M).1 (λH=>?_)).trans M,h2.kept hg ?_⟩
 ·obtain⟨o,F,O⟩:=z p H.symm;rw[M]at F;cases F;cases O
 ·rcases h2.2 with⟨J,_⟩|⟨g,cap,af,J,_,Z,_⟩
  ·left;rw[J];rfl
  ·right
   intro H;rw[J]at H;obtain⟨o,F,O⟩:=z g (by simpa [Value.ownBlock] using H.symm);rw[Z]at F;cases F;cases O
theorem TB(l:List Sn):Cs l<=l.length:=List.countP_le_length
theorem VP(B:Bk)(s:Svc)(l:List {c // c∈B.ar})(x:{c // c∈B.ar}):D5 B s (l++[x])=D5 B s l++(if x.1.am then [] else [CT B s x.1]):=by unfold D5;rw[fm];exact VN B s _ _
theorem VO(B:Bk)(s:Svc)(l:List {c // c∈B.ar}):(D5 B s l).length<=l.length:=by unfold D5 Eo;rw[ef];refine AH (dV _ _) ?_;rw[ef];exact AG
theorem VM(B:Bk)(s:Svc)(l:List Cp):(Eo B s l).length<=l.length:=by unfold Eo;rw[ef];exact dV _ _
theorem Qa(B:Bk)(s:Svc)(b:Nat)(N:Cnt)(a1 a2 a3:qO)(c1 c2 c3:Nat)(w:World)(hV:Valid B)(ce:Hid (B.ar.length<=c2))(hS:B.aR)(hZ:B.aP)(hP:PlacesX w b B B.ah.length B.aw.length)(hB:BkAt w a1 a2 a3 B)(hN:Hid (N=Ar s.aj s.name B.ar B.ar.length))(L:List Sn)(hL:Hid (L=Eo B s (ofS s.name B.ar)))(dr:Int)(hy:Hid (dr=(Cs L:Int))):
  Calls Tryz.prog 93 #[.agg (qbV B a1 c1 a2 c2 a3 c3),.map (some b),.agg (qsV s)] w λe w'=>∃al cl,e=.returned (.agg (qhV s N dr al L.length cl))/\Hid (OwnSn w.heap.size w' al cl L)/\Below w.heap.size w w':=by
 have hl:=hS;obtain⟨jO,c7,jP⟩:=hl;obtain⟨W0,hq,t0,t1,t2,t3,jW,bK⟩:=Vc w (.cells (qbV B a1 c1 a2 c2 a3 c3) 28) (.cells #[.map (some b)] 141) (.cells (qsV s) 34) (.cells qzG 145);have T0:Hid _:=t0;have T1:Hid _:=t1;have T2:Hid _:=t2;have T3:Hid _:=t3;have HP:Hid (PlacesX w b B B.ah.length B.aw.length):=hP;have HB:Hid (BkAt w a1 a2 a3 B):=hB;have cd:Hid (∀W:World,Below W0.heap.size W0 W->Calls Tryz.prog 167 #[.agg (qbV B a1 c1 a2 c2 a3 c3),.agg (qsV s)] W λe w'=>e=.returned (.agg (qtV N))/\Below W.heap.size W w'):=λW h=>FB B s a1 a2 a3 c1 c2 c3 W c7 (Jg hV) ce ((hB.below bK).below h).2.1 N hN
 have f5:Hid (Ds B.ar):=Jg hV;have f6:Hid (∀c∈B.ar,c.aa.size<=maxLen/\c.aC.size<=maxLen):=hZ.2.2.2.2.1;clear t0 t1 t2 t3 hP hB;refine(iQ (n:=5)).1 ?_;refine callsIn_of_wp_marks Tryz.func93 rfl trivial ?_ rfl;simp only[Tryz.ntmps93,er,dM,fc,Nat.reduceAdd,Nat.reduceSub,iw,Array.replicate_zero,iO,iA,fq,fu]
 obtain⟨nl,f3,jR⟩:∃nl:Nat,Hid (N.aE=(nl:Int))/\nl<=1048576:=by
  have hu:=Ed s.aj s.name B.ar B.ar.length AG;rw[<-hN.ab]at hu;unfold Cnt.bj at hu;exact⟨N.aE.toNat,by unfold Hid;omega,qo⟩
 obtain⟨z0,z1,z2,z3,z4,z5,z6,z7⟩:=qc8 T2.ab;have z8:=AJ T2.ab 8;have z9:=AJ T2.ab 9;have a7:=AJ T2.ab 10;have a8:=AJ T2.ab 11;have a9:=AJ T2.ab 12;have y0:=AJ T0.ab 0;have y1:=AJ T0.ab 1;have y2:=AJ T0.ab 2;have y3:=AJ T0.ab 3
 gi_wp2
 refine⟨trivial,?_⟩;refine(iQ.2 (cd.ab W0 (dG _ _))).mono ?_;rintro e wc ⟨rfl,bS⟩;clear hq cd z0 z1 z2 z3 z4 z5 z6 z7 z8 z9 a7 a8 a9 y0 y1 y2 y3;obtain⟨W1,bE⟩:∃W,wc.alloc (.cells (qtV N) 83)=W:=⟨_,rfl⟩;have bT:=AN wc (.cells (qtV N) 83);have TN:Hid _:=dm wc (.cells (qtV N) 83);have h5:W1.heap.size=wc.heap.size+1:=by rw[<-bE];exact size_alloc' _ _
 have jy:wc.heap.size<W1.heap.size:=qo
 have jz:W1.heap.size<=wc.heap.size+1:=qo
 clear h5;rw[bE]at bT TN;have hU:=bS.size;have ax:=bS.trans (bT.mono hU);have ct:Hid _:=AK ax T0.ab;have cu:Hid _:=AK ax T1.ab;have ag:Hid _:=AK ax T2.ab;have cv:Hid _:=AK ax T3.ab
 gi_wp2
 clear bE bS bT T0 T1 T2 T3;refine wpIn_wide.2 ?_;refine AU 7 ?_;apply AL
 ·intro V W K A z hd F H
  simp only[pA]at F;subst F;have z0:=AJ (AK z ag.ab) 0;have z1:=AJ (AK z ag.ab) 1;have z2:=AJ (AK z ag.ab) 2;have z3:=AJ (AK z ag.ab) 3;have z4:=AJ (AK z ag.ab) 4;have z5:=AJ (AK z ag.ab) 5;have z6:=AJ (AK z ag.ab) 6;have z7:=AJ (AK z ag.ab) 7;have z8:=AJ (AK z ag.ab) 8;have z9:=AJ (AK z ag.ab) 9;have a7:=AJ (AK z ag.ab) 10;have a8:=AJ (AK z ag.ab) 11;have a9:=AJ (AK z ag.ab) 12;go_wp2;exact H.ab _ brf
 apply qA0
 ·intro V W K A z hd F H
  simp only[pA]at F;subst F;have z0:=AJ (AK z TN.ab) 0;have z1:=AJ (AK z TN.ab) 1;have z2:=AJ (AK z TN.ab) 2;have z3:=AJ (AK z TN.ab) 3;have z4:=AJ (AK z TN.ab) 4;go_wp2;exact H
 refine qA0 qP ?_
 apply qA0
 ·intro V W K A z hd F H
  simp only[pA,qv (hd 2)]at F;subst F;have z0:=AJ (AK z TN.ab) 0;go_wp2;exact H
 refine AZ (λv W=>∃g,v=.slice (qad g) 0 nl/\W.ownsRow W1.heap.size 214 9 (.slice (qad g) 0 nl) 0 []) (λv W W2 ⟨g,h1,h2⟩ hb=>⟨g,h1,Ai h2 hb AG⟩) ?_ ?_
 ·intro V W K A z hd F H
  simp only[pA,qv (hd 3)]at F;subst F
  go_wp2_with (refine KX rfl _ _ _ rfl W1.heap.size 214 _ 9 80 Tryz.underlying143 Fq nl rfl (by rw[<-f3.ab];rfl) qo qm z.size ?_;intro w9 hG hv)
  exact H.ab _ _ hv ⟨_,rfl,hG⟩
 refine AZ (λv W=>∃g,v=.agg (qhV s N 0 (qad g) 0 nl)/\W.ownsRow W1.heap.size 214 9 (.slice (qad g) 0 nl) 0 []) (λv W W2 ⟨g,h1,h2⟩ hb=>⟨g,h1,Ai h2 hb AG⟩) ?_ ?_
 ·intro V W K A z hd F H
  have d4:=hd 4;simp only[pA,qv (hd 0),qv (hd 1)]at F;generalize V 4=x4 at d4 F;subst F;obtain⟨g,rfl,ho⟩:=d4;go_wp2;exact H.ab _ _ brf ⟨g,rfl,ho⟩
 refine AZ (λv W=>∃p,v=.pointer (qad p)/\W1.heap.size<=p/\qBl W p qzG 145) (λv W W2 ⟨p,h1,h2,h3⟩ hb=>⟨p,h1,h2,AK hb h3 (AB h3).1⟩) ?_ ?_
 ·intro V W K A z hd F H
  simp only[pA]at F;subst F;go_wp2;exact H.ab _ _ (AN W _) ⟨_,rfl,z.size,dm W _⟩
 intro V W A z hS F;have d4:=hS 4;have d5:=hS 5;have d6:=hS 6;simp only[pA,qv (hS 0),qv (hS 1),qv (hS 2),qv (hS 3)]at F;clear hS;generalize V 4=x4 at d4 F;generalize V 5=x5 at d5 F;generalize V 6=x6 at d6 F;subst F;simp only[dA,dN];obtain⟨p,rfl,jS,hp⟩:=d6;obtain⟨g0,rfl,c6⟩:=d5;clear d4
 go_wp2_with (first
  |(refine qAM hp Ag ?_;intro w1 hz Z;have Y1:Hid (qBl w1 p (qhV s N 0 (qad g0) 0 nl) 145):=hz;have G1:Hid (w1.ownsRow W1.heap.size 214 9 (.slice (qad g0) 0 nl) 0 []):=Ho c6 Z hp qd;have ay:Hid _:=(Z.aL w.heap.size qo).trans (AK z ct.ab);have bv:Hid _:=(Z.aL (w.heap.size+1) qo).trans (AK z cu.ab);have aO:Hid _:=(Z.aL (w.heap.size+1+1) qo).trans (AK z ag.ab);have bw:Hid _:=(Z.aL (w.heap.size+1+1+1) qo).trans (AK z cv.ab);have aI:=((bK.trans (ax.mono bK.size)).trans (z.mono qo)).trans (Z.below.mono qo);have ju:W1.heap.size<=w1.heap.size:=AH z.size (by rw[Z.size];exact AG);clear hz Z))
 have hI:p<w1.heap.size:=(AB Y1.ab).1;obtain⟨W2,ht,u0,u1,jX,jv,aA⟩:=DH w1 (.cells (qbV B a1 c1 a2 c2 a3 c3) 28) (.cells #[Sg s.name] 9);have U0:Hid _:=u0;have U1:Hid _:=u1;have y0:=AJ ay.ab 0;have y1:=AJ ay.ab 1;have y2:=AJ ay.ab 2;have y3:=AJ ay.ab 3;have y4:=AJ aO.ab 0;clear z hp c6 ct cu ag cv TN u0 u1
 gi_wp2_with fail
 refine⟨trivial,?_⟩;refine(LQ Fence.wide _ trivial rfl B s.name a1 a2 a3 c1 c2 c3 _).mono ?_;rintro e w' ⟨rfl,rfl⟩
 gi_wp2
 clear y0 y1 y2 y3 y4 ht;have jA:=aI.size;have be:=aI.trans (aA.mono aI.size)
 have bC:B.ar≠[]->∃b a6,a2=some ⟨b,a6,none⟩/\b<w.heap.size/\LX W2 b a6 B.ar:=λhF=>
  let ⟨b,a6,e,hb,hat⟩:=HB.ab.2.1 hF
  ⟨b,a6,e,hb,λi c hc=>(hat i c hc).below be hb⟩
 have jQ:=ofA_len s.name B.ar
 refine wpIn_rangeFunc_ownH rfl qo (gf:=237) (lb:=#[Po (some ⟨w1.heap.size,0,none⟩),Po (some ⟨w1.heap.size+1,0,none⟩)]) rfl trivial (enters_of Tryz.func237 qk rfl)
  (Ku (5 - 1) qo w1.heap.size (w1.heap.size+1) w.heap.size B s.name a1 a2 a3 c1 c2 c3 c7 f5 ce W2 U0.ab U1.ab bC qo) (λh k=>⟨h.1.trans k.1,k.2.trans h.2⟩)
  (λW l o o' hl ho hc hw=>⟨belowK_b (w:=W2) qo W l o o' hl ho hc hw,by
   by_cases c8:(w1.heap.size+1)<W.heap.size
   ·exact(grownBy_putObj' W l o').block _ c8 (λe=>by have:=dj e;omega)
   ·have e1:W.heap[(w1.heap.size+1)]?=none:=by rw[io qo]
    have e2:(W.putObj l o').heap[(w1.heap.size+1)]?=none:=by rw[io];have:=(AB ho).1;omega
    rw[e1,e2]⟩) (dG _ _) (λ_=>rfl)
  (λM W=>((∃(al:qO) (cl:Nat),W.heap[p]?=some (.cells (sArr s N (Cs (D5 B s M):Int) (.slice al (D5 B s M).length cl)) 145 (0,0))/\W.ownsRow W1.heap.size 214 9 (.slice al (D5 B s M).length cl) (D5 B s M).length (JC (D5 B s M)))/\qBl W (w.heap.size) (qbV B a1 c1 a2 c2 a3 c3) 28/\qBl W (w.heap.size+1) #[.map (some b)] 141/\qBl W (w.heap.size+1+1) (qsV s) 34/\qBl W (w.heap.size+1+1+1) qzG 145/\qBl W (w1.heap.size+1) #[Sg s.name] 9)/\W2.heap.size<=W.heap.size/\Below w.heap.size w W)
  (λ_ _ _=>False)
  (OwnFrom.and (OwnFrom.and (Own.from (U7 p W1.heap.size 145 214 9 (λM al cl=>sArr s N (Cs (D5 B s M):Int) (.slice al (D5 B s M).length cl)) (λM=>(D5 B s M).length) (λM=>JC (D5 B s M))) _) (OwnFrom.and (Own.from (DL _ _ _) _) (OwnFrom.and (Own.from (DL _ _ _) _) (OwnFrom.and (Own.from (DL _ _ _) _) (OwnFrom.and (Own.from (DL _ _ _) _) (Own.from (DL _ _ _) _)))))) (OwnFrom.and (λ_ _ _ _ hs hg _=>AH hs hg.size) (ownFrom_below AG qo)))
  (λ_ _ _ _ _ hs _ _=>hs)
  ⟨⟨⟨some ⟨g0,0,none⟩,nl,AK aA Y1.ab hI,Ai (v:=.slice (qad g0) 0 nl) (n:=0) (xs:=[]) (e:=214) (size:=9) (lo:=W1.heap.size) G1.ab aA AG⟩,AK aA ay.ab,AK aA bv.ab,AK aA aO.ab,AK aA bw.ab,U1.ab⟩,AG,be⟩
  (λx a' W=>∃Bx,W2.heap.size<=Bx/\qBl W Bx (qcV x.1) 76/\a'={tmps:=#[.agg (qbV B a1 c1 a2 c2 a3 c3),.map (some b),.agg (qsV s),Po (some ⟨w.heap.size,0,none⟩),Po (some ⟨w.heap.size+1,0,none⟩),Po (some ⟨w.heap.size+1+1,0,none⟩),Po (some ⟨w.heap.size+1+1+1,0,none⟩),Po (some ⟨wc.heap.size,0,none⟩),.pointer (qad p),.pointer (qad Bx),undef,.agg (qbV B a1 c1 a2 c2 a3 c3),.agg (qsV s),.agg (qtV N),.agg (qsV s),.agg (qtV N),Po (some ⟨wc.heap.size,0,none⟩),In i6 N.aE,x4,.agg (qhV s N 0 (qad g0) 0 nl),.agg (qbV B a1 c1 a2 c2 a3 c3),Po (some ⟨w.heap.size+1+1,0,none⟩),Sg s.name,.func (.func 237) #[] #[Po (some ⟨w1.heap.size,0,none⟩),Po (some ⟨w1.heap.size+1,0,none⟩)],.agg (qcV x.1),undef,undef,undef,undef,undef,undef,undef,undef,undef,undef,undef,undef,undef,undef,undef,undef,undef,undef,undef,undef,undef,undef,undef],defers:=[]})
  (λx a' _ X Y row hs hg hr=>by obtain⟨Bx,g1,g2,g3⟩:=hs;exact⟨Bx,g1,DL Bx 76 (λ(_:Unit)=>(qcV x.1)) () X Y row g2 hg (λr e=>(hr r e).2),g3⟩)
  ?assign ?body ?done ?stop
 case assign=>
  rintro l M x W K ⟨⟨⟨al,cl,hY,hO⟩,h0,h1,h2,h3,h4⟩,a5,hB⟩ H
  gi_wp2
  have aq:=AN W (.cells (qcV x.1) 76);exact H _ _ ((KeepsOthers.alloc _ _).from _) ⟨(dG _ W).alloc hB.size _,aq.block _ qo⟩ ⟨⟨⟨al,cl,AK aq hY,Ai hO aq AG⟩,AK aq h0,AK aq h1,AK aq h2,AK aq h3,AK aq h4⟩,AH a5 aq.size,hB.alloc hB.size _⟩ ⟨W.heap.size,qo,dm W _,rfl⟩
 case stop=>
  rintro D c M W _ _ h _;exact h.elim
 case body=>
  rintro l M x a' W hl _ ⟨⟨⟨al,cl,a4,bD⟩,cL,cM,cN,cQ,cR⟩,a5,aF⟩ ⟨Bx,jL,aS,rfl⟩ c8;have cx:=aF.size;have db:=VO B s M;have c5:=TB (D5 B s M);have aM:Hid _:=VP B s M x;obtain⟨P,cm⟩:∃P,Hid (D5 B s M=P):=⟨_,rfl⟩;rw[cm.ab]at db c5 a4 bD aM;obtain⟨qi,HQ,jT,jU⟩:∃qi:Int,Hid ((Cs P:Int)=qi)/\0<=qi/\qi<=1048576:=⟨_,rfl,qo,qo⟩;rw[HQ.ab]at a4;have jM:P.length<=1048576:=qo
  have Y0:Hid (qBl W p (qhV s N qi al P.length cl) 145):=a4;have O0:Hid _:=bD;have H0:Hid _:=cL;have H1:Hid _:=cM;have H2:Hid _:=cN;have H3:Hid _:=cQ;have H4:Hid _:=cR;clear a4 bD cL cM cN cQ cR cm db c5 U0 U1 ay bv aO bw Y1 bC;rcases gc x.1.am with J|J
  ·have x5:W.cell? ⟨Bx,5,none⟩=some (.bool true):=by rw[<-J];exact AJ aS 5
   have HE:Hid (D5 B s (M++[x])=P):=by unfold Hid;rw[aM.ab,J];simp
   clear J aS
   gi_wp2
   exact⟨(KeepsOthers.refl _).from _,⟨dG _ _,rfl⟩,⟨⟨al,cl,by rw[HE.ab,HQ.ab];exact Y0.ab,by rw[HE.ab];exact O0.ab⟩,H0.ab,H1.ab,H2.ab,H3.ab,H4.ab⟩,a5,aF⟩
  have hX:Hid (qBl W Bx #[Sg x.1.aa,In i6 x.1.ak,In i6 x.1.ag,In i6 x.1.aj,In i6 x.1.ay,Bo false,Sg x.1.aC] 76):=by rw[<-J];exact aS
  have cz:Bx<W.heap.size:=(AB hX.ab).1;obtain⟨d,HD⟩:∃d,Hid (B5 B x.1=d):=⟨_,rfl⟩;obtain⟨o,HO⟩:∃o,Hid ((x.1.aj !=s.aj)=o):=⟨_,rfl⟩;have HE:Hid (D5 B s (M++[x])=P++[⟨x.1,o,d⟩]):=by unfold Hid;rw[aM.ab,J];simp[CT,HD.ab,HO.ab]
  have ch:Hid ((⟨x.1,o,d⟩:Sn).cells=(#[Sg x.1.aa,In i6 x.1.ak,In i6 x.1.ag,In i6 x.1.aj,In i6 x.1.ay,Bo false,Sg x.1.aC,Bo o,Bo d]:Array Value).toList):=by unfold Hid Sn.cells;simp[J]
  have cj:Hid (∀V:World,Below W.heap.size W V->Calls Tryz.prog 169 #[.agg (qbV B a1 c1 a2 c2 a3 c3),.map (some b),.agg #[Sg x.1.aa,In i6 x.1.ak,In i6 x.1.ag,In i6 x.1.aj,In i6 x.1.ay,Bo false,Sg x.1.aC]] V λe w'=>e=.returned (.bool d)/\Below V.heap.size V w'):=λV h=>by
   have cT:=aF.trans (h.mono aF.size);have h1:=Qw B x.1 b a1 a2 a3 c1 c2 c3 V hS (f6.ab x.1 x.2).2 (HP.ab.below cT HP.ab.lt) (HB.ab.below cT);rw[<-J,<-HD.ab];exact h1
  have aN:Hid (∀V:World,Calls Tryz.prog 170 #[.agg (qsV s),.agg #[Sg x.1.aa,In i6 x.1.ak,In i6 x.1.ag,In i6 x.1.aj,In i6 x.1.ay,Bo false,Sg x.1.aC]] V λe w'=>e=.returned (.bool o)/\Below V.heap.size V w'):=λV=>by
   have h1:=VV s x.1 V;rw[<-J,<-HO.ab];exact h1
  clear J aS aM HD HO;have e0:=AJ H0.ab 0;have e1:=AJ H0.ab 1;have e2:=AJ H0.ab 2;have e3:=AJ H0.ab 3;have m0:=AJ H1.ab 0;have x0:=AJ hX.ab 0;have x1:=AJ hX.ab 1;have x2:=AJ hX.ab 2;have x3:=AJ hX.ab 3;have x4:=AJ hX.ab 4;have x5:=AJ hX.ab 5;have x6:=AJ hX.ab 6
  gi_wp2_with fail
  refine⟨trivial,?_⟩;refine(CallsIn.inRound l (iQ.2 (cj.ab _ (dG _ _)))).mono ?_;rintro e w3 ⟨rfl,aj⟩;have jY:=aj.size;have Y3:Hid _:=AK aj Y0.ab;have O3:Hid _:=Ai O0.ab aj AG;have A0:Hid _:=AK aj H0.ab;have A1:Hid _:=AK aj H1.ab;have A2:Hid _:=AK aj H2.ab;have A3:Hid _:=AK aj H3.ab;have A4:Hid _:=AK aj H4.ab;have X3:Hid _:=AK aj hX.ab cz;have K3:=Ht aj;have E3:w3.heap[(w1.heap.size+1)]?=W.heap[(w1.heap.size+1)]?:=aj.block _ qo;have L3:Below w.heap.size W w3:=aj.mono cx;clear aj Y0 O0 H0 H1 H2 H3 H4 hX e0 e1 e2 e3 m0 x0 x1 x2 x3 x4 x5 x6 cj;cases d
  ·have bo:Hid ((Cs (P++[⟨x.1,o,false⟩]):Int)=qi):=by have h:=HQ.ab;unfold Hid Cs;unfold Cs at h;rw[List.countP_append];simp;exact h
   gi_wp2
   have Y4:=Y3;have O4:=O3;have B0:=A0;have B1:=A1;have B2:=A2;have B3:=A3;have B4:=A4;have X4:=X3;have K4:=K3;have E4:=E3;have L4:=L3;clear Y3 O3 A0 A1 A2 A3 A4 X3 K3 E3 L3;refine Fu 9 qk qk qk ?_;apply AL
   ·intro V W K A z hd F H
    simp only[pA]at F;subst F;go_wp2;exact H.ab _ brf
   apply qA0
   ·intro V W K A z hd F H
    simp only[pA,qv (hd 0)]at F;subst F;have ib:=AJ (AK z Y4.ab) 19;go_wp2;exact H
   apply qA0
   ·intro V W K A z hd F H
    simp only[pA]at F;subst F;have x0:=AJ (AK z X4.ab) 0;have x1:=AJ (AK z X4.ab) 1;have x2:=AJ (AK z X4.ab) 2;have x3:=AJ (AK z X4.ab) 3;have x4:=AJ (AK z X4.ab) 4;have x5:=AJ (AK z X4.ab) 5;have x6:=AJ (AK z X4.ab) 6;go_wp2;exact H
   apply qA0
   ·intro V W K A z hd F H
    simp only[pA]at F;subst F;have z0:=AJ (AK z B2.ab) 0;have z1:=AJ (AK z B2.ab) 1;have z2:=AJ (AK z B2.ab) 2;have z3:=AJ (AK z B2.ab) 3;have z4:=AJ (AK z B2.ab) 4;have z5:=AJ (AK z B2.ab) 5;have z6:=AJ (AK z B2.ab) 6;have z7:=AJ (AK z B2.ab) 7;have z8:=AJ (AK z B2.ab) 8;have z9:=AJ (AK z B2.ab) 9;have a7:=AJ (AK z B2.ab) 10;have a8:=AJ (AK z B2.ab) 11;have a9:=AJ (AK z B2.ab) 12;go_wp2;exact H
   apply qA0
   ·intro V W K A z hd F H
    simp only[pA]at F;subst F;have x0:=AJ (AK z X4.ab) 0;have x1:=AJ (AK z X4.ab) 1;have x2:=AJ (AK z X4.ab) 2;have x3:=AJ (AK z X4.ab) 3;have x4:=AJ (AK z X4.ab) 4;have x5:=AJ (AK z X4.ab) 5;have x6:=AJ (AK z X4.ab) 6;go_wp2;exact H
   apply AL
   ·intro V W K A z hd F H
    simp only[pA,qv (hd 3),qv (hd 4)]at F;subst F
    go_wp2_with fail
    refine(aN.ab _).mono ?_;rintro e w5 ⟨rfl,bO⟩;go_wp2;exact H.ab _ bO
   iterate 2 refine qA0 qP ?_
   refine AZ (λv V=>∃r,v=.slice (qad r) 1 1/\w3.heap.size<=r/\qBl V r #[Sg x.1.aa,In i6 x.1.ak,In i6 x.1.ag,In i6 x.1.aj,In i6 x.1.ay,Bo false,Sg x.1.aC,Bo o,Bo false] 214) (λv W W2 ⟨p,h1,h2,h3⟩ hb=>⟨p,h1,h2,AK hb h3 (AB h3).1⟩) ?_ ?_
   ·intro V W K A z hd F H
    simp only[pA,qv (hd 7)]at F;subst F;go_wp2;exact H.ab _ _ (AN W _) ⟨_,rfl,z.size,dm W _⟩
   intro V W A z hS F;have d8:=hS 8;simp only[pA,qv (hS 0),qv (hS 1),qv (hS 2),qv (hS 3),qv (hS 4),qv (hS 5),qv (hS 6),qv (hS 7)]at F;clear hS;generalize V 8=x8 at d8 F;subst F;simp only[dA,dN];obtain⟨r,rfl,hJ,hr⟩:=d8;have hT:=z.size;have Y5:Hid _:=AK z Y4.ab;have O5:Hid _:=Ai O4.ab z AG;have C0:Hid _:=AK z B0.ab;have C1:Hid _:=AK z B1.ab;have C2:Hid _:=AK z B2.ab;have C3:Hid _:=AK z B3.ab;have C4:Hid _:=AK z B4.ab;have K5:=K4.trans (Ht z);have E5:=(z.block (w1.heap.size+1) qo).trans E4;have L5:=L4.trans (z.mono qo);clear z Y4 O4 B0 B1 B2 B3 B4 X4 K4 E4 L4 aN
   go_wp2_with (first
    |(at_builtin;refine FC rfl (.tmp 37) (.tmp 44) 143 rfl W1.heap.size 214 _ 9 80 Tryz.underlying143 Fq rfl qo (Sl al P.length cl) P.length _ rfl O5.ab ⟨r,0,none⟩ 1 (#[Sg x.1.aa,In i6 x.1.ak,In i6 x.1.ag,In i6 x.1.aj,In i6 x.1.ay,Bo false,Sg x.1.aC,Bo o,Bo false]:Array Value).toList rfl rfl (DI hr) (λu hu=>(eL.1 (show(#[Sg x.1.aa,In i6 x.1.ak,In i6 x.1.ag,In i6 x.1.aj,In i6 x.1.ay,Bo false,Sg x.1.aC,Bo o,Bo false]:Array Value).all (·.oneCell')=true by simp[Value.oneCell'])) u (by simpa using hu)) qm qo qo ?_;intro g' am w6 hE O6 an K6;have Y6:Hid _:=G5 K6 Y5.ab qd;have D0:Hid _:=G5 K6 C0.ab qd;have D1:Hid _:=G5 K6 C1.ab qd;have D2:Hid _:=G5 K6 C2.ab qd;have D3:Hid _:=G5 K6 C3.ab qd;have D4:Hid _:=G5 K6 C4.ab qd;have E6:=D4.ab.trans (C4.ab.symm.trans E5);have L6:=L5.trans (an.mono qo);have Q6:=K5.trans (UL an.size K6);have hQ:=an.size;clear an K6)
    |(refine Am rfl 143 (.tmp 46) (.tmp 45) rfl p 19 (.slice (qad g') (P.length+1) am) rfl rfl Iz rfl rfl 145 (qhV s N qi al P.length cl) Y6.ab (AD rfl) ?_;intro w7 hz Z;have Y7:Hid (qBl w7 p (qhV s N qi (qad g') (P.length+1) am) 145):=hz;have F0:Hid _:=(Z.aL w.heap.size qo).trans D0.ab;have F1:Hid _:=(Z.aL (w.heap.size+1) qo).trans D1.ab;have F2:Hid _:=(Z.aL (w.heap.size+1+1) qo).trans D2.ab;have F3:Hid _:=(Z.aL (w.heap.size+1+1+1) qo).trans D3.ab;have F4:Hid _:=(Z.aL (w1.heap.size+1) qo).trans D4.ab;have E7:=(Z.aL (w1.heap.size+1) qo).trans E6;have L7:=L6.trans (Z.below.mono qo);have Q7:=Q6.trans (JJ Z Y6.ab);have O7:Hid _:=Ho O6.ab Z Y6.ab qd;have hR:=Z.size;clear hz Z))
   exact⟨Q7.from _,⟨L7,E7⟩,⟨⟨some ⟨g',0,none⟩,am,by rw[HE.ab,bo.ab];simp only[dE,dM,fc,dL];exact Y7.ab,by rw[HE.ab,Je,ch.ab];simp only[dE,dM,fc,dL];exact O7.ab⟩,F0.ab,F1.ab,F2.ab,F3.ab,F4.ab⟩,qo,aF.trans (L7.mono AG)⟩
  ·have bo:Hid ((Cs (P++[⟨x.1,o,true⟩]):Int)=qi+1):=by have h:=HQ.ab;unfold Hid Cs;unfold Cs at h;rw[List.countP_append];simp;exact h
   have ia:=AJ Y3.ab 18;have hj:=B7 Y3.ab 18;obtain⟨w4,bX⟩:∃w4,w3.setCell ⟨p,18,none⟩ (In i6 (qi+1))=w4:=⟨_,rfl⟩;have ak:BH p w3 w4:=by rw[<-bX];exact⟨λk hk=>Below.heap_setCell _ _ _ k hk,(dG p w3).setCell (p:=⟨p,18,none⟩) AG _,CS _ _ _⟩
   have Y4:Hid (qBl w4 p (qhV s N (qi+1) al P.length cl) 145):=by unfold Hid;rw[<-bX];exact CN Y3.ab 18 (In i6 (qi+1))
   have hM:w4.heap.size=w3.heap.size:=ak.size;have jw:w3.heap.size<=w4.heap.size:=qo
   have jx:w4.heap.size<=w3.heap.size:=qo
   have O4:Hid _:=Ho O3.ab ak Y3.ab qd;have B0:Hid _:=(ak.aL w.heap.size qo).trans A0.ab;have B1:Hid _:=(ak.aL (w.heap.size+1) qo).trans A1.ab;have B2:Hid _:=(ak.aL (w.heap.size+1+1) qo).trans A2.ab;have B3:Hid _:=(ak.aL (w.heap.size+1+1+1) qo).trans A3.ab;have B4:Hid _:=(ak.aL (w1.heap.size+1) qo).trans A4.ab;have X4:Hid _:=(ak.aL Bx qo).trans X3.ab;have K4:=K3.trans (JJ ak Y3.ab);have E4:=(ak.aL (w1.heap.size+1) qo).trans E3;have L4:=L3.trans (ak.below.mono qo);clear ak hM O3 A0 A1 A2 A3 A4 X3 K3 E3 L3
   gi_wp2
   clear ia hj bX Y3;refine Fu 9 qk qk qk ?_;apply AL
   ·intro V W K A z hd F H
    simp only[pA]at F;subst F;go_wp2;exact H.ab _ brf
   apply qA0
   ·intro V W K A z hd F H
    simp only[pA,qv (hd 0)]at F;subst F;have ib:=AJ (AK z Y4.ab) 19;go_wp2;exact H
   apply qA0
   ·intro V W K A z hd F H
    simp only[pA]at F;subst F;have x0:=AJ (AK z X4.ab) 0;have x1:=AJ (AK z X4.ab) 1;have x2:=AJ (AK z X4.ab) 2;have x3:=AJ (AK z X4.ab) 3;have x4:=AJ (AK z X4.ab) 4;have x5:=AJ (AK z X4.ab) 5;have x6:=AJ (AK z X4.ab) 6;go_wp2;exact H
   apply qA0
   ·intro V W K A z hd F H
    simp only[pA]at F;subst F;have z0:=AJ (AK z B2.ab) 0;have z1:=AJ (AK z B2.ab) 1;have z2:=AJ (AK z B2.ab) 2;have z3:=AJ (AK z B2.ab) 3;have z4:=AJ (AK z B2.ab) 4;have z5:=AJ (AK z B2.ab) 5;have z6:=AJ (AK z B2.ab) 6;have z7:=AJ (AK z B2.ab) 7;have z8:=AJ (AK z B2.ab) 8;have z9:=AJ (AK z B2.ab) 9;have a7:=AJ (AK z B2.ab) 10;have a8:=AJ (AK z B2.ab) 11;have a9:=AJ (AK z B2.ab) 12;go_wp2;exact H
   apply qA0
   ·intro V W K A z hd F H
    simp only[pA]at F;subst F;have x0:=AJ (AK z X4.ab) 0;have x1:=AJ (AK z X4.ab) 1;have x2:=AJ (AK z X4.ab) 2;have x3:=AJ (AK z X4.ab) 3;have x4:=AJ (AK z X4.ab) 4;have x5:=AJ (AK z X4.ab) 5;have x6:=AJ (AK z X4.ab) 6;go_wp2;exact H
   apply AL
   ·intro V W K A z hd F H
    simp only[pA,qv (hd 3),qv (hd 4)]at F;subst F
    go_wp2_with fail
    refine(aN.ab _).mono ?_;rintro e w5 ⟨rfl,bO⟩;go_wp2;exact H.ab _ bO
   iterate 2 refine qA0 qP ?_
   refine AZ (λv V=>∃r,v=.slice (qad r) 1 1/\w4.heap.size<=r/\qBl V r #[Sg x.1.aa,In i6 x.1.ak,In i6 x.1.ag,In i6 x.1.aj,In i6 x.1.ay,Bo false,Sg x.1.aC,Bo o,Bo true] 214) (λv W W2 ⟨p,h1,h2,h3⟩ hb=>⟨p,h1,h2,AK hb h3 (AB h3).1⟩) ?_ ?_
   ·intro V W K A z hd F H
    simp only[pA,qv (hd 7)]at F;subst F;go_wp2;exact H.ab _ _ (AN W _) ⟨_,rfl,z.size,dm W _⟩
   intro V W A z hS F;have d8:=hS 8;simp only[pA,qv (hS 0),qv (hS 1),qv (hS 2),qv (hS 3),qv (hS 4),qv (hS 5),qv (hS 6),qv (hS 7)]at F;clear hS;generalize V 8=x8 at d8 F;subst F;simp only[dA,dN];obtain⟨r,rfl,hJ,hr⟩:=d8;have hT:=z.size;have Y5:Hid _:=AK z Y4.ab;have O5:Hid _:=Ai O4.ab z AG;have C0:Hid _:=AK z B0.ab;have C1:Hid _:=AK z B1.ab;have C2:Hid _:=AK z B2.ab;have C3:Hid _:=AK z B3.ab;have C4:Hid _:=AK z B4.ab;have K5:=K4.trans (Ht z);have E5:=(z.block (w1.heap.size+1) qo).trans E4;have L5:=L4.trans (z.mono qo);clear z Y4 O4 B0 B1 B2 B3 B4 X4 K4 E4 L4 aN
   go_wp2_with (first
    |(at_builtin;refine FC rfl (.tmp 37) (.tmp 44) 143 rfl W1.heap.size 214 _ 9 80 Tryz.underlying143 Fq rfl qo (Sl al P.length cl) P.length _ rfl O5.ab ⟨r,0,none⟩ 1 (#[Sg x.1.aa,In i6 x.1.ak,In i6 x.1.ag,In i6 x.1.aj,In i6 x.1.ay,Bo false,Sg x.1.aC,Bo o,Bo true]:Array Value).toList rfl rfl (DI hr) (λu hu=>(eL.1 (show(#[Sg x.1.aa,In i6 x.1.ak,In i6 x.1.ag,In i6 x.1.aj,In i6 x.1.ay,Bo false,Sg x.1.aC,Bo o,Bo true]:Array Value).all (·.oneCell')=true by simp[Value.oneCell'])) u (by simpa using hu)) qm qo qo ?_;intro g' am w6 hE O6 an K6;have Y6:Hid _:=G5 K6 Y5.ab qd;have D0:Hid _:=G5 K6 C0.ab qd;have D1:Hid _:=G5 K6 C1.ab qd;have D2:Hid _:=G5 K6 C2.ab qd;have D3:Hid _:=G5 K6 C3.ab qd;have D4:Hid _:=G5 K6 C4.ab qd;have E6:=D4.ab.trans (C4.ab.symm.trans E5);have L6:=L5.trans (an.mono qo);have Q6:=K5.trans (UL an.size K6);have hQ:=an.size;clear an K6)
    |(refine Am rfl 143 (.tmp 46) (.tmp 45) rfl p 19 (.slice (qad g') (P.length+1) am) rfl rfl Iz rfl rfl 145 (qhV s N (qi+1) al P.length cl) Y6.ab (AD rfl) ?_;intro w7 hz Z;have Y7:Hid (qBl w7 p (qhV s N (qi+1) (qad g') (P.length+1) am) 145):=hz;have F0:Hid _:=(Z.aL w.heap.size qo).trans D0.ab;have F1:Hid _:=(Z.aL (w.heap.size+1) qo).trans D1.ab;have F2:Hid _:=(Z.aL (w.heap.size+1+1) qo).trans D2.ab;have F3:Hid _:=(Z.aL (w.heap.size+1+1+1) qo).trans D3.ab;have F4:Hid _:=(Z.aL (w1.heap.size+1) qo).trans D4.ab;have E7:=(Z.aL (w1.heap.size+1) qo).trans E6;have L7:=L6.trans (Z.below.mono qo);have Q7:=Q6.trans (JJ Z Y6.ab);have O7:Hid _:=Ho O6.ab Z Y6.ab qd;have hR:=Z.size;clear hz Z))
   exact⟨Q7.from _,⟨L7,E7⟩,⟨⟨some ⟨g',0,none⟩,am,by rw[HE.ab,bo.ab];simp only[dE,dM,fc,dL];exact Y7.ab,by rw[HE.ab,Je,ch.ab];simp only[dE,dM,fc,dL];exact O7.ab⟩,F0.ab,F1.ab,F2.ab,F3.ab,F4.ab⟩,qo,aF.trans (L7.mono AG)⟩
 case done=>
  rintro D ys W hD rfl ⟨⟨⟨al,cl,hY,hO⟩,h0,h1,h2,h3,h4⟩,a5,hB⟩ H;have ci:D5 B s (ofA s.name B.ar.attach)=L:=by unfold D5;rw[ofA_map];exact hL.ab.symm
  rw[ci]at hY hO;have Y:Hid (qBl W p (qhV s N dr al L.length cl) 145):=by unfold Hid;rw[hy.ab];exact hY
  have O:Hid _:=hO;have R:Hid _:=h3;have HK:Hid _:=H;have cf:D≠w.heap.size+1+1+1:=qo
  have jH:D≠p:=qo
  clear hY hO h0 h1 h2 h3 h4 H ci U0 U1 ay bv aO bw Y1 bC
  gi_wp2_with (first
   |(refine JY rfl 145 (.tmp 8) rfl p rfl 145 (qhV s N dr al L.length cl) (0,0) _ Y.ab Tryz.underlying145 rfl Ag ?_)
   |(refine Id rfl 145 (.tmp 6) (.tmp 47) rfl (w.heap.size+1+1+1) 0 (qhV s N dr al L.length cl) rfl rfl 145 qzG R.ab Ag (AD rfl) (by simp[Value.oneCell']) ?_;intro wf hz Z;have RF:Hid (qBl wf (w.heap.size+1+1+1) (qhV s N dr al L.length cl) 145):=hz;have BF:=hB.trans (Z.below.mono qo);have OF:=Ho O.ab Z R.ab qd;have KF:Hid _:=(Z.aL D cf).trans HK.ab;have jZ:=Z.size;clear hz Z))
  refine⟨qs,.inl ⟨_,_,rfl,run_takeDeferred KF.ab,?_⟩⟩;have hX:=((grownBy_putObj' wf D (.deferred none)).block (w.heap.size+1+1+1) qo (λe=>cf (dj e).symm)).trans RF.ab;exact⟨.agg (qhV s N dr al L.length cl),fj rfl _ _ (w.heap.size+1+1+1) _ _ _ _ rfl hX Tryz.underlying145 rfl Ag,al,cl,rfl,BC (own_put OF KF.ab) (show w.heap.size<=W1.heap.size by omega),BF.trans (belowK_b (w:=w) AG _ D _ _ qo KF.ab rfl rfl)⟩
end
section
open Go.RowKit Go.Sort
open Go.Value renaming int->In,slice->Sl,string->Sg,bool->Bo,pointer->Po
open Go.IntKind renaming i64->i6
section
variable {P:Program}
theorem Ic{ops:Array Oper}{rest:List Oper}{o:Oper}{a:Act}{w:World}{Q:Exit->Act->World->Prop}(ah:o.guard=none)(s x:Operand)(t:TypeId)
  (ho:o.op=.call {callee:=.builtin .append,args:=#[s,x],argTypes:=#[t,t]})
  (base:Nat) (e:TypeId) (z:Value) (size bytes:Nat) (ht:P.underlying t=some (.slice e)) (W:(P.info? e).map (λi=>(i.zero,i.size,i.bytes))=some (some z,size,bytes)) (am:z.cells.size=size) (al:0<size)
  (v:Value) (n:Nat) (xs:qL) (hs:a.eval s=v) (M:w.ownsRow base e size v n xs)
  (ad:Addr) (c:Nat) (F:qL) (hx:a.eval x=.slice (some ad) 1 c) (hl:F.length=1*size) (Y:∀j u,F[j]?=some u->w.cell? (ad.add j)=some u) (h1:∀u∈F,u.oneCell'=true)
  (ae:n+1<=maxLen) (J:(n+1)*bytes<=140737488355328) (O:base<=w.heap.size)
  (h:∀g cap w',base<=g->Hid (w'.ownsRow base e size (.slice (qad g) (n+1) cap) (n+1) (xs++F))->Below base w w'->Hid (∀k,k<w.heap.size->v.ownBlock≠some k->w'.heap[k]?=w.heap[k]?)->wpList P ops Q rest (a.put o.dst (.slice (qad g) (n+1) cap)) w'):wpList P ops Q (o::rest) a w:=by
 obtain⟨i,hi,hz,ak,hb⟩:=gk W;refine gX w ah s x t ho base e i z size bytes ht hi hz ak hb am al v n xs hs M ad 1 c F hx hl Y h1 ae J O λv' w' Z H _=>?_
 have af:Below base w w':=⟨H.os,H.tape,H.output,H.size,λk hk=>H.block k qo (λe'=>by have:=(M.lt k e'.symm).1;omega)⟩;rcases Z.2 with⟨_,h0⟩|⟨g,cap,an,rfl,ag,_⟩
 ·omega
 ·exact h g cap w' ag Z af λk hk aj=>H.block k hk (λe'=>aj e'.symm)
end
theorem ID:∀(l:List Co) (j:Nat) (x:Co),l[j]?=some x->∀i,i<8->(DQ l)[j*8+i]?=(Bj x)[i]?
 |[],_,_,h=>by simp at h
 |y::l,0,x,h=>λi z=>by
  simp at h;subst h;rw[ik,dL];unfold DQ;rw[eB,dT (by simp[Bj];omega)]
 |y::l,j+1,x,h=>λi z=>by
  have:=ID l j x (by simpa using h) i z;have F:(Bj y).length=8:=by simp[Bj]
  have e:DQ (y::l)=Bj y++DQ l:=rfl;rw[e,dU (by rw[F];omega),F,show(j+1)*8+i - 8=j*8+i by omega];exact this
structure AskO(lo:Nat)(w:World)(ao:qO)(co:Nat)(R:List Co):Prop where
 row:w.ownsRow lo 45 8 (Sl ao R.length co) R.length (DQ R)
 aB:∀(j:Nat) r,R[j]?=some r->w.ownsRow lo 88 2 (.slice r.2.1 r.1.aB.length r.2.2) r.1.aB.length (D7 r.1.aB)
 apart:∀(i j:Nat) r r',R[i]?=some r->R[j]?=some r'->i≠j->r.1.aB≠[]->r'.1.aB≠[]->r.2.1≠r'.2.1
theorem AskO.nil(lo:Nat)(w:World):AskO lo w none 0 []:=⟨World.ownsRow_nil _ _ _ _,λj r h=>by simp at h,λi j r r' h=>by simp at h⟩
theorem AskO.below{lo:Nat}{w w':World}{ao:qO}{co:Nat}{R:List Co}(h:AskO lo w ao co R)(hb:Below w.heap.size w w'):AskO lo w' ao co R:=
 ⟨Ai h.row hb AG,λj r z=>Ai (h.aB j r z) hb AG,h.apart⟩
theorem Fg{lo:Nat}{w:World}{a:qO}{c:Nat}{l:List En}(h:w.ownsRow lo 88 2 (Sl a l.length c) l.length (D7 l))(Z:l≠[]):∃ge z,a=some ⟨ge,0,none⟩/\lo<=ge/\qBl w ge z 88/\l.length*2<=z.size/\z.toList.take (l.length*2)=D7 l:=by
 rcases h.2 with⟨_,H⟩|⟨g,cap,z,F,J,M,O,h4,W,Y⟩
 ·exact absurd (eF.1 H) Z
 ·refine⟨g,z,?_,J,M,?_,Y⟩
  ·injection F
  ·rw[W];exact em _ O
theorem AskO.add{lo N0:Nat}{w w':World}{ao:qO}{co:Nat}{R:List Co}(h:AskO lo w ao co R)(an:∀(j:Nat) r,R[j]?=some r->r.1.aB≠[]->∀ge,r.2.1=some ⟨ge,0,none⟩->ge<N0)(r:Co)
  (hr:w.ownsRow lo 88 2 (.slice r.2.1 r.1.aB.length r.2.2) r.1.aB.length (D7 r.1.aB)) (aq:r.1.aB≠[]->∀ge,r.2.1=some ⟨ge,0,none⟩->N0<=ge)
  {g cap:Nat} (ag:w'.ownsRow lo 45 8 (.slice (qad g) (R.length+1) cap) (R.length+1) (DQ R++Bj r))
  (hk:∀k,k<w.heap.size->(Value.slice ao R.length co).ownBlock≠some k->w'.heap[k]?=w.heap[k]?):AskO lo w' (qad g) cap (R++[r]):=by
 have J:∀(q:Co),w.ownsRow lo 88 2 (.slice q.2.1 q.1.aB.length q.2.2) q.1.aB.length (D7 q.1.aB)->w'.ownsRow lo 88 2 (.slice q.2.1 q.1.aB.length q.2.2) q.1.aB.length (D7 q.1.aB):=λq z=>by
  obtain⟨h1,h2⟩:=z;refine⟨h1,?_⟩;rcases h2 with h2|⟨ge,cp,ah,r1,r2,r3,r4⟩
  ·exact .inl h2
  ·refine .inr ⟨ge,cp,ah,r1,r2,(hk ge (AB r3).1 λe=>?_).trans r3,r4⟩
   rcases h.row.2 with⟨M,_⟩|⟨g0,c0,au,M,_,ae,_⟩
   ·rw[M]at e;simp[Value.ownBlock]at e
   ·rw[M]at e
    obtain rfl:g0=ge:=by simpa [Value.ownBlock] using e
    rw[r3]at ae;have:=dj ae;injection this with _ ht _
    exact absurd ht qd
 have at_:∀(j:Nat) q,(R++[r])[j]?=some q->(j<R.length/\R[j]?=some q)\/(j=R.length/\q=r):=λj q z=>by
  rcases eW j R.length with O|O
  ·rw[dT O]at z;exact .inl ⟨O,z⟩
  ·rw[dU O]at z
   have:j - R.length=0:=by
    rcases gi (j - R.length) with h0|h0
    ·exact h0
    ·rw[eq qp]at z;cases z
   rw[this]at z;exact .inr ⟨qo,by simpa using z.symm⟩
 refine⟨?_,λj q z=>?_,λi j q q' hi O al z Z=>?_⟩
 ·rw[dE,Ou];exact ag
 ·rcases at_ j q z with⟨_,z⟩|⟨_,rfl⟩
  ·exact J q (h.aB j q z)
  ·exact J q hr
 ·have blk:∀(k:Nat) (x:Co),R[k]?=some x->x.1.aB≠[]->∃ge,x.2.1=some ⟨ge,0,none⟩/\ge<N0:=λk x hx F=>by
   obtain⟨ge,_,e,_⟩:=Fg (h.aB k x hx) F;exact⟨ge,e,an k x hx F ge e⟩
  have H:r.1.aB≠[]->∃ge,r.2.1=some ⟨ge,0,none⟩/\N0<=ge:=λF=>by
   obtain⟨ge,_,e,_⟩:=Fg hr F;exact⟨ge,e,aq F ge e⟩
  rcases at_ i q hi with⟨am,af⟩|⟨am,rfl⟩
  ·rcases at_ j q' O with⟨Y,W⟩|⟨Y,rfl⟩
   ·exact h.apart i j q q' af W al z Z
   ·obtain⟨g1,M,h1⟩:=blk i q af z
    obtain⟨g2,e2,h2⟩:=H Z;rw[M,e2];intro e;injection e with e;injection e;omega
  ·rcases at_ j q' O with⟨Y,W⟩|⟨Y,rfl⟩
   ·obtain⟨g1,M,h1⟩:=blk j q' W Z
    obtain⟨g2,e2,h2⟩:=H z;rw[M,e2];intro e;injection e with e;injection e;omega
   ·omega
theorem AskO.sl{lo:Nat}{w:World}{ao:qO}{co:Nat}{R:List Co}(h:AskO lo w ao co R):SlA w ao R:=λO=>by
 have M:=h.row;rcases M.2 with⟨_,h0⟩|⟨g,cap,aa,e1,h1,h2,h3,h4,h5,h6⟩
 ·exact absurd (eF.1 h0) O
 ·have ea:ao=some ⟨g,0,none⟩:=by injection e1
  subst ea;refine⟨g,0,rfl,(AB h2).1,λi r Z=>⟨?_,λhn=>?_⟩⟩
  ·have J:=World.ownsRow.cells h.row (g:=g) rfl
   have hv:∀(j:Nat) (u:Value),j<8->(Bj r)[j]?=some u->w.cell? ⟨g,0+i*8+j,none⟩=some u:=λj u hj z=>by
    have:=J (i*8+j) u ((ID R i r Z j hj).trans z);rw[fP,dL]at this;rw[dL];exact this
   unfold AcAt;exact⟨hv 0 _ qo rfl,hv 1 _ qo rfl,hv 2 _ qo rfl,hv 3 _ qo rfl,hv 4 _ qo rfl,hv 5 _ qo rfl,hv 6 _ qo rfl,hv 7 _ qo rfl⟩
  ·obtain⟨ge,F,e2,al,H,aq,W⟩:=Fg (h.aB i r Z) hn
   refine⟨ge,0,e2,(AB H).1,λk s hs=>?_⟩;have J:=UZ r.1.aB k s hs;rw[<-W]at J;unfold EnAt;rw[dL]
   have Y:∀(q:Nat) (u:Value),(F.toList.take (r.1.aB.length*2))[q]?=some u->w.cell? ⟨ge,q,none⟩=some u:=λq u z=>by
    rw[H6 H];rw[eK]at z;split at z
    ·exact z
    ·cases z
   exact⟨Y _ _ J.1,Y _ _ J.2⟩
end
end Go.Proofs.YtbceafpodamnfaaGreatDoor
