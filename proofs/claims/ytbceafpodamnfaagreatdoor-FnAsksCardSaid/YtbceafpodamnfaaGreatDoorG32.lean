import Derived.Test.YtbceafpodamnfaaGreatDoorG13
import Derived.Test.YtbceafpodamnfaaGreatDoorG14
import Derived.Deep.DeepCutAuto
set_option linter.all false
set_option maxHeartbeats 8000000
set_option maxRecDepth 100000
namespace Go.Proofs.YtbceafpodamnfaaGreatDoor
section
open Go.RowKit Go.Sort
open Go.Value renaming int->In,slice->Sl,string->Sg,bool->Bo,pointer->Po
open Go.IntKind renaming i64->i6
theorem two_newO(w:World)(A B:Obj):∃z,(w.alloc A).alloc B=z/\z.heap[w.heap.size]?=some A/\z.heap[w.heap.size+1]?=some B/\w.heap.size+1+1<=z.heap.size/\z.heap.size<=w.heap.size+1+1/\Below w.heap.size w z:=by
 obtain⟨F,t1,t2⟩:=CL w A B;exact⟨_,rfl,F,t1,by rw[t2];exact AG,by rw[t2];exact AG,((dG _ _).alloc AG _).alloc qs _⟩
theorem KT:(Tryz.prog.info? 28).map (·.size)=some 4:=qk
def RowN(w:World)(N:Nat)(e:TypeId)(size:Nat)(ao:qO)(n cap:Nat)(xs:qL):Prop:=
 (ao=none/\n=0/\cap=0/\xs=[])\/∃g,ao=some ⟨g,0,none⟩/\N<=g/\RowIs w e size g n cap xs
theorem RowN.aV{w w':World}{N:Nat}{e:TypeId}{size:Nat}{ao:qO}{n cap:Nat}{xs:qL}(h:RowN w N e size ao n cap xs)(hb:∀g cs fr,N<=g->w.heap[g]?=some (.cells cs e fr)->w'.heap[g]?=w.heap[g]?):RowN w' N e size ao n cap xs:=by
 rcases h with h|⟨g,J,F,H⟩
 ·exact .inl h
 ·obtain⟨_,_,z,M,_⟩:=id H
  exact .inr ⟨g,J,F,H.aV (hb g z _ F M)⟩
theorem RowN.below{w w':World}{N:Nat}{e:TypeId}{size:Nat}{ao:qO}{n cap:Nat}{xs:qL}(h:RowN w N e size ao n cap xs)(hb:Below w.heap.size w w'):RowN w' N e size ao n cap xs:=
 h.aV λg _ _ _ z=>hb.block g (AB z).1
theorem RowN.ai{w w':World}{N:Nat}{e t:TypeId}{size:Nat}{ao:qO}{n cap:Nat}{xs:qL}{b:Nat}{cs:Array Value}{fr:Nat × Nat}(h:RowN w N e size ao n cap xs)(O:BH b w w')(hb:w.heap[b]?=some (.cells cs t fr))(M:t≠e):RowN w' N e size ao n cap xs:=
 h.aV λg F J _ z=>O.aL g λH=>by
  rw[H,hb]at z;injection z with z
  injection z with _ z
  exact M z
theorem RowN.mono{w:World}{N M:Nat}{e:TypeId}{size:Nat}{ao:qO}{n cap:Nat}{xs:qL}(h:RowN w N e size ao n cap xs)(J:M<=N):RowN w M e size ao n cap xs:=by
 rcases h with h|⟨g,z,F,H⟩
 ·exact .inl h
 ·exact .inr ⟨g,z,AH J F,H⟩
theorem RowN.some{w:World}{N:Nat}{e:TypeId}{size:Nat}{ao:qO}{n cap:Nat}{xs:qL}(h:RowN w N e size ao n cap xs)(z:n≠0):∃g,ao=some ⟨g,0,none⟩/\N<=g/\RowIs w e size g n cap xs:=by
 rcases h with h|h
 ·exact absurd h.2.1 z
 ·exact h
theorem RowN.ck{w:World}{N:Nat}{e:TypeId}{ao:qO}{n cap:Nat}{l:List Svc}(h:RowN w N e 13 ao n cap (Af l)):SlS w ao l:=λz=>by
 rcases h with h|⟨g,F,_,H⟩
 ·exfalso
  have:=GN l;rw[h.2.2.2]at this
  cases l with
  |nil=>exact z rfl
  |cons x l=>simp at this
 ·rw[F];exact H.ck z
theorem RowN.bZ{w:World}{N:Nat}{e:TypeId}{ao:qO}{n cap:Nat}{l:List Cp}(h:RowN w N e 7 ao n cap (Ay l)):SlC w ao l:=λz=>by
 rcases h with h|⟨g,F,_,H⟩
 ·exfalso
  have:=CJ l;rw[h.2.2.2]at this
  cases l with
  |nil=>exact z rfl
  |cons x l=>simp at this
 ·rw[F];exact H.bZ z
theorem RowN.cA{w:World}{N:Nat}{e:TypeId}{ao:qO}{n cap:Nat}{l:List Bt}(h:RowN w N e 2 ao n cap (Cd l)):SlB w ao l:=λz=>by
 rcases h with h|⟨g,F,_,H⟩
 ·exfalso
  have:=KJ l;rw[h.2.2.2]at this
  cases l with
  |nil=>exact z rfl
  |cons x l=>simp at this
 ·rw[F];exact H.cA z
structure BkOf(w:World)(N:Nat)(B:Bk)(a1 a2 a3:qO)(k1 k2 k3:Nat):Prop where
 ah:RowN w N 34 13 a1 B.ah.length k1 (Af B.ah)
 ar:RowN w N 76 7 a2 B.ar.length k2 (Ay B.ar)
 aw:RowN w N 90 2 a3 B.aw.length k3 (Cd B.aw)
theorem BkOf.at{w:World}{N:Nat}{B:Bk}{a1 a2 a3:qO}{k1 k2 k3:Nat}(h:BkOf w N B a1 a2 a3 k1 k2 k3):BkAt w a1 a2 a3 B:=⟨h.ah.ck,h.ar.bZ,h.aw.cA⟩
theorem BkOf.below{w w':World}{N:Nat}{B:Bk}{a1 a2 a3:qO}{k1 k2 k3:Nat}(h:BkOf w N B a1 a2 a3 k1 k2 k3)(hb:Below w.heap.size w w'):BkOf w' N B a1 a2 a3 k1 k2 k3:=⟨h.ah.below hb,h.ar.below hb,h.aw.below hb⟩
theorem BkOf.mono{w:World}{N M:Nat}{B:Bk}{a1 a2 a3:qO}{k1 k2 k3:Nat}(h:BkOf w N B a1 a2 a3 k1 k2 k3)(z:M<=N):BkOf w M B a1 a2 a3 k1 k2 k3:=⟨h.ah.mono z,h.ar.mono z,h.aw.mono z⟩
theorem BkOf.ai{w w':World}{N b:Nat}{t:TypeId}{cs:Array Value}{fr:Nat × Nat}{B:Bk}{a1 a2 a3:qO}{k1 k2 k3:Nat}(h:BkOf w N B a1 a2 a3 k1 k2 k3)(z:BH b w w')(hb:w.heap[b]?=some (.cells cs t fr))(F:t≠34)(H:t≠76)(J:t≠90):BkOf w' N B a1 a2 a3 k1 k2 k3:=⟨h.ah.ai z hb F,h.ar.ai z hb H,h.aw.ai z hb J⟩
theorem FQ:(Tryz.prog.info? 34).map (λi=>(i.zero,i.size,i.bytes))=some (some (.agg #[.string ⟨#[]⟩,In i6 0,Bo false,In i6 0,In i6 0,In i6 0,In i6 0,In i6 0,In i6 0,In i6 0,In i6 0,In i6 0,In i6 0]),13,112):=qk
theorem Ey:(Tryz.prog.info? 76).map (λi=>(i.zero,i.size,i.bytes))=some (some (.agg qyV),7,72):=qk
theorem LV:(Tryz.prog.info? 90).map (λi=>(i.zero,i.size,i.bytes))=some (some (.agg #[.string ⟨#[]⟩,Bo false]),2,24):=qk
section
variable {P:Program}
theorem Bv{ops:Array Oper}{rest:List Oper}{o:Oper}{a:Act}{w:World}{Q:Exit->Act->World->Prop}(W:o.guard=none)(s x:Operand)(t:TypeId)
  (ho:o.op=.call {callee:=.builtin .append,args:=#[s,x],argTypes:=#[t,t]})
  (e:TypeId) (z:Value) (size bytes:Nat) (ht:P.underlying t=some (.slice e)) (J:(P.info? e).map (λi=>(i.zero,i.size,i.bytes))=some (some z,size,bytes)) (ax:z.cells.size=size) (aq:0<size)
  (hs:a.eval s=Sl none 0 0)
  (ao:qO) (m c:Nat) (F:qL) (hx:a.eval x=Sl ao m c) (hl:F.length=m*size) (aa:m≠0->∃ad,ao=some ad/\∀j u,F[j]?=some u->w.cell? (ad.add j)=some u) (h1:∀u∈F,u.oneCell'=true)
  (aF:m<=maxLen) (M:m*bytes<=140737488355328)
  (aw:m=0->wpList P ops Q rest (a.put o.dst (Sl none 0 0)) w)
  (h:m≠0->∀g cap w',w.heap.size<=g->Hid (RowIs w' e size g m cap F)->Below w.heap.size w w'->wpList P ops Q rest (a.put o.dst (.slice (qad g) m cap)) w'):wpList P ops Q (o::rest) a w:=by
 by_cases hm:m=0
 ·subst hm
  refine gd W λK hK=>?_
  unfold Oper.wp execOp;obtain⟨i,hi,hz,Z,hb⟩:=gk J
  have hr:(Builtin.append_ #[t,t] o.type #[Sl none 0 0,Sl ao 0 c]).run P w=.ok (Sl none 0 0) w:=by
   cases ao with
   |none=>simp[Builtin.append_,fQ ht,sizeOf,typeInfo,hi,Builtin.lenOf,Builtin.firstCells,storeCells]
   |some ad=>simp[Builtin.append_,fQ ht,sizeOf,typeInfo,hi,Builtin.lenOf,Builtin.firstCells,storeCells,loadCells,loadCellsFrom]
  simp only[ho,resolve,invoke,builtin,eA,Sem.run_pure,Result.andThen_ok,fK,dK,ed,hs,hx,hr];exact hK _ _ (aw rfl)
 ·obtain⟨ad,rfl,O⟩:=aa hm
  obtain⟨i,hi,hz,Z,hb⟩:=gk J;refine gX w W s x t ho w.heap.size e i z size bytes ht hi hz Z hb ax aq (Sl none 0 0) 0 [] hs ⟨qs,.inl ⟨rfl,rfl⟩⟩ ad m c F hx hl O h1 qo (by simpa using M) AG λv' w' an H _=>?_
  have ah:Below w.heap.size w w':=⟨H.os,H.tape,H.output,H.size,λk hk=>H.block k hk (λe'=>by cases e')⟩;rcases an.2 with⟨_,h0⟩|⟨g,cap,ag,rfl,aj,al,Y,_,ak,ae⟩
  ·omega
  ·have hn:0+m=m:=qo
   rw[hn]at Y ae ⊢;exact h hm g cap w' aj ⟨by simpa using hl,Y,ag,al,ak,by simpa using ae⟩ ah
end
theorem Bs{w:World}{N:Nat}{e:TypeId}{size:Nat}{ao:qO}{n cap:Nat}{xs:qL}(h:RowN w N e size ao n cap xs):Hid (RowN w N e size ao n cap xs):=h
theorem DE{w:World}{N:Nat}{B:Bk}{a1 a2 a3:qO}{k1 k2 k3:Nat}(h:BkOf w N B a1 a2 a3 k1 k2 k3):Hid (BkOf w N B a1 a2 a3 k1 k2 k3):=h
theorem Sy(l:List Svc)(ao:qO)(cap:Nat)(w:World)(hl:l.length<=1048576)(h:SlS w ao l):
  Calls Tryz.prog 199 #[Sl ao l.length cap] w λe w'=>∃O k,e=.returned (Sl O l.length k)/\RowN w' w.heap.size 34 13 O l.length k (Af l)/\Below w.heap.size w w':=by
 have z:Hid _:=h.bG;clear h;go_enter Tryz.func199,Tryz.ntmps199
 by_cases F:l.length=0
 ·have W:Hid (Af l=[]):=by unfold Hid;rw[eF.1 F];rfl
  have H:Hid _:=F
  go_wp2_with (at_builtin;refine Bv rfl (.const (Sl none 0 0)) (.tmp 3) 24 rfl 34 _ 13 112 Tryz.underlying24 FQ rfl qo rfl ao l.length cap (Af l) rfl (GN _) z.ab (IM _) qm qo (λ_=>?_) (λM=>absurd H.ab M))
  go_ret;exact⟨none,0,by rw[H.ab];rfl,.inl ⟨rfl,H.ab,rfl,W.ab⟩,dG _ _⟩
 ·have J:Hid _:=F
  clear F
  go_wp2_with (at_builtin;refine Bv rfl (.const (Sl none 0 0)) (.tmp 3) 24 rfl 34 _ 13 112 Tryz.underlying24 FQ rfl qo rfl ao l.length cap (Af l) rfl (GN _) z.ab (IM _) qm qo (λY=>absurd Y J.ab) (λ_=>?_);intro g k w1 Z hr hb)
  go_ret;exact⟨some ⟨g,0,none⟩,k,rfl,.inr ⟨g,rfl,Z,hr.ab⟩,hb⟩
theorem Sz(l:List Cp)(ao:qO)(cap:Nat)(w:World)(hl:l.length<=1048576)(h:SlC w ao l):
  Calls Tryz.prog 200 #[Sl ao l.length cap] w λe w'=>∃O k,e=.returned (Sl O l.length k)/\RowN w' w.heap.size 76 7 O l.length k (Ay l)/\Below w.heap.size w w':=by
 have z:Hid _:=h.bG;clear h;go_enter Tryz.func200,Tryz.ntmps200
 by_cases F:l.length=0
 ·have W:Hid (Ay l=[]):=by unfold Hid;rw[eF.1 F];rfl
  have H:Hid _:=F
  go_wp2_with (at_builtin;refine Bv rfl (.const (Sl none 0 0)) (.tmp 3) 25 rfl 76 _ 7 72 Tryz.underlying25 Ey rfl qo rfl ao l.length cap (Ay l) rfl (CJ _) z.ab (Hy _) qm qo (λ_=>?_) (λM=>absurd H.ab M))
  go_ret;exact⟨none,0,by rw[H.ab];rfl,.inl ⟨rfl,H.ab,rfl,W.ab⟩,dG _ _⟩
 ·have J:Hid _:=F
  clear F
  go_wp2_with (at_builtin;refine Bv rfl (.const (Sl none 0 0)) (.tmp 3) 25 rfl 76 _ 7 72 Tryz.underlying25 Ey rfl qo rfl ao l.length cap (Ay l) rfl (CJ _) z.ab (Hy _) qm qo (λY=>absurd Y J.ab) (λ_=>?_);intro g k w1 Z hr hb)
  go_ret;exact⟨some ⟨g,0,none⟩,k,rfl,.inr ⟨g,rfl,Z,hr.ab⟩,hb⟩
theorem S4(l:List Bt)(ao:qO)(cap:Nat)(w:World)(hl:l.length<=1048576)(h:SlB w ao l):
  Calls Tryz.prog 201 #[Sl ao l.length cap] w λe w'=>∃O k,e=.returned (Sl O l.length k)/\RowN w' w.heap.size 90 2 O l.length k (Cd l)/\Below w.heap.size w w':=by
 have z:Hid _:=h.bG;clear h;go_enter Tryz.func201,Tryz.ntmps201
 by_cases F:l.length=0
 ·have W:Hid (Cd l=[]):=by unfold Hid;rw[eF.1 F];rfl
  have H:Hid _:=F
  go_wp2_with (at_builtin;refine Bv rfl (.const (Sl none 0 0)) (.tmp 3) 26 rfl 90 _ 2 24 Tryz.underlying26 LV rfl qo rfl ao l.length cap (Cd l) rfl (KJ _) z.ab (NP _) qm qo (λ_=>?_) (λM=>absurd H.ab M))
  go_ret;exact⟨none,0,by rw[H.ab];rfl,.inl ⟨rfl,H.ab,rfl,W.ab⟩,dG _ _⟩
 ·have J:Hid _:=F
  clear F
  go_wp2_with (at_builtin;refine Bv rfl (.const (Sl none 0 0)) (.tmp 3) 26 rfl 90 _ 2 24 Tryz.underlying26 LV rfl qo rfl ao l.length cap (Cd l) rfl (KJ _) z.ab (NP _) qm qo (λY=>absurd Y J.ab) (λ_=>?_);intro g k w1 Z hr hb)
  go_ret;exact⟨some ⟨g,0,none⟩,k,rfl,.inr ⟨g,rfl,Z,hr.ab⟩,hb⟩
theorem Iu(B:Bk)(a1 a2 a3:qO)(c1 c2 c3:Nat)(w:World)(Y:B.aR)(hB:BkAt w a1 a2 a3 B):
  Calls Tryz.prog 102 #[.agg (qbV B a1 c1 a2 c2 a3 c3)] w λe w'=>∃b1 d1 Z d2 b3 d3,e=.returned (.agg (qbV B b1 d1 Z d2 b3 d3))/\BkOf w' w.heap.size B b1 Z b3 d1 d2 d3/\Below w.heap.size w w':=by
 obtain⟨aD,aF,aG⟩:=Y;obtain⟨W0,aB,t0,t1,bd,aS,O⟩:=two_newO w (.cells (qbV B a1 c1 a2 c2 a3 c3) 28) (.cells qzV 28);have T0:Hid _:=t0;have T1:Hid _:=t1;clear t0 t1;go_enter Tryz.func102,Tryz.ntmps102
 go_upto_region 1 with fail
 clear aB;refine AU 12 ?_;apply AL
 ·intro V W K A H J z M
  simp only[pA]at z;subst z;go_wp2;exact M.ab _ brf
 apply qA0
 ·intro V W K A H J z M
  simp only[pA,qv (J 0)]at z;subst z;have e0:=AJ (AK H T0.ab) 0;go_wp2;exact M
 refine qA0 qP ?_
 apply qA0
 ·intro V W K A H J z M
  simp only[pA,qv (J 2)]at z;subst z;have e1:=AJ (AK H T0.ab) 1;go_wp2;exact M
 refine AZ (λv W=>∃F c,v=.slice F B.ah.length c/\RowN W W0.heap.size 34 13 F B.ah.length c (Af B.ah)) (λv W W2 ⟨F,c,h1,h2⟩ hb=>⟨F,c,h1,h2.below hb⟩) ?_ ?_
 ·intro V W K A H J z M
  simp only[pA,qv (J 3)]at z;subst z
  go_wp2_with fail
  refine(Sy B.ah a1 c1 W aD (hB.1.below (O.trans (H.mono O.size)))).mono ?_;rintro e w2 ⟨F,c,rfl,hr,ag⟩;have af:=Bs hr;have ah:=H.size;clear hr;go_wp2;exact M.ab _ _ ag ⟨F,c,rfl,af.ab.mono ah⟩
 refine qA0 qP ?_
 apply qA0
 ·intro V W K A H J z M
  simp only[pA,qv (J 5)]at z;subst z;have e2:=AJ (AK H T0.ab) 2;go_wp2;exact M
 refine AZ (λv W=>∃F c,v=.slice F B.ar.length c/\RowN W W0.heap.size 76 7 F B.ar.length c (Ay B.ar)) (λv W W2 ⟨F,c,h1,h2⟩ hb=>⟨F,c,h1,h2.below hb⟩) ?_ ?_
 ·intro V W K A H J z M
  simp only[pA,qv (J 6)]at z;subst z
  go_wp2_with fail
  refine(Sz B.ar a2 c2 W aF (hB.2.1.below (O.trans (H.mono O.size)))).mono ?_;rintro e w2 ⟨F,c,rfl,hr,ag⟩;have af:=Bs hr;have ah:=H.size;clear hr;go_wp2;exact M.ab _ _ ag ⟨F,c,rfl,af.ab.mono ah⟩
 refine qA0 qP ?_
 apply qA0
 ·intro V W K A H J z M
  simp only[pA,qv (J 8)]at z;subst z;have e3:=AJ (AK H T0.ab) 3;go_wp2;exact M
 refine AZ (λv W=>∃F c,v=.slice F B.aw.length c/\RowN W W0.heap.size 90 2 F B.aw.length c (Cd B.aw)) (λv W W2 ⟨F,c,h1,h2⟩ hb=>⟨F,c,h1,h2.below hb⟩) ?_ ?_
 ·intro V W K A H J z M
  simp only[pA,qv (J 9)]at z;subst z
  go_wp2_with fail
  refine(S4 B.aw a3 c3 W aG (hB.2.2.below (O.trans (H.mono O.size)))).mono ?_;rintro e w2 ⟨F,c,rfl,hr,ag⟩;have af:=Bs hr;have ah:=H.size;clear hr;go_wp2;exact M.ab _ _ ag ⟨F,c,rfl,af.ab.mono ah⟩
 refine AZ (λv W=>∃b1 d1 Z d2 b3 d3,v=.agg (qbV B b1 d1 Z d2 b3 d3)/\BkOf W W0.heap.size B b1 Z b3 d1 d2 d3) (λv W W2 ⟨b1,d1,Z,d2,b3,d3,h,hr⟩ hb=>⟨b1,d1,Z,d2,b3,d3,h,hr.below hb⟩) ?_ ?_
 ·intro V W K A H J z M
  have d4:=J 4;have d7:=J 7;have aj:=J 10;simp only[pA,qv (J 1)]at z;generalize V 4=x4 at d4 z;generalize V 7=x7 at d7 z;generalize V 10=aH at aj z;subst z;obtain⟨b1,d1,rfl,r1⟩:=d4;obtain⟨Z,d2,rfl,r2⟩:=d7;obtain⟨b3,d3,rfl,r3⟩:=aj;have R1:=Bs r1;have R2:=Bs r2;have R3:=Bs r3;clear r1 r2 r3;go_wp2;exact M.ab _ _ brf ⟨b1,d1,Z,d2,b3,d3,rfl,R1.ab,R2.ab,R3.ab⟩
 intro V W A H Y z;have d0:V 0=_:=Y 0;have d1:V 1=_:=Y 1;have d2:V 2=_:=Y 2;have d3:V 3=_:=Y 3;have d4:(λv W=>∃F c,v=.slice F B.ah.length c/\RowN W W0.heap.size 34 13 F B.ah.length c (Af B.ah)) (V 4) W:=Y 4;have d5:V 5=_:=Y 5;have d6:V 6=_:=Y 6;have d7:(λv W=>∃F c,v=.slice F B.ar.length c/\RowN W W0.heap.size 76 7 F B.ar.length c (Ay B.ar)) (V 7) W:=Y 7;have d8:V 8=_:=Y 8;have d9:V 9=_:=Y 9;have aj:(λv W=>∃F c,v=.slice F B.aw.length c/\RowN W W0.heap.size 90 2 F B.aw.length c (Cd B.aw)) (V 10) W:=Y 10;have am:=Y 11;simp only[pA,d0,d1,d2,d3,d5,d6,d8,d9]at z;clear Y d0 d1 d2 d3 d5 d6 d8 d9;generalize V 4=x4 at d4 z;generalize V 7=x7 at d7 z;generalize V 10=aH at aj z;generalize V 11=be at am z;subst z;simp only[dA,dN];obtain⟨b1,e1,Z,e2,b3,e3,rfl,hr⟩:=am;have HR:=DE hr;have Z0:Hid _:=AK H T1.ab;have aC:=O.trans (H.mono O.size);clear hr
 go_wp2_with (refine qAM Z0.ab KT ?_;intro w2 hz on;have Z2:Hid (qBl w2 (w.heap.size+1) (qbV B b1 e1 Z e2 b3 e3) 28):=hz;have al:Hid (BH (w.heap.size+1) W w2):=on;clear hz on)
 exact dF (v:=.agg (qbV B b1 e1 Z e2 b3 e3)) (fj rfl _ _ (w.heap.size+1) _ _ _ _ rfl Z2.ab Tryz.underlying28 rfl KT) rfl ⟨b1,e1,Z,e2,b3,e3,rfl,(HR.ab.ai al.ab Z0.ab qd qd qd).mono qo,aC.trans (al.ab.below.mono qo)⟩
end
section
open Go.RowKit Go.Sort Go.Maps
open Go.Value renaming int->In,slice->Sl,string->Sg,bool->Bo,pointer->Po
open Go.IntKind renaming i64->i6
def Tq(B:Bk):Prop:=∀(i j:Nat) s t,i<j->B.aw[i]?=some s->B.aw[j]?=some t->s.name≠t.name
theorem NO{B:Bk}(h:∀i,i<B.aw.length->CQ B i=true):∀(j i:Nat) s t,i<j->B.aw[i]?=some s->B.aw[j]?=some t->Op.bytesLess s.name.toList t.name.toList=true
 |0,i,_,_,O,_,_=>absurd O qo
 |j+1,i,s,t,O,H,W=>by
  have z:j+1<B.aw.length:=(AC W).1;obtain⟨p,F⟩:∃p,B.aw[j]?=some p:=⟨B.aw[j]' qo,by rw[dz]⟩
  have M:Op.bytesLess p.name.toList t.name.toList=true:=by
   have:=h (j+1) z;unfold CQ at this;rw[W]at this;simp[F]at this;exact this.2
  rcases eW i j with J|J
  ·exact CP _ _ _ (NO h j i s p J H F) M
  ·have e:i=j:=qo
   subst e;rw[F]at H;cases H;exact M
theorem QL{B:Bk}(h:BT (CQ B) B.aw.length=true):Tq B:=λi j s t z J M e=>by
 have F:∀i,i<B.aw.length->CQ B i=true:=λi H=>by
  unfold BT at h;exact dt.1 h i (dH.2 H)
 have:=NO F j i s t z J M;rw[e,BE]at this;cases this
def PlacesX(w:World)(b:Nat)(B:Bk)(ks kb:Nat):Prop:=∃(n:Nat) (D:DataW Unit),n<=ks+kb/\w.ownsMap Tryz.prog 181 (plainElem Tryz.prog 3) b n D/\
 (∀x:ByteArray,x.size<=maxLen->(∀(i:Nat) s,i<ks->B.ah[i]?=some s->s.name≠x)->Maps.has D (key 1 x)=false)/\
 (∀(i:Nat) s,i<ks->B.ah[i]?=some s->Maps.has D (key 1 s.name)=true/\D.atKey (key 1 s.name) (.lit (.int .i64 0))=.lit (.int .i64 i))/\
 (∀x:ByteArray,x.size<=maxLen->(∀(i:Nat) s,i<kb->B.aw[i]?=some s->s.name≠x)->Maps.has D (key 2 x)=false)/\
 (∀(i:Nat) s,i<kb->B.aw[i]?=some s->Maps.has D (key 2 s.name)=true/\D.atKey (key 2 s.name) (.lit (.int .i64 0))=.lit (.int .i64 i))
theorem PlacesX.aV{w w':World}{b:Nat}{B:Bk}{H z:Nat}(h:PlacesX w b B H z)(hb:w'.heap[b]?=w.heap[b]?):PlacesX w' b B H z:=by
 obtain⟨n,D,O,⟨es,clock,M,F,W,J⟩,r⟩:=h;exact⟨n,D,O,⟨es,clock,by rw[hb];exact M,F,W,J⟩,r⟩
theorem PlacesX.below{w w':World}{b N:Nat}{B:Bk}{F z:Nat}(h:PlacesX w b B F z)(hb:Below N w w')(H:b<N):PlacesX w' b B F z:=h.aV (hb.block b H)
theorem PlacesX.lt{w:World}{b:Nat}{B:Bk}{H F:Nat}(h:PlacesX w b B H F):b<w.heap.size:=by
 obtain⟨n,D,J,z,_⟩:=h;exact z.lt
theorem PlacesX.start(w:World)(B:Bk):PlacesX (w.alloc (.map #[] 0)) w.heap.size B 0 0:=
 ⟨0,.map [],AG,World.ownsMap_made w _ _ _,λ_ _ _=>rfl,λi s z=>absurd z qo,λ_ _ _=>rfl,λi s z=>absurd z qo⟩
theorem PlacesX.bu{w':World}{b:Nat}{B:Bk}{k n:Nat}{D:DataW Unit}{s:Svc}(hz:∀s∈B.ah,s.name.size<=maxLen)(_hzb:∀s∈B.aw,s.name.size<=maxLen)(hu:Ja B)(z:B.ah[k]?=some s)
  (hn:n<=k+0) (h1:∀x:ByteArray,x.size<=maxLen->(∀(i:Nat) s,i<k->B.ah[i]?=some s->s.name≠x)->Maps.has D (key 1 x)=false)
  (h2:∀(i:Nat) s,i<k->B.ah[i]?=some s->Maps.has D (key 1 s.name)=true/\D.atKey (key 1 s.name) (.lit (.int .i64 0))=.lit (.int .i64 i))
  (h3:∀x:ByteArray,x.size<=maxLen->(∀(i:Nat) s,i<0->B.aw[i]?=some s->s.name≠x)->Maps.has D (key 2 x)=false)
  (hD:IsMap D)
  (W:w'.ownsMap Tryz.prog 181 (plainElem Tryz.prog 3) b (n+1) (D.put (key 1 s.name) (.lit (.int .i64 (k:Int))))):PlacesX w' b B (k+1) 0:=by
 have H:=hz s (AE z);refine⟨n+1,_,qo,W,λx hx F=>?_,λi t M J=>?_,λx hx F=>?_,λi t M=>absurd M qo⟩
 ·rw[has_put_other (C9 wf1 hx H (λe=>F k s qo z e.symm))]
  exact h1 x hx λi t M J=>F i t qo J
 ·rcases eW i k with Y|Y
  ·have Z:=hz t (AE J)
   have O:=C9 wf1 Z H (hu i k t s Y J z);rw[has_put_other O,atKey_put_other O];exact h2 i t Y J
  ·have e:i=k:=qo
   subst e;rw[z]at J;cases J;exact⟨has_put_same hD (EZ _ _) _,atKey_put_same hD (EZ _ _) _ _⟩
 ·rw[has_put_other (λe=>DA H hx e.symm)]
  exact h3 x hx λi t M=>absurd M qo
theorem PlacesX.cD{w':World}{b:Nat}{B:Bk}{Z k n:Nat}{D:DataW Unit}{s:Bt}(hz:∀s∈B.ah,s.name.size<=maxLen)(Y:∀s∈B.aw,s.name.size<=maxLen)(af:Tq B)(J:B.aw[k]?=some s)
  (hn:n<=Z+k) (h1:∀x:ByteArray,x.size<=maxLen->(∀(i:Nat) s,i<Z->B.ah[i]?=some s->s.name≠x)->Maps.has D (key 1 x)=false)
  (h2:∀(i:Nat) s,i<Z->B.ah[i]?=some s->Maps.has D (key 1 s.name)=true/\D.atKey (key 1 s.name) (.lit (.int .i64 0))=.lit (.int .i64 i))
  (h3:∀x:ByteArray,x.size<=maxLen->(∀(i:Nat) s,i<k->B.aw[i]?=some s->s.name≠x)->Maps.has D (key 2 x)=false)
  (h4:∀(i:Nat) s,i<k->B.aw[i]?=some s->Maps.has D (key 2 s.name)=true/\D.atKey (key 2 s.name) (.lit (.int .i64 0))=.lit (.int .i64 i))
  (hD:IsMap D)
  (W:w'.ownsMap Tryz.prog 181 (plainElem Tryz.prog 3) b (n+1) (D.put (key 2 s.name) (.lit (.int .i64 (k:Int))))):PlacesX w' b B Z (k+1):=by
 have z:=Y s (AE J);refine⟨n+1,_,qo,W,λx hx H=>?_,λi t hi F=>?_,λx hx H=>?_,λi t hi F=>?_⟩
 ·rw[has_put_other (DA hx z)]
  exact h1 x hx H
 ·have M:=hz t (AE F)
  rw[has_put_other (DA M z),atKey_put_other (DA M z)];exact h2 i t hi F
 ·rw[has_put_other (C9 wf2 hx z (λe=>H k s qo J e.symm))]
  exact h3 x hx λi t hi F=>H i t qo F
 ·rcases eW i k with h'|h'
  ·have M:=Y t (AE F)
   have O:=C9 wf2 M z (af i k t s h' F J);rw[has_put_other O,atKey_put_other O];exact h4 i t h' F
  ·have e:i=k:=qo
   subst e;rw[J]at F;cases F;exact⟨has_put_same hD (EZ _ _) _,atKey_put_same hD (EZ _ _) _ _⟩
theorem MZ(B:Bk)(a1 a2 a3:qO)(c1 c2 c3:Nat)(w:World)(hS:B.aR)(hZ:B.aP)(hU:Ja B)(aF:Tq B)(hB:BkAt w a1 a2 a3 B):
  Calls Tryz.prog 92 #[.agg (qbV B a1 c1 a2 c2 a3 c3)] w λe w'=>e=.returned (.map (some (w.heap.size+1)))/\PlacesX w' (w.heap.size+1) B B.ah.length B.aw.length/\Below w.heap.size w w':=by
 obtain⟨a6,a7,a8⟩:=hS;have aH:=Il;obtain⟨t0,t1,t2⟩:=CL w (.cells (qbV B a1 c1 a2 c2 a3 c3) 28) (.map #[] 0);have T0:Hid _:=t0
 have T1:Hid (PlacesX ((w.alloc (.cells (qbV B a1 c1 a2 c2 a3 c3) 28)).alloc (.map #[] 0)) (w.heap.size+1) B 0 0):=by
  have:=PlacesX.start (w.alloc (.cells (qbV B a1 c1 a2 c2 a3 c3) 28)) B;have e:(w.alloc (.cells (qbV B a1 c1 a2 c2 a3 c3) 28)).heap.size=w.heap.size+1:=by show(w.heap.push _).size=_;simp
  rw[e]at this;exact this
 clear t0 t1 t2;go_enter Tryz.func92,Tryz.ntmps92;go_wp2;clear aH
 go_loopw [19] (λiv wr=>∃k:Nat,k<=B.ah.length/\iv=In i6 k/\Below w.heap.size w wr/\Hid (qBl wr (w.heap.size) (qbV B a1 c1 a2 c2 a3 c3) 28)/\Hid (PlacesX wr (w.heap.size+1) B k 0)) (λi _=>B.ah.length - (intOf i).toNat)
 case atStart=>exact⟨0,qo,rfl,((dG _ _).alloc AG _).alloc qs _,T0,T1⟩
 case round=>
  obtain⟨k,hk,rfl,hb,F,O⟩:=hrel;have aj:w.heap.size+1<wr.heap.size:=O.ab.lt
  by_cases J:k<B.ah.length
  ·have af:B.ah≠[]:=by intro h;rw[h]at J;simp at J
   obtain⟨b,aK,ea,am,Z⟩:=hB.1 af;subst ea;obtain⟨s,H⟩:∃s,B.ah[k]?=some s:=⟨B.ah[k],by simp[J]⟩;have ae:=hZ.2.2.2.1 s (AE H);have ak:Hid _:=H;have aa:=(Z k s H).below hb am;unfold SvcAt at aa;obtain⟨x0,x1,x2,x3,x4,x5,x6,x7,x8,x9,bd,be,bk⟩:=aa;obtain⟨n,D,hn,M,h1,h2,h3,h4⟩:=O.ab;have H1:Hid _:=h1;have H2:Hid _:=h2;have H3:Hid _:=h3;have aq:n<maxLen:=qm
   clear H Z af h1 h2 h3 h4
   go_wp2_with (at_mapUpdate;refine wpList_mapUpdate_own _ rfl (.tmp 24) (.tmp 27) (.tmp 28) 141 rfl 181 3 thingLaw Tryz.underlying141 (plainElem Tryz.prog 3) (w.heap.size+1) n D rfl (M.alloc _) aq _ _ _ rfl rfl (Cy 1 s.name wf1 ae) _ [] (plainElem_int Tryz.underlying3 (ig qo)) ?_;intro w1 Y z)
   have ah:(wr.alloc (.cells (qsV s) 34)).heap.size=wr.heap.size+1:=by show(wr.heap.push _).size=_;simp
   have al:Below w.heap.size w w1:=(hb.alloc hb.size _).grown z (by rw[ah];omega) (λj hj=>by cases hj;omega);have W:Hid _:=(z.block w.heap.size (by rw[ah];omega) (λe=>by have:=dj e;omega)).trans (AK (AN wr (.cells (qsV s) 34)) F.ab);have ag:Hid _:=PlacesX.bu hZ.2.2.2.1 hZ.2.2.2.2.2 hU ak.ab hn H1.ab H2.ab H3.ab M.isMap Y
   go_roundw
   case rel=>exact⟨k+1,qo,qn,al,W,ag⟩
   case measure=>simp[intOf];omega
  ·have an:k=B.ah.length:=qo
   subst an;have e3:=AJ F.ab 3;go_wp2;clear e3
   go_loopw [33] (λiv wr=>∃k:Nat,k<=B.aw.length/\iv=In i6 k/\Below w.heap.size w wr/\Hid (qBl wr (w.heap.size) (qbV B a1 c1 a2 c2 a3 c3) 28)/\Hid (PlacesX wr (w.heap.size+1) B B.ah.length k)) (λi _=>B.aw.length - (intOf i).toNat)
   case atStart=>exact⟨0,qo,rfl,hb,F,O⟩
   case round=>
    clear hb F O aj J;rename_i a9 _;obtain⟨k,hk,rfl,hb,F,O⟩:=hrel;have aj:w.heap.size+1<wr.heap.size:=O.ab.lt
    by_cases J:k<B.aw.length
    ·have af:B.aw≠[]:=by intro h;rw[h]at J;simp at J
     obtain⟨b,aK,ea,am,Z⟩:=hB.2.2 af;subst ea;obtain⟨s,H⟩:∃s,B.aw[k]?=some s:=⟨B.aw[k],by simp[J]⟩;have ae:=hZ.2.2.2.2.2 s (AE H);have ak:Hid _:=H;have aa:=(Z k s H).below hb am;unfold BtAt at aa;obtain⟨x0,x1⟩:=aa;obtain⟨n,D,hn,M,h1,h2,h3,h4⟩:=O.ab;have H1:Hid _:=h1;have H2:Hid _:=h2;have H3:Hid _:=h3;have H4:Hid _:=h4;have aq:n<maxLen:=qm
     clear H Z af h1 h2 h3 h4
     go_wp2_with (at_mapUpdate;refine wpList_mapUpdate_own _ rfl (.tmp 38) (.tmp 41) (.tmp 42) 141 rfl 181 3 thingLaw Tryz.underlying141 (plainElem Tryz.prog 3) (w.heap.size+1) n D rfl (M.alloc _) aq _ _ _ rfl rfl (Cy 2 s.name wf2 ae) _ [] (plainElem_int Tryz.underlying3 (ig qo)) ?_;intro w1 Y z)
     have ah:(wr.alloc (.cells #[Sg s.name,Bo s.aM] 90)).heap.size=wr.heap.size+1:=by show(wr.heap.push _).size=_;simp
     have al:Below w.heap.size w w1:=(hb.alloc hb.size _).grown z (by rw[ah];omega) (λj hj=>by cases hj;omega);have W:Hid _:=(z.block w.heap.size (by rw[ah];omega) (λe=>by have:=dj e;omega)).trans (AK (AN wr (.cells #[Sg s.name,Bo s.aM] 90)) F.ab);have ag:Hid _:=PlacesX.cD hZ.2.2.2.1 hZ.2.2.2.2.2 aF ak.ab hn H1.ab H2.ab H3.ab H4.ab M.isMap Y
     go_roundw
     case rel=>exact⟨k+1,qo,qn,al,W,ag⟩
     case measure=>simp[intOf];omega
    ·go_wp2
     go_ret;have an:k=B.aw.length:=qo
     subst an;exact⟨rfl,O.ab,hb⟩
end
section
open Go.RowKit
open Go.Value renaming int->In,slice->Sl,string->Sg,bool->Bo,pointer->Po
open Go.IntKind renaming i64->i6
def OQ(c:Int):List PanicEntry:=[{v:=.iface 223 (.agg #[.iface 153 (.agg #[In i6 c])]),recovered:=false}]
theorem Cl(c:Int)(w:World):Calls Tryz.prog 183 #[Bo true,In i6 c] w λe w'=>e=.returned (.tuple #[])/\w=w':=by
 go_enter Tryz.func183,Tryz.ntmps183;go_wp2
 go_end0
 exact⟨rfl,rfl⟩
theorem Ea(c:Int)(w:World):Calls Tryz.prog 183 #[Bo false,In i6 c] w λe w'=>e=.panicked (OQ c)/\w=w':=by
 go_enter Tryz.func183,Tryz.ntmps183;go_wp2;exact⟨rfl,rfl,rfl⟩
theorem Fh(l:List En)(ae:qO)(ce:Nat)(w:World)(hl:l.length<=1048576)(hE:SlE w ae l):
  Calls Tryz.prog 244 #[Sl ae l.length ce] w λe w'=>e=.returned (.bool (IB l))/\Below w.heap.size w w':=by
 go_enter Tryz.func244,Tryz.ntmps244;go_wp2
 go_loopw [3] (λiv wr=>∃k:Nat,1<=k/\(k=1\/k<=l.length)/\iv=In i6 k/\Below w.heap.size w wr/\Hid (∀i x y,i+1<k->l[i]?=some x->l[i+1]?=some y->x.ak<y.ak)) (λiv _=>l.length - (intOf iv).toNat)
 case atStart=>exact⟨1,qo,.inl rfl,rfl,dG _ _,λi x y h=>absurd h qo⟩
 case round=>
  obtain⟨k,aM,aN,rfl,hb,Y⟩:=hrel
  by_cases aa:k<l.length
  ·obtain⟨m,HM⟩:∃m,Hid (k=m+1):=⟨k - 1,by unfold Hid;omega⟩
   have al:m<l.length:=by have:=HM.ab;omega
   have am:l≠[]:=by intro h;rw[h]at aa;simp at aa
   obtain⟨b,aO,ea,aj,Z⟩:=hE am;subst ea;obtain⟨x,hx⟩:∃x,l[m]?=some x:=⟨l[m],by simp[al]⟩;obtain⟨y,hy⟩:∃y,l[k]?=some y:=⟨l[k],by simp[aa]⟩;have aw:=Z m x hx;have ax:=Z k y hy;have HX:Hid _:=hx;have HY:Hid (l[m+1]?=some y):=by unfold Hid;rw[<-HM.ab];exact hy
   clear hx hy Z am;go_wp2;refine AU 11 ?_;apply AL
   ·intro V W K A M O z J
    simp only[pA]at z;subst z;go_wp2;exact J.ab _ brf
   iterate 3 refine qA0 qP ?_
   apply qA0
   ·intro V W K A M O z J
    simp only[pA,qv (O 3)]at z;subst z;have hq:=ax.below (hb.trans (M.mono hb.size)) aj;unfold EnAt at hq;obtain⟨q0,q1⟩:=hq;go_wp2;exact J
   iterate 2 refine qA0 qP ?_
   refine AZ (λv W=>v=In i6 (m:Int)) (λ_ _ _ h _=>h) ?_ ?_
   ·intro V W K A M O z J
    simp only[pA,qv (O 6)]at z;subst z;go_wp2;exact J.ab _ _ brf (by have hm:=HM.ab;subst hm;go_num)
   apply qA0
   ·intro V W K A M O z J
    have d7:=O 7;simp only[pA,qv (O 5)]at z;generalize V 7=x7 at d7 z;subst z;obtain rfl:=d7;go_wp2;exact J
   refine qA0 qP ?_
   apply qA0
   ·intro V W K A M O z J
    simp only[pA,qv (O 9)]at z;subst z;have hq:=aw.below (hb.trans (M.mono hb.size)) aj;unfold EnAt at hq;obtain⟨q0,q1⟩:=hq;go_wp2;exact J
   intro V W A M F z;have d7:=F 7;simp only[pA,qv (F 0),qv (F 1),qv (F 2),qv (F 3),qv (F 4),qv (F 5),qv (F 6),qv (F 8),qv (F 9),qv (F 10)]at z;clear F;generalize V 7=x7 at d7 z;subst z;simp only[dA,dN];obtain rfl:=d7
   by_cases H:x.ak<y.ak
   ·have ak:¬y.ak<=x.ak:=qo
    have au:Hid _:=H;clear H;go_wp2
    go_roundw
    case rel=>exact⟨k+1,qo,.inr qo,qn,hb.trans (M.mono hb.size),λi a b hi ha ah=>by
     have hm:=HM.ab
     by_cases e:i=m
     ·subst e
      have h1:=HX.ab;have h2:=HY.ab;rw[ha]at h1;rw[ah]at h2;obtain rfl:=dj h1;obtain rfl:=dj h2;exact au.ab
     ·exact Y.ab i a b qo ha ah⟩
    case measure=>simp[intOf];omega
   ·have HF:Hid (IB l=false):=Un HX.ab HY.ab H
    have ak:y.ak<=x.ak:=qo
    go_wp2;go_ret;exact⟨AQ HF.ab.symm,hb.trans (M.mono hb.size)⟩
  ·go_wp2
   go_ret;refine⟨AQ ((IA l).2 λi x y hx hy=>?_).symm,hb⟩
   have hi:i+1<l.length:=by
    rcases eW (i+1) l.length with h|h
    ·exact h
    ·rw[eq h]at hy;cases hy
   exact Y.ab i x y qo hx hy
theorem Hl(A:Ac)(H:qO)(ce:Nat)(w:World):
  Calls Tryz.prog 245 #[.agg (qaV A H ce)] w λe w'=>e=.returned (.bool (if A.aJ then inB A.au 0 10&&inB A.aA 0 3 else A.au==0&&A.aA==0))/\Below w.heap.size w w':=by
 have Z:=AN w (.cells (qaV A H ce) 45);go_enter Tryz.func245,Tryz.ntmps245;rcases gc A.aJ with J|J
 ·cases hw:inB A.au 0 10
  ·go_wp2_with (go_at_call 91;refine(A8 _ _ _ _).mono ?_;rintro e w' ⟨rfl,rfl⟩)
   go_ret;exact⟨qs,AN w _⟩
  ·go_wp2_with (go_at_call 91;refine(A8 _ _ _ _).mono ?_;rintro e w' ⟨rfl,rfl⟩)
   go_ret;exact⟨qs,AN w _⟩
 ·obtain⟨wz,F⟩:∃b:Bool,Hid ((A.au==0)=b):=⟨_,rfl⟩
  obtain⟨O,z⟩:∃b:Bool,Hid ((A.aA==0)=b):=⟨_,rfl⟩;have M:Hid _:=J;cases wz
  ·have W:A.au≠0:=by have:=F.ab;simpa using this
   go_wp2
   all_goals
    go_ret;exact⟨(by first|(simp[F.ab,z.ab];done)|(simp[*];done)),AN w _⟩
  ·have W:A.au=0:=by have:=F.ab;simpa using this
   cases O
   ·have Y:A.aA≠0:=by have:=z.ab;simpa using this
    go_wp2
    all_goals
     go_ret;exact⟨(by first|(simp[F.ab,z.ab];done)|(simp[*];done)),AN w _⟩
   ·have Y:A.aA=0:=by have:=z.ab;simpa using this
    go_wp2
    all_goals
     go_ret;exact⟨(by first|(simp[F.ab,z.ab];done)|(simp[*];done)),AN w _⟩
theorem ML(A:Ac)(ae:qO)(ce:Nat)(w:World)(hl:A.aB.length<=1048576)(hE:SlE w ae A.aB):
  Calls Tryz.prog 184 #[.agg (qaV A ae ce)] w λe w'=>e=.returned (.bool (Be A))/\Below w.heap.size w w':=by
 have T0:Hid _:=dm w (.cells (qaV A ae ce) 45);have F:=AN w (.cells (qaV A ae ce) 45);have HO:Hid (Be A=(inB A.ax 0 20&&decide (A.aB.length<=200)&&IB A.aB&&(if A.aJ then inB A.au 0 10&&inB A.aA 0 3 else A.au==0&&A.aA==0)&&(!A.drop||(A.ax==0&& !A.aJ&&A.aB.length==0)))):=rfl;obtain⟨W0,aA⟩:∃W,w.alloc (.cells (qaV A ae ce) 45)=W:=⟨_,rfl⟩;rw[aA]at T0 F;have M:w.heap.size<W0.heap.size:=(AB T0.ab).1;have Y:=AJ T0.ab 2;have Z:=AJ T0.ab 6;go_enter Tryz.func184,Tryz.ntmps184;cases hc:inB A.ax 0 20
 ·go_wp2_with (go_at_call 91;refine(A8 _ _ _ _).mono ?_;rintro e w' ⟨rfl,rfl⟩)
  go_ret;exact⟨AQ (by rw[HO.ab];simp[hc]),F⟩
 by_cases an:A.aB.length<=200
 rotate_left
 ·go_wp2_with (go_at_call 91;refine(A8 _ _ _ _).mono ?_;rintro e w' ⟨rfl,rfl⟩)
  go_ret;exact⟨AQ (by rw[HO.ab];simp[an]),F⟩
 have aD:Hid _:=an;have ag:Hid (Be A=(IB A.aB&&(if A.aJ then inB A.au 0 10&&inB A.aA 0 3 else A.au==0&&A.aA==0)&&(!A.drop||(A.ax==0&& !A.aJ&&A.aB.length==0)))):=by unfold Hid;rw[HO.ab,hc];simp[an]
 have ax:Hid (((A.aB.length:Int)==0)=(A.aB.length==0)):=by
  unfold Hid;rw[gA,fN,fN];omega
 clear HO;obtain⟨ay,HA⟩:∃b:Bool,Hid (IB A.aB=b):=⟨_,rfl⟩;obtain⟨sc,O⟩:∃sc:Bool,Hid (sc=(if A.aJ then inB A.au 0 10&&inB A.aA 0 3 else A.au==0&&A.aA==0)):=⟨_,rfl⟩;cases ay
 ·go_wp2_with (first|(go_at_call 91;refine(A8 _ _ _ _).mono ?_;rintro e w' ⟨rfl,rfl⟩)|(go_at_call 244;refine(Fh A.aB ae ce _ hl (hE.below F)).mono ?_;rintro e w1 ⟨rfl,z⟩;rw[HA.ab];have T1:Hid _:=AK z T0.ab M;have H:=F.trans (z.mono F.size);have aj:w.heap.size<w1.heap.size:=AF M z.size;clear z Y Z;obtain⟨e0,e1,Y,e3,e4,e5,Z,e7⟩:=qc8 T1.ab))
  go_ret;exact⟨AQ (by rw[ag.ab,HA.ab];rfl),H⟩
 cases sc
 ·go_wp2_with (first|(go_at_call 91;refine(A8 _ _ _ _).mono ?_;rintro e w' ⟨rfl,rfl⟩)|(go_at_call 244;refine(Fh A.aB ae ce _ hl (hE.below F)).mono ?_;rintro e w1 ⟨rfl,z⟩;rw[HA.ab];have T1:Hid _:=AK z T0.ab M;have H:=F.trans (z.mono F.size);have aj:w.heap.size<w1.heap.size:=AF M z.size;clear z Y Z;obtain⟨e0,e1,Y,e3,e4,e5,Z,e7⟩:=qc8 T1.ab)|(go_at_call 245;refine(Hl A ae ce _).mono ?_;rintro e w2 ⟨rfl,J⟩;rw[<-O.ab];have T2:Hid _:=AK J T1.ab aj;have aa:=H.trans (J.mono H.size);clear J e0 e1 Y e3 e4 e5 Z e7;have Y:=AJ T2.ab 2;have e5:=AJ T2.ab 5;have Z:=AJ T2.ab 6;have e7:=AJ T2.ab 7))
  go_ret;exact⟨AQ (by rw[ag.ab,<-O.ab];simp),aa⟩
 ·go_wp2_with (first|(go_at_call 91;refine(A8 _ _ _ _).mono ?_;rintro e w' ⟨rfl,rfl⟩)|(go_at_call 244;refine(Fh A.aB ae ce _ hl (hE.below F)).mono ?_;rintro e w1 ⟨rfl,z⟩;rw[HA.ab];have T1:Hid _:=AK z T0.ab M;have H:=F.trans (z.mono F.size);have aj:w.heap.size<w1.heap.size:=AF M z.size;clear z Y Z;obtain⟨e0,e1,Y,e3,e4,e5,Z,e7⟩:=qc8 T1.ab)|(go_at_call 245;refine(Hl A ae ce _).mono ?_;rintro e w2 ⟨rfl,J⟩;rw[<-O.ab];have T2:Hid _:=AK J T1.ab aj;have aa:=H.trans (J.mono H.size);clear J e0 e1 Y e3 e4 e5 Z e7;have Y:=AJ T2.ab 2;have e5:=AJ T2.ab 5;have Z:=AJ T2.ab 6;have e7:=AJ T2.ab 7))
  all_goals
   go_ret;refine⟨AQ ?_,aa⟩;rw[ag.ab,HA.ab,<-O.ab];clear Y e5 Z e7 ag O HA
   try simp only[bne_iff_ne,ne_eq,bne_eq_false_iff_eq]at *
   simp[*,ax.ab]
end
section
open Go.RowKit Go.Sort
open Go.Value renaming int->In,slice->Sl,string->Sg,bool->Bo,pointer->Po
open Go.IntKind renaming i64->i6
def Cn(I:List Int):List Value:=I.map λi=>In i6 i
theorem CX:(Tryz.prog.info? 3).map (·.size)=some 1:=qk
theorem IG:(Tryz.prog.info? 4).map (·.size)=some 1:=qk
structure KeepT(e:TypeId)(w w':World):Prop where
 size:w.heap.size<=w'.heap.size
 aL:∀k,k<w.heap.size->(∀cs fr,w.heap[k]?≠some (.cells cs e fr))->w'.heap[k]?=w.heap[k]?
theorem KeepT.aY{e:TypeId}{w w':World}{b:Nat}{cs:Array Value}{fr:Nat × Nat}(F:BH b w w')(hb:w.heap[b]?=some (.cells cs e fr)):KeepT e w w':=
 ⟨fW F.size.symm,λk _ z=>F.aL k λh=>by subst h;exact z _ _ hb⟩
theorem KeepT.br{e:TypeId}{w w':World}{b:Nat}{size n cap:Nat}{xs:qL}(H:BH b w w')(hb:RowIs w e size b n cap xs):KeepT e w w':=by
 obtain⟨_,_,z,F,_⟩:=hb;exact .aY H F
theorem KeepT.bf{e:TypeId}{w w':World}(hb:Below w.heap.size w w'):KeepT e w w':=⟨hb.size,λk hk _=>hb.block k hk⟩
theorem KeepT.trans{e:TypeId}{w w' F:World}(h:KeepT e w w')(H:KeepT e w' F):KeepT e w F:=
 ⟨AH h.size H.size,λk hk z=>by
  have J:=h.aL k hk z
  rw[H.aL k (AF hk h.size) (λcs fr=>by rw[J];exact z cs fr),J]⟩
theorem KeepT.aV{e t:TypeId}{w w':World}{g:Nat}{cs:Array Value}{fr:Nat × Nat}(h:KeepT e w w')(F:w.heap[g]?=some (.cells cs t fr))(M:t≠e):w'.heap[g]?=some (.cells cs t fr):=by
 rw[h.aL g (AB F).1 λH J z=>?_]
 ·exact F
 ·rw[F]at z
  injection z with z
  injection z with _ z
  exact M z
theorem KeepT.same{e t:TypeId}{w w':World}{g:Nat}{cs:Array Value}{fr:Nat × Nat}(h:KeepT e w w')(z:w.heap[g]?=some (.cells cs t fr))(F:t≠e):w'.heap[g]?=w.heap[g]?:=(h.aV z F).trans z.symm
theorem KeepT.map{e:TypeId}{w w':World}{g:Nat}{es:_}{c:_}(h:KeepT e w w')(F:w.heap[g]?=some (.map es c)):w'.heap[g]?=w.heap[g]?:=
 h.aL g (AB F).1 λH J z=>by rw[F]at z;injection z with z;cases z
theorem KeepT.cB{e t:TypeId}{w w':World}{g size n cap:Nat}{xs:qL}(h:KeepT e w w')(z:RowIs w t size g n cap xs)(J:t≠e):RowIs w' t size g n cap xs:=by
 obtain⟨_,_,F,H,_⟩:=id z;exact z.aV (h.same H J)
theorem KeepT.aT{e t:TypeId}{w w':World}{N size n cap:Nat}{ao:qO}{xs:qL}(h:KeepT e w w')(F:RowN w N t size ao n cap xs)(H:t≠e):RowN w' N t size ao n cap xs:=
 F.aV λ_ _ _ _ z=>h.same z H
theorem Qu{w w':World}{lo:Nat}{e:TypeId}{size:Nat}{v:Value}{n:Nat}{xs:qL}(h:w.ownsRow lo e size v n xs)(hb:∀(g:Nat) (cs:Array Value) (fr:Nat × Nat),w.heap[g]?=some (Obj.cells cs e fr)->w'.heap[g]?=w.heap[g]?):w'.ownsRow lo e size v n xs:=by
 obtain⟨O,F⟩:=h;refine⟨O,?_⟩;rcases F with F|⟨g,cap,z,M,H,J,r⟩
 ·exact .inl F
 ·exact .inr ⟨g,cap,z,M,H,by rw[hb g z _ J];exact J,r⟩
theorem Ca{w w':World}{lo:Nat}{e:TypeId}{size:Nat}{v:Value}{n:Nat}{xs:qL}(h:w.ownsRow lo e size v n xs)(hb:Below w.heap.size w w'):w'.ownsRow lo e size v n xs:=
 Qu h λg _ _ z=>hb.block g (AB z).1
theorem KeepT.aW{e t:TypeId}{w w':World}{lo:Nat}{size:Nat}{v:Value}{n:Nat}{xs:qL}(h:KeepT t w w')(F:w.ownsRow lo e size v n xs)(H:e≠t):w'.ownsRow lo e size v n xs:=
 Qu F λ_ _ _ z=>h.same z H
def WkAt(w:World)(N g:Nat)(A:Ac)(ae:qO)(ce:Nat)(X:Bk)(k:Int)(I:List Int):Prop:=∃(b1 b2 b3:qO) (d1 d2 d3:Nat) (ve:Value),N<=g/\qBl w g #[Sg A.aa,In i6 A.aN,In i6 A.ax,In i6 A.au,In i6 A.aA,Bo A.aJ,Sl ae A.aB.length ce,Bo A.drop,In i6 X.av,Sl b1 X.ah.length d1,Sl b2 X.ar.length d2,Sl b3 X.aw.length d3,In i6 k,ve] 227/\BkOf w N X b1 b2 b3 d1 d2 d3/\w.ownsRow N 3 1 ve I.length (Cn I)
theorem Hw{w:World}{N g:Nat}{A:Ac}{z:qO}{ce:Nat}{X:Bk}{k:Int}{I:List Int}(h:WkAt w N g A z ce X k I):Hid (WkAt w N g A z ce X k I):=h
theorem WkAt.below{w w':World}{N g:Nat}{A:Ac}{J:qO}{ce:Nat}{X:Bk}{k:Int}{I:List Int}(h:WkAt w N g A J ce X k I)(hb:Below w.heap.size w w'):WkAt w' N g A J ce X k I:=by
 obtain⟨O,W,Y,d1,d2,d3,Z,z,M,F,H⟩:=h;exact⟨O,W,Y,d1,d2,d3,Z,z,AK hb M (AB M).1,F.below hb,Ca H hb⟩
theorem LB(A:Ac)(ae:qO)(ce:Nat)(av:Int)(g g1 o1 n1 d1 k:Nat)(v2 v3 ve:Value)(w:World)(hk:k<n1)(hn:n1<=1048576)(Y:qBl w g #[Sg A.aa,In i6 A.aN,In i6 A.ax,In i6 A.au,In i6 A.aA,Bo A.aJ,Sl ae A.aB.length ce,Bo A.drop,In i6 av,Sl (some ⟨g1,o1,none⟩) n1 d1,v2,v3,In i6 (k:Int),ve] 227):
  Calls Tryz.prog 247 #[.pointer (qad g)] w λe w'=>e=.returned (Po (some ⟨g1,o1+k*13,none⟩))/\Below w.heap.size w w':=by
 have Z:Hid _:=Y;have M:g<w.heap.size:=(AB Y).1;clear Y;go_enter Tryz.func247,Tryz.ntmps247
 go_upto_region 1 with fail
 refine AU 10 ?_;apply AL
 ·intro V W K A H O z J
  simp only[pA]at z;subst z;go_wp2;exact J.ab _ brf
 iterate 3 refine qA0 qP ?_
 apply qA0
 ·intro V W K A H O z J
  simp only[pA,qv (O 3)]at z;subst z;have e9:=AJ (AK H Z.ab M) 9;go_wp2;exact J
 iterate 3 refine qA0 qP ?_
 apply qA0
 ·intro V W K A H O z J
  simp only[pA,qv (O 7)]at z;subst z;have ag:=AJ (AK H Z.ab M) 12;go_wp2;exact J
 refine qA0 qP ?_
 intro V W A H F z;simp only[pA,qv (F 0),qv (F 1),qv (F 2),qv (F 3),qv (F 4),qv (F 5),qv (F 6),qv (F 7),qv (F 8),qv (F 9)]at z;clear F;subst z;simp only[dA,dN];go_wp2;go_ret;exact⟨rfl,H⟩
theorem Ej(A:Ac)(z:qO)(ce:Nat)(av:Int)(g g1 n1 d1 k:Nat)(F H J:Value)(w:World)(hk:k<n1)(O:n1<=1048576)(M:qBl w g #[Sg A.aa,In i6 A.aN,In i6 A.ax,In i6 A.au,In i6 A.aA,Bo A.aJ,Sl z A.aB.length ce,Bo A.drop,In i6 av,.slice (qad g1) n1 d1,F,H,In i6 (k:Int),J] 227):
  Calls Tryz.prog 247 #[.pointer (qad g)] w λe w'=>e=.returned (Po (some ⟨g1,k*13,none⟩))/\Below w.heap.size w w':=by
 have h:=LB A z ce av g g1 0 n1 d1 k F H J w hk O M;rw[dL]at h;exact h
theorem U4(A:Ac)(ae:qO)(ce:Nat)(X:Bk)(s:Svc)(N g k:Nat)(I:List Int)(w:World)(aF:X.ah.length<=1048576)(hk:X.ah[k]?=some s)(h0:0<=X.av)(h1:X.av<=1000000)(F:WkAt w N g A ae ce X k I):
  Calls Tryz.prog 187 #[.pointer (qad g)] w λe w'=>e=.returned (.tuple #[])/\WkAt w' N g A ae ce {X with av:=X.av+1,ah:=X.ah.set k {s with ag:=X.av+1}} k I/\Below N w w':=by
 obtain⟨b1,b2,b3,d1,d2,d3,ve,aC,hg,O,am⟩:=F;have aD:k<X.ah.length:=(AC hk).1;obtain⟨g1,e1,aB,Y⟩:=O.ah.some qo;subst e1;obtain⟨n1,af⟩:∃n,Hid (X.ah.length=n):=⟨_,rfl⟩;obtain⟨n2,aj⟩:∃n,Hid (X.ar.length=n):=⟨_,rfl⟩;obtain⟨n3,ak⟩:∃n,Hid (X.aw.length=n):=⟨_,rfl⟩;obtain⟨ne,aw⟩:∃n,Hid (I.length=n):=⟨_,rfl⟩;obtain⟨r2,r3⟩:RowN w N 76 7 b2 X.ar.length d2 (Ay X.ar)/\RowN w N 90 2 b3 X.aw.length d3 (Cd X.aw):=⟨O.ar,O.aw⟩;clear O;rw[af.ab]at Y hg aD aF;rw[aj.ab]at r2 hg;rw[ak.ab]at r3 hg;rw[aw.ab]at am;have HK:Hid _:=hk;have HG:Hid _:=hg;have aN:Hid (RowIs w 34 13 g1 n1 d1 (Af X.ah)):=Y;have aO:=Bs r2;have aQ:=Bs r3;have aM:Hid (w.ownsRow N 3 1 ve ne (Cn I)):=am;have bb:g<w.heap.size:=(AB hg).1;have a6:g1<w.heap.size:=Y.lt;clear hk hg Y r2 r3 am;have e8:=AJ HG.ab 8;go_enter Tryz.func187,Tryz.ntmps187
 go_upto_region 1 with(refine Am rfl 3 (.tmp 10) (.tmp 7) rfl g 8 (In i6 (X.av+1)) rfl qn CX rfl rfl 227 #[Sg A.aa,In i6 A.aN,In i6 A.ax,In i6 A.au,In i6 A.aA,Bo A.aJ,Sl ae A.aB.length ce,Bo A.drop,In i6 X.av,.slice (qad g1) n1 d1,Sl b2 n2 d2,Sl b3 n3 d3,In i6 (k:Int),ve] HG.ab (AD rfl) ?_;intro w1 hz on;have aa:Hid (qBl w1 g #[Sg A.aa,In i6 A.aN,In i6 A.ax,In i6 A.au,In i6 A.aA,Bo A.aJ,Sl ae A.aB.length ce,Bo A.drop,In i6 (X.av+1),.slice (qad g1) n1 d1,Sl b2 n2 d2,Sl b3 n3 d3,In i6 (k:Int),ve] 227):=hz;have M:Hid (BH g w w1):=on;clear hz on)
 clear e8;have bd:=M.ab.size;have H:g<w1.heap.size:=qo
 have ay:Hid (RowIs w1 34 13 g1 n1 d1 (Af X.ah)):=(KeepT.aY M.ab HG.ab).cB aN.ab qd;refine AU 9 ?_;apply AL
 ·intro V W K A J hd z hK
  simp only[pA]at z;subst z;go_wp2;exact hK.ab _ brf
 refine AZ (λv W=>v=Po (some ⟨g1,k*13,none⟩)) (λ_ _ _ h _=>h) ?_ ?_
 ·intro V W K A J hd z hK
  simp only[pA,qv (hd 0)]at z;subst z
  go_wp2_with fail
  refine(Ej A ae ce (X.av+1) g g1 n1 d1 k _ _ _ W aD aF (AK J aa.ab H)).mono ?_;rintro e w2 ⟨rfl,a4⟩;go_wp2;exact hK.ab _ _ a4 rfl
 iterate 4 refine qA0 qP ?_
 apply qA0
 ·intro V W K A J hd z hK
  simp only[pA,qv (hd 5)]at z;subst z;have e8:=AJ (AK J aa.ab H) 8;go_wp2;exact hK
 apply qA0
 ·intro V W K A J hd z hK
  have d1:=hd 1;simp only[pA]at z;generalize V 1=x1 at d1 z;subst z;obtain rfl:=d1;go_wp2;exact hK
 refine qA0 qP ?_
 intro V W A J F z;have d1:=F 1;simp only[pA,qv (F 0),qv (F 2),qv (F 3),qv (F 4),qv (F 5),qv (F 6),qv (F 7),qv (F 8)]at z;clear F;generalize V 1=x1 at d1 z;subst z;simp only[dA,dN];obtain rfl:=d1;have Z:Hid (RowIs W 34 13 g1 n1 d1 (Af X.ah)):=ay.ab.below J qo
 go_wp2_with (refine CI rfl 3 (.tmp 19) (.tmp 17) rfl g1 _ (In i6 (X.av+1)) rfl rfl CX rfl rfl 34 13 n1 d1 _ Z.ab qo ?_;intro w3 hr on;have az:Hid (RowIs w3 34 13 g1 n1 d1 (Af (X.ah.set k {s with ag:=X.av+1}))):=(by have h:=hr.ab;rw[show splice (Af X.ah) (k*13+1) [In i6 (X.av+1)]=Af (X.ah.set k {s with ag:=X.av+1}) from CB (c:=Svc.cells) (n:=13) (λ_=>rfl) X.ah k 1 s {s with ag:=X.av+1} _ HK.ab qo rfl]at h;exact h);have ax:Hid (BH g1 W w3):=on;clear hr on)
 go_end0
 have k1:KeepT 227 w w1:=.aY M.ab HG.ab;have k2:KeepT 227 w1 W:=.bf J;have an:=k1.trans k2;have k3:KeepT 34 W w3:=.br ax.ab Z.ab;have aS:Below N w w3:=(M.ab.below.mono aC).trans ((J.mono qo).trans (ax.ab.below.mono aB));refine⟨rfl,⟨some ⟨g1,0,none⟩,b2,b3,d1,d2,d3,ve,aC,?_,⟨?_,?_,?_⟩,?_⟩,aS⟩
 ·have:=k3.aV (AK J aa.ab H) qd
  rw[<-aj.ab,<-ak.ab,<-af.ab]at this
  simpa only[dC] using this
 ·have h:=az.ab
  rw[<-af.ab]at h;exact .inr ⟨g1,rfl,aB,by simpa only[dC] using h⟩
 ·have:=k3.aT (an.aT aO.ab qd) qd
  rw[<-aj.ab]at this;exact this
 ·have:=k3.aT (an.aT aQ.ab qd) qd
  rw[<-ak.ab]at this;exact this
 ·have:=k3.aW (an.aW aM.ab qd) qd
  rw[<-aw.ab]at this;exact this
end
end Go.Proofs.YtbceafpodamnfaaGreatDoor
