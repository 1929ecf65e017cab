import Derived.Test.YtbceafpodamnfaaGreatDoorG13
import Derived.Test.YtbceafpodamnfaaGreatDoorG18
set_option linter.all false
set_option maxHeartbeats 8000000
set_option maxRecDepth 100000
namespace Go.Proofs.YtbceafpodamnfaaGreatDoor
section
open Go.RowKit Go.Sort
theorem two_newO(w:World)(A B:Obj):∃F,(w.alloc A).alloc B=F/\F.heap[w.heap.size]?=some A/\F.heap[w.heap.size+1]?=some B/\w.heap.size+1+1<=F.heap.size/\F.heap.size<=w.heap.size+1+1/\Below w.heap.size w F:=by
 obtain⟨M,J,H⟩:=B1 w A B;exact⟨_,rfl,M,J,by rw[H];exact AG _,by rw[H];exact AG _,((dI _ _).alloc (AG _) _).alloc (by simp) _⟩
theorem Ip:(Tryz.prog.info? 28).map (·.size)=some 4:=by kernel_rfl
def RowN(w:World)(N:Nat)(e:TypeId)(size:Nat)(ao:qO)(n cap:Nat)(xs:qL):Prop:=
 (ao=none/\n=0/\cap=0/\xs=[])\/∃g,ao=some ⟨g,0,none⟩/\N<=g/\RowIs w e size g n cap xs
theorem RowN.aR{w w':World}{N:Nat}{e:TypeId}{size:Nat}{ao:qO}{n cap:Nat}{xs:qL}(h:RowN w N e size ao n cap xs)(hb:∀g cs fr,N<=g->w.heap[g]?=some (.cells cs e fr)->w'.heap[g]?=w.heap[g]?):RowN w' N e size ao n cap xs:=by
 rcases h with h|⟨g,W,J,H⟩
 ·exact .inl h
 ·obtain⟨_,_,F,M,_⟩:=id H
  exact .inr ⟨g,W,J,H.aR (hb g F _ J M)⟩
theorem RowN.below{w w':World}{N:Nat}{e:TypeId}{size:Nat}{ao:qO}{n cap:Nat}{xs:qL}(h:RowN w N e size ao n cap xs)(hb:Below w.heap.size w w'):RowN w' N e size ao n cap xs:=
 h.aR λg _ _ _ F=>hb.block g (AB F).1
theorem RowN.ab{w w':World}{N:Nat}{e t:TypeId}{size:Nat}{ao:qO}{n cap:Nat}{xs:qL}{b:Nat}{cs:Array Value}{fr:Nat × Nat}(h:RowN w N e size ao n cap xs)(on:A6 b w w')(hb:w.heap[b]?=some (.cells cs t fr))(H:t≠e):RowN w' N e size ao n cap xs:=
 h.aR λg W M _ F=>on.aB g λJ=>by
  rw[J,hb]at F;injection F with F
  injection F with _ F
  exact H F
theorem RowN.mono{w:World}{N M:Nat}{e:TypeId}{size:Nat}{ao:qO}{n cap:Nat}{xs:qL}(h:RowN w N e size ao n cap xs)(J:M<=N):RowN w M e size ao n cap xs:=by
 rcases h with h|⟨g,F,H,W⟩
 ·exact .inl h
 ·exact .inr ⟨g,F,AH J H,W⟩
theorem RowN.some{w:World}{N:Nat}{e:TypeId}{size:Nat}{ao:qO}{n cap:Nat}{xs:qL}(h:RowN w N e size ao n cap xs)(F:n≠0):∃g,ao=some ⟨g,0,none⟩/\N<=g/\RowIs w e size g n cap xs:=by
 rcases h with h|h
 ·exact absurd h.2.1 F
 ·exact h
theorem RowN.bW{w:World}{N:Nat}{e:TypeId}{ao:qO}{n cap:Nat}{l:List Svc}(h:RowN w N e 13 ao n cap (Ab l)):SlS w ao l:=λF=>by
 rcases h with h|⟨g,H,_,J⟩
 ·exfalso
  have:=FSa l;rw[h.2.2.2]at this
  cases l with
  |nil=>exact F rfl
  |cons x l=>simp at this
 ·rw[H];exact J.bW F
theorem RowN.bT{w:World}{N:Nat}{e:TypeId}{ao:qO}{n cap:Nat}{l:List Cp}(h:RowN w N e 7 ao n cap (Ar l)):SlC w ao l:=λF=>by
 rcases h with h|⟨g,H,_,J⟩
 ·exfalso
  have:=Bz l;rw[h.2.2.2]at this
  cases l with
  |nil=>exact F rfl
  |cons x l=>simp at this
 ·rw[H];exact J.bT F
theorem RowN.cx{w:World}{N:Nat}{e:TypeId}{ao:qO}{n cap:Nat}{l:List Bt}(h:RowN w N e 2 ao n cap (CN l)):SlB w ao l:=λF=>by
 rcases h with h|⟨g,H,_,J⟩
 ·exfalso
  have:=If l;rw[h.2.2.2]at this
  cases l with
  |nil=>exact F rfl
  |cons x l=>simp at this
 ·rw[H];exact J.cx F
structure BkOf(w:World)(N:Nat)(B:Bk)(a1 a2 a3:qO)(k1 k2 k3:Nat):Prop where
 af:RowN w N 34 13 a1 B.af.length k1 (Ab B.af)
 ah:RowN w N 76 7 a2 B.ah.length k2 (Ar B.ah)
 ak:RowN w N 90 2 a3 B.ak.length k3 (CN B.ak)
theorem BkOf.at{w:World}{N:Nat}{B:Bk}{a1 a2 a3:qO}{k1 k2 k3:Nat}(h:BkOf w N B a1 a2 a3 k1 k2 k3):BkAt w a1 a2 a3 B:=⟨h.af.bW,h.ah.bT,h.ak.cx⟩
theorem BkOf.below{w w':World}{N:Nat}{B:Bk}{a1 a2 a3:qO}{k1 k2 k3:Nat}(h:BkOf w N B a1 a2 a3 k1 k2 k3)(hb:Below w.heap.size w w'):BkOf w' N B a1 a2 a3 k1 k2 k3:=⟨h.af.below hb,h.ah.below hb,h.ak.below hb⟩
theorem BkOf.mono{w:World}{N M:Nat}{B:Bk}{a1 a2 a3:qO}{k1 k2 k3:Nat}(h:BkOf w N B a1 a2 a3 k1 k2 k3)(F:M<=N):BkOf w M B a1 a2 a3 k1 k2 k3:=⟨h.af.mono F,h.ah.mono F,h.ak.mono F⟩
theorem BkOf.ab{w w':World}{N b:Nat}{t:TypeId}{cs:Array Value}{fr:Nat × Nat}{B:Bk}{a1 a2 a3:qO}{k1 k2 k3:Nat}(h:BkOf w N B a1 a2 a3 k1 k2 k3)(on:A6 b w w')(hb:w.heap[b]?=some (.cells cs t fr))(H:t≠34)(J:t≠76)(F:t≠90):BkOf w' N B a1 a2 a3 k1 k2 k3:=⟨h.af.ab on hb H,h.ah.ab on hb J,h.ak.ab on hb F⟩
theorem EZ:(Tryz.prog.info? 34).map (λi=>(i.zero,i.size,i.bytes))=some (some (.agg #[.string ⟨#[]⟩,.int .i64 0,.bool false,.int .i64 0,.int .i64 0,.int .i64 0,.int .i64 0,.int .i64 0,.int .i64 0,.int .i64 0,.int .i64 0,.int .i64 0,.int .i64 0]),13,112):=by kernel_rfl
theorem D8:(Tryz.prog.info? 76).map (λi=>(i.zero,i.size,i.bytes))=some (some (.agg qyV),7,72):=by kernel_rfl
theorem Ju:(Tryz.prog.info? 90).map (λi=>(i.zero,i.size,i.bytes))=some (some (.agg #[.string ⟨#[]⟩,.bool false]),2,24):=by kernel_rfl
section
variable {P:Program}
theorem Bi{ops:Array Oper}{rest:List Oper}{o:Oper}{a:Act}{w:World}{Q:Exit->Act->World->Prop}(Y:o.guard=none)(s x:Operand)(t:TypeId)
  (ho:o.op=.call {callee:=.builtin .append,args:=#[s,x],argTypes:=#[t,t]})
  (e:TypeId) (z:Value) (size bytes:Nat) (ht:P.underlying t=some (.slice e)) (J:(P.info? e).map (λi=>(i.zero,i.size,i.bytes))=some (some z,size,bytes)) (ax:z.cells.size=size) (ar:0<size)
  (hs:a.eval s=.slice none 0 0)
  (ao:qO) (m c:Nat) (F:qL) (hx:a.eval x=.slice ao m c) (hl:F.length=m*size) (ag:m≠0->∃ad,ao=some ad/\∀j u,F[j]?=some u->w.cell? (ad.add j)=some u) (h1:∀u∈F,u.oneCell'=true)
  (aE:m<=maxLen) (M:m*bytes<=140737488355328)
  (aq:m=0->wpList P ops Q rest (a.put o.dst (.slice none 0 0)) w)
  (h:m≠0->∀g cap w',w.heap.size<=g->Hid (RowIs w' e size g m cap F)->Below w.heap.size w w'->wpList P ops Q rest (a.put o.dst (.slice (qad g) m cap)) w'):wpList P ops Q (o::rest) a w:=by
 by_cases hm:m=0
 ·subst hm
  refine fA Y λK hK=>?_
  unfold Oper.wp execOp;obtain⟨i,hi,hz,aa,hb⟩:=gA J
  have hr:(Builtin.append_ #[t,t] o.type #[.slice none 0 0,.slice ao 0 c]).run P w=.ok (.slice none 0 0) w:=by
   cases ao with
   |none=>simp[Builtin.append_,fC ht,sizeOf,typeInfo,hi,Builtin.lenOf,Builtin.firstCells,storeCells]
   |some ad=>simp[Builtin.append_,fC ht,sizeOf,typeInfo,hi,Builtin.lenOf,Builtin.firstCells,storeCells,loadCells,loadCellsFrom]
  simp only[ho,resolve,invoke,builtin,ew,Sem.run_pure,Result.andThen_ok,fx,dz,dP,hs,hx,hr];exact hK _ _ (aq rfl)
 ·obtain⟨ad,rfl,W⟩:=ag hm
  obtain⟨i,hi,hz,aa,hb⟩:=gA J;refine je w Y s x t ho w.heap.size e i z size bytes ht hi hz aa hb ax ar (.slice none 0 0) 0 [] hs ⟨by simp,.inl ⟨rfl,rfl⟩⟩ ad m c F hx hl W h1 (by omega) (by simpa using M) (AG _) λv' w' aw H _=>?_
  have al:Below w.heap.size w w':=⟨H.os,H.tape,H.output,H.size,λk hk=>H.block k hk (λe'=>by cases e')⟩;rcases aw.2 with⟨_,h0⟩|⟨g,cap,am,rfl,ai,av,Z,_,au,af⟩
  ·omega
  ·have hn:0+m=m:=by omega
   rw[hn]at Z af ⊢;exact h hm g cap w' ai ⟨by simpa using hl,Z,am,av,au,by simpa using af⟩ al
end
theorem BU{w:World}{N:Nat}{e:TypeId}{size:Nat}{ao:qO}{n cap:Nat}{xs:qL}(h:RowN w N e size ao n cap xs):Hid (RowN w N e size ao n cap xs):=h
theorem CZ{w:World}{N:Nat}{B:Bk}{a1 a2 a3:qO}{k1 k2 k3:Nat}(h:BkOf w N B a1 a2 a3 k1 k2 k3):Hid (BkOf w N B a1 a2 a3 k1 k2 k3):=h
theorem QF(l:List Svc)(ao:qO)(cap:Nat)(w:World)(hl:l.length<=1048576)(h:SlS w ao l):
  Calls Tryz.prog 199 #[.slice ao l.length cap] w λe w'=>∃Y k,e=.returned (.slice Y l.length k)/\RowN w' w.heap.size 34 13 Y l.length k (Ab l)/\Below w.heap.size w w':=by
 have F:Hid _:=h.bw;clear h;go_enter Tryz.func199,Tryz.ntmps199
 by_cases H:l.length=0
 ·have HN:Hid (Ab l=[]):=by unfold Hid;rw[fT.1 H];rfl
  have M:Hid _:=H
  go_wp2_with (at_builtin;refine Bi rfl (.const (.slice none 0 0)) (.tmp 3) 24 rfl 34 _ 13 112 Tryz.underlying24 EZ rfl (by omega) rfl ao l.length cap (Ab l) rfl (FSa _) F.O (Gg _) (by unfold maxLen;omega) (by omega) (λ_=>?_) (λW=>absurd M.O W))
  go_ret;exact⟨none,0,by rw[M.O];rfl,.inl ⟨rfl,M.O,rfl,HN.O⟩,dI _ _⟩
 ·have J:Hid _:=H
  clear H
  go_wp2_with (at_builtin;refine Bi rfl (.const (.slice none 0 0)) (.tmp 3) 24 rfl 34 _ 13 112 Tryz.underlying24 EZ rfl (by omega) rfl ao l.length cap (Ab l) rfl (FSa _) F.O (Gg _) (by unfold maxLen;omega) (by omega) (λh0=>absurd h0 J.O) (λ_=>?_);intro g k w1 Z hr hb)
  go_ret;exact⟨some ⟨g,0,none⟩,k,rfl,.inr ⟨g,rfl,Z,hr.O⟩,hb⟩
theorem QG(l:List Cp)(ao:qO)(cap:Nat)(w:World)(hl:l.length<=1048576)(h:SlC w ao l):
  Calls Tryz.prog 200 #[.slice ao l.length cap] w λe w'=>∃Y k,e=.returned (.slice Y l.length k)/\RowN w' w.heap.size 76 7 Y l.length k (Ar l)/\Below w.heap.size w w':=by
 have F:Hid _:=h.bw;clear h;go_enter Tryz.func200,Tryz.ntmps200
 by_cases H:l.length=0
 ·have HN:Hid (Ar l=[]):=by unfold Hid;rw[fT.1 H];rfl
  have M:Hid _:=H
  go_wp2_with (at_builtin;refine Bi rfl (.const (.slice none 0 0)) (.tmp 3) 25 rfl 76 _ 7 72 Tryz.underlying25 D8 rfl (by omega) rfl ao l.length cap (Ar l) rfl (Bz _) F.O (GU _) (by unfold maxLen;omega) (by omega) (λ_=>?_) (λW=>absurd M.O W))
  go_ret;exact⟨none,0,by rw[M.O];rfl,.inl ⟨rfl,M.O,rfl,HN.O⟩,dI _ _⟩
 ·have J:Hid _:=H
  clear H
  go_wp2_with (at_builtin;refine Bi rfl (.const (.slice none 0 0)) (.tmp 3) 25 rfl 76 _ 7 72 Tryz.underlying25 D8 rfl (by omega) rfl ao l.length cap (Ar l) rfl (Bz _) F.O (GU _) (by unfold maxLen;omega) (by omega) (λh0=>absurd h0 J.O) (λ_=>?_);intro g k w1 Z hr hb)
  go_ret;exact⟨some ⟨g,0,none⟩,k,rfl,.inr ⟨g,rfl,Z,hr.O⟩,hb⟩
theorem QH(l:List Bt)(ao:qO)(cap:Nat)(w:World)(hl:l.length<=1048576)(h:SlB w ao l):
  Calls Tryz.prog 201 #[.slice ao l.length cap] w λe w'=>∃Y k,e=.returned (.slice Y l.length k)/\RowN w' w.heap.size 90 2 Y l.length k (CN l)/\Below w.heap.size w w':=by
 have F:Hid _:=h.bw;clear h;go_enter Tryz.func201,Tryz.ntmps201
 by_cases H:l.length=0
 ·have HN:Hid (CN l=[]):=by unfold Hid;rw[fT.1 H];rfl
  have M:Hid _:=H
  go_wp2_with (at_builtin;refine Bi rfl (.const (.slice none 0 0)) (.tmp 3) 26 rfl 90 _ 2 24 Tryz.underlying26 Ju rfl (by omega) rfl ao l.length cap (CN l) rfl (If _) F.O (Lf _) (by unfold maxLen;omega) (by omega) (λ_=>?_) (λW=>absurd M.O W))
  go_ret;exact⟨none,0,by rw[M.O];rfl,.inl ⟨rfl,M.O,rfl,HN.O⟩,dI _ _⟩
 ·have J:Hid _:=H
  clear H
  go_wp2_with (at_builtin;refine Bi rfl (.const (.slice none 0 0)) (.tmp 3) 26 rfl 90 _ 2 24 Tryz.underlying26 Ju rfl (by omega) rfl ao l.length cap (CN l) rfl (If _) F.O (Lf _) (by unfold maxLen;omega) (by omega) (λh0=>absurd h0 J.O) (λ_=>?_);intro g k w1 Z hr hb)
  go_ret;exact⟨some ⟨g,0,none⟩,k,rfl,.inr ⟨g,rfl,Z,hr.O⟩,hb⟩
theorem Hf(B:Bk)(a1 a2 a3:qO)(c1 c2 c3:Nat)(w:World)(hS:B.aJ)(hB:BkAt w a1 a2 a3 B):
  Calls Tryz.prog 102 #[.agg (qbV B a1 c1 a2 c2 a3 c3)] w λe w'=>∃b1 d1 b2 d2 b3 Z,e=.returned (.agg (qbV B b1 d1 b2 d2 b3 Z))/\BkOf w' w.heap.size B b1 b2 b3 d1 d2 Z/\Below w.heap.size w w':=by
 obtain⟨aW,aS,aM⟩:=hS;obtain⟨W0,aL,t0,t1,bk,a6,af⟩:=two_newO w (.cells (qbV B a1 c1 a2 c2 a3 c3) 28) (.cells qzV 28);have T0:Hid _:=t0;have T1:Hid _:=t1;clear t0 t1;go_enter Tryz.func102,Tryz.ntmps102
 go_upto_region 1 with fail
 clear aL;refine AV 12 (by kernel_rfl) (by kernel_rfl) ?_;apply AL
 ·intro V W K A M J F Y
  simp only[pA]at F;clear J;obtain rfl:=F;go_wp2;exact Y.O _ brf
 apply AL
 ·intro V W K A M J F Y
  have d0:V 0=_:=J 0 (by kernel_rfl);simp only[pA,d0]at F;clear J d0;obtain rfl:=F;have e0:=AJ (AK M T0.O (by omega)) 0 rfl;go_wp2;exact Y.O _ brf
 apply AL
 ·intro V W K A M J F Y
  simp only[pA]at F;clear J;obtain rfl:=F;go_wp2;exact Y.O _ brf
 apply AL
 ·intro V W K A M J F Y
  have d2:V 2=_:=J 2 (by kernel_rfl);simp only[pA,d2]at F;clear J d2;obtain rfl:=F;have e1:=AJ (AK M T0.O (by omega)) 1 rfl;go_wp2;exact Y.O _ brf
 refine AW (λv W=>∃H c,v=.slice H B.af.length c/\RowN W W0.heap.size 34 13 H B.af.length c (Ab B.af)) (λv W W2 ⟨H,c,h1,h2⟩ hb=>⟨H,c,h1,h2.below hb⟩) ?_ ?_
 ·intro V W K A M J F Y
  have Z:V 3=_:=J 3 (by kernel_rfl);simp only[pA,Z]at F;clear J Z;obtain rfl:=F
  go_wp2_with fail
  refine(QF B.af a1 c1 W aW (hB.1.below (af.trans (M.mono af.size)))).mono ?_;rintro e w2 ⟨H,c,rfl,hr,am⟩;have an:=BU hr;have aq:=M.size;clear hr;go_wp2;exact Y.O _ _ am ⟨H,c,rfl,an.O.mono aq⟩
 apply AL
 ·intro V W K A M J F Y
  simp only[pA]at F;clear J;obtain rfl:=F;go_wp2;exact Y.O _ brf
 apply AL
 ·intro V W K A M J F Y
  have d5:V 5=_:=J 5 (by kernel_rfl);simp only[pA,d5]at F;clear J d5;obtain rfl:=F;have e2:=AJ (AK M T0.O (by omega)) 2 rfl;go_wp2;exact Y.O _ brf
 refine AW (λv W=>∃H c,v=.slice H B.ah.length c/\RowN W W0.heap.size 76 7 H B.ah.length c (Ar B.ah)) (λv W W2 ⟨H,c,h1,h2⟩ hb=>⟨H,c,h1,h2.below hb⟩) ?_ ?_
 ·intro V W K A M J F Y
  have d6:V 6=_:=J 6 (by kernel_rfl);simp only[pA,d6]at F;clear J d6;obtain rfl:=F
  go_wp2_with fail
  refine(QG B.ah a2 c2 W aS (hB.2.1.below (af.trans (M.mono af.size)))).mono ?_;rintro e w2 ⟨H,c,rfl,hr,am⟩;have an:=BU hr;have aq:=M.size;clear hr;go_wp2;exact Y.O _ _ am ⟨H,c,rfl,an.O.mono aq⟩
 apply AL
 ·intro V W K A M J F Y
  simp only[pA]at F;clear J;obtain rfl:=F;go_wp2;exact Y.O _ brf
 apply AL
 ·intro V W K A M J F Y
  have d8:V 8=_:=J 8 (by kernel_rfl);simp only[pA,d8]at F;clear J d8;obtain rfl:=F;have e3:=AJ (AK M T0.O (by omega)) 3 rfl;go_wp2;exact Y.O _ brf
 refine AW (λv W=>∃H c,v=.slice H B.ak.length c/\RowN W W0.heap.size 90 2 H B.ak.length c (CN B.ak)) (λv W W2 ⟨H,c,h1,h2⟩ hb=>⟨H,c,h1,h2.below hb⟩) ?_ ?_
 ·intro V W K A M J F Y
  have d9:V 9=_:=J 9 (by kernel_rfl);simp only[pA,d9]at F;clear J d9;obtain rfl:=F
  go_wp2_with fail
  refine(QH B.ak a3 c3 W aM (hB.2.2.below (af.trans (M.mono af.size)))).mono ?_;rintro e w2 ⟨H,c,rfl,hr,am⟩;have an:=BU hr;have aq:=M.size;clear hr;go_wp2;exact Y.O _ _ am ⟨H,c,rfl,an.O.mono aq⟩
 refine AW (λv W=>∃b1 d1 b2 d2 b3 Z,v=.agg (qbV B b1 d1 b2 d2 b3 Z)/\BkOf W W0.heap.size B b1 b2 b3 d1 d2 Z) (λv W W2 ⟨b1,d1,b2,d2,b3,Z,h,hr⟩ hb=>⟨b1,d1,b2,d2,b3,Z,h,hr.below hb⟩) ?_ ?_
 ·intro V W K A M J F Y
  have d1:V 1=_:=J 1 (by kernel_rfl);have d4:(λv W=>∃H c,v=.slice H B.af.length c/\RowN W W0.heap.size 34 13 H B.af.length c (Ab B.af)) (V 4) W:=J 4 (by kernel_rfl);have d7:(λv W=>∃H c,v=.slice H B.ah.length c/\RowN W W0.heap.size 76 7 H B.ah.length c (Ar B.ah)) (V 7) W:=J 7 (by kernel_rfl);have ar:(λv W=>∃H c,v=.slice H B.ak.length c/\RowN W W0.heap.size 90 2 H B.ak.length c (CN B.ak)) (V 10) W:=J 10 (by kernel_rfl);simp only[pA,d1]at F;clear J d1;generalize V 4=x4 at d4 F;generalize V 7=x7 at d7 F;generalize V 10=a4 at ar F;obtain rfl:=F;obtain⟨b1,d1,rfl,r1⟩:=d4;obtain⟨b2,d2,rfl,r2⟩:=d7;obtain⟨b3,Z,rfl,r3⟩:=ar;have R1:=BU r1;have R2:=BU r2;have R3:=BU r3;clear r1 r2 r3;go_wp2;exact Y.O _ _ brf ⟨b1,d1,b2,d2,b3,Z,rfl,R1.O,R2.O,R3.O⟩
 intro V W A M hS F;have d0:V 0=_:=hS 0 (by omega);have d1:V 1=_:=hS 1 (by omega);have d2:V 2=_:=hS 2 (by omega);have Z:V 3=_:=hS 3 (by omega);have d4:(λv W=>∃H c,v=.slice H B.af.length c/\RowN W W0.heap.size 34 13 H B.af.length c (Ab B.af)) (V 4) W:=hS 4 (by omega);have d5:V 5=_:=hS 5 (by omega);have d6:V 6=_:=hS 6 (by omega);have d7:(λv W=>∃H c,v=.slice H B.ah.length c/\RowN W W0.heap.size 76 7 H B.ah.length c (Ar B.ah)) (V 7) W:=hS 7 (by omega);have d8:V 8=_:=hS 8 (by omega);have d9:V 9=_:=hS 9 (by omega);have ar:(λv W=>∃H c,v=.slice H B.ak.length c/\RowN W W0.heap.size 90 2 H B.ak.length c (CN B.ak)) (V 10) W:=hS 10 (by omega);have av:(λv W=>∃b1 d1 b2 d2 b3 Z,v=.agg (qbV B b1 d1 b2 d2 b3 Z)/\BkOf W W0.heap.size B b1 b2 b3 d1 d2 Z) (V 11) W:=hS 11 (by omega);simp only[pA,d0,d1,d2,Z,d5,d6,d8,d9]at F;clear hS d0 d1 d2 Z d5 d6 d8 d9;generalize V 4=x4 at d4 F;generalize V 7=x7 at d7 F;generalize V 10=a4 at ar F;generalize V 11=bj at av F;obtain rfl:=F;simp only[dl,dF];obtain⟨b1,e1,b2,e2,b3,e3,rfl,hr⟩:=av;have HR:=CZ hr;have Z0:Hid _:=AK M T1.O (by omega);have a5:=af.trans (M.mono af.size);clear hr
 go_wp2_with (refine AM rfl 28 (.tmp 2) (.tmp 14) rfl (w.heap.size+1) 0 (qbV B b1 e1 b2 e2 b3 e3) rfl rfl 28 qzV Z0.O Ip (AD rfl) (by simp[Value.oneCell']) ?_;intro w2 hz on;have Z2:Hid (qBl w2 (w.heap.size+1) (qbV B b1 e1 b2 e2 b3 e3) 28):=hz;have aA:Hid (A6 (w.heap.size+1) W w2):=on;clear hz on)
 exact dS (v:=.agg (qbV B b1 e1 b2 e2 b3 e3)) (eU rfl _ _ (w.heap.size+1) _ _ _ _ rfl Z2.O Tryz.underlying28 rfl Ip) rfl ⟨b1,e1,b2,e2,b3,e3,rfl,(HR.O.ab aA.O Z0.O (by decide) (by decide) (by decide)).mono (by omega),a5.trans (aA.O.below.mono (by omega))⟩
end
section
open Go.RowKit Go.Sort Go.Maps
def OD(B:Bk):Prop:=∀(i j:Nat) s t,i<j->B.ak[i]?=some s->B.ak[j]?=some t->s.name≠t.name
theorem Le{B:Bk}(h:∀i,i<B.ak.length->B8 B i=true):∀(j i:Nat) s t,i<j->B.ak[i]?=some s->B.ak[j]?=some t->Op.bytesLess s.name.toList t.name.toList=true
 |0,i,_,_,Y,_,_=>absurd Y (by omega)
 |j+1,i,s,t,Y,F,Z=>by
  have H:j+1<B.ak.length:=(AC Z).1;obtain⟨p,J⟩:∃p,B.ak[j]?=some p:=⟨B.ak[j]'(by omega),by rw[dj]⟩
  have W:Op.bytesLess p.name.toList t.name.toList=true:=by
   have:=h (j+1) H;unfold B8 at this;rw[Z]at this;simp[J]at this;exact this.2
  rcases eG i j with M|M
  ·exact B6 _ _ _ (Le h j i s p M F J) W
  ·have e:i=j:=by omega
   subst e;rw[J]at F;cases F;exact W
theorem OC{B:Bk}(h:BI (B8 B) B.ak.length=true):OD B:=λi j s t F M W e=>by
 have H:∀i,i<B.ak.length->B8 B i=true:=λi J=>by
  unfold BI at h;exact dh.1 h i (dA.2 J)
 have:=Le H j i s t F M W;rw[e,A4]at this;cases this
def PlacesX(w:World)(b:Nat)(B:Bk)(ks kb:Nat):Prop:=∃(n:Nat) (D:DataW Unit),n<=ks+kb/\w.ownsMap Tryz.prog 181 (plainElem Tryz.prog 3) b n D/\
 (∀x:ByteArray,x.size<=maxLen->(∀(i:Nat) s,i<ks->B.af[i]?=some s->s.name≠x)->Maps.has D (key 1 x)=false)/\
 (∀(i:Nat) s,i<ks->B.af[i]?=some s->Maps.has D (key 1 s.name)=true/\D.atKey (key 1 s.name) (.lit (.int .i64 0))=.lit (.int .i64 i))/\
 (∀x:ByteArray,x.size<=maxLen->(∀(i:Nat) s,i<kb->B.ak[i]?=some s->s.name≠x)->Maps.has D (key 2 x)=false)/\
 (∀(i:Nat) s,i<kb->B.ak[i]?=some s->Maps.has D (key 2 s.name)=true/\D.atKey (key 2 s.name) (.lit (.int .i64 0))=.lit (.int .i64 i))
theorem PlacesX.aR{w w':World}{b:Nat}{B:Bk}{J M:Nat}(h:PlacesX w b B J M)(hb:w'.heap[b]?=w.heap[b]?):PlacesX w' b B J M:=by
 obtain⟨n,D,Z,⟨es,H,W,F,Y,hD⟩,r⟩:=h;exact⟨n,D,Z,⟨es,H,by rw[hb];exact W,F,Y,hD⟩,r⟩
theorem PlacesX.below{w w':World}{b N:Nat}{B:Bk}{F H:Nat}(h:PlacesX w b B F H)(hb:Below N w w')(J:b<N):PlacesX w' b B F H:=h.aR (hb.block b J)
theorem PlacesX.lt{w:World}{b:Nat}{B:Bk}{H J:Nat}(h:PlacesX w b B H J):b<w.heap.size:=by
 obtain⟨n,D,M,F,_⟩:=h;exact F.lt
theorem PlacesX.start(w:World)(B:Bk):PlacesX (w.alloc (.map #[] 0)) w.heap.size B 0 0:=
 ⟨0,.map [],AG _,World.ownsMap_made w _ _ _,λ_ _ _=>rfl,λi s F=>absurd F (by omega),λ_ _ _=>rfl,λi s F=>absurd F (by omega)⟩
theorem PlacesX.cw{w':World}{b:Nat}{B:Bk}{k n:Nat}{D:DataW Unit}{s:Svc}(hz:∀s∈B.af,s.name.size<=maxLen)(_hzb:∀s∈B.ak,s.name.size<=maxLen)(hu:HD B)(F:B.af[k]?=some s)
  (hn:n<=k+0) (h1:∀x:ByteArray,x.size<=maxLen->(∀(i:Nat) s,i<k->B.af[i]?=some s->s.name≠x)->Maps.has D (key 1 x)=false)
  (h2:∀(i:Nat) s,i<k->B.af[i]?=some s->Maps.has D (key 1 s.name)=true/\D.atKey (key 1 s.name) (.lit (.int .i64 0))=.lit (.int .i64 i))
  (h3:∀x:ByteArray,x.size<=maxLen->(∀(i:Nat) s,i<0->B.ak[i]?=some s->s.name≠x)->Maps.has D (key 2 x)=false)
  (hD:IsMap D)
  (Y:w'.ownsMap Tryz.prog 181 (plainElem Tryz.prog 3) b (n+1) (D.put (key 1 s.name) (.lit (.int .i64 (k:Int))))):PlacesX w' b B (k+1) 0:=by
 have M:=hz s (AE F);refine⟨n+1,_,by omega,Y,λx hx H=>?_,λi t W J=>?_,λx hx H=>?_,λi t W=>absurd W (by omega)⟩
 ·rw[has_put_other (Cg wf1 hx M (λe=>H k s (by omega) F e.symm))]
  exact h1 x hx λi t W J=>H i t (by omega) J
 ·rcases eG i k with h'|h'
  ·have aa:=hz t (AE J)
   have Z:=Cg wf1 aa M (hu i k t s h' J F);rw[has_put_other Z,atKey_put_other Z];exact h2 i t h' J
  ·have e:i=k:=by omega
   subst e;rw[F]at J;cases J;exact⟨has_put_same hD (Dr _ _) _,atKey_put_same hD (Dr _ _) _ _⟩
 ·rw[has_put_other (λe=>Ch M hx e.symm)]
  exact h3 x hx λi t W=>absurd W (by omega)
theorem PlacesX.cA{w':World}{b:Nat}{B:Bk}{ks k n:Nat}{D:DataW Unit}{s:Bt}(hz:∀s∈B.af,s.name.size<=maxLen)(Z:∀s∈B.ak,s.name.size<=maxLen)(ai:OD B)(J:B.ak[k]?=some s)
  (hn:n<=ks+k) (h1:∀x:ByteArray,x.size<=maxLen->(∀(i:Nat) s,i<ks->B.af[i]?=some s->s.name≠x)->Maps.has D (key 1 x)=false)
  (h2:∀(i:Nat) s,i<ks->B.af[i]?=some s->Maps.has D (key 1 s.name)=true/\D.atKey (key 1 s.name) (.lit (.int .i64 0))=.lit (.int .i64 i))
  (h3:∀x:ByteArray,x.size<=maxLen->(∀(i:Nat) s,i<k->B.ak[i]?=some s->s.name≠x)->Maps.has D (key 2 x)=false)
  (h4:∀(i:Nat) s,i<k->B.ak[i]?=some s->Maps.has D (key 2 s.name)=true/\D.atKey (key 2 s.name) (.lit (.int .i64 0))=.lit (.int .i64 i))
  (hD:IsMap D)
  (Y:w'.ownsMap Tryz.prog 181 (plainElem Tryz.prog 3) b (n+1) (D.put (key 2 s.name) (.lit (.int .i64 (k:Int))))):PlacesX w' b B ks (k+1):=by
 have F:=Z s (AE J);refine⟨n+1,_,by omega,Y,λx hx M=>?_,λi t hi H=>?_,λx hx M=>?_,λi t hi H=>?_⟩
 ·rw[has_put_other (Ch hx F)]
  exact h1 x hx M
 ·have W:=hz t (AE H)
  rw[has_put_other (Ch W F),atKey_put_other (Ch W F)];exact h2 i t hi H
 ·rw[has_put_other (Cg wf2 hx F (λe=>M k s (by omega) J e.symm))]
  exact h3 x hx λi t hi H=>M i t (by omega) H
 ·rcases eG i k with h'|h'
  ·have W:=Z t (AE H)
   have aa:=Cg wf2 W F (ai i k t s h' H J);rw[has_put_other aa,atKey_put_other aa];exact h4 i t h' H
  ·have e:i=k:=by omega
   subst e;rw[J]at H;cases H;exact⟨has_put_same hD (Dr _ _) _,atKey_put_same hD (Dr _ _) _ _⟩
theorem K1(B:Bk)(a1 a2 a3:qO)(c1 c2 c3:Nat)(w:World)(hS:B.aJ)(hZ:B.aD)(hU:HD B)(aI:OD B)(hB:BkAt w a1 a2 a3 B):
  Calls Tryz.prog 92 #[.agg #[.int .i64 B.aj,.slice a1 B.af.length c1,.slice a2 B.ah.length c2,.slice a3 B.ak.length c3]] w λe w'=>e=.returned (.map (some (w.heap.size+1)))/\PlacesX w' (w.heap.size+1) B B.af.length B.ak.length/\Below w.heap.size w w':=by
 obtain⟨bb,bi,aW⟩:=hS;have aF:=HU;obtain⟨t0,t1,t2⟩:=B1 w (.cells (qbV B a1 c1 a2 c2 a3 c3) 28) (.map #[] 0);have T0:Hid _:=t0
 have T1:Hid (PlacesX ((w.alloc (.cells (qbV B a1 c1 a2 c2 a3 c3) 28)).alloc (.map #[] 0)) (w.heap.size+1) B 0 0):=by
  have:=PlacesX.start (w.alloc (.cells (qbV B a1 c1 a2 c2 a3 c3) 28)) B;have e:(w.alloc (.cells (qbV B a1 c1 a2 c2 a3 c3) 28)).heap.size=w.heap.size+1:=by show(w.heap.push _).size=_;simp
  rw[e]at this;exact this
 clear t0 t1 t2;go_enter Tryz.func92,Tryz.ntmps92;go_wp2;clear aF
 go_loopw [19] (λiv wr=>∃k:Nat,k<=B.af.length/\iv=.int .i64 k/\Below w.heap.size w wr/\Hid (qBl wr (w.heap.size) (qbV B a1 c1 a2 c2 a3 c3) 28)/\Hid (PlacesX wr (w.heap.size+1) B k 0)) (λi _=>B.af.length - (intOf i).toNat)
 case atStart=>exact⟨0,by omega,rfl,((dI _ _).alloc (AG _) _).alloc (by simp) _,T0,T1⟩
 case round=>
  obtain⟨k,hk,rfl,hb,H,W⟩:=hrel;have am:w.heap.size+1<wr.heap.size:=W.O.lt
  by_cases Y:k<B.af.length
  ·have ak:B.af≠[]:=by intro h;rw[h]at Y;simp at Y
   obtain⟨b,off,ea,ar,ai⟩:=hB.1 ak;subst ea;obtain⟨s,J⟩:∃s,B.af[k]?=some s:=⟨B.af[k],by simp[Y]⟩;have ah:=hZ.2.2.2.1 s (AE J);have au:Hid _:=J;have af:=(ai k s J).below hb ar;unfold SvcAt at af;obtain⟨x0,x1,x2,x3,x4,x5,x6,x7,x8,x9,bj,bf,a6⟩:=af;obtain⟨n,D,hn,M,h1,h2,h3,h4⟩:=W.O;have H1:Hid _:=h1;have H2:Hid _:=h2;have H3:Hid _:=h3;have an:n<maxLen:=by unfold maxLen;omega
   clear J ai ak h1 h2 h3 h4
   go_wp2_with (at_mapUpdate;refine wpList_mapUpdate_own _ rfl (.tmp 24) (.tmp 27) (.tmp 28) 141 rfl 181 3 thingLaw Tryz.underlying141 (plainElem Tryz.prog 3) (w.heap.size+1) n D rfl (M.alloc _) an _ _ _ rfl rfl (Cn 1 s.name wf1 ah) _ [] (plainElem_int Tryz.underlying3 (gS (by omega))) ?_;intro w1 Z F)
   have al:(wr.alloc (.cells (qsV s) 34)).heap.size=wr.heap.size+1:=by show(wr.heap.push _).size=_;simp
   have aq:Below w.heap.size w w1:=(hb.alloc hb.size _).grown F (by rw[al];omega) (λj hj=>by cases hj;omega);have aa:Hid _:=(F.block w.heap.size (by rw[al];omega) (λe=>by have:=dg e;omega)).trans (AK (AN wr (.cells (qsV s) 34)) H.O (by omega));have ag:Hid _:=PlacesX.cw hZ.2.2.2.1 hZ.2.2.2.2.2 hU au.O hn H1.O H2.O H3.O M.isMap Z
   go_roundw
   case rel=>exact⟨k+1,by omega,by go_num,aq,aa,ag⟩
   case measure=>simp[intOf];omega
  ·have av:k=B.af.length:=by omega
   subst av;have e3:=AJ H.O 3 rfl;go_wp2;clear e3
   go_loopw [33] (λiv wr=>∃k:Nat,k<=B.ak.length/\iv=.int .i64 k/\Below w.heap.size w wr/\Hid (qBl wr (w.heap.size) (qbV B a1 c1 a2 c2 a3 c3) 28)/\Hid (PlacesX wr (w.heap.size+1) B B.af.length k)) (λi _=>B.ak.length - (intOf i).toNat)
   case atStart=>exact⟨0,by omega,rfl,hb,H,W⟩
   case round=>
    clear hb H W am Y;rename_i a8 _;obtain⟨k,hk,rfl,hb,H,W⟩:=hrel;have am:w.heap.size+1<wr.heap.size:=W.O.lt
    by_cases Y:k<B.ak.length
    ·have ak:B.ak≠[]:=by intro h;rw[h]at Y;simp at Y
     obtain⟨b,off,ea,ar,ai⟩:=hB.2.2 ak;subst ea;obtain⟨s,J⟩:∃s,B.ak[k]?=some s:=⟨B.ak[k],by simp[Y]⟩;have ah:=hZ.2.2.2.2.2 s (AE J);have au:Hid _:=J;have af:=(ai k s J).below hb ar;unfold BtAt at af;obtain⟨x0,x1⟩:=af;obtain⟨n,D,hn,M,h1,h2,h3,h4⟩:=W.O;have H1:Hid _:=h1;have H2:Hid _:=h2;have H3:Hid _:=h3;have H4:Hid _:=h4;have an:n<maxLen:=by unfold maxLen;omega
     clear J ai ak h1 h2 h3 h4
     go_wp2_with (at_mapUpdate;refine wpList_mapUpdate_own _ rfl (.tmp 38) (.tmp 41) (.tmp 42) 141 rfl 181 3 thingLaw Tryz.underlying141 (plainElem Tryz.prog 3) (w.heap.size+1) n D rfl (M.alloc _) an _ _ _ rfl rfl (Cn 2 s.name wf2 ah) _ [] (plainElem_int Tryz.underlying3 (gS (by omega))) ?_;intro w1 Z F)
     have al:(wr.alloc (.cells #[.string s.name,.bool s.aS] 90)).heap.size=wr.heap.size+1:=by show(wr.heap.push _).size=_;simp
     have aq:Below w.heap.size w w1:=(hb.alloc hb.size _).grown F (by rw[al];omega) (λj hj=>by cases hj;omega);have aa:Hid _:=(F.block w.heap.size (by rw[al];omega) (λe=>by have:=dg e;omega)).trans (AK (AN wr (.cells #[.string s.name,.bool s.aS] 90)) H.O (by omega));have ag:Hid _:=PlacesX.cA hZ.2.2.2.1 hZ.2.2.2.2.2 aI au.O hn H1.O H2.O H3.O H4.O M.isMap Z
     go_roundw
     case rel=>exact⟨k+1,by omega,by go_num,aq,aa,ag⟩
     case measure=>simp[intOf];omega
    ·go_wp2
     go_ret;have av:k=B.ak.length:=by omega
     subst av;exact⟨rfl,W.O,hb⟩
end
section
open Go.RowKit
def Mc(c:Int):List PanicEntry:=[{v:=.iface 223 (.agg #[.iface 153 (.agg #[.int .i64 c])]),recovered:=false}]
theorem CV(c:Int)(w:World):Calls Tryz.prog 183 #[.bool true,.int .i64 c] w λe w'=>e=.returned (.tuple #[])/\w=w':=by
 go_enter Tryz.func183,Tryz.ntmps183;go_wp2
 go_end0
 exact⟨rfl,rfl⟩
theorem Ce(c:Int)(w:World):Calls Tryz.prog 183 #[.bool false,.int .i64 c] w λe w'=>e=.panicked (Mc c)/\w=w':=by
 go_enter Tryz.func183,Tryz.ntmps183;go_wp2;exact⟨rfl,rfl,rfl⟩
theorem Ew(l:List En)(ae:qO)(ce:Nat)(w:World)(hl:l.length<=1048576)(hE:SlE w ae l):
  Calls Tryz.prog 244 #[.slice ae l.length ce] w λe w'=>e=.returned (.bool (G7 l))/\Below w.heap.size w w':=by
 go_enter Tryz.func244,Tryz.ntmps244;go_wp2
 go_loopw [3] (λiv wr=>∃k:Nat,1<=k/\(k=1\/k<=l.length)/\iv=.int .i64 k/\Below w.heap.size w wr/\Hid (∀i x y,i+1<k->l[i]?=some x->l[i+1]?=some y->x.ai<y.ai)) (λiv _=>l.length - (intOf iv).toNat)
 case atStart=>exact⟨1,by omega,.inl rfl,rfl,dI _ _,λi x y h=>absurd h (by omega)⟩
 case round=>
  obtain⟨k,a5,bb,rfl,hb,aa⟩:=hrel
  by_cases ah:k<l.length
  ·obtain⟨m,HM⟩:∃m,Hid (k=m+1):=⟨k - 1,by unfold Hid;omega⟩
   have au:m<l.length:=by have:=HM.O;omega
   have az:l≠[]:=by intro h;rw[h]at ah;simp at ah
   obtain⟨b,off,ea,ax,ag⟩:=hE az;subst ea;obtain⟨x,hx⟩:∃x,l[m]?=some x:=⟨l[m],by simp[au]⟩;obtain⟨y,hy⟩:∃y,l[k]?=some y:=⟨l[k],by simp[ah]⟩;have aE:=ag m x hx;have aH:=ag k y hy;have HX:Hid _:=hx;have HY:Hid (l[m+1]?=some y):=by unfold Hid;rw[<-HM.O];exact hy
   clear hx hy ag az;go_wp2;refine AV 11 (by kernel_rfl) (by kernel_rfl) ?_;apply AL
   ·intro V W K A M H F J
    simp only[pA]at F;clear H;obtain rfl:=F;go_wp2;exact J.O _ brf
   apply AL
   ·intro V W K A M H F J
    simp only[pA]at F;clear H;obtain rfl:=F;go_wp2;exact J.O _ brf
   apply AL
   ·intro V W K A M H F J
    have d0:V 0=_:=H 0 (by kernel_rfl);have d1:V 1=_:=H 1 (by kernel_rfl);simp only[pA,d0,d1]at F;clear H d0 d1;obtain rfl:=F;go_wp2;exact J.O _ brf
   apply AL
   ·intro V W K A M H F J
    have d2:V 2=_:=H 2 (by kernel_rfl);simp only[pA,d2]at F;clear H d2;obtain rfl:=F;go_wp2;exact J.O _ brf
   apply AL
   ·intro V W K A M H F J
    have d3:V 3=_:=H 3 (by kernel_rfl);simp only[pA,d3]at F;clear H d3;obtain rfl:=F;have hq:=aH.below (hb.trans (M.mono hb.size)) ax;unfold EnAt at hq;obtain⟨q0,q1⟩:=hq;go_wp2;exact J.O _ brf
   apply AL
   ·intro V W K A M H F J
    simp only[pA]at F;clear H;obtain rfl:=F;go_wp2;exact J.O _ brf
   apply AL
   ·intro V W K A M H F J
    simp only[pA]at F;clear H;obtain rfl:=F;go_wp2;exact J.O _ brf
   refine AW (λv W=>v=.int .i64 (m:Int)) (λ_ _ _ h _=>h) ?_ ?_
   ·intro V W K A M H F J
    have d6:V 6=_:=H 6 (by kernel_rfl);simp only[pA,d6]at F;clear H d6;obtain rfl:=F;go_wp2;exact J.O _ _ brf (by have hm:=HM.O;subst hm;go_num)
   apply AL
   ·intro V W K A M H F J
    have d5:V 5=_:=H 5 (by kernel_rfl);have d7:(λv W=>v=.int .i64 (m:Int)) (V 7) W:=H 7 (by kernel_rfl);simp only[pA,d5]at F;clear H d5;generalize V 7=x7 at d7 F;obtain rfl:=F;obtain rfl:=d7;go_wp2;exact J.O _ brf
   apply AL
   ·intro V W K A M H F J
    have d8:V 8=_:=H 8 (by kernel_rfl);simp only[pA,d8]at F;clear H d8;obtain rfl:=F;go_wp2;exact J.O _ brf
   apply AL
   ·intro V W K A M H F J
    have d9:V 9=_:=H 9 (by kernel_rfl);simp only[pA,d9]at F;clear H d9;obtain rfl:=F;have hq:=aE.below (hb.trans (M.mono hb.size)) ax;unfold EnAt at hq;obtain⟨q0,q1⟩:=hq;go_wp2;exact J.O _ brf
   intro V W A M Y F;have d0:V 0=_:=Y 0 (by omega);have d1:V 1=_:=Y 1 (by omega);have d2:V 2=_:=Y 2 (by omega);have d3:V 3=_:=Y 3 (by omega);have d4:V 4=_:=Y 4 (by omega);have d5:V 5=_:=Y 5 (by omega);have d6:V 6=_:=Y 6 (by omega);have d7:(λv W=>v=.int .i64 (m:Int)) (V 7) W:=Y 7 (by omega);have d8:V 8=_:=Y 8 (by omega);have d9:V 9=_:=Y 9 (by omega);have av:V 10=_:=Y 10 (by omega);simp only[pA,d0,d1,d2,d3,d4,d5,d6,d8,d9,av]at F;clear Y d0 d1 d2 d3 d4 d5 d6 d8 d9 av;generalize V 7=x7 at d7 F;obtain rfl:=F;simp only[dl,dF];obtain rfl:=d7
   by_cases Z:x.ai<y.ai
   ·have aA:¬y.ai<=x.ai:=by omega
    have aF:Hid _:=Z;clear Z;go_wp2
    go_roundw
    case rel=>exact⟨k+1,by omega,.inr (by omega),by go_num,hb.trans (M.mono hb.size),λi a b hi ha an=>by
     have hm:=HM.O
     by_cases e:i=m
     ·subst e
      have h1:=HX.O;have h2:=HY.O;rw[ha]at h1;rw[an]at h2;obtain rfl:=dg h1;obtain rfl:=dg h2;exact aF.O
     ·exact aa.O i a b (by omega) ha an⟩
    case measure=>simp[intOf];omega
   ·have HF:Hid (G7 l=false):=Ri HX.O HY.O Z
    have aA:y.ai<=x.ai:=by omega
    go_wp2;go_ret;exact⟨AR HF.O.symm,hb.trans (M.mono hb.size)⟩
  ·go_wp2
   go_ret;refine⟨AR ((Ii l).2 λi x y hx hy=>?_).symm,hb⟩
   have hi:i+1<l.length:=by
    rcases eG (i+1) l.length with h|h
    ·exact h
    ·rw[dZ h]at hy;cases hy
   exact aa.O i x y (by omega) hx hy
theorem GI(A:Ac)(ae:qO)(ce:Nat)(w:World):
  Calls Tryz.prog 245 #[.agg (qaV A ae ce)] w λe w'=>e=.returned (.bool (if A.az then inB A.av 0 10&&inB A.ay 0 3 else A.av==0&&A.ay==0))/\Below w.heap.size w w':=by
 have aa:=AN w (.cells (qaV A ae ce) 45);go_enter Tryz.func245,Tryz.ntmps245;rcases Bool.eq_false_or_eq_true A.az with J|J
 ·cases hw:inB A.av 0 10
  ·go_wp2_with (go_at_call 91;refine(Ay _ _ _ _).mono ?_;rintro e w' ⟨rfl,rfl⟩)
   go_ret;exact⟨by simp,AN w _⟩
  ·go_wp2_with (go_at_call 91;refine(Ay _ _ _ _).mono ?_;rintro e w' ⟨rfl,rfl⟩)
   go_ret;exact⟨by simp,AN w _⟩
 ·obtain⟨W,H⟩:∃b:Bool,Hid ((A.av==0)=b):=⟨_,rfl⟩
  obtain⟨cz,F⟩:∃b:Bool,Hid ((A.ay==0)=b):=⟨_,rfl⟩;have Z:Hid _:=J;cases W
  ·have M:A.av≠0:=by have:=H.O;simpa using this
   go_wp2
   all_goals
    go_ret;exact⟨(by first|(simp[H.O,F.O];done)|(simp[*];done)),AN w _⟩
  ·have M:A.av=0:=by have:=H.O;simpa using this
   cases cz
   ·have Y:A.ay≠0:=by have:=F.O;simpa using this
    go_wp2
    all_goals
     go_ret;exact⟨(by first|(simp[H.O,F.O];done)|(simp[*];done)),AN w _⟩
   ·have Y:A.ay=0:=by have:=F.O;simpa using this
    go_wp2
    all_goals
     go_ret;exact⟨(by first|(simp[H.O,F.O];done)|(simp[*];done)),AN w _⟩
theorem Kn(A:Ac)(ae:qO)(ce:Nat)(w:World)(hl:A.aw.length<=1048576)(hE:SlE w ae A.aw):
  Calls Tryz.prog 184 #[.agg (qaV A ae ce)] w λe w'=>e=.returned (.bool (Bg A))/\Below w.heap.size w w':=by
 have T0:Hid _:=dm w (.cells (qaV A ae ce) 45);have J:=AN w (.cells (qaV A ae ce) 45);have HO:Hid (Bg A=(inB A.am 0 20&&decide (A.aw.length<=200)&&G7 A.aw&&(if A.az then inB A.av 0 10&&inB A.ay 0 3 else A.av==0&&A.ay==0)&&(!A.drop||(A.am==0&& !A.az&&A.aw.length==0)))):=rfl;obtain⟨W0,aw⟩:∃W,w.alloc (.cells (qaV A ae ce) 45)=W:=⟨_,rfl⟩;rw[aw]at T0 J;have Z:w.heap.size<W0.heap.size:=(AB T0.O).1;have e2:=AJ T0.O 2 rfl;have e6:=AJ T0.O 6 rfl;go_enter Tryz.func184,Tryz.ntmps184;cases hc:inB A.am 0 20
 ·go_wp2_with (go_at_call 91;refine(Ay _ _ _ _).mono ?_;rintro e w' ⟨rfl,rfl⟩)
  go_ret;exact⟨AR (by rw[HO.O];simp[hc]),J⟩
 by_cases ak:A.aw.length<=200
 rotate_left
 ·go_wp2_with (go_at_call 91;refine(Ay _ _ _ _).mono ?_;rintro e w' ⟨rfl,rfl⟩)
  go_ret;exact⟨AR (by rw[HO.O];simp[ak]),J⟩
 have aC:Hid _:=ak;have ah:Hid (Bg A=(G7 A.aw&&(if A.az then inB A.av 0 10&&inB A.ay 0 3 else A.av==0&&A.ay==0)&&(!A.drop||(A.am==0&& !A.az&&A.aw.length==0)))):=by unfold Hid;rw[HO.O,hc];simp[ak]
 have ay:Hid (((A.aw.length:Int)==0)=(A.aw.length==0)):=by
  unfold Hid;rw[gF,fq,fq];omega
 clear HO;obtain⟨av,HA⟩:∃b:Bool,Hid (G7 A.aw=b):=⟨_,rfl⟩;obtain⟨sc,aa⟩:∃sc:Bool,Hid (sc=(if A.az then inB A.av 0 10&&inB A.ay 0 3 else A.av==0&&A.ay==0)):=⟨_,rfl⟩;cases av
 ·go_wp2_with (first|(go_at_call 91;refine(Ay _ _ _ _).mono ?_;rintro e w' ⟨rfl,rfl⟩)|(go_at_call 244;refine(Ew A.aw ae ce _ hl (hE.below J)).mono ?_;rintro e w1 ⟨rfl,F⟩;rw[HA.O];have H:Hid _:=AK F T0.O Z;have M:=J.trans (F.mono J.size);have ag:w.heap.size<w1.heap.size:=AF Z F.size;clear F e2 e6;have e0:=AJ H.O 0 rfl;have e1:=AJ H.O 1 rfl;have e2:=AJ H.O 2 rfl;have e3:=AJ H.O 3 rfl;have e4:=AJ H.O 4 rfl;have e5:=AJ H.O 5 rfl;have e6:=AJ H.O 6 rfl;have e7:=AJ H.O 7 rfl))
  go_ret;exact⟨AR (by rw[ah.O,HA.O];rfl),M⟩
 cases sc
 ·go_wp2_with (first|(go_at_call 91;refine(Ay _ _ _ _).mono ?_;rintro e w' ⟨rfl,rfl⟩)|(go_at_call 244;refine(Ew A.aw ae ce _ hl (hE.below J)).mono ?_;rintro e w1 ⟨rfl,F⟩;rw[HA.O];have H:Hid _:=AK F T0.O Z;have M:=J.trans (F.mono J.size);have ag:w.heap.size<w1.heap.size:=AF Z F.size;clear F e2 e6;have e0:=AJ H.O 0 rfl;have e1:=AJ H.O 1 rfl;have e2:=AJ H.O 2 rfl;have e3:=AJ H.O 3 rfl;have e4:=AJ H.O 4 rfl;have e5:=AJ H.O 5 rfl;have e6:=AJ H.O 6 rfl;have e7:=AJ H.O 7 rfl)|(go_at_call 245;refine(GI A ae ce _).mono ?_;rintro e w2 ⟨rfl,Y⟩;rw[<-aa.O];have T2:Hid _:=AK Y H.O ag;have af:=M.trans (Y.mono M.size);clear Y e0 e1 e2 e3 e4 e5 e6 e7;have e2:=AJ T2.O 2 rfl;have e5:=AJ T2.O 5 rfl;have e6:=AJ T2.O 6 rfl;have e7:=AJ T2.O 7 rfl))
  go_ret;exact⟨AR (by rw[ah.O,<-aa.O];simp),af⟩
 ·go_wp2_with (first|(go_at_call 91;refine(Ay _ _ _ _).mono ?_;rintro e w' ⟨rfl,rfl⟩)|(go_at_call 244;refine(Ew A.aw ae ce _ hl (hE.below J)).mono ?_;rintro e w1 ⟨rfl,F⟩;rw[HA.O];have H:Hid _:=AK F T0.O Z;have M:=J.trans (F.mono J.size);have ag:w.heap.size<w1.heap.size:=AF Z F.size;clear F e2 e6;have e0:=AJ H.O 0 rfl;have e1:=AJ H.O 1 rfl;have e2:=AJ H.O 2 rfl;have e3:=AJ H.O 3 rfl;have e4:=AJ H.O 4 rfl;have e5:=AJ H.O 5 rfl;have e6:=AJ H.O 6 rfl;have e7:=AJ H.O 7 rfl)|(go_at_call 245;refine(GI A ae ce _).mono ?_;rintro e w2 ⟨rfl,Y⟩;rw[<-aa.O];have T2:Hid _:=AK Y H.O ag;have af:=M.trans (Y.mono M.size);clear Y e0 e1 e2 e3 e4 e5 e6 e7;have e2:=AJ T2.O 2 rfl;have e5:=AJ T2.O 5 rfl;have e6:=AJ T2.O 6 rfl;have e7:=AJ T2.O 7 rfl))
  all_goals
   go_ret;refine⟨AR ?_,af⟩;rw[ah.O,HA.O,<-aa.O];clear e2 e5 e6 e7 ah aa HA
   try simp only[bne_iff_ne,ne_eq,bne_eq_false_iff_eq]at *
   simp[*,ay.O]
end
end Go.Proofs.YtbceafpodamnfaaGreatDoor
