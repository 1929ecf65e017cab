import Derived.Test.YtbceafpodamnfaaGreatH06
import Derived.Test.YtbceafpodamnfaaGreatH23
import Derived.Deep.DeepCutAuto
set_option linter.all false
set_option maxHeartbeats 8000000
set_option maxRecDepth 100000
namespace Go.Proofs.YtbceafpodamnfaaGreat
section
open Go.RowKit Go.Sort
theorem two_newO(w:World)(A B:Obj):∃W0,(w.alloc A).alloc B=W0/\W0.heap[w.heap.size]?=some A/\W0.heap[w.heap.size+1]?=some B/\w.heap.size+1+1<=W0.heap.size/\W0.heap.size<=w.heap.size+1+1/\Below w.heap.size w W0:=by
 obtain⟨t0,t1,t2⟩:=B0 w A B;exact⟨_,rfl,t0,t1,by rw[t2];exact AG _,by rw[t2];exact AG _,((Below.refl _ _).alloc (AG _) _).alloc (by simp) _⟩
theorem Tryz.infosBkO:(Tryz.prog.info? 27).map (·.size)=some 4:=by kernel_rfl
def RowN(w:World)(N:Nat)(e:TypeId)(size:Nat)(ao:Option Addr)(n cap:Nat)(xs:List Value):Prop:=
 (ao=none/\n=0/\cap=0/\xs=[])\/∃g,ao=some ⟨g,0,none⟩/\N<=g/\RowIs w e size g n cap xs
theorem RowN.blk{w w':World}{N:Nat}{e:TypeId}{size:Nat}{ao:Option Addr}{n cap:Nat}{xs:List Value}(h:RowN w N e size ao n cap xs)(hb:∀g cs fr,N<=g->w.heap[g]?=some (.cells cs e fr)->w'.heap[g]?=w.heap[g]?):RowN w' N e size ao n cap xs:=by
 rcases h with h|⟨g,h1,h2,h3⟩
 ·exact .inl h
 ·obtain⟨_,_,cur,hc,_⟩:=id h3
  exact .inr ⟨g,h1,h2,h3.blk (hb g cur _ h2 hc)⟩
theorem RowN.below{w w':World}{N:Nat}{e:TypeId}{size:Nat}{ao:Option Addr}{n cap:Nat}{xs:List Value}(h:RowN w N e size ao n cap xs)(hb:Below w.heap.size w w'):RowN w' N e size ao n cap xs:=
 h.blk λg _ _ _ hg=>hb.block g (AB hg).1
theorem RowN.only{w w':World}{N:Nat}{e t:TypeId}{size:Nat}{ao:Option Addr}{n cap:Nat}{xs:List Value}{b:Nat}{cs:Array Value}{fr:Nat × Nat}(h:RowN w N e size ao n cap xs)(on:BA b w w')(hb:w.heap[b]?=some (.cells cs t fr))(ht:t≠e):RowN w' N e size ao n cap xs:=
 h.blk λg cs' fr' _ hg=>on.other g λeg=>by
  rw[eg,hb]at hg;injection hg with hg
  injection hg with _ hg
  exact ht hg
theorem RowN.mono{w:World}{N M:Nat}{e:TypeId}{size:Nat}{ao:Option Addr}{n cap:Nat}{xs:List Value}(h:RowN w N e size ao n cap xs)(hM:M<=N):RowN w M e size ao n cap xs:=by
 rcases h with h|⟨g,h1,h2,h3⟩
 ·exact .inl h
 ·exact .inr ⟨g,h1,AH hM h2,h3⟩
theorem RowN.some{w:World}{N:Nat}{e:TypeId}{size:Nat}{ao:Option Addr}{n cap:Nat}{xs:List Value}(h:RowN w N e size ao n cap xs)(hn:n≠0):∃g,ao=some ⟨g,0,none⟩/\N<=g/\RowIs w e size g n cap xs:=by
 rcases h with h|h
 ·exact absurd h.2.1 hn
 ·exact h
theorem RowN.slS{w:World}{N:Nat}{e:TypeId}{ao:Option Addr}{n cap:Nat}{l:List Svc}(h:RowN w N e 13 ao n cap (AY l)):SlS w ao l:=λhl=>by
 rcases h with h|⟨g,h1,_,h3⟩
 ·exfalso
  have:=BS l;rw[h.2.2.2]at this
  cases l with
  |nil=>exact hl rfl
  |cons x l=>simp at this
 ·rw[h1];exact h3.slS hl
theorem RowN.slC{w:World}{N:Nat}{e:TypeId}{ao:Option Addr}{n cap:Nat}{l:List Cp}(h:RowN w N e 7 ao n cap (As l)):SlC w ao l:=λhl=>by
 rcases h with h|⟨g,h1,_,h3⟩
 ·exfalso
  have:=Ea l;rw[h.2.2.2]at this
  cases l with
  |nil=>exact hl rfl
  |cons x l=>simp at this
 ·rw[h1];exact h3.slC hl
theorem RowN.slB{w:World}{N:Nat}{e:TypeId}{ao:Option Addr}{n cap:Nat}{l:List Bt}(h:RowN w N e 2 ao n cap (Ak l)):SlB w ao l:=λhl=>by
 rcases h with h|⟨g,h1,_,h3⟩
 ·exfalso
  have:=Bf l;rw[h.2.2.2]at this
  cases l with
  |nil=>exact hl rfl
  |cons x l=>simp at this
 ·rw[h1];exact h3.slB hl
structure BkOf(w:World)(N:Nat)(B:Bk)(a1 a2 a3:Option Addr)(k1 k2 k3:Nat):Prop where
 svcs:RowN w N 29 13 a1 B.svcs.length k1 (AY B.svcs)
 cps:RowN w N 49 7 a2 B.cps.length k2 (As B.cps)
 bts:RowN w N 51 2 a3 B.bts.length k3 (Ak B.bts)
theorem BkOf.at{w:World}{N:Nat}{B:Bk}{a1 a2 a3:Option Addr}{k1 k2 k3:Nat}(h:BkOf w N B a1 a2 a3 k1 k2 k3):BkAt w a1 a2 a3 B:=⟨h.svcs.slS,h.cps.slC,h.bts.slB⟩
theorem BkOf.below{w w':World}{N:Nat}{B:Bk}{a1 a2 a3:Option Addr}{k1 k2 k3:Nat}(h:BkOf w N B a1 a2 a3 k1 k2 k3)(hb:Below w.heap.size w w'):BkOf w' N B a1 a2 a3 k1 k2 k3:=⟨h.svcs.below hb,h.cps.below hb,h.bts.below hb⟩
theorem BkOf.mono{w:World}{N M:Nat}{B:Bk}{a1 a2 a3:Option Addr}{k1 k2 k3:Nat}(h:BkOf w N B a1 a2 a3 k1 k2 k3)(hM:M<=N):BkOf w M B a1 a2 a3 k1 k2 k3:=⟨h.svcs.mono hM,h.cps.mono hM,h.bts.mono hM⟩
theorem BkOf.only{w w':World}{N b:Nat}{t:TypeId}{cs:Array Value}{fr:Nat × Nat}{B:Bk}{a1 a2 a3:Option Addr}{k1 k2 k3:Nat}(h:BkOf w N B a1 a2 a3 k1 k2 k3)(on:BA b w w')(hb:w.heap[b]?=some (.cells cs t fr))(h1:t≠29)(h2:t≠49)(h3:t≠51):BkOf w' N B a1 a2 a3 k1 k2 k3:=⟨h.svcs.only on hb h1,h.cps.only on hb h2,h.bts.only on hb h3⟩
theorem Tryz.infoSvcI:(Tryz.prog.info? 29).map (λi=>(i.zero,i.size,i.bytes))=some (some (.agg #[.string ⟨#[]⟩,.int .i64 0,.bool false,.int .i64 0,.int .i64 0,.int .i64 0,.int .i64 0,.int .i64 0,.int .i64 0,.int .i64 0,.int .i64 0,.int .i64 0,.int .i64 0]),13,112):=by kernel_rfl
theorem Tryz.infoCpI:(Tryz.prog.info? 49).map (λi=>(i.zero,i.size,i.bytes))=some (some (.agg #[.string ⟨#[]⟩,.int .i64 0,.int .i64 0,.int .i64 0,.int .i64 0,.bool false,.string ⟨#[]⟩]),7,72):=by kernel_rfl
theorem Tryz.infoBtI:(Tryz.prog.info? 51).map (λi=>(i.zero,i.size,i.bytes))=some (some (.agg #[.string ⟨#[]⟩,.bool false]),2,24):=by kernel_rfl
section
variable {P:Program}
theorem BE{ops:Array Oper}{rest:List Oper}{o:Oper}{a:Act}{w:World}{Q:Exit->Act->World->Prop}(hgd:o.guard=none)(s x:Operand)(t:TypeId)
  (ho:o.op=.call {callee:=.builtin .append,args:=#[s,x],argTypes:=#[t,t]})
  (e:TypeId) (z:Value) (size bytes:Nat) (ht:P.underlying t=some (.slice e)) (hinfo:(P.info? e).map (λi=>(i.zero,i.size,i.bytes))=some (some z,size,bytes)) (hzs:z.cells.size=size) (hsz:0<size)
  (hs:a.eval s=.slice none 0 0)
  (ao:Option Addr) (m c:Nat) (news:List Value) (hx:a.eval x=.slice ao m c) (hl:news.length=m*size) (hsrc:m≠0->∃ad,ao=some ad/\∀j u,news[j]?=some u->w.cell? (ad.add j)=some u) (h1:∀u∈news,u.oneCell'=true)
  (h63:m<=maxLen) (hbytes:m*bytes<=140737488355328)
  (hz0:m=0->wpList P ops Q rest (a.put o.dst (.slice none 0 0)) w)
  (h:m≠0->∀g cap w',w.heap.size<=g->Hid (RowIs w' e size g m cap news)->Below w.heap.size w w'->wpList P ops Q rest (a.put o.dst (.slice (some ⟨g,0,none⟩) m cap)) w'):wpList P ops Q (o::rest) a w:=by
 by_cases hm:m=0
 ·subst hm
  refine wpList_plain hgd λK hK=>?_
  unfold Oper.wp execOp;obtain⟨i,hi,hz,hs',hb⟩:=info_parts hinfo
  have hr:(Builtin.append_ #[t,t] o.type #[.slice none 0 0,.slice ao 0 c]).run P w=.ok (.slice none 0 0) w:=by
   cases ao with
   |none=>simp[Builtin.append_,run_underlying ht,sizeOf,typeInfo,hi,Builtin.lenOf,Builtin.firstCells,storeCells]
   |some ad=>simp[Builtin.append_,run_underlying ht,sizeOf,typeInfo,hi,Builtin.lenOf,Builtin.firstCells,storeCells,loadCells,loadCellsFrom]
  simp only[ho,resolve,invoke,builtin,Sem.run_bind,Sem.run_pure,Result.andThen_ok,List.map_toArray,List.map_cons,List.map_nil,hs,hx,hr];exact hK _ _ (hz0 rfl)
 ·obtain⟨ad,rfl,hnews⟩:=hsrc hm
  obtain⟨i,hi,hz,hs',hb⟩:=info_parts hinfo;refine wpList_append_own w hgd s x t ho w.heap.size e i z size bytes ht hi hz hs' hb hzs hsz (.slice none 0 0) 0 [] hs ⟨by simp,.inl ⟨rfl,rfl⟩⟩ ad m c news hx hl hnews h1 (by omega) (by simpa using hbytes) (AG _) λv' w' ho' hgr _=>?_
  have hb':Below w.heap.size w w':=⟨hgr.os,hgr.tape,hgr.output,hgr.size,λk hk=>hgr.block k hk (λe'=>by cases e')⟩;rcases ho'.2 with⟨_,h0⟩|⟨g,cap,cur,rfl,hbg,hgg,hnc,_,hcs,htk⟩
  ·omega
  ·have hn:0+m=m:=by omega
   rw[hn]at hnc htk ⊢;exact h hm g cap w' hbg ⟨by simpa using hl,hnc,cur,hgg,hcs,by simpa using htk⟩ hb'
end
theorem Ay{w:World}{N:Nat}{e:TypeId}{size:Nat}{ao:Option Addr}{n cap:Nat}{xs:List Value}(h:RowN w N e size ao n cap xs):Hid (RowN w N e size ao n cap xs):=h
theorem hidBkOf{w:World}{N:Nat}{B:Bk}{a1 a2 a3:Option Addr}{k1 k2 k3:Nat}(h:BkOf w N B a1 a2 a3 k1 k2 k3):Hid (BkOf w N B a1 a2 a3 k1 k2 k3):=h
theorem Mu(l:List Svc)(ao:Option Addr)(cap:Nat)(w:World)(hl:l.length<=1048576)(h:SlS w ao l):
  Calls Tryz.prog 53 #[.slice ao l.length cap] w λe w'=>∃bo k,e=.returned (.slice bo l.length k)/\RowN w' w.heap.size 29 13 bo l.length k (AY l)/\Below w.heap.size w w':=by
 have HSR:Hid _:=h.src;clear h;go_enter Tryz.func53,Tryz.ntmps53
 by_cases hn:l.length=0
 ·have HN:Hid (AY l=[]):=by unfold Hid;rw[List.length_eq_zero_iff.1 hn];rfl
  have HL:Hid _:=hn
  go_wp2_with (at_builtin;refine BE rfl (.const (.slice none 0 0)) (.tmp 3) 23 rfl 29 _ 13 112 Tryz.underlying23 Tryz.infoSvcI rfl (by omega) rfl ao l.length cap (AY l) rfl (BS _) HSR.out (ES _) (by unfold maxLen;omega) (by omega) (λ_=>?_) (λhne=>absurd HL.out hne))
  go_ret;exact⟨none,0,by rw[HL.out];rfl,.inl ⟨rfl,HL.out,rfl,HN.out⟩,Below.refl _ _⟩
 ·have HNE:Hid _:=hn
  clear hn
  go_wp2_with (at_builtin;refine BE rfl (.const (.slice none 0 0)) (.tmp 3) 23 rfl 29 _ 13 112 Tryz.underlying23 Tryz.infoSvcI rfl (by omega) rfl ao l.length cap (AY l) rfl (BS _) HSR.out (ES _) (by unfold maxLen;omega) (by omega) (λh0=>absurd h0 HNE.out) (λ_=>?_);intro g k w1 hg hr hb)
  go_ret;exact⟨some ⟨g,0,none⟩,k,rfl,.inr ⟨g,rfl,hg,hr.out⟩,hb⟩
theorem Mw(l:List Cp)(ao:Option Addr)(cap:Nat)(w:World)(hl:l.length<=1048576)(h:SlC w ao l):
  Calls Tryz.prog 54 #[.slice ao l.length cap] w λe w'=>∃bo k,e=.returned (.slice bo l.length k)/\RowN w' w.heap.size 49 7 bo l.length k (As l)/\Below w.heap.size w w':=by
 have HSR:Hid _:=h.src;clear h;go_enter Tryz.func54,Tryz.ntmps54
 by_cases hn:l.length=0
 ·have HN:Hid (As l=[]):=by unfold Hid;rw[List.length_eq_zero_iff.1 hn];rfl
  have HL:Hid _:=hn
  go_wp2_with (at_builtin;refine BE rfl (.const (.slice none 0 0)) (.tmp 3) 24 rfl 49 _ 7 72 Tryz.underlying24 Tryz.infoCpI rfl (by omega) rfl ao l.length cap (As l) rfl (Ea _) HSR.out (JY _) (by unfold maxLen;omega) (by omega) (λ_=>?_) (λhne=>absurd HL.out hne))
  go_ret;exact⟨none,0,by rw[HL.out];rfl,.inl ⟨rfl,HL.out,rfl,HN.out⟩,Below.refl _ _⟩
 ·have HNE:Hid _:=hn
  clear hn
  go_wp2_with (at_builtin;refine BE rfl (.const (.slice none 0 0)) (.tmp 3) 24 rfl 49 _ 7 72 Tryz.underlying24 Tryz.infoCpI rfl (by omega) rfl ao l.length cap (As l) rfl (Ea _) HSR.out (JY _) (by unfold maxLen;omega) (by omega) (λh0=>absurd h0 HNE.out) (λ_=>?_);intro g k w1 hg hr hb)
  go_ret;exact⟨some ⟨g,0,none⟩,k,rfl,.inr ⟨g,rfl,hg,hr.out⟩,hb⟩
theorem Mx(l:List Bt)(ao:Option Addr)(cap:Nat)(w:World)(hl:l.length<=1048576)(h:SlB w ao l):
  Calls Tryz.prog 55 #[.slice ao l.length cap] w λe w'=>∃bo k,e=.returned (.slice bo l.length k)/\RowN w' w.heap.size 51 2 bo l.length k (Ak l)/\Below w.heap.size w w':=by
 have HSR:Hid _:=h.src;clear h;go_enter Tryz.func55,Tryz.ntmps55
 by_cases hn:l.length=0
 ·have HN:Hid (Ak l=[]):=by unfold Hid;rw[List.length_eq_zero_iff.1 hn];rfl
  have HL:Hid _:=hn
  go_wp2_with (at_builtin;refine BE rfl (.const (.slice none 0 0)) (.tmp 3) 25 rfl 51 _ 2 24 Tryz.underlying25 Tryz.infoBtI rfl (by omega) rfl ao l.length cap (Ak l) rfl (Bf _) HSR.out (Eb _) (by unfold maxLen;omega) (by omega) (λ_=>?_) (λhne=>absurd HL.out hne))
  go_ret;exact⟨none,0,by rw[HL.out];rfl,.inl ⟨rfl,HL.out,rfl,HN.out⟩,Below.refl _ _⟩
 ·have HNE:Hid _:=hn
  clear hn
  go_wp2_with (at_builtin;refine BE rfl (.const (.slice none 0 0)) (.tmp 3) 25 rfl 51 _ 2 24 Tryz.underlying25 Tryz.infoBtI rfl (by omega) rfl ao l.length cap (Ak l) rfl (Bf _) HSR.out (Eb _) (by unfold maxLen;omega) (by omega) (λh0=>absurd h0 HNE.out) (λ_=>?_);intro g k w1 hg hr hb)
  go_ret;exact⟨some ⟨g,0,none⟩,k,rfl,.inr ⟨g,rfl,hg,hr.out⟩,hb⟩
theorem F3(B:Bk)(a1 a2 a3:Option Addr)(c1 c2 c3:Nat)(w:World)(hS:B.small)(hB:BkAt w a1 a2 a3 B):
  Calls Tryz.prog 31 #[.agg #[.int .i64 B.now,.slice a1 B.svcs.length c1,.slice a2 B.cps.length c2,.slice a3 B.bts.length c3]] w λe w'=>∃b1 d1 b2 d2 b3 d3,e=.returned (.agg #[.int .i64 B.now,.slice b1 B.svcs.length d1,.slice b2 B.cps.length d2,.slice b3 B.bts.length d3])/\BkOf w' w.heap.size B b1 b2 b3 d1 d2 d3/\Below w.heap.size w w':=by
 obtain⟨hl1,hl2,hl3⟩:=hS;obtain⟨W0,hW0,t0,t1,hz0,hz0',hb0⟩:=two_newO w (.cells #[.int .i64 B.now,.slice a1 B.svcs.length c1,.slice a2 B.cps.length c2,.slice a3 B.bts.length c3] 27) (.cells #[.int .i64 0,.slice none 0 0,.slice none 0 0,.slice none 0 0] 27);have T0:Hid _:=t0;have T1:Hid _:=t1;clear t0 t1;go_enter Tryz.func31,Tryz.ntmps31
 go_upto_region 1 with fail
 clear hW0;refine An 12 (by kernel_rfl) (by kernel_rfl) ?_;apply AQ
 ·intro V W K A hW hd hA hK
  simp only[pA]at hA;clear hd;obtain rfl:=hA;go_wp2;exact hK.out _ brf
 apply AQ
 ·intro V W K A hW hd hA hK
  have d0:V 0=_:=hd 0 (by kernel_rfl);simp only[pA,d0]at hA;clear hd d0;obtain rfl:=hA;have e0:=AJ (AK hW T0.out (by omega)) 0 rfl;go_wp2;exact hK.out _ brf
 apply AQ
 ·intro V W K A hW hd hA hK
  simp only[pA]at hA;clear hd;obtain rfl:=hA;go_wp2;exact hK.out _ brf
 apply AQ
 ·intro V W K A hW hd hA hK
  have d2:V 2=_:=hd 2 (by kernel_rfl);simp only[pA,d2]at hA;clear hd d2;obtain rfl:=hA;have e1:=AJ (AK hW T0.out (by omega)) 1 rfl;go_wp2;exact hK.out _ brf
 refine Aq (λv W=>∃bo c,v=.slice bo B.svcs.length c/\RowN W W0.heap.size 29 13 bo B.svcs.length c (AY B.svcs)) (λv W W2 ⟨bo,c,h1,h2⟩ hb=>⟨bo,c,h1,h2.below hb⟩) ?_ ?_
 ·intro V W K A hW hd hA hK
  have d3:V 3=_:=hd 3 (by kernel_rfl);simp only[pA,d3]at hA;clear hd d3;obtain rfl:=hA
  go_wp2_with fail
  refine(Mu B.svcs a1 c1 W hl1 (hB.1.below (hb0.trans (hW.mono hb0.size)))).mono ?_;rintro e w2 ⟨bo,c,rfl,hr,hbq⟩;have HRN:=Ay hr;have hsz:=hW.size;clear hr;go_wp2;exact hK.out _ _ hbq ⟨bo,c,rfl,HRN.out.mono hsz⟩
 apply AQ
 ·intro V W K A hW hd hA hK
  simp only[pA]at hA;clear hd;obtain rfl:=hA;go_wp2;exact hK.out _ brf
 apply AQ
 ·intro V W K A hW hd hA hK
  have d5:V 5=_:=hd 5 (by kernel_rfl);simp only[pA,d5]at hA;clear hd d5;obtain rfl:=hA;have e2:=AJ (AK hW T0.out (by omega)) 2 rfl;go_wp2;exact hK.out _ brf
 refine Aq (λv W=>∃bo c,v=.slice bo B.cps.length c/\RowN W W0.heap.size 49 7 bo B.cps.length c (As B.cps)) (λv W W2 ⟨bo,c,h1,h2⟩ hb=>⟨bo,c,h1,h2.below hb⟩) ?_ ?_
 ·intro V W K A hW hd hA hK
  have d6:V 6=_:=hd 6 (by kernel_rfl);simp only[pA,d6]at hA;clear hd d6;obtain rfl:=hA
  go_wp2_with fail
  refine(Mw B.cps a2 c2 W hl2 (hB.2.1.below (hb0.trans (hW.mono hb0.size)))).mono ?_;rintro e w2 ⟨bo,c,rfl,hr,hbq⟩;have HRN:=Ay hr;have hsz:=hW.size;clear hr;go_wp2;exact hK.out _ _ hbq ⟨bo,c,rfl,HRN.out.mono hsz⟩
 apply AQ
 ·intro V W K A hW hd hA hK
  simp only[pA]at hA;clear hd;obtain rfl:=hA;go_wp2;exact hK.out _ brf
 apply AQ
 ·intro V W K A hW hd hA hK
  have d8:V 8=_:=hd 8 (by kernel_rfl);simp only[pA,d8]at hA;clear hd d8;obtain rfl:=hA;have e3:=AJ (AK hW T0.out (by omega)) 3 rfl;go_wp2;exact hK.out _ brf
 refine Aq (λv W=>∃bo c,v=.slice bo B.bts.length c/\RowN W W0.heap.size 51 2 bo B.bts.length c (Ak B.bts)) (λv W W2 ⟨bo,c,h1,h2⟩ hb=>⟨bo,c,h1,h2.below hb⟩) ?_ ?_
 ·intro V W K A hW hd hA hK
  have d9:V 9=_:=hd 9 (by kernel_rfl);simp only[pA,d9]at hA;clear hd d9;obtain rfl:=hA
  go_wp2_with fail
  refine(Mx B.bts a3 c3 W hl3 (hB.2.2.below (hb0.trans (hW.mono hb0.size)))).mono ?_;rintro e w2 ⟨bo,c,rfl,hr,hbq⟩;have HRN:=Ay hr;have hsz:=hW.size;clear hr;go_wp2;exact hK.out _ _ hbq ⟨bo,c,rfl,HRN.out.mono hsz⟩
 refine Aq (λv W=>∃b1 d1 b2 d2 b3 d3,v=.agg #[.int .i64 B.now,.slice b1 B.svcs.length d1,.slice b2 B.cps.length d2,.slice b3 B.bts.length d3]/\BkOf W W0.heap.size B b1 b2 b3 d1 d2 d3) (λv W W2 ⟨b1,d1,b2,d2,b3,d3,h,hr⟩ hb=>⟨b1,d1,b2,d2,b3,d3,h,hr.below hb⟩) ?_ ?_
 ·intro V W K A hW hd hA hK
  have d1:V 1=_:=hd 1 (by kernel_rfl);have d4:(λv W=>∃bo c,v=.slice bo B.svcs.length c/\RowN W W0.heap.size 29 13 bo B.svcs.length c (AY B.svcs)) (V 4) W:=hd 4 (by kernel_rfl);have d7:(λv W=>∃bo c,v=.slice bo B.cps.length c/\RowN W W0.heap.size 49 7 bo B.cps.length c (As B.cps)) (V 7) W:=hd 7 (by kernel_rfl);have d10:(λv W=>∃bo c,v=.slice bo B.bts.length c/\RowN W W0.heap.size 51 2 bo B.bts.length c (Ak B.bts)) (V 10) W:=hd 10 (by kernel_rfl);simp only[pA,d1]at hA;clear hd d1;generalize V 4=x4 at d4 hA;generalize V 7=x7 at d7 hA;generalize V 10=x10 at d10 hA;obtain rfl:=hA;obtain⟨b1,d1,rfl,r1⟩:=d4;obtain⟨b2,d2,rfl,r2⟩:=d7;obtain⟨b3,d3,rfl,r3⟩:=d10;have R1:=Ay r1;have R2:=Ay r2;have R3:=Ay r3;clear r1 r2 r3;go_wp2;exact hK.out _ _ brf ⟨b1,d1,b2,d2,b3,d3,rfl,R1.out,R2.out,R3.out⟩
 intro V W A hW hS hA;have d0:V 0=_:=hS 0 (by omega);have d1:V 1=_:=hS 1 (by omega);have d2:V 2=_:=hS 2 (by omega);have d3:V 3=_:=hS 3 (by omega);have d4:(λv W=>∃bo c,v=.slice bo B.svcs.length c/\RowN W W0.heap.size 29 13 bo B.svcs.length c (AY B.svcs)) (V 4) W:=hS 4 (by omega);have d5:V 5=_:=hS 5 (by omega);have d6:V 6=_:=hS 6 (by omega);have d7:(λv W=>∃bo c,v=.slice bo B.cps.length c/\RowN W W0.heap.size 49 7 bo B.cps.length c (As B.cps)) (V 7) W:=hS 7 (by omega);have d8:V 8=_:=hS 8 (by omega);have d9:V 9=_:=hS 9 (by omega);have d10:(λv W=>∃bo c,v=.slice bo B.bts.length c/\RowN W W0.heap.size 51 2 bo B.bts.length c (Ak B.bts)) (V 10) W:=hS 10 (by omega);have d11:(λv W=>∃b1 d1 b2 d2 b3 d3,v=.agg #[.int .i64 B.now,.slice b1 B.svcs.length d1,.slice b2 B.cps.length d2,.slice b3 B.bts.length d3]/\BkOf W W0.heap.size B b1 b2 b3 d1 d2 d3) (V 11) W:=hS 11 (by omega);simp only[pA,d0,d1,d2,d3,d5,d6,d8,d9]at hA;clear hS d0 d1 d2 d3 d5 d6 d8 d9;generalize V 4=x4 at d4 hA;generalize V 7=x7 at d7 hA;generalize V 10=x10 at d10 hA;generalize V 11=x11 at d11 hA;obtain rfl:=hA;simp only[List.drop_succ_cons,List.drop_zero];obtain⟨b1,e1,b2,e2,b3,e3,rfl,hr⟩:=d11;have HR:=hidBkOf hr;have Z0:Hid _:=AK hW T1.out (by omega);have hbW:=hb0.trans (hW.mono hb0.size);clear hr
 go_wp2_with (refine AL rfl 27 (.tmp 2) (.tmp 14) rfl (w.heap.size+1) 0 #[.int .i64 B.now,.slice b1 B.svcs.length e1,.slice b2 B.cps.length e2,.slice b3 B.bts.length e3] rfl rfl 27 #[.int .i64 0,.slice none 0 0,.slice none 0 0,.slice none 0 0] Z0.out Tryz.infosBkO (AD rfl) (by simp[Value.oneCell']) ?_;intro w2 hz on;have Z2:Hid (w2.heap[w.heap.size+1]?=some (.cells #[.int .i64 B.now,.slice b1 B.svcs.length e1,.slice b2 B.cps.length e2,.slice b3 B.bts.length e3] 27 (0,0))):=hz;have HON:Hid (BA (w.heap.size+1) W w2):=on;clear hz on)
 exact bodyPost_ret (v:=.agg #[.int .i64 B.now,.slice b1 B.svcs.length e1,.slice b2 B.cps.length e2,.slice b3 B.bts.length e3]) (results_cell_row rfl _ _ (w.heap.size+1) _ _ _ _ rfl Z2.out Tryz.underlying27 rfl Tryz.infosBkO) rfl ⟨b1,e1,b2,e2,b3,e3,rfl,(HR.out.only HON.out Z0.out (by decide) (by decide) (by decide)).mono (by omega),hbW.trans (HON.out.below.mono (by omega))⟩
theorem RowN.ne{w:World}{N:Nat}{e t:TypeId}{size:Nat}{ao:Option Addr}{n cap q:Nat}{xs:List Value}{cs:Array Value}{fr:Nat × Nat}(h:RowN w N e size ao n cap xs)(hq:w.heap[q]?=Option.some (.cells cs t fr))(ht:t≠e):ao≠Option.some ⟨q,0,none⟩:=λea=>by
 rcases h with h|⟨g,h1,_,h3⟩
 ·rw[h.1]at ea;cases ea
 ·rw[h1]at ea
  cases ea;obtain⟨_,_,cur,hc,_⟩:=h3;rw[hq]at hc;injection hc with hc
  injection hc with _ hc
  exact ht hc
structure RowOnly(ao:Option Addr)(N:Nat)(w w':World):Prop where
 block:∀q,q<w.heap.size->ao≠some ⟨q,0,none⟩->w'.heap[q]?=w.heap[q]?
 size:w.heap.size<=w'.heap.size
 below:Below N w w'
theorem RowOnly.refl(ao:Option Addr)(N:Nat)(w:World):RowOnly ao N w w:=⟨λ_ _ _=>rfl,AG _,Below.refl _ _⟩
theorem RowOnly.grow{ao:Option Addr}{N:Nat}{w w1 w2:World}(h:RowOnly ao N w w1)(hb:Below w1.heap.size w1 w2)(hN:N<=w.heap.size):RowOnly ao N w w2:=
 ⟨λq hq hne=>(hb.block q (AF hq h.size)).trans (h.block q hq hne),AH h.size hb.size,h.below.trans (hb.mono (by have:=h.size;omega))⟩
theorem RowOnly.of{ao:Option Addr}{N:Nat}{w w1:World}(hb:Below w.heap.size w w1)(hN:N<=w.heap.size):RowOnly ao N w w1:=(RowOnly.refl ao N w).grow hb hN
theorem RowN.rowOnly{w w':World}{N M:Nat}{e t:TypeId}{size sz:Nat}{ao bo:Option Addr}{n cap m c:Nat}{xs ys:List Value}(h:RowN w N e size ao n cap xs)(hk:RowOnly bo M w w')(hb:RowN w N t sz bo m c ys)(ht:e≠t):RowN w' N e size ao n cap xs:=by
 rcases h with h|⟨g,h1,h2,h3⟩
 ·exact .inl h
 ·obtain⟨_,_,cur,hc,_⟩:=id h3
  exact .inr ⟨g,h1,h2,h3.blk (hk.block g h3.lt (hb.ne hc ht))⟩
end
section
open Go.RowKit Go.Sort Go.Maps
def Hr(B:Bk):Prop:=∀(i j:Nat) s t,i<j->B.bts[i]?=some s->B.bts[j]?=some t->s.name≠t.name
theorem Gu{B:Bk}(h:∀i,i<B.bts.length->By B i=true):∀(j i:Nat) s t,i<j->B.bts[i]?=some s->B.bts[j]?=some t->Op.bytesLess s.name.toList t.name.toList=true
 |0,i,_,_,hi,_,_=>absurd hi (by omega)
 |j+1,i,s,t,hi,hs,ht=>by
  have hlt:j+1<B.bts.length:=(AC ht).1;obtain⟨p,hp⟩:∃p,B.bts[j]?=some p:=⟨B.bts[j]'(by omega),by rw[List.getElem?_eq_getElem]⟩
  have h1:Op.bytesLess p.name.toList t.name.toList=true:=by
   have:=h (j+1) hlt;unfold By at this;rw[ht]at this;simp[hp]at this;exact this.2
  rcases Nat.lt_or_ge i j with h'|h'
  ·exact Be _ _ _ (Gu h j i s p h' hs hp) h1
  ·have e:i=j:=by omega
   subst e;rw[hp]at hs;cases hs;exact h1
theorem LE{B:Bk}(h:BH (By B) B.bts.length=true):Hr B:=λi j s t hij hs ht e=>by
 have h':∀i,i<B.bts.length->By B i=true:=λi hi=>by
  unfold BH at h;exact List.all_eq_true.1 h i (List.mem_range.2 hi)
 have:=Gu h' j i s t hij hs ht;rw[e,B5]at this;cases this
def PlacesX(w:World)(b:Nat)(B:Bk)(ks kb:Nat):Prop:=∃(n:Nat) (D:DataW Unit),n<=ks+kb/\w.ownsMap Tryz.prog 79 (plainElem Tryz.prog 3) b n D/\
 (∀x:ByteArray,x.size<=maxLen->(∀(i:Nat) s,i<ks->B.svcs[i]?=some s->s.name≠x)->Maps.has D (key 1 x)=false)/\
 (∀(i:Nat) s,i<ks->B.svcs[i]?=some s->Maps.has D (key 1 s.name)=true/\D.atKey (key 1 s.name) (.lit (.int .i64 0))=.lit (.int .i64 i))/\
 (∀x:ByteArray,x.size<=maxLen->(∀(i:Nat) s,i<kb->B.bts[i]?=some s->s.name≠x)->Maps.has D (key 2 x)=false)/\
 (∀(i:Nat) s,i<kb->B.bts[i]?=some s->Maps.has D (key 2 s.name)=true/\D.atKey (key 2 s.name) (.lit (.int .i64 0))=.lit (.int .i64 i))
theorem PlacesX.blk{w w':World}{b:Nat}{B:Bk}{ks kb:Nat}(h:PlacesX w b B ks kb)(hb:w'.heap[b]?=w.heap[b]?):PlacesX w' b B ks kb:=by
 obtain⟨n,D,hn,⟨es,clock,he,F,hs,hD⟩,r⟩:=h;exact⟨n,D,hn,⟨es,clock,by rw[hb];exact he,F,hs,hD⟩,r⟩
theorem PlacesX.lt{w:World}{b:Nat}{B:Bk}{ks kb:Nat}(h:PlacesX w b B ks kb):b<w.heap.size:=by
 obtain⟨n,D,hn,hown,_⟩:=h;exact hown.lt
theorem PlacesX.start(w:World)(B:Bk):PlacesX (w.alloc (.map #[] 0)) w.heap.size B 0 0:=
 ⟨0,.map [],AG _,World.ownsMap_made w _ _ _,λ_ _ _=>rfl,λi s hi=>absurd hi (by omega),λ_ _ _=>rfl,λi s hi=>absurd hi (by omega)⟩
theorem PlacesX.stepS{w':World}{b:Nat}{B:Bk}{k n:Nat}{D:DataW Unit}{s:Svc}(hz:∀s∈B.svcs,s.name.size<=maxLen)(_hzb:∀s∈B.bts,s.name.size<=maxLen)(hu:FK B)(hsk:B.svcs[k]?=some s)
  (hn:n<=k+0) (h1:∀x:ByteArray,x.size<=maxLen->(∀(i:Nat) s,i<k->B.svcs[i]?=some s->s.name≠x)->Maps.has D (key 1 x)=false)
  (h2:∀(i:Nat) s,i<k->B.svcs[i]?=some s->Maps.has D (key 1 s.name)=true/\D.atKey (key 1 s.name) (.lit (.int .i64 0))=.lit (.int .i64 i))
  (h3:∀x:ByteArray,x.size<=maxLen->(∀(i:Nat) s,i<0->B.bts[i]?=some s->s.name≠x)->Maps.has D (key 2 x)=false)
  (hD:IsMap D)
  (hown:w'.ownsMap Tryz.prog 79 (plainElem Tryz.prog 3) b (n+1) (D.put (key 1 s.name) (.lit (.int .i64 (k:Int))))):PlacesX w' b B (k+1) 0:=by
 have hss:=hz s (AE hsk);refine⟨n+1,_,by omega,hown,λx hx hno=>?_,λi t hi ht=>?_,λx hx hno=>?_,λi t hi=>absurd hi (by omega)⟩
 ·rw[has_put_other (CV wf1 hx hss (λe=>hno k s (by omega) hsk e.symm))]
  exact h1 x hx λi t hi ht=>hno i t (by omega) ht
 ·rcases Nat.lt_or_ge i k with h'|h'
  ·have hts:=hz t (AE ht)
   have hne:=CV wf1 hts hss (hu i k t s h' ht hsk);rw[has_put_other hne,atKey_put_other hne];exact h2 i t h' ht
  ·have e:i=k:=by omega
   subst e;rw[hsk]at ht;cases ht;exact⟨has_put_same hD (DN _ _) _,atKey_put_same hD (DN _ _) _ _⟩
 ·rw[has_put_other (λe=>CW hss hx e.symm)]
  exact h3 x hx λi t hi=>absurd hi (by omega)
theorem PlacesX.stepB{w':World}{b:Nat}{B:Bk}{ks k n:Nat}{D:DataW Unit}{s:Bt}(hz:∀s∈B.svcs,s.name.size<=maxLen)(hzb:∀s∈B.bts,s.name.size<=maxLen)(hub:Hr B)(hsk:B.bts[k]?=some s)
  (hn:n<=ks+k) (h1:∀x:ByteArray,x.size<=maxLen->(∀(i:Nat) s,i<ks->B.svcs[i]?=some s->s.name≠x)->Maps.has D (key 1 x)=false)
  (h2:∀(i:Nat) s,i<ks->B.svcs[i]?=some s->Maps.has D (key 1 s.name)=true/\D.atKey (key 1 s.name) (.lit (.int .i64 0))=.lit (.int .i64 i))
  (h3:∀x:ByteArray,x.size<=maxLen->(∀(i:Nat) s,i<k->B.bts[i]?=some s->s.name≠x)->Maps.has D (key 2 x)=false)
  (h4:∀(i:Nat) s,i<k->B.bts[i]?=some s->Maps.has D (key 2 s.name)=true/\D.atKey (key 2 s.name) (.lit (.int .i64 0))=.lit (.int .i64 i))
  (hD:IsMap D)
  (hown:w'.ownsMap Tryz.prog 79 (plainElem Tryz.prog 3) b (n+1) (D.put (key 2 s.name) (.lit (.int .i64 (k:Int))))):PlacesX w' b B ks (k+1):=by
 have hss:=hzb s (AE hsk);refine⟨n+1,_,by omega,hown,λx hx hno=>?_,λi t hi ht=>?_,λx hx hno=>?_,λi t hi ht=>?_⟩
 ·rw[has_put_other (CW hx hss)]
  exact h1 x hx hno
 ·have hts:=hz t (AE ht)
  rw[has_put_other (CW hts hss),atKey_put_other (CW hts hss)];exact h2 i t hi ht
 ·rw[has_put_other (CV wf2 hx hss (λe=>hno k s (by omega) hsk e.symm))]
  exact h3 x hx λi t hi ht=>hno i t (by omega) ht
 ·rcases Nat.lt_or_ge i k with h'|h'
  ·have hts:=hzb t (AE ht)
   have hne:=CV wf2 hts hss (hub i k t s h' ht hsk);rw[has_put_other hne,atKey_put_other hne];exact h4 i t h' ht
  ·have e:i=k:=by omega
   subst e;rw[hsk]at ht;cases ht;exact⟨has_put_same hD (DN _ _) _,atKey_put_same hD (DN _ _) _ _⟩
theorem GC(B:Bk)(a1 a2 a3:Option Addr)(c1 c2 c3:Nat)(w:World)(hS:B.small)(hZ:B.sized)(hU:FK B)(hUB:Hr B)(hB:BkAt w a1 a2 a3 B):
  Calls Tryz.prog 48 #[.agg #[.int .i64 B.now,.slice a1 B.svcs.length c1,.slice a2 B.cps.length c2,.slice a3 B.bts.length c3]] w λe w'=>e=.returned (.map (some (w.heap.size+1)))/\PlacesX w' (w.heap.size+1) B B.svcs.length B.bts.length/\Below w.heap.size w w':=by
 obtain⟨hl1,hl2,hl3⟩:=hS;have hmm:=Fx;obtain⟨t0,t1,t2⟩:=B0 w (.cells #[.int .i64 B.now,.slice a1 B.svcs.length c1,.slice a2 B.cps.length c2,.slice a3 B.bts.length c3] 27) (.map #[] 0);have T0:Hid _:=t0
 have T1:Hid (PlacesX ((w.alloc (.cells #[.int .i64 B.now,.slice a1 B.svcs.length c1,.slice a2 B.cps.length c2,.slice a3 B.bts.length c3] 27)).alloc (.map #[] 0)) (w.heap.size+1) B 0 0):=by
  have:=PlacesX.start (w.alloc (.cells #[.int .i64 B.now,.slice a1 B.svcs.length c1,.slice a2 B.cps.length c2,.slice a3 B.bts.length c3] 27)) B;have e:(w.alloc (.cells #[.int .i64 B.now,.slice a1 B.svcs.length c1,.slice a2 B.cps.length c2,.slice a3 B.bts.length c3] 27)).heap.size=w.heap.size+1:=by show(w.heap.push _).size=_;simp
  rw[e]at this;exact this
 clear t0 t1 t2;go_enter Tryz.func48,Tryz.ntmps48;go_wp2;clear hmm
 go_loopw [19] (λiv wr=>∃k:Nat,k<=B.svcs.length/\iv=.int .i64 k/\Below w.heap.size w wr/\Hid (wr.heap[w.heap.size]?=some (.cells #[.int .i64 B.now,.slice a1 B.svcs.length c1,.slice a2 B.cps.length c2,.slice a3 B.bts.length c3] 27 (0,0)))/\Hid (PlacesX wr (w.heap.size+1) B k 0)) (λi _=>B.svcs.length - (intOf i).toNat)
 case atStart=>exact⟨0,by omega,rfl,((Below.refl _ _).alloc (AG _) _).alloc (by simp) _,T0,T1⟩
 case round=>
  obtain⟨k,hk,rfl,hb,hbox,hpl⟩:=hrel;have hNlt:w.heap.size+1<wr.heap.size:=hpl.out.lt
  by_cases hlt:k<B.svcs.length
  ·have hne:B.svcs≠[]:=by intro h;rw[h]at hlt;simp at hlt
   obtain⟨b,off,ea,hbs,hat⟩:=hB.1 hne;subst ea;obtain⟨s,hsk⟩:∃s,B.svcs[k]?=some s:=⟨B.svcs[k],by simp[hlt]⟩;have hmem:=hZ.2.2.2.1 s (AE hsk);have HSK:Hid _:=hsk;have hcs:=(hat k s hsk).below hb hbs;unfold SvcAt at hcs;obtain⟨x0,x1,x2,x3,x4,x5,x6,x7,x8,x9,x10,x11,x12⟩:=hcs;obtain⟨n,D,hn,hown,h1,h2,h3,h4⟩:=hpl.out;have H1:Hid _:=h1;have H2:Hid _:=h2;have H3:Hid _:=h3;have hnn:n<maxLen:=by unfold maxLen;omega
   clear hsk hat hne h1 h2 h3 h4
   go_wp2_with (at_mapUpdate;refine wpList_mapUpdate_own _ rfl (.tmp 24) (.tmp 27) (.tmp 28) 75 rfl 79 3 thingLaw Tryz.underlying75 (plainElem Tryz.prog 3) (w.heap.size+1) n D rfl (hown.alloc _) hnn _ _ _ rfl rfl (B9 1 s.name wf1 hmem) _ [] (plainElem_int Tryz.underlying3 (WalkArith.wf_i64 (by omega))) ?_;intro w1 hown1 hgrow1)
   have hsz:(wr.alloc (.cells #[.string s.name,.int .i64 s.version,.bool s.gone,.int .i64 s.image,.int .i64 s.want,.int .i64 s.down,.int .i64 s.over,.int .i64 s.next,.int .i64 s.per,.int .i64 s.least,.int .i64 s.most,.int .i64 s.load,.int .i64 s.cool] 29)).heap.size=wr.heap.size+1:=by show(wr.heap.push _).size=_;simp
   have hb1:Below w.heap.size w w1:=(hb.alloc hb.size _).grown hgrow1 (by rw[hsz];omega) (λj hj=>by cases hj;omega);have hbox1:Hid _:=(hgrow1.block w.heap.size (by rw[hsz];omega) (λe=>by have:=Option.some.inj e;omega)).trans (AK (AM wr (.cells #[.string s.name,.int .i64 s.version,.bool s.gone,.int .i64 s.image,.int .i64 s.want,.int .i64 s.down,.int .i64 s.over,.int .i64 s.next,.int .i64 s.per,.int .i64 s.least,.int .i64 s.most,.int .i64 s.load,.int .i64 s.cool] 29)) hbox.out (by omega));have hpl1:Hid _:=PlacesX.stepS hZ.2.2.2.1 hZ.2.2.2.2.2 hU HSK.out hn H1.out H2.out H3.out hown.isMap hown1
   go_roundw
   case rel=>exact⟨k+1,by omega,by go_num,hb1,hbox1,hpl1⟩
   case measure=>simp[intOf];omega
  ·have hkl:k=B.svcs.length:=by omega
   subst hkl;have e3:=AJ hbox.out 3 rfl;go_wp2;clear e3
   go_loopw [33] (λiv wr=>∃k:Nat,k<=B.bts.length/\iv=.int .i64 k/\Below w.heap.size w wr/\Hid (wr.heap[w.heap.size]?=some (.cells #[.int .i64 B.now,.slice a1 B.svcs.length c1,.slice a2 B.cps.length c2,.slice a3 B.bts.length c3] 27 (0,0)))/\Hid (PlacesX wr (w.heap.size+1) B B.svcs.length k)) (λi _=>B.bts.length - (intOf i).toNat)
   case atStart=>exact⟨0,by omega,rfl,hb,hbox,hpl⟩
   case round=>
    clear hb hbox hpl hNlt hlt;rename_i wr0 _;obtain⟨k,hk,rfl,hb,hbox,hpl⟩:=hrel;have hNlt:w.heap.size+1<wr.heap.size:=hpl.out.lt
    by_cases hlt:k<B.bts.length
    ·have hne:B.bts≠[]:=by intro h;rw[h]at hlt;simp at hlt
     obtain⟨b,off,ea,hbs,hat⟩:=hB.2.2 hne;subst ea;obtain⟨s,hsk⟩:∃s,B.bts[k]?=some s:=⟨B.bts[k],by simp[hlt]⟩;have hmem:=hZ.2.2.2.2.2 s (AE hsk);have HSK:Hid _:=hsk;have hcs:=(hat k s hsk).below hb hbs;unfold BtAt at hcs;obtain⟨x0,x1⟩:=hcs;obtain⟨n,D,hn,hown,h1,h2,h3,h4⟩:=hpl.out;have H1:Hid _:=h1;have H2:Hid _:=h2;have H3:Hid _:=h3;have H4:Hid _:=h4;have hnn:n<maxLen:=by unfold maxLen;omega
     clear hsk hat hne h1 h2 h3 h4
     go_wp2_with (at_mapUpdate;refine wpList_mapUpdate_own _ rfl (.tmp 38) (.tmp 41) (.tmp 42) 75 rfl 79 3 thingLaw Tryz.underlying75 (plainElem Tryz.prog 3) (w.heap.size+1) n D rfl (hown.alloc _) hnn _ _ _ rfl rfl (B9 2 s.name wf2 hmem) _ [] (plainElem_int Tryz.underlying3 (WalkArith.wf_i64 (by omega))) ?_;intro w1 hown1 hgrow1)
     have hsz:(wr.alloc (.cells #[.string s.name,.bool s.drain] 51)).heap.size=wr.heap.size+1:=by show(wr.heap.push _).size=_;simp
     have hb1:Below w.heap.size w w1:=(hb.alloc hb.size _).grown hgrow1 (by rw[hsz];omega) (λj hj=>by cases hj;omega);have hbox1:Hid _:=(hgrow1.block w.heap.size (by rw[hsz];omega) (λe=>by have:=Option.some.inj e;omega)).trans (AK (AM wr (.cells #[.string s.name,.bool s.drain] 51)) hbox.out (by omega));have hpl1:Hid _:=PlacesX.stepB hZ.2.2.2.1 hZ.2.2.2.2.2 hUB HSK.out hn H1.out H2.out H3.out H4.out hown.isMap hown1
     go_roundw
     case rel=>exact⟨k+1,by omega,by go_num,hb1,hbox1,hpl1⟩
     case measure=>simp[intOf];omega
    ·go_wp2
     go_ret;have hkl:k=B.bts.length:=by omega
     subst hkl;exact⟨rfl,hpl.out,hb⟩
end
end Go.Proofs.YtbceafpodamnfaaGreat
