import Derived.Test.YtbceafpodamnfaaGreatH17
import Derived.Deep.DeepCutAuto
set_option linter.all false
set_option maxHeartbeats 16000000
set_option maxRecDepth 100000
namespace Go.Proofs.YtbceafpodamnfaaGreat
open Go Go.RowKit Go.Sort
theorem Tryz.infosAct:(Tryz.prog.info? 134).map (·.size)=some 8:=by kernel_rfl
theorem Nf(A:Ac)(ae:Option Addr)(ce:Nat):(#[.string A.service,.int .i64 A.seen,.int .i64 A.create,.int .i64 A.want,.int .i64 A.cool,.bool A.scale,.slice ae A.ends.length ce,.bool A.drop]:Array Value).all (·.oneCell')=true:=by simp[Value.oneCell']
def SlEn(lo:Nat)(w:World)(ae:Option Addr)(l:List En):Prop:=l≠[]->∃g,ae=some ⟨g,0,none⟩/\lo<=g/\g<w.heap.size/\KS w g 0 l
def IsAct(lo:Nat)(w:World)(v:Value)(A:Ac):Prop:=∃ae ce,v=.agg #[.string A.service,.int .i64 A.seen,.int .i64 A.create,.int .i64 A.want,.int .i64 A.cool,.bool A.scale,.slice ae A.ends.length ce,.bool A.drop]/\SlEn lo w ae A.ends
theorem IsAct.below{lo:Nat}{w w':World}{v:Value}{A:Ac}(h:IsAct lo w v A)(hb:Below w.heap.size w w'):IsAct lo w' v A:=
 let ⟨ae,ce,e,hs⟩:=h
 ⟨ae,ce,e,λhn=>let ⟨g,e,h1,h2,h3⟩:=hs hn;⟨g,e,h1,AF h2 hb.size,λi s hs'=>(h3 i s hs').blk (hb.block g h2)⟩⟩
theorem IsAct.low{lo lo':Nat}{w:World}{v:Value}{A:Ac}(h:IsAct lo w v A)(hl:lo'<=lo):IsAct lo' w v A:=
 let ⟨ae,ce,e,hs⟩:=h
 ⟨ae,ce,e,λhn=>let ⟨g,e,h1,h2⟩:=hs hn;⟨g,e,AH hl h1,h2⟩⟩
def Lr(A:Ac):Bool:=decide (0<A.create)||A.scale||decide (0<A.ends.length)||A.drop
theorem l5Act_bk(kind:Int)(B:Bk)(s:Svc)(a1 a2 a3:Option Addr)(c1 c2 c3:Nat)(w:World)(hok:okBk B)(hV:Valid B)(hs:s∈B.svcs)(hB:BkAt w a1 a2 a3 B):
  Calls Tryz.prog 99 #[.int .i64 kind,.agg #[.int .i64 B.now,.slice a1 B.svcs.length c1,.slice a2 B.cps.length c2,.slice a3 B.bts.length c3],.agg #[.string s.name,.int .i64 s.version,.bool s.gone,.int .i64 s.image,.int .i64 s.want,.int .i64 s.down,.int .i64 s.over,.int .i64 s.next,.int .i64 s.per,.int .i64 s.least,.int .i64 s.most,.int .i64 s.load,.int .i64 s.cool]] w λe w'=>∃v A,e=.returned v/\IsAct w.heap.size w' v A/\A.ends.length<=1000/\Below w.heap.size w w':=by
 have hm:∀i b,(i,b)∈bkM B->Hold Mh w (gh3 w a1 a2 a3) w 0 i b:=λi b hi=>by
  have h:=K6 (RD:=Mh) (q:=0) hB;simp only[bkM,List.mem_cons,List.not_mem_nil,or_false,Prod.mk.injEq]at hi;rcases hi with⟨rfl,rfl⟩|⟨rfl,rfl⟩|⟨rfl,rfl⟩
  ·exact(h 0 _ rfl).2.1
  ·exact(h 1 _ rfl).2.1
  ·exact(h 2 _ rfl).2.1
 have hpre:(⟨B,c1,c2,c3⟩:BP).ok/\0<=s.want/\∃d∈B.svcs,nmB d.name s.name=true:=⟨⟨hok.1,λc hc=>by
  obtain⟨d,hd,_⟩:=hV.svc hc;have hn:=List.find?_some (p:=λs:Svc=>s.name.toList==c.service.toList) hd
  exact⟨d,List.mem_of_find?_eq_some hd,hn⟩⟩,(hV.svcIn hs).want0,s,hs,by unfold nmB;exact beq_self_eq_true _⟩
 have hcall:=act_ct Ep w (gh3 w a1 a2 a3) w 0 64 [.int .i64 kind,(⟨B,c1,c2,c3⟩:BP).v,FE s] (bkM B) (λv es=>∃v1 es1,Ff v1 es1/\v=up2 (64+ ·) v1/\es=upE 64 es1) (λk hk=>⟨hk,λh=>h⟩) (λ_ h=>h.elim) (AG _) hm (λi b hi=>by
  simp only[bkM,List.mem_cons,List.not_mem_nil,or_false,Prod.mk.injEq]at hi
  rcases hi with⟨rfl,_⟩|⟨rfl,_⟩|⟨rfl,_⟩<;>exact .inl (by decide)) (.inl rfl) ⟨(kind,⟨B,c1,c2,c3⟩,s),rfl,hpre,λv es ho=>⟨v,es,ho,rfl,rfl⟩⟩
 have ha:(List.map (r2 (gh3 w a1 a2 a3).α) [.int .i64 kind,(⟨B,c1,c2,c3⟩:BP).v,FE s]).toArray=#[.int .i64 kind,.agg #[.int .i64 B.now,.slice a1 B.svcs.length c1,.slice a2 B.cps.length c2,.slice a3 B.bts.length c3],.agg #[.string s.name,.int .i64 s.version,.bool s.gone,.int .i64 s.image,.int .i64 s.want,.int .i64 s.down,.int .i64 s.over,.int .i64 s.next,.int .i64 s.per,.int .i64 s.least,.int .i64 s.most,.int .i64 s.load,.int .i64 s.cool]]:=by simp[BP.v,FE,svL,gh3,r2,r1,r0]
 rw[ha]at hcall;refine hcall.mono ?_;rintro e w' ⟨v,es',G',hk,rfl,hG,hN,_,_⟩;have hb:Below w.heap.size w w':=⟨hG.stp.os,hG.stp.tape,hG.stp.output,hG.stp.size,λk hk=>hG.stp.block k hk λh=>h⟩;obtain⟨v1,es1,ho,rfl,rfl⟩:=hk (λv es=>∃v1 es1,Ff v1 es1/\v=up2 (64+ ·) v1/\es=upE 64 es1) ⟨(kind,⟨B,c1,c2,c3⟩,s),rfl,hpre,λv es ho=>⟨v,es,ho,rfl,rfl⟩⟩;obtain⟨n,a,b,c,d,x,E,y,rfl,(⟨rfl,rfl⟩|⟨l,cp,rfl,rfl,hl⟩)⟩:=ho
 ·exact⟨_,⟨n,a,b,c,d,x,[],y⟩,rfl,⟨none,0,by simp[acV,up2,up1,up0,r2,r1,r0],λh=>absurd rfl h⟩,AI _,hb⟩
 ·have hH:=hN.hold 64 _ (List.mem_singleton.2 rfl)
  obtain⟨g1,hg1,hlo⟩:=hN.own 64 _ (List.mem_singleton.2 rfl) (.inr rfl);refine⟨_,⟨n,a,b,c,d,x,l,y⟩,rfl,⟨G'.α 64,cp,by simp[acV,up2,up1,up0,r2,r1,r0],λhne=>?_⟩,hl,hb⟩;obtain⟨g,off,e1,e2,e3⟩:=hH.read (f:=enL) (l:=l) (λk hk=>(hG.z3 k hk).1) ⟨.inr rfl,rfl,AG _,λ_ _ _ h=>h⟩ hne;rw[e1]at hg1;cases hg1
  exact⟨_,e1,hlo,e2,λi x hx=>by
   have c:=e3 i x hx;unfold EnAt
   exact⟨c 0 _ rfl,c 1 _ rfl⟩⟩
theorem Tryz.infoAct:(Tryz.prog.info? 134).map (λi=>(i.zero,i.size,i.bytes))=some (some (.agg #[.string ⟨#[]⟩,.int .i64 0,.int .i64 0,.int .i64 0,.int .i64 0,.bool false,.slice none 0 0,.bool false]),8,88):=by kernel_rfl
theorem MS(kind:Int)(B:Bk)(a1 a2 a3:Option Addr)(c1 c2 c3:Nat)(w:World)(hok:okBk B)(hB:BkAt w a1 a2 a3 B):
  Calls Tryz.prog 83 #[.int .i64 kind,.agg #[.int .i64 B.now,.slice a1 B.svcs.length c1,.slice a2 B.cps.length c2,.slice a3 B.bts.length c3]] w λe w'=>∃(g cap:Nat) (R:List Ed),e=.returned (.slice (some ⟨g,0,none⟩) R.length cap)/\(R.length<=1000/\∀r∈R,r.1.ends.length<=1000)/\w.heap.size<=g/\RowIs w' 134 8 g R.length cap (EH R)/\(∀r∈R,SlEn w.heap.size w' r.2.1 r.1.ends)/\Below w.heap.size w w':=by
 obtain⟨t0,t1,t2⟩:=B0 w (.cells #[.int .i64 B.now,.slice a1 B.svcs.length c1,.slice a2 B.cps.length c2,.slice a3 B.bts.length c3] 27) (.cells #[] 134);have T0:Hid _:=t0;have T1:Hid _:=t1;have HS2:Hid _:=t2;clear t0 t1 t2;have hb0:Below w.heap.size w ((w.alloc (.cells #[.int .i64 B.now,.slice a1 B.svcs.length c1,.slice a2 B.cps.length c2,.slice a3 B.bts.length c3] 27)).alloc (.cells #[] 134)):=((Below.refl _ _).alloc (AG _) _).alloc (by simp) _;have hS:B.small:=⟨AH hok.1.1 (by decide),AH hok.1.2.1 (by decide),AH hok.1.2.2 (by decide)⟩;have hZ:B.sized:=⟨AH hok.1.1 (by decide),AH hok.1.2.1 (by decide),AH hok.1.2.2 (by decide),hok.2⟩;have hl:=hS;obtain⟨hl1,hl2,hl3⟩:=hl;go_enter Tryz.func83,Tryz.ntmps83
 go_wp2_with fail
 refine(Aj B a1 a2 a3 c1 c2 c3 _ hS hZ (hB.below hb0)).mono ?_;rintro e w1 ⟨rfl,hb1⟩;have hbw1:=hb0.trans (hb1.mono hb0.size);rw[HS2.out]at hb1;have U0:Hid (w1.heap[w.heap.size]?=some (.cells #[.int .i64 B.now,.slice a1 B.svcs.length c1,.slice a2 B.cps.length c2,.slice a3 B.bts.length c3] 27 (0,0))):=AK hb1 T0.out (by omega);have U1:Hid (w1.heap[w.heap.size+1]?=some (.cells #[] 134 (0,0))):=AK hb1 T1.out (by omega);clear hb1 hb0 T0 T1 HS2;cases hv:AX B
 ·go_wp2
  go_ret;exact⟨w.heap.size+1,0,[],rfl,⟨AI _,λr hr=>absurd hr (by simp)⟩,by omega,⟨rfl,AG _,#[],U1.out,rfl,rfl⟩,λr hr=>absurd hr (by simp),hbw1⟩
 ·have hval:=validB_iff.1 hv
  clear hv;go_wp2
  go_loopw [5,6] (λov iv wr=>∃(k g cap n:Nat) (R:List Ed),k<=B.svcs.length/\iv=.int .i64 k/\ov=.slice (some ⟨g,0,none⟩) n cap/\Hid (n=R.length)/\n<=k/\Hid (∀r∈R,r.1.ends.length<=1000)/\w.heap.size<g/\Below w.heap.size w wr/\Hid (wr.heap[w.heap.size]?=some (.cells #[.int .i64 B.now,.slice a1 B.svcs.length c1,.slice a2 B.cps.length c2,.slice a3 B.bts.length c3] 27 (0,0)))/\Hid (RowIs wr 134 8 g n cap (EH R))/\Hid (∀r∈R,r.1.ends≠[]->∃b,r.2.1=some ⟨b,0,none⟩/\w.heap.size<b/\b≠g/\b<wr.heap.size/\KS wr b 0 r.1.ends)) (λ_ i _=>B.svcs.length - (intOf i).toNat)
  case atStart=>exact⟨0,w.heap.size+1,0,0,[],by omega,rfl,rfl,rfl,AG _,(λr hr=>absurd hr (by simp)),by omega,hbw1,U0,⟨rfl,AG _,#[],U1.out,rfl,rfl⟩,λr hr=>absurd hr (by simp)⟩
  case round=>
   clear hbw1 U0 U1;obtain⟨k,g,cap,n,R,hk,rfl,rfl,HNR,hnk,HR,hg,hb,hbox,hrow,hends⟩:=hrel;have hbl:w.heap.size<wr.heap.size:=(AB hbox.out).1;have hgl:g<wr.heap.size:=hrow.out.lt
   by_cases hlt:k<B.svcs.length
   ·obtain⟨s,hsk⟩:∃s,B.svcs[k]?=some s:=⟨B.svcs[k],by simp[hlt]⟩
    have hmem:=AE hsk;have hne:B.svcs≠[]:=by intro h;rw[h]at hlt;simp at hlt
    obtain⟨b,off,ea,hbs,hat⟩:=hB.1 hne;subst ea;have hsx:=hat k s hsk;have HCA:Hid (∀W:World,BkAt W (some ⟨b,off,none⟩) a2 a3 B->Calls Tryz.prog 99 #[.int .i64 kind,.agg #[.int .i64 B.now,.slice (some ⟨b,off,none⟩) B.svcs.length c1,.slice a2 B.cps.length c2,.slice a3 B.bts.length c3],.agg #[.string s.name,.int .i64 s.version,.bool s.gone,.int .i64 s.image,.int .i64 s.want,.int .i64 s.down,.int .i64 s.over,.int .i64 s.next,.int .i64 s.per,.int .i64 s.least,.int .i64 s.most,.int .i64 s.load,.int .i64 s.cool]] W λe w'=>∃v AA,e=.returned v/\IsAct W.heap.size w' v AA/\AA.ends.length<=1000/\Below W.heap.size W w'):=λW h=>l5Act_bk kind B s _ a2 a3 c1 c2 c3 W hok hval hmem h
    have hz:=hb.size;clear hsk hne hat hmem;have e1:=AJ hbox.out 1 rfl;go_wp2;clear e1;refine An 9 (by kernel_rfl) (by kernel_rfl) ?_;apply AQ
    ·intro V W K A hW hd hA hK
     simp only[pA]at hA;clear hd;obtain rfl:=hA;go_wp2;exact hK.out _ brf
    apply AQ
    ·intro V W K A hW hd hA hK
     simp only[pA]at hA;clear hd;obtain rfl:=hA;have e0:=AJ (AK hW hbox.out hbl) 0 rfl;have e1:=AJ (AK hW hbox.out hbl) 1 rfl;have e2:=AJ (AK hW hbox.out hbl) 2 rfl;have e3:=AJ (AK hW hbox.out hbl) 3 rfl;go_wp2;exact hK.out _ brf
    apply AQ
    ·intro V W K A hW hd hA hK
     simp only[pA]at hA;clear hd;obtain rfl:=hA;go_wp2;exact hK.out _ brf
    apply AQ
    ·intro V W K A hW hd hA hK
     have d2:V 2=_:=hd 2 (by kernel_rfl);simp only[pA,d2]at hA;clear hd d2;obtain rfl:=hA;have e1:=AJ (AK hW hbox.out hbl) 1 rfl;go_wp2;exact hK.out _ brf
    apply AQ
    ·intro V W K A hW hd hA hK
     simp only[pA]at hA;clear hd;obtain rfl:=hA;go_wp2;exact hK.out _ brf
    apply AQ
    ·intro V W K A hW hd hA hK
     have d3:V 3=_:=hd 3 (by kernel_rfl);have d4:V 4=_:=hd 4 (by kernel_rfl);simp only[pA,d3,d4]at hA;clear hd d3 d4;obtain rfl:=hA;go_wp2;exact hK.out _ brf
    apply AQ
    ·intro V W K A hW hd hA hK
     have d5:V 5=_:=hd 5 (by kernel_rfl);simp only[pA,d5]at hA;clear hd d5;obtain rfl:=hA;have hq:=hsx.below (hb.trans (hW.mono hb.size)) hbs;unfold SvcAt at hq;obtain⟨q0,q1,q2,q3,q4,q5,q6,q7,q8,q9,q10,q11,q12⟩:=hq;go_wp2;exact hK.out _ brf
    refine Aq (λv W=>∃AA,IsAct wr.heap.size W v AA/\AA.ends.length<=1000) (λv W W2 ⟨AA,h,h1⟩ hb=>⟨AA,h.below hb,h1⟩) ?_ ?_
    ·intro V W K A hW hd hA hK
     have d0:V 0=_:=hd 0 (by kernel_rfl);have d1:V 1=_:=hd 1 (by kernel_rfl);have d6:V 6=_:=hd 6 (by kernel_rfl);simp only[pA,d0,d1,d6]at hA;clear hd d0 d1 d6;obtain rfl:=hA;have hzW:=hW.size
     go_wp2_with fail
     refine(HCA.out _ (hB.below (hb.trans (hW.mono hb.size)))).mono ?_;rintro e w3 ⟨v,AA,rfl,hA3,hAl,hb3⟩;have HA3:Hid (IsAct wr.heap.size w3 v AA):=hA3.low hzW;clear hA3;go_wp2;exact hK.out _ _ hb3 ⟨AA,HA3.out,hAl⟩
    refine Aq (λv W=>∃p,v=.pointer (some ⟨p,0,none⟩)/\wr.heap.size<=p/\W.heap[p]?=some (.cells #[.string ⟨#[]⟩,.int .i64 0,.int .i64 0,.int .i64 0,.int .i64 0,.bool false,.slice none 0 0,.bool false] 134 (0,0))) (λv W W2 ⟨p,h1,h2,h3⟩ hb=>⟨p,h1,h2,AK hb h3 (AB h3).1⟩) ?_ ?_
    ·intro V W K A hW hd hA hK
     simp only[pA]at hA;clear hd;obtain rfl:=hA;go_wp2;exact hK.out _ _ (AM W _) ⟨_,rfl,hW.size,heap_alloc_new W _⟩
    intro V W A hW hS hA;have d0:V 0=_:=hS 0 (by omega);have d1:V 1=_:=hS 1 (by omega);have d2:V 2=_:=hS 2 (by omega);have d3:V 3=_:=hS 3 (by omega);have d4:V 4=_:=hS 4 (by omega);have d5:V 5=_:=hS 5 (by omega);have d6:V 6=_:=hS 6 (by omega);have d7:(λv W=>∃AA,IsAct wr.heap.size W v AA/\AA.ends.length<=1000) (V 7) W:=hS 7 (by omega);have d8:(λv W=>∃p,v=.pointer (some ⟨p,0,none⟩)/\wr.heap.size<=p/\W.heap[p]?=some (.cells #[.string ⟨#[]⟩,.int .i64 0,.int .i64 0,.int .i64 0,.int .i64 0,.bool false,.slice none 0 0,.bool false] 134 (0,0))) (V 8) W:=hS 8 (by omega);simp only[pA,d0,d1,d2,d3,d4,d5,d6]at hA;clear hS d0 d1 d2 d3 d4 d5 d6;generalize V 7=x7 at d7 hA;generalize V 8=x8 at d8 hA;obtain rfl:=hA;simp only[List.drop_succ_cons,List.drop_zero];obtain⟨AA,⟨ae,ce,rfl,hE⟩,hAl⟩:=d7;have HAL:Hid _:=hAl;clear hAl;obtain⟨p,rfl,hp,hpz⟩:=d8;have hzW:=hW.size;refine AL rfl 134 (.tmp 7) (.tmp 27) rfl p 0 #[.string AA.service,.int .i64 AA.seen,.int .i64 AA.create,.int .i64 AA.want,.int .i64 AA.cool,.bool AA.scale,.slice ae AA.ends.length ce,.bool AA.drop] rfl rfl 134 #[.string ⟨#[]⟩,.int .i64 0,.int .i64 0,.int .i64 0,.int .i64 0,.bool false,.slice none 0 0,.bool false] hpz Tryz.infosAct (AD rfl) (Nf AA ae ce) ?_;intro w2 hz2 on;simp only[Act.put];have hact:Hid (w2.heap[p]?=some (.cells #[.string AA.service,.int .i64 AA.seen,.int .i64 AA.create,.int .i64 AA.want,.int .i64 AA.cool,.bool AA.scale,.slice ae AA.ends.length ce,.bool AA.drop] 134 (0,0))):=hz2;have hbWr:Below wr.heap.size wr w2:=hW.trans (on.below.mono hp)
    have hb2:=hb.trans (hbWr.mono hb.size);have hbox2:Hid _:=AK hbWr hbox.out hbl;have hrow2:Hid (RowIs w2 134 8 g n cap (EH R)):=hrow.out.below hbWr hgl;have hzwa:W.heap.size<=w2.heap.size:=by rw[on.size];exact AG _
    have hzwb:w2.heap.size<=W.heap.size:=by rw[on.size];exact AG _
    have HE2:Hid (AA.ends≠[]->∃ge,ae=some ⟨ge,0,none⟩/\wr.heap.size<=ge/\ge<w2.heap.size/\KS w2 ge 0 AA.ends):=λhn=>by
     obtain⟨ge,h1,h2,h3,h4⟩:=hE hn
     have hgp:ge≠p:=by
      intro e;subst e;obtain⟨x,l,hx⟩:=List.exists_cons_of_ne_nil hn;have hc:=h4 0 x (by rw[hx];rfl);unfold EnAt at hc;have h5:=hc.1;rw[show 0+0*2=0 from rfl,AJ hpz 0 rfl]at h5;cases h5
     exact⟨ge,h1,h2,by omega,λi x hx=>(h4 i x hx).blk (on.other ge hgp)⟩
    have HRE2:Hid (∀r∈R,r.1.ends≠[]->∃b,r.2.1=some ⟨b,0,none⟩/\w.heap.size<b/\b≠g/\b<wr.heap.size/\KS w2 b 0 r.1.ends):=λr hr hn=>by
     obtain⟨b,h1,h2,h3,h4,h5⟩:=hends.out r hr hn;exact⟨b,h1,h2,h3,h4,λi x hx=>(h5 i x hx).blk (hbWr.block b h4)⟩
    clear hE hpz hz2 on hends hrow hbox HCA hW hsx hb;obtain⟨kb,HKB⟩:∃kb,Hid (Lr AA=kb):=⟨_,rfl⟩
    go_upto_region 8 with fail
    go_cut [44] (λv wx=>v=.bool kb/\w2=wx)
    case first=>
     have z2:=AJ hact.out 2 rfl;have z5:=AJ hact.out 5 rfl;have z6:=AJ hact.out 6 rfl;have z7:=AJ hact.out 7 rfl
     by_cases hc1:0<AA.create
     ·have HT:Hid (kb=true):=by unfold Hid;rw[<-HKB.out];unfold Lr;simp[hc1]
      go_wp2;go_meet
      case rel=>exact⟨by rw[HT.out],rfl⟩
     cases hc2:AA.scale
     ·cases hc3:decide (0<AA.ends.length)
      case true=>
       have HT:Hid (kb=true):=by unfold Hid;rw[<-HKB.out];unfold Lr;rw[hc3];simp
       go_wp2;go_meet
       case rel=>exact⟨by rw[HT.out],rfl⟩
      case false=>
       have HT:Hid (kb=AA.drop):=by unfold Hid;rw[<-HKB.out];unfold Lr;rw[decide_eq_false hc1,hc3,hc2];rfl
       go_wp2;go_meet
       case rel=>exact⟨by rw[HT.out],rfl⟩
     ·have HT:Hid (kb=true):=by unfold Hid;rw[<-HKB.out];unfold Lr;rw[hc2];simp
      go_wp2;go_meet
      case rel=>exact⟨by rw[HT.out],rfl⟩
    case rest=>
     obtain⟨rfl,rfl⟩:=hcut;cases kb
     ·go_wp2
      go_roundw
      case rel=>exact⟨k+1,g,cap,n,R,by omega,by go_num,rfl,HNR,by omega,HR,hg,hb2,hbox2,hrow2,λr hr hn=>let ⟨b,h1,h2,h3,h4,h5⟩:=HRE2.out r hr hn;⟨b,h1,h2,h3,by omega,h5⟩⟩
      case measure=>simp[intOf];omega
     ·have q0:=AJ hact.out 0 rfl
      have q1:=AJ hact.out 1 rfl;have q2:=AJ hact.out 2 rfl;have q3:=AJ hact.out 3 rfl;have q4:=AJ hact.out 4 rfl;have q5:=AJ hact.out 5 rfl;have q6:=AJ hact.out 6 rfl;have q7:=AJ hact.out 7 rfl;have hgl2:g<w2.heap.size:=by omega
      go_wp2_with (at_builtin;refine CG rfl (.tmp 45) (.tmp 47) 128 rfl 134 _ 8 88 Tryz.underlying128 Tryz.infoAct rfl g n cap _ rfl (hrow2.out.below (AM w2 _) hgl2) ⟨w2.heap.size,0,none⟩ 1 1 (#[.string AA.service,.int .i64 AA.seen,.int .i64 AA.create,.int .i64 AA.want,.int .i64 AA.cool,.bool AA.scale,.slice ae AA.ends.length ce,.bool AA.drop]:Array Value).toList rfl rfl (DU (heap_alloc_new w2 _)) (λu hu=>(Array.all_eq_true_iff_forall_mem.1 (Nf AA ae ce)) u (by simpa using hu)) (by unfold maxLen;omega) (by omega) ?_;intro g' cap' w4 hg' hrow' hgr)
      have hsz:(w2.alloc (.cells #[.string AA.service,.int .i64 AA.seen,.int .i64 AA.create,.int .i64 AA.want,.int .i64 AA.cool,.bool AA.scale,.slice ae AA.ends.length ce,.bool AA.drop] 134)).heap.size=w2.heap.size+1:=by show(w2.heap.push _).size=_;simp
      have hal:=AM w2 (.cells #[.string AA.service,.int .i64 AA.seen,.int .i64 AA.create,.int .i64 AA.want,.int .i64 AA.cool,.bool AA.scale,.slice ae AA.ends.length ce,.bool AA.drop] 134);have hb4:Below w.heap.size w w4:=(hb2.alloc hb2.size _).trans (DD hgr (by omega) (by rw[hsz];omega));have hbox4:Hid _:=(hgr.block w.heap.size (by rw[hsz];omega) (λe=>by have:=Option.some.inj e;omega)).trans (AK hal hbox2.out (by omega));rw[hsz]at hg';have hz4:=hgr.size;rw[hsz]at hz4;have hkeep:∀q,q<w2.heap.size->q≠g->w4.heap[q]?=w2.heap[q]?:=λq hq hqg=>(hgr.block q (by rw[hsz];omega) (λe=>hqg (Option.some.inj e))).trans (hal.block q hq)
      have HKP:Hid _:=hkeep;clear hkeep hgr hal
      go_roundw
      case rel=>
       refine⟨k+1,g',cap',n+1,R++[(AA,ae,ce)],by omega,by go_num,rfl,by unfold Hid;rw[HNR.out];simp,by omega,(λr hr=>(List.mem_append.1 hr).elim (HR.out r) (λh=>by rw[List.mem_singleton.1 h];exact HAL.out)),by omega,hb4,hbox4,by rw[Oh];exact hrow',λr hr hn=>?_⟩;rcases List.mem_append.1 hr with hr|hr
       ·obtain⟨b,h1,h2,h3,h4,h5⟩:=HRE2.out r hr hn
        exact⟨b,h1,h2,by omega,by omega,λi x hx=>(h5 i x hx).blk (HKP.out b (by omega) h3)⟩
       ·have e:r=(AA,ae,ce):=by simpa using hr
        subst e;obtain⟨ge,h1,h2,h3,h4⟩:=HE2.out hn;exact⟨ge,h1,by omega,by omega,by omega,λi x hx=>(h4 i x hx).blk (HKP.out ge h3 (by omega))⟩
      case measure=>simp[intOf];omega
   ·have e1:=AJ hbox.out 1 rfl
    go_wp2;go_ret;have hn:=HNR.out;subst hn;refine⟨g,cap,R,rfl,⟨AH (m:=B.svcs.length) (by omega) hok.1.1,HR.out⟩,by omega,hrow.out,λr hr hn=>?_,hb⟩;obtain⟨b,h1,h2,h3,h4,h5⟩:=hends.out r hr hn;exact⟨b,h1,by omega,h4,h5⟩
end Go.Proofs.YtbceafpodamnfaaGreat
